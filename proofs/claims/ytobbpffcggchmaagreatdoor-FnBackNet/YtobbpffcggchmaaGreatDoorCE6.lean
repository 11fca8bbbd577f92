import Derived.Test.YtobbpffcggchmaaGreatDoorCE3b
import Derived.Below
import Derived.Test.YtobbpffcggchmaaGreatDoorLWN
import Derived.Test.YtobbpffcggchmaaGreatDoorKe
import Derived.Test.YtobbpffcggchmaaGreatDoorGr
import Derived.Test.YtobbpffcggchmaaGreatDoorCI3
namespace Go.Co
open Go.Conc Go.RowKit
structure Ext (Low:Nat)(O O':Nat->Prop)(w w':World):Prop where
 own:∀b,O b->O' b
 still:∀b,b<Low->w'.heap[b]?=w.heap[b]?
 mine:∀b,O b->w'.heap[b]?=w.heap[b]?
 size:w.heap.size<=w'.heap.size
section
variable {Low : Nat}{w₀ w w' w'' : World}{bs : List (Nat × Obj)}{O O' qF : Nat -> Prop}
theorem Ext.refl (Low:Nat)(O:Nat->Prop)(w:World):Ext Low O O w w:=⟨λ_ h=>h,λ_ _=>rfl,λ_ _=>rfl,A88 _⟩
theorem Ext.trans (h:Ext Low O O' w w')(k:Ext Low O' qF w' w''):Ext Low O qF w w'':=
 ⟨λb d=>k.own b (h.own b d),λb d=>(k.still b d).trans (h.still b d),λb d=>(k.mine b (h.own b d)).trans (h.mine b d),A9f h.size k.size⟩
theorem Keep.ext (h:Keep Low O w w'):Ext Low O O w w':=⟨λ_ h=>h,h.still,h.mine,h.size⟩
theorem Afj {w:World}{b:Nat}(d:b<w.heap.size)(ob:Obj):(w.alloc ob).heap[b]?=w.heap[b]?:=by
 simp only[World.alloc];rw[Bb4 d,Bay d]
theorem Ext.new (hl:Low<=w.heap.size)(e:∀b,O b->b<w.heap.size)(ob:Obj):Ext Low O (λb=>O b\/b=w.heap.size) w (w.alloc ob):=
 ⟨λ_ h=>.inl h,λb d=>Afj (A82 d hl) ob,λb d=>Afj (e b d) ob,by simp only[World.alloc,Bb7];omega⟩
end
structure Held (Low:Nat)(w₀:World)(O:Nat->Prop)(w:World):Prop where
 still:∀b,b<Low->w.heap[b]?=w₀.heap[b]?
 low:Low<=w.heap.size
 up:∀b,O b->b<w.heap.size
 os:w.os=w₀.os
 out:w.output=w₀.output
section
variable {Low : Nat}{w₀ w w' : World}{O O' : Nat -> Prop}
theorem Held.rely (h:Held Low w₀ O w)(d:Keep Low O w w'):Held Low w₀ O w':=⟨λb e=>(d.still b e).trans (h.still b e),A9f h.low d.size,λb e=>A82 (h.up b e) d.size,d.os.trans h.os,d.out.trans h.out⟩
theorem Held.new (h:Held Low w₀ O w)(ob:Obj):Held Low w₀ (λb=>O b\/b=w.heap.size) (w.alloc ob):=
 ⟨λb d=>(Afj (A82 d h.low) ob).trans (h.still b d),by simp only[World.alloc,Bb7];have:=h.low;omega,λb d=>by
  simp only[World.alloc,Bb7];rcases d with d | d
  ·have:=h.up b d;omega
  ·omega,h.os,h.out⟩
theorem Held.down (h:Held Low w₀ O w){b:Nat}(d:b<Low)(k:Nat):w.cell? ⟨b,k,none⟩=w₀.cell? ⟨b,k,none⟩:=by
 simp only[World.cell?,h.still b d]
theorem Held.ext (h:Held Low w₀ O w)(ob:Obj):Ext Low O (λb=>O b\/b=w.heap.size) w (w.alloc ob):=Ext.new h.low h.up ob
theorem Ext.cell (h:Ext Low O O' w w'){b:Nat}(d:O b\/b<Low)(k:Nat):w'.cell? ⟨b,k,none⟩=w.cell? ⟨b,k,none⟩:=by
 have :=d.elim (h.mine b) (h.still b);simp only[World.cell?,this]
theorem Ago (w:World)(cs:Array Value)(ty:TypeId)(k:Nat):(w.alloc (.cells cs ty)).cell? ⟨w.heap.size,k,none⟩=cs[k]?:=by
 have:(w.alloc (.cells cs ty)).heap[w.heap.size]?=some (.cells cs ty):=by simp only[World.alloc];exact Bby
 simp only[World.cell?,this];rfl
theorem Gs {τ:Type}{P:Program}{main:Bool}{pre:τ->World->Prop}{ok:τ->(Nat->Prop)->World->Goroutine->Prop}{fn:FuncId}{Q:Vw τ}{a:Act}{x:τ}(T:OkL P main Low pre ok){ops:Array Oper}{i:Nat}{rest:List Nat}{o:Oper}{f:FuncId}{args:Array Operand}{e:Array TypeId}{vals:Array Value}{Post:Value->τ->(Nat->Prop)->World->Prop}
  (g:ops[i]?=some o) (m:Region.wanted o (yielded ops a.tmps)=true) (k:o.op=.call {callee:=.value (.func f),args,argTypes:=e})
  (p:Lh P ok f vals x O w Post) (n:args.map a.eval=vals) (h:∀v d O' w',Post v d O' w'->Ud ok fn ops rest Q (a.put o.dst v) d O' w'):Ud ok fn ops (i::rest) Q a x O w:=
 Ax2 T g m k (by rw[n];exact p) h
theorem boxed {w₁:World}(hF:Held Low w₀ O w)(e:Keep Low O w w₁)(cs:Array Value)(ty:TypeId):
  ∃d,d=(λb=>O b\/b=w₁.heap.size)/\Ext Low O d w (w₁.alloc (.cells cs ty))/\Held Low w₀ d (w₁.alloc (.cells cs ty))/\d w₁.heap.size/\Low<=w₁.heap.size/\
   ∀W,Keep Low d (w₁.alloc (.cells cs ty)) W->∀k,W.cell? ⟨w₁.heap.size,k,none⟩=cs[k]?:=
 ⟨_,rfl,e.ext.trans ((hF.rely e).ext _),(hF.rely e).new _, .inr rfl,(hF.rely e).low,λ_W f k=>(f.ext.cell (.inl (.inr rfl)) k).trans (Ago _ _ _ _)⟩
end
section
variable {τ : Type}{P : Program}{main : Bool}{Low : Nat}{pre : τ -> World -> Prop}{ok : τ -> (Nat -> Prop) -> World -> Goroutine -> Prop}{fn : FuncId}{Q : Vw τ}{a : Act}{x : τ}{O : Nat -> Prop}{w w₀ : World}{ops : Array Oper}{i : Nat}{rest : List Nat}{o : Oper}
theorem kB (hF:Held Low w₀ O w)(cs:Array Value)(ty:TypeId)
  (h:∀O1 W1 b,Ext Low O O1 w W1->Held Low w₀ O1 W1->O1 b->Low<=b->Hid (∀W,Keep Low O1 W1 W->∀k,W.cell? ⟨b,k,none⟩=cs[k]?)->Ud ok fn ops rest Q (a.put o.dst (.pointer (some ⟨b,0,none⟩))) x O1 W1)
  (ho:ops[i]?=some o:=by rfl) (hw:Region.wanted o (yielded ops a.tmps)=true:=by rfl) (T:OkL P main Low pre ok:=by first | exact Bd _ _ _ | exact Bj _ _ _) (he:∀w₁:World,(execOp a.eval o).events P w₁ #[]=#[]:=by(intro _;simp[go_sem]))
  (hr:∀(w₁:World) (K:Act->World->Prop),K (a.put o.dst (.pointer (some ⟨w₁.heap.size,0,none⟩))) (w₁.alloc (.cells cs ty))->uponK o a K ((execOp a.eval o).run P w₁):=by(intro w₁ K hK;go_simp;exact hK)):Ud ok fn ops (i::rest) Q a x O w:=by
 refine Na T ho hw he λw₁ hR K hK=>hr w₁ K (hK _ _ ?_)
 obtain⟨O1,eO,h1,h2,h3,h4,h5⟩:=boxed hF hR cs ty;rw[<-eO];exact h O1 _ _ h1 h2 h3 h4 h5
theorem Ai1 {d n:Nat->Prop}{e g:World}{b:Nat}{f:Nat->Option Value}(H:Hid (∀W,Keep Low d e W->∀k,W.cell? ⟨b,k,none⟩=f k))(h:Ext Low d n e g)(m:d b):Hid (∀W,Keep Low n g W->∀k,W.cell? ⟨b,k,none⟩=f k):=λ_ p k=>(p.ext.cell (.inl (h.own _ m)) k).trans ((h.cell (.inl m) k).trans (H _ (Keep.refl _ _ _) k))
end
structure Put (b:Nat)(w w':World):Prop where
 rest:∀x,x≠b->w'.heap[x]?=w.heap[x]?
 size:w'.heap.size=w.heap.size
 tape:w'.tape=w.tape
 os:w'.os=w.os
 out:w'.output=w.output
theorem Put.refl (b:Nat)(w:World):Put b w w:=⟨λ_ _=>rfl,rfl,rfl,rfl,rfl⟩
theorem Put.set {b:Nat}{w w':World}(h:Put b w w')(o:Nat)(v:Value):Put b w (w'.setCell ⟨b,o,none⟩ v):=by
 refine⟨λx d=>?_,?_,h.tape,h.os,h.out⟩
 ·rw[<-h.rest x d]
  simp only[World.setCell];rw[Ba9];have:¬b=x:=λe=>d e.symm
  simp[this]
 ·rw[<-h.size];simp[World.setCell]
section
variable {τ : Type}{P : Program}{main : Bool}{Low : Nat}{pre : τ -> World -> Prop}{ok : τ -> (Nat -> Prop) -> World -> Goroutine -> Prop}{fn : FuncId}{Q : Vw τ}{a : Act}{x : τ}{O : Nat -> Prop}{w : World}
variable {ops : Array Oper}{i : Nat}{rest : List Nat}{o : Oper}
theorem W9 (T:OkL P main Low pre ok)(b:Nat)(q:O b)(m:ops[i]?=some o)(n:Region.wanted o (yielded ops a.tmps)=true)
  (k:∀w₁,Keep Low O w w₁->∀e∈(execOp a.eval o).events P w₁ #[],EvO Low O e)
  (h:∀w₁,Keep Low O w w₁->∀K:Act->World->Prop,(∀f w',Put b w₁ w'->Ud ok fn ops rest Q f x O w'->K f w')->uponK o a K ((execOp a.eval o).run P w₁)):Ud ok fn ops (i::rest) Q a x O w:=by
 refine Xa T m n λw₁ g _ K p=>?_
 have:=h w₁ g (λf w'=>Put b w₁ w'/\Ud ok fn ops rest Q f x O w') λf w' d h=>⟨d,h⟩
 refine uponK_mono (λf w' h=>?_) this;obtain⟨d,h⟩:=h;have e:grown O w₁ w'=O:=by
  funext y;apply propext;simp only[grown,d.size];constructor
  ·rintro(h | h)
   ·exact h
   ·omega
  ·exact .inl
 refine p _ _ ⟨⟨λy _ t=>d.rest y (λe=>t (e ▸ q)),Nat.le_of_eq d.size.symm,d.tape,d.os,d.out,λr s=>?_⟩,?_⟩
 ·rw[e];exact .inl (k _ g r (mem_listed s))
 ·rw[e];exact h
end
theorem A4q {τ:Type}{ok:τ->(Nat->Prop)->World->Goroutine->Prop}{fn:FuncId}{Q:Vw τ}{a:Act}{x:τ}{O:Nat->Prop}{w:World}{c:Code}{N:Act->τ->(Nat->Prop)->World->Prop}(M:Act->τ->(Nat->Prop)->World->Prop)
  (h:WpK ok fn c (U5 M Q) a x O w) (g:∀d f O' w',M d f O' w'->N d f O' w'):WpK ok fn c (U5 N Q) a x O w:=
 h.mono λe d f O' w' q=>by cases e<;>first | exact g _ _ _ _ q | exact q
theorem events_store_slice {P:Program}{w:World}{es:Array Event}{a:Addr}{m:Mode}(p:Option Addr)(n c:Nat):(store a (.slice p n c) m).events P w es=storedEv P w es a (.slice p n c) m:=events_store P w es a _ m rfl
section
variable {cs:Array Value}{ty:TypeId}{w₁:World}
variable {Low b : Nat}{w₀ w w' W : World}{O O' : Nat -> Prop}
theorem Ext.put (h:Ext Low O O' W w)(e:Put b w w')(hl:Low<=b)(f:∀x,O x->x≠b):Ext Low O O' W w':=
 ⟨h.own,λx d=>(e.rest x omz).trans (h.still x d),λx d=>(e.rest x (f x d)).trans (h.mine x d),A9f h.size (Nat.le_of_eq e.size.symm)⟩
theorem Held.put (h:Held Low w₀ O w)(d:Put b w w')(hl:Low<=b):Held Low w₀ O w':=
 ⟨λx e=>(d.rest x omz).trans (h.still x e),by rw[d.size];exact h.low,λx e=>by rw[d.size];exact h.up x e,d.os.trans h.os,d.out.trans h.out⟩
theorem Ext.rely (h:Ext Low O O' w W)(d:Keep Low O' W w₁):Ext Low O O' w w₁:=h.trans d.ext
theorem Am0 (hF:Held Low w₀ O w)(f:Keep Low O w w₁)(cs:Array Value)(ty:TypeId):
  ∃d,d=(λb=>O b\/b=w₁.heap.size)/\Ext Low O d w (w₁.alloc (.cells cs ty))/\Held Low w₀ d (w₁.alloc (.cells cs ty))/\d w₁.heap.size/\Low<=w₁.heap.size/\(∀x,O x->x≠w₁.heap.size)/\
   (w₁.alloc (.cells cs ty)).heap[w₁.heap.size]?=some (.cells cs ty):=by
 obtain⟨d,e,h,n,m,g,_⟩:=boxed hF f cs ty;refine⟨d,e,h,n,m,g,λx k=>?_,?_⟩
 ·have:=(hF.rely f).up x k
  omega
 ·simp only[World.alloc];exact Bby
theorem cell_of_heap {w:World}{b:Nat}{d:Nat × Nat}(h:w.heap[b]?=some (.cells cs ty d))(k:Nat):w.cell? ⟨b,k,none⟩=cs[k]?:=by
 simp only[World.cell?,h];rfl
theorem frozen_of_heap {w:World}{b:Nat}(h:w.heap[b]?=some (.cells cs ty))(k:Nat):w.frozen? ⟨b,k,none⟩=false:=by
 simp[World.frozen?,h]
theorem heap_setCell {w:World}{b:Nat}{d:Nat × Nat}(h:w.heap[b]?=some (.cells cs ty d))(o:Nat)(v:Value):(w.setCell ⟨b,o,none⟩ v).heap[b]?=some (.cells (cs.setIfInBounds o v) ty d):=by
 simp only[World.setCell];rw[Ba9,if_pos rfl,h];rfl
end
end Go.Co
namespace Stil
def O6 (c:Int):F7:=⟨c,⟨0,[]⟩⟩
def Awl (k:Int)(n:Net)(l:List F7):List F7:=if n.kind=1 then [⟨k,n.one⟩] else l++[O6 (k+2)]
def A5f (k:Int)(o:Elem)(kids:List Net)(d:List (List F7)):List F7:=
 if k=1 then [⟨1,o⟩] else if k=4 then d.headD []++[O6 6] else d.headD []++((List.zipWith (Awl k) kids d).drop 1).flatten
def Az:Net->List F7
 | ⟨k,o,kids⟩=>A5f k o kids (kids.map Az)
theorem Abg (k:Int)(o:Elem)(kids:List Net):Az ⟨k,o,kids⟩=A5f k o kids (kids.map Az):=by rw[Az]
def Dq (k:Int)(n:Net):List F7:=Awl k n (Az n)
theorem Jp (o:Elem)(kids:List Net):Az ⟨1,o,kids⟩=[⟨1,o⟩]:=by rw[Abg];rfl
theorem Jq (o:Elem)(x:Net)(r:List Net):Az ⟨4,o,x::r⟩=Az x++[O6 6]:=by rw[Abg];rfl
theorem H7 {k:Int}(o:Elem)(x:Net)(r:List Net)(h1:k≠1)(d:k≠4):Az ⟨k,o,x::r⟩=Az x++(r.map (Dq k)).flatten:=by
 rw[Abg];unfold A5f;rw[if_neg h1,if_neg d,A9l,List.headD_cons,Bcj,List.drop_succ_cons,Bce,List.zipWith_map_right,List.zipWith_self];rfl
theorem Iz (k:Int)(n:Net)(h:n.kind=1):Dq k n=[⟨k,n.one⟩]:=if_pos h
theorem Hg (k:Int)(n:Net)(h:n.kind≠1):Dq k n=Az n++[O6 (k+2)]:=if_neg h
def Ir (n:Net):List F7:=((Ij n).map (Dq 2)).flatten
def Hz (n i:Nat):List F7:=if n=1 then [] else if i=0 then [O6 7] else if i+1=n then [O6 9] else [O6 8]
def Vr (cs:List Elem):List F7:=cs.map (λc=>⟨10,c⟩)
def A2u (n i:Nat)(a:Arm)(t:List F7):List F7:=Hz n i++(Ir a.net++t)
def A33 (cs:List Elem)(kids:List Arm)(d:List (List F7)):List F7:=
 Vr cs++((List.zipWith (λ(a:Arm) t=>(a,t)) kids d).mapIdx (λi p=>A2u kids.length i p.1 p.2)).flatten
def Iu:Arm->List F7
 | ⟨_,cs,kids⟩=>A33 cs kids (kids.map Iu)
def Tz (n i:Nat)(a:Arm):List F7:=A2u n i a (Iu a)
theorem U6 (n:Net)(cs:List Elem)(kids:List Arm):Iu ⟨n,cs,kids⟩=Vr cs++(kids.mapIdx (λi a=>Tz kids.length i a)).flatten:=by
 rw[Iu];unfold A33;congr 2;apply List.ext_getElem
 ·simp
 ·intro i d e
  simp[Tz]
def J9 (a:Arm):List F7:=Az a.net++(Iu a++[O6 11])
def Nr (l:List Arm):List F7:=((Bh l).map J9).flatten
end Stil
namespace Go.Proofs.YtobbpffcggchmaaGreatDoor
open Tryz
open Go.RowKit Go.Sort Go.BigFrame
structure MI where
 code:Int
 e:Fg
def MI.val (m:MI):Value:=.agg #[.int .i64 m.code, .int .i64 m.e.op,m.e.av]
def MI.inst (m:MI):Stil.F7:=⟨m.code,m.e.elem⟩
def mi0 (k:Int):MI:=⟨k,⟨0,[], .slice none 0 0⟩⟩
def MI.cells (m:MI):List Value:=[.int .i64 m.code, .int .i64 m.e.op,m.e.av]
def Eu (l:List MI):List Value:=l.flatMap MI.cells
theorem Alk (l:List MI)(m:MI):Eu (l++[m])=Eu l++m.cells:=by simp[Eu]
open Stil
open Go.Conc Go.Co
variable {Low c : Nat}
theorem Ho {τ:Type}{P:Program}{ok:τ->(Nat->Prop)->World->Goroutine->Prop}{f:FuncId}{F:Func}{d:Code}{args:Array Value}{x:τ}{O:Nat->Prop}{w:World}{Post:Value->τ->(Nat->Prop)->World->Prop}
  (e:P.funcs[f]?=some F) (k:(F.name== "runtime.NumGoroutine")=false) (g:F.body=some d) (h:WpK ok f d (Am1 P F Post) {tmps:=args++Array.replicate (F.ntmps - args.size) undef,defers:=[]} x O w):Lh P ok f args x O w Post:=⟨F,d,e,k,g,h⟩
def v0 (c:Int):Value:=.agg #[.int .i64 c, .int .i64 0, .slice none 0 0]
set_option maxRecDepth 100000 in
set_option maxHeartbeats 1000000 in
theorem A7r (n i:Nat)(hi:i<n)(C:n<=1000000)(vs:List Value)(O:Nat->Prop)(w:World):
  Lh prog (okS prog Low c) 108 #[.chan (some c), .int .i64 i, .int .i64 n] ((Hz n i).map (λx=>v0 x.code)++vs) O w λ_ y O' w'=>y=vs/\O'=O/\w'=w:=by
 have m:=resultsC_none (P:=prog) (fn:=Tryz.f108) rfl;by_cases g:n=1
 ·have u:((n:Int)==1)=true:=by simp[g]
  have d:Hz n i=[]:=by simp[Hz,g]
  rw[d,A97,A9u];clear d;refine Ho func108 rrz rfl ?_;simp only[ntmps108,A86,A84,A85,Nat.reduceAdd,Nat.reduceSub,A9w,A9x,A92,A9z,A9u,A9t];refine kW ?_;exact⟨rfl,_,m _,rfl,rfl,rfl⟩
 have u:((n:Int)==1)=false:=by rw[A95];omega
 by_cases q:i=0
 ·have s:((i:Int)==0)=true:=by simp[q]
  have d:Hz n i=[O6 7]:=by simp[Hz,g,q]
  rw[d,A9l,A97,A9t,A9u];clear d;simp only[v0,O6];refine Ho func108 rrz rfl ?_;simp only[ntmps108,A86,A84,A85,Nat.reduceAdd,Nat.reduceSub,A9w,A9x,A92,A9z,A9u,A9t];refine kW ?_;exact⟨rfl,_,m _,rfl,rfl,rfl⟩
 have s:((i:Int)==0)=false:=by rw[A95];omega
 have B:IntKind.i64.wrap ((n:Int) - 1)=(n:Int) - 1:=by rw[IntKind.wrap_i64];omega
 by_cases r:i+1=n
 ·have A:((i:Int)==(n:Int) - 1)=true:=by rw[Bbk];omega
  have d:Hz n i=[O6 9]:=by simp[Hz,g,q,r]
  rw[d,A9l,A97,A9t,A9u];clear d;simp only[v0,O6];refine Ho func108 rrz rfl ?_;simp only[ntmps108,A86,A84,A85,Nat.reduceAdd,Nat.reduceSub,A9w,A9x,A92,A9z,A9u,A9t];refine kW ?_;exact⟨rfl,_,m _,rfl,rfl,rfl⟩
 have A:((i:Int)==(n:Int) - 1)=false:=by rw[A95];omega
 have d:Hz n i=[O6 8]:=by simp[Hz,g,q,r]
 rw[d,A9l,A97,A9t,A9u];clear d;simp only[v0,O6];refine Ho func108 rrz rfl ?_;simp only[ntmps108,A86,A84,A85,Nat.reduceAdd,Nat.reduceSub,A9w,A9x,A92,A9z,A9u,A9t];refine kW ?_;exact⟨rfl,_,m _,rfl,rfl,rfl⟩
end Go.Proofs.YtobbpffcggchmaaGreatDoor
set_option maxHeartbeats 4000000
set_option maxRecDepth 100000
namespace Go.Proofs.YtobbpffcggchmaaGreatDoor
open Tryz
open Go.RowKit Go.Sort Go.BigFrame Go.Conc Go.Co
variable {Low c : Nat}
theorem A8s (n:Nat):((n:Int)==0)=(n==0):=by rw[Baf,Bbk,Bbk];omega
theorem A0e (op:Int)(a:Option Addr)(d cap:Nat)(_h:d<=1048576)(w₀:World)(vs:List Value)(O:Nat->Prop)(w:World)(hF:Held Low w₀ O w):
  Lh prog (okS prog Low c) 75 #[.agg #[.int .i64 op, .slice a d cap]] vs O w λv y O' w'=>v=.bool (op==0 && d==0)/\y=vs/\Ext Low O O' w w'/\Held Low w₀ O' w':=by
 have q:=resultsC_tmp (P:=prog) (fn:=Tryz.f75) rfl;by_cases r:op=0
 ·subst r
  refine Ho func75 rrz rfl ?_;simp only[ntmps75,A86,A84,A85,Nat.reduceAdd,Nat.reduceSub,A9w,A9x,A92,A9z,A9u,A9t];refine J6 (Bd _ _ _) ?_
  (refine Ez (Bd _ _ _) ?_;simp only[A86,A84,A85,Nat.reduceAdd,A9c,List.range,List.range.loop])
  refine kB hF #[.int .i64 0, .slice a d cap] 27 λO1 W1 s g m u A n=>?_
  try walk_nrm
  have _Y:=cs2 n;refine kW ?_;clear _Y;exact⟨rfl,_,q _,by simp[A8s],rfl,g,m⟩
 ·have h1:(op==0)=false:=by rw[A95];exact r
  refine Ho func75 rrz rfl ?_;simp only[ntmps75,A86,A84,A85,Nat.reduceAdd,Nat.reduceSub,A9w,A9x,A92,A9z,A9u,A9t];refine J6 (Bd _ _ _) ?_
  (refine Ez (Bd _ _ _) ?_;simp only[A86,A84,A85,Nat.reduceAdd,A9c,List.range,List.range.loop])
  refine kB hF #[.int .i64 op, .slice a d cap] 27 λO1 W1 s g m u A n=>?_
  try walk_nrm
  have _Y:=cs2 n;refine kW ?_;clear _Y;exact⟨rfl,_,q _,by simp[h1],rfl,g,m⟩
theorem A3i (k op:Int)(g:Option Addr)(d r:Nat)(A:Option Addr)(m u:Nat)(U:d<=1048576)(_hlk:m<=1048576)(w₀:World)(vs:List Value)(O:Nat->Prop)(w:World)(hF:Held Low w₀ O w):
  Lh prog (okS prog Low c) 62 #[.agg #[.int .i64 k, .int .i64 op, .slice g d r, .slice A m u]] vs O w
   λv C O' w'=>v=.bool ((k==0 && (op==0 && d==0)) && m==0)/\C=vs/\Ext Low O O' w w'/\Held Low w₀ O' w':=by
 have E:=resultsC_tmp (P:=prog) (fn:=Tryz.f62) rfl;by_cases L:k=0
 ·subst L
  have D:Hid (∀O W,Held Low w₀ O W->Lh prog (okS prog Low c) 75 #[.agg #[.int .i64 op, .slice g d r]] vs O W λv C O' w'=>v=.bool (op==0 && d==0)/\C=vs/\Ext Low O O' W w'/\Held Low w₀ O' w'):=λO W h=>A0e op g d r U w₀ vs O W h
  obtain⟨H,J⟩:∃H,H=(op==0 && d==0):=⟨_,rfl⟩
  rw[<-J] at D ⊢;clear J;refine Ho func62 rrz rfl ?_;simp only[ntmps62,A86,A84,A85,Nat.reduceAdd,Nat.reduceSub,A9w,A9x,A92,A9z,A9u,A9t];refine J6 (Bd _ _ _) ?_
  (refine Ez (Bd _ _ _) ?_;simp only[A86,A84,A85,Nat.reduceAdd,A9c,List.range,List.range.loop])
  refine kB hF #[.int .i64 0, .int .i64 op, .slice g d r, .slice A m u] 30 λO1 W1 I B y s R q=>?_
  try walk_nrm
  have _Y:=cs4 q;refine kW ?_;clear _Y;cases H with
  | false=>
   (refine Gs (Bd _ _ _) rfl rrz rfl (D _ _ y) yAi ?_;rintro _ _ M N ⟨rfl,rfl,n,F⟩;try walk_nrm)
   refine kW ?_;exact⟨rfl,_,E _,spz,rfl,B.trans n,F⟩
  | true=>
   (refine Gs (Bd _ _ _) rfl rrz rfl (D _ _ y) yAi ?_;rintro _ _ M N ⟨rfl,rfl,n,F⟩;try walk_nrm)
   replace q:Hid (∀W,Keep Low M N W->∀k,W.cell? ⟨I,k,none⟩=(#[.int .i64 0, .int .i64 op, .slice g d r, .slice A m u]:Array Value)[k]?):=λW V k=>(V.ext.cell (.inl (n.own _ s)) k).trans ((n.cell (.inl s) k).trans (q _ (Keep.refl _ _ _) k))
   replace s:=n.own _ s;have _Y:=cs4 q;refine kW ?_;clear _Y;exact⟨rfl,_,E _,by simp[A8s],rfl,B.trans n,F⟩
 ·have h1:(k==0)=false:=by rw[A95];exact L
  refine Ho func62 rrz rfl ?_;simp only[ntmps62,A86,A84,A85,Nat.reduceAdd,Nat.reduceSub,A9w,A9x,A92,A9z,A9u,A9t];refine J6 (Bd _ _ _) ?_
  (refine Ez (Bd _ _ _) ?_;simp only[A86,A84,A85,Nat.reduceAdd,A9c,List.range,List.range.loop])
  refine kB hF #[.int .i64 k, .int .i64 op, .slice g d r, .slice A m u] 30 λO1 W1 I B y s R q=>?_
  try walk_nrm
  have _Y:=cs4 q;refine kW ?_;clear _Y;exact⟨rfl,_,E _,by simp[h1],rfl,B,y⟩
end Go.Proofs.YtobbpffcggchmaaGreatDoor
namespace Go.Co
open Go.Conc
section
variable {a:Act}{fuel i j:Nat}{l:Array Bool}{o oi:Oper}{v:Value}
variable {τ : Type}{P : Program}{main : Bool}{Low : Nat}{pre : τ -> World -> Prop}{ok : τ -> (Nat -> Prop) -> World -> Goroutine -> Prop}{fn : FuncId}{Q : Vw τ}{x : τ}{O : Nat -> Prop}
variable {ops : Array Oper}{md : Region.Mode}{S : World -> Prop}{last : Nat}
def OpK (P:Program)(Low:Nat)(pre:τ->World->Prop)(fn:FuncId)(ops:Array Oper)(x:τ)(O:Nat->Prop)(i:Nat)(K:Act->World->Prop)(a:Act)(w:World):Prop:=
 match ops[i]? with
 | none=>False
 | some o=>if Region.wanted o (yielded ops a.tmps) then ∀w₁,Keep Low O w w₁->pre x w₁->uponK o a (λd w'=>(Ap3 Low O w₁ w' (listed P fn a o w₁)/\grown O w₁ w'=O)/\K d w') ((execOp a.eval o).run P w₁) else K (a.put o.dst undef) w
theorem Arz {w:World}{K f:Act->World->Prop}(h:∀a w,K a w->f a w)(d:OpK P Low pre fn ops x O i K a w):OpK P Low pre fn ops x O i f a w:=by
 unfold OpK at*;split
 ·simp_all
 ·rename_i o g
  simp only[g] at d;split
  ·rename_i e;simp only[e,if_true] at d;exact λw₁ m k=>uponK_mono (λn w' z=>⟨z.1,h _ _ z.2⟩) (d w₁ m k)
  ·rename_i e;simp only[e] at d;exact h _ _ d
theorem Aoa (T:OkL P main Low pre ok){rest:List Nat}{w:World}(h:OpK P Low pre fn ops x O i (λf w'=>Ud ok fn ops rest Q f x O w') a w):Ud ok fn ops (i::rest) Q a x O w:=by
 unfold OpK at h;split at h
 ·exact h.elim
 ·rename_i o e
  split at h
  ·rename_i d
   refine Xa T e d λw₁ k m K g=>uponK_mono (λf w' z=>?_) (h w₁ k m)
   exact g _ _ ⟨z.1.1,by rw[z.1.2];exact z.2⟩
  ·rename_i d;exact Vb T e (by simpa using d) h
def Qx (P:Program)(Low:Nat)(fn:FuncId)(ops:Array Oper)(S:World->Prop)(O:Nat->Prop)(o:Oper)(v:Value)(a:Act):Prop:=
 (Region.wanted o (yielded ops a.tmps)=true/\∀w,S w->(execOp a.eval o).run P w=.ok (.value v) w/\Ap3 Low O w w (listed P fn a o w))\/(Region.wanted o (yielded ops a.tmps)=false/\v=undef)
theorem Qx.of_same {d:Act}(f:Qx P Low fn ops S O o v a)(e:execOp d.eval o=execOp a.eval o)(g:Region.wanted o (yielded ops d.tmps)=Region.wanted o (yielded ops a.tmps)):Qx P Low fn ops S O o v d:=by
 unfold Qx listed at*;rw[e,g];exact f
variable (P Low pre ok fn ops md S last Q x O)
def Ar1:Nat->Array Bool->Act->World->Prop
 | 0,listed,a,w=>Region.ready md ops listed=[last]/\Ud ok fn ops [last] Q a x O w
 | fuel+1,listed,a,w=>last∉Region.ready md ops listed/\Region.ready md ops listed≠[]/\∀i∈Region.ready md ops listed,OpK P Low pre fn ops x O i (λd w'=>S w'/\Ar1 fuel (listed.setIfInBounds i true) d w') a w
variable {P Low pre ok fn ops md S last Q x O}
theorem Ar1.rely (T:OkL P main Low pre ok)(e:∀u v,S u->Keep Low O u v->S v):
  ∀(fuel:Nat) (listed:Array Bool) (a:Act) (w w₁:World),Ar1 P Low pre ok fn Q x O ops md S last fuel listed a w->Keep Low O w w₁->Ar1 P Low pre ok fn Q x O ops md S last fuel listed a w₁
 | 0,_,_,_,_,h,r=>⟨h.1,h.2.rely T r⟩
 | fuel+1,listed,a,w,w₁,h,r=>⟨h.1,h.2.1,λi hi=>by
   have:=h.2.2 i hi
   unfold OpK at*;split
   ·simp_all
   ·rename_i o f
    simp only[f] at this;split
    ·rename_i d;simp only[d,if_true] at this;exact λk g=>this k (r.trans g)
    ·rename_i d;simp only[d] at this;exact⟨e _ _ this.1 r,Ar1.rely T e fuel _ _ _ _ this.2 r⟩⟩
theorem Au6 (T:OkL P main Low pre ok):∀(fuel t:Nat) (listed:Array Bool) (a:Act) (w:World),Ar1 P Low pre ok fn Q x O ops md S last fuel listed a w->
  Ud ok fn ops (Region.linearise.go md ops (fuel+1) t listed []) Q a x O w:=by
 intro fuel;induction fuel with
 | zero=>
  intro t listed a w h;simp only[Region.linearise.go]
  change Ud ok fn ops (match (Region.ready md ops listed)[t % (Region.ready md ops listed).length]? with
   | some i=>Region.linearise.go md ops 0 (t / (Region.ready md ops listed).length) (listed.setIfInBounds i true) [i]
   | none=>[].reverse) Q a x O w
  rw[h.1];simp[Nat.mod_one,Region.linearise.go];exact h.2
 | succ fuel m=>
  intro t listed a w h;obtain⟨_,f,g⟩:=h;rw[Region.linearise.go]
  change Ud ok fn ops (match (Region.ready md ops listed)[t % (Region.ready md ops listed).length]? with
   | some i=>Region.linearise.go md ops (fuel+1) (t / (Region.ready md ops listed).length) (listed.setIfInBounds i true) [i]
   | none=>[].reverse) Q a x O w
  cases hi:(Region.ready md ops listed)[t % (Region.ready md ops listed).length]? with
  | none=>
   exfalso;apply f;cases k:Region.ready md ops listed with
   | nil=>rfl
   | cons y d=>
    rw[k] at hi;have e:t % (y::d).length<(y::d).length:=Nat.mod_lt _ spz;simp at hi;simp at e;omega
  | some i=>
   simp only[];rw[linearise_go_acc,List.reverse_singleton,List.singleton_append];exact Aoa T (Arz (λn w' z=>m _ _ n w' z.2) (g i (Baz hi)))
theorem Qx.opK (g:∀u v,S u->Keep Low O u v->S v)(hi:ops[i]?=some o)(m:Qx P Low fn ops S O o v a){K:Act->World->Prop}(k:∀a u v,K a u->Keep Low O u v->K a v){w:World}(hS:S w)(h:K (a.put o.dst v) w):
  OpK P Low pre fn ops x O i K a w:=by
 unfold OpK;simp only[hi];rcases m with⟨e,f⟩ | ⟨e,rfl⟩
 ·simp only[e,if_true]
  intro w₁ d _;rw[(f w₁ (g _ _ hS d)).1];exact⟨⟨(f w₁ (g _ _ hS d)).2,Jg _ _⟩,k _ _ _ h d⟩
 ·simp only[e,A89,Bam];exact h
theorem A0n {d:Oper}(y:ops[j]?=some d)(q:oi.apart ops d=true)(A:∀cs b,oi.op≠.select cs b)(s:∀cs b,d.op≠.select cs b){K:Act->World->Prop}{w:World}
  (e:Qx P Low fn ops S O oi v a) (h:OpK P Low pre fn ops x O j K (a.put oi.dst v) w):OpK P Low pre fn ops x O j (λp w'=>Qx P Low fn ops S O oi v p/\K (p.put oi.dst v) w') a w:=by
 obtain⟨k,g,m⟩:=Oper.apart_spec q;have keep:∀(a:Act),Qx P Low fn ops S O oi v a->∀u,Qx P Low fn ops S O oi v (a.put d.dst u):=λa e u=>e.of_same (execOp_put oi A a d.dst u m) (wanted_put oi a d.dst u m)
 unfold OpK at*;simp only[y] at*;rw[wanted_put d a oi.dst v k] at h;split
 ·rename_i f
  simp only[f,if_true] at h;intro w₁ t B;have h:=h w₁ t B;unfold listed at*;rw[execOp_put d s a oi.dst v k] at h;generalize (execOp a.eval d).run P w₁=r at*;cases r with
  | ok n w'=>
   cases n<;>simp only[uponK] at h ⊢
   case value u=>exact⟨h.1,keep a e u,by rw[<-Act.put_comm a v u g];exact h.2⟩
   case skip=>exact⟨h.1,keep a e _,by rw[<-Act.put_comm a v undef g];exact h.2⟩
  | halt z w'=>simp only[uponK] at h
 ·rename_i f
  simp only[f] at h;exact⟨keep a e _,by rw[<-Act.put_comm a v undef g];exact h⟩
def Xr (md:Region.Mode)(ops:Array Oper)(l:Array Bool):Prop:=∀j o,ops[j]?=some o->l.getD j false=true->∀e∈o.after,Region.binds md e=true->l.getD e.on false=true
theorem Ai9 (h:j<l.size):(l.setIfInBounds j true).getD j false=true:=by simp[h]
theorem Yk {k:Nat}(h:j≠k)(d:Bool):(l.setIfInBounds j true).getD k d=l.getD k d:=getD_set_ne d h
theorem Xr.set (h:Xr md ops l)(s:j∈Region.ready md ops l):Xr md ops (l.setIfInBounds j true):=by
 intro k o q g e f p;have key:l.getD e.on false=true:=by
  by_cases m:j=k
  ·subst m
   obtain⟨_,z,r,t⟩:=mem_ready.1 s;rw[q] at r;cases r;exact t e f p
  ·rw[Yk m] at g
   exact h k o q g e f p
 by_cases n:j=e.on
 ·have u:j<l.size:=by
   have y:=(mem_ready.1 s).1;rcases Ba3 j l.size with d | d
   ·exact d
   ·simp[Bbq d] at y
  rw[<-n];exact Ai9 u
 ·rw[Yk n];exact key
def Ajm (md:Region.Mode)(ops:Array Oper)(l:Array Bool):Bool:=(List.range ops.size).all λj=>!(l.getD j false) || ((ops[j]?).all λo=>o.after.toList.all λe=>!(Region.binds md e) || l.getD e.on false)
theorem Afc:Ajm md ops l=true↔Xr md ops l:=by
 unfold Ajm Xr;rw[List.all_eq_true];constructor
 ·intro h j o d k e f g
  have m:=(Array.getElem?_eq_some_iff.1 d).1;have:=h j (List.mem_range.2 m)
  rw[k,d] at this;simp only[Bb5,Bool.false_or,Option.all_some,List.all_eq_true] at this;have:=this e (Array.mem_toList_iff.2 f)
  rw[g] at this;simpa using this
 ·intro h j n
  cases k:l.getD j false with
  | false=>rfl
  | true=>
   simp only[Bb5,Bool.false_or];cases d:ops[j]? with
   | none=>rfl
   | some o=>
    simp only[Option.all_some,List.all_eq_true];intro e f;cases g:Region.binds md e with
    | false=>rfl
    | true=>rw[h j o d k e (Array.mem_toList_iff.1 f) g];rfl
theorem Au7 (T:OkL P main Low pre ok)(t:∀u v,S u->Keep Low O u v->S v)(hi:ops[i]?=some oi)(J:∀(j:Nat) (o:Oper) cs b,ops[j]?=some o->o.op≠.select cs b):
  ∀(fuel:Nat) (listed:Array Bool) (a:Act) (w:World),(∀l:Array Bool,l.size=listed.size->Xr md ops l->l.getD i true=false->last∉Region.ready md ops l)->Xr md ops listed->
   (∀j n,ops[j]?=some n->j≠i->listed.getD j true=false->(∀e∈n.after,Region.binds md e=true->e.on≠i)->oi.apart ops n=true)->
   i∈Region.ready md ops listed->Qx P Low fn ops S O oi v a->S w->
   Ar1 P Low pre ok fn Q x O ops md S last fuel (listed.setIfInBounds i true) (a.put oi.dst v) w->Ar1 P Low pre ok fn Q x O ops md S last (fuel+1) listed a w:=by
 have I:∀fuel listed,∀a u v,(S u/\Ar1 P Low pre ok fn Q x O ops md S last fuel listed a u)->Keep Low O u v->(S v/\Ar1 P Low pre ok fn Q x O ops md S last fuel listed a v):=
  λfuel listed a u v h r=>⟨t _ _ h.1 r,Ar1.rely T t fuel listed a u v h.2 r⟩
 intro fuel;induction fuel with
 | zero=>
  intro listed a w p s _ d q hS H;have E:=p listed rfl s (mem_ready.1 d).1;refine⟨E,λh=>(by rw[h] at d;cases d),λj g=>?_⟩;by_cases f:j=i
  ·subst f;exact q.opK t hi (I _ _) hS ⟨hS,H⟩
  ·have:=ready_mono g f
   rw[H.1] at this;rw[List.mem_singleton.1 this] at g;exact absurd g E
 | succ fuel ih=>
  intro listed a w p s F d q hS H;refine⟨p listed rfl s (mem_ready.1 d).1,λh=>(by rw[h] at d;cases d),λj g=>?_⟩;by_cases f:j=i
  ·subst f;exact q.opK t hi (I _ _) hS ⟨hS,H⟩
  ·have m:=H.2.2 j (ready_mono g f)
   obtain⟨B,n,A,U⟩:=mem_ready.1 g;have V:∀e∈n.after,Region.binds md e=true->e.on≠i:=λe N L X=>by
    have m:=U e N L;have C:=(mem_ready.1 d).1;rw[X] at m;rcases Ba3 i listed.size with z | z
    ·simp[z] at C m;rw[C] at m;cases m
    ·simp[Bbq z] at m
   have Y:=A0n A (F j n A f B V) (λcs b=>J i oi cs b hi) (λcs b=>J j n cs b A) q m;have K:∀k ok,ops[k]?=some ok->k≠i->(listed.setIfInBounds j true).getD k true=false->(∀e∈ok.after,Region.binds md e=true->e.on≠i)->oi.apart ops ok=true:=λk ok hk M G Z=>by
    refine F k ok hk M ?_ Z;by_cases D:j=k
    ·subst D;exact B
    ·rw[getD_set_ne true D] at G;exact G
   refine Arz (λa' w' y=>⟨y.2.1,ih (listed.setIfInBounds j true) a' w' (λl R=>p l (by rw[R];simp)) (s.set g) K (ready_mono d (Ne.symm f)) y.1 y.2.1 ?_⟩) Y;rw[Array.setIfInBounds_comm _ _ f];exact y.2.2
def allB:Nat->List (Array Bool)
 | 0=>[#[]]
 | n+1=>(allB n).flatMap λl=>[l.push false,l.push true]
theorem Aq3:∀(n:Nat) (l:Array Bool),l.size=n->l∈allB n
 | 0,l,h=>by simp[allB];exact Array.size_eq_zero_iff.1 h
 | n+1,l,h=>by
  simp only[allB,List.mem_flatMap];refine⟨l.pop,Aq3 n _ (by simp[h]),?_⟩;have g:l.size≠0:=omz
  have e:l=l.pop.push (l[l.size - 1]'omz):=by
   apply Array.ext
   ·simp;omega
   ·intro i f k
    by_cases hi:i<l.size - 1
    ·rw[Array.getElem_push_lt (by simpa using hi)];simp
    ·have:i=l.size - 1:=by omega
     subst this;rw[Array.getElem_push];simp
  cases d:l[l.size - 1]'omz with
  | false=>rw[d] at e;rw[e];simp
  | true=>rw[d] at e;rw[e];simp
def waits (md:Region.Mode)(ops:Array Oper)(last i n:Nat):Bool:=(allB n).all λl=>!(Ajm md ops l) || (l.getD i true || !(Region.ready md ops l).contains last)
theorem Ar3 {n:Nat}(h:waits md ops last i n=true):∀l:Array Bool,l.size=n->Xr md ops l->l.getD i true=false->last∉Region.ready md ops l:=by
 intro l e g d f;have:=List.all_eq_true.1 h l (Aq3 n l e)
 rw[d,Afc.2 g] at this;simp at this;exact this f
theorem Uz (T:OkL P main Low pre ok)(g:∀u v,S u->Keep Low O u v->S v){listed:Array Bool}{w:World}(hi:ops[i]?=some oi)
  (hl:waits md ops last i listed.size=true) (f:Ajm md ops listed=true) (e:Region.noSelect ops=true) (d:Region.free md ops listed i=true) (hr:(Region.ready md ops listed).contains i=true) (k:Qx P Low fn ops S O oi v a) (hS:S w)
  (h:Ar1 P Low pre ok fn Q x O ops md S last fuel (listed.setIfInBounds i true) (a.put oi.dst v) w):Ar1 P Low pre ok fn Q x O ops md S last (fuel+1) listed a w:=
 Au7 T g hi (Region.noSelect_spec e) fuel listed a w (Ar3 hl) (Afc.1 f) (Region.free_spec hi d) (by simpa using hr) k hS h
theorem Ado (T:OkL P main Low pre ok){d:Nat}{w:World}(S:World->Prop)(last:Nat)(q:P.follows .mixedOrders=true)(g:ops.size=fuel+1)
  (h:∀w₁,Keep Low O w w₁->Ar1 P Low pre ok fn Q x O ops .any S last fuel (Array.replicate ops.size false) a {w₁ with drawn:=w₁.drawn+1}):WpK ok fn (.region d ops true) Q a x O w:=by
 intro b k cs m n f;refine T.own rfl λw₁ r _=>⟨_,_,_,stepG_region_draw,rfl,⟨λ_ _ _=>rfl,A88 _,rfl,rfl,rfl,spz⟩,?_⟩
 have e:grown O w₁ {w₁ with drawn:=w₁.drawn+1}=O:=Jg O w₁;rw[e];have:=Au6 T fuel (w₁.tape w₁.drawn (.order b.fn d)) (Array.replicate ops.size false) a _ (h w₁ r) b k cs m n f
 simp only[Region.schedule,q,Bool.true_or,if_true];simp only[Region.linearise,g] at this ⊢;exact this
end
end Go.Co
