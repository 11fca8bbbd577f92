import Derived.Test.YtmnnkedjoecehaaGreatDoorCE3b
import Derived.Test.YtmnnkedjoecehaaGreatDoorE1
set_option linter.defProp false
set_option maxRecDepth 100000
set_option maxHeartbeats 4000000
namespace Go.Co
open Go.Conc Go.RowKit
structure C2 (Low:Nat)(O O':Nat->Prop)(w w':World):Prop where
 own:∀b,O b->O' b
 still:∀b,b<Low->w'.heap[b]?=w.heap[b]?
 mine:∀b,O b->w'.heap[b]?=w.heap[b]?
 size:w.heap.size<=w'.heap.size
section
variable {Low:Nat}{w₀ w w' w'':World}{bs:List (Nat × Obj)}{O O' vS:Nat -> Prop}
def C2.refl (Low:Nat)(O:Nat->Prop)(w:World):C2 Low O O w w:=⟨λ_ h=>h,λ_ _=>rfl,λ_ _=>rfl,CG _⟩
theorem C2.trans (h:C2 Low O O' w w')(k:C2 Low O' vS w' w''):C2 Low O vS w w'':=
 ⟨λb d=>k.own b (h.own b d),λb d=>(k.still b d).trans (h.still b d),λb d=>(k.mine b (h.own b d)).trans (h.mine b d),CM h.size k.size⟩
def Keep.ext (h:Keep Low O w w'):C2 Low O O w w':=⟨λ_ h=>h,h.still,h.mine,h.size⟩
def PU {w:World}{b:Nat}(d:b<w.heap.size)(ob:Obj):(w.alloc ob).heap[b]?=w.heap[b]?:=by
 simp only[World.alloc];rw[RS d,JQ d]
def C2.new (hl:Low<=w.heap.size)(e:∀b,O b->b<w.heap.size)(ob:Obj):C2 Low O (λb=>O b\/b=w.heap.size) w (w.alloc ob):=
 ⟨λ_ h=>.inl h,λb d=>PU (CB d hl) ob,λb d=>PU (e b d) ob,by simp only[World.alloc,K8];omega⟩
end
structure Held (Low:Nat)(w₀:World)(O:Nat->Prop)(w:World):Prop where
 still:∀b,b<Low->w.heap[b]?=w₀.heap[b]?
 low:Low<=w.heap.size
 up:∀b,O b->b<w.heap.size
 os:w.os=w₀.os
 out:w.output=w₀.output
section
variable {Low:Nat}{w₀ w w':World}{O O':Nat -> Prop}
theorem Held.rely (h:Held Low w₀ O w)(d:Keep Low O w w'):Held Low w₀ O w':=⟨λb e=>(d.still b e).trans (h.still b e),CM h.low d.size,λb e=>CB (h.up b e) d.size,d.os.trans h.os,d.out.trans h.out⟩
theorem Held.new (h:Held Low w₀ O w)(ob:Obj):Held Low w₀ (λb=>O b\/b=w.heap.size) (w.alloc ob):=
 ⟨λb d=>(PU (CB d h.low) ob).trans (h.still b d),by simp only[World.alloc,K8];have:=h.low;omega,λb d=>by
  simp only[World.alloc,K8];rcases d with d | d
  ·have:=h.up b d;omega
  ·omega,h.os,h.out⟩
def Held.down (h:Held Low w₀ O w){b:Nat}(d:b<Low)(k:Nat):w.cell? (AK b k)=w₀.cell? (AK b k):=by
 simp only[World.cell?,h.still b d]
def Held.ext (h:Held Low w₀ O w)(ob:Obj):C2 Low O (λb=>O b\/b=w.heap.size) w (w.alloc ob):=C2.new h.low h.up ob
def C2.cell (h:C2 Low O O' w w'){b:Nat}(d:O b\/b<Low)(k:Nat):w'.cell? (AK b k)=w.cell? (AK b k):=by
 have :=d.elim (h.mine b) (h.still b);simp only[World.cell?,this]
def qT (w:World)(cs:Array Value)(ty:TypeId)(k:Nat):(w.alloc (.cells cs ty)).cell? (AL w k)=cs[k]?:=by
 have:(w.alloc (.cells cs ty)).heap[w.heap.size]?=some (.cells cs ty):=by simp only[World.alloc];exact M8
 simp only[World.cell?,this];rfl
theorem Hg {τ:Type}{P:Program}{main:Bool}{pre:τ->World->Prop}{ok:τ->(Nat->Prop)->World->Goroutine->Prop}{fn:FuncId}{Q:Xx τ}{a:Act}{x:τ}(T:OkL P main Low pre ok){ops:Array Oper}{i:Nat}{rest:List Nat}{o:Oper}{f:FuncId}{args:Array Operand}{h:Array TypeId}{vals:Array Value}{Post:Value->τ->(Nat->Prop)->World->Prop}
  (m:ops[i]?=some o) (k:Region.wanted o (yielded ops a.tmps)=true) (e:o.op=.call {callee:=.value (.func f),args,argTypes:=h})
  (n:Nq P ok f vals x O w Post) (g:args.map a.eval=vals) (p:∀v d O' w',Post v d O' w'->Vw ok fn ops rest Q (a.put o.dst v) d O' w'):Vw ok fn ops (i::rest) Q a x O w:=
 Ay1 T m k e (by rw[g];exact n) p
theorem boxed {w₁:World}(hF:Held Low w₀ O w)(e:Keep Low O w w₁)(cs:Array Value)(ty:TypeId):
  ∃d,d=(λb=>O b\/b=w₁.heap.size)/\C2 Low O d w (w₁.alloc (.cells cs ty))/\Held Low w₀ d (w₁.alloc (.cells cs ty))/\d w₁.heap.size/\Low<=w₁.heap.size/\
   ∀W,Keep Low d (w₁.alloc (.cells cs ty)) W->∀k,W.cell? ⟨w₁.heap.size,k,none⟩=cs[k]?:=
 ⟨_,rfl,e.ext.trans ((hF.rely e).ext _),(hF.rely e).new _, .inr rfl,(hF.rely e).low,λ_W f k=>(f.ext.cell (.inl (.inr rfl)) k).trans (qT _ _ _ _)⟩
end
section
variable {τ:Type}{P:Program}{main:Bool}{Low:Nat}{pre:τ -> World -> Prop}{ok:τ -> (Nat -> Prop) -> World -> Goroutine -> Prop}{fn:FuncId}{Q:Xx τ}{a:Act}{x:τ}{O:Nat -> Prop}{w w₀:World}{ops:Array Oper}{i:Nat}{rest:List Nat}{o:Oper}
theorem kB (hF:Held Low w₀ O w)(cs:Array Value)(ty:TypeId)
  (h:∀O1 W1 b,C2 Low O O1 w W1->Held Low w₀ O1 W1->O1 b->Low<=b->Hid (∀W,Keep Low O1 W1 W->∀k,W.cell? (AK b k)=cs[k]?)->Vw ok fn ops rest Q (a.put o.dst (AH b)) x O1 W1)
  (ho:ops[i]?=some o:=by rfl) (hw:Region.wanted o (yielded ops a.tmps)=true:=by rfl) (T:OkL P main Low pre ok:=by first | exact Ba _ _ _ | exact Be _ _ _) (he:∀w₁:World,(execOp a.eval o).events P w₁ #[]=#[]:=by(intro _;simp[go_sem]))
  (hr:∀(w₁:World) (K:Act->World->Prop),K (a.put o.dst (AH w₁.heap.size)) (w₁.alloc (.cells cs ty))->uponK o a K ((execOp a.eval o).run P w₁):=by(intro w₁ K hK;go_simp;exact hK)):Vw ok fn ops (i::rest) Q a x O w:=by
 refine Og T ho hw he λw₁ hR K hK=>hr w₁ K (hK _ _ ?_)
 obtain⟨O1,eO,h1,h2,h3,h4,h5⟩:=boxed hF hR cs ty;rw[<-eO];exact h O1 _ _ h1 h2 h3 h4 h5
def Hi {d g:Nat->Prop}{h m:World}{b:Nat}{f:Nat->Option Value}(H:Hid (∀W,Keep Low d h W->∀k,W.cell? (AK b k)=f k))(n:C2 Low d g h m)(e:d b):Hid (∀W,Keep Low g m W->∀k,W.cell? (AK b k)=f k):=λ_ p k=>(p.ext.cell (.inl (n.own _ e)) k).trans ((n.cell (.inl e) k).trans (H _ (Keep.refl _ _ _) k))
end
structure EL (b:Nat)(w w':World):Prop where
 rest:∀x,x≠b->w'.heap[x]?=w.heap[x]?
 size:w'.heap.size=w.heap.size
 tape:w'.tape=w.tape
 os:w'.os=w.os
 out:w'.output=w.output
def EL.refl (b:Nat)(w:World):EL b w w:=⟨λ_ _=>rfl,rfl,rfl,rfl,rfl⟩
theorem EL.set {b:Nat}{w w':World}(h:EL b w w')(o:Nat)(v:Value):EL b w (w'.setCell (AK b o) v):=by
 refine⟨λx d=>?_,?_,h.tape,h.os,h.out⟩
 ·rw[<-h.rest x d]
  simp only[World.setCell];rw[JO];have:¬b=x:=λe=>d e.symm
  simp[this]
 ·rw[<-h.size];simp[World.setCell]
section
variable {τ:Type}{P:Program}{main:Bool}{Low:Nat}{pre:τ -> World -> Prop}{ok:τ -> (Nat -> Prop) -> World -> Goroutine -> Prop}{fn:FuncId}{Q:Xx τ}{a:Act}{x:τ}{O:Nat -> Prop}{w:World}
variable {ops:Array Oper}{i:Nat}{rest:List Nat}{o:Oper}
theorem Yt (T:OkL P main Low pre ok)(b:Nat)(m:O b)(r:ops[i]?=some o)(q:Region.wanted o (yielded ops a.tmps)=true)
  (he:∀w₁,Keep Low O w w₁->∀e∈(execOp a.eval o).events P w₁ #[],EvO Low O e)
  (h:∀w₁,Keep Low O w w₁->∀K:Act->World->Prop,(∀f w',EL b w₁ w'->Vw ok fn ops rest Q f x O w'->K f w')->uponK o a K ((execOp a.eval o).run P w₁)):Vw ok fn ops (i::rest) Q a x O w:=by
 refine Yu T r q λw₁ g _ K n=>?_
 have:=h w₁ g (λf w'=>EL b w₁ w'/\Vw ok fn ops rest Q f x O w') λf w' d h=>⟨d,h⟩
 refine uponK_mono (λf w' h=>?_) this;obtain⟨d,h⟩:=h;have e:grown O w₁ w'=O:=by
  funext y;apply propext;simp only[grown,d.size];constructor
  ·rintro(h | h)
   ·exact h
   ·omega
  ·exact .inl
 refine n _ _ ⟨⟨λy _ k=>d.rest y (λe=>k (e ▸ m)),Nat.le_of_eq d.size.symm,d.tape,d.os,d.out,λs p=>?_⟩,?_⟩
 ·rw[e];exact .inl (he _ g s (mem_listed p))
 ·rw[e];exact h
end
theorem jt {τ:Type}{ok:τ->(Nat->Prop)->World->Goroutine->Prop}{fn:FuncId}{Q:Xx τ}{a:Act}{x:τ}{O:Nat->Prop}{w:World}{c:Code}{N:Act->τ->(Nat->Prop)->World->Prop}(M:Act->τ->(Nat->Prop)->World->Prop)
  (h:WpK ok fn c (Xb M Q) a x O w) (g:∀d f O' w',M d f O' w'->N d f O' w'):WpK ok fn c (Xb N Q) a x O w:=
 h.mono λe d f O' w' q=>by cases e<;>first | exact g _ _ _ _ q | exact q
theorem events_store_slice {P:Program}{w:World}{es:Array Event}{a:Addr}{m:Mode}(p:Option Addr)(n c:Nat):(store a (AE p n c) m).events P w es=storedEv P w es a (AE p n c) m:=events_store P w es a _ m rfl
section
variable {cs:Array Value}{ty:TypeId}{w₁:World}
variable {Low b:Nat}{w₀ w w' W:World}{O O':Nat -> Prop}
theorem C2.put (h:C2 Low O O' W w)(e:EL b w w')(hl:Low<=b)(f:∀x,O x->x≠b):C2 Low O O' W w':=
 ⟨h.own,λx d=>(e.rest x AQ).trans (h.still x d),λx d=>(e.rest x (f x d)).trans (h.mine x d),CM h.size (Nat.le_of_eq e.size.symm)⟩
theorem Held.put (h:Held Low w₀ O w)(d:EL b w w')(hl:Low<=b):Held Low w₀ O w':=
 ⟨λx e=>(d.rest x AQ).trans (h.still x e),by rw[d.size];exact h.low,λx e=>by rw[d.size];exact h.up x e,d.os.trans h.os,d.out.trans h.out⟩
def C2.rely (h:C2 Low O O' w W)(d:Keep Low O' W w₁):C2 Low O O' w w₁:=h.trans d.ext
def K2 (hF:Held Low w₀ O w)(f:Keep Low O w w₁)(cs:Array Value)(ty:TypeId):
  ∃d,d=(λb=>O b\/b=w₁.heap.size)/\C2 Low O d w (w₁.alloc (.cells cs ty))/\Held Low w₀ d (w₁.alloc (.cells cs ty))/\d w₁.heap.size/\Low<=w₁.heap.size/\(∀x,O x->x≠w₁.heap.size)/\
   (w₁.alloc (.cells cs ty)).heap[w₁.heap.size]?=some (.cells cs ty):=by
 obtain⟨d,e,m,h,g,k,_⟩:=boxed hF f cs ty;refine⟨d,e,m,h,g,k,λx n=>?_,?_⟩
 ·have:=(hF.rely f).up x n
  omega
 ·simp only[World.alloc];exact M8
def cell_of_heap {w:World}{b:Nat}{d:Nat × Nat}(h:w.heap[b]?=some (.cells cs ty d))(k:Nat):w.cell? (AK b k)=cs[k]?:=by
 simp only[World.cell?,h];rfl
def frozen_of_heap {w:World}{b:Nat}(h:w.heap[b]?=some (.cells cs ty))(k:Nat):w.frozen? (AK b k)=false:=by
 simp[World.frozen?,h]
def heap_setCell {w:World}{b:Nat}{d:Nat × Nat}(h:w.heap[b]?=some (.cells cs ty d))(o:Nat)(v:Value):(w.setCell (AK b o) v).heap[b]?=some (.cells (cs.setIfInBounds o v) ty d):=by
 simp only[World.setCell];rw[JO,if_pos rfl,h];rfl
end
end Go.Co
namespace Stil
def Iw (c:Int):Gf:=⟨c,⟨0,[]⟩⟩
def RI (k:Int)(n:B8)(l:List Gf):List Gf:=if n.kind=1 then [⟨k,n.one⟩] else l++[Iw (k+2)]
def NK (k:Int)(o:Elem)(kids:List B8)(d:List (List Gf)):List Gf:=
 if k=1 then [⟨1,o⟩] else if k=4 then d.headD []++[Iw 6] else d.headD []++((List.zipWith (RI k) kids d).drop 1).flatten
def Bv:B8->List Gf
 | ⟨k,o,kids⟩=>NK k o kids (kids.map Bv)
def OC (k:Int)(o:Elem)(kids:List B8):Bv ⟨k,o,kids⟩=NK k o kids (kids.map Bv):=by rw[Bv]
def Bq (k:Int)(n:B8):List Gf:=RI k n (Bv n)
def Oy (o:Elem)(kids:List B8):Bv ⟨1,o,kids⟩=[⟨1,o⟩]:=by rw[OC];rfl
def Oz (o:Elem)(x:B8)(r:List B8):Bv ⟨4,o,x::r⟩=Bv x++[Iw 6]:=by rw[OC];rfl
def Mc {k:Int}(o:Elem)(x:B8)(r:List B8)(h1:k≠1)(d:k≠4):Bv ⟨k,o,x::r⟩=Bv x++(r.map (Bq k)).flatten:=by
 rw[OC];unfold NK;rw[if_neg h1,if_neg d,CQ,List.headD_cons,ez,List.drop_succ_cons,NA,List.zipWith_map_right,List.zipWith_self];rfl
def Na (k:Int)(n:B8)(h:n.kind=1):Bq k n=[⟨k,n.one⟩]:=if_pos h
def Jq (k:Int)(n:B8)(h:n.kind≠1):Bq k n=Bv n++[Iw (k+2)]:=if_neg h
def Dl (n:B8):List Gf:=((Cj n).map (Bq 2)).flatten
def Ew (n i:Nat):List Gf:=if n=1 then [] else if i=0 then [Iw 7] else if i+1=n then [Iw 9] else [Iw 8]
def Ig (cs:List Elem):List Gf:=cs.map (λc=>⟨10,c⟩)
def IQ (n i:Nat)(a:B9)(t:List Gf):List Gf:=Ew n i++(Dl a.net++t)
def SJ (cs:List Elem)(kids:List B9)(d:List (List Gf)):List Gf:=
 Ig cs++((List.zipWith (λ(a:B9) t=>(a,t)) kids d).mapIdx (λi p=>IQ kids.length i p.1 p.2)).flatten
def C9:B9->List Gf
 | ⟨_,cs,kids⟩=>SJ cs kids (kids.map C9)
def I7 (n i:Nat)(a:B9):List Gf:=IQ n i a (C9 a)
def Xc (n:B8)(cs:List Elem)(kids:List B9):C9 ⟨n,cs,kids⟩=Ig cs++(kids.mapIdx (λi a=>I7 kids.length i a)).flatten:=by
 rw[C9];unfold SJ;congr 2;apply List.ext_getElem
 ·simp
 ·intro i d e
  simp[I7]
def Ea (a:B9):List Gf:=Bv a.net++(C9 a++[Iw 11])
def Ho (l:List B9):List Gf:=((Aq l).map Ea).flatten
end Stil
namespace Go.Proofs.YtmnnkedjoecehaaGreatDoor
open Tryz Go.RowKit Go.Sort Go.BigFrame
structure MI where
 code:Int
 e:Eo
def MI.val (m:MI):Value:=.agg #[AB m.code,AB m.e.op,m.e.av]
def MI.inst (m:MI):Stil.Gf:=⟨m.code,m.e.elem⟩
def mi0 (k:Int):MI:=⟨k,⟨0,[],AG⟩⟩
def MI.cells (m:MI):List Value:=[AB m.code,AB m.e.op,m.e.av]
def Gy (l:List MI):List Value:=l.flatMap MI.cells
theorem si (l:List MI)(m:MI):Gy (l++[m])=Gy l++m.cells:=by simp[Gy]
open Stil
open Go.Conc Go.Co
variable {Low c:Nat}
def Io {τ:Type}{P:Program}{ok:τ->(Nat->Prop)->World->Goroutine->Prop}{f:FuncId}{F:Func}{d:Code}{args:Array Value}{x:τ}{O:Nat->Prop}{w:World}{Post:Value->τ->(Nat->Prop)->World->Prop}
  (g:P.funcs[f]?=some F) (k:(F.name== "runtime.NumGoroutine")=false) (e:F.body=some d) (h:WpK ok f d (ZD P F Post) {tmps:=args++Array.replicate (F.ntmps - args.size) undef,defers:=[]} x O w):Nq P ok f args x O w Post:=⟨F,d,g,k,e,h⟩
def v0 (c:Int):Value:=.agg #[AB c,AB 0,AG]
theorem mh (n i:Nat)(hi:i<n)(B:n<=1000000)(vs:List Value)(O:Nat->Prop)(w:World):
  Nq prog (okS prog Low c) 135 #[.chan (some c),AB i,AB n] ((Ew n i).map (λx=>v0 x.code)++vs) O w λ_ s O' w'=>s=vs/\O'=O/\w'=w:=by
 have q:=resultsC_none (P:=prog) (fn:=Tryz.f135) rfl;by_cases g:n=1
 ·have y:((n:Int)==1)=true:=by simp[g]
  have d:Ew n i=[]:=by simp[Ew,g]
  rw[d,C6,C5];clear d;refine Io func135 Ab rfl ?_;simp only[ntmps135,Cd,CH,CP,Nat.reduceAdd,Nat.reduceSub,DK,DL,DJ,DN,C5,C4];refine kW ?_;exact⟨rfl,_,q _,rfl,rfl,rfl⟩
 have y:((n:Int)==1)=false:=by rw[CS];omega
 by_cases m:i=0
 ·have A:((i:Int)==0)=true:=by simp[m]
  have d:Ew n i=[Iw 7]:=by simp[Ew,g,m]
  rw[d,CQ,C6,C4,C5];clear d;simp only[v0,Iw];refine Io func135 Ab rfl ?_;simp only[ntmps135,Cd,CH,CP,Nat.reduceAdd,Nat.reduceSub,DK,DL,DJ,DN,C5,C4];refine kW ?_;exact⟨rfl,_,q _,rfl,rfl,rfl⟩
 have A:((i:Int)==0)=false:=by rw[CS];omega
 have C:IntKind.i64.wrap ((n:Int) - 1)=(n:Int) - 1:=by rw[IntKind.wrap_i64];omega
 by_cases r:i+1=n
 ·have u:((i:Int)==(n:Int) - 1)=true:=by rw[ED];omega
  have d:Ew n i=[Iw 9]:=by simp[Ew,g,m,r]
  rw[d,CQ,C6,C4,C5];clear d;simp only[v0,Iw];refine Io func135 Ab rfl ?_;simp only[ntmps135,Cd,CH,CP,Nat.reduceAdd,Nat.reduceSub,DK,DL,DJ,DN,C5,C4];refine kW ?_;exact⟨rfl,_,q _,rfl,rfl,rfl⟩
 have u:((i:Int)==(n:Int) - 1)=false:=by rw[CS];omega
 have d:Ew n i=[Iw 8]:=by simp[Ew,g,m,r]
 rw[d,CQ,C6,C4,C5];clear d;simp only[v0,Iw];refine Io func135 Ab rfl ?_;simp only[ntmps135,Cd,CH,CP,Nat.reduceAdd,Nat.reduceSub,DK,DL,DJ,DN,C5,C4];refine kW ?_;exact⟨rfl,_,q _,rfl,rfl,rfl⟩
end Go.Proofs.YtmnnkedjoecehaaGreatDoor
namespace Go.Proofs.YtmnnkedjoecehaaGreatDoor
open Tryz Go.RowKit Go.Sort Go.BigFrame Go.Conc Go.Co
variable {Low c:Nat}
def TI (n:Nat):((n:Int)==0)=(n==0):=by rw[DY,ED,ED];omega
theorem fw (op:Int)(a:Option Addr)(d cap:Nat)(_h:d<=1048576)(w₀:World)(vs:List Value)(O:Nat->Prop)(w:World)(hF:Held Low w₀ O w):
  Nq prog (okS prog Low c) 128 #[.agg #[AB op,AE a d cap]] vs O w λv A O' w'=>v=.bool (op==0 && d==0)/\A=vs/\C2 Low O O' w w'/\Held Low w₀ O' w':=by
 have q:=resultsC_tmp (P:=prog) (fn:=Tryz.f128) rfl;by_cases r:op=0
 ·subst r
  refine Io func128 Ab rfl ?_;simp only[ntmps128,Cd,CH,CP,Nat.reduceAdd,Nat.reduceSub,DK,DL,DJ,DN,C5,C4];refine Lh (Ba _ _ _) ?_
  (refine Gh (Ba _ _ _) ?_;simp only[Cd,CH,CP,Nat.reduceAdd,CV,List.range,List.range.loop])
  refine kB hF #[AB 0,AE a d cap] 46 λO1 W1 s m g u y n=>?_
  try walk_nrm
  have _Y:=cs2 n;refine kW ?_;clear _Y;exact⟨rfl,_,q _,by simp[TI],rfl,m,g⟩
 ·have h1:(op==0)=false:=by rw[CS];exact r
  refine Io func128 Ab rfl ?_;simp only[ntmps128,Cd,CH,CP,Nat.reduceAdd,Nat.reduceSub,DK,DL,DJ,DN,C5,C4];refine Lh (Ba _ _ _) ?_
  (refine Gh (Ba _ _ _) ?_;simp only[Cd,CH,CP,Nat.reduceAdd,CV,List.range,List.range.loop])
  refine kB hF #[AB op,AE a d cap] 46 λO1 W1 s m g u y n=>?_
  try walk_nrm
  have _Y:=cs2 n;refine kW ?_;clear _Y;exact⟨rfl,_,q _,by simp[h1],rfl,m,g⟩
theorem jh (k op:Int)(n:Option Addr)(d r:Nat)(y:Option Addr)(m u:Nat)(R:d<=1048576)(_hlk:m<=1048576)(w₀:World)(vs:List Value)(O:Nat->Prop)(w:World)(hF:Held Low w₀ O w):
  Nq prog (okS prog Low c) 91 #[.agg #[AB k,AB op,AE n d r,AE y m u]] vs O w
   λv C O' w'=>v=.bool ((k==0 && (op==0 && d==0)) && m==0)/\C=vs/\C2 Low O O' w w'/\Held Low w₀ O' w':=by
 have H:=resultsC_tmp (P:=prog) (fn:=Tryz.f91) rfl;by_cases L:k=0
 ·subst L
  have F:Hid (∀O W,Held Low w₀ O W->Nq prog (okS prog Low c) 128 #[.agg #[AB op,AE n d r]] vs O W λv C O' w'=>v=.bool (op==0 && d==0)/\C=vs/\C2 Low O O' W w'/\Held Low w₀ O' w'):=λO W h=>fw op n d r R w₀ vs O W h
  obtain⟨E,N⟩:=AA ((op==0 && d==0))
  rw[<-N] at F ⊢;clear N;refine Io func91 Ab rfl ?_;simp only[ntmps91,Cd,CH,CP,Nat.reduceAdd,Nat.reduceSub,DK,DL,DJ,DN,C5,C4];refine Lh (Ba _ _ _) ?_
  (refine Gh (Ba _ _ _) ?_;simp only[Cd,CH,CP,Nat.reduceAdd,CV,List.range,List.range.loop])
  refine kB hF #[AB 0,AB op,AE n d r,AE y m u] 59 λO1 W1 M B A s U q=>?_
  try walk_nrm
  have _Y:=cs4 q;refine kW ?_;clear _Y;cases E with
  | false=>
   (refine Hg (Ba _ _ _) rfl Ab rfl (F _ _ A) BM ?_;rintro _ _ I J ⟨rfl,rfl,g,D⟩;try walk_nrm)
   refine kW ?_;exact⟨rfl,_,H _,AU,rfl,B.trans g,D⟩
  | true=>
   (refine Hg (Ba _ _ _) rfl Ab rfl (F _ _ A) BM ?_;rintro _ _ I J ⟨rfl,rfl,g,D⟩;try walk_nrm)
   replace q:Hid (∀W,Keep Low I J W->∀k,W.cell? (AK M k)=(#[AB 0,AB op,AE n d r,AE y m u]:Array Value)[k]?):=λW V k=>(V.ext.cell (.inl (g.own _ s)) k).trans ((g.cell (.inl s) k).trans (q _ (Keep.refl _ _ _) k))
   replace s:=g.own _ s;have _Y:=cs4 q;refine kW ?_;clear _Y;exact⟨rfl,_,H _,by simp[TI],rfl,B.trans g,D⟩
 ·have h1:(k==0)=false:=by rw[CS];exact L
  refine Io func91 Ab rfl ?_;simp only[ntmps91,Cd,CH,CP,Nat.reduceAdd,Nat.reduceSub,DK,DL,DJ,DN,C5,C4];refine Lh (Ba _ _ _) ?_
  (refine Gh (Ba _ _ _) ?_;simp only[Cd,CH,CP,Nat.reduceAdd,CV,List.range,List.range.loop])
  refine kB hF #[AB k,AB op,AE n d r,AE y m u] 59 λO1 W1 M B A s U q=>?_
  try walk_nrm
  have _Y:=cs4 q;refine kW ?_;clear _Y;exact⟨rfl,_,H _,by simp[h1],rfl,B,A⟩
end Go.Proofs.YtmnnkedjoecehaaGreatDoor
namespace Go.Co
open Go.Conc
section
variable {a:Act}{fuel i j:Nat}{l:Array Bool}{o oi:Oper}{v:Value}
variable {τ:Type}{P:Program}{main:Bool}{Low:Nat}{pre:τ -> World -> Prop}{ok:τ -> (Nat -> Prop) -> World -> Goroutine -> Prop}{fn:FuncId}{Q:Xx τ}{x:τ}{O:Nat -> Prop}
variable {ops:Array Oper}{md:Region.Mode}{S:World -> Prop}{last:Nat}
def OpK (P:Program)(Low:Nat)(pre:τ->World->Prop)(fn:FuncId)(ops:Array Oper)(x:τ)(O:Nat->Prop)(i:Nat)(K:Act->World->Prop)(a:Act)(w:World):Prop:=
 match ops[i]? with
 | none=>False
 | some o=>if Region.wanted o (yielded ops a.tmps) then ∀w₁,Keep Low O w w₁->pre x w₁->uponK o a (λd w'=>(E3 Low O w₁ w' (listed P fn a o w₁)/\grown O w₁ w'=O)/\K d w') ((execOp a.eval o).run P w₁) else K (a.put o.dst undef) w
theorem eM {w:World}{K f:Act->World->Prop}(h:∀a w,K a w->f a w)(d:OpK P Low pre fn ops x O i K a w):OpK P Low pre fn ops x O i f a w:=by
 unfold OpK at*;split
 ·simp_all
 ·rename_i o m
  simp only[m] at d;split
  ·rename_i e;simp only[e,if_true] at d;exact λw₁ g k=>uponK_mono (λn w' z=>⟨z.1,h _ _ z.2⟩) (d w₁ g k)
  ·rename_i e;simp only[e] at d;exact h _ _ d
theorem uy (T:OkL P main Low pre ok){rest:List Nat}{w:World}(h:OpK P Low pre fn ops x O i (λe w'=>Vw ok fn ops rest Q e x O w') a w):Vw ok fn ops (i::rest) Q a x O w:=by
 unfold OpK at h;split at h
 ·exact h.elim
 ·rename_i o f
  split at h
  ·rename_i d
   refine Yu T f d λw₁ k g K m=>uponK_mono (λe w' z=>?_) (h w₁ k g)
   exact m _ _ ⟨z.1.1,by rw[z.1.2];exact z.2⟩
  ·rename_i d;exact Xk T f (by simpa using d) h
def Tc (P:Program)(Low:Nat)(fn:FuncId)(ops:Array Oper)(S:World->Prop)(O:Nat->Prop)(o:Oper)(v:Value)(a:Act):Prop:=
 (Region.wanted o (yielded ops a.tmps)=true/\∀w,S w->(execOp a.eval o).run P w=.ok (.value v) w/\E3 Low O w w (listed P fn a o w))\/(Region.wanted o (yielded ops a.tmps)=false/\v=undef)
theorem Tc.of_same {d:Act}(f:Tc P Low fn ops S O o v a)(he:execOp d.eval o=execOp a.eval o)(e:Region.wanted o (yielded ops d.tmps)=Region.wanted o (yielded ops a.tmps)):Tc P Low fn ops S O o v d:=by
 unfold Tc listed at*;rw[he,e];exact f
variable (P Low pre ok fn ops md S last Q x O)
def FB:Nat->Array Bool->Act->World->Prop
 | 0,listed,a,w=>Region.ready md ops listed=[last]/\Vw ok fn ops [last] Q a x O w
 | fuel+1,listed,a,w=>last∉Region.ready md ops listed/\Region.ready md ops listed≠[]/\∀i∈Region.ready md ops listed,OpK P Low pre fn ops x O i (λd w'=>S w'/\FB fuel (listed.setIfInBounds i true) d w') a w
variable {P Low pre ok fn ops md S last Q x O}
theorem FB.rely (T:OkL P main Low pre ok)(e:∀u v,S u->Keep Low O u v->S v):
  ∀(fuel:Nat) (listed:Array Bool) (a:Act) (w w₁:World),FB P Low pre ok fn Q x O ops md S last fuel listed a w->Keep Low O w w₁->FB P Low pre ok fn Q x O ops md S last fuel listed a w₁
 | 0,_,_,_,_,h,r=>⟨h.1,h.2.rely T r⟩
 | fuel+1,listed,a,w,w₁,h,r=>⟨h.1,h.2.1,λi hi=>by
   have:=h.2.2 i hi
   unfold OpK at*;split
   ·simp_all
   ·rename_i o k
    simp only[k] at this;split
    ·rename_i d;simp only[d,if_true] at this;exact λg f=>this g (r.trans f)
    ·rename_i d;simp only[d] at this;exact⟨e _ _ this.1 r,FB.rely T e fuel _ _ _ _ this.2 r⟩⟩
theorem Awy (T:OkL P main Low pre ok):∀(fuel t:Nat) (listed:Array Bool) (a:Act) (w:World),FB P Low pre ok fn Q x O ops md S last fuel listed a w->
  Vw ok fn ops (Region.linearise.go md ops (fuel+1) t listed []) Q a x O w:=by
 intro fuel;induction fuel with
 | zero=>
  intro t listed a w h;simp only[Region.linearise.go]
  change Vw ok fn ops (match (Region.ready md ops listed)[t % (Region.ready md ops listed).length]? with
   | some i=>Region.linearise.go md ops 0 (t / (Region.ready md ops listed).length) (listed.setIfInBounds i true) [i]
   | none=>[].reverse) Q a x O w
  rw[h.1];simp[Nat.mod_one,Region.linearise.go];exact h.2
 | succ fuel g=>
  intro t listed a w h;obtain⟨_,e,n⟩:=h;rw[Region.linearise.go]
  change Vw ok fn ops (match (Region.ready md ops listed)[t % (Region.ready md ops listed).length]? with
   | some i=>Region.linearise.go md ops (fuel+1) (t / (Region.ready md ops listed).length) (listed.setIfInBounds i true) [i]
   | none=>[].reverse) Q a x O w
  cases hi:(Region.ready md ops listed)[t % (Region.ready md ops listed).length]? with
  | none=>
   exfalso;apply e;cases k:Region.ready md ops listed with
   | nil=>rfl
   | cons y d=>
    rw[k] at hi;have f:t % (y::d).length<(y::d).length:=Nat.mod_lt _ AU;simp at hi;simp at f;omega
  | some i=>
   simp only[];rw[linearise_go_acc,List.reverse_singleton,List.singleton_append];exact uy T (eM (λm w' z=>g _ _ m w' z.2) (n i (Hv hi)))
theorem Tc.opK (g:∀u v,S u->Keep Low O u v->S v)(hi:ops[i]?=some o)(k:Tc P Low fn ops S O o v a){K:Act->World->Prop}(m:∀a u v,K a u->Keep Low O u v->K a v){w:World}(hS:S w)(h:K (a.put o.dst v) w):
  OpK P Low pre fn ops x O i K a w:=by
 unfold OpK;simp only[hi];rcases k with⟨d,f⟩ | ⟨d,rfl⟩
 ·simp only[d,if_true]
  intro w₁ e _;rw[(f w₁ (g _ _ hS e)).1];exact⟨⟨(f w₁ (g _ _ hS e)).2,J3 _ _⟩,m _ _ _ h e⟩
 ·simp only[d,DU,DC];exact h
theorem f9 {d:Oper}(s:ops[j]?=some d)(q:oi.apart ops d=true)(B:∀cs b,oi.op≠.select cs b)(t:∀cs b,d.op≠.select cs b){K:Act->World->Prop}{w:World}
  (e:Tc P Low fn ops S O oi v a) (h:OpK P Low pre fn ops x O j K (a.put oi.dst v) w):OpK P Low pre fn ops x O j (λp w'=>Tc P Low fn ops S O oi v p/\K (p.put oi.dst v) w') a w:=by
 obtain⟨k,f,m⟩:=Oper.apart_spec q;have keep:∀(a:Act),Tc P Low fn ops S O oi v a->∀u,Tc P Low fn ops S O oi v (a.put d.dst u):=λa e u=>e.of_same (execOp_put oi B a d.dst u m) (wanted_put oi a d.dst u m)
 unfold OpK at*;simp only[s] at*;rw[wanted_put d a oi.dst v k] at h;split
 ·rename_i g
  simp only[g,if_true] at h;intro w₁ y A;have h:=h w₁ y A;unfold listed at*;rw[execOp_put d t a oi.dst v k] at h;generalize (execOp a.eval d).run P w₁=r at*;cases r with
  | ok n w'=>
   cases n<;>simp only[uponK] at h ⊢
   case value u=>exact⟨h.1,keep a e u,by rw[<-Act.put_comm a v u f];exact h.2⟩
   case skip=>exact⟨h.1,keep a e _,by rw[<-Act.put_comm a v undef f];exact h.2⟩
  | halt z w'=>simp only[uponK] at h
 ·rename_i g
  simp only[g] at h;exact⟨keep a e _,by rw[<-Act.put_comm a v undef f];exact h⟩
def Ze (md:Region.Mode)(ops:Array Oper)(l:Array Bool):Prop:=∀j o,ops[j]?=some o->l.getD j false=true->∀e∈o.after,Region.binds md e=true->l.getD e.on false=true
def qe (h:j<l.size):(l.setIfInBounds j true).getD j false=true:=by simp[h]
def TN {k:Nat}(h:j≠k)(d:Bool):(l.setIfInBounds j true).getD k d=l.getD k d:=getD_set_ne d h
theorem Ze.set (h:Ze md ops l)(g:j∈Region.ready md ops l):Ze md ops (l.setIfInBounds j true):=by
 intro k o r s e p f;have key:l.getD e.on false=true:=by
  by_cases q:j=k
  ·subst q
   obtain⟨_,z,m,u⟩:=mem_ready.1 g;rw[r] at m;cases m;exact u e p f
  ·rw[TN q] at s
   exact h k o r s e p f
 by_cases n:j=e.on
 ·have t:j<l.size:=by
   have y:=(mem_ready.1 g).1;rcases E4 j l.size with d | d
   ·exact d
   ·simp[M7 d] at y
  rw[<-n];exact qe t
 ·rw[TN n];exact key
def MN (md:Region.Mode)(ops:Array Oper)(l:Array Bool):Bool:=(List.range ops.size).all λj=>!(l.getD j false) || ((ops[j]?).all λo=>o.after.toList.all λe=>!(Region.binds md e) || l.getD e.on false)
theorem VP:MN md ops l=true↔Ze md ops l:=by
 unfold MN Ze;rw[List.all_eq_true];constructor
 ·intro h j o d g e k f
  have m:=(Array.getElem?_eq_some_iff.1 d).1;have:=h j (List.mem_range.2 m)
  rw[g,d] at this;simp only[K6,Bool.false_or,Option.all_some,List.all_eq_true] at this;have:=this e (Array.mem_toList_iff.2 k)
  rw[f] at this;simpa using this
 ·intro h j n
  cases g:l.getD j false with
  | false=>rfl
  | true=>
   simp only[K6,Bool.false_or];cases d:ops[j]? with
   | none=>rfl
   | some o=>
    simp only[Option.all_some,List.all_eq_true];intro e k;cases f:Region.binds md e with
    | false=>rfl
    | true=>rw[h j o d g e (Array.mem_toList_iff.1 k) f];rfl
theorem Awz (T:OkL P main Low pre ok)(s:∀u v,S u->Keep Low O u v->S v)(hi:ops[i]?=some oi)(J:∀(j:Nat) (o:Oper) cs b,ops[j]?=some o->o.op≠.select cs b):
  ∀(fuel:Nat) (listed:Array Bool) (a:Act) (w:World),(∀l:Array Bool,l.size=listed.size->Ze md ops l->l.getD i true=false->last∉Region.ready md ops l)->Ze md ops listed->
   (∀j n,ops[j]?=some n->j≠i->listed.getD j true=false->(∀e∈n.after,Region.binds md e=true->e.on≠i)->oi.apart ops n=true)->
   i∈Region.ready md ops listed->Tc P Low fn ops S O oi v a->S w->
   FB P Low pre ok fn Q x O ops md S last fuel (listed.setIfInBounds i true) (a.put oi.dst v) w->FB P Low pre ok fn Q x O ops md S last (fuel+1) listed a w:=by
 have F:∀fuel listed,∀a u v,(S u/\FB P Low pre ok fn Q x O ops md S last fuel listed a u)->Keep Low O u v->(S v/\FB P Low pre ok fn Q x O ops md S last fuel listed a v):=
  λfuel listed a u v h r=>⟨s _ _ h.1 r,FB.rely T s fuel listed a u v h.2 r⟩
 intro fuel;induction fuel with
 | zero=>
  intro listed a w t p _ d y hS H;have B:=t listed rfl p (mem_ready.1 d).1;refine⟨B,λh=>(by rw[h] at d;cases d),λj g=>?_⟩;by_cases f:j=i
  ·subst f;exact y.opK s hi (F _ _) hS ⟨hS,H⟩
  ·have:=ready_mono g f
   rw[H.1] at this;rw[List.mem_singleton.1 this] at g;exact absurd g B
 | succ fuel V=>
  intro listed a w t p C d y hS H;refine⟨t listed rfl p (mem_ready.1 d).1,λh=>(by rw[h] at d;cases d),λj g=>?_⟩;by_cases f:j=i
  ·subst f;exact y.opK s hi (F _ _) hS ⟨hS,H⟩
  ·have m:=H.2.2 j (ready_mono g f)
   obtain⟨I,n,A,aa⟩:=mem_ready.1 g;have M:∀e∈n.after,Region.binds md e=true->e.on≠i:=λe R K U=>by
    have m:=aa e R K;have D:=(mem_ready.1 d).1;rw[U] at m;rcases E4 i listed.size with z | z
    ·simp[z] at D m;rw[D] at m;cases m
    ·simp[M7 z] at m
   have L:=f9 A (C j n A f I M) (λcs b=>J i oi cs b hi) (λcs b=>J j n cs b A) y m;have N:∀k ok,ops[k]?=some ok->k≠i->(listed.setIfInBounds j true).getD k true=false->(∀e∈ok.after,Region.binds md e=true->e.on≠i)->oi.apart ops ok=true:=λk ok X ab G Z=>by
    refine C k ok X ab ?_ Z;by_cases E:j=k
    ·subst E;exact I
    ·rw[getD_set_ne true E] at G;exact G
   refine eM (λY w' q=>⟨q.2.1,V (listed.setIfInBounds j true) Y w' (λl hl=>t l (by rw[hl];simp)) (p.set g) N (ready_mono d (Ne.symm f)) q.1 q.2.1 ?_⟩) L;rw[Array.setIfInBounds_comm _ _ f];exact q.2.2
def allB:Nat->List (Array Bool)
 | 0=>[#[]]
 | n+1=>(allB n).flatMap λl=>[l.push false,l.push true]
theorem eB:∀(n:Nat) (l:Array Bool),l.size=n->l∈allB n
 | 0,l,h=>by simp[allB];exact Array.size_eq_zero_iff.1 h
 | n+1,l,h=>by
  simp only[allB,List.mem_flatMap];refine⟨l.pop,eB n _ (by simp[h]),?_⟩;have k:l.size≠0:=AQ
  have e:l=l.pop.push (l[l.size - 1]'AQ):=by
   apply Array.ext
   ·simp;omega
   ·intro i g f
    by_cases hi:i<l.size - 1
    ·rw[Array.getElem_push_lt (by simpa using hi)];simp
    ·have:i=l.size - 1:=by omega
     subst this;rw[Array.getElem_push];simp
  cases d:l[l.size - 1]'AQ with
  | false=>rw[d] at e;rw[e];simp
  | true=>rw[d] at e;rw[e];simp
def waits (md:Region.Mode)(ops:Array Oper)(last i n:Nat):Bool:=(allB n).all λl=>!(MN md ops l) || (l.getD i true || !(Region.ready md ops l).contains last)
def wh {n:Nat}(h:waits md ops last i n=true):∀l:Array Bool,l.size=n->Ze md ops l->l.getD i true=false->last∉Region.ready md ops l:=by
 intro l f g e d;have:=List.all_eq_true.1 h l (eB n l f)
 rw[e,VP.2 g] at this;simp at this;exact this d
theorem Wu (T:OkL P main Low pre ok)(e:∀u v,S u->Keep Low O u v->S v){listed:Array Bool}{w:World}(hi:ops[i]?=some oi)
  (hl:waits md ops last i listed.size=true) (k:MN md ops listed=true) (d:Region.noSelect ops=true) (g:Region.free md ops listed i=true) (hr:(Region.ready md ops listed).contains i=true) (f:Tc P Low fn ops S O oi v a) (hS:S w)
  (h:FB P Low pre ok fn Q x O ops md S last fuel (listed.setIfInBounds i true) (a.put oi.dst v) w):FB P Low pre ok fn Q x O ops md S last (fuel+1) listed a w:=
 Awz T e hi (Region.noSelect_spec d) fuel listed a w (wh hl) (VP.1 k) (Region.free_spec hi g) (by simpa using hr) f hS h
theorem pB (T:OkL P main Low pre ok){d:Nat}{w:World}(S:World->Prop)(last:Nat)(m:P.follows .mixedOrders=true)(r:ops.size=fuel+1)
  (h:∀w₁,Keep Low O w w₁->FB P Low pre ok fn Q x O ops .any S last fuel (Array.replicate ops.size false) a {w₁ with drawn:=w₁.drawn+1}):WpK ok fn (.region d ops true) Q a x O w:=by
 intro b k cs f q g;refine T.own rfl λw₁ n _=>⟨_,_,_,stepG_region_draw,rfl,⟨λ_ _ _=>rfl,CG _,rfl,rfl,rfl,AU⟩,?_⟩
 have e:grown O w₁ {w₁ with drawn:=w₁.drawn+1}=O:=J3 O w₁;rw[e];have:=Awy T fuel (w₁.tape w₁.drawn (.order b.fn d)) (Array.replicate ops.size false) a _ (h w₁ n) b k cs f q g
 simp only[Region.schedule,m,Bool.true_or,if_true];simp only[Region.linearise,r] at this ⊢;exact this
end
