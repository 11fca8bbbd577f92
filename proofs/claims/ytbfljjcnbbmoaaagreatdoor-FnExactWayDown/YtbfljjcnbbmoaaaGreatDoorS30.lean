import Derived.Test.YtbfljjcnbbmoaaaGreatDoorCG3
import Derived.Test.YtbfljjcnbbmoaaaGreatDoorGq
import Derived.Test.YtbfljjcnbbmoaaaGreatDoorM56
import Derived.Test.YtbfljjcnbbmoaaaGreatDoorGb
import Derived.Test.YtbfljjcnbbmoaaaGreatDoorGm
import Derived.Test.YtbfljjcnbbmoaaaGreatDoorG3
namespace Go.Co
open Go.Conc
structure Put (b:Nat)(w w':World):Prop where
 rest:∀x,x≠b->w'.heap[x]?=w.heap[x]?
 size:w'.heap.size=w.heap.size
 tape:w'.tape=w.tape
 os:w'.os=w.os
 out:w'.output=w.output
theorem Put.refl (b:Nat)(w:World):Put b w w:=⟨λ_ _=>rfl,rfl,rfl,rfl,rfl⟩
theorem Put.set {b:Nat}{w w':World}(h:Put b w w')(o:Nat)(v:Value):Put b w (w'.setCell ⟨b,o,none⟩ v):=by
 refine⟨λx hx=>?_,?_,h.tape,h.os,h.out⟩
 ·rw[<-h.rest x hx]
  simp only[World.setCell];rw[Array.getElem?_modify];have:¬b=x:=λe=>hx e.symm
  simp[this]
 ·rw[<-h.size];simp[World.setCell]
section
variable {τ : Type}{P : Program}{main : Bool}{Low : Nat}{pre : τ -> World -> Prop}{ok : τ -> (Nat -> Prop) -> World -> Goroutine -> Prop}{fn : FuncId}{Q : Va τ}{a : Act}{x : τ}{O : Nat -> Prop}{w : World}
variable {ops : Array Oper}{i : Nat}{rest : List Nat}{o : Oper}
theorem V6 (T:OkL P main Low pre ok)(b:Nat)(hb:O b)(ho:ops[i]?=some o)(hw:Region.wanted o (yielded ops a.tmps)=true)
  (he:∀w₁,Keep Low O w w₁->∀e∈(execOp a.eval o).events P w₁ #[],EvO Low O e)
  (h:∀w₁,Keep Low O w w₁->∀K:Act->World->Prop,(∀a' w',Put b w₁ w'->Tj ok fn ops rest Q a' x O w'->K a' w')->uponK o a K ((execOp a.eval o).run P w₁)):Tj ok fn ops (i::rest) Q a x O w:=by
 refine V7 T ho hw λw₁ hk _ K hK=>?_
 have:=h w₁ hk (λa' w'=>Put b w₁ w'/\Tj ok fn ops rest Q a' x O w') λa' w' hp h=>⟨hp,h⟩
 refine uponK_mono (λa' w' h=>?_) this;obtain⟨hp,h⟩:=h;have e:grown O w₁ w'=O:=by
  funext y;apply propext;simp only[grown,hp.size];constructor
  ·rintro(h | h)
   ·exact h
   ·omega
  ·exact .inl
 refine hK _ _ ⟨⟨λy _ hn=>hp.rest y (λe=>hn (e ▸ hb)),Nat.le_of_eq hp.size.symm,hp.tape,hp.os,hp.out,λev hm=>?_⟩,?_⟩
 ·rw[e];exact .inl (he _ hk ev (mem_listed hm))
 ·rw[e];exact h
end
theorem A0c {τ:Type}{ok:τ->(Nat->Prop)->World->Goroutine->Prop}{fn:FuncId}{Q:Va τ}{a:Act}{x:τ}{O:Nat->Prop}{w:World}{c:Code}{N:Act->τ->(Nat->Prop)->World->Prop}(M:Act->τ->(Nat->Prop)->World->Prop)
  (h:WpK ok fn c (Uo M Q) a x O w) (hn:∀a' x' O' w',M a' x' O' w'->N a' x' O' w'):WpK ok fn c (Uo N Q) a x O w:=
 h.mono λe a' x' O' w' q=>by cases e<;>first | exact hn _ _ _ _ q | exact q
theorem events_store_slice {P:Program}{w:World}{es:Array Event}{a:Addr}{m:Mode}(p:Option Addr)(n c:Nat):(store a (.slice p n c) m).events P w es=storedEv P w es a (.slice p n c) m:=events_store P w es a _ m rfl
section
variable {cs:Array Value}{ty:TypeId}{w₁:World}
variable {Low b : Nat}{w₀ w w' W : World}{O O' : Nat -> Prop}
theorem Ext.put (h:Ext Low O O' W w)(hp:Put b w w')(hl:Low<=b)(hn:∀x,O x->x≠b):Ext Low O O' W w':=
 ⟨h.own,λx hx=>(hp.rest x omz).trans (h.still x hx),λx hx=>(hp.rest x (hn x hx)).trans (h.mine x hx),A4k h.size (Nat.le_of_eq hp.size.symm)⟩
theorem Held.put (h:Held Low w₀ O w)(hp:Put b w w')(hl:Low<=b):Held Low w₀ O w':=
 ⟨λx hx=>(hp.rest x omz).trans (h.still x hx),by rw[hp.size];exact h.low,λx hx=>by rw[hp.size];exact h.up x hx,hp.os.trans h.os,hp.out.trans h.out⟩
theorem Ext.rely (h:Ext Low O O' w W)(hk:Keep Low O' W w₁):Ext Low O O' w w₁:=h.trans hk.ext
theorem Akk (hF:Held Low w₀ O w)(hR:Keep Low O w w₁)(cs:Array Value)(ty:TypeId):
  ∃O1,O1=(λb=>O b\/b=w₁.heap.size)/\Ext Low O O1 w (w₁.alloc (.cells cs ty))/\Held Low w₀ O1 (w₁.alloc (.cells cs ty))/\O1 w₁.heap.size/\Low<=w₁.heap.size/\(∀x,O x->x≠w₁.heap.size)/\
   (w₁.alloc (.cells cs ty)).heap[w₁.heap.size]?=some (.cells cs ty):=by
 obtain⟨O1,e,h1,h2,h3,h4,_⟩:=boxed hF hR cs ty;refine⟨O1,e,h1,h2,h3,h4,λx hx=>?_,?_⟩
 ·have:=(hF.rely hR).up x hx
  omega
 ·simp only[World.alloc];exact Array.getElem?_push_size
theorem cell_of_heap {w:World}{b:Nat}{fz:Nat × Nat}(h:w.heap[b]?=some (.cells cs ty fz))(k:Nat):w.cell? ⟨b,k,none⟩=cs[k]?:=by
 simp only[World.cell?,h];rfl
theorem frozen_of_heap {w:World}{b:Nat}(h:w.heap[b]?=some (.cells cs ty))(k:Nat):w.frozen? ⟨b,k,none⟩=false:=by
 simp[World.frozen?,h]
theorem heap_setCell {w:World}{b:Nat}{fz:Nat × Nat}(h:w.heap[b]?=some (.cells cs ty fz))(o:Nat)(v:Value):(w.setCell ⟨b,o,none⟩ v).heap[b]?=some (.cells (cs.setIfInBounds o v) ty fz):=by
 simp only[World.setCell];rw[Array.getElem?_modify,if_pos rfl,h];rfl
end
end Go.Co
namespace Go.Proofs.YtbfljjcnbbmoaaaGreatDoor
open Go.RowKit Go.Sort Go.BigFrame
structure MI where
 code:Int
 e:Df
def MI.val (m:MI):Value:=.agg #[.int .i64 m.code, .int .i64 m.e.op,m.e.av]
def MI.inst (m:MI):Stil.Rl:=⟨m.code,m.e.elem⟩
def mi0 (k:Int):MI:=⟨k,⟨0,[], .slice none 0 0⟩⟩
def MI.cells (m:MI):List Value:=[.int .i64 m.code, .int .i64 m.e.op,m.e.av]
def Fa (l:List MI):List Value:=l.flatMap MI.cells
theorem Aja (l:List MI)(m:MI):Fa (l++[m])=Fa l++m.cells:=by simp[Fa]
end Go.Proofs.YtbfljjcnbbmoaaaGreatDoor
namespace Go.Proofs.YtbfljjcnbbmoaaaGreatDoor
open Go.RowKit Go.Sort Go.BigFrame Go.Conc Go.Co
variable {Low c : Nat}
def Ael (Low c:Nat)(w₀:World)(t:Ah)(vs:List MI):Prop:=∀rest O w,Held Low w₀ O w->
 J6 Tryz.prog (okS Tryz.prog Low c) 67 #[.chan (some c), .agg #[.int .i64 t.kind, .int .i64 t.op,t.av,t.kv]] (vs.map MI.val++rest) O w λ_ x' O' w'=>x'=rest/\Ext Low O O' w w'/\Held Low w₀ O' w'
def Acp (k:Int)(t:Ah)(vs:List MI):List MI:=if t.kind=1 then [⟨k,⟨t.op,t.ds,t.av⟩⟩] else vs++[mi0 (k+2)]
theorem zz0 {p:Prop}(h:p:=by
 refine kW ?_
 exact⟨_,_,rfl,by first | rfl | trivial,by first | rfl | trivial,by first | rfl | trivial⟩):p:=h
set_option maxRecDepth 100000 in
set_option maxHeartbeats 2000000 in
theorem Az4 (w₀:World)(k:Int)(hk:k=2\/k=3)(ts:List Ah)(f:Ah->List MI)(hts:∀t∈ts,NOk Low w₀ t)(hB:∀t∈ts,t.kind≠1->Ael Low c w₀ t (f t))(hl:ts.length<=1048576)(rest:List Value)(O:Nat->Prop)(w:World)(hF:Held Low w₀ O w)(a:Option Addr)(cap:Nat)(hr:A3a Low O w a ts):
  J6 Tryz.prog (okS Tryz.prog Low c) 92 #[.chan (some c), .int .i64 k, .slice a ts.length cap] ((ts.map λt=>(Acp k t (f t)).map MI.val).flatten++rest) O w λ_ x' O' w'=>x'=rest/\Ext Low O O' w w'/\Held Low w₀ O' w':=by
 have hres:=resultsC_none (P:=Tryz.prog) (fn:=Tryz.f92) rfl;refine He Tryz.func92 rrz rfl ?_;simp only[Tryz.ntmps92,A4b,A39,A4a,Nat.reduceAdd,Nat.reduceSub,A41,A42,A47,A44,A4z,A4y];refine kW ?_;refine A0c (λa' x' O' w'=>∃u10 u11,a'=⟨#[.chan (some c), .int .i64 k, .slice a ts.length cap,undef,undef,undef, .int .i64 k, .int .i64 (k+2),undef,undef,u10,u11,undef,undef,undef,undef,undef,undef,undef,undef,undef,undef,undef,undef,undef,undef,undef,undef,undef,undef,undef,undef,undef],[]⟩/\x'=(ts.map λt=>(Acp k t (f t)).map MI.val).flatten++rest/\O=O'/\w=w') ?_ ?_
 ·rcases hk with rfl | rfl
  ·exact zz0
  ·exact zz0
 rintro _ _ _ _ ⟨u10,u11,rfl,rfl,rfl,rfl⟩;refine kW ?_
 refine Xb (Bg _ _ _) (λn a' x' O' w'=>∃(j:Nat) (u9 u15 u16 iF iE mM u20 u21 u22 u23 u24 u25 u26 u27 u28 u29 u30 u31 u32:Value),j<=ts.length/\n=ts.length - j/\a'=⟨#[.chan (some c), .int .i64 k, .slice a ts.length cap,undef,undef,undef, .int .i64 k, .int .i64 (k+2),undef,u9,u10,u11, .slice a ts.length cap, .int .i64 ts.length, .int .i64 j,u15,u16,iF,iE,mM,u20,u21,u22,u23,u24,u25,u26,u27,u28,u29,u30,u31,u32],[]⟩/\
  x'=((ts.drop j).map λt=>(Acp k t (f t)).map MI.val).flatten++rest/\Ext Low O O' w w'/\Held Low w₀ O' w') ts.length ⟨0,undef,undef,undef,undef,undef,undef,undef,undef,undef,undef,undef,undef,undef,undef,undef,undef,undef,undef,undef,Nat.zero_le _,rfl,rfl,rfl,Ext.refl _ _ _,hF⟩ ?_
 rintro n _ _ O1 W1 ⟨j,u9,u15,u16,iF,iE,mM,u20,u21,u22,u23,u24,u25,u26,u27,u28,u29,u30,u31,u32,hj,rfl,rfl,rfl,hE1,hF1⟩;dsimp only;by_cases hlt:j<ts.length
 ·have hlt':(j:Int)<(ts.length:Int):=by omega
  obtain⟨b,o,rfl,hb,hc⟩:=hr j hlt;have hm:=A4f hlt;have hdr:=List.drop_eq_getElem_cons hlt;have ht:=hts _ hm;have hBt:=hB _ hm;rw[hdr]
  revert hc ht hBt
  generalize ts[j]=t;intro hc ht hBt;obtain⟨p0,r0,hv0⟩:=ht.devs;obtain⟨p1,r1,hv1,_⟩:=ht.kids;clear ht;obtain⟨n,op,ds,av,kv,kids⟩:=t;dsimp only at hv0 hv1 hBt;subst hv0 hv1;replace hc:=hc.ext hE1 hb;have hb1:=hb.imp (hE1.own b) id;have gZ:=hid (λW (hW:Keep Low O1 W1 W)=>hc.ext hW.ext hb1);clear hc hdr hm hr hB hts;have _Y:=gZ.out;have _B:=hb1;simp only[Vu] at _Y;refine kW ?_;clear _Y _B;refine Kz (Bg _ _ _) rfl rrz ?_ ?_
  ·intro _;simp[go_sem];done
  intro w₁ hR K hK;go_simp;refine hK _ _ ?_;clear hK K;obtain⟨O2,eO,hE2,hF2,hO2,hL2,bY,hH2⟩:=Akk hF1 hR #[.int .i64 0, .int .i64 0, .slice none 0 0, .slice none 0 0] 52;rw[<-eO];clear eO
  revert hE2 hF2 hO2 hL2 bY hH2
  generalize w₁.alloc (.cells #[.int .i64 0, .int .i64 0, .slice none 0 0, .slice none 0 0] 52)=W2;generalize w₁.heap.size=b2;intro hE2 hF2 hO2 hL2 bY hH2;replace hE2:=hE1.trans hE2;replace bY :=λx hx=>bY x (hE1.own x hx)
  clear hR w₁;try walk_nrm
  refine V6 (Bg _ _ _) b2 hO2 rfl rrz ?_ ?_
  ·intro w₁ hR e he
   have hh:=(hR.mine _ hO2).trans hH2;have y0:w₁.cell? ⟨b2,0,none⟩=some (.int .i64 0):=cell_of_heap hh 0;have z0:=frozen_of_heap hh 0;have y1:w₁.cell? ⟨b2,1,none⟩=some (.int .i64 0):=cell_of_heap hh 1;have z1:=frozen_of_heap hh 1;have y2:w₁.cell? ⟨b2,2,none⟩=some (.slice none 0 0):=cell_of_heap hh 2;have z2:=frozen_of_heap hh 2;have y3:w₁.cell? ⟨b2,3,none⟩=some (.slice none 0 0):=cell_of_heap hh 3;have z3:=frozen_of_heap hh 3;clear hh;simp[go_sem,events_store_slice,storedEv, *] at he
   (first | (subst he;exact⟨_,_,rfl, .inl hO2⟩) | (rcases he with rfl | rfl<;>exact⟨_,_,rfl, .inl hO2⟩) | (rcases he with rfl | rfl | rfl | rfl<;>exact⟨_,_,rfl, .inl hO2⟩) | (rcases he with rfl | rfl | rfl | rfl | rfl | rfl<;>exact⟨_,_,rfl, .inl hO2⟩))
  intro w₁ hR K hK;have hh:=(hR.mine _ hO2).trans hH2;have y0:w₁.cell? ⟨b2,0,none⟩=some (.int .i64 0):=cell_of_heap hh 0;have z0:=frozen_of_heap hh 0;have y1:w₁.cell? ⟨b2,1,none⟩=some (.int .i64 0):=cell_of_heap hh 1;have z1:=frozen_of_heap hh 1;have y2:w₁.cell? ⟨b2,2,none⟩=some (.slice none 0 0):=cell_of_heap hh 2;have z2:=frozen_of_heap hh 2;have y3:w₁.cell? ⟨b2,3,none⟩=some (.slice none 0 0):=cell_of_heap hh 3;have z3:=frozen_of_heap hh 3;clear hh;go_simp;try (unfold stored;go_simp)
  have hh:=(hR.mine _ hO2).trans hH2;have hp:Put b2 w₁ ((((w₁.setCell ⟨b2,0,none⟩ (.int .i64 n)).setCell ⟨b2,1,none⟩ (.int .i64 op)).setCell ⟨b2,2,none⟩ (.slice p0 ds.length r0)).setCell ⟨b2,3,none⟩ (.slice p1 kids.length r1)):=(((((Put.refl _ _).set 0 (.int .i64 n)).set 1 (.int .i64 op)).set 2 (.slice p0 ds.length r0)).set 3 (.slice p1 kids.length r1))
  have hh2:((((w₁.setCell ⟨b2,0,none⟩ (.int .i64 n)).setCell ⟨b2,1,none⟩ (.int .i64 op)).setCell ⟨b2,2,none⟩ (.slice p0 ds.length r0)).setCell ⟨b2,3,none⟩ (.slice p1 kids.length r1)).heap[b2]?=some (.cells #[.int .i64 n, .int .i64 op, .slice p0 ds.length r0, .slice p1 kids.length r1] 52):=(heap_setCell (heap_setCell (heap_setCell (heap_setCell hh 0 (.int .i64 n)) 1 (.int .i64 op)) 2 (.slice p0 ds.length r0)) 3 (.slice p1 kids.length r1))
  refine hK _ _ hp ?_;clear hK K hh y0 z0 y1 z1 y2 z2 y3 z3 hH2;replace hE2:=(hE2.rely hR).put hp hL2 bY;replace hF2:=(hF2.rely hR).put hp hL2
  revert hE2 hF2 hh2
  clear hp hR;generalize ((((w₁.setCell ⟨b2,0,none⟩ (.int .i64 n)).setCell ⟨b2,1,none⟩ (.int .i64 op)).setCell ⟨b2,2,none⟩ (.slice p0 ds.length r0)).setCell ⟨b2,3,none⟩ (.slice p1 kids.length r1))=W2;intro hh2 hE2 hF2;have HC2:Hid (∀W,Keep Low O2 W2 W->∀ii,W.cell? ⟨b2,ii,none⟩=(#[.int .i64 n, .int .i64 op, .slice p0 ds.length r0, .slice p1 kids.length r1]:Array Value)[ii]?):=λW hW ii=>(hW.ext.cell (.inl hO2) ii).trans (cell_of_heap hh2 ii)
  clear hh2;try walk_nrm
  have ni:IntKind.i64.wrap ((j:Int)+1)=((j+1:Nat):Int):=by rw[IntKind.wrap_i64];omega
  clear hb1 hE1 hF1 hb gZ;by_cases h1:n=1
  ·have e1:(n==1)=true:=by rw[beq_iff_eq];exact h1
   rw[List.flatten_cons,Acp,if_pos h1,A4q,List.map_nil,MI.val,A4y,A4z,A4y];have _Y:=cs4 HC2;refine kW ?_;clear _Y;exact⟨ts.length - (j+1),omz,j+1,_,_,_,_,_,_,_,_,_,_,_,_,_,_,_,_,_,_,_,omz,rfl,rfl,rfl,hE2,hF2⟩
  ·have e1:(n==1)=false:=by rw[A5a];exact h1
   have mD:=hBt h1;rw[List.flatten_cons,Acp,if_neg h1,A4m,A4q,List.map_nil,A4w,A4w,A4y,A4z];have _Y:=cs4 HC2;refine kW ?_;clear _Y
   (refine Gl (Bg _ _ _) rfl rrz rfl (mD _ _ _ hF2) (by simp[Act.eval]) ?_;rintro _ _ O3 W3 ⟨rfl,gW,hF3⟩;try walk_nrm)
   simp only[MI.val,mi0];refine kW ?_;exact⟨ts.length - (j+1),omz,j+1,_,_,_,_,_,_,_,_,_,_,_,_,_,_,_,_,_,_,_,omz,rfl,rfl,rfl,hE2.trans gW,hF3⟩
 ·have hge:¬(j:Int)<(ts.length:Int):=by omega
  have hd:ts.drop j=[]:=List.drop_eq_nil_of_le omz;rw[hd];refine kW ?_;exact⟨rfl,_,hres _,rfl,hE1,hF1⟩
end Go.Proofs.YtbfljjcnbbmoaaaGreatDoor
namespace Go.Proofs.YtbfljjcnbbmoaaaGreatDoor
open Go.RowKit Go.Sort Go.BigFrame
def Ku (w:World)(base:Nat)(v:Value)(ms:List MI):Prop:=w.ownsRow base 58 3 v ms.length (Fa ms)/\∀x∈ms,EOk w base x.e/\Aside v x.e.av
theorem Ae2 (a b:List MI):Fa (a++b)=Fa a++Fa b:=by simp[Fa]
theorem Al0 (m:MI):Fa [m]=m.cells:=by simp[Fa]
theorem Al1 (l:List MI):(Fa l).length=l.length*3:=by
 induction l with
 | nil=>rfl
 | cons m l ih=>
  have e:Fa (m::l)=m.cells++Fa l:=rfl;rw[e,A38,ih];simp[MI.cells];omega
theorem Ajb {w:World}{base:Nat}{ks:List MI}(hk:∀m∈ks,EOk w base m.e):∀u∈Fa ks,u.oneCell'=true:=by
 intro u hu;obtain⟨m,hm,hu⟩:=List.mem_flatMap.1 hu;obtain⟨a1,c1,e1⟩:=Af (hk m hm);simp only[MI.cells,A4t,List.mem_nil_iff,or_false] at hu;rcases hu with rfl | rfl | rfl
 ·rfl
 ·rfl
 ·rw[e1];rfl
section
variable {w w' : World}{base : Nat}{v v' : Value}{ms ks : List MI}
theorem Ku.below (h:Ku w base v ms)(hb:Below w.heap.size w w'):Ku w' base v ms:=⟨ownsRow_below h.1 hb,λx hx=>⟨ownsRow_below (h.2 x hx).1 hb,(h.2 x hx).2⟩⟩
theorem Ku.le {base':Nat}(h:Ku w base v ms)(hl:base'<=base):Ku w base' v ms:=⟨Joins.ownsRow_le h.1 hl,λx hx=>⟨Joins.ownsRow_le (h.2 x hx).1 hl,(h.2 x hx).2⟩⟩
theorem Ku.add (h:Ku w base v ms)(hk:∀x∈ks,EOk w base x.e/\Aside v x.e.av)(hown:w'.ownsRow base 58 3 v' (ms.length+ks.length) (Fa ms++Fa ks))(hg:w.grownBy w' v.ownBlock)(hat:v'.ownBlock=v.ownBlock\/v'.ownBlock=some w.heap.size):Ku w' base v' (ms++ks):=by
 refine⟨by rw[A38,Ae2];exact hown,λx hx=>?_⟩;have hx2:=(List.mem_append.1 hx).elim (h.2 x) (hk x);refine⟨hx2.1.kept hg hx2.2.symm,?_⟩;rcases hat with e | e
 ·unfold Aside at*
  rw[e];exact hx2.2
 ·exact(Ef (n:=w.heap.size) (λk hk=>(hx2.1.lt k hk).2) (λk hk=>by rw[e] at hk;cases hk;exact A4d _)).symm
end
variable {E:Prop}{a:Act}{base c:Nat}{o:Oper}{ops:Array Oper}{rest:List Oper}
theorem Tn {w:World}{K:Act->World->Prop}{Q:Exit->Act->World->Prop}
  (hg:o.guard=none) (s x:Operand) (hop:o.op=.call {callee:=.builtin .append,args:=#[s,x],argTypes:=#[24,24]})
  (base:Nat) (ra:Option Addr) (rc:Nat) (ms ks:List MI) (ad:Option Addr) (c:Nat) (hs:a.eval s=.slice ra ms.length rc) (hx:a.eval x=.slice ad ks.length c)
  (hrow:Ku w base (.slice ra ms.length rc) ms) (hxs:0<ks.length->∃p,ad=some p/\∀j u,(Fa ks)[j]?=some u->w.cell? (p.add j)=some u)
  (hk:∀m∈ks,EOk w base m.e/\Aside (.slice ra ms.length rc) m.e.av) (hl:ms.length+ks.length<=1000000) (hbase:base<=w.heap.size)
  (hK:∀a' c' w',Ku w' base (.slice a' (ms.length+ks.length) c') (ms++ks)->Below base w w'->K (a.put o.dst (.slice a' (ms.length+ks.length) c')) w'):
  if Region.wanted o (yielded ops a.tmps)=true then Oper.wp Tryz.prog o a w K Q else E:=by
 obtain⟨i0,hi,hz0,hz1,hz2⟩:=info_parts Zq;by_cases hd:ks.length=0
 ·have hn:=List.length_eq_zero_iff.1 hd
  subst hn;have hw:Region.wanted o (yielded ops a.tmps)=true:=by simp[Region.wanted,hg]
  rw[if_pos hw];have hcap:ms.length<=rc:=by
   rcases hrow.1.2 with⟨h0,h1⟩ | ⟨g,c',cur,h0,_,_,hnc,_⟩
   ·rw[h1];exact Nat.zero_le _
   ·simp only[Value.slice.injEq] at h0
    rw[h0.2.2];exact hnc
  have hk2:=hK ra rc w (by simpa using hrow) (Below.refl _ _);simp only[A4a,Nat.add_zero] at hk2 hx;unfold Oper.wp execOp;cases ad
  ·have e:Sem.run Tryz.prog (Builtin.append_ #[24,24] o.type #[.slice ra ms.length rc, .slice none 0 c]) w=.ok (.slice ra ms.length rc) w:=by cases ra<;>simp[Builtin.append_,go_sem,hcap]
   simp only[hop,resolve,invoke,builtin,Sem.run_bind,Sem.run_pure,Result.andThen_ok,List.map_toArray,A4q,List.map_nil,hs,hx,e];exact hk2
  ·rename_i t1
   have e:Sem.run Tryz.prog (Builtin.append_ #[24,24] o.type #[.slice ra ms.length rc, .slice (some t1) 0 c]) w=.ok (.slice ra ms.length rc) w:=by cases ra<;>simp[Builtin.append_,go_sem,hcap]
   simp only[hop,resolve,invoke,builtin,Sem.run_bind,Sem.run_pure,Result.andThen_ok,List.map_toArray,A4q,List.map_nil,hs,hx,e];exact hk2
 ·obtain⟨p,rfl,hcs⟩:=hxs omz
  refine Gz hg s x _ hop base 58 i0 _ 3 40 Tryz.underlying24 hi hz0 hz1 hz2 rfl dcz _ _ (Fa ms) hs hrow.1 _ _ _ (Fa ks) hx (Al1 ks) hcs (Ajb λm hm=>(hk m hm).1) (by unfold maxLen;omega) omz hbase ?_;intro v' w' h1 h2 h3;obtain⟨a6,c6,hv6⟩:=Af h1;subst hv6;exact hK a6 c6 w' (hrow.add hk h1 h2 h3) ((Below.refl _ _).grown h2 hbase (λj hj=>(hrow.1.lt j hj).1))
theorem Qh {w:World}{Q:Exit->Act->World->Prop}
  (hg:o.guard=none) (s x:Operand) (hop:o.op=.call {callee:=.builtin .append,args:=#[s,x],argTypes:=#[24,24]})
  (base:Nat) (ra:Option Addr) (rc:Nat) (ms ks:List MI) (ad:Option Addr) (c:Nat) (hs:a.eval s=.slice ra ms.length rc) (hx:a.eval x=.slice ad ks.length c)
  (hrow:Ku w base (.slice ra ms.length rc) ms) (hxs:0<ks.length->∃p,ad=some p/\∀j u,(Fa ks)[j]?=some u->w.cell? (p.add j)=some u)
  (hk:∀m∈ks,EOk w base m.e/\Aside (.slice ra ms.length rc) m.e.av) (hl:ms.length+ks.length<=1000000) (hbase:base<=w.heap.size)
  (h:∀a' c' w',Ku w' base (.slice a' (ms.length+ks.length) c') (ms++ks)->Below base w w'->wpList Tryz.prog ops Q rest (a.put o.dst (.slice a' (ms.length+ks.length) c')) w'):
  wpList Tryz.prog ops Q (o::rest) a w:=by
 refine wpList_plain hg λK hK=>?_
 have hw:Region.wanted o (yielded #[] a.tmps)=true:=by simp[Region.wanted,hg]
 have:=Tn (ops:=#[]) (K:=K) (Q:=Q) (E:=True) hg s x hop base ra rc ms ks ad c hs hx hrow hxs hk hl hbase (λa' c' w' h1 h2=>hK _ _ (h a' c' w' h1 h2))
 rwa [if_pos hw] at this
theorem Ku.more {w w1:World}{b1:Nat}{v u:Value}{ms ks:List MI}(h:Ku w base v ms)(hk:Ku w1 b1 u ks)(hb:Below w.heap.size w w1)(h1:w.heap.size<=b1)(hbase:base<=w.heap.size):
  Ku w1 base v ms/\(∀x∈ks,EOk w1 base x.e/\Aside v x.e.av):=by
 refine⟨h.below hb,λx hx=>⟨Joins.ownsRow_le (hk.2 x hx).1 omz,?_⟩⟩;exact Ef (n:=w.heap.size) (λk hk'=>(h.1.lt k hk').2) (λk hk'=>A4k h1 ((hk.2 x hx).1.lt k hk').1)
theorem Ku.cells {w:World}{a:Option Addr}{ks:List MI}(h:Ku w base (.slice a ks.length c) ks):0<ks.length->∃p,a=some p/\∀j u,(Fa ks)[j]?=some u->w.cell? (p.add j)=some u:=by
 intro h0;rcases h.1.2 with⟨hv,hn⟩ | ⟨g,cap,cur,hv,_⟩
 ·omega
 ·cases hv
  exact⟨_,rfl,λj u hu=>h.1.cells (g:=g) rfl j u hu⟩
def Aw1 (f:FuncId)(x:Stil.Net)(is:List Stil.Rl):Prop:=∀av nv w,Rh w av x.one.args->Kt w nv x.kids->
 Calls Tryz.prog f #[.agg #[.int .i64 x.kind, .int .i64 x.one.op,av,nv]] w λe w'=>∃(a:Option Addr) (c:Nat) (ms:List MI),e=.returned (.slice a ms.length c)/\ms.map MI.inst=is/\Ku w' w.heap.size (.slice a ms.length c) ms/\Below w.heap.size w w'
def A3b (k:Int)(x:Stil.Net)(is:List Stil.Rl):Prop:=∀av nv w,Rh w av x.one.args->Kt w nv x.kids->
 Calls Tryz.prog 39 #[.int .i64 k, .agg #[.int .i64 x.kind, .int .i64 x.one.op,av,nv]] w λe w'=>∃(a:Option Addr) (c:Nat) (ms:List MI),e=.returned (.slice a ms.length c)/\ms.map MI.inst=is/\Ku w' w.heap.size (.slice a ms.length c) ms/\Below w.heap.size w w'
theorem Ku.single {w:World}{m:MI}(h:EOk w base m.e)(hb:base<=w.heap.size):Ku (w.alloc (.cells #[.int .i64 m.code, .int .i64 m.e.op,m.e.av] 58)) base (.slice (some ⟨w.heap.size,0,none⟩) 1 1) [m]:=by
 refine⟨?_,λx hx=>?_⟩
 ·exact World.ownsRow_lit w #[.int .i64 m.code, .int .i64 m.e.op,m.e.av] 1 hb (by unfold maxLen;omega) rfl
 ·rw[List.mem_singleton.1 hx]
  exact⟨ownsRow_below h (Aa _ _),(Ef (n:=w.heap.size) (λk hk=>(h.lt k hk).2) (λk hk=>by cases hk;exact A4d _)).symm⟩
theorem Adm:∀(l:List MI) (i:Nat) (h:i<l.length),(Fa l)[i*3]?=some (.int .i64 l[i].code)/\(Fa l)[i*3+1]?=some (.int .i64 l[i].e.op)/\(Fa l)[i*3+2]?=some l[i].e.av
 | [],_,h=>by cases h
 | m::r,0,_=>⟨rfl,rfl,rfl⟩
 | m::r,i+1,h=>by
  obtain⟨a1,a2,a3⟩:=Adm r i (by simpa using h);have e:Fa (m::r)=.int .i64 m.code::.int .i64 m.e.op::m.e.av::Fa r:=rfl;have e1:(i+1)*3=i*3+1+1+1:=omz
  rw[e,e1];exact⟨a1,a2,a3⟩
theorem Ku.at {w:World}{a:Option Addr}{ms:List MI}(h:Ku w base (.slice a ms.length c) ms):Jn w (.slice a (ms.map MI.inst).length c) (ms.map MI.inst):=by
 refine⟨a,c,rfl,λi hi=>?_⟩;simp only[A4o] at hi;obtain⟨g,cap,hv,_,hg,_,hc⟩:=Az h.1 omz;cases hv;obtain⟨a1,a2,a3⟩:=Adm ms i hi;simp only[List.getElem_map];refine⟨g,0,rfl,hg,?_⟩;rw[A4h];exact⟨hc _ _ a1,hc _ _ a2,_,hc _ _ a3,Bi.of_owns (h.2 _ (A4f hi)).1⟩
theorem F6 {w:World}{Q:Exit->Act->World->Prop}
  (hg:o.guard=none) (s x:Operand) (hop:o.op=.call {callee:=.builtin .append,args:=#[s,x],argTypes:=#[24,24]})
  (base:Nat) (ra:Option Addr) (rc:Nat) (ms:List MI) (m:MI) (hs:a.eval s=.slice ra ms.length rc) (hx:a.eval x=.slice (some ⟨w.heap.size,0,none⟩) 1 1)
  (hrow:Ku w base (.slice ra ms.length rc) ms) (hm:EOk w base m.e/\Aside (.slice ra ms.length rc) m.e.av) (hl:ms.length+1<=1000000) (hbase:base<=w.heap.size)
  (h:∀a' c' w',Ku w' base (.slice a' (ms.length+1) c') (ms++[m])->Below base w w'->wpList Tryz.prog ops Q rest (a.put o.dst (.slice a' (ms.length+1) c')) w'):
  wpList Tryz.prog ops Q (o::rest) a (w.alloc (.cells #[.int .i64 m.code, .int .i64 m.e.op,m.e.av] 58)):=by
 refine Qh hg s x hop base ra rc ms [m] (some ⟨w.heap.size,0,none⟩) 1 hs hx (hrow.below (Aa _ _)) (λ_=>⟨_,rfl,λj u hu=>?_⟩) (λy hy=>?_) hl (by simp;omega) λa' c' w' h1 h2=>h a' c' w' h1 ((Bq (Below.refl _ _) _:Below w.heap.size w _).mono hbase |>.trans h2)
 ·rw[Al0] at hu
  have e:(⟨w.heap.size,0,none⟩:Addr).add j=⟨w.heap.size,j,none⟩:=by unfold Addr.add;split<;>simp_all
  rw[e];have hc:∀j,(w.alloc (.cells #[.int .i64 m.code, .int .i64 m.e.op,m.e.av] 58)).cell? ⟨w.heap.size,j,none⟩=(#[.int .i64 m.code, .int .i64 m.e.op,m.e.av]:Array Value)[j]?:=λj=>by
   have:(w.alloc (.cells #[.int .i64 m.code, .int .i64 m.e.op,m.e.av] 58)).heap[w.heap.size]?=some (.cells #[.int .i64 m.code, .int .i64 m.e.op,m.e.av] 58):=by simp only[World.alloc];exact Array.getElem?_push_size
   simp only[World.cell?,this];rfl
  rw[hc];simpa[MI.cells] using hu
 ·rw[List.mem_singleton.1 hy]
  exact⟨ownsRow_below hm.1 (Aa _ _),hm.2⟩
theorem Yg (w:World)(base:Nat)(v:Value)(k:Int):EOk w base (mi0 k).e/\Aside v (mi0 k).e.av:=⟨World.ownsRow_nil _ _ _ _,(Nl v).symm⟩
theorem Abs {w:World}{K:Act->World->Prop}{Q:Exit->Act->World->Prop}
  (hg:o.guard=none) (s x:Operand) (hop:o.op=.call {callee:=.builtin .append,args:=#[s,x],argTypes:=#[24,24]})
  (base b1:Nat) (w0:World) (ra:Option Addr) (rc:Nat) (ms ks:List MI) (ad:Option Addr) (c:Nat) (hs:a.eval s=.slice ra ms.length rc) (hx:a.eval x=.slice ad ks.length c)
  (hrow:Ku w0 base (.slice ra ms.length rc) ms) (hk:Ku w b1 (.slice ad ks.length c) ks) (hb:Below w0.heap.size w0 w) (h1:w0.heap.size<=b1) (hl:ms.length+ks.length<=1000000) (hbase:base<=w0.heap.size)
  (hK:∀a' c' w',Ku w' base (.slice a' (ms.length+ks.length) c') (ms++ks)->Below base w w'->K (a.put o.dst (.slice a' (ms.length+ks.length) c')) w'):
  if Region.wanted o (yielded ops a.tmps)=true then Oper.wp Tryz.prog o a w K Q else E:=by
 obtain⟨m1,m2⟩:=hrow.more hk hb h1 hbase;exact Tn hg s x hop base ra rc ms ks ad c hs hx m1 hk.cells m2 hl (A4k hbase hb.size) hK
theorem Aro {w:World}{p:Addr}:(w.drew).cell? p=w.cell? p:=rfl
theorem Eb {w:World}{Q:Exit->Act->World->Prop}
  (hg:o.guard=none) (s x:Operand) (hop:o.op=.call {callee:=.builtin .append,args:=#[s,x],argTypes:=#[24,24]})
  (base b1:Nat) (w0:World) (ra:Option Addr) (rc:Nat) (ms ks:List MI) (ad:Option Addr) (c:Nat) (hs:a.eval s=.slice ra ms.length rc) (hx:a.eval x=.slice ad ks.length c)
  (hrow:Ku w0 base (.slice ra ms.length rc) ms) (hk:Ku w b1 (.slice ad ks.length c) ks) (hb:Below w0.heap.size w0 w) (h1:w0.heap.size<=b1) (hl:ms.length+ks.length<=1000000) (hbase:base<=w0.heap.size)
  (h:∀a' c' w',Ku w' base (.slice a' (ms.length+ks.length) c') (ms++ks)->Below base w w'->wpList Tryz.prog ops Q rest (a.put o.dst (.slice a' (ms.length+ks.length) c')) w'):
  wpList Tryz.prog ops Q (o::rest) a w:=by
 obtain⟨m1,m2⟩:=hrow.more hk hb h1 hbase;exact Qh hg s x hop base ra rc ms ks ad c hs hx m1 hk.cells m2 hl (A4k hbase hb.size) h
end Go.Proofs.YtbfljjcnbbmoaaaGreatDoor
