import Derived.Test.YtobbpffcggchmaaGreatDoorCE6
import Derived.Test.YtobbpffcggchmaaGreatDoorHk
import Derived.Test.YtobbpffcggchmaaGreatDoorGr
import Derived.Test.YtobbpffcggchmaaGreatDoorCI1
namespace Go.Proofs.YtobbpffcggchmaaGreatDoor
open Tryz
open Stil
open Go.RowKit Go.Sort Go.BigFrame Go.Conc Go.Co
theorem Q8 {w₀:World}{e:TypeId}{s n:Nat}{v:Value}{xs:List Value}(h:w₀.ownsRow 0 e s v n xs):∃a cap,v=.slice a n cap/\Ac6 a n cap/\∀j u,xs[j]?=some u->∃b,a=some ⟨b,0,none⟩/\v.ownBlock=some b/\w₀.cell? ⟨b,j,none⟩=some u:=by
 have i:=h.2;rcases i with⟨hv,f⟩ | ⟨g,cap,cur,hv,m,_,l,_⟩
 ·refine⟨none,0,by rw[hv,f],⟨omz,λ_=>rfl⟩,λj u hu=>?_⟩
  have d:=h.1;rw[f,Bbd] at d;rw[List.length_eq_zero_iff.1 d] at hu;simp at hu
 ·refine⟨_,cap,hv,⟨l,λe=>by cases e⟩,λj u hu=>⟨g,rfl,by rw[hv];rfl,?_⟩⟩
  have:=h.cells (g:=g) yDg j u hu
  rwa [add_plain] at this
def NOk (Low:Nat)(w₀:World)(m:Ah):Prop:=MOk w₀ 0 m/\∀x∈m.vals,∀k,x.ownBlock=some k->k<Low
def Wl (w:World)(b o:Nat)(t:Ah):Prop:=w.cell? ⟨b,o,none⟩=some (.int .i64 t.kind)/\w.cell? ⟨b,o+1,none⟩=some (.int .i64 t.op)/\w.cell? ⟨b,o+2,none⟩=some t.av/\w.cell? ⟨b,o+3,none⟩=some t.kv
def A7w (Low:Nat)(O:Nat->Prop)(w:World)(a:Option Addr)(d:List Ah):Prop:=∀i (h:i<d.length),∃b o,a=some ⟨b,o,none⟩/\(O b\/b<Low)/\Wl w b (o+i*4) d[i]
section
variable {Low : Nat}{w₀ w w' : World}{O O' : Nat -> Prop}
theorem Wl.ext {b o:Nat}{t:Ah}(h:Wl w b o t)(k:Ext Low O O' w w')(a:O b\/b<Low):Wl w' b o t:=
 ⟨(k.cell a _).trans h.1,(k.cell a _).trans h.2.1,(k.cell a _).trans h.2.2.1,(k.cell a _).trans h.2.2.2⟩
theorem Wl.held {b o:Nat}{t:Ah}(h:Wl w₀ b o t)(k:Held Low w₀ O w)(a:b<Low):Wl w b o t:=
 ⟨(k.down a _).trans h.1,(k.down a _).trans h.2.1,(k.down a _).trans h.2.2.1,(k.down a _).trans h.2.2.2⟩
theorem NOk.devs {m:Ah}(h:NOk Low w₀ m):∃a cap,m.av=.slice a m.ds.length cap:=by
 obtain⟨a,cap,e,_⟩:=Q8 ((Ee _ _ _).1 h.1).1;exact⟨a,cap,e⟩
theorem NOk.kids {m:Ah}(h:NOk Low w₀ m):∃(a:Option Addr) (cap:Nat),m.kv=.slice a m.kids.length cap/\Ac6 a m.kids.length cap/\(∀t∈m.kids,NOk Low w₀ t)/\
  ∀i (h:i<m.kids.length),∃b o,a=some ⟨b,o,none⟩/\b<Low/\Wl w₀ b (o+i*4) m.kids[i]:=by
 obtain⟨_,f,C⟩:=(Ee _ _ _).1 h.1;obtain⟨a,cap,e,E,d⟩:=Q8 f;refine⟨a,cap,e,E,λt l=>⟨C t l,λx s k f=>h.2 x ?_ k f⟩,λi hi=>?_⟩
 ·rw[Ah.vals_eq]
  exact A87 _ (A87 _ (Jf.2 ⟨t,l,s⟩))
 ·obtain⟨r,q,z,B⟩:=Gx m.kids i hi
  obtain⟨b,j,v,y⟩:=d _ _ r;obtain⟨F,p,_,u⟩:=d _ _ q;obtain⟨G,g,_,A⟩:=d _ _ z;obtain⟨H,n,_,D⟩:=d _ _ B;rw[j] at p g n;cases p;cases g;cases n;refine⟨b,0,j,h.2 m.kv (by rw[Ah.vals_eq];simp) b v,?_⟩;unfold Wl;rw[A9c];exact⟨y,u,A,D⟩
end
variable {Low c : Nat}
set_option maxRecDepth 100000 in
set_option maxHeartbeats 2000000 in
theorem A3j (w₀:World)(t:Ah)(R:NOk Low w₀ t)(ah:t.ds.length<=1048576)(ai:t.kids.length<=1048576):∃C:List Ah,C.map Ah.net=Ij t.net/\(∀x∈C,NOk Low w₀ x)/\(Bq C).Sublist t.vals/\∀g O w,Held Low w₀ O w->
  Lh prog (okS prog Low c) 109 #[.agg #[.int .i64 t.kind, .int .i64 t.op,t.av,t.kv]] g O w λv I O' w'=>I=g/\(∃a cap,v=.slice a C.length cap/\A7w Low O' w' a C)/\Ext Low O O' w w'/\Held Low w₀ O' w':=by
 obtain⟨r,u,N⟩:=R.devs;obtain⟨m,q,H,aj,ag,ae⟩:=R.kids;have bY:=t.vals_eq;have J:=t.net_eq;obtain⟨n,rfl⟩:∃n,n=t:=⟨_,rfl⟩
 rw[N,H];have Y:Hid (Bl n.net=((n.kind==0 && (n.op==0 && n.ds.length==0)) && n.kids.length==0)):=by
  show _=_
  rw[J];unfold Bl;simp only[Bool.and_assoc,A9j]
 have F:Hid (Ij n.net=if Bl n.net then [] else if n.kind=2 then n.kids.map Ah.net else [n.net]):=by
  show _=_
  unfold Ij;rw[J]
 clear J aj
 have y:Hid (∀g O W,Held Low w₀ O W->Lh prog (okS prog Low c) 62 #[.agg #[.int .i64 n.kind, .int .i64 n.op, .slice r n.ds.length u, .slice m n.kids.length q]] g O W
   λv I O' w'=>v=.bool (Bl n.net)/\I=g/\Ext Low O O' W w'/\Held Low w₀ O' w'):=λg O W h=>by rw[Y.out];exact A3i _ _ _ _ _ _ _ _ ah ai w₀ g O W h
 obtain⟨M,aa⟩:∃M,M=Bl n.net:=⟨_,rfl⟩
 rw[<-aa] at y F;have ak:=hid N;have af:=hid H;have jJ:=hid bY;clear aa Y N H bY;have L:=resultsC_tmp (P:=prog) (fn:=Tryz.f109) rfl;cases M with
 | true=>
  refine⟨[],by rw[F.out];rfl,spz,List.nil_sublist _,λg O w hF=>?_⟩;refine Ho func109 rrz rfl ?_;simp only[ntmps109,A86,A84,A85,Nat.reduceAdd,Nat.reduceSub,A9w,A9x,A92,A9z,A9u,A9t];refine J6 (Bd _ _ _) ?_
  (refine Ez (Bd _ _ _) ?_;simp only[A86,A84,A85,Nat.reduceAdd,A9c,List.range,List.range.loop])
  refine kB hF #[.int .i64 n.kind, .int .i64 n.op, .slice r n.ds.length u, .slice m n.kids.length q] 30 λO1 W1 b1 B A l ac d=>?_
  try walk_nrm
  have _Y:=cs4 d;refine kW ?_;clear _Y
  (refine Gs (Bd _ _ _) rfl rrz rfl (y _ _ _ A) yAi ?_;rintro _ _ O2 Z ⟨rfl,rfl,j,s⟩;try walk_nrm)
  refine kW ?_;exact⟨rfl,_,L _,rfl,⟨none,0,rfl,λi hi=>by simp at hi⟩,B.trans j,s⟩
 | false=>
  by_cases h2:n.kind=2
  ·refine⟨n.kids,by rw[F.out];simp[h2],ag,by rw[jJ.out];exact((Bao _).cons _).cons _,λg O w hF=>?_⟩
   rw[h2] at y ⊢;refine Ho func109 rrz rfl ?_;simp only[ntmps109,A86,A84,A85,Nat.reduceAdd,Nat.reduceSub,A9w,A9x,A92,A9z,A9u,A9t];refine J6 (Bd _ _ _) ?_
   (refine Ez (Bd _ _ _) ?_;simp only[A86,A84,A85,Nat.reduceAdd,A9c,List.range,List.range.loop])
   refine kB hF #[.int .i64 2, .int .i64 n.op, .slice r n.ds.length u, .slice m n.kids.length q] 30 λO1 W1 b1 B A l ac d=>?_
   try walk_nrm
   have _Y:=cs4 d;refine kW ?_;clear _Y
   (refine Gs (Bd _ _ _) rfl rrz rfl (y _ _ _ A) yAi ?_;rintro _ _ O2 Z ⟨rfl,rfl,j,s⟩;try walk_nrm)
   replace d:=Ai1 d j l;replace l:=j.own _ l;have _Y:=cs4 d;refine kW ?_;clear _Y;refine⟨rfl,_,L _,rfl,⟨m,q,rfl,λi hi=>?_⟩,B.trans j,s⟩;obtain⟨b,o,ha,hb,hc⟩:=ae i hi;exact⟨b,o,ha, .inr hb,hc.held s hb⟩
  ·refine⟨[n],by rw[F.out];simp[h2],λx hx=>by rw[List.mem_singleton.1 hx];exact R,by rw[Dt];exact Bao _,λg O w hF=>?_⟩
   have an:(n.kind==2)=false:=by rw[A95];exact h2
   clear ae;refine Ho func109 rrz rfl ?_;simp only[ntmps109,A86,A84,A85,Nat.reduceAdd,Nat.reduceSub,A9w,A9x,A92,A9z,A9u,A9t];refine J6 (Bd _ _ _) ?_
   (refine Ez (Bd _ _ _) ?_;simp only[A86,A84,A85,Nat.reduceAdd,A9c,List.range,List.range.loop])
   refine kB hF #[.int .i64 n.kind, .int .i64 n.op, .slice r n.ds.length u, .slice m n.kids.length q] 30 λO1 W1 b1 B A l ac d=>?_
   try walk_nrm
   have _Y:=cs4 d;refine kW ?_;clear _Y
   (refine Gs (Bd _ _ _) rfl rrz rfl (y _ _ _ A) yAi ?_;rintro _ _ O2 Z ⟨rfl,rfl,j,s⟩;try walk_nrm)
   replace d:=Ai1 d j l;replace l:=j.own _ l;have _Y:=cs4 d;refine kW ?_;clear _Y;refine Na (Bd _ _ _) rfl rrz ?_ ?_
   ·intro _;simp[go_sem];done
   intro w₁ hR K hK;go_simp;refine hK _ _ ?_;clear hK K;obtain⟨O3,eO,U,X,V,ab,D⟩:=boxed s hR #[.int .i64 n.kind, .int .i64 n.op, .slice r n.ds.length u, .slice m n.kids.length q] 30;rw[<-eO];clear eO
   revert U X V ab D
   generalize w₁.alloc (.cells #[.int .i64 n.kind, .int .i64 n.op, .slice r n.ds.length u, .slice m n.kids.length q] 30)=W3;generalize w₁.heap.size=b3;intro U X V ab D;have E:=hid D;clear D hR w₁;try walk_nrm
   refine kW ?_;refine⟨rfl,_,L _,rfl,⟨some ⟨b3,0,none⟩,1,rfl,λi hi=>?_⟩,(B.trans j).trans U,X⟩;have al:i=0:=by simp at hi;exact hi
   subst al;refine⟨b3,0,rfl, .inl V,E _ (Keep.refl _ _ _) 0,E _ (Keep.refl _ _ _) 1,?_,?_⟩
   ·rw[show([n]:List Ah)[0].av=_ from ak.out];exact E _ (Keep.refl _ _ _) 2
   ·rw[show([n]:List Ah)[0].kv=_ from af.out];exact E _ (Keep.refl _ _ _) 3
variable {Low c : Nat}
def Afs (Low c:Nat)(w₀:World)(t:Ah)(vs:List MI):Prop:=∀rest O w,Held Low w₀ O w->
 Lh prog (okS prog Low c) 91 #[.chan (some c), .agg #[.int .i64 t.kind, .int .i64 t.op,t.av,t.kv]] (vs.map MI.val++rest) O w λ_ a O' w'=>a=rest/\Ext Low O O' w w'/\Held Low w₀ O' w'
def Adt (k:Int)(t:Ah)(vs:List MI):List MI:=if t.kind=1 then [⟨k,⟨t.op,t.ds,t.av⟩⟩] else vs++[mi0 (k+2)]
theorem zx0 {p:Prop}(h:p:=by
 refine kW ?_
 exact⟨_,_,rfl,by first | rfl | trivial,by first | rfl | trivial,by first | rfl | trivial⟩):p:=h
set_option maxRecDepth 100000 in
set_option maxHeartbeats 2000000 in
theorem A4m (w₀:World)(k:Int)(hk:k=2\/k=3)(g:List Ah)(f:Ah->List MI)(hts:∀t∈g,NOk Low w₀ t)(hB:∀t∈g,t.kind≠1->Afs Low c w₀ t (f t))(hl:g.length<=1048576)(rest:List Value)(O:Nat->Prop)(w:World)(hF:Held Low w₀ O w)(a:Option Addr)(cap:Nat)(hr:A7w Low O w a g):
  Lh prog (okS prog Low c) 107 #[.chan (some c), .int .i64 k, .slice a g.length cap] ((g.map λt=>(Adt k t (f t)).map MI.val).flatten++rest) O w λ_ F O' w'=>F=rest/\Ext Low O O' w w'/\Held Low w₀ O' w':=by
 have az:=resultsC_none (P:=prog) (fn:=Tryz.f107) rfl;refine Ho func107 rrz rfl ?_;simp only[ntmps107,A86,A84,A85,Nat.reduceAdd,Nat.reduceSub,A9w,A9x,A92,A9z,A9u,A9t];refine kW ?_;refine A4q (λX F O' w'=>∃Y Q,X=⟨#[.chan (some c), .int .i64 k, .slice a g.length cap,undef,undef,undef, .int .i64 k, .int .i64 (k+2),undef,undef,Y,Q,undef,undef,undef,undef,undef,undef,undef,undef,undef,undef,undef,undef,undef,undef,undef,undef,undef,undef,undef,undef,undef],[]⟩/\F=(g.map λt=>(Adt k t (f t)).map MI.val).flatten++rest/\O=O'/\w=w') ?_ ?_
 ·rcases hk with rfl | rfl
  ·exact zx0
  ·exact zx0
 rintro _ _ _ _ ⟨Y,Q,rfl,rfl,rfl,rfl⟩;refine kW ?_
 refine Xu (Bd _ _ _) (λn X F O' w'=>∃(j:Nat) (u9 an ae fC fB iR aj ah aw ai ac al au ax ab ar ao af ag:Value),j<=g.length/\n=g.length - j/\X=⟨#[.chan (some c), .int .i64 k, .slice a g.length cap,undef,undef,undef, .int .i64 k, .int .i64 (k+2),undef,u9,Y,Q, .slice a g.length cap, .int .i64 g.length, .int .i64 j,an,ae,fC,fB,iR,aj,ah,aw,ai,ac,al,au,ax,ab,ar,ao,af,ag],[]⟩/\
  F=((g.drop j).map λt=>(Adt k t (f t)).map MI.val).flatten++rest/\Ext Low O O' w w'/\Held Low w₀ O' w') g.length ⟨0,undef,undef,undef,undef,undef,undef,undef,undef,undef,undef,undef,undef,undef,undef,undef,undef,undef,undef,undef,Ban _,rfl,rfl,rfl,Ext.refl _ _ _,hF⟩ ?_
 rintro n _ _ O1 W1 ⟨j,u9,an,ae,fC,fB,iR,aj,ah,aw,ai,ac,al,au,ax,ab,ar,ao,af,ag,hj,rfl,rfl,rfl,B,T⟩;dsimp only;by_cases U:j<g.length
 ·have aB:(j:Int)<(g.length:Int):=by omega
  obtain⟨b,o,rfl,hb,A⟩:=hr j U;have Z:=A9a U;have ay:=Bas U;have H:=hts _ Z;have L:=hB _ Z;rw[ay]
  revert A H L
  generalize g[j]=t;intro A H L;obtain⟨v,u,ap⟩:=H.devs;obtain⟨r,s,aa,_⟩:=H.kids;clear H;obtain⟨n,op,y,av,kv,kids⟩:=t;dsimp only at ap aa L;subst ap aa;replace A:=A.ext B hb;have R:=hb.imp (B.own b) id;have dM:=hid (λW (V:Keep Low O1 W1 W)=>A.ext V.ext R);clear A ay Z hr hB hts;have _Y:=dM.out;have _B:=R;simp only[Wl] at _Y;refine kW ?_;clear _Y _B;refine Na (Bd _ _ _) rfl rrz ?_ ?_
  ·intro _;simp[go_sem];done
  intro i hR K hK;go_simp;refine hK _ _ ?_;clear hK K;obtain⟨O2,eO,m,q,l,J,E,C⟩:=Am0 T hR #[.int .i64 0, .int .i64 0, .slice none 0 0, .slice none 0 0] 30;rw[<-eO];clear eO
  revert m q l J E C
  generalize i.alloc (.cells #[.int .i64 0, .int .i64 0, .slice none 0 0, .slice none 0 0] 30)=W2;generalize i.heap.size=b2;intro m q l J E C;replace m:=B.trans m;replace E :=λx hx=>E x (B.own x hx)
  clear hR i;try walk_nrm
  refine W9 (Bd _ _ _) b2 l rfl rrz ?_ ?_
  ·intro i hR e he
   have d:=(hR.mine _ l).trans C;have y0:i.cell? ⟨b2,0,none⟩=some (.int .i64 0):=cell_of_heap d 0;have z0:=frozen_of_heap d 0;have y1:i.cell? ⟨b2,1,none⟩=some (.int .i64 0):=cell_of_heap d 1;have z1:=frozen_of_heap d 1;have y2:i.cell? ⟨b2,2,none⟩=some (.slice none 0 0):=cell_of_heap d 2;have z2:=frozen_of_heap d 2;have y3:i.cell? ⟨b2,3,none⟩=some (.slice none 0 0):=cell_of_heap d 3;have z3:=frozen_of_heap d 3;clear d;simp[go_sem,events_store_slice,storedEv, *] at he
   (first | (subst he;exact⟨_,_,rfl, .inl l⟩) | (rcases he with rfl | rfl<;>exact⟨_,_,rfl, .inl l⟩) | (rcases he with rfl | rfl | rfl | rfl<;>exact⟨_,_,rfl, .inl l⟩) | (rcases he with rfl | rfl | rfl | rfl | rfl | rfl<;>exact⟨_,_,rfl, .inl l⟩))
  intro i hR K hK;have d:=(hR.mine _ l).trans C;have y0:i.cell? ⟨b2,0,none⟩=some (.int .i64 0):=cell_of_heap d 0;have z0:=frozen_of_heap d 0;have y1:i.cell? ⟨b2,1,none⟩=some (.int .i64 0):=cell_of_heap d 1;have z1:=frozen_of_heap d 1;have y2:i.cell? ⟨b2,2,none⟩=some (.slice none 0 0):=cell_of_heap d 2;have z2:=frozen_of_heap d 2;have y3:i.cell? ⟨b2,3,none⟩=some (.slice none 0 0):=cell_of_heap d 3;have z3:=frozen_of_heap d 3;clear d;go_simp;try (unfold stored;go_simp)
  have d:=(hR.mine _ l).trans C;have N:Put b2 i ((((i.setCell ⟨b2,0,none⟩ (.int .i64 n)).setCell ⟨b2,1,none⟩ (.int .i64 op)).setCell ⟨b2,2,none⟩ (.slice v y.length u)).setCell ⟨b2,3,none⟩ (.slice r kids.length s)):=(((((Put.refl _ _).set 0 (.int .i64 n)).set 1 (.int .i64 op)).set 2 (.slice v y.length u)).set 3 (.slice r kids.length s))
  have M:((((i.setCell ⟨b2,0,none⟩ (.int .i64 n)).setCell ⟨b2,1,none⟩ (.int .i64 op)).setCell ⟨b2,2,none⟩ (.slice v y.length u)).setCell ⟨b2,3,none⟩ (.slice r kids.length s)).heap[b2]?=some (.cells #[.int .i64 n, .int .i64 op, .slice v y.length u, .slice r kids.length s] 30):=(heap_setCell (heap_setCell (heap_setCell (heap_setCell d 0 (.int .i64 n)) 1 (.int .i64 op)) 2 (.slice v y.length u)) 3 (.slice r kids.length s))
  refine hK _ _ N ?_;clear hK K d y0 z0 y1 z1 y2 z2 y3 z3 C;replace m:=(m.rely hR).put N J E;replace q:=(q.rely hR).put N J
  revert m q M
  clear N hR;generalize ((((i.setCell ⟨b2,0,none⟩ (.int .i64 n)).setCell ⟨b2,1,none⟩ (.int .i64 op)).setCell ⟨b2,2,none⟩ (.slice v y.length u)).setCell ⟨b2,3,none⟩ (.slice r kids.length s))=W2;intro M m q;have ak:Hid (∀W,Keep Low O2 W2 W->∀D,W.cell? ⟨b2,D,none⟩=(#[.int .i64 n, .int .i64 op, .slice v y.length u, .slice r kids.length s]:Array Value)[D]?):=λW V D=>(V.ext.cell (.inl l) D).trans (cell_of_heap M D)
  clear M;try walk_nrm
  have rE:IntKind.i64.wrap ((j:Int)+1)=((j+1:Nat):Int):=by rw[IntKind.wrap_i64];omega
  clear R B T hb dM;by_cases I:n=1
  ·have e1:(n==1)=true:=by rw[Bbk];exact I
   rw[Bag,Adt,if_pos I,A9l,A97,MI.val,A9t,A9u,A9t];have _Y:=cs4 ak;refine kW ?_;clear _Y;exact⟨g.length - (j+1),omz,j+1,_,_,_,_,_,_,_,_,_,_,_,_,_,_,_,_,_,_,_,omz,rfl,rfl,rfl,m,q⟩
  ·have e1:(n==1)=false:=by rw[A95];exact I
   have kH:=L I;rw[Bag,Adt,if_neg I,A9h,A9l,A97,A9r,A9r,A9t,A9u];have _Y:=cs4 ak;refine kW ?_;clear _Y
   (refine Gs (Bd _ _ _) rfl rrz rfl (kH _ _ _ q) yAi ?_;rintro _ _ O3 W3 ⟨rfl,gI,aA⟩;try walk_nrm)
   simp only[MI.val,mi0];refine kW ?_;exact⟨g.length - (j+1),omz,j+1,_,_,_,_,_,_,_,_,_,_,_,_,_,_,_,_,_,_,_,omz,rfl,rfl,rfl,m.trans gI,aA⟩
 ·have aC:¬(j:Int)<(g.length:Int):=by omega
  have hd:g.drop j=[]:=Bb3 omz;rw[hd];refine kW ?_;exact⟨rfl,_,az _,rfl,B,T⟩
variable {Low c : Nat}
def bl (vs:List Value):List Nat:=vs.filterMap Value.ownBlock
theorem Am2 (a b:List Value):bl (a++b)=bl a++bl b:=List.filterMap_append
theorem Ah9 {a b:List Value}(h:a.Sublist b):(bl a).Sublist (bl b):=h.filterMap _
def MIs (w₀:World)(S:List Value)(ms:List MI)(is:List Stil.F7):Prop:=ms.map MI.inst=is/\(∀x∈ms,EOk w₀ 0 x.e)/\(bl (ms.map (·.e.av))).Sublist (bl S)
section
variable {w₀ : World}{S S' : List Value}{ms ms' : List MI}{is is' : List Stil.F7}
theorem MIs.append (h:MIs w₀ S ms is)(a:MIs w₀ S' ms' is'):MIs w₀ (S++S') (ms++ms') (is++is'):=by
 refine⟨by rw[A9h,h.1,a.1],λx b=>(List.mem_append.1 b).elim (h.2.1 x) (a.2.1 x),?_⟩;rw[A9h,Am2,Am2];exact h.2.2.append a.2.2
theorem MIs.sub (h:MIs w₀ S ms is)(a:(bl S).Sublist (bl S')):MIs w₀ S' ms is:=⟨h.1,h.2.1,h.2.2.trans a⟩
theorem MIs.nil:MIs w₀ [] [] []:=⟨rfl,spz,Bao _⟩
theorem MIs.zero (k:Int):MIs w₀ [] [mi0 k] [O6 k]:=⟨rfl,λx a=>by rw[List.mem_singleton.1 a];exact World.ownsRow_nil _ _ _ _,Bao _⟩
theorem MIs.snoc (h:MIs w₀ S ms is)(k:Int):MIs w₀ S (ms++[mi0 k]) (is++[O6 k]):=(h.append (MIs.zero k)).sub (by rw[Bbz];exact Bao _)
theorem MIs.one (k:Int)(e:Fg)(h:EOk w₀ 0 e):MIs w₀ [e.av] [⟨k,e⟩] [⟨k,e.elem⟩]:=⟨rfl,λx a=>by rw[List.mem_singleton.1 a];exact h,Bao _⟩
end
variable {k:Int}{w₀:World}
def Ae1:Stil.Net->Prop
 | ⟨k,_,kids⟩=>(1<=k/\k<=4)/\(k≠1->kids≠[])/\∀p∈kids.map Ae1,p
theorem Aq7 (k:Int)(e:Stil.Elem)(kids:List Stil.Net):Ae1 ⟨k,e,kids⟩↔(1<=k/\k<=4)/\(k≠1->kids≠[])/\∀x∈kids,Ae1 x:=by rw[Ae1,Stil.all_map]
theorem A4u {t:Ah}{vs:List MI}(d:NOk Low w₀ t)(h:t.kind≠1->MIs w₀ t.vals vs (Az t.net)):MIs w₀ t.vals (Adt k t vs) (Dq k t.net):=by
 have b:t.net.kind=t.kind:=by rw[Ah.net_eq]
 unfold Adt;by_cases a:t.kind=1
 ·rw[if_pos a,Iz _ _ (b.trans a),Ah.net_eq]
  refine(MIs.one (w₀:=w₀) k ⟨t.op,t.ds,t.av⟩ ((Ee _ _ _).1 d.1).1).sub ?_;rw[Ah.vals_eq];exact Ah9 (List.Sublist.cons_cons _ (List.nil_sublist _))
 ·rw[if_neg a,Hg _ _ (λe=>a (b.symm.trans e))]
  exact(h a).snoc _
theorem Aih {f:Ah->List MI}:∀{a:List Ah},(∀t∈a,NOk Low w₀ t)->(∀t∈a,t.kind≠1->MIs w₀ t.vals (f t) (Az t.net))->MIs w₀ (Bq a) (a.map λt=>Adt k t (f t)).flatten ((a.map Ah.net).map (Dq k)).flatten
 | [],_,_=>MIs.nil
 | t::a,b,d=>by
  rw[A9l,Bag,A9l,A9l,Bag];exact(A4u (b t spz) (d t spz)).append (Aih (λx hx=>b x yBj) λx hx=>d x yBj)
theorem Ab4 (a:List Ah)(g:Ah->List MI):((a.map g).flatten).map MI.val=(a.map λt=>(g t).map MI.val).flatten:=by rw[List.map_flatten,Bbf];rfl
theorem Azh {w:World}{O:Nat->Prop}(h:Held Low w₀ O w)(d:Nat):Held Low w₀ O {w with drawn:=d}:=⟨h.still,h.low,h.up,h.os,h.out⟩
theorem A26 {w w':World}{O O':Nat->Prop}(h:Ext Low O O' w w')(d:Nat):Ext Low O O' w {w' with drawn:=d}:=⟨h.own,h.still,h.mine,h.size⟩
set_option maxRecDepth 100000 in
set_option maxHeartbeats 4000000 in
theorem A0g (w₀:World)(n:Ah):Ae1 n.net->Aj n.net<=1000000->NOk Low w₀ n->∃N,MIs w₀ n.vals N (Az n.net)/\Afs Low c w₀ n N:=by
 induction n using Xy with
 | h k op q av kv kids ih=>
  intro X I Z;have L:=Ah.vals_eq ⟨k,op,q,av,kv,kids⟩;rw[Ah.net_eq] at X I ⊢;dsimp only at X I L ⊢;obtain⟨⟨aJ,aM⟩,aj,Y⟩:=(Aq7 _ _ _).1 X;rw[D9] at I;simp only at I;have ah:∀x∈kids,Aj x.net<=1000000:=λx hx=>by have:Aj x.net<=Stil.sizes (kids.map Ah.net):=Hr Aj _ x.net (Ba2 hx);omega
  have ag:kids.length<=999999:=by have:=Fz (kids.map Ah.net);rw[A9j] at this;omega
  replace Y:∀x∈kids,Ae1 x.net:=λx hx=>Y _ (Ba2 hx)
  obtain⟨C,B,aA⟩:=Z.devs;obtain⟨p1,j,au,ab,F,U⟩:=Z.kids;have ae:=((Ee _ _ _).1 Z.1).1;dsimp only at aA au ab ae F U;subst aA au;have ak:=resultsC_none (P:=prog) (fn:=Tryz.f91) rfl;by_cases h1:k=1
  ·subst h1
   refine⟨[⟨1,⟨op,q, .slice C q.length B⟩⟩],?_,λrest O w hF=>?_⟩
   ·rw[Jp,L]
    exact(MIs.one (w₀:=w₀) 1 ⟨op,q, .slice C q.length B⟩ ae).sub (Ah9 (List.Sublist.cons_cons _ (List.nil_sublist _)))
   clear L ah ag Y X I Z ih F U ae aj ab;rw[A9l,A97,MI.val,A9t,A9u];dsimp only;refine Ho func91 rrz rfl ?_;simp only[ntmps91,A86,A84,A85,Nat.reduceAdd,Nat.reduceSub,A9w,A9x,A92,A9z,A9u,A9t];refine J6 (Bd _ _ _) ?_
   (refine Ez (Bd _ _ _) ?_;simp only[A86,A84,A85,A9c,List.range,List.range.loop])
   refine kB hF #[.int .i64 1, .int .i64 op, .slice C q.length B, .slice p1 kids.length j] 30 λO1 W1 s R D d aB r=>?_
   try walk_nrm
   have _Y:=cs4 r;refine kW ?_;clear _Y;exact⟨rfl,_,ak _,rfl,R,D⟩
  obtain⟨t,g,rfl⟩:=Bca (λe=>aj h1 (by rw[e];rfl):kids≠[]);obtain⟨b,o,rfl,az,ai⟩:=U 0 spz;rw[Bab,Bbd,Ba8] at ai;have aH:g.length+1<=j:=by have:=ab.1;simp only[A84] at this;exact this
  have ay:∀i (h:i<g.length),b<Low/\Wl w₀ b (o+4+i*4) g[i]:=λi hi=>by
   obtain⟨b',o',e',af,ac⟩:=U (i+1) yAb;cases e';rw[Bb2] at ac;exact⟨af,by rw[show o+4+i*4=o+(i+1)*4 by omega];exact ac⟩
  have ap:=λy hy=>ih y hy (Y _ hy) (ah _ hy) (F y hy)
  obtain⟨vt,ao,ax⟩:=ap t spz;have aK:(k==1)=false:=by rw[A95];exact h1
  have vT:=F t spz;have aL:g.length<=999999:=by simp only[A84] at ag;omega
  clear ih ah U Y ag X aj I ab;obtain⟨pa,ra,aC⟩:=vT.devs;obtain⟨pk,rk,aw,_⟩:=vT.kids;have jP:Hid ((k=4->MIs w₀ (Ah.vals ⟨k,op,q, .slice C q.length B, .slice (some ⟨b,o,none⟩) (t::g).length j,t::g⟩) (vt++[mi0 6]) (Az t.net++[O6 6]))/\∀ar is',MIs w₀ (Bq g) ar is'->MIs w₀ (Ah.vals ⟨k,op,q, .slice C q.length B, .slice (some ⟨b,o,none⟩) (t::g).length j,t::g⟩) (vt++ar) (Az t.net++is')):=by
   have e:Bq (t::g)=t.vals++Bq g:=rfl;have aF:(bl t.vals).Sublist (bl (Ah.vals ⟨k,op,q, .slice C q.length B, .slice (some ⟨b,o,none⟩) (t::g).length j,t::g⟩)):=by
    rw[L,e];exact Ah9 (((List.sublist_append_left _ _).cons _).cons _)
   refine⟨λ_=>(ao.snoc 6).sub aF,λar is' h'=>(ao.append h').sub ?_⟩;rw[L,e];exact Ah9 (((Bao _).cons _).cons _)
  clear L ao Z;have zY:Hid (∀V,V≠1->V≠4->Az ⟨V,⟨op,q⟩,(t::g).map Ah.net⟩=Az t.net++((g.map Ah.net).map (Dq V)).flatten):=λV h1 h4=>by rw[A9l,H7 _ _ _ h1 h4]
  have uF:Hid (Az ⟨4,⟨op,q⟩,(t::g).map Ah.net⟩=Az t.net++[O6 6]):=by show _=_;rw[A9l,Jq]
  obtain⟨t1,tp,td,ta,tk,ts⟩:=t;dsimp only at aC aw;subst aC aw;by_cases h4:k=4
  ·subst h4
   refine⟨vt++[mi0 6],by rw[uF.out];exact jP.1 rfl,λrest O w hF=>?_⟩;clear jP uF zY;rw[A9h,A9l,A97,A9r,A9t,A9u];dsimp only;simp only[A84];refine Ho func91 rrz rfl ?_;simp only[ntmps91,A86,A84,A85,Nat.reduceAdd,Nat.reduceSub,A9w,A9x,A92,A9z,A9u,A9t];refine J6 (Bd _ _ _) ?_
   (refine Ez (Bd _ _ _) ?_;simp only[A86,A84,A85,A9c,List.range,List.range.loop])
   refine kB hF #[.int .i64 4, .int .i64 op, .slice C q.length B, .slice (some ⟨b,o,none⟩) (g.length+1) j] 30 λO1 W1 s R D d aB r=>?_
   try walk_nrm
   have yQ:=hid (λW (H:Keep Low O1 W1 W)=>ai.held (D.rely H) az);have _Y:=λW h=>And.intro (cs4 r W h) (yQ W h)
   simp only[Wl] at _Y;refine kW ?_;clear _Y
   (refine Gs (Bd _ _ _) rfl rrz rfl (ax _ _ _ D) yAi ?_;rintro _ _ O2 W2 ⟨rfl,E,al⟩;try walk_nrm)
   replace r:=Ai1 r E d;replace d:=E.own _ d;simp only[MI.val,mi0];have _Y:=cs4 r;refine kW ?_;clear _Y;exact⟨rfl,_,ak _,rfl,R.trans E,al⟩
  have iK:k=2\/k=3:=omz
  have jo:(k==4)=false:=by rw[A95];exact h4
  obtain⟨f,hf⟩:∃f:Ah->List MI,∀y∈g,MIs w₀ y.vals (f y) (Az y.net)/\Afs Low c w₀ y (f y):=by
   classical
   refine⟨λy=>if h:∃N,MIs w₀ y.vals N (Az y.net)/\Afs Low c w₀ y N then h.choose else [],λy hy=>?_⟩;have h:=ap y yCg;simp only[h,dite_true];exact h.choose_spec
  have an:∀y∈g,NOk Low w₀ y:=λy hy=>F y yCg
  refine⟨vt++(g.map λy=>Adt k y (f y)).flatten,?_,λrest O w hF=>?_⟩
  ·rw[zY.out k h1 h4]
   exact jP.2 _ _ (Aih an λy hy _=>(hf y hy).1)
  clear jP uF zY;rw[A9h,Ab4,A9r];dsimp only;simp only[A84]
  have HT:=hid (λO W H=>by
   have:=A4m (c:=c) w₀ k iK g f an (λy hy _=>(hf y hy).2) omz rest O W H (if j=1 then some ⟨b,o,none⟩ else some ⟨b,o+4,none⟩) (j - 1) (λi hi=>by
    obtain⟨af,ac⟩:=ay i hi;have aE:¬j=1:=omz
    rw[if_neg aE]
    exact⟨b,o+4,rfl, .inr af,ac.held H af⟩)
   exact this)
  clear hf ap ay an F ae;generalize (g.map λt=>(Adt k t (f t)).map MI.val).flatten=tl at*;generalize g.length=m at*;refine Ho func91 rrz rfl ?_;simp only[ntmps91,A86,A84,A85,Nat.reduceAdd,Nat.reduceSub,A9w,A9x,A92,A9z,A9u,A9t];refine J6 (Bd _ _ _) ?_
  (refine Ez (Bd _ _ _) ?_;simp only[A86,A84,A85,A9c,List.range,List.range.loop])
  refine kB hF #[.int .i64 k, .int .i64 op, .slice C q.length B, .slice (some ⟨b,o,none⟩) (m+1) j] 30 λO1 W1 s R D d aB r=>?_
  try walk_nrm
  have yQ:=hid (λW (H:Keep Low O1 W1 W)=>ai.held (D.rely H) az);have _Y:=λW h=>And.intro (cs4 r W h) (yQ W h)
  simp only[Wl] at _Y;refine kW ?_;clear _Y
  (refine Gs (Bd _ _ _) rfl rrz rfl (ax _ _ _ D) yAi ?_;rintro _ _ O2 W2 ⟨rfl,E,al⟩;try walk_nrm)
  replace r:=Ai1 r E d;replace d:=E.own _ d;have _Y:=cs4 r;refine kW ?_;clear _Y;have aD:(1:Int)<=(m:Int)+1:=omz
  have aI:∀(W:World) (es:Array Event),(Instr.sliceAt 28 (.slice (some ⟨b,o,none⟩) (m+1) j) (some (.int .i64 1)) none none).events prog W es=es:=λW es=>Ajc _ underlying28 _ _ _ aD
  refine Ado (Bd _ _ _) (λW=>W.cell? ⟨s,0,none⟩=some (.int .i64 k)/\W.cell? ⟨s,3,none⟩=some (.slice (some ⟨b,o,none⟩) (m+1) j)) 6 krz rfl λw₁ hR=>?_
  have J:∀aa v:World,(aa.cell? ⟨s,0,none⟩=some (.int .i64 k)/\aa.cell? ⟨s,3,none⟩=some (.slice (some ⟨b,o,none⟩) (m+1) j))->Keep Low O2 aa v->(v.cell? ⟨s,0,none⟩=some (.int .i64 k)/\v.cell? ⟨s,3,none⟩=some (.slice (some ⟨b,o,none⟩) (m+1) j)):=λaa v hu hk=>⟨(hk.ext.cell (.inl d) _).trans hu.1,(hk.ext.cell (.inl d) _).trans hu.2⟩
  have M:({w₁ with drawn:=w₁.drawn+1}:World).cell? ⟨s,0,none⟩=some (.int .i64 k)/\({w₁ with drawn:=w₁.drawn+1}:World).cell? ⟨s,3,none⟩=some (.slice (some ⟨b,o,none⟩) (m+1) j):=⟨r _ hR 0,r _ hR 3⟩
  simp only[A86,A84,A85,Nat.reduceAdd,A9c]
  (refine Uz (Bd _ _ _) J (i:=0) (v:=.chan (some c)) rfl yAf yAf yAf yAf yAf (.inl ⟨rrz,λW1 l=>⟨run_eq_of ?_,⟨λ_ _ _=>rfl,A88 _,rfl,rfl,rfl,?_⟩⟩⟩) M ?_;(focus (intro K hK;obtain⟨u,A⟩:=l;go_simp;exact hK));(focus (rw[Jg];intro e he;replace he:=mem_listed he;obtain⟨u,A⟩:=l;simp[go_sem, *] at he;try (refine Or.inl ?_;(first | (subst he;exact⟨_,_,rfl, .inl d⟩) | (rcases he with rfl | rfl<;>exact⟨_,_,rfl, .inl d⟩) | (rcases he with rfl | rfl | rfl | rfl<;>exact⟨_,_,rfl, .inl d⟩) | (rcases he with rfl | rfl | rfl | rfl | rfl | rfl<;>exact⟨_,_,rfl, .inl d⟩)))));try walk_nrm)
  (refine Uz (Bd _ _ _) J (i:=1) (v:=.pointer (some ⟨s,0,none⟩)) rfl yAf yAf yAf yAf yAf (.inl ⟨rrz,λW1 l=>⟨run_eq_of ?_,⟨λ_ _ _=>rfl,A88 _,rfl,rfl,rfl,?_⟩⟩⟩) M ?_;(focus (intro K hK;obtain⟨u,A⟩:=l;go_simp;exact hK));(focus (rw[Jg];intro e he;replace he:=mem_listed he;obtain⟨u,A⟩:=l;simp[go_sem, *] at he;try (refine Or.inl ?_;(first | (subst he;exact⟨_,_,rfl, .inl d⟩) | (rcases he with rfl | rfl<;>exact⟨_,_,rfl, .inl d⟩) | (rcases he with rfl | rfl | rfl | rfl<;>exact⟨_,_,rfl, .inl d⟩) | (rcases he with rfl | rfl | rfl | rfl | rfl | rfl<;>exact⟨_,_,rfl, .inl d⟩)))));try walk_nrm)
  (refine Uz (Bd _ _ _) J (i:=2) (v:=.int .i64 k) rfl yAf yAf yAf yAf yAf (.inl ⟨rrz,λW1 l=>⟨run_eq_of ?_,⟨λ_ _ _=>rfl,A88 _,rfl,rfl,rfl,?_⟩⟩⟩) M ?_;(focus (intro K hK;obtain⟨u,A⟩:=l;go_simp;exact hK));(focus (rw[Jg];intro e he;replace he:=mem_listed he;obtain⟨u,A⟩:=l;simp[go_sem, *] at he;try (refine Or.inl ?_;(first | (subst he;exact⟨_,_,rfl, .inl d⟩) | (rcases he with rfl | rfl<;>exact⟨_,_,rfl, .inl d⟩) | (rcases he with rfl | rfl | rfl | rfl<;>exact⟨_,_,rfl, .inl d⟩) | (rcases he with rfl | rfl | rfl | rfl | rfl | rfl<;>exact⟨_,_,rfl, .inl d⟩)))));try walk_nrm)
  (refine Uz (Bd _ _ _) J (i:=3) (v:=.pointer (some ⟨s,3,none⟩)) rfl yAf yAf yAf yAf yAf (.inl ⟨rrz,λW1 l=>⟨run_eq_of ?_,⟨λ_ _ _=>rfl,A88 _,rfl,rfl,rfl,?_⟩⟩⟩) M ?_;(focus (intro K hK;obtain⟨u,A⟩:=l;go_simp;exact hK));(focus (rw[Jg];intro e he;replace he:=mem_listed he;obtain⟨u,A⟩:=l;simp[go_sem, *] at he;try (refine Or.inl ?_;(first | (subst he;exact⟨_,_,rfl, .inl d⟩) | (rcases he with rfl | rfl<;>exact⟨_,_,rfl, .inl d⟩) | (rcases he with rfl | rfl | rfl | rfl<;>exact⟨_,_,rfl, .inl d⟩) | (rcases he with rfl | rfl | rfl | rfl | rfl | rfl<;>exact⟨_,_,rfl, .inl d⟩)))));try walk_nrm)
  (refine Uz (Bd _ _ _) J (i:=4) (v:=.slice (some ⟨b,o,none⟩) (m+1) j) rfl yAf yAf yAf yAf yAf (.inl ⟨rrz,λW1 l=>⟨run_eq_of ?_,⟨λ_ _ _=>rfl,A88 _,rfl,rfl,rfl,?_⟩⟩⟩) M ?_;(focus (intro K hK;obtain⟨u,A⟩:=l;go_simp;exact hK));(focus (rw[Jg];intro e he;replace he:=mem_listed he;obtain⟨u,A⟩:=l;simp[go_sem, *] at he;try (refine Or.inl ?_;(first | (subst he;exact⟨_,_,rfl, .inl d⟩) | (rcases he with rfl | rfl<;>exact⟨_,_,rfl, .inl d⟩) | (rcases he with rfl | rfl | rfl | rfl<;>exact⟨_,_,rfl, .inl d⟩) | (rcases he with rfl | rfl | rfl | rfl | rfl | rfl<;>exact⟨_,_,rfl, .inl d⟩)))));try walk_nrm)
  (refine Uz (Bd _ _ _) J (i:=5) (v:=.slice (if j=1 then some ⟨b,o,none⟩ else some ⟨b,o+4,none⟩) m (j - 1)) rfl yAf yAf yAf yAf yAf (.inl ⟨rrz,λW1 l=>⟨run_eq_of ?_,⟨λ_ _ _=>rfl,A88 _,rfl,rfl,rfl,?_⟩⟩⟩) M ?_;(focus (intro K hK;obtain⟨u,A⟩:=l;go_simp;exact hK));(focus (rw[Jg];intro e he;replace he:=mem_listed he;obtain⟨u,A⟩:=l;simp[go_sem, *] at he;try (refine Or.inl ?_;(first | (subst he;exact⟨_,_,rfl, .inl d⟩) | (rcases he with rfl | rfl<;>exact⟨_,_,rfl, .inl d⟩) | (rcases he with rfl | rfl | rfl | rfl<;>exact⟨_,_,rfl, .inl d⟩) | (rcases he with rfl | rfl | rfl | rfl | rfl | rfl<;>exact⟨_,_,rfl, .inl d⟩)))));try walk_nrm)
  refine⟨by first | kernel_rfl | rfl,?_⟩;have aG:=Azh (al.rely hR) (w₁.drawn+1);have gI:=A26 ((R.trans E).rely hR) (w₁.drawn+1)
  (refine Gs (Bd _ _ _) rfl rrz rfl (HT _ _ aG) yAi ?_;rintro _ _ O4 W4 ⟨rfl,fG,kF⟩;try walk_nrm)
  refine kW ?_;exact⟨rfl,_,ak _,rfl,gI.trans fG,kF⟩
variable {Low c : Nat}
def Akl (m:Dw):List Value:=(m.cv::Hq m.coils)++(m.kv::Il m.kids)
theorem Q7 (m:Dw):m.vals=m.net.vals++Akl m:=m.vals_eq
def VOk (Low:Nat)(w₀:World)(m:Dw):Prop:=AOk w₀ 0 m/\∀x∈m.vals,∀k,x.ownBlock=some k->k<Low
def Agu (w:World)(b o:Nat)(m:Dw):Prop:=Wl w b o m.net/\w.cell? ⟨b,o+4,none⟩=some m.cv/\w.cell? ⟨b,o+5,none⟩=some m.kv
section
variable {w₀ w w' : World}{O O' : Nat -> Prop}
theorem Agu.held {b o:Nat}{m:Dw}(h:Agu w₀ b o m)(k:Held Low w₀ O w)(a:b<Low):Agu w b o m:=⟨h.1.held k a,(k.down a _).trans h.2.1,(k.down a _).trans h.2.2⟩
theorem VOk.net {m:Dw}(h:VOk Low w₀ m):NOk Low w₀ m.net:=⟨((Lj _ _ _).1 h.1).1,λx b k a=>h.2 x (by rw[Q7];exact A9e _ b) k a⟩
theorem VOk.coils {m:Dw}(h:VOk Low w₀ m):∃(a:Option Addr) (cap:Nat),m.cv=.slice a m.coils.length cap/\(∀e∈m.coils,EOk w₀ 0 e)/\
  ∀i (h:i<m.coils.length),∃b o,a=some ⟨b,o,none⟩/\b<Low/\w₀.cell? ⟨b,o+i*2,none⟩=some (.int .i64 m.coils[i].op)/\w₀.cell? ⟨b,o+i*2+1,none⟩=some m.coils[i].av:=by
 obtain⟨_,⟨s,r⟩,_⟩:=(Lj _ _ _).1 h.1;obtain⟨a,cap,e,_,f⟩:=Q8 s;refine⟨a,cap,e,r,λi hi=>?_⟩;obtain⟨l,j⟩:=Abp m.coils i hi;obtain⟨b,d,p,q⟩:=f _ _ l;obtain⟨t,g,_,n⟩:=f _ _ j;rw[d] at g;cases g;refine⟨b,0,d,h.2 m.cv (by rw[Q7];simp[Akl]) b p,?_⟩;rw[A9c];exact⟨q,n⟩
theorem VOk.kids {m:Dw}(h:VOk Low w₀ m):∃(a:Option Addr) (cap:Nat),m.kv=.slice a m.kids.length cap/\(∀t∈m.kids,VOk Low w₀ t)/\
  ∀i (h:i<m.kids.length),∃b o,a=some ⟨b,o,none⟩/\b<Low/\Agu w₀ b (o+i*6) m.kids[i]:=by
 obtain⟨_,_,f,H⟩:=(Lj _ _ _).1 h.1;obtain⟨a,cap,e,_,d⟩:=Q8 f;refine⟨a,cap,e,λt l=>⟨H t l,λx y k f=>h.2 x ?_ k f⟩,λi hi=>?_⟩
 ·rw[Q7]
  refine A9b _ (A9b _ (A87 _ (Nj.2 ⟨t,l,y⟩)))
 ·obtain⟨v,u,C,G,s,I⟩:=U0 m.kids i hi
  obtain⟨b,j,A,B⟩:=d _ _ v;obtain⟨K,r,_,z⟩:=d _ _ u;obtain⟨L,g,_,D⟩:=d _ _ C;obtain⟨P,n,_,J⟩:=d _ _ G;obtain⟨M,p,_,E⟩:=d _ _ s;obtain⟨N,q,_,F⟩:=d _ _ I;rw[j] at r g n p q;cases r;cases g;cases n;cases p;cases q;refine⟨b,0,j,h.2 m.kv (by rw[Q7];simp[Akl]) b A,?_⟩;unfold Agu Wl;rw[A9c];exact⟨⟨B,z,D,J⟩,E,F⟩
end
variable {w₀:World}
def Akc (Low c:Nat)(w₀:World)(t:Ah)(ms:List MI):Prop:=∀a O w,Held Low w₀ O w->
 Lh prog (okS prog Low c) 109 #[.agg #[.int .i64 t.kind, .int .i64 t.op,t.av,t.kv]] a O w λv e O' w'=>e=a/\
  (∀rest,Lh prog (okS prog Low c) 107 #[.chan (some c), .int .i64 2,v] (ms.map MI.val++rest) O' w' λ_ f b d=>f=rest/\Ext Low O' b w' d/\Held Low w₀ b d)/\Ext Low O O' w w'/\Held Low w₀ O' w'
def Ayp (n:Stil.Net):Prop:=n.one.args.length<=1048576/\n.kids.length<=1000000/\∀x∈Ij n,Ae1 x/\Aj x<=1000000
theorem A0f (w₀:World)(t:Ah)(q:NOk Low w₀ t)(hg:Ayp t.net):∃ms,MIs w₀ t.vals ms (Ir t.net)/\Akc Low c w₀ t ms:=by
 obtain⟨n,m,o⟩:=hg;rw[Ah.net_eq] at n m;simp only[A9j] at n m;obtain⟨g,e,hts,z,A⟩:=A3j (c:=c) w₀ t q omz omz;have x:∀y∈g,∃d,MIs w₀ y.vals d (Az y.net)/\Afs Low c w₀ y d:=λy b=>by
  have i:y.net∈Ij t.net:=by rw[<-e];exact Ba2 b
  exact A0g w₀ y (o _ i).1 (o _ i).2 (hts y b)
 obtain⟨f,j⟩:∃f:Ah->List MI,∀y∈g,MIs w₀ y.vals (f y) (Az y.net)/\Afs Low c w₀ y (f y):=by
  classical
  refine⟨λy=>if h:∃d,MIs w₀ y.vals d (Az y.net)/\Afs Low c w₀ y d then h.choose else [],λy b=>?_⟩;have h:=x y b;simp only[h,dite_true];exact h.choose_spec
 have C:g.length<=1000001:=by
  have r:g.length=(Ij t.net).length:=by rw[<-e,A9j]
  rw[r];unfold Ij;rw[Ah.net_eq];split
  ·simp
  ·split
   ·simp only[A9j];omega
   ·simp
 refine⟨(g.map λy=>Adt 2 y (f y)).flatten,?_,λd O w hF=>(A d O w hF).mono ?_⟩
 ·unfold Ir
  rw[<-e];exact(Aih hts λy b _=>(j y b).1).sub (Ah9 z)
 ·rintro v D O' w' ⟨s,⟨a,cap,rfl,u⟩,B,l⟩
  refine⟨s,λrest=>?_,B,l⟩;rw[Ab4];exact A4m w₀ 2 (.inl rfl) g f hts (λy b _=>(j y b).2) omz rest O' w' l a cap u
def A3n (Low c:Nat)(w₀:World)(t:Dw)(vs:List MI):Prop:=∀rest O w,Held Low w₀ O w->
 Lh prog (okS prog Low c) 92 #[.chan (some c), .agg #[.int .i64 t.net.kind, .int .i64 t.net.op,t.net.av,t.net.kv,t.cv,t.kv]] (vs.map MI.val++rest) O w λ_ a O' w'=>a=rest/\Ext Low O O' w w'/\Held Low w₀ O' w'
def Agh:Stil.Arm->Prop
 | ⟨_,a,kids⟩=>a.length<=1000000/\kids.length<=1000000/\(∀x∈kids,Ayp x.net)/\∀p∈kids.map Agh,p
theorem Aq8 (n:Stil.Net)(cs:List Stil.Elem)(kids:List Stil.Arm):Agh ⟨n,cs,kids⟩↔cs.length<=1000000/\kids.length<=1000000/\(∀x∈kids,Ayp x.net)/\∀x∈kids,Agh x:=by rw[Agh,Stil.all_map]
def Yl (n i:Nat):List MI:=(Hz n i).map λx=>mi0 x.code
theorem Azn (n i:Nat):(Yl n i).map MI.val=(Hz n i).map λx=>v0 x.code:=by unfold Yl;rw[Bbf];rfl
theorem A5t (n i:Nat):MIs w₀ [] (Yl n i) (Hz n i):=by
 unfold Yl Hz;repeat' split
 all_goals first | exact MIs.nil | exact MIs.zero _
def Arc (e:Fg):MI:=⟨10,e⟩
theorem Az2:∀{a:List Fg},(∀e∈a,EOk w₀ 0 e)->MIs w₀ (Hq a) (a.map Arc) (Vr (a.map Fg.elem))
 | [],_=>MIs.nil
 | e::a,h=>(MIs.one 10 e (h e spz)).append (Az2 λx hx=>h x yBj)
theorem Ayn {n:Nat}{p:Dw->List MI × List MI}:∀{l:List Dw} (k:Nat),(∀x∈l,MIs w₀ x.net.vals (p x).1 (Ir x.net.net)/\MIs w₀ (Akl x) (p x).2 (Iu x.arm))->
  MIs w₀ (Il l) (l.mapIdx λi x=>Yl n (k+i)++((p x).1++(p x).2)).flatten ((l.map Dw.arm).mapIdx λi a=>Tz n (k+i) a).flatten
 | [],_,_=>MIs.nil
 | x::l,k,h=>by
  obtain⟨m,g⟩:=h x spz;have b:=Ayn (l:=l) (n:=n) (p:=p) (k+1) λy hy=>h y yCg
  have e:Il (x::l)=x.vals++Il l:=rfl;rw[e,Q7,A9l,List.mapIdx_cons,List.mapIdx_cons,Bag,Bag];refine MIs.append ?_ ?_
  ·have f:Tz n (k+0) x.arm=Hz n (k+0)++(Ir x.net.net++Iu x.arm):=by
    show Hz _ _++(Ir x.arm.net++_)=_
    rw[Dw.arm_eq]
   rw[f];exact((A5t n (k+0)).append (m.append g)).sub (by rw[A9u];exact Bao _)
  ·have d:∀i,k+1+i=k+(i+1):=λi=>by omega
   have o:(λ(i:Nat) (x:Dw)=>Yl n (k+1+i)++((p x).1++(p x).2))=λi x=>Yl n (k+(i+1))++((p x).1++(p x).2):=by funext i x;rw[d]
   have j:(λ(i:Nat) (a:Stil.Arm)=>Tz n (k+1+i) a)=λi a=>Tz n (k+(i+1)) a:=by funext i a;rw[d]
   rw[o,j] at b;exact b
end Go.Proofs.YtobbpffcggchmaaGreatDoor
