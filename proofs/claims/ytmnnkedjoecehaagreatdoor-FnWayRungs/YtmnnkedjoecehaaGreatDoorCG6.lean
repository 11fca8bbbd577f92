import Derived.Test.YtmnnkedjoecehaaGreatDoorCI7
set_option linter.defProp false
set_option maxRecDepth 100000
set_option maxHeartbeats 4000000
namespace Go.Proofs.YtmnnkedjoecehaaGreatDoor
open Tryz Stil Go.RowKit Go.Sort Go.BigFrame Go.Conc Go.Co
theorem Ua {w₀:World}{e:TypeId}{s n:Nat}{v:Value}{xs:List Value}(h:w₀.ownsRow 0 e s v n xs):∃a cap,v=AE a n cap/\EV a n cap/\∀j u,xs[j]?=some u->∃b,a=some (AK b 0)/\v.ownBlock=some b/\w₀.cell? (AK b j)=some u:=by
 have i:=h.2;rcases i with⟨hv,f⟩ | ⟨g,cap,cur,hv,m,_,l,_⟩
 ·refine⟨none,0,by rw[hv,f],⟨AQ,λ_=>rfl⟩,λj u hu=>?_⟩
  have d:=h.1;rw[f,FQ] at d;rw[List.length_eq_zero_iff.1 d] at hu;simp at hu
 ·refine⟨_,cap,hv,⟨l,λe=>by cases e⟩,λj u hu=>⟨g,rfl,by rw[hv];rfl,?_⟩⟩
  have:=h.cells (g:=g) yEh j u hu
  rwa [add_plain] at this
def NOk (Low:Nat)(w₀:World)(m:Ap):Prop:=MOk w₀ 0 m/\∀x∈m.vals,∀k,x.ownBlock=some k->k<Low
def Yi (w:World)(b o:Nat)(t:Ap):Prop:=w.cell? ⟨b,o,none⟩=some (AB t.kind)/\w.cell? ⟨b,o+1,none⟩=some (AB t.op)/\w.cell? ⟨b,o+2,none⟩=some t.av/\w.cell? ⟨b,o+3,none⟩=some t.kv
def S4 (Low:Nat)(O:Nat->Prop)(w:World)(a:Option Addr)(d:List Ap):Prop:=∀i (h:i<d.length),∃b o,a=some ⟨b,o,none⟩/\(O b\/b<Low)/\Yi w b (o+i*4) d[i]
section
variable {Low:Nat}{w₀ w w':World}{O O':Nat -> Prop}
def Yi.ext {b o:Nat}{t:Ap}(h:Yi w b o t)(k:C2 Low O O' w w')(a:O b\/b<Low):Yi w' b o t:=
 ⟨(k.cell a _).trans h.1,(k.cell a _).trans h.2.1,(k.cell a _).trans h.2.2.1,(k.cell a _).trans h.2.2.2⟩
def Yi.held {b o:Nat}{t:Ap}(h:Yi w₀ b o t)(k:Held Low w₀ O w)(a:b<Low):Yi w b o t:=
 ⟨(k.down a _).trans h.1,(k.down a _).trans h.2.1,(k.down a _).trans h.2.2.1,(k.down a _).trans h.2.2.2⟩
def NOk.devs {m:Ap}(h:NOk Low w₀ m):∃a cap,m.av=.slice a m.ds.length cap:=by
 obtain⟨a,cap,e,_⟩:=Ua ((Jt _ _ _).1 h.1).1;exact⟨a,cap,e⟩
theorem NOk.kids {m:Ap}(h:NOk Low w₀ m):∃(a:Option Addr) (cap:Nat),m.kv=AE a m.kids.length cap/\EV a m.kids.length cap/\(∀t∈m.kids,NOk Low w₀ t)/\
  ∀i (h:i<m.kids.length),∃b o,a=some (AK b o)/\b<Low/\Yi w₀ b (o+i*4) m.kids[i]:=by
 obtain⟨_,f,E⟩:=(Jt _ _ _).1 h.1;obtain⟨a,cap,e,u,d⟩:=Ua f;refine⟨a,cap,e,u,λt p=>⟨E t p,λx B k f=>h.2 x ?_ k f⟩,λi hi=>?_⟩
 ·rw[Ap.vals_eq]
  exact CN _ (CN _ (Rk.2 ⟨t,p,B⟩))
 ·obtain⟨v,y,r,A⟩:=Ph m.kids i hi
  obtain⟨b,l,q,s⟩:=d _ _ v;obtain⟨H,g,_,C⟩:=d _ _ y;obtain⟨F,j,_,D⟩:=d _ _ r;obtain⟨G,n,_,z⟩:=d _ _ A;rw[l] at g j n;cases g;cases j;cases n;refine⟨b,0,l,h.2 m.kv (by rw[Ap.vals_eq];simp) b q,?_⟩;unfold Yi;rw[CV];exact⟨s,C,D,z⟩
end
variable {Low c:Nat}
theorem jn (w₀:World)(t:Ap)(R:NOk Low w₀ t)(ac:t.ds.length<=1048576)(af:t.kids.length<=1048576):∃y:List Ap,y.map Ap.net=Cj t.net/\(∀x∈y,NOk Low w₀ x)/\(Gp y).Sublist t.vals/\∀g O w,Held Low w₀ O w->
  Nq prog (okS prog Low c) 97 #[.agg #[AB t.kind,AB t.op,t.av,t.kv]] g O w λv L O' w'=>L=g/\(∃a cap,v=AE a y.length cap/\S4 Low O' w' a y)/\C2 Low O O' w w'/\Held Low w₀ O' w':=by
 obtain⟨s,r,M⟩:=R.devs;obtain⟨q,m,I,aj,ah,Y⟩:=R.kids;have cZ:=t.vals_eq;have V:=t.net_eq;obtain⟨n,rfl⟩:=AA t
 rw[M,I];have zO:Hid (Am n.net=((n.kind==0 && (n.op==0 && n.ds.length==0)) && n.kids.length==0)):=by
  show _=_
  rw[V];unfold Am;simp only[Bool.and_assoc,CW]
 have D:Hid (Cj n.net=if Am n.net then [] else if n.kind=2 then n.kids.map Ap.net else [n.net]):=by
  show _=_
  unfold Cj;rw[V]
 clear V aj
 have C:Hid (∀g O W,Held Low w₀ O W->Nq prog (okS prog Low c) 91 #[.agg #[AB n.kind,AB n.op,AE s n.ds.length r,AE q n.kids.length m]] g O W
   λv L O' w'=>v=.bool (Am n.net)/\L=g/\C2 Low O O' W w'/\Held Low w₀ O' w'):=λg O W h=>by rw[zO.out];exact jh _ _ _ _ _ _ _ _ ac af w₀ g O W h
 obtain⟨H,ab⟩:=AA (Am n.net)
 rw[<-ab] at C D;have ae:=AV M;have ai:=AV I;have fU:=AV cZ;clear ab zO M I cZ;have X:=resultsC_tmp (P:=prog) (fn:=Tryz.f97) rfl;cases H with
 | true=>
  refine⟨[],by rw[D.out];rfl,AU,List.nil_sublist _,λg O w hF=>?_⟩;refine Io func97 Ab rfl ?_;simp only[ntmps97,Cd,CH,CP,Nat.reduceAdd,Nat.reduceSub,DK,DL,DJ,DN,C5,C4];refine Lh (Ba _ _ _) ?_
  (refine Gh (Ba _ _ _) ?_;simp only[Cd,CH,CP,Nat.reduceAdd,CV,List.range,List.range.loop])
  refine kB hF #[AB n.kind,AB n.op,AE s n.ds.length r,AE q n.kids.length m] 59 λO1 W1 b1 A B l Z d=>?_
  try walk_nrm
  have _Y:=cs4 d;refine kW ?_;clear _Y
  (refine Hg (Ba _ _ _) rfl Ab rfl (C _ _ _ B) BM ?_;rintro _ _ O2 W2 ⟨rfl,rfl,j,u⟩;try walk_nrm)
  refine kW ?_;exact⟨rfl,_,X _,rfl,⟨none,0,rfl,λi hi=>by simp at hi⟩,A.trans j,u⟩
 | false=>
  by_cases h2:n.kind=2
  ·refine⟨n.kids,by rw[D.out];simp[h2],ah,by rw[fU.out];exact((E7 _).cons _).cons _,λg O w hF=>?_⟩
   rw[h2] at C ⊢;refine Io func97 Ab rfl ?_;simp only[ntmps97,Cd,CH,CP,Nat.reduceAdd,Nat.reduceSub,DK,DL,DJ,DN,C5,C4];refine Lh (Ba _ _ _) ?_
   (refine Gh (Ba _ _ _) ?_;simp only[Cd,CH,CP,Nat.reduceAdd,CV,List.range,List.range.loop])
   refine kB hF #[AB 2,AB n.op,AE s n.ds.length r,AE q n.kids.length m] 59 λO1 W1 b1 A B l Z d=>?_
   try walk_nrm
   have _Y:=cs4 d;refine kW ?_;clear _Y
   (refine Hg (Ba _ _ _) rfl Ab rfl (C _ _ _ B) BM ?_;rintro _ _ O2 W2 ⟨rfl,rfl,j,u⟩;try walk_nrm)
   replace d:=Hi d j l;replace l:=j.own _ l;have _Y:=cs4 d;refine kW ?_;clear _Y;refine⟨rfl,_,X _,rfl,⟨q,m,rfl,λi hi=>?_⟩,A.trans j,u⟩;obtain⟨b,o,ha,hb,hc⟩:=Y i hi;exact⟨b,o,ha, .inr hb,hc.held u hb⟩
  ·refine⟨[n],by rw[D.out];simp[h2],λx hx=>by rw[List.mem_singleton.1 hx];exact R,by rw[Nb];exact E7 _,λg O w hF=>?_⟩
   have ak:(n.kind==2)=false:=by rw[CS];exact h2
   clear Y;refine Io func97 Ab rfl ?_;simp only[ntmps97,Cd,CH,CP,Nat.reduceAdd,Nat.reduceSub,DK,DL,DJ,DN,C5,C4];refine Lh (Ba _ _ _) ?_
   (refine Gh (Ba _ _ _) ?_;simp only[Cd,CH,CP,Nat.reduceAdd,CV,List.range,List.range.loop])
   refine kB hF #[AB n.kind,AB n.op,AE s n.ds.length r,AE q n.kids.length m] 59 λO1 W1 b1 A B l Z d=>?_
   try walk_nrm
   have _Y:=cs4 d;refine kW ?_;clear _Y
   (refine Hg (Ba _ _ _) rfl Ab rfl (C _ _ _ B) BM ?_;rintro _ _ O2 W2 ⟨rfl,rfl,j,u⟩;try walk_nrm)
   replace d:=Hi d j l;replace l:=j.own _ l;have _Y:=cs4 d;refine kW ?_;clear _Y;refine Og (Ba _ _ _) rfl Ab ?_ ?_
   ·intro _;simp[go_sem];done
   intro w₁ hR K hK;go_simp;refine hK _ _ ?_;clear hK K;obtain⟨O3,eO,N,J,U,aa,E⟩:=boxed u hR #[AB n.kind,AB n.op,AE s n.ds.length r,AE q n.kids.length m] 59;rw[<-eO];clear eO
   revert N J U aa E
   generalize w₁.alloc (.cells #[AB n.kind,AB n.op,AE s n.ds.length r,AE q n.kids.length m] 59)=W3;generalize w₁.heap.size=b3;intro N J U aa E;have F:=AV E;clear E hR w₁;try walk_nrm
   refine kW ?_;refine⟨rfl,_,X _,rfl,⟨some (AK b3 0),1,rfl,λi hi=>?_⟩,(A.trans j).trans N,J⟩;have ag:i=0:=by simp at hi;exact hi
   subst ag;refine⟨b3,0,rfl, .inl U,F _ (Keep.refl _ _ _) 0,F _ (Keep.refl _ _ _) 1,?_,?_⟩
   ·rw[show([n]:List Ap)[0].av=_ from ae.out];exact F _ (Keep.refl _ _ _) 2
   ·rw[show([n]:List Ap)[0].kv=_ from ai.out];exact F _ (Keep.refl _ _ _) 3
variable {Low c:Nat}
def JJ (Low c:Nat)(w₀:World)(t:Ap)(vs:List MI):Prop:=∀rest O w,Held Low w₀ O w->
 Nq prog (okS prog Low c) 98 #[.chan (some c), .agg #[AB t.kind,AB t.op,t.av,t.kv]] (vs.map MI.val++rest) O w λ_ a O' w'=>a=rest/\C2 Low O O' w w'/\Held Low w₀ O' w'
def FX (k:Int)(t:Ap)(vs:List MI):List MI:=if t.kind=1 then [⟨k,⟨t.op,t.ds,t.av⟩⟩] else vs++[mi0 (k+2)]
def zx0 {p:Prop}(h:p:=by
 refine kW ?_
 exact⟨_,_,rfl,by first | rfl | trivial,by first | rfl | trivial,by first | rfl | trivial⟩):p:=h
theorem SX (w₀:World)(k:Int)(hk:k=2\/k=3)(g:List Ap)(f:Ap->List MI)(hts:∀t∈g,NOk Low w₀ t)(hB:∀t∈g,t.kind≠1->JJ Low c w₀ t (f t))(hl:g.length<=1048576)(rest:List Value)(O:Nat->Prop)(w:World)(hF:Held Low w₀ O w)(a:Option Addr)(cap:Nat)(hr:S4 Low O w a g):
  Nq prog (okS prog Low c) 134 #[.chan (some c),AB k,AE a g.length cap] ((g.map λt=>(FX k t (f t)).map MI.val).flatten++rest) O w λ_ H O' w'=>H=rest/\C2 Low O O' w w'/\Held Low w₀ O' w':=by
 have aA:=resultsC_none (P:=prog) (fn:=Tryz.f134) rfl;refine Io func134 Ab rfl ?_;simp only[ntmps134,Cd,CH,CP,Nat.reduceAdd,Nat.reduceSub,DK,DL,DJ,DN,C5,C4];refine kW ?_;refine jt (λT H O' w'=>∃Y U,T=⟨#[.chan (some c),AB k,AE a g.length cap,undef,undef,undef,AB k,AB (k+2),undef,undef,Y,U,undef,undef,undef,undef,undef,undef,undef,undef,undef,undef,undef,undef,undef,undef,undef,undef,undef,undef,undef,undef,undef],[]⟩/\H=(g.map λt=>(FX k t (f t)).map MI.val).flatten++rest/\O=O'/\w=w') ?_ ?_
 ·rcases hk with rfl | rfl
  ·exact zx0
  ·exact zx0
 rintro _ _ _ _ ⟨Y,U,rfl,rfl,rfl,rfl⟩;refine kW ?_
 refine Zg (Ba _ _ _) (λn T H O' w'=>∃(j:Nat) (u9 ah ap lH lG sF al au aw ao ak ai ae ax ab ar ac ag az:Value),j<=g.length/\n=g.length - j/\T=⟨#[.chan (some c),AB k,AE a g.length cap,undef,undef,undef,AB k,AB (k+2),undef,u9,Y,U,AE a g.length cap,AB g.length,AB j,ah,ap,lH,lG,sF,al,au,aw,ao,ak,ai,ae,ax,ab,ar,ac,ag,az],[]⟩/\
  H=((g.drop j).map λt=>(FX k t (f t)).map MI.val).flatten++rest/\C2 Low O O' w w'/\Held Low w₀ O' w') g.length ⟨0,undef,undef,undef,undef,undef,undef,undef,undef,undef,undef,undef,undef,undef,undef,undef,undef,undef,undef,undef,DZ _,rfl,rfl,rfl,C2.refl _ _ _,hF⟩ ?_
 rintro n _ _ O1 W1 ⟨j,u9,ah,ap,lH,lG,sF,al,au,aw,ao,ak,ai,ae,ax,ab,ar,ac,ag,az,hj,rfl,rfl,rfl,A,aa⟩;dsimp only;by_cases Q:j<g.length
 ·have aC:(j:Int)<(g.length:Int):=by omega
  obtain⟨b,o,rfl,V,C⟩:=hr j Q;have R:=CJ Q;have aj:=F3 Q;have F:=hts _ R;have J:=hB _ R;rw[aj]
  revert C F J
  generalize g[j]=t;intro C F J;obtain⟨u,r,ay⟩:=F.devs;obtain⟨v,y,an,_⟩:=F.kids;clear F;obtain⟨n,op,s,av,kv,kids⟩:=t;dsimp only at ay an J;subst ay an;replace C:=C.ext A V;have Z:=V.imp (A.own b) id;have jC:=AV (λW (X:Keep Low O1 W1 W)=>C.ext X.ext Z);clear C aj R hr hB hts;have _Y:=jC.out;have _B:=Z;simp only[Yi] at _Y;refine kW ?_;clear _Y _B;refine Og (Ba _ _ _) rfl Ab ?_ ?_
  ·intro _;simp[go_sem];done
  intro i hR K hK;go_simp;refine hK _ _ ?_;clear hK K;obtain⟨O2,eO,m,q,l,M,I,B⟩:=K2 aa hR #[AB 0,AB 0,AG,AG] 59;rw[<-eO];clear eO
  revert m q l M I B
  generalize i.alloc (.cells #[AB 0,AB 0,AG,AG] 59)=W2;generalize i.heap.size=b2;intro m q l M I B;replace m:=A.trans m;replace I :=λx hx=>I x (A.own x hx)
  clear hR i;try walk_nrm
  refine Yt (Ba _ _ _) b2 l rfl Ab ?_ ?_
  ·intro i hR e he
   have d:=(hR.mine _ l).trans B;have y0:i.cell? (AK b2 0)=some (AB 0):=cell_of_heap d 0;have z0:=frozen_of_heap d 0;have y1:i.cell? (AK b2 1)=some (AB 0):=cell_of_heap d 1;have z1:=frozen_of_heap d 1;have y2:i.cell? (AK b2 2)=some AG:=cell_of_heap d 2;have z2:=frozen_of_heap d 2;have y3:i.cell? (AK b2 3)=some AG:=cell_of_heap d 3;have z3:=frozen_of_heap d 3;clear d;simp[go_sem,events_store_slice,storedEv, *] at he
   (first | (subst he;exact⟨_,_,rfl, .inl l⟩) | (rcases he with rfl | rfl<;>exact⟨_,_,rfl, .inl l⟩) | (rcases he with rfl | rfl | rfl | rfl<;>exact⟨_,_,rfl, .inl l⟩) | (rcases he with rfl | rfl | rfl | rfl | rfl | rfl<;>exact⟨_,_,rfl, .inl l⟩))
  intro i hR K hK;have d:=(hR.mine _ l).trans B;have y0:i.cell? (AK b2 0)=some (AB 0):=cell_of_heap d 0;have z0:=frozen_of_heap d 0;have y1:i.cell? (AK b2 1)=some (AB 0):=cell_of_heap d 1;have z1:=frozen_of_heap d 1;have y2:i.cell? (AK b2 2)=some AG:=cell_of_heap d 2;have z2:=frozen_of_heap d 2;have y3:i.cell? (AK b2 3)=some AG:=cell_of_heap d 3;have z3:=frozen_of_heap d 3;clear d;go_simp;try (unfold stored;go_simp)
  have d:=(hR.mine _ l).trans B;have N:EL b2 i ((((i.setCell (AK b2 0) (AB n)).setCell (AK b2 1) (AB op)).setCell (AK b2 2) (AE u s.length r)).setCell (AK b2 3) (AE v kids.length y)):=(((((EL.refl _ _).set 0 (AB n)).set 1 (AB op)).set 2 (AE u s.length r)).set 3 (AE v kids.length y))
  have L:((((i.setCell (AK b2 0) (AB n)).setCell (AK b2 1) (AB op)).setCell (AK b2 2) (AE u s.length r)).setCell (AK b2 3) (AE v kids.length y)).heap[b2]?=some (.cells #[AB n,AB op,AE u s.length r,AE v kids.length y] 59):=(heap_setCell (heap_setCell (heap_setCell (heap_setCell d 0 (AB n)) 1 (AB op)) 2 (AE u s.length r)) 3 (AE v kids.length y))
  refine hK _ _ N ?_;clear hK K d y0 z0 y1 z1 y2 z2 y3 z3 B;replace m:=(m.rely hR).put N M I;replace q:=(q.rely hR).put N M
  revert m q L
  clear N hR;generalize ((((i.setCell (AK b2 0) (AB n)).setCell (AK b2 1) (AB op)).setCell (AK b2 2) (AE u s.length r)).setCell (AK b2 3) (AE v kids.length y))=W2;intro L m q;have af:Hid (∀W,Keep Low O2 W2 W->∀E,W.cell? (AK b2 E)=(#[AB n,AB op,AE u s.length r,AE v kids.length y]:Array Value)[E]?):=λW X E=>(X.ext.cell (.inl l) E).trans (cell_of_heap L E)
  clear L;try walk_nrm
  have vg:IntKind.i64.wrap ((j:Int)+1)=((j+1:Nat):Int):=by rw[IntKind.wrap_i64];omega
  clear Z A aa V jC;by_cases D:n=1
  ·have e1:(n==1)=true:=by rw[ED];exact D
   rw[D3,FX,if_pos D,CQ,C6,MI.val,C4,C5,C4];have _Y:=cs4 af;refine kW ?_;clear _Y;exact⟨g.length - (j+1),AQ,j+1,_,_,_,_,_,_,_,_,_,_,_,_,_,_,_,_,_,_,_,AQ,rfl,rfl,rfl,m,q⟩
  ·have e1:(n==1)=false:=by rw[CS];exact D
   have oG:=J D;rw[D3,FX,if_neg D,CU,CQ,C6,EI,EI,C4,C5];have _Y:=cs4 af;refine kW ?_;clear _Y
   (refine Hg (Ba _ _ _) rfl Ab rfl (oG _ _ _ q) BM ?_;rintro _ _ O3 W3 ⟨rfl,jA,aB⟩;try walk_nrm)
   simp only[MI.val,mi0];refine kW ?_;exact⟨g.length - (j+1),AQ,j+1,_,_,_,_,_,_,_,_,_,_,_,_,_,_,_,_,_,_,_,AQ,rfl,rfl,rfl,m.trans jA,aB⟩
 ·have aD:¬(j:Int)<(g.length:Int):=by omega
  have hd:g.drop j=[]:=RR AQ;rw[hd];refine kW ?_;exact⟨rfl,_,aA _,rfl,A,aa⟩
variable {Low c:Nat}
def bl (vs:List Value):List Nat:=vs.filterMap Value.ownBlock
def ZE (a b:List Value):bl (a++b)=bl a++bl b:=List.filterMap_append
def J2 {a b:List Value}(h:a.Sublist b):(bl a).Sublist (bl b):=h.filterMap _
def MIs (w₀:World)(S:List Value)(ms:List MI)(is:List Stil.Gf):Prop:=ms.map MI.inst=is/\(∀x∈ms,EOk w₀ 0 x.e)/\(bl (ms.map (·.e.av))).Sublist (bl S)
section
variable {w₀:World}{S S':List Value}{ms ms':List MI}{is is':List Stil.Gf}
def MIs.append (h:MIs w₀ S ms is)(a:MIs w₀ S' ms' is'):MIs w₀ (S++S') (ms++ms') (is++is'):=by
 refine⟨by rw[CU,h.1,a.1],λx b=>(List.mem_append.1 b).elim (h.2.1 x) (a.2.1 x),?_⟩;rw[CU,ZE,ZE];exact h.2.2.append a.2.2
def MIs.sub (h:MIs w₀ S ms is)(a:(bl S).Sublist (bl S')):MIs w₀ S' ms is:=⟨h.1,h.2.1,h.2.2.trans a⟩
def MIs.nil:MIs w₀ [] [] []:=⟨rfl,AU,E7 _⟩
def MIs.zero (k:Int):MIs w₀ [] [mi0 k] [Iw k]:=⟨rfl,λx a=>by rw[List.mem_singleton.1 a];exact World.ownsRow_nil _ _ _ _,E7 _⟩
def MIs.snoc (h:MIs w₀ S ms is)(k:Int):MIs w₀ S (ms++[mi0 k]) (is++[Iw k]):=(h.append (MIs.zero k)).sub (by rw[GI];exact E7 _)
def MIs.one (k:Int)(e:Eo)(h:EOk w₀ 0 e):MIs w₀ [e.av] [⟨k,e⟩] [⟨k,e.elem⟩]:=⟨rfl,λx a=>by rw[List.mem_singleton.1 a];exact h,E7 _⟩
end
variable {k:Int}{w₀:World}
def FY:Stil.B8->Prop
 | ⟨k,_,kids⟩=>(1<=k/\k<=4)/\(k≠1->kids≠[])/\∀p∈kids.map FY,p
def ZL (k:Int)(e:Stil.Elem)(kids:List Stil.B8):FY ⟨k,e,kids⟩↔(1<=k/\k<=4)/\(k≠1->kids≠[])/\∀x∈kids,FY x:=by rw[FY,Stil.all_map]
theorem j0 {t:Ap}{vs:List MI}(d:NOk Low w₀ t)(h:t.kind≠1->MIs w₀ t.vals vs (Bv t.net)):MIs w₀ t.vals (FX k t vs) (Bq k t.net):=by
 have b:t.net.kind=t.kind:=by rw[Ap.net_eq]
 unfold FX;by_cases a:t.kind=1
 ·rw[if_pos a,Na _ _ (b.trans a),Ap.net_eq]
  refine(MIs.one (w₀:=w₀) k ⟨t.op,t.ds,t.av⟩ ((Jt _ _ _).1 d.1).1).sub ?_;rw[Ap.vals_eq];exact J2 (List.Sublist.cons_cons _ (List.nil_sublist _))
 ·rw[if_neg a,Jq _ _ (λe=>a (b.symm.trans e))]
  exact(h a).snoc _
theorem PV {f:Ap->List MI}:∀{a:List Ap},(∀t∈a,NOk Low w₀ t)->(∀t∈a,t.kind≠1->MIs w₀ t.vals (f t) (Bv t.net))->MIs w₀ (Gp a) (a.map λt=>FX k t (f t)).flatten ((a.map Ap.net).map (Bq k)).flatten
 | [],_,_=>MIs.nil
 | t::a,d,b=>by
  rw[CQ,D3,CQ,CQ,D3];exact(j0 (d t AU) (b t AU)).append (PV (λx hx=>d x BQ) λx hx=>b x BQ)
def UF (a:List Ap)(g:Ap->List MI):((a.map g).flatten).map MI.val=(a.map λt=>(g t).map MI.val).flatten:=by rw[List.map_flatten,EZ];rfl
def Az8 {w:World}{O:Nat->Prop}(h:Held Low w₀ O w)(d:Nat):Held Low w₀ O {w with drawn:=d}:=⟨h.still,h.low,h.up,h.os,h.out⟩
def jY {w w':World}{O O':Nat->Prop}(h:C2 Low O O' w w')(d:Nat):C2 Low O O' w {w' with drawn:=d}:=⟨h.own,h.still,h.mine,h.size⟩
theorem SA (w₀:World)(n:Ap):FY n.net->Ai n.net<=1000000->NOk Low w₀ n->∃V,MIs w₀ n.vals V (Bv n.net)/\JJ Low c w₀ n V:=by
 induction n using Zq with
 | h k op q av kv kids ih=>
  intro R L X;have I:=Ap.vals_eq ⟨k,op,q,av,kv,kids⟩;rw[Ap.net_eq] at R L ⊢;dsimp only at R L I ⊢;obtain⟨⟨aL,aH⟩,ag,Y⟩:=(ZL _ _ _).1 R;rw[Ej] at L;simp only at L;have ar:∀x∈kids,Ai x.net<=1000000:=λx hx=>by have:Ai x.net<=Stil.sizes (kids.map Ap.net):=Eb Ai _ x.net (FC hx);omega
  have ak:kids.length<=999999:=by have:=Jl (kids.map Ap.net);rw[CW] at this;omega
  replace Y:∀x∈kids,FY x.net:=λx hx=>Y _ (FC hx)
  obtain⟨C,B,aB⟩:=X.devs;obtain⟨p1,j,aA,af,H,N⟩:=X.kids;have ac:=((Jt _ _ _).1 X.1).1;dsimp only at aB aA af ac H N;subst aB aA;have ah:=resultsC_none (P:=prog) (fn:=Tryz.f98) rfl;by_cases h1:k=1
  ·subst h1
   refine⟨[⟨1,⟨op,q,AE C q.length B⟩⟩],?_,λrest O w hF=>?_⟩
   ·rw[Oy,I]
    exact(MIs.one (w₀:=w₀) 1 ⟨op,q,AE C q.length B⟩ ac).sub (J2 (List.Sublist.cons_cons _ (List.nil_sublist _)))
   clear I ar ak Y R L X ih H N ac ag af;rw[CQ,C6,MI.val,C4,C5];dsimp only;refine Io func98 Ab rfl ?_;simp only[ntmps98,Cd,CH,CP,Nat.reduceAdd,Nat.reduceSub,DK,DL,DJ,DN,C5,C4];refine Lh (Ba _ _ _) ?_
   (refine Gh (Ba _ _ _) ?_;simp only[Cd,CH,CP,CV,List.range,List.range.loop])
   refine kB hF #[AB 1,AB op,AE C q.length B,AE p1 kids.length j] 59 λO1 W1 s U E d au r=>?_
   try walk_nrm
   have _Y:=cs4 r;refine kW ?_;clear _Y;exact⟨rfl,_,ah _,rfl,U,E⟩
  obtain⟨t,g,rfl⟩:=M3 (λe=>ag h1 (by rw[e];rfl):kids≠[]);obtain⟨b,o,rfl,az,ap⟩:=N 0 AU;rw[EO,FQ,ER] at ap;have aI:g.length+1<=j:=by have:=af.1;simp only[CH] at this;exact this
  have ay:∀i (h:i<g.length),b<Low/\Yi w₀ b (o+4+i*4) g[i]:=λi hi=>by
   obtain⟨b',o',e',ab,ae⟩:=N (i+1) Ax;cases e';rw[K5] at ae;exact⟨ab,by rw[show o+4+i*4=o+(i+1)*4 by omega];exact ae⟩
  have ai:=λy hy=>ih y hy (Y _ hy) (ar _ hy) (H y hy)
  obtain⟨vt,aj,aw⟩:=ai t AU;have aK:(k==1)=false:=by rw[CS];exact h1
  have eu:=H t AU;have aJ:g.length<=999999:=by simp only[CH] at ak;omega
  clear ih ar N Y ak R ag L af;obtain⟨pa,ra,ax⟩:=eu.devs;obtain⟨pk,rk,aC,_⟩:=eu.kids;have x9:Hid ((k=4->MIs w₀ (Ap.vals ⟨k,op,q,AE C q.length B, .slice (some (AK b o)) (t::g).length j,t::g⟩) (vt++[mi0 6]) (Bv t.net++[Iw 6]))/\∀ao is',MIs w₀ (Gp g) ao is'->MIs w₀ (Ap.vals ⟨k,op,q,AE C q.length B, .slice (some (AK b o)) (t::g).length j,t::g⟩) (vt++ao) (Bv t.net++is')):=by
   have e:Gp (t::g)=t.vals++Gp g:=rfl;have aD:(bl t.vals).Sublist (bl (Ap.vals ⟨k,op,q,AE C q.length B, .slice (some (AK b o)) (t::g).length j,t::g⟩)):=by
    rw[I,e];exact J2 (((List.sublist_append_left _ _).cons _).cons _)
   refine⟨λ_=>(aj.snoc 6).sub aD,λao is' h'=>(aj.append h').sub ?_⟩;rw[I,e];exact J2 (((E7 _).cons _).cons _)
  clear I aj X;have xy:Hid (∀Z,Z≠1->Z≠4->Bv ⟨Z,⟨op,q⟩,(t::g).map Ap.net⟩=Bv t.net++((g.map Ap.net).map (Bq Z)).flatten):=λZ h1 h4=>by rw[CQ,Mc _ _ _ h1 h4]
  have zO:Hid (Bv ⟨4,⟨op,q⟩,(t::g).map Ap.net⟩=Bv t.net++[Iw 6]):=by show _=_;rw[CQ,Oz]
  obtain⟨t1,tp,td,ta,tk,ts⟩:=t;dsimp only at ax aC;subst ax aC;by_cases h4:k=4
  ·subst h4
   refine⟨vt++[mi0 6],by rw[zO.out];exact x9.1 rfl,λrest O w hF=>?_⟩;clear x9 zO xy;rw[CU,CQ,C6,EI,C4,C5];dsimp only;simp only[CH];refine Io func98 Ab rfl ?_;simp only[ntmps98,Cd,CH,CP,Nat.reduceAdd,Nat.reduceSub,DK,DL,DJ,DN,C5,C4];refine Lh (Ba _ _ _) ?_
   (refine Gh (Ba _ _ _) ?_;simp only[Cd,CH,CP,CV,List.range,List.range.loop])
   refine kB hF #[AB 4,AB op,AE C q.length B,AE (some (AK b o)) (g.length+1) j] 59 λO1 W1 s U E d au r=>?_
   try walk_nrm
   have tu:=AV (λW (F:Keep Low O1 W1 W)=>ap.held (E.rely F) az);have _Y:=λW h=>And.intro (cs4 r W h) (tu W h)
   simp only[Yi] at _Y;refine kW ?_;clear _Y
   (refine Hg (Ba _ _ _) rfl Ab rfl (aw _ _ _ E) BM ?_;rintro _ _ O2 W2 ⟨rfl,D,an⟩;try walk_nrm)
   replace r:=Hi r D d;replace d:=D.own _ d;simp only[MI.val,mi0];have _Y:=cs4 r;refine kW ?_;clear _Y;exact⟨rfl,_,ah _,rfl,U.trans D,an⟩
  have gK:k=2\/k=3:=AQ
  have ja:(k==4)=false:=by rw[CS];exact h4
  obtain⟨f,hf⟩:∃f:Ap->List MI,∀y∈g,MIs w₀ y.vals (f y) (Bv y.net)/\JJ Low c w₀ y (f y):=by
   classical
   refine⟨λy=>if h:∃V,MIs w₀ y.vals V (Bv y.net)/\JJ Low c w₀ y V then h.choose else [],λy hy=>?_⟩;have h:=ai y BN;simp only[h,dite_true];exact h.choose_spec
  have al:∀y∈g,NOk Low w₀ y:=λy hy=>H y BN
  refine⟨vt++(g.map λy=>FX k y (f y)).flatten,?_,λrest O w hF=>?_⟩
  ·rw[xy.out k h1 h4]
   exact x9.2 _ _ (PV al λy hy _=>(hf y hy).1)
  clear x9 zO xy;rw[CU,UF,EI];dsimp only;simp only[CH]
  have HT:=AV (λO W F=>by
   have:=SX (c:=c) w₀ k gK g f al (λy hy _=>(hf y hy).2) AQ rest O W F (if j=1 then some (AK b o) else some (AK b (o+4))) (j - 1) (λi hi=>by
    obtain⟨ab,ae⟩:=ay i hi;have aG:¬j=1:=AQ
    rw[if_neg aG]
    exact⟨b,o+4,rfl, .inr ab,ae.held F ab⟩)
   exact this)
  clear hf ai ay al H ac;generalize (g.map λt=>(FX k t (f t)).map MI.val).flatten=tl at*;generalize g.length=m at*;refine Io func98 Ab rfl ?_;simp only[ntmps98,Cd,CH,CP,Nat.reduceAdd,Nat.reduceSub,DK,DL,DJ,DN,C5,C4];refine Lh (Ba _ _ _) ?_
  (refine Gh (Ba _ _ _) ?_;simp only[Cd,CH,CP,CV,List.range,List.range.loop])
  refine kB hF #[AB k,AB op,AE C q.length B,AE (some (AK b o)) (m+1) j] 59 λO1 W1 s U E d au r=>?_
  try walk_nrm
  have tu:=AV (λW (F:Keep Low O1 W1 W)=>ap.held (E.rely F) az);have _Y:=λW h=>And.intro (cs4 r W h) (tu W h)
  simp only[Yi] at _Y;refine kW ?_;clear _Y
  (refine Hg (Ba _ _ _) rfl Ab rfl (aw _ _ _ E) BM ?_;rintro _ _ O2 W2 ⟨rfl,D,an⟩;try walk_nrm)
  replace r:=Hi r D d;replace d:=D.own _ d;have _Y:=cs4 r;refine kW ?_;clear _Y;have aF:(1:Int)<=(m:Int)+1:=AQ
  have aM:∀(W:World) (es:Array Event),(Instr.sliceAt 57 (AE (some (AK b o)) (m+1) j) (some (AB 1)) none none).events prog W es=es:=λW es=>qp _ underlying57 _ _ _ aF
  refine pB (Ba _ _ _) (λW=>W.cell? (AK s 0)=some (AB k)/\W.cell? (AK s 3)=some (AE (some (AK b o)) (m+1) j)) 6 AX rfl λw₁ hR=>?_
  have M:∀aa v:World,(aa.cell? (AK s 0)=some (AB k)/\aa.cell? (AK s 3)=some (AE (some (AK b o)) (m+1) j))->Keep Low O2 aa v->(v.cell? (AK s 0)=some (AB k)/\v.cell? (AK s 3)=some (AE (some (AK b o)) (m+1) j)):=λaa v hu hk=>⟨(hk.ext.cell (.inl d) _).trans hu.1,(hk.ext.cell (.inl d) _).trans hu.2⟩
  have J:({w₁ with drawn:=w₁.drawn+1}:World).cell? (AK s 0)=some (AB k)/\({w₁ with drawn:=w₁.drawn+1}:World).cell? (AK s 3)=some (AE (some (AK b o)) (m+1) j):=⟨r _ hR 0,r _ hR 3⟩
  simp only[Cd,CH,CP,Nat.reduceAdd,CV]
  (refine Wu (Ba _ _ _) M (i:=0) (v:=.chan (some c)) rfl BI BI BI BI BI (.inl ⟨Ab,λW1 l=>⟨run_eq_of ?_,⟨λ_ _ _=>rfl,CG _,rfl,rfl,rfl,?_⟩⟩⟩) J ?_;(focus (intro K hK;obtain⟨A,u⟩:=l;go_simp;exact hK));(focus (rw[J3];intro e he;replace he:=mem_listed he;obtain⟨A,u⟩:=l;simp[go_sem, *] at he;try (refine Or.inl ?_;(first | (subst he;exact⟨_,_,rfl, .inl d⟩) | (rcases he with rfl | rfl<;>exact⟨_,_,rfl, .inl d⟩) | (rcases he with rfl | rfl | rfl | rfl<;>exact⟨_,_,rfl, .inl d⟩) | (rcases he with rfl | rfl | rfl | rfl | rfl | rfl<;>exact⟨_,_,rfl, .inl d⟩)))));try walk_nrm)
  (refine Wu (Ba _ _ _) M (i:=1) (v:=AH s) rfl BI BI BI BI BI (.inl ⟨Ab,λW1 l=>⟨run_eq_of ?_,⟨λ_ _ _=>rfl,CG _,rfl,rfl,rfl,?_⟩⟩⟩) J ?_;(focus (intro K hK;obtain⟨A,u⟩:=l;go_simp;exact hK));(focus (rw[J3];intro e he;replace he:=mem_listed he;obtain⟨A,u⟩:=l;simp[go_sem, *] at he;try (refine Or.inl ?_;(first | (subst he;exact⟨_,_,rfl, .inl d⟩) | (rcases he with rfl | rfl<;>exact⟨_,_,rfl, .inl d⟩) | (rcases he with rfl | rfl | rfl | rfl<;>exact⟨_,_,rfl, .inl d⟩) | (rcases he with rfl | rfl | rfl | rfl | rfl | rfl<;>exact⟨_,_,rfl, .inl d⟩)))));try walk_nrm)
  (refine Wu (Ba _ _ _) M (i:=2) (v:=AB k) rfl BI BI BI BI BI (.inl ⟨Ab,λW1 l=>⟨run_eq_of ?_,⟨λ_ _ _=>rfl,CG _,rfl,rfl,rfl,?_⟩⟩⟩) J ?_;(focus (intro K hK;obtain⟨A,u⟩:=l;go_simp;exact hK));(focus (rw[J3];intro e he;replace he:=mem_listed he;obtain⟨A,u⟩:=l;simp[go_sem, *] at he;try (refine Or.inl ?_;(first | (subst he;exact⟨_,_,rfl, .inl d⟩) | (rcases he with rfl | rfl<;>exact⟨_,_,rfl, .inl d⟩) | (rcases he with rfl | rfl | rfl | rfl<;>exact⟨_,_,rfl, .inl d⟩) | (rcases he with rfl | rfl | rfl | rfl | rfl | rfl<;>exact⟨_,_,rfl, .inl d⟩)))));try walk_nrm)
  (refine Wu (Ba _ _ _) M (i:=3) (v:=.pointer (some (AK s 3))) rfl BI BI BI BI BI (.inl ⟨Ab,λW1 l=>⟨run_eq_of ?_,⟨λ_ _ _=>rfl,CG _,rfl,rfl,rfl,?_⟩⟩⟩) J ?_;(focus (intro K hK;obtain⟨A,u⟩:=l;go_simp;exact hK));(focus (rw[J3];intro e he;replace he:=mem_listed he;obtain⟨A,u⟩:=l;simp[go_sem, *] at he;try (refine Or.inl ?_;(first | (subst he;exact⟨_,_,rfl, .inl d⟩) | (rcases he with rfl | rfl<;>exact⟨_,_,rfl, .inl d⟩) | (rcases he with rfl | rfl | rfl | rfl<;>exact⟨_,_,rfl, .inl d⟩) | (rcases he with rfl | rfl | rfl | rfl | rfl | rfl<;>exact⟨_,_,rfl, .inl d⟩)))));try walk_nrm)
  (refine Wu (Ba _ _ _) M (i:=4) (v:=AE (some (AK b o)) (m+1) j) rfl BI BI BI BI BI (.inl ⟨Ab,λW1 l=>⟨run_eq_of ?_,⟨λ_ _ _=>rfl,CG _,rfl,rfl,rfl,?_⟩⟩⟩) J ?_;(focus (intro K hK;obtain⟨A,u⟩:=l;go_simp;exact hK));(focus (rw[J3];intro e he;replace he:=mem_listed he;obtain⟨A,u⟩:=l;simp[go_sem, *] at he;try (refine Or.inl ?_;(first | (subst he;exact⟨_,_,rfl, .inl d⟩) | (rcases he with rfl | rfl<;>exact⟨_,_,rfl, .inl d⟩) | (rcases he with rfl | rfl | rfl | rfl<;>exact⟨_,_,rfl, .inl d⟩) | (rcases he with rfl | rfl | rfl | rfl | rfl | rfl<;>exact⟨_,_,rfl, .inl d⟩)))));try walk_nrm)
  (refine Wu (Ba _ _ _) M (i:=5) (v:=AE (if j=1 then some (AK b o) else some (AK b (o+4))) m (j - 1)) rfl BI BI BI BI BI (.inl ⟨Ab,λW1 l=>⟨run_eq_of ?_,⟨λ_ _ _=>rfl,CG _,rfl,rfl,rfl,?_⟩⟩⟩) J ?_;(focus (intro K hK;obtain⟨A,u⟩:=l;go_simp;exact hK));(focus (rw[J3];intro e he;replace he:=mem_listed he;obtain⟨A,u⟩:=l;simp[go_sem, *] at he;try (refine Or.inl ?_;(first | (subst he;exact⟨_,_,rfl, .inl d⟩) | (rcases he with rfl | rfl<;>exact⟨_,_,rfl, .inl d⟩) | (rcases he with rfl | rfl | rfl | rfl<;>exact⟨_,_,rfl, .inl d⟩) | (rcases he with rfl | rfl | rfl | rfl | rfl | rfl<;>exact⟨_,_,rfl, .inl d⟩)))));try walk_nrm)
  refine⟨by first | kernel_rfl | rfl,?_⟩;have aE:=Az8 (an.rely hR) (w₁.drawn+1);have jA:=jY ((U.trans D).rely hR) (w₁.drawn+1)
  (refine Hg (Ba _ _ _) rfl Ab rfl (HT _ _ aE) BM ?_;rintro _ _ O4 W4 ⟨rfl,gX,oD⟩;try walk_nrm)
  refine kW ?_;exact⟨rfl,_,ah _,rfl,jA.trans gX,oD⟩
variable {Low c:Nat}
def IL (m:Bz):List Value:=(m.cv::Gv m.coils)++(m.kv::Iq m.kids)
def Tz (m:Bz):m.vals=m.net.vals++IL m:=m.vals_eq
def VOk (Low:Nat)(w₀:World)(m:Bz):Prop:=AOk w₀ 0 m/\∀x∈m.vals,∀k,x.ownBlock=some k->k<Low
def Gk (w:World)(b o:Nat)(m:Bz):Prop:=Yi w b o m.net/\w.cell? ⟨b,o+4,none⟩=some m.cv/\w.cell? ⟨b,o+5,none⟩=some m.kv
section
variable {w₀ w w':World}{O O':Nat -> Prop}
def Gk.held {b o:Nat}{m:Bz}(h:Gk w₀ b o m)(k:Held Low w₀ O w)(a:b<Low):Gk w b o m:=⟨h.1.held k a,(k.down a _).trans h.2.1,(k.down a _).trans h.2.2⟩
theorem VOk.net {m:Bz}(h:VOk Low w₀ m):NOk Low w₀ m.net:=⟨((Ji _ _ _).1 h.1).1,λx a k b=>h.2 x (by rw[Tz];exact E0 _ a) k b⟩
theorem VOk.coils {m:Bz}(h:VOk Low w₀ m):∃(a:Option Addr) (cap:Nat),m.cv=AE a m.coils.length cap/\(∀e∈m.coils,EOk w₀ 0 e)/\
  ∀i (h:i<m.coils.length),∃b o,a=some (AK b o)/\b<Low/\w₀.cell? (AK b (o+i*2))=some (AB m.coils[i].op)/\w₀.cell? (AK b (o+i*2+1))=some m.coils[i].av:=by
 obtain⟨_,⟨p,s⟩,_⟩:=(Ji _ _ _).1 h.1;obtain⟨a,cap,e,_,g⟩:=Ua p;refine⟨a,cap,e,s,λi hi=>?_⟩;obtain⟨n,q⟩:=OO m.coils i hi;obtain⟨b,f,j,l⟩:=g _ _ n;obtain⟨t,d,_,r⟩:=g _ _ q;rw[f] at d;cases d;refine⟨b,0,f,h.2 m.cv (by rw[Tz];simp[IL]) b j,?_⟩;rw[CV];exact⟨l,r⟩
theorem VOk.kids {m:Bz}(h:VOk Low w₀ m):∃(a:Option Addr) (cap:Nat),m.kv=AE a m.kids.length cap/\(∀t∈m.kids,VOk Low w₀ t)/\
  ∀i (h:i<m.kids.length),∃b o,a=some (AK b o)/\b<Low/\Gk w₀ b (o+i*6) m.kids[i]:=by
 obtain⟨_,_,f,J⟩:=(Ji _ _ _).1 h.1;obtain⟨a,cap,e,_,d⟩:=Ua f;refine⟨a,cap,e,λt q=>⟨J t q,λx G k f=>h.2 x ?_ k f⟩,λi hi=>?_⟩
 ·rw[Tz]
  refine Da _ (Da _ (CN _ (Oi.2 ⟨t,q,G⟩)))
 ·obtain⟨z,A,u,F,B,E⟩:=Wx m.kids i hi
  obtain⟨b,l,s,v⟩:=d _ _ z;obtain⟨P,g,_,H⟩:=d _ _ A;obtain⟨K,j,_,I⟩:=d _ _ u;obtain⟨M,p,_,C⟩:=d _ _ F;obtain⟨L,r,_,D⟩:=d _ _ B;obtain⟨N,n,_,y⟩:=d _ _ E;rw[l] at g j p r n;cases g;cases j;cases p;cases r;cases n;refine⟨b,0,l,h.2 m.kv (by rw[Tz];simp[IL]) b s,?_⟩;unfold Gk Yi;rw[CV];exact⟨⟨v,H,I,C⟩,D,y⟩
end
variable {w₀:World}
def MU (Low c:Nat)(w₀:World)(t:Ap)(ms:List MI):Prop:=∀d O w,Held Low w₀ O w->
 Nq prog (okS prog Low c) 97 #[.agg #[AB t.kind,AB t.op,t.av,t.kv]] d O w λv e O' w'=>e=d/\
  (∀rest,Nq prog (okS prog Low c) 134 #[.chan (some c),AB 2,v] (ms.map MI.val++rest) O' w' λ_ f a b=>f=rest/\C2 Low O' a w' b/\Held Low w₀ a b)/\C2 Low O O' w w'/\Held Low w₀ O' w'
def K4 (n:Stil.B8):Prop:=n.one.args.length<=1048576/\n.kids.length<=1000000/\∀x∈Cj n,FY x/\Ai x<=1000000
theorem fz (w₀:World)(t:Ap)(x:NOk Low w₀ t)(hg:K4 t.net):∃ms,MIs w₀ t.vals ms (Dl t.net)/\MU Low c w₀ t ms:=by
 obtain⟨j,i,m⟩:=hg;rw[Ap.net_eq] at j i;simp only[CW] at j i;obtain⟨g,e,hts,B,q⟩:=jn (c:=c) w₀ t x AQ AQ;have z:∀y∈g,∃d,MIs w₀ y.vals d (Bv y.net)/\JJ Low c w₀ y d:=λy b=>by
  have l:y.net∈Cj t.net:=by rw[<-e];exact FC b
  exact SA w₀ y (m _ l).1 (m _ l).2 (hts y b)
 obtain⟨f,o⟩:∃f:Ap->List MI,∀y∈g,MIs w₀ y.vals (f y) (Bv y.net)/\JJ Low c w₀ y (f y):=by
  classical
  refine⟨λy=>if h:∃d,MIs w₀ y.vals d (Bv y.net)/\JJ Low c w₀ y d then h.choose else [],λy b=>?_⟩;have h:=z y b;simp only[h,dite_true];exact h.choose_spec
 have D:g.length<=1000001:=by
  have A:g.length=(Cj t.net).length:=by rw[<-e,CW]
  rw[A];unfold Cj;rw[Ap.net_eq];split
  ·simp
  ·split
   ·simp only[CW];omega
   ·simp
 refine⟨(g.map λy=>FX 2 y (f y)).flatten,?_,λd O w hF=>(q d O w hF).mono ?_⟩
 ·unfold Dl
  rw[<-e];exact(PV hts λy b _=>(o y b).1).sub (J2 B)
 ·rintro v C O' w' ⟨u,⟨a,cap,rfl,s⟩,r,n⟩
  refine⟨u,λrest=>?_,r,n⟩;rw[UF];exact SX w₀ 2 (.inl rfl) g f hts (λy b _=>(o y b).2) AQ rest O' w' n a cap s
def LH (Low c:Nat)(w₀:World)(t:Bz)(vs:List MI):Prop:=∀rest O w,Held Low w₀ O w->
 Nq prog (okS prog Low c) 99 #[.chan (some c), .agg #[AB t.net.kind,AB t.net.op,t.net.av,t.net.kv,t.cv,t.kv]] (vs.map MI.val++rest) O w λ_ a O' w'=>a=rest/\C2 Low O O' w w'/\Held Low w₀ O' w'
def GZ:Stil.B9->Prop
 | ⟨_,a,kids⟩=>a.length<=1000000/\kids.length<=1000000/\(∀x∈kids,K4 x.net)/\∀p∈kids.map GZ,p
def ZM (n:Stil.B8)(cs:List Stil.Elem)(kids:List Stil.B9):GZ ⟨n,cs,kids⟩↔cs.length<=1000000/\kids.length<=1000000/\(∀x∈kids,K4 x.net)/\∀x∈kids,GZ x:=by rw[GZ,Stil.all_map]
def GU (n i:Nat):List MI:=(Ew n i).map λx=>mi0 x.code
def fJ (n i:Nat):(GU n i).map MI.val=(Ew n i).map λx=>v0 x.code:=by unfold GU;rw[EZ];rfl
def l0 (n i:Nat):MIs w₀ [] (GU n i) (Ew n i):=by
 unfold GU Ew;repeat' split
 all_goals first | exact MIs.nil | exact MIs.zero _
def MV (e:Eo):MI:=⟨10,e⟩
theorem RY:∀{a:List Eo},(∀e∈a,EOk w₀ 0 e)->MIs w₀ (Gv a) (a.map MV) (Ig (a.map Eo.elem))
 | [],_=>MIs.nil
 | e::a,h=>(MIs.one 10 e (h e AU)).append (RY λx hx=>h x BQ)
theorem ei {n:Nat}{p:Bz->List MI × List MI}:∀{l:List Bz} (k:Nat),(∀x∈l,MIs w₀ x.net.vals (p x).1 (Dl x.net.net)/\MIs w₀ (IL x) (p x).2 (C9 x.arm))->
  MIs w₀ (Iq l) (l.mapIdx λi x=>GU n (k+i)++((p x).1++(p x).2)).flatten ((l.map Bz.arm).mapIdx λi a=>I7 n (k+i) a).flatten
 | [],_,_=>MIs.nil
 | x::l,k,h=>by
  obtain⟨j,f⟩:=h x AU;have b:=ei (l:=l) (n:=n) (p:=p) (k+1) λy hy=>h y BN
  have e:Iq (x::l)=x.vals++Iq l:=rfl;rw[e,Tz,CQ,List.mapIdx_cons,List.mapIdx_cons,D3,D3];refine MIs.append ?_ ?_
  ·have m:I7 n (k+0) x.arm=Ew n (k+0)++(Dl x.net.net++C9 x.arm):=by
    show Ew _ _++(Dl x.arm.net++_)=_
    rw[Bz.arm_eq]
   rw[m];exact((l0 n (k+0)).append (j.append f)).sub (by rw[C5];exact E7 _)
  ·have d:∀i,k+1+i=k+(i+1):=λi=>by omega
   have o:(λ(i:Nat) (x:Bz)=>GU n (k+1+i)++((p x).1++(p x).2))=λi x=>GU n (k+(i+1))++((p x).1++(p x).2):=by funext i x;rw[d]
   have g:(λ(i:Nat) (a:Stil.B9)=>I7 n (k+1+i) a)=λi a=>I7 n (k+(i+1)) a:=by funext i a;rw[d]
   rw[o,g] at b;exact b
