import Derived.Test.YtifcnfeppdbjdaaGreatDoorCG6
namespace Go.Co
open Stil Go.Conc
theorem fj {τ:Type}{ok:τ->(Nat->Prop)->World->Goroutine->Prop}{fn:FuncId}{Q:Xi τ}{a:Act}{x:τ}{O:Nat->Prop}{w:World}{c:Code}{j:Nat}{N:Act->τ->(Nat->Prop)->World->Prop}(M:Act->τ->(Nat->Prop)->World->Prop)
  (h:WpK ok fn c (Np j (Wh M Q)) a x O w) (i:∀b d f g,M b d f g->N b d f g):WpK ok fn c (Np j (Wh N Q)) a x O w:=
 h.mono λe b d f g q=>by
  cases e with
  | normal=>exact i _ _ _ _ q
  | exit l=>
   simp only[Np] at q ⊢;split
   ·rename_i h;rw[if_pos h] at q;exact i _ _ _ _ q
   ·rename_i h;rw[if_neg h] at q;exact q
  | _=>exact q
end Go.Co
namespace Go.Proofs.YtifcnfeppdbjdaaGreatDoor
open Tryz Stil Go.RowKit Go.Sort Go.BigFrame Go.Conc Go.Co
variable {Low c : Nat}
theorem zm {p:Prop}(h:p:=by
 intro w₁ hR e he
 have hh:=(hR.mine _ hO2).trans hH2;have y0:w₁.cell? (AK b2 0)=some (AB 0):=cell_of_heap hh 0;have z0:=frozen_of_heap hh 0;have y1:w₁.cell? (AK b2 1)=some (AB 0):=cell_of_heap hh 1;have z1:=frozen_of_heap hh 1;have y2:w₁.cell? (AK b2 2)=some AG:=cell_of_heap hh 2;have z2:=frozen_of_heap hh 2;have y3:w₁.cell? (AK b2 3)=some AG:=cell_of_heap hh 3;have z3:=frozen_of_heap hh 3;have y4:w₁.cell? (AK b2 4)=some AG:=cell_of_heap hh 4;have z4:=frozen_of_heap hh 4;have y5:w₁.cell? (AK b2 5)=some AG:=cell_of_heap hh 5;have z5:=frozen_of_heap hh 5;clear hh;simp[go_sem,events_store_slice,storedEv, *] at he
 (first | (subst he;exact⟨_,_,rfl, .inl hO2⟩) | (rcases he with rfl | rfl<;>exact⟨_,_,rfl, .inl hO2⟩) | (rcases he with rfl | rfl | rfl | rfl<;>exact⟨_,_,rfl, .inl hO2⟩) | (rcases he with rfl | rfl | rfl | rfl | rfl | rfl<;>exact⟨_,_,rfl, .inl hO2⟩))):p:=h
set_option maxRecDepth 100000 in
set_option maxHeartbeats 4000000 in
theorem mS (w₀:World)(m:Bq):GM m.arm->VOk Low w₀ m->∃vs,MIs w₀ (IA m) vs (Dl m.arm)/\K8 Low c w₀ m vs:=by
 induction m using KI with
 | h n cv cs kv d ih=>
  intro aA ar;rw[Bq.arm_eq] at aA ⊢;dsimp only at aA ⊢;obtain⟨bi,aR,aE,aC⟩:=(ZU _ _ _).1 aA;rw[CW] at bi aR;replace aC:∀x∈d,GM x.arm:=λx u=>aC _ (FX u)
  replace aE:∀x∈d,Kp x.net.net:=λx u=>by have:=aE _ (FX u);rw[Bq.arm_eq] at this;exact this
  obtain⟨pa,ra,ag⟩:=ar.net.devs;obtain⟨pk,r1,an,_⟩:=ar.net.kids;obtain⟨pc,V,oW,ay,aD⟩:=ar.coils;obtain⟨pd,rd,aw,au,aI⟩:=ar.kids;dsimp only at ag an oW aw ay au aD aI;subst oW aw;have bh:∀x∈d,∃p:List MI × List MI,(MIs w₀ x.net.vals p.1 (Dy x.net.net)/\MIs w₀ (IA x) p.2 (Dl x.arm))/\MK Low c w₀ x.net p.1/\K8 Low c w₀ x p.2:=λx u=>by
   obtain⟨ms,h1,h2⟩:=eW (c:=c) w₀ x.net (au x u).net (aE x u);obtain⟨vs,h3,h4⟩:=ih x u (aC x u) (au x u);exact⟨(ms,vs),⟨h1,h3⟩,h2,h4⟩
  obtain⟨p,C⟩:∃p:Bq->List MI × List MI,∀x∈d,(MIs w₀ x.net.vals (p x).1 (Dy x.net.net)/\MIs w₀ (IA x) (p x).2 (Dl x.arm))/\MK Low c w₀ x.net (p x).1/\K8 Low c w₀ x (p x).2:=by
   classical
   refine⟨λx=>if h:∃p:List MI × List MI,(MIs w₀ x.net.vals p.1 (Dy x.net.net)/\MIs w₀ (IA x) p.2 (Dl x.arm))/\MK Low c w₀ x.net p.1/\K8 Low c w₀ x p.2 then h.choose else([],[]),λx u=>?_⟩;have h:=bh x u;simp only[h,dite_true];exact h.choose_spec
  clear bh ih;refine⟨cs.map MP++(d.mapIdx λi x=>Z4 d.length i++((p x).1++(p x).2)).flatten,?_,λrest Oo wo yY=>?_⟩
  ·rw[Wj]
   have h1:=RV ay;have h2:=eK (n:=d.length) (p:=p) (l:=d) 0 λx u=>(C x u).1
   simp only[CV] at h2;rw[CW];refine(h1.append h2).sub (JW ?_);show(G6 cs++Iy d).Sublist (_::(G6 cs++(_::Iy d)))
   exact((Ek _).append ((Ek _).cons _)).cons _
  obtain⟨uU,sS⟩:∃uU:List (List MI),uU=d.mapIdx λi x=>Z4 d.length i++((p x).1++(p x).2):=⟨_,rfl⟩
  have bg:uU.length=d.length:=by rw[sS];simp
  have aX:∀i (h:i<d.length),uU.drop i=(Z4 d.length i++((p d[i]).1++(p d[i]).2))::uU.drop (i+1):=λi h=>by
   rw[GQ AQ];congr 1;subst sS;rw[List.getElem_mapIdx]
  rw[<-sS,CU,EV];have HP:=AV (λx u=>(C x u).2);have bq:=AV aX;have bn:=AV bg;have vP:=AV ay;clear sS aX bg C aE aC aA ar ay;obtain⟨nk,no,nd,na,bv,zK⟩:=n;dsimp only at ag an;subst ag an;generalize zK.length=nl;obtain⟨aB,aJ⟩:=AA ((uU.flatten).map MI.val++rest)
  rw[<-aJ];have bb:=AV aJ;clear aJ;have bp:=resultsC_none (P:=prog) (fn:=Tryz.f78) rfl;dsimp only;refine Ir func78 Ao rfl ?_;simp only[ntmps78,Cd,CH,CO,Nat.reduceAdd,Nat.reduceSub,DN,DO,DL,DR,C5,C4];refine Le (Ba _ _ _) ?_
  (refine Gp (Ba _ _ _) ?_;simp only[Cd,CH,CO,CV,List.range,List.range.loop])
  refine kB yY #[AB nk,AB no,AE pa nd.length ra,AE pk nl r1,AE pc cs.length V,AE pd d.length rd] 62 λO1 W1 b1 B y bF bu bM=>?_
  try walk_nrm
  obtain⟨O,eO⟩:=AA O1
  subst eO;obtain⟨w,ew⟩:=AA W1
  subst ew;have _Y:=cs6 bM;refine kW ?_;clear _Y;have ap:Hid (∀g q W,C0 Low O g w q->Keep Low g q W->∀s,W.cell? (AK b1 s)=(#[AB nk,AB no,AE pa nd.length ra,AE pk nl r1,AE pc cs.length V,AE pd d.length rd]:Array Value)[s]?):=λg q W hE hK s=>(hK.ext.cell (.inl (hE.own _ bF)) s).trans ((hE.cell (.inl bF) s).trans (bM _ (Keep.refl _ _ _) s))
  clear bM;refine fj (λa' L g q=>∃(u5 al af ao ah ak kY kU aG:Value),a'=⟨#[.chan (some c), .agg #[AB nk,AB no,AE pa nd.length ra,AE pk nl r1,AE pc cs.length V,AE pd d.length rd],undef,AH b1,undef,u5,undef,undef, .pointer (some (AK b1 4)),AE pc cs.length V,AB cs.length,aG,al,af,ao,ah,ak,kY,kU,undef,undef,undef,undef,undef,undef,undef,undef,undef,undef,undef,undef,undef,undef,undef,undef,undef,undef,undef,undef,undef,undef,undef],[]⟩/\L=aB/\C0 Low O g w q/\Held Low w₀ g q) ?_ ?_
  ·refine Y0 (Ba _ _ _) (λn a' L g q=>∃(j:Nat) (u5 al af ao ah ak kY kU:Value),j<=cs.length/\n=cs.length - j/\a'=⟨#[.chan (some c), .agg #[AB nk,AB no,AE pa nd.length ra,AE pk nl r1,AE pc cs.length V,AE pd d.length rd],undef,AH b1,undef,u5,undef,undef, .pointer (some (AK b1 4)),AE pc cs.length V,AB cs.length,AB j,al,af,ao,ah,ak,kY,kU,undef,undef,undef,undef,undef,undef,undef,undef,undef,undef,undef,undef,undef,undef,undef,undef,undef,undef,undef,undef,undef,undef,undef],[]⟩/\
    L=(cs.drop j).map (λe=>(MP e).val)++aB/\C0 Low O g w q/\Held Low w₀ g q) cs.length ⟨0,undef,undef,undef,undef,undef,undef,undef,undef,DI _,rfl,rfl,by rw[M5,FI];rfl,C0.refl _ _ _,y⟩ ?_
   rintro n _ _ O1 W1 ⟨j,u5,al,af,ao,ah,ak,kY,kU,hj,rfl,rfl,rfl,B,y⟩;dsimp only;by_cases ac:j<cs.length
   ·have bm:(j:Int)<(cs.length:Int):=by omega
    obtain⟨b,o,rfl,hb,av,ax⟩:=aD j ac;have aS:=GQ ac;have aF:=vP _ (CN ac);rw[aS,CP,C4]
    revert av ax aF
    generalize cs[j]=e;intro av ax aF;obtain⟨Z,se,aj⟩:=Ah aF;obtain⟨aK,aH,bz⟩:=e;dsimp only at aj av ax;subst aj;simp only[MP,MI.val];have iY:Hid (∀W,Keep Low O1 W1 W->W.cell? (AK b (o+j*2))=some (AB aK)/\W.cell? (AK b (o+j*2+1))=some (AE Z aH.length se)):=λW X=>⟨((y.rely X).down hb _).trans av,((y.rely X).down hb _).trans ax⟩
    clear av ax aS aF aD;have _Y:=iY.out;refine kW ?_;clear _Y;refine Oa (Ba _ _ _) rfl Ao ?_ ?_
    ·intro _;simp[go_sem];done
    intro w₁ hR K hK;go_simp;refine hK _ _ ?_;clear hK K;obtain⟨O2,eO,r,A,hO2,I,D,hH2⟩:=KU y hR #[AB 0,AG] 51;rw[<-eO];clear eO
    revert r A hO2 I D hH2
    generalize w₁.alloc (.cells #[AB 0,AG] 51)=W2;generalize w₁.heap.size=b2;intro r A hO2 I D hH2;replace r:=B.trans r;replace D :=λx u=>D x (B.own x u)
    clear hR w₁;try walk_nrm
    refine Yd (Ba _ _ _) b2 hO2 rfl Ao ?_ ?_
    ·intro w₁ hR e he
     have hh:=(hR.mine _ hO2).trans hH2;have y0:w₁.cell? (AK b2 0)=some (AB 0):=cell_of_heap hh 0;have z0:=frozen_of_heap hh 0;have y1:w₁.cell? (AK b2 1)=some AG:=cell_of_heap hh 1;have z1:=frozen_of_heap hh 1;clear hh;simp[go_sem,events_store_slice,storedEv, *] at he
     (first | (subst he;exact⟨_,_,rfl, .inl hO2⟩) | (rcases he with rfl | rfl<;>exact⟨_,_,rfl, .inl hO2⟩) | (rcases he with rfl | rfl | rfl | rfl<;>exact⟨_,_,rfl, .inl hO2⟩) | (rcases he with rfl | rfl | rfl | rfl | rfl | rfl<;>exact⟨_,_,rfl, .inl hO2⟩))
    intro w₁ hR K hK;have hh:=(hR.mine _ hO2).trans hH2;have y0:w₁.cell? (AK b2 0)=some (AB 0):=cell_of_heap hh 0;have z0:=frozen_of_heap hh 0;have y1:w₁.cell? (AK b2 1)=some AG:=cell_of_heap hh 1;have z1:=frozen_of_heap hh 1;clear hh;go_simp;try (unfold stored;go_simp)
    have hh:=(hR.mine _ hO2).trans hH2;have C:EJ b2 w₁ ((w₁.setCell (AK b2 0) (AB aK)).setCell (AK b2 1) (AE Z aH.length se)):=(((EJ.refl _ _).set 0 (AB aK)).set 1 (AE Z aH.length se))
    have N:((w₁.setCell (AK b2 0) (AB aK)).setCell (AK b2 1) (AE Z aH.length se)).heap[b2]?=some (.cells #[AB aK,AE Z aH.length se] 51):=(heap_setCell (heap_setCell hh 0 (AB aK)) 1 (AE Z aH.length se))
    refine hK _ _ C ?_;clear hK K hh y0 z0 y1 z1 hH2;replace r:=(r.rely hR).put C I D;replace A:=(A.rely hR).put C I
    revert r A N
    clear C hR;generalize ((w₁.setCell (AK b2 0) (AB aK)).setCell (AK b2 1) (AE Z aH.length se))=W2;intro N r A;have aa:Hid (∀W,Keep Low O2 W2 W->∀s,W.cell? (AK b2 s)=(#[AB aK,AE Z aH.length se]:Array Value)[s]?):=λW X s=>(X.ext.cell (.inl hO2) s).trans (cell_of_heap N s)
    clear N;try walk_nrm
    have ai:IntKind.i64.wrap ((j:Int)+1)=((j+1:Nat):Int):=by rw[IntKind.wrap_i64];omega
    clear B y hb iY;have _Y:=cs2 aa;refine kW ?_;clear _Y;exact⟨cs.length - (j+1),AQ,j+1,_,_,_,_,_,_,_,_,AQ,rfl,rfl,rfl,r,A⟩
   ·have bo:¬(j:Int)<(cs.length:Int):=by omega
    have hd:cs.drop j=[]:=RI AQ;rw[hd];refine kW ?_;exact⟨_,_,_,_,_,_,_,_,_,rfl,by first | rfl | trivial,B,y⟩
  rintro _ _ O1 W1 ⟨u5,al,af,ao,ah,ak,kY,kU,aG,rfl,rfl,uC,jq⟩;dsimp only;replace B:=B.trans uC;clear y;have y:=jq;have bc:=AV (λg q W hE hK s=>ap g q W (uC.trans hE) hK s);replace bF:=uC.own _ bF;clear ap uC jq aD bi;replace ap:=bc;clear bc;clear O w;obtain⟨O,eO⟩:=AA O1
  subst eO;obtain⟨w,ew⟩:=AA W1
  subst ew;have yZ:=C0.refl Low O w;have _Y:=cs6 (λW h=>ap O w W yZ h);refine kW ?_;clear _Y;clear yZ;rw[bb.out];clear bb
  refine Y0 (Ba _ _ _) (λn a' L g q=>∃(j:Nat) (v6 v7 a5 aL aZ aY a3 aP aV aM aT aU ba aW a7 bf aN a6 aO a9 a8:Value),j<=d.length/\n=d.length - j/\a'=⟨#[.chan (some c), .agg #[AB nk,AB no,AE pa nd.length ra,AE pk nl r1,AE pc cs.length V,AE pd d.length rd],undef,AH b1,undef,u5,v6,v7, .pointer (some (AK b1 4)),AE pc cs.length V,AB cs.length,aG,al,af,ao,ah,ak,kY,kU, .pointer (some (AK b1 5)),AE pd d.length rd,AB d.length,AB j,a5,aL,aZ,aY,a3,aP,aV,aM,aT,aU,ba,aW,a7,bf,aN,a6,aO,a9,a8],[]⟩/\
   L=((uU.drop j).flatten).map MI.val++rest/\C0 Low O g w q/\Held Low w₀ g q) d.length ⟨0,undef,undef,undef,undef,undef,undef,undef,undef,undef,undef,undef,undef,undef,undef,undef,undef,undef,undef,undef,undef,undef,DI _,rfl,rfl,by rw[M5],C0.refl _ _ _,y⟩ ?_
  have bj:=B;clear B y;rintro n _ _ O1 W1 ⟨j,v6,v7,a5,aL,aZ,aY,a3,aP,aV,aM,aT,aU,ba,aW,a7,bf,aN,a6,aO,a9,a8,hj,rfl,rfl,rfl,B,y⟩;dsimp only;by_cases ac:j<d.length
  ·have bm:(j:Int)<(d.length:Int):=by omega
   obtain⟨b,o,rfl,hb,hc⟩:=aI j ac;have hm:=CN ac;have ae:=au _ hm;obtain⟨uy,az⟩:=HP _ hm;rw[bq.out j ac,EB,CU,CU,CU,Az7,EV,EV,EV]
   revert hc ae uy az
   generalize d[j]=x;intro hc ae uy az;generalize (p x).1=ms1 at*;generalize (p x).2=ms2 at*;obtain⟨E,R,ag⟩:=ae.net.devs;obtain⟨S,M,an,_⟩:=ae.net.kids;obtain⟨qc,sc,oW,_⟩:=ae.coils;obtain⟨Y,sd,aw,_⟩:=ae.kids;clear ae;obtain⟨⟨H,F,J,xa,yl,U⟩,bB,ab,bw,jU⟩:=x;dsimp only at ag an oW aw;subst ag an oW aw;have iY:=AV (λW (X:Keep Low O1 W1 W)=>hc.held (y.rely X) hb);have rZ:Hid (∀vs O w,Held Low w₀ O w->Nj prog (okS prog Low c) 93 #[.agg #[AB H,AB F,AE E J.length R,AE S U.length M]] vs O w λv L g q=>L=vs/\(∀rest,Nj prog (okS prog Low c) 118 #[.chan (some c),AB 2,v] (ms1.map MI.val++rest) g q λ_ bk vJ a2=>bk=rest/\C0 Low g vJ q a2/\Held Low w₀ vJ a2)/\C0 Low O g w q/\Held Low w₀ g q):=uy;have bs:Hid (∀rest O w,Held Low w₀ O w->Nj prog (okS prog Low c) 78 #[.chan (some c), .agg #[AB H,AB F,AE E J.length R,AE S U.length M,AE qc ab.length sc,AE Y jU.length sd]] (ms2.map MI.val++rest) O w λ_ L g q=>L=rest/\C0 Low O g w q/\Held Low w₀ g q):=az;clear hc hm aI au HP uy az;have yZ:=B;have _Y:=iY.out;simp only[GK,X3] at _Y;refine kW ?_;clear _Y;refine Oa (Ba _ _ _) rfl Ao ?_ ?_
   ·intro _;simp[go_sem];done
   intro w₁ hR K hK;go_simp;refine hK _ _ ?_;clear hK K;obtain⟨O2,eO,r,A,hO2,I,D,hH2⟩:=KU y hR #[AB 0,AB 0,AG,AG,AG,AG] 62;rw[<-eO];clear eO
   revert r A hO2 I D hH2
   generalize w₁.alloc (.cells #[AB 0,AB 0,AG,AG,AG,AG] 62)=W2;generalize w₁.heap.size=b2;intro r A hO2 I D hH2;replace r:=B.trans r;replace D :=λx u=>D x (B.own x u)
   clear hR w₁;try walk_nrm
   (refine P8 (Ba _ _ _) rfl Ao ?_ ?_;(focus (intro _;first | (simp[go_sem];done) | (simp[go_sem, *];done)));intro _ K hK;go_simp;refine hK _ ?_;clear hK K;try walk_nrm)
   refine Yd (Ba _ _ _) b2 hO2 rfl Ao ?_ ?_
   ·exact zm
   intro w₁ hR K hK;have hh:=(hR.mine _ hO2).trans hH2;have y0:w₁.cell? (AK b2 0)=some (AB 0):=cell_of_heap hh 0;have z0:=frozen_of_heap hh 0;have y1:w₁.cell? (AK b2 1)=some (AB 0):=cell_of_heap hh 1;have z1:=frozen_of_heap hh 1;have y2:w₁.cell? (AK b2 2)=some AG:=cell_of_heap hh 2;have z2:=frozen_of_heap hh 2;have y3:w₁.cell? (AK b2 3)=some AG:=cell_of_heap hh 3;have z3:=frozen_of_heap hh 3;have y4:w₁.cell? (AK b2 4)=some AG:=cell_of_heap hh 4;have z4:=frozen_of_heap hh 4;have y5:w₁.cell? (AK b2 5)=some AG:=cell_of_heap hh 5;have z5:=frozen_of_heap hh 5;clear hh;go_simp;try (unfold stored;go_simp)
   have hh:=(hR.mine _ hO2).trans hH2;have C:EJ b2 w₁ ((((((w₁.setCell (AK b2 0) (AB H)).setCell (AK b2 1) (AB F)).setCell (AK b2 2) (AE E J.length R)).setCell (AK b2 3) (AE S U.length M)).setCell (AK b2 4) (AE qc ab.length sc)).setCell (AK b2 5) (AE Y jU.length sd)):=(((((((EJ.refl _ _).set 0 (AB H)).set 1 (AB F)).set 2 (AE E J.length R)).set 3 (AE S U.length M)).set 4 (AE qc ab.length sc)).set 5 (AE Y jU.length sd))
   have N:((((((w₁.setCell (AK b2 0) (AB H)).setCell (AK b2 1) (AB F)).setCell (AK b2 2) (AE E J.length R)).setCell (AK b2 3) (AE S U.length M)).setCell (AK b2 4) (AE qc ab.length sc)).setCell (AK b2 5) (AE Y jU.length sd)).heap[b2]?=some (.cells #[AB H,AB F,AE E J.length R,AE S U.length M,AE qc ab.length sc,AE Y jU.length sd] 62):=(heap_setCell (heap_setCell (heap_setCell (heap_setCell (heap_setCell (heap_setCell hh 0 (AB H)) 1 (AB F)) 2 (AE E J.length R)) 3 (AE S U.length M)) 4 (AE qc ab.length sc)) 5 (AE Y jU.length sd))
   refine hK _ _ C ?_;clear hK K hh y0 z0 y1 z1 y2 z2 y3 z3 y4 z4 y5 z5 hH2;replace r:=(r.rely hR).put C I D;replace A:=(A.rely hR).put C I
   revert r A N
   clear C hR;generalize ((((((w₁.setCell (AK b2 0) (AB H)).setCell (AK b2 1) (AB F)).setCell (AK b2 2) (AE E J.length R)).setCell (AK b2 3) (AE S U.length M)).setCell (AK b2 4) (AE qc ab.length sc)).setCell (AK b2 5) (AE Y jU.length sd))=W2;intro N r A;have aa:Hid (∀W,Keep Low O2 W2 W->∀s,W.cell? (AK b2 s)=(#[AB H,AB F,AE E J.length R,AE S U.length M,AE qc ab.length sc,AE Y jU.length sd]:Array Value)[s]?):=λW X s=>(X.ext.cell (.inl hO2) s).trans (cell_of_heap N s)
   clear N;try walk_nrm
   have ai:IntKind.i64.wrap ((j:Int)+1)=((j+1:Nat):Int):=by rw[IntKind.wrap_i64];omega
   clear yZ B y hb iY;have yZ:=r;have _Y:=cs6 (λW h=>ap O2 W2 W yZ h);have _B1:=r.own _ bF;refine kW ?_;clear _Y _B1
   (refine Hr (Ba _ _ _) rfl Ao rfl (mU d.length j ac aR _ _ _) BM ?_;rintro _ _ O3 W3 ⟨rfl,rfl,rfl⟩;try walk_nrm)
   have _Y:=cs6 aa;refine kW ?_;clear _Y
   (refine Hr (Ba _ _ _) rfl Ao rfl (rZ _ _ _ A) BM ?_;rintro v3 _ O3 W3 ⟨rfl,aQ,iV,bA⟩;try walk_nrm)
   replace aa:=Ge aa iV hO2;replace hO2:=iV.own _ hO2
   (refine Hr (Ba _ _ _) rfl Ao rfl (aQ _) BM ?_;rintro _ _ O4 W4 ⟨rfl,gW,oD⟩;try walk_nrm)
   clear aQ;replace aa:=Ge aa gW hO2;replace hO2:=gW.own _ hO2;have _Y:=cs6 aa;refine kW ?_;clear _Y
   (refine Hr (Ba _ _ _) rfl Ao rfl (bs _ _ _ oD) BM ?_;rintro _ _ O5 W5 ⟨rfl,br,oC⟩;try walk_nrm)
   refine kW ?_;exact⟨d.length - (j+1),AQ,j+1,_,_,_,_,_,_,_,_,_,_,_,_,_,_,_,_,_,_,_,_,_,AQ,rfl,rfl,rfl,((r.trans iV).trans gW).trans br,oC⟩
  ·have bo:¬(j:Int)<(d.length:Int):=by omega
   have hd:uU.drop j=[]:=RI (by rw[bn.out];omega);rw[hd];refine kW ?_;exact⟨rfl,_,bp _,rfl,bj.trans B,y⟩
end Go.Proofs.YtifcnfeppdbjdaaGreatDoor
namespace Go.Co
open Stil Go.Conc
section
variable {cs:List Frame}{k:List Item}{ops:Array Oper}
variable {τ : Type}{P : Program}{main : Bool}{Low : Nat}{pre : τ -> World -> Prop}{ok : τ -> (Nat -> Prop) -> World -> Goroutine -> Prop}{fn : FuncId}{a : Act}{x : τ}{O : Nat -> Prop}{w : World}
theorem KQ (T:OkL P main Low pre ok){b:Frame}{c d:Code}(m:b.fn=fn)(l:b.kind≠.early)
  (h:WpK ok fn c (Wh (λf i g j=>ok i g j (G (b.at f (.code d::k)) cs)) (λ_ _ _ _ _=>False)) a x O w):ok x O w (G (b.at a (.code (.seq c d)::k)) cs):=by
 refine T.ctl rfl rfl (λ_=>stepG_seq) (h b (.code d::k) cs m l λe f i g j q=>?_);cases e with
 | normal=>exact q
 | _=>exact q.elim
theorem Aum (T:OkL P main Low pre ok){b:Frame}{d:Nat}(h:ok x O w (G (b.at a (.inRegion ops (List.range ops.size)::k)) cs)):ok x O w (G (b.at a (.code (.region d ops false)::k)) cs):=
 T.ctl rfl rfl (λ_=>stepG_region) h
theorem g7 (T:OkL P main Low pre ok){b:Frame}{i:Nat}{rest:List Nat}{o:Oper}{v:Value}(g:ops[i]?=some o)(j:Region.wanted o (yielded ops a.tmps)=true)(e:b.kind≠.early)
  (hr:∀d:World,(execOp a.eval o).run P d=.ok (.value v) d) (f:∀d:World,(execOp a.eval o).events P d #[]=#[]) (h:ok x O w (G (b.at (a.put o.dst v) (.inRegion ops rest::k)) cs)):ok x O w (G (b.at a (.inRegion ops (i::rest)::k)) cs):=by
 refine T.ctl rfl rfl (λd=>?_) h;rw[stepG_value g j e (hr d)];unfold listed;rw[f,seen_none]
end
end Go.Co
namespace Go.Proofs.YtifcnfeppdbjdaaGreatDoor
open Tryz Stil Go.RowKit Go.Sort Go.BigFrame Go.Conc Go.Co
variable {Low c : Nat}
set_option maxRecDepth 100000 in
set_option maxHeartbeats 4000000 in
theorem mT (w₀:World)(m:Bq)(hg:GM m.arm)(J:FU m.net.net)(V:Af m.net.net<=1000000)(d:VOk Low w₀ m):∃N,MIs w₀ m.vals N (Ez m.arm)/\∀w O,Held Low w₀ O w->
  okS prog Low c (N.map MI.val) O w (born prog (dcall 44 #[.chan (some c), .agg #[AB m.net.kind,AB m.net.op,m.net.av,m.net.kv,m.cv,m.kv]])):=by
 obtain⟨H,h1,s⟩:=RR (c:=c) w₀ m.net J V d.net;obtain⟨X,h2,D⟩:=mS (c:=c) w₀ m hg d;refine⟨H++(X++[mi0 11]),?_,λw O hF=>?_⟩
 ·unfold Ez
  rw[Tf,show m.arm.net=m.net.net by rw[Bq.arm_eq]];exact h1.append (h2.snoc 11)
 obtain⟨n,C,Z⟩:=d.net.devs;obtain⟨E,A,R,_⟩:=d.net.kids;obtain⟨pc,F,S,_⟩:=d.coils;obtain⟨I,L,Y,_⟩:=d.kids;clear h1 h2 d hg J V;obtain⟨⟨r,no,q,na,nv,B⟩,cv,cs,kv,M⟩:=m;dsimp only at Z R S Y s D ⊢;subst Z R S Y;rw[CU,CU,CP,C3,MI.val,mi0];refine gy func44 Ao rfl ?_;have HB:Hid (∀rest O w,Held Low w₀ O w->Nj prog (okS prog Low c) 77 #[.chan (some c), .agg #[AB r,AB no,AE n q.length C,AE E B.length A]] (H.map MI.val++rest) O w λ_ y g j=>y=rest/\C0 Low O g w j/\Held Low w₀ g j):=s;have HT:Hid (∀rest O w,Held Low w₀ O w->Nj prog (okS prog Low c) 78 #[.chan (some c), .agg #[AB r,AB no,AE n q.length C,AE E B.length A,AE pc cs.length F,AE I M.length L]] (X.map MI.val++rest) O w λ_ y g j=>y=rest/\C0 Low O g w j/\Held Low w₀ g j):=D;clear s D;simp only[ntmps44,Cd,CH,CO,Nat.reduceAdd,Nat.reduceSub,DN,DO,DL,DR,C5,C4];refine KQ (Ba _ _ _) (fn:=44) rfl yFb ?_
 (refine Gp (Ba _ _ _) ?_;simp only[Cd,CH,CO,CV,List.range,List.range.loop])
 refine kB hF #[AB r,AB no,AE n q.length C,AE E B.length A,AE pc cs.length F,AE I M.length L] 62 λO1 W1 b1 ac ab u ae l=>?_
 try walk_nrm
 refine Qp (Ba _ _ _) ?_;simp only[Wh];refine KQ (Ba _ _ _) (fn:=44) rfl yFb ?_;have _Y:=cs6 l;refine kW ?_;clear _Y
 (refine Hr (Ba _ _ _) rfl Ao rfl (HB _ _ _ ab) BM ?_;rintro _ _ O2 W2 ⟨rfl,U,aa⟩;try walk_nrm)
 replace l:=Ge l U u;replace u:=U.own _ u;refine Qp (Ba _ _ _) ?_;simp only[Wh];refine KQ (Ba _ _ _) (fn:=44) rfl yFb ?_;have _Y:=cs6 l;refine kW ?_;clear _Y
 (refine Hr (Ba _ _ _) rfl Ao rfl (HT _ _ _ aa) BM ?_;rintro _ _ O3 W3 ⟨rfl,iV,af⟩;try walk_nrm)
 refine Qp (Ba _ _ _) ?_;simp only[Wh];refine KQ (Ba _ _ _) (fn:=44) rfl yFb ?_;refine kW ?_;refine Aum (Ba _ _ _) ?_;simp only[Cd,CH,CO,Nat.reduceAdd,CV,List.range,List.range.loop];refine g7 (Ba _ _ _) rfl Ao yFb (v:=.chan (some c)) (λ_=>by go_simp) (λ_=>by simp[go_sem]) ?_;refine Ayv rfl Ao yFb rfl (by simp[Act.eval,Act.put]) AX ?_ (Ayc func44 rfl rfl)
 ·rfl
variable {Low : Nat}{Stop : Goroutine -> World -> Prop}
def SV (Low:Nat)(w₀:World)(m:Bq)(f:Nat->List MI):Prop:=∀c w O,Held Low w₀ O w->
 okS prog Low c ((f c).map MI.val) O w (born prog (dcall 44 #[.chan (some c), .agg #[AB m.net.kind,AB m.net.op,m.net.av,m.net.kv,m.cv,m.kv]]))
theorem take_snoc {α:Type}(l:List α)(j:Nat)(h:j<l.length):l.take (j+1)=l.take j++[l[j]]:=by rw[List.take_add_one,DX h];rfl
theorem Azi:(prog.info? 48).map (λi=>(i.zero,i.size,i.bytes))=some (some (.chan none),1,8):=AX
theorem mw (w:World):Sem.run prog (Instr.makeChan 48 (AB 0)) w=.ok (.chan (some w.heap.size)) (w.alloc (.chan 0 #[] false 0 0 false)):=by
 obtain⟨b,hi,e,d,f⟩:=info_parts LP;exact run_makeChan underlying48 hi .i64 0 AQ AQ
theorem eo (w:World):Sem.events prog (Instr.makeChan 48 (AB 0)) w #[]=#[]:=by
 obtain⟨b,hi,e,d,f⟩:=info_parts LP;exact events_makeChan underlying48 hi .i64 0 AQ AQ _
set_option maxRecDepth 100000 in
set_option maxHeartbeats 4000000 in
theorem mA (w₀:World)(d:List Bq)(f:Bq->Nat->List MI)(a:Option Addr)(cap:Nat)(aA:∀i (h:i<d.length),∃b o,a=some (AK b o)/\b<Low/\GK w₀ b (o+i*6) d[i])(ar:∀m∈d,VOk Low w₀ m)(aD:∀m∈d,SV Low w₀ m (f m))(hl:d.length<=1000)(Oo:Nat->Prop)(wo:World)(yY:Held Low w₀ Oo wo):
  Nj prog (okR prog Low Stop) 19 #[AE a d.length cap] [] Oo wo λv x' O' w'=>∃cs:List Nat,cs.length=d.length/\x'=List.zipWith (λc m=>(c,(f m c).map MI.val,false)) cs d/\
   w'.ownsRow Low 48 1 v d.length (cs.map λc=>.chan (some c))/\(∀k,v.ownBlock=some k->O' k)/\Held Low w₀ O' w':=by
 have aX:=resultsC_tmp (P:=prog) (fn:=Tryz.f19) rfl;have aW:=AV ar;have aV:=AV aD;have aT:=AV aA;clear ar aD aA;refine Ir func19 Ao rfl ?_;simp only[ntmps19,Cd,CH,CO,Nat.reduceAdd,Nat.reduceSub,DN,DO,DL,DR,C5,C4];refine kV ?_
 refine Y0 (Bh _ _ _) (λn a' x' O' w'=>∃(j:Nat) (cs:List Nat) (Y u5 u6 aM av aK ax aP aF aJ kY kU sD aQ:Value),j<=d.length/\n=d.length - j/\a'=⟨#[AE a d.length cap,undef,AG,Y,undef,u5,u6,AE a d.length cap,AB d.length,AB j,aM,av,aK,ax,aP,aF,aJ,kY,kU,sD,aQ,undef],[]⟩/\
  cs.length=j/\x'=List.zipWith (λc m=>(c,(f m c).map MI.val,false)) cs (d.take j)/\w'.ownsRow Low 48 1 Y j (cs.map λc=>.chan (some c))/\(∀k,Y.ownBlock=some k->O' k)/\Held Low w₀ O' w') d.length
  ⟨0,[],AG,undef,undef,undef,undef,undef,undef,undef,undef,undef,undef,undef,undef,undef,DI _,rfl,rfl,rfl,rfl,World.ownsRow_nil _ _ _ _,(λk l=>by cases l),yY⟩ ?_
 rintro n _ _ O w ⟨j,cs,Y,u5,u6,aM,av,aK,ax,aP,aF,aJ,kY,kU,sD,aQ,hj,rfl,rfl,an,rfl,hS,ji,af⟩;try dsimp only
 by_cases ao:j<d.length
 ·have aZ:(j:Int)<(d.length:Int):=by omega
  obtain⟨b,o,rfl,hb,hc⟩:=aT j ao;have hm:=CN ao;have Z:=aW _ hm;have ab:=aV _ hm;have iP:=AV (take_snoc d j ao);have vz:Hid ((d.take j).length=j):=by show _=_;rw[FY];omega
  revert hc Z ab iP
  generalize d[j]=x;intro hc Z ab iP;obtain⟨fx,al⟩:=AA (f x)
  have xy:=AV al;rw[<-al] at ab;clear al;obtain⟨s,N,aC⟩:=Z.net.devs;obtain⟨Q,I,aO,_⟩:=Z.net.kids;obtain⟨J,M,oW,_⟩:=Z.coils;obtain⟨A,E,aH,_⟩:=Z.kids;clear Z;obtain⟨⟨D,B,H,xa,yl,R⟩,a5,F,a3,C⟩:=x;dsimp only at aC aO oW aH;subst aC aO oW aH;have iY:=AV (λW (hW:Keep Low O w W)=>hc.held (af.rely hW) hb);have aU:Hid (∀c w O,Held Low w₀ O w->okS prog Low c ((fx c).map MI.val) O w (born prog (dcall 44 #[.chan (some c), .agg #[AB D,AB B,AE s H.length N,AE Q R.length I,AE J F.length M,AE A C.length E]]))):=ab;clear hc hm ab;have ak:=C0.refl Low O w;have _Y:=iY.out;simp only[GK,X3] at _Y;refine kV ?_;clear _Y;refine Oa (Bh _ _ _) rfl Ao ?_ ?_
  ·intro _;simp[go_sem];done
  intro w₁ hR K hK;go_simp;refine hK _ _ ?_;clear hK K;obtain⟨O2,U,r,S,hO2,ag,V,hH2⟩:=KU af hR #[AB 0,AB 0,AG,AG,AG,AG] 62;rw[<-U];clear U
  revert r S hO2 ag V hH2
  generalize w₁.alloc (.cells #[AB 0,AB 0,AG,AG,AG,AG] 62)=W2;generalize w₁.heap.size=b2;intro r S hO2 ag V hH2;replace r:=ak.trans r;replace V :=λx hx=>V x (ak.own x hx)
  clear hR w₁;try walk_nrm
  refine Yd (Bh _ _ _) b2 hO2 rfl Ao ?_ ?_
  ·exact zm
  intro w₁ hR K hK;have hh:=(hR.mine _ hO2).trans hH2;have y0:w₁.cell? (AK b2 0)=some (AB 0):=cell_of_heap hh 0;have z0:=frozen_of_heap hh 0;have y1:w₁.cell? (AK b2 1)=some (AB 0):=cell_of_heap hh 1;have z1:=frozen_of_heap hh 1;have y2:w₁.cell? (AK b2 2)=some AG:=cell_of_heap hh 2;have z2:=frozen_of_heap hh 2;have y3:w₁.cell? (AK b2 3)=some AG:=cell_of_heap hh 3;have z3:=frozen_of_heap hh 3;have y4:w₁.cell? (AK b2 4)=some AG:=cell_of_heap hh 4;have z4:=frozen_of_heap hh 4;have y5:w₁.cell? (AK b2 5)=some AG:=cell_of_heap hh 5;have z5:=frozen_of_heap hh 5;clear hh;go_simp;try (unfold stored;go_simp)
  have hh:=(hR.mine _ hO2).trans hH2;have hp:EJ b2 w₁ ((((((w₁.setCell (AK b2 0) (AB D)).setCell (AK b2 1) (AB B)).setCell (AK b2 2) (AE s H.length N)).setCell (AK b2 3) (AE Q R.length I)).setCell (AK b2 4) (AE J F.length M)).setCell (AK b2 5) (AE A C.length E)):=(((((((EJ.refl _ _).set 0 (AB D)).set 1 (AB B)).set 2 (AE s H.length N)).set 3 (AE Q R.length I)).set 4 (AE J F.length M)).set 5 (AE A C.length E))
  have ah:((((((w₁.setCell (AK b2 0) (AB D)).setCell (AK b2 1) (AB B)).setCell (AK b2 2) (AE s H.length N)).setCell (AK b2 3) (AE Q R.length I)).setCell (AK b2 4) (AE J F.length M)).setCell (AK b2 5) (AE A C.length E)).heap[b2]?=some (.cells #[AB D,AB B,AE s H.length N,AE Q R.length I,AE J F.length M,AE A C.length E] 62):=(heap_setCell (heap_setCell (heap_setCell (heap_setCell (heap_setCell (heap_setCell hh 0 (AB D)) 1 (AB B)) 2 (AE s H.length N)) 3 (AE Q R.length I)) 4 (AE J F.length M)) 5 (AE A C.length E))
  refine hK _ _ hp ?_;clear hK K hh y0 z0 y1 z1 y2 z2 y3 z3 y4 z4 y5 z5 hH2;replace r:=(r.rely hR).put hp ag V;replace S:=(S.rely hR).put hp ag
  revert r S ah
  clear hp hR;generalize ((((((w₁.setCell (AK b2 0) (AB D)).setCell (AK b2 1) (AB B)).setCell (AK b2 2) (AE s H.length N)).setCell (AK b2 3) (AE Q R.length I)).setCell (AK b2 4) (AE J F.length M)).setCell (AK b2 5) (AE A C.length E))=W2;intro ah r S;have T:Hid (∀W,Keep Low O2 W2 W->∀q,W.cell? (AK b2 q)=(#[AB D,AB B,AE s H.length N,AE Q R.length I,AE J F.length M,AE A C.length E]:Array Value)[q]?):=λW hW q=>(hW.ext.cell (.inl hO2) q).trans (cell_of_heap ah q)
  clear ah;try walk_nrm
  have ai:IntKind.i64.wrap ((j:Int)+1)=((j+1:Nat):Int):=by rw[IntKind.wrap_i64];omega
  replace hS:=r.row hS (λk l=>.inl (ji k l));have aL:Hid (some b2≠Y.ownBlock):=λe=>V b2 (ji b2 e.symm) rfl
  have tN:=λk l=>r.own _ (ji k l)
  clear ak af hb iY ji r V;repeat (first | (first | refine Le (Bh _ _ _) ?_ | refine Ub (Bh _ _ _) ?_ | refine V9 (Bh _ _ _) ?_ | refine Ua (Bh _ _ _) ?_ | refine IW (Bh _ _ _) ?_ | refine We (Bh _ _ _) ?_ | refine Qp (Bh _ _ _) ?_) | (simp only[Wh,Np,if_true,C7,reduceIte,Nat.reduceEqDiff]))
  (refine Gp (Bh _ _ _) ?_;simp only[Cd,CH,CO,Nat.reduceAdd,CV,List.range,List.range.loop])
  refine Oa (Bh _ _ _) rfl Ao ?_ ?_
  ·intro W1;simp[go_sem,eo];done
  intro w₁ hR K hK;have aR:=mw w₁;go_simp;refine hK _ _ ?_;clear hK K aR;obtain⟨O3,U,X,aj,u,aE,ae,aa⟩:=M7 S hR (.chan 0 #[] false 0 0 false);rw[<-U];clear U
  revert X aj u aE ae aa
  generalize w₁.alloc (.chan 0 #[] false 0 0 false)=W3;generalize w₁.heap.size=b3;intro X aj u aE ae aa;clear hR w₁;try walk_nrm
  replace T:=Ge T X hO2;replace hO2:=X.own _ hO2;replace hS:=X.row hS (λk l=>.inl (tN k l));have aI:Hid (some b3≠Y.ownBlock):=λe=>ae b3 (tN b3 e.symm) rfl
  have wW:=λk l=>X.own _ (tN k l)
  clear tN X ae S
  (refine P8 (Bh _ _ _) rfl Ao ?_ ?_;(focus (intro _;first | (simp[go_sem];done) | (simp[go_sem, *];done)));intro _ K hK;go_simp;refine hK _ ?_;clear hK K;try walk_nrm)
  repeat (first | (first | refine Le (Bh _ _ _) ?_ | refine Ub (Bh _ _ _) ?_ | refine V9 (Bh _ _ _) ?_ | refine Ua (Bh _ _ _) ?_ | refine IW (Bh _ _ _) ?_ | refine We (Bh _ _ _) ?_ | refine Qp (Bh _ _ _) ?_) | (simp only[Wh,Np,if_true,C7,reduceIte,Nat.reduceEqDiff]))
  (refine Gp (Bh _ _ _) ?_;simp only[Cd,CH,CO,Nat.reduceAdd,CV,List.range,List.range.loop])
  (refine P8 (Bh _ _ _) rfl Ao ?_ ?_;(focus (intro _;first | (simp[go_sem];done) | (simp[go_sem, *];done)));intro _ K hK;go_simp;refine hK _ ?_;clear hK K;try walk_nrm)
  (refine P8 (Bh _ _ _) rfl Ao ?_ ?_;(focus (intro _;first | (simp[go_sem];done) | (simp[go_sem, *];done)));intro _ K hK;go_simp;refine hK _ ?_;clear hK K;try walk_nrm)
  refine Oa (Bh _ _ _) rfl Ao ?_ ?_
  ·intro W1;simp[go_sem];done
  intro w₁ hR K hK;go_simp;refine hK _ _ ?_;clear hK K;obtain⟨O4,U,L,oD,ac,aG,tY,uB⟩:=M7 aj hR (.cells #[.chan (some b3)] 48);rw[<-U];clear U
  revert L oD ac aG tY uB
  generalize w₁.alloc (.cells #[.chan (some b3)] 48)=W4;generalize w₁.heap.size=b4;intro L oD ac aG tY uB;clear hR w₁;try walk_nrm
  replace T:=Ge T L hO2;replace hO2:=L.own _ hO2;replace hS:=L.row hS (λk l=>.inl (wW k l));have jh:=λk l=>L.own _ (wW k l)
  replace aa:=(L.mine _ u).trans aa;replace u:=L.own _ u;clear wW L tY aj;obtain⟨i0,hi,aB,au,aN⟩:=info_parts Azi;refine UY (Bh _ _ _) rfl Ao (.tmp 14) (.tmp 16) 45 rfl 48 i0 (.chan none) 1 8 underlying45 hi aB au aN rfl AY Y j _ BM hS jh b4 1 [.chan (some b3)] BM rfl ac ?_ ?_ ?_ ?_ oD ?_
  ·intro jj aS hu
   rw[cell_of_heap uB];simpa using hu
  ·intro aS hu
   rw[List.mem_singleton.1 hu];rfl
  ·simp only[maxLen];omega
  ·omega
  clear hi aB au aN i0;intro v5 W5 O5 aw tK _ wY ap y;try walk_nrm
  have az:Hid (∀W,Keep Low O5 W5 W->∀q,W.cell? (AK b2 q)=(#[AB D,AB B,AE s H.length N,AE Q R.length I,AE J F.length M,AE A C.length E]:Array Value)[q]?):=λW hW q=>(World.cell?_of_block (a:=(AK b2 q)) ((hW.mine _ (wY _ hO2)).trans (ap _ hO2 aL.out))).trans (T _ (Keep.refl _ _ _) q)
  have ay:=(ap _ u aI.out).trans aa;replace u:=wY _ u;replace hO2:=wY _ hO2;clear T ap wY jh hS oD aa uB ac aL aI;have T:=az;clear az
  (refine P8 (Bh _ _ _) rfl Ao ?_ ?_;(focus (intro _;first | (simp[go_sem];done) | (simp[go_sem, *];done)));intro _ K hK;go_simp;refine hK _ ?_;clear hK K;try walk_nrm)
  repeat (first | (first | refine Le (Bh _ _ _) ?_ | refine Ub (Bh _ _ _) ?_ | refine V9 (Bh _ _ _) ?_ | refine Ua (Bh _ _ _) ?_ | refine IW (Bh _ _ _) ?_ | refine We (Bh _ _ _) ?_ | refine Qp (Bh _ _ _) ?_) | (simp only[Wh]))
  (refine Gp (Bh _ _ _) ?_;simp only[Cd,CH,CO,Nat.reduceAdd,CV,List.range,List.range.loop])
  have _Y:=cs6 T;refine kV ?_;clear _Y;refine kr (c:=b3) (vs:=(fx b3).map MI.val) rfl Ao ?_ ?_ u ⟨_,_,ay⟩ (aU b3 _ _ ⟨y.still,y.low,λ_ h=>h.elim,y.os,y.out⟩) ?_
  ·intro W1
   go_simp;rfl
  ·intro W1
   simp[go_sem]
  try walk_nrm
  refine kV ?_;refine⟨d.length - (j+1),AQ,j+1,cs++[b3],v5,_,_,_,_,_,_,_,_,_,_,_,_,_,AQ,rfl,rfl,by rw[CM,an];rfl,?_,?_,λk l=>⟨tK k l,λe=>?_⟩,⟨y.still,y.low,λk l=>y.up k l.1,y.os,y.out⟩⟩
  ·rw[iP.out,List.zipWith_append (by rw[vz.out,an]),xy.out]
   rfl
  ·rw[CU]
   exact aw
  ·subst e
   rcases aw.2 with⟨hv,_⟩ | ⟨g,aY,cur,hv,_,hg,_⟩
   ·rw[hv] at l;cases l
   ·rw[hv] at l
    cases l;rw[ay] at hg;cases hg
 ·have a2:¬(j:Int)<(d.length:Int):=by omega
  obtain rfl:j=d.length:=AQ
  refine kV ?_;refine⟨rfl,_,aX _,cs,an,by rw[Gk],hS,ji,af⟩
