import Derived.Test.YtmnnkedjoecehaaGreatDoorCG6
set_option maxRecDepth 100000
set_option maxHeartbeats 4000000
namespace Go.Co
open Stil Go.Conc
theorem fo {τ:Type}{ok:τ->(Nat->Prop)->World->Goroutine->Prop}{fn:FuncId}{Q:Xx τ}{a:Act}{x:τ}{O:Nat->Prop}{w:World}{c:Code}{j:Nat}{N:Act->τ->(Nat->Prop)->World->Prop}(M:Act->τ->(Nat->Prop)->World->Prop)
  (h:WpK ok fn c (Nv j (Xb M Q)) a x O w) (i:∀b d g f,M b d g f->N b d g f):WpK ok fn c (Nv j (Xb N Q)) a x O w:=
 h.mono λe b d g f q=>by
  cases e with
  | normal=>exact i _ _ _ _ q
  | exit k=>
   simp only[Nv] at q ⊢;split
   ·rename_i h;rw[if_pos h] at q;exact i _ _ _ _ q
   ·rename_i h;rw[if_neg h] at q;exact q
  | _=>exact q
end Go.Co
namespace Go.Proofs.YtmnnkedjoecehaaGreatDoor
open Tryz Stil Go.RowKit Go.Sort Go.BigFrame Go.Conc Go.Co
variable {Low c:Nat}
theorem zm {p:Prop}(h:p:=by
 intro w₁ hR e he
 have hh:=(hR.mine _ hO2).trans hH2;have y0:w₁.cell? (AK b2 0)=some (AB 0):=cell_of_heap hh 0;have z0:=frozen_of_heap hh 0;have y1:w₁.cell? (AK b2 1)=some (AB 0):=cell_of_heap hh 1;have z1:=frozen_of_heap hh 1;have y2:w₁.cell? (AK b2 2)=some AG:=cell_of_heap hh 2;have z2:=frozen_of_heap hh 2;have y3:w₁.cell? (AK b2 3)=some AG:=cell_of_heap hh 3;have z3:=frozen_of_heap hh 3;have y4:w₁.cell? (AK b2 4)=some AG:=cell_of_heap hh 4;have z4:=frozen_of_heap hh 4;have y5:w₁.cell? (AK b2 5)=some AG:=cell_of_heap hh 5;have z5:=frozen_of_heap hh 5;clear hh;simp[go_sem,events_store_slice,storedEv, *] at he
 (first | (subst he;exact⟨_,_,rfl, .inl hO2⟩) | (rcases he with rfl | rfl<;>exact⟨_,_,rfl, .inl hO2⟩) | (rcases he with rfl | rfl | rfl | rfl<;>exact⟨_,_,rfl, .inl hO2⟩) | (rcases he with rfl | rfl | rfl | rfl | rfl | rfl<;>exact⟨_,_,rfl, .inl hO2⟩))):p:=h
theorem mZ (w₀:World)(m:Bz):GZ m.arm->VOk Low w₀ m->∃vs,MIs w₀ (IL m) vs (C9 m.arm)/\LH Low c w₀ m vs:=by
 induction m using KO with
 | h n cv cs kv d ih=>
  intro aw ar;rw[Bz.arm_eq] at aw ⊢;dsimp only at aw ⊢;obtain⟨bf,aO,ax,az⟩:=(ZM _ _ _).1 aw;rw[CW] at bf aO;replace az:∀x∈d,GZ x.arm:=λx u=>az _ (FC u)
  replace ax:∀x∈d,K4 x.net.net:=λx u=>by have:=ax _ (FC u);rw[Bz.arm_eq] at this;exact this
  obtain⟨pa,ra,ag⟩:=ar.net.devs;obtain⟨pk,r1,ak,_⟩:=ar.net.kids;obtain⟨pc,rc,pF,aC,aA⟩:=ar.coils;obtain⟨pd,rd,an,ap,aD⟩:=ar.kids;dsimp only at ag ak pF an aC ap aA aD;subst pF an;have aZ:∀x∈d,∃p:List MI × List MI,(MIs w₀ x.net.vals p.1 (Dl x.net.net)/\MIs w₀ (IL x) p.2 (C9 x.arm))/\MU Low c w₀ x.net p.1/\LH Low c w₀ x p.2:=λx u=>by
   obtain⟨ms,h1,h2⟩:=fz (c:=c) w₀ x.net (ap x u).net (ax x u);obtain⟨vs,h3,h4⟩:=ih x u (az x u) (ap x u);exact⟨(ms,vs),⟨h1,h3⟩,h2,h4⟩
  obtain⟨p,C⟩:∃p:Bz->List MI × List MI,∀x∈d,(MIs w₀ x.net.vals (p x).1 (Dl x.net.net)/\MIs w₀ (IL x) (p x).2 (C9 x.arm))/\MU Low c w₀ x.net (p x).1/\LH Low c w₀ x (p x).2:=by
   classical
   refine⟨λx=>if h:∃p:List MI × List MI,(MIs w₀ x.net.vals p.1 (Dl x.net.net)/\MIs w₀ (IL x) p.2 (C9 x.arm))/\MU Low c w₀ x.net p.1/\LH Low c w₀ x p.2 then h.choose else([],[]),λx u=>?_⟩;have h:=aZ x u;simp only[h,dite_true];exact h.choose_spec
  clear aZ ih;refine⟨cs.map MV++(d.mapIdx λi x=>GU d.length i++((p x).1++(p x).2)).flatten,?_,λrest Oo wo zK=>?_⟩
  ·rw[Xc]
   have h1:=RY aC;have h2:=ei (n:=d.length) (p:=p) (l:=d) 0 λx u=>(C x u).1
   simp only[CV] at h2;rw[CW];refine(h1.append h2).sub (J2 ?_);show(Gv cs++Iq d).Sublist (_::(Gv cs++(_::Iq d)))
   exact((E7 _).append ((E7 _).cons _)).cons _
  obtain⟨uZ,sS⟩:∃uZ:List (List MI),uZ=d.mapIdx λi x=>GU d.length i++((p x).1++(p x).2):=⟨_,rfl⟩
  have a3:uZ.length=d.length:=by rw[sS];simp
  have a2:∀i (h:i<d.length),uZ.drop i=(GU d.length i++((p d[i]).1++(p d[i]).2))::uZ.drop (i+1):=λi h=>by
   rw[F3 AQ];congr 1;subst sS;rw[List.getElem_mapIdx]
  rw[<-sS,CU,EI];have HP:=AV (λx u=>(C x u).2);have bp:=AV a2;have bo:=AV a3;have wB:=AV aC;clear sS a2 a3 C ax az aw ar aC;obtain⟨nk,no,nd,na,bw,zW⟩:=n;dsimp only at ag ak;subst ag ak;generalize zW.length=nl;obtain⟨ay,aF⟩:=AA ((uZ.flatten).map MI.val++rest)
  rw[<-aF];have a7:=AV aF;clear aF;have bk:=resultsC_none (P:=prog) (fn:=Tryz.f99) rfl;dsimp only;refine Io func99 Ab rfl ?_;simp only[ntmps99,Cd,CH,CP,Nat.reduceAdd,Nat.reduceSub,DK,DL,DJ,DN,C5,C4];refine Lh (Ba _ _ _) ?_
  (refine Gh (Ba _ _ _) ?_;simp only[Cd,CH,CP,CV,List.range,List.range.loop])
  refine kB zK #[AB nk,AB no,AE pa nd.length ra,AE pk nl r1,AE pc cs.length rc,AE pd d.length rd] 62 λO1 W1 b1 A y bD br bK=>?_
  try walk_nrm
  obtain⟨O,eO⟩:=AA O1
  subst eO;obtain⟨w,ew⟩:=AA W1
  subst ew;have _Y:=cs6 bK;refine kW ?_;clear _Y;have ao:Hid (∀q g W,C2 Low O q w g->Keep Low q g W->∀s,W.cell? (AK b1 s)=(#[AB nk,AB no,AE pa nd.length ra,AE pk nl r1,AE pc cs.length rc,AE pd d.length rd]:Array Value)[s]?):=λq g W hE hK s=>(hK.ext.cell (.inl (hE.own _ bD)) s).trans ((hE.cell (.inl bD) s).trans (bK _ (Keep.refl _ _ _) s))
  clear bK;refine fo (λa' S q g=>∃(u5 aj ae ah af ai lH lG aE:Value),a'=⟨#[.chan (some c), .agg #[AB nk,AB no,AE pa nd.length ra,AE pk nl r1,AE pc cs.length rc,AE pd d.length rd],undef,AH b1,undef,u5,undef,undef, .pointer (some (AK b1 4)),AE pc cs.length rc,AB cs.length,aE,aj,ae,ah,af,ai,lH,lG,undef,undef,undef,undef,undef,undef,undef,undef,undef,undef,undef,undef,undef,undef,undef,undef,undef,undef,undef,undef,undef,undef,undef],[]⟩/\S=ay/\C2 Low O q w g/\Held Low w₀ q g) ?_ ?_
  ·refine Zg (Ba _ _ _) (λn a' S q g=>∃(j:Nat) (u5 aj ae ah af ai lH lG:Value),j<=cs.length/\n=cs.length - j/\a'=⟨#[.chan (some c), .agg #[AB nk,AB no,AE pa nd.length ra,AE pk nl r1,AE pc cs.length rc,AE pd d.length rd],undef,AH b1,undef,u5,undef,undef, .pointer (some (AK b1 4)),AE pc cs.length rc,AB cs.length,AB j,aj,ae,ah,af,ai,lH,lG,undef,undef,undef,undef,undef,undef,undef,undef,undef,undef,undef,undef,undef,undef,undef,undef,undef,undef,undef,undef,undef,undef,undef],[]⟩/\
    S=(cs.drop j).map (λe=>(MV e).val)++ay/\C2 Low O q w g/\Held Low w₀ q g) cs.length ⟨0,undef,undef,undef,undef,undef,undef,undef,undef,DZ _,rfl,rfl,by rw[NA,EZ];rfl,C2.refl _ _ _,y⟩ ?_
   rintro n _ _ O1 W1 ⟨j,u5,aj,ae,ah,af,ai,lH,lG,hj,rfl,rfl,rfl,A,y⟩;dsimp only;by_cases X:j<cs.length
   ·have bg:(j:Int)<(cs.length:Int):=by omega
    obtain⟨b,o,rfl,hb,au,al⟩:=aA j X;have aP:=F3 X;have av:=wB _ (CJ X);rw[aP,CQ,C4]
    revert au al av
    generalize cs[j]=e;intro au al av;obtain⟨V,se,cu⟩:=Af av;obtain⟨aN,aI,bv⟩:=e;dsimp only at cu au al;subst cu;simp only[MV,MI.val];have jC:Hid (∀W,Keep Low O1 W1 W->W.cell? (AK b (o+j*2))=some (AB aN)/\W.cell? (AK b (o+j*2+1))=some (AE V aI.length se)):=λW hW=>⟨((y.rely hW).down hb _).trans au,((y.rely hW).down hb _).trans al⟩
    clear au al aP av aA;have _Y:=jC.out;refine kW ?_;clear _Y;refine Og (Ba _ _ _) rfl Ab ?_ ?_
    ·intro _;simp[go_sem];done
    intro w₁ hR K hK;go_simp;refine hK _ _ ?_;clear hK K;obtain⟨O2,eO,r,B,hO2,U,D,hH2⟩:=K2 y hR #[AB 0,AG] 46;rw[<-eO];clear eO
    revert r B hO2 U D hH2
    generalize w₁.alloc (.cells #[AB 0,AG] 46)=W2;generalize w₁.heap.size=b2;intro r B hO2 U D hH2;replace r:=A.trans r;replace D :=λx u=>D x (A.own x u)
    clear hR w₁;try walk_nrm
    refine Yt (Ba _ _ _) b2 hO2 rfl Ab ?_ ?_
    ·intro w₁ hR e he
     have hh:=(hR.mine _ hO2).trans hH2;have y0:w₁.cell? (AK b2 0)=some (AB 0):=cell_of_heap hh 0;have z0:=frozen_of_heap hh 0;have y1:w₁.cell? (AK b2 1)=some AG:=cell_of_heap hh 1;have z1:=frozen_of_heap hh 1;clear hh;simp[go_sem,events_store_slice,storedEv, *] at he
     (first | (subst he;exact⟨_,_,rfl, .inl hO2⟩) | (rcases he with rfl | rfl<;>exact⟨_,_,rfl, .inl hO2⟩) | (rcases he with rfl | rfl | rfl | rfl<;>exact⟨_,_,rfl, .inl hO2⟩) | (rcases he with rfl | rfl | rfl | rfl | rfl | rfl<;>exact⟨_,_,rfl, .inl hO2⟩))
    intro w₁ hR K hK;have hh:=(hR.mine _ hO2).trans hH2;have y0:w₁.cell? (AK b2 0)=some (AB 0):=cell_of_heap hh 0;have z0:=frozen_of_heap hh 0;have y1:w₁.cell? (AK b2 1)=some AG:=cell_of_heap hh 1;have z1:=frozen_of_heap hh 1;clear hh;go_simp;try (unfold stored;go_simp)
    have hh:=(hR.mine _ hO2).trans hH2;have C:EL b2 w₁ ((w₁.setCell (AK b2 0) (AB aN)).setCell (AK b2 1) (AE V aI.length se)):=(((EL.refl _ _).set 0 (AB aN)).set 1 (AE V aI.length se))
    have R:((w₁.setCell (AK b2 0) (AB aN)).setCell (AK b2 1) (AE V aI.length se)).heap[b2]?=some (.cells #[AB aN,AE V aI.length se] 46):=(heap_setCell (heap_setCell hh 0 (AB aN)) 1 (AE V aI.length se))
    refine hK _ _ C ?_;clear hK K hh y0 z0 y1 z1 hH2;replace r:=(r.rely hR).put C U D;replace B:=(B.rely hR).put C U
    revert r B R
    clear C hR;generalize ((w₁.setCell (AK b2 0) (AB aN)).setCell (AK b2 1) (AE V aI.length se))=W2;intro R r B;have aa:Hid (∀W,Keep Low O2 W2 W->∀s,W.cell? (AK b2 s)=(#[AB aN,AE V aI.length se]:Array Value)[s]?):=λW hW s=>(hW.ext.cell (.inl hO2) s).trans (cell_of_heap R s)
    clear R;try walk_nrm
    have vg:IntKind.i64.wrap ((j:Int)+1)=((j+1:Nat):Int):=by rw[IntKind.wrap_i64];omega
    clear A y hb jC;have _Y:=cs2 aa;refine kW ?_;clear _Y;exact⟨cs.length - (j+1),AQ,j+1,_,_,_,_,_,_,_,_,AQ,rfl,rfl,rfl,r,B⟩
   ·have bi:¬(j:Int)<(cs.length:Int):=by omega
    have hd:cs.drop j=[]:=RR AQ;rw[hd];refine kW ?_;exact⟨_,_,_,_,_,_,_,_,_,rfl,by first | rfl | trivial,A,y⟩
  rintro _ _ O1 W1 ⟨u5,aj,ae,ah,af,ai,lH,lG,aE,rfl,rfl,uD,lq⟩;dsimp only;replace A:=A.trans uD;clear y;have y:=lq;have aS:=AV (λq g W hE hK s=>ao q g W (uD.trans hE) hK s);replace bD:=uD.own _ bD;clear ao uD lq aA bf;replace ao:=aS;clear aS;clear O w;obtain⟨O,eO⟩:=AA O1
  subst eO;obtain⟨w,ew⟩:=AA W1
  subst ew;have zL:=C2.refl Low O w;have _Y:=cs6 (λW h=>ao O w W zL h);refine kW ?_;clear _Y;clear zL;rw[a7.out];clear a7
  refine Zg (Ba _ _ _) (λn a' S q g=>∃(j:Nat) (v6 v7 aT aY bb ba aR aQ a6 aV aJ aW aM aL bc aK aH aU aG a9 a8:Value),j<=d.length/\n=d.length - j/\a'=⟨#[.chan (some c), .agg #[AB nk,AB no,AE pa nd.length ra,AE pk nl r1,AE pc cs.length rc,AE pd d.length rd],undef,AH b1,undef,u5,v6,v7, .pointer (some (AK b1 4)),AE pc cs.length rc,AB cs.length,aE,aj,ae,ah,af,ai,lH,lG, .pointer (some (AK b1 5)),AE pd d.length rd,AB d.length,AB j,aT,aY,bb,ba,aR,aQ,a6,aV,aJ,aW,aM,aL,bc,aK,aH,aU,aG,a9,a8],[]⟩/\
   S=((uZ.drop j).flatten).map MI.val++rest/\C2 Low O q w g/\Held Low w₀ q g) d.length ⟨0,undef,undef,undef,undef,undef,undef,undef,undef,undef,undef,undef,undef,undef,undef,undef,undef,undef,undef,undef,undef,undef,DZ _,rfl,rfl,by rw[NA],C2.refl _ _ _,y⟩ ?_
  have bn:=A;clear A y;rintro n _ _ O1 W1 ⟨j,v6,v7,aT,aY,bb,ba,aR,aQ,a6,aV,aJ,aW,aM,aL,bc,aK,aH,aU,aG,a9,a8,hj,rfl,rfl,rfl,A,y⟩;dsimp only;by_cases X:j<d.length
  ·have bg:(j:Int)<(d.length:Int):=by omega
   obtain⟨b,o,rfl,hb,hc⟩:=aD j X;have hm:=CJ X;have ac:=ap _ hm;obtain⟨wz,aB⟩:=HP _ hm;rw[bp.out j X,D3,CU,CU,CU,fJ,EI,EI,EI]
   revert hc ac wz aB
   generalize d[j]=x;intro hc ac wz aB;generalize (p x).1=ms1 at*;generalize (p x).2=ms2 at*;obtain⟨F,L,ag⟩:=ac.net.devs;obtain⟨E,M,ak,_⟩:=ac.net.kids;obtain⟨qc,Y,pF,_⟩:=ac.coils;obtain⟨qd,sd,an,_⟩:=ac.kids;clear ac;obtain⟨⟨N,H,J,xa,y8,I⟩,bq,ab,bs,Z⟩:=x;dsimp only at ag ak pF an;subst ag ak pF an;have jC:=AV (λW (hW:Keep Low O1 W1 W)=>hc.held (y.rely hW) hb);have sD:Hid (∀vs O w,Held Low w₀ O w->Nq prog (okS prog Low c) 97 #[.agg #[AB N,AB H,AE F J.length L,AE E I.length M]] vs O w λv S q g=>S=vs/\(∀rest,Nq prog (okS prog Low c) 134 #[.chan (some c),AB 2,v] (ms1.map MI.val++rest) q g λ_ bm vS a5=>bm=rest/\C2 Low q vS g a5/\Held Low w₀ vS a5)/\C2 Low O q w g/\Held Low w₀ q g):=wz;have bh:Hid (∀rest O w,Held Low w₀ O w->Nq prog (okS prog Low c) 99 #[.chan (some c), .agg #[AB N,AB H,AE F J.length L,AE E I.length M,AE qc ab.length Y,AE qd Z.length sd]] (ms2.map MI.val++rest) O w λ_ S q g=>S=rest/\C2 Low O q w g/\Held Low w₀ q g):=aB;clear hc hm aD ap HP wz aB;have zL:=A;have _Y:=jC.out;simp only[Gk,Yi] at _Y;refine kW ?_;clear _Y;refine Og (Ba _ _ _) rfl Ab ?_ ?_
   ·intro _;simp[go_sem];done
   intro w₁ hR K hK;go_simp;refine hK _ _ ?_;clear hK K;obtain⟨O2,eO,r,B,hO2,U,D,hH2⟩:=K2 y hR #[AB 0,AB 0,AG,AG,AG,AG] 62;rw[<-eO];clear eO
   revert r B hO2 U D hH2
   generalize w₁.alloc (.cells #[AB 0,AB 0,AG,AG,AG,AG] 62)=W2;generalize w₁.heap.size=b2;intro r B hO2 U D hH2;replace r:=A.trans r;replace D :=λx u=>D x (A.own x u)
   clear hR w₁;try walk_nrm
   (refine Qg (Ba _ _ _) rfl Ab ?_ ?_;(focus (intro _;first | (simp[go_sem];done) | (simp[go_sem, *];done)));intro _ K hK;go_simp;refine hK _ ?_;clear hK K;try walk_nrm)
   refine Yt (Ba _ _ _) b2 hO2 rfl Ab ?_ ?_
   ·exact zm
   intro w₁ hR K hK;have hh:=(hR.mine _ hO2).trans hH2;have y0:w₁.cell? (AK b2 0)=some (AB 0):=cell_of_heap hh 0;have z0:=frozen_of_heap hh 0;have y1:w₁.cell? (AK b2 1)=some (AB 0):=cell_of_heap hh 1;have z1:=frozen_of_heap hh 1;have y2:w₁.cell? (AK b2 2)=some AG:=cell_of_heap hh 2;have z2:=frozen_of_heap hh 2;have y3:w₁.cell? (AK b2 3)=some AG:=cell_of_heap hh 3;have z3:=frozen_of_heap hh 3;have y4:w₁.cell? (AK b2 4)=some AG:=cell_of_heap hh 4;have z4:=frozen_of_heap hh 4;have y5:w₁.cell? (AK b2 5)=some AG:=cell_of_heap hh 5;have z5:=frozen_of_heap hh 5;clear hh;go_simp;try (unfold stored;go_simp)
   have hh:=(hR.mine _ hO2).trans hH2;have C:EL b2 w₁ ((((((w₁.setCell (AK b2 0) (AB N)).setCell (AK b2 1) (AB H)).setCell (AK b2 2) (AE F J.length L)).setCell (AK b2 3) (AE E I.length M)).setCell (AK b2 4) (AE qc ab.length Y)).setCell (AK b2 5) (AE qd Z.length sd)):=(((((((EL.refl _ _).set 0 (AB N)).set 1 (AB H)).set 2 (AE F J.length L)).set 3 (AE E I.length M)).set 4 (AE qc ab.length Y)).set 5 (AE qd Z.length sd))
   have R:((((((w₁.setCell (AK b2 0) (AB N)).setCell (AK b2 1) (AB H)).setCell (AK b2 2) (AE F J.length L)).setCell (AK b2 3) (AE E I.length M)).setCell (AK b2 4) (AE qc ab.length Y)).setCell (AK b2 5) (AE qd Z.length sd)).heap[b2]?=some (.cells #[AB N,AB H,AE F J.length L,AE E I.length M,AE qc ab.length Y,AE qd Z.length sd] 62):=(heap_setCell (heap_setCell (heap_setCell (heap_setCell (heap_setCell (heap_setCell hh 0 (AB N)) 1 (AB H)) 2 (AE F J.length L)) 3 (AE E I.length M)) 4 (AE qc ab.length Y)) 5 (AE qd Z.length sd))
   refine hK _ _ C ?_;clear hK K hh y0 z0 y1 z1 y2 z2 y3 z3 y4 z4 y5 z5 hH2;replace r:=(r.rely hR).put C U D;replace B:=(B.rely hR).put C U
   revert r B R
   clear C hR;generalize ((((((w₁.setCell (AK b2 0) (AB N)).setCell (AK b2 1) (AB H)).setCell (AK b2 2) (AE F J.length L)).setCell (AK b2 3) (AE E I.length M)).setCell (AK b2 4) (AE qc ab.length Y)).setCell (AK b2 5) (AE qd Z.length sd))=W2;intro R r B;have aa:Hid (∀W,Keep Low O2 W2 W->∀s,W.cell? (AK b2 s)=(#[AB N,AB H,AE F J.length L,AE E I.length M,AE qc ab.length Y,AE qd Z.length sd]:Array Value)[s]?):=λW hW s=>(hW.ext.cell (.inl hO2) s).trans (cell_of_heap R s)
   clear R;try walk_nrm
   have vg:IntKind.i64.wrap ((j:Int)+1)=((j+1:Nat):Int):=by rw[IntKind.wrap_i64];omega
   clear zL A y hb jC;have zL:=r;have _Y:=cs6 (λW h=>ao O2 W2 W zL h);have _B1:=r.own _ bD;refine kW ?_;clear _Y _B1
   (refine Hg (Ba _ _ _) rfl Ab rfl (mh d.length j X aO _ _ _) BM ?_;rintro _ _ O3 W3 ⟨rfl,rfl,rfl⟩;try walk_nrm)
   have _Y:=cs6 aa;refine kW ?_;clear _Y
   (refine Hg (Ba _ _ _) rfl Ab rfl (sD _ _ _ B) BM ?_;rintro v3 _ O3 W3 ⟨rfl,aX,jA,bu⟩;try walk_nrm)
   replace aa:=Hi aa jA hO2;replace hO2:=jA.own _ hO2
   (refine Hg (Ba _ _ _) rfl Ab rfl (aX _) BM ?_;rintro _ _ O4 W4 ⟨rfl,gX,oD⟩;try walk_nrm)
   clear aX;replace aa:=Hi aa gX hO2;replace hO2:=gX.own _ hO2;have _Y:=cs6 aa;refine kW ?_;clear _Y
   (refine Hg (Ba _ _ _) rfl Ab rfl (bh _ _ _ oD) BM ?_;rintro _ _ O5 W5 ⟨rfl,bj,oC⟩;try walk_nrm)
   refine kW ?_;exact⟨d.length - (j+1),AQ,j+1,_,_,_,_,_,_,_,_,_,_,_,_,_,_,_,_,_,_,_,_,_,AQ,rfl,rfl,rfl,((r.trans jA).trans gX).trans bj,oC⟩
  ·have bi:¬(j:Int)<(d.length:Int):=by omega
   have hd:uZ.drop j=[]:=RR (by rw[bo.out];omega);rw[hd];refine kW ?_;exact⟨rfl,_,bk _,rfl,bn.trans A,y⟩
