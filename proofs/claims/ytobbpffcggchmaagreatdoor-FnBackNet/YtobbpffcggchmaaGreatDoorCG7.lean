import Derived.Test.YtobbpffcggchmaaGreatDoorCG6
namespace Go.Co
open Stil
open Go.Conc
theorem A04 {τ:Type}{ok:τ->(Nat->Prop)->World->Goroutine->Prop}{fn:FuncId}{Q:Vw τ}{a:Act}{x:τ}{O:Nat->Prop}{w:World}{c:Code}{i:Nat}{N:Act->τ->(Nat->Prop)->World->Prop}(M:Act->τ->(Nat->Prop)->World->Prop)
  (h:WpK ok fn c (Lu i (U5 M Q)) a x O w) (j:∀b d g f,M b d g f->N b d g f):WpK ok fn c (Lu i (U5 N Q)) a x O w:=
 h.mono λe b d g f q=>by
  cases e with
  | normal=>exact j _ _ _ _ q
  | exit k=>
   simp only[Lu] at q ⊢;split
   ·rename_i h;rw[if_pos h] at q;exact j _ _ _ _ q
   ·rename_i h;rw[if_neg h] at q;exact q
  | _=>exact q
end Go.Co
namespace Go.Proofs.YtobbpffcggchmaaGreatDoor
open Tryz
open Stil
open Go.RowKit Go.Sort Go.BigFrame Go.Conc Go.Co
variable {Low c : Nat}
theorem zm {p:Prop}(h:p:=by
 intro w₁ hR e he
 have hh:=(hR.mine _ hO2).trans hH2;have y0:w₁.cell? ⟨b2,0,none⟩=some (.int .i64 0):=cell_of_heap hh 0;have z0:=frozen_of_heap hh 0;have y1:w₁.cell? ⟨b2,1,none⟩=some (.int .i64 0):=cell_of_heap hh 1;have z1:=frozen_of_heap hh 1;have y2:w₁.cell? ⟨b2,2,none⟩=some (.slice none 0 0):=cell_of_heap hh 2;have z2:=frozen_of_heap hh 2;have y3:w₁.cell? ⟨b2,3,none⟩=some (.slice none 0 0):=cell_of_heap hh 3;have z3:=frozen_of_heap hh 3;have y4:w₁.cell? ⟨b2,4,none⟩=some (.slice none 0 0):=cell_of_heap hh 4;have z4:=frozen_of_heap hh 4;have y5:w₁.cell? ⟨b2,5,none⟩=some (.slice none 0 0):=cell_of_heap hh 5;have z5:=frozen_of_heap hh 5;clear hh;simp[go_sem,events_store_slice,storedEv, *] at he
 (first | (subst he;exact⟨_,_,rfl, .inl hO2⟩) | (rcases he with rfl | rfl<;>exact⟨_,_,rfl, .inl hO2⟩) | (rcases he with rfl | rfl | rfl | rfl<;>exact⟨_,_,rfl, .inl hO2⟩) | (rcases he with rfl | rfl | rfl | rfl | rfl | rfl<;>exact⟨_,_,rfl, .inl hO2⟩))):p:=h
set_option maxRecDepth 100000 in
set_option maxHeartbeats 4000000 in
theorem A7p (w₀:World)(m:Dw):Agh m.arm->VOk Low w₀ m->∃vs,MIs w₀ (Akl m) vs (Iu m.arm)/\A3n Low c w₀ m vs:=by
 induction m using Aac with
 | h n cv cs kv d ih=>
  intro ay au;rw[Dw.arm_eq] at ay ⊢;dsimp only at ay ⊢;obtain⟨aU,aZ,aC,az⟩:=(Aq8 _ _ _).1 ay;rw[A9j] at aU aZ;replace az:∀x∈d,Agh x.arm:=λx u=>az _ (Ba2 u)
  replace aC:∀x∈d,Ayp x.net.net:=λx u=>by have:=aC _ (Ba2 u);rw[Dw.arm_eq] at this;exact this
  obtain⟨pa,ra,aj⟩:=au.net.devs;obtain⟨pk,r1,ae,_⟩:=au.net.kids;obtain⟨pc,rc,lG,aB,aw⟩:=au.coils;obtain⟨pd,rd,ap,al,aE⟩:=au.kids;dsimp only at aj ae lG ap aB al aw aE;subst lG ap;have bc:∀x∈d,∃p:List MI × List MI,(MIs w₀ x.net.vals p.1 (Ir x.net.net)/\MIs w₀ (Akl x) p.2 (Iu x.arm))/\Akc Low c w₀ x.net p.1/\A3n Low c w₀ x p.2:=λx u=>by
   obtain⟨ms,h1,h2⟩:=A0f (c:=c) w₀ x.net (al x u).net (aC x u);obtain⟨vs,h3,h4⟩:=ih x u (az x u) (al x u);exact⟨(ms,vs),⟨h1,h3⟩,h2,h4⟩
  obtain⟨p,C⟩:∃p:Dw->List MI × List MI,∀x∈d,(MIs w₀ x.net.vals (p x).1 (Ir x.net.net)/\MIs w₀ (Akl x) (p x).2 (Iu x.arm))/\Akc Low c w₀ x.net (p x).1/\A3n Low c w₀ x (p x).2:=by
   classical
   refine⟨λx=>if h:∃p:List MI × List MI,(MIs w₀ x.net.vals p.1 (Ir x.net.net)/\MIs w₀ (Akl x) p.2 (Iu x.arm))/\Akc Low c w₀ x.net p.1/\A3n Low c w₀ x p.2 then h.choose else([],[]),λx u=>?_⟩;have h:=bc x u;simp only[h,dite_true];exact h.choose_spec
  clear bc ih;refine⟨cs.map Arc++(d.mapIdx λi x=>Yl d.length i++((p x).1++(p x).2)).flatten,?_,λrest Oo wo uA=>?_⟩
  ·rw[U6]
   have h1:=Az2 aB;have h2:=Ayn (n:=d.length) (p:=p) (l:=d) 0 λx u=>(C x u).1
   simp only[A9c] at h2;rw[A9j];refine(h1.append h2).sub (Ah9 ?_);show(Hq cs++Il d).Sublist (_::(Hq cs++(_::Il d)))
   exact((Bao _).append ((Bao _).cons _)).cons _
  obtain⟨X,nY⟩:∃X:List (List MI),X=d.mapIdx λi x=>Yl d.length i++((p x).1++(p x).2):=⟨_,rfl⟩
  have aL:X.length=d.length:=by rw[nY];simp
  have aP:∀i (h:i<d.length),X.drop i=(Yl d.length i++((p d[i]).1++(p d[i]).2))::X.drop (i+1):=λi h=>by
   rw[Bas omz];congr 1;subst nY;rw[List.getElem_mapIdx]
  rw[<-nY,A9h,A9r];have HP:=hid (λx u=>(C x u).2);have bn:=hid aP;have nO:=hid aL;have vw:=hid aB;clear nY aP aL C aC az ay au aB;obtain⟨nk,no,nd,na,bo,uP⟩:=n;dsimp only at aj ae;subst aj ae;generalize uP.length=nl;obtain⟨av,aF⟩:∃av,av=(X.flatten).map MI.val++rest:=⟨_,rfl⟩
  rw[<-aF];have aX:=hid aF;clear aF;have bk:=resultsC_none (P:=prog) (fn:=Tryz.f92) rfl;dsimp only;refine Ho func92 rrz rfl ?_;simp only[ntmps92,A86,A84,A85,Nat.reduceAdd,Nat.reduceSub,A9w,A9x,A92,A9z,A9u,A9t];refine J6 (Bd _ _ _) ?_
  (refine Ez (Bd _ _ _) ?_;simp only[A86,A84,A85,A9c,List.range,List.range.loop])
  refine kB uA #[.int .i64 nk, .int .i64 no, .slice pa nd.length ra, .slice pk nl r1, .slice pc cs.length rc, .slice pd d.length rd] 38 λO1 W1 b1 A y aT bs bM=>?_
  try walk_nrm
  obtain⟨O,eO⟩:∃O,O=O1:=⟨_,rfl⟩
  subst eO;obtain⟨w,ew⟩:∃w,w=W1:=⟨_,rfl⟩
  subst ew;have _Y:=cs6 bM;refine kW ?_;clear _Y;have an:Hid (∀g q W,Ext Low O g w q->Keep Low g q W->∀s,W.cell? ⟨b1,s,none⟩=(#[.int .i64 nk, .int .i64 no, .slice pa nd.length ra, .slice pk nl r1, .slice pc cs.length rc, .slice pd d.length rd]:Array Value)[s]?):=λg q W hE hK s=>(hK.ext.cell (.inl (hE.own _ aT)) s).trans ((hE.cell (.inl aT) s).trans (bM _ (Keep.refl _ _ _) s))
  clear bM;refine A04 (λa' M g q=>∃(u5 ai ag ak ah af fC fB aD:Value),a'=⟨#[.chan (some c), .agg #[.int .i64 nk, .int .i64 no, .slice pa nd.length ra, .slice pk nl r1, .slice pc cs.length rc, .slice pd d.length rd],undef, .pointer (some ⟨b1,0,none⟩),undef,u5,undef,undef, .pointer (some ⟨b1,4,none⟩), .slice pc cs.length rc, .int .i64 cs.length,aD,ai,ag,ak,ah,af,fC,fB,undef,undef,undef,undef,undef,undef,undef,undef,undef,undef,undef,undef,undef,undef,undef,undef,undef,undef,undef,undef,undef,undef,undef],[]⟩/\M=av/\Ext Low O g w q/\Held Low w₀ g q) ?_ ?_
  ·refine Xu (Bd _ _ _) (λn a' M g q=>∃(j:Nat) (u5 ai ag ak ah af fC fB:Value),j<=cs.length/\n=cs.length - j/\a'=⟨#[.chan (some c), .agg #[.int .i64 nk, .int .i64 no, .slice pa nd.length ra, .slice pk nl r1, .slice pc cs.length rc, .slice pd d.length rd],undef, .pointer (some ⟨b1,0,none⟩),undef,u5,undef,undef, .pointer (some ⟨b1,4,none⟩), .slice pc cs.length rc, .int .i64 cs.length, .int .i64 j,ai,ag,ak,ah,af,fC,fB,undef,undef,undef,undef,undef,undef,undef,undef,undef,undef,undef,undef,undef,undef,undef,undef,undef,undef,undef,undef,undef,undef,undef],[]⟩/\
    M=(cs.drop j).map (λe=>(Arc e).val)++av/\Ext Low O g w q/\Held Low w₀ g q) cs.length ⟨0,undef,undef,undef,undef,undef,undef,undef,undef,Ban _,rfl,rfl,by rw[Bce,Bbf];rfl,Ext.refl _ _ _,y⟩ ?_
   rintro n _ _ O1 W1 ⟨j,u5,ai,ag,ak,ah,af,fC,fB,hj,rfl,rfl,rfl,A,y⟩;dsimp only;by_cases Y:j<cs.length
   ·have bg:(j:Int)<(cs.length:Int):=by omega
    obtain⟨b,o,rfl,hb,ao,ar⟩:=aw j Y;have bb:=Bas Y;have ax:=vw _ (A9a Y);rw[bb,A9l,A9t]
    revert ao ar ax
    generalize cs[j]=e;intro ao ar ax;obtain⟨qe,se,zq⟩:=Ac ax;obtain⟨qB,qE,bp⟩:=e;dsimp only at zq ao ar;subst zq;simp only[Arc,MI.val];have dM:Hid (∀W,Keep Low O1 W1 W->W.cell? ⟨b,o+j*2,none⟩=some (.int .i64 qB)/\W.cell? ⟨b,o+j*2+1,none⟩=some (.slice qe qE.length se)):=λW Z=>⟨((y.rely Z).down hb _).trans ao,((y.rely Z).down hb _).trans ar⟩
    clear ao ar bb ax aw;have _Y:=dM.out;refine kW ?_;clear _Y;refine Na (Bd _ _ _) rfl rrz ?_ ?_
    ·intro _;simp[go_sem];done
    intro w₁ hR K hK;go_simp;refine hK _ _ ?_;clear hK K;obtain⟨O2,eO,r,B,hO2,F,D,hH2⟩:=Am0 y hR #[.int .i64 0, .slice none 0 0] 27;rw[<-eO];clear eO
    revert r B hO2 F D hH2
    generalize w₁.alloc (.cells #[.int .i64 0, .slice none 0 0] 27)=W2;generalize w₁.heap.size=b2;intro r B hO2 F D hH2;replace r:=A.trans r;replace D :=λx u=>D x (A.own x u)
    clear hR w₁;try walk_nrm
    refine W9 (Bd _ _ _) b2 hO2 rfl rrz ?_ ?_
    ·intro w₁ hR e he
     have hh:=(hR.mine _ hO2).trans hH2;have y0:w₁.cell? ⟨b2,0,none⟩=some (.int .i64 0):=cell_of_heap hh 0;have z0:=frozen_of_heap hh 0;have y1:w₁.cell? ⟨b2,1,none⟩=some (.slice none 0 0):=cell_of_heap hh 1;have z1:=frozen_of_heap hh 1;clear hh;simp[go_sem,events_store_slice,storedEv, *] at he
     (first | (subst he;exact⟨_,_,rfl, .inl hO2⟩) | (rcases he with rfl | rfl<;>exact⟨_,_,rfl, .inl hO2⟩) | (rcases he with rfl | rfl | rfl | rfl<;>exact⟨_,_,rfl, .inl hO2⟩) | (rcases he with rfl | rfl | rfl | rfl | rfl | rfl<;>exact⟨_,_,rfl, .inl hO2⟩))
    intro w₁ hR K hK;have hh:=(hR.mine _ hO2).trans hH2;have y0:w₁.cell? ⟨b2,0,none⟩=some (.int .i64 0):=cell_of_heap hh 0;have z0:=frozen_of_heap hh 0;have y1:w₁.cell? ⟨b2,1,none⟩=some (.slice none 0 0):=cell_of_heap hh 1;have z1:=frozen_of_heap hh 1;clear hh;go_simp;try (unfold stored;go_simp)
    have hh:=(hR.mine _ hO2).trans hH2;have C:Put b2 w₁ ((w₁.setCell ⟨b2,0,none⟩ (.int .i64 qB)).setCell ⟨b2,1,none⟩ (.slice qe qE.length se)):=(((Put.refl _ _).set 0 (.int .i64 qB)).set 1 (.slice qe qE.length se))
    have J:((w₁.setCell ⟨b2,0,none⟩ (.int .i64 qB)).setCell ⟨b2,1,none⟩ (.slice qe qE.length se)).heap[b2]?=some (.cells #[.int .i64 qB, .slice qe qE.length se] 27):=(heap_setCell (heap_setCell hh 0 (.int .i64 qB)) 1 (.slice qe qE.length se))
    refine hK _ _ C ?_;clear hK K hh y0 z0 y1 z1 hH2;replace r:=(r.rely hR).put C F D;replace B:=(B.rely hR).put C F
    revert r B J
    clear C hR;generalize ((w₁.setCell ⟨b2,0,none⟩ (.int .i64 qB)).setCell ⟨b2,1,none⟩ (.slice qe qE.length se))=W2;intro J r B;have aa:Hid (∀W,Keep Low O2 W2 W->∀s,W.cell? ⟨b2,s,none⟩=(#[.int .i64 qB, .slice qe qE.length se]:Array Value)[s]?):=λW Z s=>(Z.ext.cell (.inl hO2) s).trans (cell_of_heap J s)
    clear J;try walk_nrm
    have rE:IntKind.i64.wrap ((j:Int)+1)=((j+1:Nat):Int):=by rw[IntKind.wrap_i64];omega
    clear A y hb dM;have _Y:=cs2 aa;refine kW ?_;clear _Y;exact⟨cs.length - (j+1),omz,j+1,_,_,_,_,_,_,_,_,omz,rfl,rfl,rfl,r,B⟩
   ·have bj:¬(j:Int)<(cs.length:Int):=by omega
    have hd:cs.drop j=[]:=Bb3 omz;rw[hd];refine kW ?_;exact⟨_,_,_,_,_,_,_,_,_,rfl,by first | rfl | trivial,A,y⟩
  rintro _ _ O1 W1 ⟨u5,ai,ag,ak,ah,af,fC,fB,aD,rfl,rfl,oL,xE⟩;dsimp only;replace A:=A.trans oL;clear y;have y:=xE;have a3:=hid (λg q W hE hK s=>an g q W (oL.trans hE) hK s);replace aT:=oL.own _ aT;clear an oL xE aw aU;replace an:=a3;clear a3;clear O w;obtain⟨O,eO⟩:∃O,O=O1:=⟨_,rfl⟩
  subst eO;obtain⟨w,ew⟩:∃w,w=W1:=⟨_,rfl⟩
  subst ew;have uB:=Ext.refl Low O w;have _Y:=cs6 (λW h=>an O w W uB h);refine kW ?_;clear _Y;clear uB;rw[aX.out];clear aX
  refine Xu (Bd _ _ _) (λn a' M g q=>∃(j:Nat) (v6 v7 a6 aO aI aM a9 a8 aG a2 aH aQ aY a5 aV aW aJ a7 aR ba aS:Value),j<=d.length/\n=d.length - j/\a'=⟨#[.chan (some c), .agg #[.int .i64 nk, .int .i64 no, .slice pa nd.length ra, .slice pk nl r1, .slice pc cs.length rc, .slice pd d.length rd],undef, .pointer (some ⟨b1,0,none⟩),undef,u5,v6,v7, .pointer (some ⟨b1,4,none⟩), .slice pc cs.length rc, .int .i64 cs.length,aD,ai,ag,ak,ah,af,fC,fB, .pointer (some ⟨b1,5,none⟩), .slice pd d.length rd, .int .i64 d.length, .int .i64 j,a6,aO,aI,aM,a9,a8,aG,a2,aH,aQ,aY,a5,aV,aW,aJ,a7,aR,ba,aS],[]⟩/\
   M=((X.drop j).flatten).map MI.val++rest/\Ext Low O g w q/\Held Low w₀ g q) d.length ⟨0,undef,undef,undef,undef,undef,undef,undef,undef,undef,undef,undef,undef,undef,undef,undef,undef,undef,undef,undef,undef,undef,Ban _,rfl,rfl,by rw[Bce],Ext.refl _ _ _,y⟩ ?_
  have bi:=A;clear A y;rintro n _ _ O1 W1 ⟨j,v6,v7,a6,aO,aI,aM,a9,a8,aG,a2,aH,aQ,aY,a5,aV,aW,aJ,a7,aR,ba,aS,hj,rfl,rfl,rfl,A,y⟩;dsimp only;by_cases Y:j<d.length
  ·have bg:(j:Int)<(d.length:Int):=by omega
   obtain⟨b,o,rfl,hb,hc⟩:=aE j Y;have hm:=A9a Y;have ac:=al _ hm;obtain⟨zL,aA⟩:=HP _ hm;rw[bn.out j Y,Bag,A9h,A9h,A9h,Azn,A9r,A9r,A9r]
   revert hc ac zL aA
   generalize d[j]=x;intro hc ac zL aA;generalize (p x).1=ms1 at*;generalize (p x).2=ms2 at*;obtain⟨U,R,aj⟩:=ac.net.devs;obtain⟨S,N,ae,_⟩:=ac.net.kids;obtain⟨qc,sc,lG,_⟩:=ac.coils;obtain⟨qd,V,ap,_⟩:=ac.kids;clear ac;obtain⟨⟨I,E,H,xa,kY,L⟩,br,ab,bq,gX⟩:=x;dsimp only at aj ae lG ap;subst aj ae lG ap;have dM:=hid (λW (Z:Keep Low O1 W1 W)=>hc.held (y.rely Z) hb);have bm:Hid (∀vs O w,Held Low w₀ O w->Lh prog (okS prog Low c) 109 #[.agg #[.int .i64 I, .int .i64 E, .slice U H.length R, .slice S L.length N]] vs O w λv M g q=>M=vs/\(∀rest,Lh prog (okS prog Low c) 107 #[.chan (some c), .int .i64 2,v] (ms1.map MI.val++rest) g q λ_ bf qF aK=>bf=rest/\Ext Low g qF q aK/\Held Low w₀ qF aK)/\Ext Low O g w q/\Held Low w₀ g q):=zL;have qp:Hid (∀rest O w,Held Low w₀ O w->Lh prog (okS prog Low c) 92 #[.chan (some c), .agg #[.int .i64 I, .int .i64 E, .slice U H.length R, .slice S L.length N, .slice qc ab.length sc, .slice qd gX.length V]] (ms2.map MI.val++rest) O w λ_ M g q=>M=rest/\Ext Low O g w q/\Held Low w₀ g q):=aA;clear hc hm aE al HP zL aA;have uB:=A;have _Y:=dM.out;simp only[Agu,Wl] at _Y;refine kW ?_;clear _Y;refine Na (Bd _ _ _) rfl rrz ?_ ?_
   ·intro _;simp[go_sem];done
   intro w₁ hR K hK;go_simp;refine hK _ _ ?_;clear hK K;obtain⟨O2,eO,r,B,hO2,F,D,hH2⟩:=Am0 y hR #[.int .i64 0, .int .i64 0, .slice none 0 0, .slice none 0 0, .slice none 0 0, .slice none 0 0] 38;rw[<-eO];clear eO
   revert r B hO2 F D hH2
   generalize w₁.alloc (.cells #[.int .i64 0, .int .i64 0, .slice none 0 0, .slice none 0 0, .slice none 0 0, .slice none 0 0] 38)=W2;generalize w₁.heap.size=b2;intro r B hO2 F D hH2;replace r:=A.trans r;replace D :=λx u=>D x (A.own x u)
   clear hR w₁;try walk_nrm
   (refine O8 (Bd _ _ _) rfl rrz ?_ ?_;(focus (intro _;first | (simp[go_sem];done) | (simp[go_sem, *];done)));intro _ K hK;go_simp;refine hK _ ?_;clear hK K;try walk_nrm)
   refine W9 (Bd _ _ _) b2 hO2 rfl rrz ?_ ?_
   ·exact zm
   intro w₁ hR K hK;have hh:=(hR.mine _ hO2).trans hH2;have y0:w₁.cell? ⟨b2,0,none⟩=some (.int .i64 0):=cell_of_heap hh 0;have z0:=frozen_of_heap hh 0;have y1:w₁.cell? ⟨b2,1,none⟩=some (.int .i64 0):=cell_of_heap hh 1;have z1:=frozen_of_heap hh 1;have y2:w₁.cell? ⟨b2,2,none⟩=some (.slice none 0 0):=cell_of_heap hh 2;have z2:=frozen_of_heap hh 2;have y3:w₁.cell? ⟨b2,3,none⟩=some (.slice none 0 0):=cell_of_heap hh 3;have z3:=frozen_of_heap hh 3;have y4:w₁.cell? ⟨b2,4,none⟩=some (.slice none 0 0):=cell_of_heap hh 4;have z4:=frozen_of_heap hh 4;have y5:w₁.cell? ⟨b2,5,none⟩=some (.slice none 0 0):=cell_of_heap hh 5;have z5:=frozen_of_heap hh 5;clear hh;go_simp;try (unfold stored;go_simp)
   have hh:=(hR.mine _ hO2).trans hH2;have C:Put b2 w₁ ((((((w₁.setCell ⟨b2,0,none⟩ (.int .i64 I)).setCell ⟨b2,1,none⟩ (.int .i64 E)).setCell ⟨b2,2,none⟩ (.slice U H.length R)).setCell ⟨b2,3,none⟩ (.slice S L.length N)).setCell ⟨b2,4,none⟩ (.slice qc ab.length sc)).setCell ⟨b2,5,none⟩ (.slice qd gX.length V)):=(((((((Put.refl _ _).set 0 (.int .i64 I)).set 1 (.int .i64 E)).set 2 (.slice U H.length R)).set 3 (.slice S L.length N)).set 4 (.slice qc ab.length sc)).set 5 (.slice qd gX.length V))
   have J:((((((w₁.setCell ⟨b2,0,none⟩ (.int .i64 I)).setCell ⟨b2,1,none⟩ (.int .i64 E)).setCell ⟨b2,2,none⟩ (.slice U H.length R)).setCell ⟨b2,3,none⟩ (.slice S L.length N)).setCell ⟨b2,4,none⟩ (.slice qc ab.length sc)).setCell ⟨b2,5,none⟩ (.slice qd gX.length V)).heap[b2]?=some (.cells #[.int .i64 I, .int .i64 E, .slice U H.length R, .slice S L.length N, .slice qc ab.length sc, .slice qd gX.length V] 38):=(heap_setCell (heap_setCell (heap_setCell (heap_setCell (heap_setCell (heap_setCell hh 0 (.int .i64 I)) 1 (.int .i64 E)) 2 (.slice U H.length R)) 3 (.slice S L.length N)) 4 (.slice qc ab.length sc)) 5 (.slice qd gX.length V))
   refine hK _ _ C ?_;clear hK K hh y0 z0 y1 z1 y2 z2 y3 z3 y4 z4 y5 z5 hH2;replace r:=(r.rely hR).put C F D;replace B:=(B.rely hR).put C F
   revert r B J
   clear C hR;generalize ((((((w₁.setCell ⟨b2,0,none⟩ (.int .i64 I)).setCell ⟨b2,1,none⟩ (.int .i64 E)).setCell ⟨b2,2,none⟩ (.slice U H.length R)).setCell ⟨b2,3,none⟩ (.slice S L.length N)).setCell ⟨b2,4,none⟩ (.slice qc ab.length sc)).setCell ⟨b2,5,none⟩ (.slice qd gX.length V))=W2;intro J r B;have aa:Hid (∀W,Keep Low O2 W2 W->∀s,W.cell? ⟨b2,s,none⟩=(#[.int .i64 I, .int .i64 E, .slice U H.length R, .slice S L.length N, .slice qc ab.length sc, .slice qd gX.length V]:Array Value)[s]?):=λW Z s=>(Z.ext.cell (.inl hO2) s).trans (cell_of_heap J s)
   clear J;try walk_nrm
   have rE:IntKind.i64.wrap ((j:Int)+1)=((j+1:Nat):Int):=by rw[IntKind.wrap_i64];omega
   clear uB A y hb dM;have uB:=r;have _Y:=cs6 (λW h=>an O2 W2 W uB h);have _B1:=r.own _ aT;refine kW ?_;clear _Y _B1
   (refine Gs (Bd _ _ _) rfl rrz rfl (A7r d.length j Y aZ _ _ _) yAi ?_;rintro _ _ O3 W3 ⟨rfl,rfl,rfl⟩;try walk_nrm)
   have _Y:=cs6 aa;refine kW ?_;clear _Y
   (refine Gs (Bd _ _ _) rfl rrz rfl (bm _ _ _ B) yAi ?_;rintro v3 _ O3 W3 ⟨rfl,aN,gI,bu⟩;try walk_nrm)
   replace aa:=Ai1 aa gI hO2;replace hO2:=gI.own _ hO2
   (refine Gs (Bd _ _ _) rfl rrz rfl (aN _) yAi ?_;rintro _ _ O4 W4 ⟨rfl,fG,kF⟩;try walk_nrm)
   clear aN;replace aa:=Ai1 aa fG hO2;replace hO2:=fG.own _ hO2;have _Y:=cs6 aa;refine kW ?_;clear _Y
   (refine Gs (Bd _ _ _) rfl rrz rfl (qp _ _ _ kF) yAi ?_;rintro _ _ O5 W5 ⟨rfl,bh,kE⟩;try walk_nrm)
   refine kW ?_;exact⟨d.length - (j+1),omz,j+1,_,_,_,_,_,_,_,_,_,_,_,_,_,_,_,_,_,_,_,_,_,omz,rfl,rfl,rfl,((r.trans gI).trans fG).trans bh,kE⟩
  ·have bj:¬(j:Int)<(d.length:Int):=by omega
   have hd:X.drop j=[]:=Bb3 (by rw[nO.out];omega);rw[hd];refine kW ?_;exact⟨rfl,_,bk _,rfl,bi.trans A,y⟩
end Go.Proofs.YtobbpffcggchmaaGreatDoor
