import Derived.Test.YtnpfcnolmkanfaaGreatDoorCG6
namespace Go.Co
open Stil
open Go.Conc
theorem Ay9 {τ:Type}{ok:τ->(Nat->Prop)->World->Goroutine->Prop}{fn:FuncId}{Q:Vq τ}{a:Act}{x:τ}{O:Nat->Prop}{w:World}{c:Code}{i:Nat}{N:Act->τ->(Nat->Prop)->World->Prop}(M:Act->τ->(Nat->Prop)->World->Prop)
  (h:WpK ok fn c (Lj i (U4 M Q)) a x O w) (j:∀f g b d,M f g b d->N f g b d):WpK ok fn c (Lj i (U4 N Q)) a x O w:=
 h.mono λe f g b d q=>by
  cases e with
  | normal=>exact j _ _ _ _ q
  | exit k=>
   simp only[Lj] at q ⊢;split
   ·rename_i h;rw[if_pos h] at q;exact j _ _ _ _ q
   ·rename_i h;rw[if_neg h] at q;exact q
  | _=>exact q
end Go.Co
namespace Go.Proofs.YtnpfcnolmkanfaaGreatDoor
open Tryz
open Stil
open Go.RowKit Go.Sort Go.BigFrame Go.Conc Go.Co
variable {Low c : Nat}
theorem zm {p:Prop}(h:p:=by
 intro w₁ hR e he
 have hh:=(hR.mine _ hO2).trans hH2;have y0:w₁.cell? ⟨b2,0,none⟩=some (.int .i64 0):=cell_of_heap hh 0;have z0:=frozen_of_heap hh 0;have y1:w₁.cell? ⟨b2,1,none⟩=some (.int .i64 0):=cell_of_heap hh 1;have z1:=frozen_of_heap hh 1;have y2:w₁.cell? ⟨b2,2,none⟩=some (.slice none 0 0):=cell_of_heap hh 2;have z2:=frozen_of_heap hh 2;have y3:w₁.cell? ⟨b2,3,none⟩=some (.slice none 0 0):=cell_of_heap hh 3;have z3:=frozen_of_heap hh 3;have y4:w₁.cell? ⟨b2,4,none⟩=some (.slice none 0 0):=cell_of_heap hh 4;have z4:=frozen_of_heap hh 4;have y5:w₁.cell? ⟨b2,5,none⟩=some (.slice none 0 0):=cell_of_heap hh 5;have z5:=frozen_of_heap hh 5;clear hh;simp[go_sem,events_store_slice,storedEv, *] at he
 (first | (subst he;exact⟨_,_,rfl, .inl hO2⟩) | (rcases he with rfl | rfl<;>exact⟨_,_,rfl, .inl hO2⟩) | (rcases he with rfl | rfl | rfl | rfl<;>exact⟨_,_,rfl, .inl hO2⟩) | (rcases he with rfl | rfl | rfl | rfl | rfl | rfl<;>exact⟨_,_,rfl, .inl hO2⟩))):p:=h
set_option maxRecDepth 100000 in
set_option maxHeartbeats 4000000 in
theorem A46 (w₀:World)(m:Bj):Af4 m.arm->VOk Low w₀ m->∃vs,MIs w₀ (Ajy m) vs (Iz m.arm)/\A1b Low c w₀ m vs:=by
 induction m using X8 with
 | h n cv cs kv d ih=>
  intro aB ao;rw[Bj.arm_eq] at aB ⊢;dsimp only at aB ⊢;obtain⟨bb,bc,ax,aC⟩:=(Apx _ _ _).1 aB;rw[A6i] at bb bc;replace aC:∀x∈d,Af4 x.arm:=λx u=>aC _ (A7z u)
  replace ax:∀x∈d,Awy x.net.net:=λx u=>by have:=ax _ (A7z u);rw[Bj.arm_eq] at this;exact this
  obtain⟨pa,ra,aj⟩:=ao.net.devs;obtain⟨pk,r1,af,_⟩:=ao.net.kids;obtain⟨pc,rc,mZ,aA,aD⟩:=ao.coils;obtain⟨pd,rd,ar,an,aF⟩:=ao.kids;dsimp only at aj af mZ ar aA an aD aF;subst mZ ar;have aI:∀x∈d,∃p:List MI × List MI,(MIs w₀ x.net.vals p.1 (Iy x.net.net)/\MIs w₀ (Ajy x) p.2 (Iz x.arm))/\Ajs Low c w₀ x.net p.1/\A1b Low c w₀ x p.2:=λx u=>by
   obtain⟨ms,h1,h2⟩:=Aym (c:=c) w₀ x.net (an x u).net (ax x u);obtain⟨vs,h3,h4⟩:=ih x u (aC x u) (an x u);exact⟨(ms,vs),⟨h1,h3⟩,h2,h4⟩
  obtain⟨p,C⟩:∃p:Bj->List MI × List MI,∀x∈d,(MIs w₀ x.net.vals (p x).1 (Iy x.net.net)/\MIs w₀ (Ajy x) (p x).2 (Iz x.arm))/\Ajs Low c w₀ x.net (p x).1/\A1b Low c w₀ x (p x).2:=by
   classical
   refine⟨λx=>if h:∃p:List MI × List MI,(MIs w₀ x.net.vals p.1 (Iy x.net.net)/\MIs w₀ (Ajy x) p.2 (Iz x.arm))/\Ajs Low c w₀ x.net p.1/\A1b Low c w₀ x p.2 then h.choose else([],[]),λx u=>?_⟩;have h:=aI x u;simp only[h,dite_true];exact h.choose_spec
  clear aI ih;refine⟨cs.map Ap1++(d.mapIdx λi x=>Yy d.length i++((p x).1++(p x).2)).flatten,?_,λrest Oo wo wR=>?_⟩
  ·rw[Y8]
   have h1:=Ax8 aA;have h2:=Awx (n:=d.length) (p:=p) (l:=d) 0 λx u=>(C x u).1
   simp only[A6b] at h2;rw[A6i];refine(h1.append h2).sub (Ahm ?_);show(Gg cs++Hy d).Sublist (_::(Gg cs++(_::Hy d)))
   exact((A7m _).append ((A7m _).cons _)).cons _
  obtain⟨V,qB⟩:∃V:List (List MI),V=d.mapIdx λi x=>Yy d.length i++((p x).1++(p x).2):=⟨_,rfl⟩
  have aJ:V.length=d.length:=by rw[qB];simp
  have a3:∀i (h:i<d.length),V.drop i=(Yy d.length i++((p d[i]).1++(p d[i]).2))::V.drop (i+1):=λi h=>by
   rw[A7p omz];congr 1;subst qB;rw[List.getElem_mapIdx]
  rw[<-qB,A6g,A6q];have HP:=hid (λx u=>(C x u).2);have bi:=hid a3;have bk:=hid aJ;have br:=hid aA;clear qB a3 aJ C ax aC aB ao aA;obtain⟨nk,no,nd,na,bw,xC⟩:=n;dsimp only at aj af;subst aj af;generalize xC.length=nl;obtain⟨az,aE⟩:∃az,az=(V.flatten).map MI.val++rest:=⟨_,rfl⟩
  rw[<-aE];have a8:=hid aE;clear aE;have bs:=resultsC_none (P:=prog) (fn:=Tryz.f64) rfl;dsimp only;refine Hu func64 rrz rfl ?_;simp only[ntmps64,A55,A53,A54,Nat.reduceAdd,Nat.reduceSub,A6v,A6w,A61,A6y,A6t,A6s];refine Jz (Bd _ _ _) ?_
  (refine Fa (Bd _ _ _) ?_;simp only[A55,A53,A54,A6b,List.range,List.range.loop])
  refine kB wR #[.int .i64 nk, .int .i64 no, .slice pa nd.length ra, .slice pk nl r1, .slice pc cs.length rc, .slice pd d.length rd] 46 λO1 W1 b1 B y bC bu bI=>?_
  try walk_nrm
  obtain⟨O,eO⟩:∃O,O=O1:=⟨_,rfl⟩
  subst eO;obtain⟨w,ew⟩:∃w,w=W1:=⟨_,rfl⟩
  subst ew;have _Y:=cs6 bI;refine kW ?_;clear _Y;have av:Hid (∀g q W,Ext Low O g w q->Keep Low g q W->∀s,W.cell? ⟨b1,s,none⟩=(#[.int .i64 nk, .int .i64 no, .slice pa nd.length ra, .slice pk nl r1, .slice pc cs.length rc, .slice pd d.length rd]:Array Value)[s]?):=λg q W hE hK s=>(hK.ext.cell (.inl (hE.own _ bC)) s).trans ((hE.cell (.inl bC) s).trans (bI _ (Keep.refl _ _ _) s))
  clear bI;refine Ay9 (λa' I g q=>∃(u5 ah ag ak al ai jW jV aG:Value),a'=⟨#[.chan (some c), .agg #[.int .i64 nk, .int .i64 no, .slice pa nd.length ra, .slice pk nl r1, .slice pc cs.length rc, .slice pd d.length rd],undef, .pointer (some ⟨b1,0,none⟩),undef,u5,undef,undef, .pointer (some ⟨b1,4,none⟩), .slice pc cs.length rc, .int .i64 cs.length,aG,ah,ag,ak,al,ai,jW,jV,undef,undef,undef,undef,undef,undef,undef,undef,undef,undef,undef,undef,undef,undef,undef,undef,undef,undef,undef,undef,undef,undef,undef],[]⟩/\I=az/\Ext Low O g w q/\Held Low w₀ g q) ?_ ?_
  ·refine Xv (Bd _ _ _) (λn a' I g q=>∃(j:Nat) (u5 ah ag ak al ai jW jV:Value),j<=cs.length/\n=cs.length - j/\a'=⟨#[.chan (some c), .agg #[.int .i64 nk, .int .i64 no, .slice pa nd.length ra, .slice pk nl r1, .slice pc cs.length rc, .slice pd d.length rd],undef, .pointer (some ⟨b1,0,none⟩),undef,u5,undef,undef, .pointer (some ⟨b1,4,none⟩), .slice pc cs.length rc, .int .i64 cs.length, .int .i64 j,ah,ag,ak,al,ai,jW,jV,undef,undef,undef,undef,undef,undef,undef,undef,undef,undef,undef,undef,undef,undef,undef,undef,undef,undef,undef,undef,undef,undef,undef],[]⟩/\
    I=(cs.drop j).map (λe=>(Ap1 e).val)++az/\Ext Low O g w q/\Held Low w₀ g q) cs.length ⟨0,undef,undef,undef,undef,undef,undef,undef,undef,A7l _,rfl,rfl,by rw[A9b,A8c];rfl,Ext.refl _ _ _,y⟩ ?_
   rintro n _ _ O1 W1 ⟨j,u5,ah,ag,ak,al,ai,jW,jV,hj,rfl,rfl,rfl,B,y⟩;dsimp only;by_cases ab:j<cs.length
   ·have bj:(j:Int)<(cs.length:Int):=by omega
    obtain⟨b,o,rfl,hb,au,ap⟩:=aD j ab;have aX:=A7p ab;have ay:=br _ (A59 ab);rw[aX,A6k,A6s]
    revert au ap ay
    generalize cs[j]=e;intro au ap ay;obtain⟨Z,se,xX⟩:=Aj ay;obtain⟨aP,X,bA⟩:=e;dsimp only at xX au ap;subst xX;simp only[Ap1,MI.val];have iG:Hid (∀W,Keep Low O1 W1 W->W.cell? ⟨b,o+j*2,none⟩=some (.int .i64 aP)/\W.cell? ⟨b,o+j*2+1,none⟩=some (.slice Z X.length se)):=λW hW=>⟨((y.rely hW).down hb _).trans au,((y.rely hW).down hb _).trans ap⟩
    clear au ap aX ay aD;have _Y:=iG.out;refine kW ?_;clear _Y;refine Md (Bd _ _ _) rfl rrz ?_ ?_
    ·intro _;simp[go_sem];done
    intro w₁ hR K hK;go_simp;refine hK _ _ ?_;clear hK K;obtain⟨O2,eO,r,A,hO2,F,D,hH2⟩:=Al3 y hR #[.int .i64 0, .slice none 0 0] 40;rw[<-eO];clear eO
    revert r A hO2 F D hH2
    generalize w₁.alloc (.cells #[.int .i64 0, .slice none 0 0] 40)=W2;generalize w₁.heap.size=b2;intro r A hO2 F D hH2;replace r:=B.trans r;replace D :=λx u=>D x (B.own x u)
    clear hR w₁;try walk_nrm
    refine Xa (Bd _ _ _) b2 hO2 rfl rrz ?_ ?_
    ·intro w₁ hR e he
     have hh:=(hR.mine _ hO2).trans hH2;have y0:w₁.cell? ⟨b2,0,none⟩=some (.int .i64 0):=cell_of_heap hh 0;have z0:=frozen_of_heap hh 0;have y1:w₁.cell? ⟨b2,1,none⟩=some (.slice none 0 0):=cell_of_heap hh 1;have z1:=frozen_of_heap hh 1;clear hh;simp[go_sem,events_store_slice,storedEv, *] at he
     (first | (subst he;exact⟨_,_,rfl, .inl hO2⟩) | (rcases he with rfl | rfl<;>exact⟨_,_,rfl, .inl hO2⟩) | (rcases he with rfl | rfl | rfl | rfl<;>exact⟨_,_,rfl, .inl hO2⟩) | (rcases he with rfl | rfl | rfl | rfl | rfl | rfl<;>exact⟨_,_,rfl, .inl hO2⟩))
    intro w₁ hR K hK;have hh:=(hR.mine _ hO2).trans hH2;have y0:w₁.cell? ⟨b2,0,none⟩=some (.int .i64 0):=cell_of_heap hh 0;have z0:=frozen_of_heap hh 0;have y1:w₁.cell? ⟨b2,1,none⟩=some (.slice none 0 0):=cell_of_heap hh 1;have z1:=frozen_of_heap hh 1;clear hh;go_simp;try (unfold stored;go_simp)
    have hh:=(hR.mine _ hO2).trans hH2;have C:Put b2 w₁ ((w₁.setCell ⟨b2,0,none⟩ (.int .i64 aP)).setCell ⟨b2,1,none⟩ (.slice Z X.length se)):=(((Put.refl _ _).set 0 (.int .i64 aP)).set 1 (.slice Z X.length se))
    have H:((w₁.setCell ⟨b2,0,none⟩ (.int .i64 aP)).setCell ⟨b2,1,none⟩ (.slice Z X.length se)).heap[b2]?=some (.cells #[.int .i64 aP, .slice Z X.length se] 40):=(heap_setCell (heap_setCell hh 0 (.int .i64 aP)) 1 (.slice Z X.length se))
    refine hK _ _ C ?_;clear hK K hh y0 z0 y1 z1 hH2;replace r:=(r.rely hR).put C F D;replace A:=(A.rely hR).put C F
    revert r A H
    clear C hR;generalize ((w₁.setCell ⟨b2,0,none⟩ (.int .i64 aP)).setCell ⟨b2,1,none⟩ (.slice Z X.length se))=W2;intro H r A;have ac:Hid (∀W,Keep Low O2 W2 W->∀s,W.cell? ⟨b2,s,none⟩=(#[.int .i64 aP, .slice Z X.length se]:Array Value)[s]?):=λW hW s=>(hW.ext.cell (.inl hO2) s).trans (cell_of_heap H s)
    clear H;try walk_nrm
    have qj:IntKind.i64.wrap ((j:Int)+1)=((j+1:Nat):Int):=by rw[IntKind.wrap_i64];omega
    clear B y hb iG;have _Y:=cs2 ac;refine kW ?_;clear _Y;exact⟨cs.length - (j+1),omz,j+1,_,_,_,_,_,_,_,_,omz,rfl,rfl,rfl,r,A⟩
   ·have bh:¬(j:Int)<(cs.length:Int):=by omega
    have hd:cs.drop j=[]:=A80 omz;rw[hd];refine kW ?_;exact⟨_,_,_,_,_,_,_,_,_,rfl,by first | rfl | trivial,B,y⟩
  rintro _ _ O1 W1 ⟨u5,ah,ag,ak,al,ai,jW,jV,aG,rfl,rfl,qX,zM⟩;dsimp only;replace B:=B.trans qX;clear y;have y:=zM;have aO:=hid (λg q W hE hK s=>av g q W (qX.trans hE) hK s);replace bC:=qX.own _ bC;clear av qX zM aD bb;replace av:=aO;clear aO;clear O w;obtain⟨O,eO⟩:∃O,O=O1:=⟨_,rfl⟩
  subst eO;obtain⟨w,ew⟩:∃w,w=W1:=⟨_,rfl⟩
  subst ew;have wS:=Ext.refl Low O w;have _Y:=cs6 (λW h=>av O w W wS h);refine kW ?_;clear _Y;clear wS;rw[a8.out];clear a8
  refine Xv (Bd _ _ _) (λn a' I g q=>∃(j:Nat) (v6 v7 aV aU aW bf aS aL aY a6 a2 aK aR ba aM bg a7 aZ a9 aH a5:Value),j<=d.length/\n=d.length - j/\a'=⟨#[.chan (some c), .agg #[.int .i64 nk, .int .i64 no, .slice pa nd.length ra, .slice pk nl r1, .slice pc cs.length rc, .slice pd d.length rd],undef, .pointer (some ⟨b1,0,none⟩),undef,u5,v6,v7, .pointer (some ⟨b1,4,none⟩), .slice pc cs.length rc, .int .i64 cs.length,aG,ah,ag,ak,al,ai,jW,jV, .pointer (some ⟨b1,5,none⟩), .slice pd d.length rd, .int .i64 d.length, .int .i64 j,aV,aU,aW,bf,aS,aL,aY,a6,a2,aK,aR,ba,aM,bg,a7,aZ,a9,aH,a5],[]⟩/\
   I=((V.drop j).flatten).map MI.val++rest/\Ext Low O g w q/\Held Low w₀ g q) d.length ⟨0,undef,undef,undef,undef,undef,undef,undef,undef,undef,undef,undef,undef,undef,undef,undef,undef,undef,undef,undef,undef,undef,A7l _,rfl,rfl,by rw[A9b],Ext.refl _ _ _,y⟩ ?_
  have bm:=B;clear B y;rintro n _ _ O1 W1 ⟨j,v6,v7,aV,aU,aW,bf,aS,aL,aY,a6,a2,aK,aR,ba,aM,bg,a7,aZ,a9,aH,a5,hj,rfl,rfl,rfl,B,y⟩;dsimp only;by_cases ab:j<d.length
  ·have bj:(j:Int)<(d.length:Int):=by omega
   obtain⟨b,o,rfl,hb,hc⟩:=aF j ab;have hm:=A59 ab;have ae:=an _ hm;obtain⟨jk,aw⟩:=HP _ hm;rw[bi.out j ab,A7f,A6g,A6g,A6g,Axq,A6q,A6q,A6q]
   revert hc ae jk aw
   generalize d[j]=x;intro hc ae jk aw;generalize (p x).1=ms1 at*;generalize (p x).2=ms2 at*;obtain⟨R,E,aj⟩:=ae.net.devs;obtain⟨J,U,af,_⟩:=ae.net.kids;obtain⟨qc,sc,mZ,_⟩:=ae.coils;obtain⟨qd,Y,ar,_⟩:=ae.kids;clear ae;obtain⟨⟨S,L,N,xa,mg,M⟩,bv,aa,bB,jB⟩:=x;dsimp only at aj af mZ ar;subst aj af mZ ar;have iG:=hid (λW (hW:Keep Low O1 W1 W)=>hc.held (y.rely hW) hb);have bq:Hid (∀vs O w,Held Low w₀ O w->Lc prog (okS prog Low c) 88 #[.agg #[.int .i64 S, .int .i64 L, .slice R N.length E, .slice J M.length U]] vs O w λv I g q=>I=vs/\(∀rest,Lc prog (okS prog Low c) 91 #[.chan (some c), .int .i64 2,v] (ms1.map MI.val++rest) g q λ_ bp sG aQ=>bp=rest/\Ext Low g sG q aQ/\Held Low w₀ sG aQ)/\Ext Low O g w q/\Held Low w₀ g q):=jk;have bn:Hid (∀rest O w,Held Low w₀ O w->Lc prog (okS prog Low c) 64 #[.chan (some c), .agg #[.int .i64 S, .int .i64 L, .slice R N.length E, .slice J M.length U, .slice qc aa.length sc, .slice qd jB.length Y]] (ms2.map MI.val++rest) O w λ_ I g q=>I=rest/\Ext Low O g w q/\Held Low w₀ g q):=aw;clear hc hm aF an HP jk aw;have wS:=B;have _Y:=iG.out;simp only[Agf,Wn] at _Y;refine kW ?_;clear _Y;refine Md (Bd _ _ _) rfl rrz ?_ ?_
   ·intro _;simp[go_sem];done
   intro w₁ hR K hK;go_simp;refine hK _ _ ?_;clear hK K;obtain⟨O2,eO,r,A,hO2,F,D,hH2⟩:=Al3 y hR #[.int .i64 0, .int .i64 0, .slice none 0 0, .slice none 0 0, .slice none 0 0, .slice none 0 0] 46;rw[<-eO];clear eO
   revert r A hO2 F D hH2
   generalize w₁.alloc (.cells #[.int .i64 0, .int .i64 0, .slice none 0 0, .slice none 0 0, .slice none 0 0, .slice none 0 0] 46)=W2;generalize w₁.heap.size=b2;intro r A hO2 F D hH2;replace r:=B.trans r;replace D :=λx u=>D x (B.own x u)
   clear hR w₁;try walk_nrm
   (refine Ov (Bd _ _ _) rfl rrz ?_ ?_;(focus (intro _;first | (simp[go_sem];done) | (simp[go_sem, *];done)));intro _ K hK;go_simp;refine hK _ ?_;clear hK K;try walk_nrm)
   refine Xa (Bd _ _ _) b2 hO2 rfl rrz ?_ ?_
   ·exact zm
   intro w₁ hR K hK;have hh:=(hR.mine _ hO2).trans hH2;have y0:w₁.cell? ⟨b2,0,none⟩=some (.int .i64 0):=cell_of_heap hh 0;have z0:=frozen_of_heap hh 0;have y1:w₁.cell? ⟨b2,1,none⟩=some (.int .i64 0):=cell_of_heap hh 1;have z1:=frozen_of_heap hh 1;have y2:w₁.cell? ⟨b2,2,none⟩=some (.slice none 0 0):=cell_of_heap hh 2;have z2:=frozen_of_heap hh 2;have y3:w₁.cell? ⟨b2,3,none⟩=some (.slice none 0 0):=cell_of_heap hh 3;have z3:=frozen_of_heap hh 3;have y4:w₁.cell? ⟨b2,4,none⟩=some (.slice none 0 0):=cell_of_heap hh 4;have z4:=frozen_of_heap hh 4;have y5:w₁.cell? ⟨b2,5,none⟩=some (.slice none 0 0):=cell_of_heap hh 5;have z5:=frozen_of_heap hh 5;clear hh;go_simp;try (unfold stored;go_simp)
   have hh:=(hR.mine _ hO2).trans hH2;have C:Put b2 w₁ ((((((w₁.setCell ⟨b2,0,none⟩ (.int .i64 S)).setCell ⟨b2,1,none⟩ (.int .i64 L)).setCell ⟨b2,2,none⟩ (.slice R N.length E)).setCell ⟨b2,3,none⟩ (.slice J M.length U)).setCell ⟨b2,4,none⟩ (.slice qc aa.length sc)).setCell ⟨b2,5,none⟩ (.slice qd jB.length Y)):=(((((((Put.refl _ _).set 0 (.int .i64 S)).set 1 (.int .i64 L)).set 2 (.slice R N.length E)).set 3 (.slice J M.length U)).set 4 (.slice qc aa.length sc)).set 5 (.slice qd jB.length Y))
   have H:((((((w₁.setCell ⟨b2,0,none⟩ (.int .i64 S)).setCell ⟨b2,1,none⟩ (.int .i64 L)).setCell ⟨b2,2,none⟩ (.slice R N.length E)).setCell ⟨b2,3,none⟩ (.slice J M.length U)).setCell ⟨b2,4,none⟩ (.slice qc aa.length sc)).setCell ⟨b2,5,none⟩ (.slice qd jB.length Y)).heap[b2]?=some (.cells #[.int .i64 S, .int .i64 L, .slice R N.length E, .slice J M.length U, .slice qc aa.length sc, .slice qd jB.length Y] 46):=(heap_setCell (heap_setCell (heap_setCell (heap_setCell (heap_setCell (heap_setCell hh 0 (.int .i64 S)) 1 (.int .i64 L)) 2 (.slice R N.length E)) 3 (.slice J M.length U)) 4 (.slice qc aa.length sc)) 5 (.slice qd jB.length Y))
   refine hK _ _ C ?_;clear hK K hh y0 z0 y1 z1 y2 z2 y3 z3 y4 z4 y5 z5 hH2;replace r:=(r.rely hR).put C F D;replace A:=(A.rely hR).put C F
   revert r A H
   clear C hR;generalize ((((((w₁.setCell ⟨b2,0,none⟩ (.int .i64 S)).setCell ⟨b2,1,none⟩ (.int .i64 L)).setCell ⟨b2,2,none⟩ (.slice R N.length E)).setCell ⟨b2,3,none⟩ (.slice J M.length U)).setCell ⟨b2,4,none⟩ (.slice qc aa.length sc)).setCell ⟨b2,5,none⟩ (.slice qd jB.length Y))=W2;intro H r A;have ac:Hid (∀W,Keep Low O2 W2 W->∀s,W.cell? ⟨b2,s,none⟩=(#[.int .i64 S, .int .i64 L, .slice R N.length E, .slice J M.length U, .slice qc aa.length sc, .slice qd jB.length Y]:Array Value)[s]?):=λW hW s=>(hW.ext.cell (.inl hO2) s).trans (cell_of_heap H s)
   clear H;try walk_nrm
   have qj:IntKind.i64.wrap ((j:Int)+1)=((j+1:Nat):Int):=by rw[IntKind.wrap_i64];omega
   clear wS B y hb iG;have wS:=r;have _Y:=cs6 (λW h=>av O2 W2 W wS h);have _B1:=r.own _ bC;refine kW ?_;clear _Y _B1
   (refine Gt (Bd _ _ _) rfl rrz rfl (A48 d.length j ab bc _ _ _) yBc ?_;rintro _ _ O3 W3 ⟨rfl,rfl,rfl⟩;try walk_nrm)
   have _Y:=cs6 ac;refine kW ?_;clear _Y
   (refine Gt (Bd _ _ _) rfl rrz rfl (bq _ _ _ A) yBc ?_;rintro v3 _ O3 W3 ⟨rfl,aT,iE,bz⟩;try walk_nrm)
   replace ac:=Aid ac iE hO2;replace hO2:=iE.own _ hO2
   (refine Gt (Bd _ _ _) rfl rrz rfl (aT _) yBc ?_;rintro _ _ O4 W4 ⟨rfl,fM,lZ⟩;try walk_nrm)
   clear aT;replace ac:=Aid ac fM hO2;replace hO2:=fM.own _ hO2;have _Y:=cs6 ac;refine kW ?_;clear _Y
   (refine Gt (Bd _ _ _) rfl rrz rfl (bn _ _ _ lZ) yBc ?_;rintro _ _ O5 W5 ⟨rfl,bo,lY⟩;try walk_nrm)
   refine kW ?_;exact⟨d.length - (j+1),omz,j+1,_,_,_,_,_,_,_,_,_,_,_,_,_,_,_,_,_,_,_,_,_,omz,rfl,rfl,rfl,((r.trans iE).trans fM).trans bo,lY⟩
  ·have bh:¬(j:Int)<(d.length:Int):=by omega
   have hd:V.drop j=[]:=A80 (by rw[bk.out];omega);rw[hd];refine kW ?_;exact⟨rfl,_,bs _,rfl,bm.trans B,y⟩
end Go.Proofs.YtnpfcnolmkanfaaGreatDoor
