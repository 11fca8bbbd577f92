import Derived.Test.YtfeablpbkcgdjaaGreatDoorCG6
set_option maxRecDepth 100000
set_option maxHeartbeats 4000000
namespace Go.Co
open Stil Go.Conc
theorem ym {τ:Type}{ok:τ->(Nat->Prop)->World->Goroutine->Prop}{fn:FuncId}{Q:Vs τ}{a:Act}{x:τ}{O:Nat->Prop}{w:World}{c:Code}{j:Nat}{N:Act->τ->(Nat->Prop)->World->Prop}(M:Act->τ->(Nat->Prop)->World->Prop)
  (h:WpK ok fn c (Ko j (U4 M Q)) a x O w) (i:∀g b d f,M g b d f->N g b d f):WpK ok fn c (Ko j (U4 N Q)) a x O w:=
 h.mono λe g b d f q=>by
  cases e with
  | normal=>exact i _ _ _ _ q
  | exit k=>
   simp only[Ko] at q ⊢;split
   .rename_i h;rw[if_pos h] at q;exact i _ _ _ _ q
   .rename_i h;rw[if_neg h] at q;exact q
  | _=>exact q
end Go.Co
namespace Go.Proofs.YtfeablpbkcgdjaaGreatDoor
open Tryz Stil Go.RowKit Go.Sort Go.BigFrame Go.Conc Go.Co
variable {Low c:Nat}
theorem ej (w₀:World)(m:Oa):GL m.arm->VOk Low w₀ m->∃vs,MIs w₀ vs (Bj m.arm)/\K0 Low c w₀ m vs:=by
 induction m using W6 with
 | h n cv cs kv g ih=>
  intro ay aw;rw[Oa.arm_eq] at ay ⊢;dsimp only at ay ⊢;obtain⟨aH,ba,az,aA⟩:=(WN _ _ _).1 ay;rw[CP] at aH ba;replace aA:∀x∈g,GL x.arm:=λx A=>aA _ (E0 A)
  replace az:∀x∈g,Kx x.net.net:=λx A=>by have:=az _ (E0 A);rw[Oa.arm_eq] at this;exact this
  obtain⟨pa,ra,aj⟩:=aw.net.devs;obtain⟨pk,r1,ai,_⟩:=aw.net.kids;obtain⟨pc,rc,jS,aC,ax⟩:=aw.coils;obtain⟨pd,rd,au,ao,aD⟩:=aw.kids;dsimp only at aj ai jS au aC ao ax aD;subst jS au;have a3:∀x∈g,∃p:List MI × List MI,(MIs w₀ p.1 (Be x.net.net)/\MIs w₀ p.2 (Bj x.arm))/\KR Low c w₀ x.net p.1/\K0 Low c w₀ x p.2:=λx A=>by
   obtain⟨ms,h1,h2⟩:=x7 (c:=c) w₀ x.net (ao x A).net (az x A);obtain⟨vs,h3,h4⟩:=ih x A (aA x A) (ao x A);exact⟨(ms,vs),⟨h1,h3⟩,h2,h4⟩
  obtain⟨p,E⟩:∃p:Oa->List MI × List MI,∀x∈g,(MIs w₀ (p x).1 (Be x.net.net)/\MIs w₀ (p x).2 (Bj x.arm))/\KR Low c w₀ x.net (p x).1/\K0 Low c w₀ x (p x).2:=by
   classical
   refine⟨λx=>if h:∃p:List MI × List MI,(MIs w₀ p.1 (Be x.net.net)/\MIs w₀ p.2 (Bj x.arm))/\KR Low c w₀ x.net p.1/\K0 Low c w₀ x p.2 then h.choose else([],[]),λx A=>?_⟩;have h:=a3 x A;simp only[h,dite_true];exact h.choose_spec
  clear a3 ih;refine⟨cs.map MD++(g.mapIdx λi x=>Xb g.length i++((p x).1++(p x).2)).flatten,?_,λrest Oo wo qU=>?_⟩
  .rw[U5]
   have h1:=YC aC;have h2:=XV (n:=g.length) (p:=p) (l:=g) 0 λx A=>(E x A).1
   simp only[Cd] at h2;rw[CP];exact h1.append h2
  obtain⟨H,lF⟩:∃H:List (List MI),H=g.mapIdx λi x=>Xb g.length i++((p x).1++(p x).2):=⟨_,rfl⟩
  have aO:H.length=g.length:=by rw[lF];simp
  have bh:∀i (h:i<g.length),H.drop i=(Xb g.length i++((p g[i]).1++(p g[i]).2))::H.drop (i+1):=λi h=>by
   rw[FZ AU];congr 1;subst lF;rw[List.getElem_mapIdx]
  rw[<-lF,CX,C6];have HP:Hid (∀x∈g,KR Low c w₀ x.net (p x).1/\K0 Low c w₀ x (p x).2):=λx A=>(E x A).2
  have bm:Hid (∀i (h:i<g.length),H.drop i=(Xb g.length i++((p g[i]).1++(p g[i]).2))::H.drop (i+1)):=bh;have bp:Hid (H.length=g.length):=aO;have qK:Hid (∀e∈cs,Ak w₀ e.av e.ds):=aC;clear lF bh aO E az aA ay aw aC;obtain⟨nk,no,nd,na,bw,qN⟩:=n;dsimp only at aj ai;subst aj ai;generalize qN.length=nl;obtain⟨ar,aE⟩:∃ar,ar=(H.flatten).map MI.val++rest:=⟨_,rfl⟩
  rw[<-aE];have bf:Hid (ar=(H.flatten).map MI.val++rest):=aE;clear aE;have bn:=resultsC_none (P:=prog) (fn:=Tryz.f113) rfl;dsimp only;refine Hf func113 A0 rfl ?_;simp only[ntmps113,CS,CC,CM,Nat.reduceAdd,Nat.reduceSub,DF,DG,DJ,DI,C3,CY];refine Jl (Aw _ _ _) ?_
  (refine Fq (Aw _ _ _) ?_;simp only[CS,CC,CM,Cd,List.range,List.range.loop])
  refine kB qU #[.int .i64 nk, .int .i64 no, .slice pa nd.length ra, .slice pk nl r1, .slice pc cs.length rc, .slice pd g.length rd] 60 λO1 W1 b1 C B aK br aS=>?_
  try walk_nrm
  obtain⟨O,eO⟩:∃O,O=O1:=⟨_,rfl⟩
  subst eO;obtain⟨w,ew⟩:∃w,w=W1:=⟨_,rfl⟩
  subst ew;have _Y:=cs6 aS;refine kW ?_;clear _Y;have al:Hid (∀r s W,CV Low O r w s->Keep Low r s W->∀u,W.cell? ⟨b1,u,none⟩=(#[.int .i64 nk, .int .i64 no, .slice pa nd.length ra, .slice pk nl r1, .slice pc cs.length rc, .slice pd g.length rd]:Array Value)[u]?):=λr s W hE hK u=>(hK.ext.cell (.inl (hE.own _ aK)) u).trans ((hE.cell (.inl aK) u).trans (aS _ (Keep.refl _ _ _) u))
  clear aS;refine ym (λa' x' r s=>∃(u5 af ag ak ah ae eY eX aF:Value),a'=⟨#[.chan (some c), .agg #[.int .i64 nk, .int .i64 no, .slice pa nd.length ra, .slice pk nl r1, .slice pc cs.length rc, .slice pd g.length rd],undef, .pointer (some ⟨b1,0,none⟩),undef,u5,undef,undef, .pointer (some ⟨b1,4,none⟩), .slice pc cs.length rc, .int .i64 cs.length,aF,af,ag,ak,ah,ae,eY,eX,undef,undef,undef,undef,undef,undef,undef,undef,undef,undef,undef,undef,undef,undef,undef,undef,undef,undef,undef,undef,undef,undef,undef],[]⟩/\x'=ar/\CV Low O r w s/\Held Low w₀ r s) ?_ ?_
  .refine Xp (Aw _ _ _) (λn a' x' r s=>∃(j:Nat) (u5 af ag ak ah ae eY eX:Value),j<=cs.length/\n=cs.length - j/\a'=⟨#[.chan (some c), .agg #[.int .i64 nk, .int .i64 no, .slice pa nd.length ra, .slice pk nl r1, .slice pc cs.length rc, .slice pd g.length rd],undef, .pointer (some ⟨b1,0,none⟩),undef,u5,undef,undef, .pointer (some ⟨b1,4,none⟩), .slice pc cs.length rc, .int .i64 cs.length, .int .i64 j,af,ag,ak,ah,ae,eY,eX,undef,undef,undef,undef,undef,undef,undef,undef,undef,undef,undef,undef,undef,undef,undef,undef,undef,undef,undef,undef,undef,undef,undef],[]⟩/\
    x'=(cs.drop j).map (λe=>(MD e).val)++ar/\CV Low O r w s/\Held Low w₀ r s) cs.length ⟨0,undef,undef,undef,undef,undef,undef,undef,undef,DK _,rfl,rfl,by rw[LN,FY];rfl,CV.refl _ _ _,B⟩ ?_
   rintro n _ _ O1 W1 ⟨j,u5,af,ag,ak,ah,ae,eY,eX,hj,rfl,rfl,rfl,C,B⟩;dsimp only;by_cases ab:j<cs.length
   .have bo:(j:Int)<(cs.length:Int):=by omega
    obtain⟨b,o,rfl,hb,ap,an⟩:=ax j ab;have aM:cs.drop j=cs[j]::cs.drop (j+1):=FZ ab;have aG:=qK _ (CG ab);rw[aM,CN,CY]
    revert ap an aG
    generalize cs[j]=e;intro ap an aG;obtain⟨qe,se,jg,-⟩:=aG;obtain⟨aP,mY,bq⟩:=e;dsimp only at jg ap an;subst jg;simp only[MD,MI.val];have eH:Hid (∀W,Keep Low O1 W1 W->W.cell? ⟨b,o+j*2,none⟩=some (.int .i64 aP)/\W.cell? ⟨b,o+j*2+1,none⟩=some (.slice qe mY.length se)):=λW hW=>⟨((B.rely hW).down hb _).trans ap,((B.rely hW).down hb _).trans an⟩
    clear ap an aM ax;have _Y:=eH.out;refine kW ?_;clear _Y;refine Ld (Aw _ _ _) rfl A0 ?_ ?_
    .intro _;simp[go_sem];done
    intro w₁ hR K hK;go_simp;refine hK _ _ ?_;clear hK K;obtain⟨O2,eO,y,D,q,aa,J,F⟩:=KV B hR #[.int .i64 0, .slice none 0 0] 51;rw[<-eO];clear eO
    revert y D q aa J F
    generalize w₁.alloc (.cells #[.int .i64 0, .slice none 0 0] 51)=W2;generalize w₁.heap.size=b2;intro y D q aa J F;replace y:=C.trans y;replace J:∀x,O x->x≠b2:=λx A=>J x (C.own x A)
    clear hR w₁;try walk_nrm
    refine Wx (Aw _ _ _) b2 q rfl A0 ?_ ?_
    .intro w₁ hR e he
     have d:=(hR.mine _ q).trans F;have y0:w₁.cell? ⟨b2,0,none⟩=some (.int .i64 0):=cell_of_heap d 0;have z0:w₁.frozen? ⟨b2,0,none⟩=false:=frozen_of_heap d 0;have y1:w₁.cell? ⟨b2,1,none⟩=some (.slice none 0 0):=cell_of_heap d 1;have z1:w₁.frozen? ⟨b2,1,none⟩=false:=frozen_of_heap d 1;clear d;simp[go_sem,events_store_slice,storedEv, *] at he
     (first | (subst he;exact⟨_,_,rfl, .inl q⟩) | (rcases he with rfl | rfl<;>exact⟨_,_,rfl, .inl q⟩) | (rcases he with rfl | rfl | rfl | rfl<;>exact⟨_,_,rfl, .inl q⟩) | (rcases he with rfl | rfl | rfl | rfl | rfl | rfl<;>exact⟨_,_,rfl, .inl q⟩))
    intro w₁ hR K hK;have d:=(hR.mine _ q).trans F;have y0:w₁.cell? ⟨b2,0,none⟩=some (.int .i64 0):=cell_of_heap d 0;have z0:w₁.frozen? ⟨b2,0,none⟩=false:=frozen_of_heap d 0;have y1:w₁.cell? ⟨b2,1,none⟩=some (.slice none 0 0):=cell_of_heap d 1;have z1:w₁.frozen? ⟨b2,1,none⟩=false:=frozen_of_heap d 1;clear d;go_simp;try (unfold stored;go_simp)
    have d:=(hR.mine _ q).trans F;have E:EH b2 w₁ ((w₁.setCell ⟨b2,0,none⟩ (.int .i64 aP)).setCell ⟨b2,1,none⟩ (.slice qe mY.length se)):=(((EH.refl _ _).set 0 (.int .i64 aP)).set 1 (.slice qe mY.length se))
    have Z:((w₁.setCell ⟨b2,0,none⟩ (.int .i64 aP)).setCell ⟨b2,1,none⟩ (.slice qe mY.length se)).heap[b2]?=some (.cells #[.int .i64 aP, .slice qe mY.length se] 51):=(heap_setCell (heap_setCell d 0 (.int .i64 aP)) 1 (.slice qe mY.length se))
    refine hK _ _ E ?_;clear hK K d y0 z0 y1 z1 F;replace y:=(y.rely hR).put E aa J;replace D:=(D.rely hR).put E aa
    revert y D Z
    clear E hR;generalize ((w₁.setCell ⟨b2,0,none⟩ (.int .i64 aP)).setCell ⟨b2,1,none⟩ (.slice qe mY.length se))=W2;intro Z y D;have ac:Hid (∀W,Keep Low O2 W2 W->∀u,W.cell? ⟨b2,u,none⟩=(#[.int .i64 aP, .slice qe mY.length se]:Array Value)[u]?):=λW hW u=>(hW.ext.cell (.inl q) u).trans (cell_of_heap Z u)
    clear Z;try walk_nrm
    have wX:IntKind.i64.wrap ((j:Int)+1)=((j+1:Nat):Int):=by rw[IntKind.wrap_i64];omega
    clear C B hb eH;have _Y:=cs2 ac;refine kW ?_;clear _Y;exact⟨cs.length - (j+1),AU,j+1,_,_,_,_,_,_,_,_,AU,rfl,rfl,rfl,y,D⟩
   .have bj:¬(j:Int)<(cs.length:Int):=by omega
    have hd:cs.drop j=[]:=RG AU;rw[hd];refine kW ?_;exact⟨_,_,_,_,_,_,_,_,_,rfl,by first | rfl | trivial,C,B⟩
  rintro _ _ O1 W1 ⟨u5,af,ag,ak,ah,ae,eY,eX,aF,rfl,rfl,lT,vH⟩;dsimp only;replace C:=C.trans lT;clear B;have B:=vH;have aU:Hid (∀r s W,CV Low O1 r W1 s->Keep Low r s W->∀u,W.cell? ⟨b1,u,none⟩=(#[.int .i64 nk, .int .i64 no, .slice pa nd.length ra, .slice pk nl r1, .slice pc cs.length rc, .slice pd g.length rd]:Array Value)[u]?):=λr s W hE hK u=>al r s W (lT.trans hE) hK u
  replace aK:=lT.own _ aK;clear al lT vH ax aH;replace al:=aU;clear aU;clear O w;obtain⟨O,eO⟩:∃O,O=O1:=⟨_,rfl⟩
  subst eO;obtain⟨w,ew⟩:∃w,w=W1:=⟨_,rfl⟩
  subst ew;have qV:=CV.refl Low O w;have _Y:=cs6 (λW h=>al O w W qV h);refine kW ?_;clear _Y;clear qV;rw[bf.out];clear bf
  refine Xp (Aw _ _ _) (λn a' x' r s=>∃(j:Nat) (v6 v7 a5 aX aI aW bc a6 bb aL aT aJ aZ a8 aQ a7 a2 aR bg aV aN:Value),j<=g.length/\n=g.length - j/\a'=⟨#[.chan (some c), .agg #[.int .i64 nk, .int .i64 no, .slice pa nd.length ra, .slice pk nl r1, .slice pc cs.length rc, .slice pd g.length rd],undef, .pointer (some ⟨b1,0,none⟩),undef,u5,v6,v7, .pointer (some ⟨b1,4,none⟩), .slice pc cs.length rc, .int .i64 cs.length,aF,af,ag,ak,ah,ae,eY,eX, .pointer (some ⟨b1,5,none⟩), .slice pd g.length rd, .int .i64 g.length, .int .i64 j,a5,aX,aI,aW,bc,a6,bb,aL,aT,aJ,aZ,a8,aQ,a7,a2,aR,bg,aV,aN],[]⟩/\
   x'=((H.drop j).flatten).map MI.val++rest/\CV Low O r w s/\Held Low w₀ r s) g.length ⟨0,undef,undef,undef,undef,undef,undef,undef,undef,undef,undef,undef,undef,undef,undef,undef,undef,undef,undef,undef,undef,undef,DK _,rfl,rfl,by rw[LN],CV.refl _ _ _,B⟩ ?_
  have zo:=C;clear C B;rintro n _ _ O1 W1 ⟨j,v6,v7,a5,aX,aI,aW,bc,a6,bb,aL,aT,aJ,aZ,a8,aQ,a7,a2,aR,bg,aV,aN,hj,rfl,rfl,rfl,C,B⟩;dsimp only;by_cases ab:j<g.length
  .have bo:(j:Int)<(g.length:Int):=by omega
   obtain⟨b,o,rfl,hb,hc⟩:=aD j ab;have hm:g[j]∈g:=CG ab;have ad:=ao _ hm;obtain⟨xJ,aB⟩:=HP _ hm;rw[bm.out j ab,DV,CX,CX,CX,wv,C6,C6,C6]
   revert hc ad xJ aB
   generalize g[j]=x;intro hc ad xJ aB;generalize (p x).1=ms1 at*;generalize (p x).2=uy at*;obtain⟨R,X,aj⟩:=ad.net.devs;obtain⟨S,V,ai,_⟩:=ad.net.kids;obtain⟨qc,sc,jS,_⟩:=ad.coils;obtain⟨qd,sd,au,_⟩:=ad.kids;clear ad;obtain⟨⟨M,Y,I,xa,yF,L⟩,bs,N,bv,U⟩:=x;dsimp only at aj ai jS au;subst aj ai jS au;have eH:Hid (∀W,Keep Low O1 W1 W->Vu W b (o+j*6) ⟨⟨M,Y,I, .slice R I.length X, .slice S L.length V,L⟩, .slice qc N.length sc,N, .slice qd U.length sd,U⟩):=λW hW=>hc.held (B.rely hW) hb
   have mF:Hid (∀vs O w,Held Low w₀ O w->Jg prog (okS prog Low c) 111 #[.agg #[.int .i64 M, .int .i64 Y, .slice R I.length X, .slice S L.length V]] vs O w λv x' r s=>x'=vs/\(∀rest,Jg prog (okS prog Low c) 142 #[.chan (some c), .int .i64 2,v] (ms1.map MI.val++rest) r s λ_ bk mZ a9=>bk=rest/\CV Low r mZ s a9/\Held Low w₀ mZ a9)/\CV Low O r w s/\Held Low w₀ r s):=xJ;have bi:Hid (∀rest O w,Held Low w₀ O w->Jg prog (okS prog Low c) 113 #[.chan (some c), .agg #[.int .i64 M, .int .i64 Y, .slice R I.length X, .slice S L.length V, .slice qc N.length sc, .slice qd U.length sd]] (uy.map MI.val++rest) O w λ_ x' r s=>x'=rest/\CV Low O r w s/\Held Low w₀ r s):=aB;clear hc hm aD ao HP xJ aB;have qV:=C;have _Y:=eH.out;simp only[Vu,Uz] at _Y;refine kW ?_;clear _Y;refine Ld (Aw _ _ _) rfl A0 ?_ ?_
   .intro _;simp[go_sem];done
   intro w₁ hR K hK;go_simp;refine hK _ _ ?_;clear hK K;obtain⟨O2,eO,y,D,q,aa,J,F⟩:=KV B hR #[.int .i64 0, .int .i64 0, .slice none 0 0, .slice none 0 0, .slice none 0 0, .slice none 0 0] 60;rw[<-eO];clear eO
   revert y D q aa J F
   generalize w₁.alloc (.cells #[.int .i64 0, .int .i64 0, .slice none 0 0, .slice none 0 0, .slice none 0 0, .slice none 0 0] 60)=W2;generalize w₁.heap.size=b2;intro y D q aa J F;replace y:=C.trans y;replace J:∀x,O x->x≠b2:=λx A=>J x (C.own x A)
   clear hR w₁;try walk_nrm
   (refine Oe (Aw _ _ _) rfl A0 ?_ ?_;(focus (intro _;first | (simp[go_sem];done) | (simp[go_sem, *];done)));intro _ K hK;go_simp;refine hK _ ?_;clear hK K;try walk_nrm)
   refine Wx (Aw _ _ _) b2 q rfl A0 ?_ ?_
   .intro w₁ hR e he
    have d:=(hR.mine _ q).trans F;have y0:w₁.cell? ⟨b2,0,none⟩=some (.int .i64 0):=cell_of_heap d 0;have z0:w₁.frozen? ⟨b2,0,none⟩=false:=frozen_of_heap d 0;have y1:w₁.cell? ⟨b2,1,none⟩=some (.int .i64 0):=cell_of_heap d 1;have z1:w₁.frozen? ⟨b2,1,none⟩=false:=frozen_of_heap d 1;have y2:w₁.cell? ⟨b2,2,none⟩=some (.slice none 0 0):=cell_of_heap d 2;have z2:w₁.frozen? ⟨b2,2,none⟩=false:=frozen_of_heap d 2;have y3:w₁.cell? ⟨b2,3,none⟩=some (.slice none 0 0):=cell_of_heap d 3;have z3:w₁.frozen? ⟨b2,3,none⟩=false:=frozen_of_heap d 3;have y4:w₁.cell? ⟨b2,4,none⟩=some (.slice none 0 0):=cell_of_heap d 4;have z4:w₁.frozen? ⟨b2,4,none⟩=false:=frozen_of_heap d 4;have y5:w₁.cell? ⟨b2,5,none⟩=some (.slice none 0 0):=cell_of_heap d 5;have z5:w₁.frozen? ⟨b2,5,none⟩=false:=frozen_of_heap d 5;clear d;simp[go_sem,events_store_slice,storedEv, *] at he
    (first | (subst he;exact⟨_,_,rfl, .inl q⟩) | (rcases he with rfl | rfl<;>exact⟨_,_,rfl, .inl q⟩) | (rcases he with rfl | rfl | rfl | rfl<;>exact⟨_,_,rfl, .inl q⟩) | (rcases he with rfl | rfl | rfl | rfl | rfl | rfl<;>exact⟨_,_,rfl, .inl q⟩))
   intro w₁ hR K hK;have d:=(hR.mine _ q).trans F;have y0:w₁.cell? ⟨b2,0,none⟩=some (.int .i64 0):=cell_of_heap d 0;have z0:w₁.frozen? ⟨b2,0,none⟩=false:=frozen_of_heap d 0;have y1:w₁.cell? ⟨b2,1,none⟩=some (.int .i64 0):=cell_of_heap d 1;have z1:w₁.frozen? ⟨b2,1,none⟩=false:=frozen_of_heap d 1;have y2:w₁.cell? ⟨b2,2,none⟩=some (.slice none 0 0):=cell_of_heap d 2;have z2:w₁.frozen? ⟨b2,2,none⟩=false:=frozen_of_heap d 2;have y3:w₁.cell? ⟨b2,3,none⟩=some (.slice none 0 0):=cell_of_heap d 3;have z3:w₁.frozen? ⟨b2,3,none⟩=false:=frozen_of_heap d 3;have y4:w₁.cell? ⟨b2,4,none⟩=some (.slice none 0 0):=cell_of_heap d 4;have z4:w₁.frozen? ⟨b2,4,none⟩=false:=frozen_of_heap d 4;have y5:w₁.cell? ⟨b2,5,none⟩=some (.slice none 0 0):=cell_of_heap d 5;have z5:w₁.frozen? ⟨b2,5,none⟩=false:=frozen_of_heap d 5;clear d;go_simp;try (unfold stored;go_simp)
   have d:=(hR.mine _ q).trans F;have E:EH b2 w₁ ((((((w₁.setCell ⟨b2,0,none⟩ (.int .i64 M)).setCell ⟨b2,1,none⟩ (.int .i64 Y)).setCell ⟨b2,2,none⟩ (.slice R I.length X)).setCell ⟨b2,3,none⟩ (.slice S L.length V)).setCell ⟨b2,4,none⟩ (.slice qc N.length sc)).setCell ⟨b2,5,none⟩ (.slice qd U.length sd)):=(((((((EH.refl _ _).set 0 (.int .i64 M)).set 1 (.int .i64 Y)).set 2 (.slice R I.length X)).set 3 (.slice S L.length V)).set 4 (.slice qc N.length sc)).set 5 (.slice qd U.length sd))
   have Z:((((((w₁.setCell ⟨b2,0,none⟩ (.int .i64 M)).setCell ⟨b2,1,none⟩ (.int .i64 Y)).setCell ⟨b2,2,none⟩ (.slice R I.length X)).setCell ⟨b2,3,none⟩ (.slice S L.length V)).setCell ⟨b2,4,none⟩ (.slice qc N.length sc)).setCell ⟨b2,5,none⟩ (.slice qd U.length sd)).heap[b2]?=some (.cells #[.int .i64 M, .int .i64 Y, .slice R I.length X, .slice S L.length V, .slice qc N.length sc, .slice qd U.length sd] 60):=(heap_setCell (heap_setCell (heap_setCell (heap_setCell (heap_setCell (heap_setCell d 0 (.int .i64 M)) 1 (.int .i64 Y)) 2 (.slice R I.length X)) 3 (.slice S L.length V)) 4 (.slice qc N.length sc)) 5 (.slice qd U.length sd))
   refine hK _ _ E ?_;clear hK K d y0 z0 y1 z1 y2 z2 y3 z3 y4 z4 y5 z5 F;replace y:=(y.rely hR).put E aa J;replace D:=(D.rely hR).put E aa
   revert y D Z
   clear E hR;generalize ((((((w₁.setCell ⟨b2,0,none⟩ (.int .i64 M)).setCell ⟨b2,1,none⟩ (.int .i64 Y)).setCell ⟨b2,2,none⟩ (.slice R I.length X)).setCell ⟨b2,3,none⟩ (.slice S L.length V)).setCell ⟨b2,4,none⟩ (.slice qc N.length sc)).setCell ⟨b2,5,none⟩ (.slice qd U.length sd))=W2;intro Z y D;have ac:Hid (∀W,Keep Low O2 W2 W->∀u,W.cell? ⟨b2,u,none⟩=(#[.int .i64 M, .int .i64 Y, .slice R I.length X, .slice S L.length V, .slice qc N.length sc, .slice qd U.length sd]:Array Value)[u]?):=λW hW u=>(hW.ext.cell (.inl q) u).trans (cell_of_heap Z u)
   clear Z;try walk_nrm
   have wX:IntKind.i64.wrap ((j:Int)+1)=((j+1:Nat):Int):=by rw[IntKind.wrap_i64];omega
   clear qV C B hb eH;have qV:=y;have _Y:=cs6 (λW h=>al O2 W2 W qV h);have _B1:=y.own _ aK;refine kW ?_;clear _Y _B1
   (refine Gm (Aw _ _ _) rfl A0 rfl (ep g.length j ab ba _ _ _) BJ ?_;rintro _ _ O3 W3 ⟨rfl,rfl,rfl⟩;try walk_nrm)
   have _Y:=cs6 ac;refine kW ?_;clear _Y
   (refine Gm (Aw _ _ _) rfl A0 rfl (mF _ _ _ D) BJ ?_;rintro v3 _ O3 W3 ⟨rfl,mg,dZ,bu⟩;try walk_nrm)
   replace ac:=G1 ac dZ q;replace q:=dZ.own _ q
   (refine Gm (Aw _ _ _) rfl A0 rfl (mg _) BJ ?_;rintro _ _ O4 W4 ⟨rfl,dN,jF⟩;try walk_nrm)
   clear mg;replace ac:=G1 ac dN q;replace q:=dN.own _ q;have _Y:=cs6 ac;refine kW ?_;clear _Y
   (refine Gm (Aw _ _ _) rfl A0 rfl (bi _ _ _ jF) BJ ?_;rintro _ _ O5 W5 ⟨rfl,zq,jE⟩;try walk_nrm)
   refine kW ?_;exact⟨g.length - (j+1),AU,j+1,_,_,_,_,_,_,_,_,_,_,_,_,_,_,_,_,_,_,_,_,_,AU,rfl,rfl,rfl,((y.trans dZ).trans dN).trans zq,jE⟩
  .have bj:¬(j:Int)<(g.length:Int):=by omega
   have hd:H.drop j=[]:=RG (by rw[bp.out];omega);rw[hd];refine kW ?_;exact⟨rfl,_,bn _,rfl,zo.trans C,B⟩
