import Derived.Test.YtbfljjcnbbmoaaaGreatDoorCG6
import Derived.Test.YtbfljjcnbbmoaaaGreatDoorCI1
import Derived.Test.YtbfljjcnbbmoaaaGreatDoorGb
import Derived.Conc.SmallLaws
namespace Go.Co
open Stil
open Go.Conc
theorem Axc {τ:Type}{ok:τ->(Nat->Prop)->World->Goroutine->Prop}{fn:FuncId}{Q:Va τ}{a:Act}{x:τ}{O:Nat->Prop}{w:World}{c:Code}{id:Nat}{N:Act->τ->(Nat->Prop)->World->Prop}(M:Act->τ->(Nat->Prop)->World->Prop)
  (h:WpK ok fn c (Ko id (Uo M Q)) a x O w) (hn:∀a' x' O' w',M a' x' O' w'->N a' x' O' w'):WpK ok fn c (Ko id (Uo N Q)) a x O w:=
 h.mono λe a' x' O' w' q=>by
  cases e with
  | normal=>exact hn _ _ _ _ q
  | exit id'=>
   simp only[Ko] at q ⊢;split
   ·rename_i h;rw[if_pos h] at q;exact hn _ _ _ _ q
   ·rename_i h;rw[if_neg h] at q;exact q
  | _=>exact q
end Go.Co
namespace Go.Proofs.YtbfljjcnbbmoaaaGreatDoor
open Stil
open Go.RowKit Go.Sort Go.BigFrame Go.Conc Go.Co
variable {Low c : Nat}
theorem zj {p:Prop}(h:p:=by
 intro w₁ hR e he
 have hh:=(hR.mine _ hO2).trans hH2;have y0:w₁.cell? ⟨b2,0,none⟩=some (.int .i64 0):=cell_of_heap hh 0;have z0:=frozen_of_heap hh 0;have y1:w₁.cell? ⟨b2,1,none⟩=some (.int .i64 0):=cell_of_heap hh 1;have z1:=frozen_of_heap hh 1;have y2:w₁.cell? ⟨b2,2,none⟩=some (.slice none 0 0):=cell_of_heap hh 2;have z2:=frozen_of_heap hh 2;have y3:w₁.cell? ⟨b2,3,none⟩=some (.slice none 0 0):=cell_of_heap hh 3;have z3:=frozen_of_heap hh 3;have y4:w₁.cell? ⟨b2,4,none⟩=some (.slice none 0 0):=cell_of_heap hh 4;have z4:=frozen_of_heap hh 4;have y5:w₁.cell? ⟨b2,5,none⟩=some (.slice none 0 0):=cell_of_heap hh 5;have z5:=frozen_of_heap hh 5;clear hh;simp[go_sem,events_store_slice,storedEv, *] at he
 (first | (subst he;exact⟨_,_,rfl, .inl hO2⟩) | (rcases he with rfl | rfl<;>exact⟨_,_,rfl, .inl hO2⟩) | (rcases he with rfl | rfl | rfl | rfl<;>exact⟨_,_,rfl, .inl hO2⟩) | (rcases he with rfl | rfl | rfl | rfl | rfl | rfl<;>exact⟨_,_,rfl, .inl hO2⟩))):p:=h
set_option maxRecDepth 100000 in
set_option maxHeartbeats 4000000 in
theorem A22 (w₀:World)(m:Aw):Ae4 m.arm->VOk Low w₀ m->∃vs,MIs w₀ (Aig m) vs (Ey m.arm)/\Azd Low c w₀ m vs:=by
 induction m using J9 with
 | h n cv cs kv ks ih=>
  intro hgo hok;rw[Aw.arm_eq] at hgo ⊢;dsimp only at hgo ⊢;obtain⟨hlc,hlk,hkg,hgk⟩:=(An6 _ _ _).1 hgo;rw[A4o] at hlc hlk;replace hgk:∀x∈ks,Ae4 x.arm:=λx hx=>hgk _ (List.mem_map_of_mem hx)
  replace hkg:∀x∈ks,Ave x.net.net:=λx hx=>by have:=hkg _ (List.mem_map_of_mem hx);rw[Aw.arm_eq] at this;exact this
  obtain⟨pa,ra,hva⟩:=hok.net.devs;obtain⟨pk,r1,hvk,_⟩:=hok.net.kids;obtain⟨pc,rc,nC,hco,hcc⟩:=hok.coils;obtain⟨pd,rd,hvd,hko,hkc⟩:=hok.kids;dsimp only at hva hvk nC hvd hco hko hcc hkc;subst nC hvd;have hall:∀x∈ks,∃p:List MI × List MI,(MIs w₀ x.net.vals p.1 (E5 x.net.net)/\MIs w₀ (Aig x) p.2 (Ey x.arm))/\Aia Low c w₀ x.net p.1/\Azd Low c w₀ x p.2:=λx hx=>by
   obtain⟨ms,h1,h2⟩:=Awv (c:=c) w₀ x.net (hko x hx).net (hkg x hx);obtain⟨vs,h3,h4⟩:=ih x hx (hgk x hx) (hko x hx);exact⟨(ms,vs),⟨h1,h3⟩,h2,h4⟩
  obtain⟨p,hp⟩:∃p:Aw->List MI × List MI,∀x∈ks,(MIs w₀ x.net.vals (p x).1 (E5 x.net.net)/\MIs w₀ (Aig x) (p x).2 (Ey x.arm))/\Aia Low c w₀ x.net (p x).1/\Azd Low c w₀ x (p x).2:=by
   classical
   refine⟨λx=>if h:∃p:List MI × List MI,(MIs w₀ x.net.vals p.1 (E5 x.net.net)/\MIs w₀ (Aig x) p.2 (Ey x.arm))/\Aia Low c w₀ x.net p.1/\Azd Low c w₀ x p.2 then h.choose else([],[]),λx hx=>?_⟩;have h:=hall x hx;simp only[h,dite_true];exact h.choose_spec
  clear hall ih;refine⟨cs.map Aob++(ks.mapIdx λi x=>X7 ks.length i++((p x).1++(p x).2)).flatten,?_,λrest Oo wo xI=>?_⟩
  ·rw[Ur]
   have h1:=Awh hco;have h2:=Avc (n:=ks.length) (p:=p) (l:=ks) 0 λx hx=>(hp x hx).1
   simp only[A4h] at h2;rw[A4o];refine(h1.append h2).sub (Agi ?_);show(Ff cs++Gj ks).Sublist (_::(Ff cs++(_::Gj ks)))
   exact((List.Sublist.refl _).append ((List.Sublist.refl _).cons _)).cons _
  obtain⟨rZ,qI⟩:∃rZ:List (List MI),rZ=ks.mapIdx λi x=>X7 ks.length i++((p x).1++(p x).2):=⟨_,rfl⟩
  have hlv:rZ.length=ks.length:=by rw[qI];simp
  have hgv:∀i (h:i<ks.length),rZ.drop i=(X7 ks.length i++((p ks[i]).1++(p ks[i]).2))::rZ.drop (i+1):=λi h=>by
   rw[List.drop_eq_getElem_cons omz];congr 1;subst qI;rw[List.getElem_mapIdx]
  rw[<-qI,A4m,A4w];have HP:=hid (λx hx=>(hp x hx).2);have HGV:=hid hgv;have HLV:=hid hlv;have jr:=hid hco;clear qI hgv hlv hp hkg hgk hgo hok hco;obtain⟨nk,no,nd,na,nkv,xX⟩:=n;dsimp only at hva hvk;subst hva hvk;generalize xX.length=nl;obtain⟨R,hR0⟩:∃R,R=(rZ.flatten).map MI.val++rest:=⟨_,rfl⟩
  rw[<-hR0];have HR0:=hid hR0;clear hR0;have hres:=resultsC_none (P:=Tryz.prog) (fn:=Tryz.f68) rfl;dsimp only;refine He Tryz.func68 rrz rfl ?_;simp only[Tryz.ntmps68,A4b,A39,A4a,Nat.reduceAdd,Nat.reduceSub,A41,A42,A47,A44,A4z,A4y];refine Jl (Bg _ _ _) ?_
  (refine Fe (Bg _ _ _) ?_;simp only[A4b,A39,A4a,A4h,List.range,List.range.loop])
  refine kB xI #[.int .i64 nk, .int .i64 no, .slice pa nd.length ra, .slice pk nl r1, .slice pc cs.length rc, .slice pd ks.length rd] 55 λO1 W1 b1 hE1 hF1 aZ hL1 bH=>?_
  try walk_nrm
  obtain⟨O,eO⟩:∃O,O=O1:=⟨_,rfl⟩
  subst eO;obtain⟨w,ew⟩:∃w,w=W1:=⟨_,rfl⟩
  subst ew;have _Y:=cs6 bH;refine kW ?_;clear _Y;have HB1:Hid (∀O' w' W,Ext Low O O' w w'->Keep Low O' w' W->∀ii,W.cell? ⟨b1,ii,none⟩=(#[.int .i64 nk, .int .i64 no, .slice pa nd.length ra, .slice pk nl r1, .slice pc cs.length rc, .slice pd ks.length rd]:Array Value)[ii]?):=λO' w' W hE hK ii=>(hK.ext.cell (.inl (hE.own _ aZ)) ii).trans ((hE.cell (.inl aZ) ii).trans (bH _ (Keep.refl _ _ _) ii))
  clear bH;refine Axc (λa' x' O' w'=>∃(u5 u12 u13 u14 u15 u16 iF iE u11:Value),a'=⟨#[.chan (some c), .agg #[.int .i64 nk, .int .i64 no, .slice pa nd.length ra, .slice pk nl r1, .slice pc cs.length rc, .slice pd ks.length rd],undef, .pointer (some ⟨b1,0,none⟩),undef,u5,undef,undef, .pointer (some ⟨b1,4,none⟩), .slice pc cs.length rc, .int .i64 cs.length,u11,u12,u13,u14,u15,u16,iF,iE,undef,undef,undef,undef,undef,undef,undef,undef,undef,undef,undef,undef,undef,undef,undef,undef,undef,undef,undef,undef,undef,undef,undef],[]⟩/\x'=R/\Ext Low O O' w w'/\Held Low w₀ O' w') ?_ ?_
  ·refine Xb (Bg _ _ _) (λn a' x' O' w'=>∃(j:Nat) (u5 u12 u13 u14 u15 u16 iF iE:Value),j<=cs.length/\n=cs.length - j/\a'=⟨#[.chan (some c), .agg #[.int .i64 nk, .int .i64 no, .slice pa nd.length ra, .slice pk nl r1, .slice pc cs.length rc, .slice pd ks.length rd],undef, .pointer (some ⟨b1,0,none⟩),undef,u5,undef,undef, .pointer (some ⟨b1,4,none⟩), .slice pc cs.length rc, .int .i64 cs.length, .int .i64 j,u12,u13,u14,u15,u16,iF,iE,undef,undef,undef,undef,undef,undef,undef,undef,undef,undef,undef,undef,undef,undef,undef,undef,undef,undef,undef,undef,undef,undef,undef],[]⟩/\
    x'=(cs.drop j).map (λe=>(Aob e).val)++R/\Ext Low O O' w w'/\Held Low w₀ O' w') cs.length ⟨0,undef,undef,undef,undef,undef,undef,undef,undef,Nat.zero_le _,rfl,rfl,by rw[List.drop_zero,List.map_map];rfl,Ext.refl _ _ _,hF1⟩ ?_
   rintro n _ _ O1 W1 ⟨j,u5,u12,u13,u14,u15,u16,iF,iE,hj,rfl,rfl,rfl,hE1,hF1⟩;dsimp only;by_cases hlt:j<cs.length
   ·have hlt':(j:Int)<(cs.length:Int):=by omega
    obtain⟨b,o,rfl,hb,hc0,hc1⟩:=hcc j hlt;have hdr:=List.drop_eq_getElem_cons hlt;have heo:=jr _ (A4f hlt);rw[hdr,A4q,A4y]
    revert hc0 hc1 heo
    generalize cs[j]=e;intro hc0 hc1 heo;obtain⟨qe,se,hve⟩:=Af heo;obtain⟨sN,sO,eav⟩:=e;dsimp only at hve hc0 hc1;subst hve;simp only[Aob,MI.val];have gZ:Hid (∀W,Keep Low O1 W1 W->W.cell? ⟨b,o+j*2,none⟩=some (.int .i64 sN)/\W.cell? ⟨b,o+j*2+1,none⟩=some (.slice qe sO.length se)):=λW hW=>⟨((hF1.rely hW).down hb _).trans hc0,((hF1.rely hW).down hb _).trans hc1⟩
    clear hc0 hc1 hdr heo hcc;have _Y:=gZ.out;refine kW ?_;clear _Y;refine Kz (Bg _ _ _) rfl rrz ?_ ?_
    ·intro _;simp[go_sem];done
    intro w₁ hR K hK;go_simp;refine hK _ _ ?_;clear hK K;obtain⟨O2,eO,hE2,hF2,hO2,hL2,bY,hH2⟩:=Akk hF1 hR #[.int .i64 0, .slice none 0 0] 49;rw[<-eO];clear eO
    revert hE2 hF2 hO2 hL2 bY hH2
    generalize w₁.alloc (.cells #[.int .i64 0, .slice none 0 0] 49)=W2;generalize w₁.heap.size=b2;intro hE2 hF2 hO2 hL2 bY hH2;replace hE2:=hE1.trans hE2;replace bY :=λx hx=>bY x (hE1.own x hx)
    clear hR w₁;try walk_nrm
    refine V6 (Bg _ _ _) b2 hO2 rfl rrz ?_ ?_
    ·intro w₁ hR e he
     have hh:=(hR.mine _ hO2).trans hH2;have y0:w₁.cell? ⟨b2,0,none⟩=some (.int .i64 0):=cell_of_heap hh 0;have z0:=frozen_of_heap hh 0;have y1:w₁.cell? ⟨b2,1,none⟩=some (.slice none 0 0):=cell_of_heap hh 1;have z1:=frozen_of_heap hh 1;clear hh;simp[go_sem,events_store_slice,storedEv, *] at he
     (first | (subst he;exact⟨_,_,rfl, .inl hO2⟩) | (rcases he with rfl | rfl<;>exact⟨_,_,rfl, .inl hO2⟩) | (rcases he with rfl | rfl | rfl | rfl<;>exact⟨_,_,rfl, .inl hO2⟩) | (rcases he with rfl | rfl | rfl | rfl | rfl | rfl<;>exact⟨_,_,rfl, .inl hO2⟩))
    intro w₁ hR K hK;have hh:=(hR.mine _ hO2).trans hH2;have y0:w₁.cell? ⟨b2,0,none⟩=some (.int .i64 0):=cell_of_heap hh 0;have z0:=frozen_of_heap hh 0;have y1:w₁.cell? ⟨b2,1,none⟩=some (.slice none 0 0):=cell_of_heap hh 1;have z1:=frozen_of_heap hh 1;clear hh;go_simp;try (unfold stored;go_simp)
    have hh:=(hR.mine _ hO2).trans hH2;have hp:Put b2 w₁ ((w₁.setCell ⟨b2,0,none⟩ (.int .i64 sN)).setCell ⟨b2,1,none⟩ (.slice qe sO.length se)):=(((Put.refl _ _).set 0 (.int .i64 sN)).set 1 (.slice qe sO.length se))
    have hh2:((w₁.setCell ⟨b2,0,none⟩ (.int .i64 sN)).setCell ⟨b2,1,none⟩ (.slice qe sO.length se)).heap[b2]?=some (.cells #[.int .i64 sN, .slice qe sO.length se] 49):=(heap_setCell (heap_setCell hh 0 (.int .i64 sN)) 1 (.slice qe sO.length se))
    refine hK _ _ hp ?_;clear hK K hh y0 z0 y1 z1 hH2;replace hE2:=(hE2.rely hR).put hp hL2 bY;replace hF2:=(hF2.rely hR).put hp hL2
    revert hE2 hF2 hh2
    clear hp hR;generalize ((w₁.setCell ⟨b2,0,none⟩ (.int .i64 sN)).setCell ⟨b2,1,none⟩ (.slice qe sO.length se))=W2;intro hh2 hE2 hF2;have HC2:Hid (∀W,Keep Low O2 W2 W->∀ii,W.cell? ⟨b2,ii,none⟩=(#[.int .i64 sN, .slice qe sO.length se]:Array Value)[ii]?):=λW hW ii=>(hW.ext.cell (.inl hO2) ii).trans (cell_of_heap hh2 ii)
    clear hh2;try walk_nrm
    have ni:IntKind.i64.wrap ((j:Int)+1)=((j+1:Nat):Int):=by rw[IntKind.wrap_i64];omega
    clear hE1 hF1 hb gZ;have _Y:=cs2 HC2;refine kW ?_;clear _Y;exact⟨cs.length - (j+1),omz,j+1,_,_,_,_,_,_,_,_,omz,rfl,rfl,rfl,hE2,hF2⟩
   ·have hge:¬(j:Int)<(cs.length:Int):=by omega
    have hd:cs.drop j=[]:=List.drop_eq_nil_of_le omz;rw[hd];refine kW ?_;exact⟨_,_,_,_,_,_,_,_,_,rfl,by first | rfl | trivial,hE1,hF1⟩
  rintro _ _ O1 W1 ⟨u5,u12,u13,u14,u15,u16,iF,iE,u11,rfl,rfl,rC,ay⟩;dsimp only;replace hE1:=hE1.trans rC;clear hF1;have hF1:=ay;have HB2:=hid (λO' w' W hE hK ii=>HB1 O' w' W (rC.trans hE) hK ii);replace aZ:=rC.own _ aZ;clear HB1 rC ay hcc hlc;replace HB1:=HB2;clear HB2;clear O w;obtain⟨O,eO⟩:∃O,O=O1:=⟨_,rfl⟩
  subst eO;obtain⟨w,ew⟩:∃w,w=W1:=⟨_,rfl⟩
  subst ew;have xJ:=Ext.refl Low O w;have _Y:=cs6 (λW h=>HB1 O w W xJ h);refine kW ?_;clear _Y;clear xJ;rw[HR0.out];clear HR0
  refine Xb (Bg _ _ _) (λn a' x' O' w'=>∃(j:Nat) (v6 v7 v23 v24 v25 v26 v27 v28 v29 v30 v31 v32 v33 v34 v35 v36 v37 v38 v39 v40 v41:Value),j<=ks.length/\n=ks.length - j/\a'=⟨#[.chan (some c), .agg #[.int .i64 nk, .int .i64 no, .slice pa nd.length ra, .slice pk nl r1, .slice pc cs.length rc, .slice pd ks.length rd],undef, .pointer (some ⟨b1,0,none⟩),undef,u5,v6,v7, .pointer (some ⟨b1,4,none⟩), .slice pc cs.length rc, .int .i64 cs.length,u11,u12,u13,u14,u15,u16,iF,iE, .pointer (some ⟨b1,5,none⟩), .slice pd ks.length rd, .int .i64 ks.length, .int .i64 j,v23,v24,v25,v26,v27,v28,v29,v30,v31,v32,v33,v34,v35,v36,v37,v38,v39,v40,v41],[]⟩/\
   x'=((rZ.drop j).flatten).map MI.val++rest/\Ext Low O O' w w'/\Held Low w₀ O' w') ks.length ⟨0,undef,undef,undef,undef,undef,undef,undef,undef,undef,undef,undef,undef,undef,undef,undef,undef,undef,undef,undef,undef,undef,Nat.zero_le _,rfl,rfl,by rw[List.drop_zero],Ext.refl _ _ _,hF1⟩ ?_
  have hEo:=hE1;clear hE1 hF1;rintro n _ _ O1 W1 ⟨j,v6,v7,v23,v24,v25,v26,v27,v28,v29,v30,v31,v32,v33,v34,v35,v36,v37,v38,v39,v40,v41,hj,rfl,rfl,rfl,hE1,hF1⟩;dsimp only;by_cases hlt:j<ks.length
  ·have hlt':(j:Int)<(ks.length:Int):=by omega
   obtain⟨b,o,rfl,hb,hc⟩:=hkc j hlt;have hm:=A4f hlt;have hkj:=hko _ hm;obtain⟨o9,hTj⟩:=HP _ hm;rw[HGV.out j hlt,List.flatten_cons,A4m,A4m,A4m,Av2,A4w,A4w,A4w]
   revert hc hkj o9 hTj
   generalize ks[j]=x;intro hc hkj o9 hTj;generalize (p x).1=ms1 at*;generalize (p x).2=ms2 at*;obtain⟨qa,sa,hva⟩:=hkj.net.devs;obtain⟨qk,sk,hvk,_⟩:=hkj.net.kids;obtain⟨qc,sc,nC,_⟩:=hkj.coils;obtain⟨qd,sd,hvd,_⟩:=hkj.kids;clear hkj;obtain⟨⟨xk,xo,xd,xa,xR,xs⟩,ecv,ecs,ekv,iY⟩:=x;dsimp only at hva hvk nC hvd;subst hva hvk nC hvd;have gZ:=hid (λW (hW:Keep Low O1 W1 W)=>hc.held (hF1.rely hW) hb);have qA:Hid (∀vs O w,Held Low w₀ O w->J6 Tryz.prog (okS Tryz.prog Low c) 94 #[.agg #[.int .i64 xk, .int .i64 xo, .slice qa xd.length sa, .slice qk xs.length sk]] vs O w λv x' O' w'=>x'=vs/\(∀rest,J6 Tryz.prog (okS Tryz.prog Low c) 92 #[.chan (some c), .int .i64 2,v] (ms1.map MI.val++rest) O' w' λ_ x'' sS w''=>x''=rest/\Ext Low O' sS w' w''/\Held Low w₀ sS w'')/\Ext Low O O' w w'/\Held Low w₀ O' w'):=o9;have HTJ:Hid (∀rest O w,Held Low w₀ O w->J6 Tryz.prog (okS Tryz.prog Low c) 68 #[.chan (some c), .agg #[.int .i64 xk, .int .i64 xo, .slice qa xd.length sa, .slice qk xs.length sk, .slice qc ecs.length sc, .slice qd iY.length sd]] (ms2.map MI.val++rest) O w λ_ x' O' w'=>x'=rest/\Ext Low O O' w w'/\Held Low w₀ O' w'):=hTj;clear hc hm hkc hko HP o9 hTj;have xJ:=hE1;have _Y:=gZ.out;simp only[Afd,Vu] at _Y;refine kW ?_;clear _Y;refine Kz (Bg _ _ _) rfl rrz ?_ ?_
   ·intro _;simp[go_sem];done
   intro w₁ hR K hK;go_simp;refine hK _ _ ?_;clear hK K;obtain⟨O2,eO,hE2,hF2,hO2,hL2,bY,hH2⟩:=Akk hF1 hR #[.int .i64 0, .int .i64 0, .slice none 0 0, .slice none 0 0, .slice none 0 0, .slice none 0 0] 55;rw[<-eO];clear eO
   revert hE2 hF2 hO2 hL2 bY hH2
   generalize w₁.alloc (.cells #[.int .i64 0, .int .i64 0, .slice none 0 0, .slice none 0 0, .slice none 0 0, .slice none 0 0] 55)=W2;generalize w₁.heap.size=b2;intro hE2 hF2 hO2 hL2 bY hH2;replace hE2:=hE1.trans hE2;replace bY :=λx hx=>bY x (hE1.own x hx)
   clear hR w₁;try walk_nrm
   (refine Nz (Bg _ _ _) rfl rrz ?_ ?_;(focus (intro _;first | (simp[go_sem];done) | (simp[go_sem, *];done)));intro _ K hK;go_simp;refine hK _ ?_;clear hK K;try walk_nrm)
   refine V6 (Bg _ _ _) b2 hO2 rfl rrz ?_ ?_
   ·exact zj
   intro w₁ hR K hK;have hh:=(hR.mine _ hO2).trans hH2;have y0:w₁.cell? ⟨b2,0,none⟩=some (.int .i64 0):=cell_of_heap hh 0;have z0:=frozen_of_heap hh 0;have y1:w₁.cell? ⟨b2,1,none⟩=some (.int .i64 0):=cell_of_heap hh 1;have z1:=frozen_of_heap hh 1;have y2:w₁.cell? ⟨b2,2,none⟩=some (.slice none 0 0):=cell_of_heap hh 2;have z2:=frozen_of_heap hh 2;have y3:w₁.cell? ⟨b2,3,none⟩=some (.slice none 0 0):=cell_of_heap hh 3;have z3:=frozen_of_heap hh 3;have y4:w₁.cell? ⟨b2,4,none⟩=some (.slice none 0 0):=cell_of_heap hh 4;have z4:=frozen_of_heap hh 4;have y5:w₁.cell? ⟨b2,5,none⟩=some (.slice none 0 0):=cell_of_heap hh 5;have z5:=frozen_of_heap hh 5;clear hh;go_simp;try (unfold stored;go_simp)
   have hh:=(hR.mine _ hO2).trans hH2;have hp:Put b2 w₁ ((((((w₁.setCell ⟨b2,0,none⟩ (.int .i64 xk)).setCell ⟨b2,1,none⟩ (.int .i64 xo)).setCell ⟨b2,2,none⟩ (.slice qa xd.length sa)).setCell ⟨b2,3,none⟩ (.slice qk xs.length sk)).setCell ⟨b2,4,none⟩ (.slice qc ecs.length sc)).setCell ⟨b2,5,none⟩ (.slice qd iY.length sd)):=(((((((Put.refl _ _).set 0 (.int .i64 xk)).set 1 (.int .i64 xo)).set 2 (.slice qa xd.length sa)).set 3 (.slice qk xs.length sk)).set 4 (.slice qc ecs.length sc)).set 5 (.slice qd iY.length sd))
   have hh2:((((((w₁.setCell ⟨b2,0,none⟩ (.int .i64 xk)).setCell ⟨b2,1,none⟩ (.int .i64 xo)).setCell ⟨b2,2,none⟩ (.slice qa xd.length sa)).setCell ⟨b2,3,none⟩ (.slice qk xs.length sk)).setCell ⟨b2,4,none⟩ (.slice qc ecs.length sc)).setCell ⟨b2,5,none⟩ (.slice qd iY.length sd)).heap[b2]?=some (.cells #[.int .i64 xk, .int .i64 xo, .slice qa xd.length sa, .slice qk xs.length sk, .slice qc ecs.length sc, .slice qd iY.length sd] 55):=(heap_setCell (heap_setCell (heap_setCell (heap_setCell (heap_setCell (heap_setCell hh 0 (.int .i64 xk)) 1 (.int .i64 xo)) 2 (.slice qa xd.length sa)) 3 (.slice qk xs.length sk)) 4 (.slice qc ecs.length sc)) 5 (.slice qd iY.length sd))
   refine hK _ _ hp ?_;clear hK K hh y0 z0 y1 z1 y2 z2 y3 z3 y4 z4 y5 z5 hH2;replace hE2:=(hE2.rely hR).put hp hL2 bY;replace hF2:=(hF2.rely hR).put hp hL2
   revert hE2 hF2 hh2
   clear hp hR;generalize ((((((w₁.setCell ⟨b2,0,none⟩ (.int .i64 xk)).setCell ⟨b2,1,none⟩ (.int .i64 xo)).setCell ⟨b2,2,none⟩ (.slice qa xd.length sa)).setCell ⟨b2,3,none⟩ (.slice qk xs.length sk)).setCell ⟨b2,4,none⟩ (.slice qc ecs.length sc)).setCell ⟨b2,5,none⟩ (.slice qd iY.length sd))=W2;intro hh2 hE2 hF2;have HC2:Hid (∀W,Keep Low O2 W2 W->∀ii,W.cell? ⟨b2,ii,none⟩=(#[.int .i64 xk, .int .i64 xo, .slice qa xd.length sa, .slice qk xs.length sk, .slice qc ecs.length sc, .slice qd iY.length sd]:Array Value)[ii]?):=λW hW ii=>(hW.ext.cell (.inl hO2) ii).trans (cell_of_heap hh2 ii)
   clear hh2;try walk_nrm
   have ni:IntKind.i64.wrap ((j:Int)+1)=((j+1:Nat):Int):=by rw[IntKind.wrap_i64];omega
   clear xJ hE1 hF1 hb gZ;have xJ:=hE2;have _Y:=cs6 (λW h=>HB1 O2 W2 W xJ h);have _B1:=hE2.own _ aZ;refine kW ?_;clear _Y _B1
   (refine Gl (Bg _ _ _) rfl rrz rfl (A24 ks.length j hlt hlk _ _ _) (by simp[Act.eval]) ?_;rintro _ _ O3 W3 ⟨rfl,rfl,rfl⟩;try walk_nrm)
   have _Y:=cs6 HC2;refine kW ?_;clear _Y
   (refine Gl (Bg _ _ _) rfl rrz rfl (qA _ _ _ hF2) (by simp[Act.eval]) ?_;rintro v3 _ O3 W3 ⟨rfl,hTk,gW,hF3⟩;try walk_nrm)
   replace HC2:=Ag1 HC2 gW hO2;replace hO2:=gW.own _ hO2
   (refine Gl (Bg _ _ _) rfl rrz rfl (hTk _) (by simp[Act.eval]) ?_;rintro _ _ O4 W4 ⟨rfl,fD,lZ⟩;try walk_nrm)
   clear hTk;replace HC2:=Ag1 HC2 fD hO2;replace hO2:=fD.own _ hO2;have _Y:=cs6 HC2;refine kW ?_;clear _Y
   (refine Gl (Bg _ _ _) rfl rrz rfl (HTJ _ _ _ lZ) (by simp[Act.eval]) ?_;rintro _ _ O5 W5 ⟨rfl,hE5,lY⟩;try walk_nrm)
   refine kW ?_;exact⟨ks.length - (j+1),omz,j+1,_,_,_,_,_,_,_,_,_,_,_,_,_,_,_,_,_,_,_,_,_,omz,rfl,rfl,rfl,((hE2.trans gW).trans fD).trans hE5,lY⟩
  ·have hge:¬(j:Int)<(ks.length:Int):=by omega
   have hd:rZ.drop j=[]:=List.drop_eq_nil_of_le (by rw[HLV.out];omega);rw[hd];refine kW ?_;exact⟨rfl,_,hres _,rfl,hEo.trans hE1,hF1⟩
end Go.Proofs.YtbfljjcnbbmoaaaGreatDoor
namespace Go.Co
open Stil
open Go.Conc
section
variable {cs:List Frame}{k:List Item}{ops:Array Oper}
variable {τ : Type}{P : Program}{main : Bool}{Low : Nat}{pre : τ -> World -> Prop}{ok : τ -> (Nat -> Prop) -> World -> Goroutine -> Prop}{fn : FuncId}{a : Act}{x : τ}{O : Nat -> Prop}{w : World}
theorem Ac9 (T:OkL P main Low pre ok){b:Frame}{c d:Code}(hb:b.fn=fn)(hk:b.kind≠.early)
  (h:WpK ok fn c (Uo (λa' x' O' w'=>ok x' O' w' (G (b.at a' (.code d::k)) cs)) (λ_ _ _ _ _=>False)) a x O w):ok x O w (G (b.at a (.code (.seq c d)::k)) cs):=by
 refine T.ctl rfl rfl (λ_=>stepG_seq) (h b (.code d::k) cs hb hk λe a' x' O' w' q=>?_);cases e with
 | normal=>exact q
 | _=>exact q.elim
theorem Apu (T:OkL P main Low pre ok){b:Frame}{id:Nat}(h:ok x O w (G (b.at a (.inRegion ops (List.range ops.size)::k)) cs)):ok x O w (G (b.at a (.code (.region id ops false)::k)) cs):=
 T.ctl rfl rfl (λ_=>stepG_region) h
theorem Ax3 (T:OkL P main Low pre ok){b:Frame}{i:Nat}{rest:List Nat}{o:Oper}{v:Value}(ho:ops[i]?=some o)(hw:Region.wanted o (yielded ops a.tmps)=true)(hk:b.kind≠.early)
  (hr:∀w₁:World,(execOp a.eval o).run P w₁=.ok (.value v) w₁) (he:∀w₁:World,(execOp a.eval o).events P w₁ #[]=#[]) (h:ok x O w (G (b.at (a.put o.dst v) (.inRegion ops rest::k)) cs)):ok x O w (G (b.at a (.inRegion ops (i::rest)::k)) cs):=by
 refine T.ctl rfl rfl (λw₁=>?_) h;rw[stepG_value ho hw hk (hr w₁)];unfold listed;rw[he,seen_none]
end
end Go.Co
namespace Go.Proofs.YtbfljjcnbbmoaaaGreatDoor
open Stil
open Go.RowKit Go.Sort Go.BigFrame Go.Conc Go.Co
variable {Low c : Nat}
set_option maxRecDepth 100000 in
set_option maxHeartbeats 4000000 in
theorem A23 (w₀:World)(m:Aw)(hg:Ae4 m.arm)(hn:Ady m.net.net)(hs:Aj m.net.net<=1000000)(hok:VOk Low w₀ m):∃vs,MIs w₀ m.vals vs (F7 m.arm)/\∀w O,Held Low w₀ O w->
  okS Tryz.prog Low c (vs.map MI.val) O w (born Tryz.prog (dcall 43 #[.chan (some c), .agg #[.int .i64 m.net.kind, .int .i64 m.net.op,m.net.av,m.net.kv,m.cv,m.kv]])):=by
 obtain⟨v1,h1,hB⟩:=Aww (c:=c) w₀ m.net hn hs hok.net;obtain⟨v2,h2,hT⟩:=A22 (c:=c) w₀ m hg hok;refine⟨v1++(v2++[mi0 11]),?_,λw O hF=>?_⟩
 ·unfold F7
  rw[P5,show m.arm.net=m.net.net by rw[Aw.arm_eq]];exact h1.append (h2.snoc 11)
 obtain⟨pa,ra,hva⟩:=hok.net.devs;obtain⟨pk,r1,hvk,_⟩:=hok.net.kids;obtain⟨pc,rc,nC,_⟩:=hok.coils;obtain⟨pd,rd,hvd,_⟩:=hok.kids;clear h1 h2 hok hg hn hs;obtain⟨⟨nk,no,nd,na,nv,xX⟩,cv,cs,kv,ks⟩:=m;dsimp only at hva hvk nC hvd hB hT ⊢;subst hva hvk nC hvd;rw[A4m,A4m,A4q,List.map_nil,MI.val,mi0];refine Ax1 Tryz.func43 rrz rfl ?_;have HB:Hid (∀rest O w,Held Low w₀ O w->J6 Tryz.prog (okS Tryz.prog Low c) 67 #[.chan (some c), .agg #[.int .i64 nk, .int .i64 no, .slice pa nd.length ra, .slice pk xX.length r1]] (v1.map MI.val++rest) O w λ_ x' O' w'=>x'=rest/\Ext Low O O' w w'/\Held Low w₀ O' w'):=hB;have HT:Hid (∀rest O w,Held Low w₀ O w->J6 Tryz.prog (okS Tryz.prog Low c) 68 #[.chan (some c), .agg #[.int .i64 nk, .int .i64 no, .slice pa nd.length ra, .slice pk xX.length r1, .slice pc cs.length rc, .slice pd ks.length rd]] (v2.map MI.val++rest) O w λ_ x' O' w'=>x'=rest/\Ext Low O O' w w'/\Held Low w₀ O' w'):=hT;clear hB hT;simp only[Tryz.ntmps43,A4b,A39,A4a,Nat.reduceAdd,Nat.reduceSub,A41,A42,A47,A44,A4z,A4y];refine Ac9 (Bg _ _ _) (fn:=43) rfl (by simp[baseD]) ?_
 (refine Fe (Bg _ _ _) ?_;simp only[A4b,A39,A4a,A4h,List.range,List.range.loop])
 refine kB hF #[.int .i64 nk, .int .i64 no, .slice pa nd.length ra, .slice pk xX.length r1, .slice pc cs.length rc, .slice pd ks.length rd] 55 λO1 W1 b1 hE1 hF1 aZ hL1 bH=>?_
 try walk_nrm
 refine Om (Bg _ _ _) ?_;simp only[Uo];refine Ac9 (Bg _ _ _) (fn:=43) rfl (by simp[baseD]) ?_;have _Y:=cs6 bH;refine kW ?_;clear _Y
 (refine Gl (Bg _ _ _) rfl rrz rfl (HB _ _ _ hF1) (by simp[Act.eval]) ?_;rintro _ _ O2 W2 ⟨rfl,hE2,hF2⟩;try walk_nrm)
 replace bH:=Ag1 bH hE2 aZ;replace aZ:=hE2.own _ aZ;refine Om (Bg _ _ _) ?_;simp only[Uo];refine Ac9 (Bg _ _ _) (fn:=43) rfl (by simp[baseD]) ?_;have _Y:=cs6 bH;refine kW ?_;clear _Y
 (refine Gl (Bg _ _ _) rfl rrz rfl (HT _ _ _ hF2) (by simp[Act.eval]) ?_;rintro _ _ O3 W3 ⟨rfl,gW,hF3⟩;try walk_nrm)
 refine Om (Bg _ _ _) ?_;simp only[Uo];refine Ac9 (Bg _ _ _) (fn:=43) rfl (by simp[baseD]) ?_;refine kW ?_;refine Apu (Bg _ _ _) ?_;simp only[A4b,A39,A4a,Nat.reduceAdd,A4h,List.range,List.range.loop];refine Ax3 (Bg _ _ _) rfl rrz (by simp[baseD]) (v:=.chan (some c)) (λ_=>by go_simp) (λ_=>by simp[go_sem]) ?_;refine Aur rfl rrz (by simp[baseD]) rfl (by simp[Act.eval,Act.put]) krz ?_ (Auc Tryz.func43 rfl rfl)
 ·rfl
end Go.Proofs.YtbfljjcnbbmoaaaGreatDoor
namespace Go.Proofs.YtbfljjcnbbmoaaaGreatDoor
open Go.RowKit Go.Sort Go.BigFrame Go.Conc Go.Co
variable {Low : Nat}{Stop : Goroutine -> World -> Prop}
def A29 (Low:Nat)(w₀:World)(m:Aw)(f:Nat->List MI):Prop:=∀c w O,Held Low w₀ O w->
 okS Tryz.prog Low c ((f c).map MI.val) O w (born Tryz.prog (dcall 43 #[.chan (some c), .agg #[.int .i64 m.net.kind, .int .i64 m.net.op,m.net.av,m.net.kv,m.cv,m.kv]]))
theorem take_snoc {α:Type}(l:List α)(j:Nat)(h:j<l.length):l.take (j+1)=l.take j++[l[j]]:=by rw[List.take_add_one,A4p h];rfl
theorem Avi:(Tryz.prog.info? 62).map (λi=>(i.zero,i.size,i.bytes))=some (some (.chan none),1,8):=krz
theorem A2j (w:World):Sem.run Tryz.prog (Instr.makeChan 62 (.int .i64 0)) w=.ok (.chan (some w.heap.size)) (w.alloc (.chan 0 #[] false 0 0 false)):=by
 obtain⟨i0,hi,hy0,hy1,hy2⟩:=info_parts Zq;exact run_makeChan Tryz.underlying62 hi .i64 0 omz omz
theorem Av8 (w:World):Sem.events Tryz.prog (Instr.makeChan 62 (.int .i64 0)) w #[]=#[]:=by
 obtain⟨i0,hi,hy0,hy1,hy2⟩:=info_parts Zq;exact events_makeChan Tryz.underlying62 hi .i64 0 omz omz _
set_option maxRecDepth 100000 in
set_option maxHeartbeats 4000000 in
theorem A1u (w₀:World)(ms:List Aw)(f:Aw->Nat->List MI)(a:Option Addr)(cap:Nat)(hkc:∀i (h:i<ms.length),∃b o,a=some ⟨b,o,none⟩/\b<Low/\Afd w₀ b (o+i*6) ms[i])(hok:∀m∈ms,VOk Low w₀ m)(hgo:∀m∈ms,A29 Low w₀ m (f m))(hl:ms.length<=1000)(Oo:Nat->Prop)(wo:World)(xI:Held Low w₀ Oo wo):
  J6 Tryz.prog (okR Tryz.prog Low Stop) 21 #[.slice a ms.length cap] [] Oo wo λv x' O' w'=>∃cs:List Nat,cs.length=ms.length/\x'=List.zipWith (λc m=>(c,(f m c).map MI.val,false)) cs ms/\
   w'.ownsRow Low 62 1 v ms.length (cs.map λc=>.chan (some c))/\(∀k,v.ownBlock=some k->O' k)/\Held Low w₀ O' w':=by
 have hres:=resultsC_tmp (P:=Tryz.prog) (fn:=Tryz.f21) rfl;have HOK:=hid hok;have HGO:=hid hgo;have HKC:=hid hkc;clear hok hgo hkc;refine He Tryz.func21 rrz rfl ?_;simp only[Tryz.ntmps21,A4b,A39,A4a,Nat.reduceAdd,Nat.reduceSub,A41,A42,A47,A44,A4z,A4y];refine kV ?_
 refine Xb (Bl _ _ _) (λn a' x' O' w'=>∃(j:Nat) (cs:List Nat) (sv u5 u6 u10 u11 u12 u13 u14 u15 u16 iF iE mM u20:Value),j<=ms.length/\n=ms.length - j/\a'=⟨#[.slice a ms.length cap,undef, .slice none 0 0,sv,undef,u5,u6, .slice a ms.length cap, .int .i64 ms.length, .int .i64 j,u10,u11,u12,u13,u14,u15,u16,iF,iE,mM,u20,undef],[]⟩/\
  cs.length=j/\x'=List.zipWith (λc m=>(c,(f m c).map MI.val,false)) cs (ms.take j)/\w'.ownsRow Low 62 1 sv j (cs.map λc=>.chan (some c))/\(∀k,sv.ownBlock=some k->O' k)/\Held Low w₀ O' w') ms.length
  ⟨0,[], .slice none 0 0,undef,undef,undef,undef,undef,undef,undef,undef,undef,undef,undef,undef,undef,Nat.zero_le _,rfl,rfl,rfl,rfl,World.ownsRow_nil _ _ _ _,(λk hk=>by cases hk),xI⟩ ?_
 rintro n _ _ O w ⟨j,cs,sv,u5,u6,u10,u11,u12,u13,u14,u15,u16,iF,iE,mM,u20,hj,rfl,rfl,hcl,rfl,hS,ah,hF1⟩;try dsimp only
 by_cases hlt:j<ms.length
 ·have hlt':(j:Int)<(ms.length:Int):=by omega
  obtain⟨b,o,rfl,hb,hc⟩:=HKC j hlt;have hm:=A4f hlt;have hkj:=HOK _ hm;have hgj:=HGO _ hm;have vT:=hid (take_snoc ms j hlt);have HTL:Hid ((ms.take j).length=j):=by show _=_;rw[List.length_take];omega
  revert hc hkj hgj vT
  generalize ms[j]=x;intro hc hkj hgj vT;obtain⟨fx,hfx⟩:∃fx,fx=f x:=⟨_,rfl⟩
  have qw:=hid hfx;rw[<-hfx] at hgj;clear hfx;obtain⟨qa,sa,hva⟩:=hkj.net.devs;obtain⟨qk,sk,hvk,_⟩:=hkj.net.kids;obtain⟨qc,sc,nC,_⟩:=hkj.coils;obtain⟨qd,sd,hvd,_⟩:=hkj.kids;clear hkj;obtain⟨⟨xk,xo,xd,xa,xR,xs⟩,ecv,ecs,ekv,iY⟩:=x;dsimp only at hva hvk nC hvd;subst hva hvk nC hvd;have gZ:=hid (λW (hW:Keep Low O w W)=>hc.held (hF1.rely hW) hb);have HGJ:Hid (∀c w O,Held Low w₀ O w->okS Tryz.prog Low c ((fx c).map MI.val) O w (born Tryz.prog (dcall 43 #[.chan (some c), .agg #[.int .i64 xk, .int .i64 xo, .slice qa xd.length sa, .slice qk xs.length sk, .slice qc ecs.length sc, .slice qd iY.length sd]]))):=hgj;clear hc hm hgj;have hE1:=Ext.refl Low O w;have _Y:=gZ.out;simp only[Afd,Vu] at _Y;refine kV ?_;clear _Y;refine Kz (Bl _ _ _) rfl rrz ?_ ?_
  ·intro _;simp[go_sem];done
  intro w₁ hR K hK;go_simp;refine hK _ _ ?_;clear hK K;obtain⟨O2,eO,hE2,hF2,hO2,hL2,bY,hH2⟩:=Akk hF1 hR #[.int .i64 0, .int .i64 0, .slice none 0 0, .slice none 0 0, .slice none 0 0, .slice none 0 0] 55;rw[<-eO];clear eO
  revert hE2 hF2 hO2 hL2 bY hH2
  generalize w₁.alloc (.cells #[.int .i64 0, .int .i64 0, .slice none 0 0, .slice none 0 0, .slice none 0 0, .slice none 0 0] 55)=W2;generalize w₁.heap.size=b2;intro hE2 hF2 hO2 hL2 bY hH2;replace hE2:=hE1.trans hE2;replace bY :=λx hx=>bY x (hE1.own x hx)
  clear hR w₁;try walk_nrm
  refine V6 (Bl _ _ _) b2 hO2 rfl rrz ?_ ?_
  ·exact zj
  intro w₁ hR K hK;have hh:=(hR.mine _ hO2).trans hH2;have y0:w₁.cell? ⟨b2,0,none⟩=some (.int .i64 0):=cell_of_heap hh 0;have z0:=frozen_of_heap hh 0;have y1:w₁.cell? ⟨b2,1,none⟩=some (.int .i64 0):=cell_of_heap hh 1;have z1:=frozen_of_heap hh 1;have y2:w₁.cell? ⟨b2,2,none⟩=some (.slice none 0 0):=cell_of_heap hh 2;have z2:=frozen_of_heap hh 2;have y3:w₁.cell? ⟨b2,3,none⟩=some (.slice none 0 0):=cell_of_heap hh 3;have z3:=frozen_of_heap hh 3;have y4:w₁.cell? ⟨b2,4,none⟩=some (.slice none 0 0):=cell_of_heap hh 4;have z4:=frozen_of_heap hh 4;have y5:w₁.cell? ⟨b2,5,none⟩=some (.slice none 0 0):=cell_of_heap hh 5;have z5:=frozen_of_heap hh 5;clear hh;go_simp;try (unfold stored;go_simp)
  have hh:=(hR.mine _ hO2).trans hH2;have hp:Put b2 w₁ ((((((w₁.setCell ⟨b2,0,none⟩ (.int .i64 xk)).setCell ⟨b2,1,none⟩ (.int .i64 xo)).setCell ⟨b2,2,none⟩ (.slice qa xd.length sa)).setCell ⟨b2,3,none⟩ (.slice qk xs.length sk)).setCell ⟨b2,4,none⟩ (.slice qc ecs.length sc)).setCell ⟨b2,5,none⟩ (.slice qd iY.length sd)):=(((((((Put.refl _ _).set 0 (.int .i64 xk)).set 1 (.int .i64 xo)).set 2 (.slice qa xd.length sa)).set 3 (.slice qk xs.length sk)).set 4 (.slice qc ecs.length sc)).set 5 (.slice qd iY.length sd))
  have hh2:((((((w₁.setCell ⟨b2,0,none⟩ (.int .i64 xk)).setCell ⟨b2,1,none⟩ (.int .i64 xo)).setCell ⟨b2,2,none⟩ (.slice qa xd.length sa)).setCell ⟨b2,3,none⟩ (.slice qk xs.length sk)).setCell ⟨b2,4,none⟩ (.slice qc ecs.length sc)).setCell ⟨b2,5,none⟩ (.slice qd iY.length sd)).heap[b2]?=some (.cells #[.int .i64 xk, .int .i64 xo, .slice qa xd.length sa, .slice qk xs.length sk, .slice qc ecs.length sc, .slice qd iY.length sd] 55):=(heap_setCell (heap_setCell (heap_setCell (heap_setCell (heap_setCell (heap_setCell hh 0 (.int .i64 xk)) 1 (.int .i64 xo)) 2 (.slice qa xd.length sa)) 3 (.slice qk xs.length sk)) 4 (.slice qc ecs.length sc)) 5 (.slice qd iY.length sd))
  refine hK _ _ hp ?_;clear hK K hh y0 z0 y1 z1 y2 z2 y3 z3 y4 z4 y5 z5 hH2;replace hE2:=(hE2.rely hR).put hp hL2 bY;replace hF2:=(hF2.rely hR).put hp hL2
  revert hE2 hF2 hh2
  clear hp hR;generalize ((((((w₁.setCell ⟨b2,0,none⟩ (.int .i64 xk)).setCell ⟨b2,1,none⟩ (.int .i64 xo)).setCell ⟨b2,2,none⟩ (.slice qa xd.length sa)).setCell ⟨b2,3,none⟩ (.slice qk xs.length sk)).setCell ⟨b2,4,none⟩ (.slice qc ecs.length sc)).setCell ⟨b2,5,none⟩ (.slice qd iY.length sd))=W2;intro hh2 hE2 hF2;have HC2:Hid (∀W,Keep Low O2 W2 W->∀ii,W.cell? ⟨b2,ii,none⟩=(#[.int .i64 xk, .int .i64 xo, .slice qa xd.length sa, .slice qk xs.length sk, .slice qc ecs.length sc, .slice qd iY.length sd]:Array Value)[ii]?):=λW hW ii=>(hW.ext.cell (.inl hO2) ii).trans (cell_of_heap hh2 ii)
  clear hh2;try walk_nrm
  have ni:IntKind.i64.wrap ((j:Int)+1)=((j+1:Nat):Int):=by rw[IntKind.wrap_i64];omega
  replace hS:=hE2.row hS (λk hk=>.inl (ah k hk));have HNS:Hid (some b2≠sv.ownBlock):=λe=>bY b2 (ah b2 e.symm) rfl
  have qV:=λk hk=>hE2.own _ (ah k hk)
  clear hE1 hF1 hb gZ ah hE2 bY;repeat (first | (first | refine Jl (Bl _ _ _) ?_ | refine Qj (Bl _ _ _) ?_ | refine Um (Bl _ _ _) ?_ | refine Qi (Bl _ _ _) ?_ | refine Yh (Bl _ _ _) ?_ | refine Un (Bl _ _ _) ?_ | refine Om (Bl _ _ _) ?_) | (simp only[Uo,Ko,if_true,if_false,reduceIte,Nat.reduceEqDiff]))
  (refine Fe (Bl _ _ _) ?_;simp only[A4b,A39,A4a,Nat.reduceAdd,A4h,List.range,List.range.loop])
  refine Kz (Bl _ _ _) rfl rrz ?_ ?_
  ·intro W1;simp[go_sem,Av8];done
  intro w₁ hR K hK;have hmr:=A2j w₁;go_simp;refine hK _ _ ?_;clear hK K hmr;obtain⟨O3,eO,gW,hF3,hO3,hL3,hN3,hH3⟩:=Awy hF2 hR (.chan 0 #[] false 0 0 false);rw[<-eO];clear eO
  revert gW hF3 hO3 hL3 hN3 hH3
  generalize w₁.alloc (.chan 0 #[] false 0 0 false)=W3;generalize w₁.heap.size=b3;intro gW hF3 hO3 hL3 hN3 hH3;clear hR w₁;try walk_nrm
  replace HC2:=Ag1 HC2 gW hO2;replace hO2:=gW.own _ hO2;replace hS:=gW.row hS (λk hk=>.inl (qV k hk));have HNC:Hid (some b3≠sv.ownBlock):=λe=>hN3 b3 (qV b3 e.symm) rfl
  have uV:=λk hk=>gW.own _ (qV k hk)
  clear qV gW hN3 hF2
  (refine Nz (Bl _ _ _) rfl rrz ?_ ?_;(focus (intro _;first | (simp[go_sem];done) | (simp[go_sem, *];done)));intro _ K hK;go_simp;refine hK _ ?_;clear hK K;try walk_nrm)
  repeat (first | (first | refine Jl (Bl _ _ _) ?_ | refine Qj (Bl _ _ _) ?_ | refine Um (Bl _ _ _) ?_ | refine Qi (Bl _ _ _) ?_ | refine Yh (Bl _ _ _) ?_ | refine Un (Bl _ _ _) ?_ | refine Om (Bl _ _ _) ?_) | (simp only[Uo,Ko,if_true,if_false,reduceIte,Nat.reduceEqDiff]))
  (refine Fe (Bl _ _ _) ?_;simp only[A4b,A39,A4a,Nat.reduceAdd,A4h,List.range,List.range.loop])
  (refine Nz (Bl _ _ _) rfl rrz ?_ ?_;(focus (intro _;first | (simp[go_sem];done) | (simp[go_sem, *];done)));intro _ K hK;go_simp;refine hK _ ?_;clear hK K;try walk_nrm)
  (refine Nz (Bl _ _ _) rfl rrz ?_ ?_;(focus (intro _;first | (simp[go_sem];done) | (simp[go_sem, *];done)));intro _ K hK;go_simp;refine hK _ ?_;clear hK K;try walk_nrm)
  refine Kz (Bl _ _ _) rfl rrz ?_ ?_
  ·intro W1;simp[go_sem];done
  intro w₁ hR K hK;go_simp;refine hK _ _ ?_;clear hK K;obtain⟨O4,eO,fD,lZ,hO4,hL4,vF,qZ⟩:=Awy hF3 hR (.cells #[.chan (some b3)] 62);rw[<-eO];clear eO
  revert fD lZ hO4 hL4 vF qZ
  generalize w₁.alloc (.cells #[.chan (some b3)] 62)=W4;generalize w₁.heap.size=b4;intro fD lZ hO4 hL4 vF qZ;clear hR w₁;try walk_nrm
  replace HC2:=Ag1 HC2 fD hO2;replace hO2:=fD.own _ hO2;replace hS:=fD.row hS (λk hk=>.inl (uV k hk));have zZ:=λk hk=>fD.own _ (uV k hk)
  replace hH3:=(fD.mine _ hO3).trans hH3;replace hO3:=fD.own _ hO3;clear uV fD vF hF3;obtain⟨i0,hi,hy0,hy1,hy2⟩:=info_parts Avi;refine Ac8 (Bl _ _ _) rfl rrz (.tmp 14) (.tmp 16) 60 rfl 62 i0 (.chan none) 1 8 Tryz.underlying60 hi hy0 hy1 hy2 rfl dcz sv j _ (by simp[Act.eval]) hS zZ b4 1 [.chan (some b3)] (by simp[Act.eval]) rfl hO4 ?_ ?_ ?_ ?_ lZ ?_
  ·intro jj u hu
   rw[cell_of_heap qZ];simpa using hu
  ·intro u hu
   rw[List.mem_singleton.1 hu];rfl
  ·simp only[maxLen];omega
  ·omega
  clear hi hy0 hy1 hy2 i0;intro v5 W5 O5 hS5 qU _ vC hsm lY;try walk_nrm
  have HC5:Hid (∀W,Keep Low O5 W5 W->∀ii,W.cell? ⟨b2,ii,none⟩=(#[.int .i64 xk, .int .i64 xo, .slice qa xd.length sa, .slice qk xs.length sk, .slice qc ecs.length sc, .slice qd iY.length sd]:Array Value)[ii]?):=λW hW ii=>(World.cell?_of_block (a:=⟨b2,ii,none⟩) ((hW.mine _ (vC _ hO2)).trans (hsm _ hO2 HNS.out))).trans (HC2 _ (Keep.refl _ _ _) ii)
  have hH5:=(hsm _ hO3 HNC.out).trans hH3;replace hO3:=vC _ hO3;replace hO2:=vC _ hO2;clear HC2 hsm vC zZ hS lZ hH3 qZ hO4 HNS HNC;have HC2:=HC5;clear HC5
  (refine Nz (Bl _ _ _) rfl rrz ?_ ?_;(focus (intro _;first | (simp[go_sem];done) | (simp[go_sem, *];done)));intro _ K hK;go_simp;refine hK _ ?_;clear hK K;try walk_nrm)
  repeat (first | (first | refine Jl (Bl _ _ _) ?_ | refine Qj (Bl _ _ _) ?_ | refine Um (Bl _ _ _) ?_ | refine Qi (Bl _ _ _) ?_ | refine Yh (Bl _ _ _) ?_ | refine Un (Bl _ _ _) ?_ | refine Om (Bl _ _ _) ?_) | (simp only[Uo]))
  (refine Fe (Bl _ _ _) ?_;simp only[A4b,A39,A4a,Nat.reduceAdd,A4h,List.range,List.range.loop])
  have _Y:=cs6 HC2;refine kV ?_;clear _Y;refine A0s (c:=b3) (vs:=(fx b3).map MI.val) rfl rrz ?_ ?_ hO3 ⟨_,_,hH5⟩ (HGJ b3 _ _ ⟨lY.still,lY.low,λ_ h=>h.elim,lY.os,lY.out⟩) ?_
  ·intro W1
   go_simp;rfl
  ·intro W1
   simp[go_sem]
  try walk_nrm
  refine kV ?_;refine⟨ms.length - (j+1),omz,j+1,cs++[b3],v5,_,_,_,_,_,_,_,_,_,_,_,_,_,omz,rfl,rfl,by rw[A38,hcl];rfl,?_,?_,λk hk=>⟨qU k hk,λe=>?_⟩,⟨lY.still,lY.low,λk hk=>lY.up k hk.1,lY.os,lY.out⟩⟩
  ·rw[vT.out,List.zipWith_append (by rw[HTL.out,hcl]),qw.out]
   rfl
  ·rw[A4m]
   exact hS5
  ·subst e
   rcases hS5.2 with⟨hv,_⟩ | ⟨g,cap',cur,hv,_,hg,_⟩
   ·rw[hv] at hk;cases hk
   ·rw[hv] at hk
    cases hk;rw[hH5] at hg;cases hg
 ·have hge:¬(j:Int)<(ms.length:Int):=by omega
  obtain rfl:j=ms.length:=omz
  refine kV ?_;refine⟨rfl,_,hres _,cs,hcl,by rw[List.take_length],hS,ah,hF1⟩
end Go.Proofs.YtbfljjcnbbmoaaaGreatDoor
