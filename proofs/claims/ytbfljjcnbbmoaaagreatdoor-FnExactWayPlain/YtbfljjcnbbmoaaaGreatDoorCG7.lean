import Derived.Test.YtbfljjcnbbmoaaaGreatDoorCG6
namespace Go.Co
open Stil
open Go.Conc
theorem Awp {τ:Type} {ok:τ->(Nat->Prop)->World->Goroutine->Prop} {fn:FuncId} {Q:Uo τ} {a:Act} {x:τ} {O:Nat->Prop} {w:World} {c:Code} {id:Nat} {N:Act->τ->(Nat->Prop)->World->Prop} (M:Act->τ->(Nat->Prop)->World->Prop)
  (h:WpK ok fn c (J3 id (Tm M Q)) a x O w) (hn:∀a' x' O' w',M a' x' O' w'->N a' x' O' w'):WpK ok fn c (J3 id (Tm N Q)) a x O w:=
 h.mono λe a' x' O' w' q=>by
  cases e with
  | normal=>exact hn _ _ _ _ q
  | exit id'=>
   simp only[J3] at q ⊢;split
   ·rename_i h;rw[if_pos h] at q;exact hn _ _ _ _ q
   ·rename_i h;rw[if_neg h] at q;exact q
  | _=>exact q
end Go.Co
namespace Go.Proofs.YtbfljjcnbbmoaaaGreatDoor
open Stil
open Go.RowKit Go.Sort Go.BigFrame Go.Conc Go.Co
variable {Low c : Nat}
set_option maxRecDepth 100000 in
set_option maxHeartbeats 4000000 in
theorem A23 (w₀:World) (m:Au):Aed m.arm->VOk Low w₀ m->∃vs,MIs w₀ (Aho m) vs (Ej m.arm)/\Ay0 Low c w₀ m vs:=by
 induction m using Jz with
 | h n cv cs kv ks ih=>
  intro hgo hok;rw[Au.arm_eq] at hgo ⊢;dsimp only at hgo ⊢;obtain⟨hlc,hlk,hkg,hgk⟩:=(Ann _ _ _).1 hgo;rw[A4t] at hlc hlk;replace hgk:∀x∈ks,Aed x.arm:=λx hx=>hgk _ (List.mem_map_of_mem hx)
  replace hkg:∀x∈ks,Aut x.net.net:=λx hx=>by have:=hkg _ (List.mem_map_of_mem hx);rw[Au.arm_eq] at this;exact this
  obtain⟨pa,ra,hva⟩:=hok.net.devs;obtain⟨pk,r1,hvk,_⟩:=hok.net.kids;obtain⟨pc,rc,hvc,hco,hcc⟩:=hok.coils;obtain⟨pd,rd,hvd,hko,hkc⟩:=hok.kids;dsimp only at hva hvk hvc hvd hco hko hcc hkc;subst hvc hvd;have hall:∀x∈ks,∃p:List MI × List MI,(MIs w₀ x.net.vals p.1 (En x.net.net)/\MIs w₀ (Aho x) p.2 (Ej x.arm))/\Ahg Low c w₀ x.net p.1/\Ay0 Low c w₀ x p.2:=λx hx=>by
   obtain⟨ms,h1,h2⟩:=Av6 (c:=c) w₀ x.net (hko x hx).net (hkg x hx);obtain⟨vs,h3,h4⟩:=ih x hx (hgk x hx) (hko x hx);exact⟨(ms,vs),⟨h1,h3⟩,h2,h4⟩
  obtain⟨p,hp⟩:∃p:Au->List MI × List MI,∀x∈ks,(MIs w₀ x.net.vals (p x).1 (En x.net.net)/\MIs w₀ (Aho x) (p x).2 (Ej x.arm))/\Ahg Low c w₀ x.net (p x).1/\Ay0 Low c w₀ x (p x).2:=by
   classical
   refine⟨λx=>if h:∃p:List MI × List MI,(MIs w₀ x.net.vals p.1 (En x.net.net)/\MIs w₀ (Aho x) p.2 (Ej x.arm))/\Ahg Low c w₀ x.net p.1/\Ay0 Low c w₀ x p.2 then h.choose else([],[]),λx hx=>?_⟩;have h:=hall x hx;simp only[h,dite_true];exact h.choose_spec
  clear hall ih;refine⟨cs.map Anq++(ks.mapIdx λi x=>Xl ks.length i++((p x).1++(p x).2)).flatten,?_,λrest Oo wo hFo=>?_⟩
  ·rw[Tn]
   have h1:=Avs hco;have h2:=Aur (n:=ks.length) (p:=p) (l:=ks) 0 λx hx=>(hp x hx).1
   simp only[A4m] at h2;rw[A4t];refine(h1.append h2).sub (Afq ?_);show(Et cs++Fp ks).Sublist (_::(Et cs++(_::Fp ks)))
   exact((List.Sublist.refl _).append ((List.Sublist.refl _).cons _)).cons _
  obtain⟨kvs,hkvs⟩:∃kvs:List (List MI),kvs=ks.mapIdx λi x=>Xl ks.length i++((p x).1++(p x).2):=⟨_,rfl⟩
  have hlv:kvs.length=ks.length:=by rw[hkvs];simp
  have hgv:∀i (h:i<ks.length),kvs.drop i=(Xl ks.length i++((p ks[i]).1++(p ks[i]).2))::kvs.drop (i+1):=λi h=>by
   rw[List.drop_eq_getElem_cons (by omega)];congr 1;subst hkvs;rw[List.getElem_mapIdx]
  rw[<-hkvs,A4r,A41];have HP:=hid (λx hx=>(hp x hx).2);have HGV:=hid hgv;have HLV:=hid hlv;have HCO:=hid hco;clear hkvs hgv hlv hp hkg hgk hgo hok hco;obtain⟨nk,no,nd,na,nkv,nks⟩:=n;dsimp only at hva hvk;subst hva hvk;generalize nks.length=nl;obtain⟨R,hR0⟩:∃R,R=(kvs.flatten).map MI.val++rest:=⟨_,rfl⟩
  rw[<-hR0];have HR0:=hid hR0;clear hR0;have hres:=resultsC_none (P:=Tryz.prog) (fn:=Tryz.f68) rfl;dsimp only;refine G6 Tryz.func68 (by rfl) rfl ?_;simp only[Tryz.ntmps68,A4g,A4e,A4f,Nat.reduceAdd,Nat.reduceSub,A46,A47,A5c,A49,A44,A43];refine Jb (Be _ _ _) ?_
  (refine Es (Be _ _ _) ?_;simp only[A4g,A4e,A4f,A4m,List.range,List.range.loop])
  refine kB hFo #[.int .i64 nk, .int .i64 no, .slice pa nd.length ra, .slice pk nl r1, .slice pc cs.length rc, .slice pd ks.length rd] 55 λO1 W1 b1 hE1 hF1 hO1 hL1 HC1=>?_
  try walk_nrm
  obtain⟨O,eO⟩:∃O,O=O1:=⟨_,rfl⟩
  subst eO;obtain⟨w,ew⟩:∃w,w=W1:=⟨_,rfl⟩
  subst ew;have _Y:=cs6 HC1;refine kW ?_;clear _Y;have HB1:Hid (∀O' w' W,Ext Low O O' w w'->Keep Low O' w' W->∀ii,W.cell? ⟨b1,ii,none⟩=(#[.int .i64 nk, .int .i64 no, .slice pa nd.length ra, .slice pk nl r1, .slice pc cs.length rc, .slice pd ks.length rd]:Array Value)[ii]?):=λO' w' W hE hK ii=>(hK.ext.cell (.inl (hE.own _ hO1)) ii).trans ((hE.cell (.inl hO1) ii).trans (HC1.out _ (Keep.refl _ _ _) ii))
  clear HC1;refine Awp (λa' x' O' w'=>∃(u5 u12 u13 u14 u15 u16 u17 u18 u11:Value),a'=⟨#[.chan (some c), .agg #[.int .i64 nk, .int .i64 no, .slice pa nd.length ra, .slice pk nl r1, .slice pc cs.length rc, .slice pd ks.length rd],undef, .pointer (some ⟨b1,0,none⟩),undef,u5,undef,undef, .pointer (some ⟨b1,4,none⟩), .slice pc cs.length rc, .int .i64 cs.length,u11,u12,u13,u14,u15,u16,u17,u18,undef,undef,undef,undef,undef,undef,undef,undef,undef,undef,undef,undef,undef,undef,undef,undef,undef,undef,undef,undef,undef,undef,undef],[]⟩/\x'=R/\Ext Low O O' w w'/\Held Low w₀ O' w') ?_ ?_
  ·refine V4 (Be _ _ _) (λn a' x' O' w'=>∃(j:Nat) (u5 u12 u13 u14 u15 u16 u17 u18:Value),j<=cs.length/\n=cs.length - j/\a'=⟨#[.chan (some c), .agg #[.int .i64 nk, .int .i64 no, .slice pa nd.length ra, .slice pk nl r1, .slice pc cs.length rc, .slice pd ks.length rd],undef, .pointer (some ⟨b1,0,none⟩),undef,u5,undef,undef, .pointer (some ⟨b1,4,none⟩), .slice pc cs.length rc, .int .i64 cs.length, .int .i64 j,u12,u13,u14,u15,u16,u17,u18,undef,undef,undef,undef,undef,undef,undef,undef,undef,undef,undef,undef,undef,undef,undef,undef,undef,undef,undef,undef,undef,undef,undef],[]⟩/\
    x'=(cs.drop j).map (λe=>(Anq e).val)++R/\Ext Low O O' w w'/\Held Low w₀ O' w') cs.length ⟨0,undef,undef,undef,undef,undef,undef,undef,undef,Nat.zero_le _,rfl,rfl,by rw[List.drop_zero,List.map_map];rfl,Ext.refl _ _ _,hF1⟩ ?_
   rintro n _ _ O1 W1 ⟨j,u5,u12,u13,u14,u15,u16,u17,u18,hj,rfl,rfl,rfl,hE1,hF1⟩;dsimp only;by_cases hlt:j<cs.length
   ·have hlt':(j:Int)<(cs.length:Int):=by omega
    obtain⟨b,o,rfl,hb,hc0,hc1⟩:=hcc j hlt;have hdr:=List.drop_eq_getElem_cons hlt;have heo:=HCO.out _ (A4k hlt);rw[hdr,A4v,A43]
    revert hc0 hc1 heo
    generalize cs[j]=e;intro hc0 hc1 heo;obtain⟨qe,se,hve⟩:=Af heo;obtain⟨eop,eds,eav⟩:=e;dsimp only at hve hc0 hc1;subst hve;simp only[Anq,MI.val];have HCN:Hid (∀W,Keep Low O1 W1 W->W.cell? ⟨b,o+j*2,none⟩=some (.int .i64 eop)/\W.cell? ⟨b,o+j*2+1,none⟩=some (.slice qe eds.length se)):=λW hW=>⟨((hF1.rely hW).down hb _).trans hc0,((hF1.rely hW).down hb _).trans hc1⟩
    clear hc0 hc1 hdr heo hcc;have _Y:=HCN.out;refine kW ?_;clear _Y;refine J7 (Be _ _ _) rfl (by rfl) ?_ ?_
    ·intro _;simp[go_sem];done
    intro w₁ hR K hK;go_simp;refine hK _ _ ?_;clear hK K;obtain⟨O2,eO,hE2,hF2,hO2,hL2,hN2,hH2⟩:=Ajw hF1 hR #[.int .i64 0, .slice none 0 0] 49;rw[<-eO];clear eO
    revert hE2 hF2 hO2 hL2 hN2 hH2
    generalize w₁.alloc (.cells #[.int .i64 0, .slice none 0 0] 49)=W2;generalize w₁.heap.size=b2;intro hE2 hF2 hO2 hL2 hN2 hH2;replace hE2:=hE1.trans hE2;replace hN2 :=λx hx=>hN2 x (hE1.own x hx)
    clear hR w₁;try walk_nrm
    refine Vh (Be _ _ _) b2 hO2 rfl (by rfl) ?_ ?_
    ·intro w₁ hR e he
     have hh:=(hR.mine _ hO2).trans hH2;have y0:w₁.cell? ⟨b2,0,none⟩=some (.int .i64 0):=cell_of_heap hh 0;have z0:=frozen_of_heap hh 0;have y1:w₁.cell? ⟨b2,1,none⟩=some (.slice none 0 0):=cell_of_heap hh 1;have z1:=frozen_of_heap hh 1;clear hh;simp[go_sem,events_store_slice,storedEv, *] at he
     (first | (subst he;exact⟨_,_,rfl, .inl hO2⟩) | (rcases he with rfl | rfl<;>exact⟨_,_,rfl, .inl hO2⟩) | (rcases he with rfl | rfl | rfl | rfl<;>exact⟨_,_,rfl, .inl hO2⟩) | (rcases he with rfl | rfl | rfl | rfl | rfl | rfl<;>exact⟨_,_,rfl, .inl hO2⟩))
    intro w₁ hR K hK;have hh:=(hR.mine _ hO2).trans hH2;have y0:w₁.cell? ⟨b2,0,none⟩=some (.int .i64 0):=cell_of_heap hh 0;have z0:=frozen_of_heap hh 0;have y1:w₁.cell? ⟨b2,1,none⟩=some (.slice none 0 0):=cell_of_heap hh 1;have z1:=frozen_of_heap hh 1;clear hh;go_simp;try (unfold stored;go_simp)
    have hh:=(hR.mine _ hO2).trans hH2;have hp:Put b2 w₁ ((w₁.setCell ⟨b2,0,none⟩ (.int .i64 eop)).setCell ⟨b2,1,none⟩ (.slice qe eds.length se)):=(((Put.refl _ _).set 0 (.int .i64 eop)).set 1 (.slice qe eds.length se))
    have hh2:((w₁.setCell ⟨b2,0,none⟩ (.int .i64 eop)).setCell ⟨b2,1,none⟩ (.slice qe eds.length se)).heap[b2]?=some (.cells #[.int .i64 eop, .slice qe eds.length se] 49):=(heap_setCell (heap_setCell hh 0 (.int .i64 eop)) 1 (.slice qe eds.length se))
    refine hK _ _ hp ?_;clear hK K hh y0 z0 y1 z1 hH2;replace hE2:=(hE2.rely hR).put hp hL2 hN2;replace hF2:=(hF2.rely hR).put hp hL2
    revert hE2 hF2 hh2
    clear hp hR;generalize ((w₁.setCell ⟨b2,0,none⟩ (.int .i64 eop)).setCell ⟨b2,1,none⟩ (.slice qe eds.length se))=W2;intro hh2 hE2 hF2;have HC2:Hid (∀W,Keep Low O2 W2 W->∀ii,W.cell? ⟨b2,ii,none⟩=(#[.int .i64 eop, .slice qe eds.length se]:Array Value)[ii]?):=λW hW ii=>(hW.ext.cell (.inl hO2) ii).trans (cell_of_heap hh2 ii)
    clear hh2;try walk_nrm
    have hwj:IntKind.i64.wrap ((j:Int)+1)=((j+1:Nat):Int):=by rw[IntKind.wrap_i64];omega
    clear hE1 hF1 hb HCN;have _Y:=cs2 HC2;refine kW ?_;clear _Y;exact⟨cs.length - (j+1),by omega,j+1,_,_,_,_,_,_,_,_,by omega,rfl,rfl,rfl,hE2,hF2⟩
   ·have hge:¬(j:Int)<(cs.length:Int):=by omega
    have hd:cs.drop j=[]:=List.drop_eq_nil_of_le (by omega);rw[hd];refine kW ?_;exact⟨_,_,_,_,_,_,_,_,_,rfl,by first | rfl | trivial,hE1,hF1⟩
  rintro _ _ O1 W1 ⟨u5,u12,u13,u14,u15,u16,u17,u18,u11,rfl,rfl,hE1b,hF1b⟩;dsimp only;replace hE1:=hE1.trans hE1b;clear hF1;have hF1:=hF1b;have HB2:=hid (λO' w' W hE hK ii=>HB1.out O' w' W (hE1b.trans hE) hK ii);replace hO1:=hE1b.own _ hO1;clear HB1 hE1b hF1b hcc hlc;replace HB1:=HB2;clear HB2;clear O w;obtain⟨O,eO⟩:∃O,O=O1:=⟨_,rfl⟩
  subst eO;obtain⟨w,ew⟩:∃w,w=W1:=⟨_,rfl⟩
  subst ew;have hEb:=Ext.refl Low O w;have _Y:=cs6 (λW h=>HB1.out O w W hEb h);refine kW ?_;clear _Y;clear hEb;rw[HR0.out];clear HR0
  refine V4 (Be _ _ _) (λn a' x' O' w'=>∃(j:Nat) (v6 v7 v23 v24 v25 v26 v27 v28 v29 v30 v31 v32 v33 v34 v35 v36 v37 v38 v39 v40 v41:Value),j<=ks.length/\n=ks.length - j/\a'=⟨#[.chan (some c), .agg #[.int .i64 nk, .int .i64 no, .slice pa nd.length ra, .slice pk nl r1, .slice pc cs.length rc, .slice pd ks.length rd],undef, .pointer (some ⟨b1,0,none⟩),undef,u5,v6,v7, .pointer (some ⟨b1,4,none⟩), .slice pc cs.length rc, .int .i64 cs.length,u11,u12,u13,u14,u15,u16,u17,u18, .pointer (some ⟨b1,5,none⟩), .slice pd ks.length rd, .int .i64 ks.length, .int .i64 j,v23,v24,v25,v26,v27,v28,v29,v30,v31,v32,v33,v34,v35,v36,v37,v38,v39,v40,v41],[]⟩/\
   x'=((kvs.drop j).flatten).map MI.val++rest/\Ext Low O O' w w'/\Held Low w₀ O' w') ks.length ⟨0,undef,undef,undef,undef,undef,undef,undef,undef,undef,undef,undef,undef,undef,undef,undef,undef,undef,undef,undef,undef,undef,Nat.zero_le _,rfl,rfl,by rw[List.drop_zero],Ext.refl _ _ _,hF1⟩ ?_
  have hEo:=hE1;clear hE1 hF1;rintro n _ _ O1 W1 ⟨j,v6,v7,v23,v24,v25,v26,v27,v28,v29,v30,v31,v32,v33,v34,v35,v36,v37,v38,v39,v40,v41,hj,rfl,rfl,rfl,hE1,hF1⟩;dsimp only;by_cases hlt:j<ks.length
  ·have hlt':(j:Int)<(ks.length:Int):=by omega
   obtain⟨b,o,rfl,hb,hc⟩:=hkc j hlt;have hm:=A4k hlt;have hkj:=hko _ hm;obtain⟨hBj,hTj⟩:=HP.out _ hm;rw[HGV.out j hlt,List.flatten_cons,A4r,A4r,A4r,Avd,A41,A41,A41]
   revert hc hkj hBj hTj
   generalize ks[j]=x;intro hc hkj hBj hTj;generalize (p x).1=ms1 at*;generalize (p x).2=ms2 at*;obtain⟨qa,sa,hva⟩:=hkj.net.devs;obtain⟨qk,sk,hvk,_⟩:=hkj.net.kids;obtain⟨qc,sc,hvc,_⟩:=hkj.coils;obtain⟨qd,sd,hvd,_⟩:=hkj.kids;clear hkj;obtain⟨⟨xk,xo,xd,xa,xkv,xs⟩,ecv,ecs,ekv,eks⟩:=x;dsimp only at hva hvk hvc hvd;subst hva hvk hvc hvd;have HCN:=hid (λW (hW:Keep Low O1 W1 W)=>hc.held (hF1.rely hW) hb);have HBJ:Hid (∀vs O w,Held Low w₀ O w->Jv Tryz.prog (okS Tryz.prog Low c) 94 #[.agg #[.int .i64 xk, .int .i64 xo, .slice qa xd.length sa, .slice qk xs.length sk]] vs O w λv x' O' w'=>x'=vs/\(∀rest,Jv Tryz.prog (okS Tryz.prog Low c) 92 #[.chan (some c), .int .i64 2,v] (ms1.map MI.val++rest) O' w' λ_ x'' O'' w''=>x''=rest/\Ext Low O' O'' w' w''/\Held Low w₀ O'' w'')/\Ext Low O O' w w'/\Held Low w₀ O' w'):=hBj;have HTJ:Hid (∀rest O w,Held Low w₀ O w->Jv Tryz.prog (okS Tryz.prog Low c) 68 #[.chan (some c), .agg #[.int .i64 xk, .int .i64 xo, .slice qa xd.length sa, .slice qk xs.length sk, .slice qc ecs.length sc, .slice qd eks.length sd]] (ms2.map MI.val++rest) O w λ_ x' O' w'=>x'=rest/\Ext Low O O' w w'/\Held Low w₀ O' w'):=hTj;clear hc hm hkc hko HP hBj hTj;have hEb:=hE1;have _Y:=HCN.out;simp only[Aah,U9] at _Y;refine kW ?_;clear _Y;refine J7 (Be _ _ _) rfl (by rfl) ?_ ?_
   ·intro _;simp[go_sem];done
   intro w₁ hR K hK;go_simp;refine hK _ _ ?_;clear hK K;obtain⟨O2,eO,hE2,hF2,hO2,hL2,hN2,hH2⟩:=Ajw hF1 hR #[.int .i64 0, .int .i64 0, .slice none 0 0, .slice none 0 0, .slice none 0 0, .slice none 0 0] 55;rw[<-eO];clear eO
   revert hE2 hF2 hO2 hL2 hN2 hH2
   generalize w₁.alloc (.cells #[.int .i64 0, .int .i64 0, .slice none 0 0, .slice none 0 0, .slice none 0 0, .slice none 0 0] 55)=W2;generalize w₁.heap.size=b2;intro hE2 hF2 hO2 hL2 hN2 hH2;replace hE2:=hE1.trans hE2;replace hN2 :=λx hx=>hN2 x (hE1.own x hx)
   clear hR w₁;try walk_nrm
   (refine Nc (Be _ _ _) rfl (by rfl) ?_ ?_;(focus (intro _;first | (simp[go_sem];done) | (simp[go_sem, *];done)));intro _ K hK;go_simp;refine hK _ ?_;clear hK K;try walk_nrm)
   refine Vh (Be _ _ _) b2 hO2 rfl (by rfl) ?_ ?_
   ·intro w₁ hR e he
    have hh:=(hR.mine _ hO2).trans hH2;have y0:w₁.cell? ⟨b2,0,none⟩=some (.int .i64 0):=cell_of_heap hh 0;have z0:=frozen_of_heap hh 0;have y1:w₁.cell? ⟨b2,1,none⟩=some (.int .i64 0):=cell_of_heap hh 1;have z1:=frozen_of_heap hh 1;have y2:w₁.cell? ⟨b2,2,none⟩=some (.slice none 0 0):=cell_of_heap hh 2;have z2:=frozen_of_heap hh 2;have y3:w₁.cell? ⟨b2,3,none⟩=some (.slice none 0 0):=cell_of_heap hh 3;have z3:=frozen_of_heap hh 3;have y4:w₁.cell? ⟨b2,4,none⟩=some (.slice none 0 0):=cell_of_heap hh 4;have z4:=frozen_of_heap hh 4;have y5:w₁.cell? ⟨b2,5,none⟩=some (.slice none 0 0):=cell_of_heap hh 5;have z5:=frozen_of_heap hh 5;clear hh;simp[go_sem,events_store_slice,storedEv, *] at he
    (first | (subst he;exact⟨_,_,rfl, .inl hO2⟩) | (rcases he with rfl | rfl<;>exact⟨_,_,rfl, .inl hO2⟩) | (rcases he with rfl | rfl | rfl | rfl<;>exact⟨_,_,rfl, .inl hO2⟩) | (rcases he with rfl | rfl | rfl | rfl | rfl | rfl<;>exact⟨_,_,rfl, .inl hO2⟩))
   intro w₁ hR K hK;have hh:=(hR.mine _ hO2).trans hH2;have y0:w₁.cell? ⟨b2,0,none⟩=some (.int .i64 0):=cell_of_heap hh 0;have z0:=frozen_of_heap hh 0;have y1:w₁.cell? ⟨b2,1,none⟩=some (.int .i64 0):=cell_of_heap hh 1;have z1:=frozen_of_heap hh 1;have y2:w₁.cell? ⟨b2,2,none⟩=some (.slice none 0 0):=cell_of_heap hh 2;have z2:=frozen_of_heap hh 2;have y3:w₁.cell? ⟨b2,3,none⟩=some (.slice none 0 0):=cell_of_heap hh 3;have z3:=frozen_of_heap hh 3;have y4:w₁.cell? ⟨b2,4,none⟩=some (.slice none 0 0):=cell_of_heap hh 4;have z4:=frozen_of_heap hh 4;have y5:w₁.cell? ⟨b2,5,none⟩=some (.slice none 0 0):=cell_of_heap hh 5;have z5:=frozen_of_heap hh 5;clear hh;go_simp;try (unfold stored;go_simp)
   have hh:=(hR.mine _ hO2).trans hH2;have hp:Put b2 w₁ ((((((w₁.setCell ⟨b2,0,none⟩ (.int .i64 xk)).setCell ⟨b2,1,none⟩ (.int .i64 xo)).setCell ⟨b2,2,none⟩ (.slice qa xd.length sa)).setCell ⟨b2,3,none⟩ (.slice qk xs.length sk)).setCell ⟨b2,4,none⟩ (.slice qc ecs.length sc)).setCell ⟨b2,5,none⟩ (.slice qd eks.length sd)):=(((((((Put.refl _ _).set 0 (.int .i64 xk)).set 1 (.int .i64 xo)).set 2 (.slice qa xd.length sa)).set 3 (.slice qk xs.length sk)).set 4 (.slice qc ecs.length sc)).set 5 (.slice qd eks.length sd))
   have hh2:((((((w₁.setCell ⟨b2,0,none⟩ (.int .i64 xk)).setCell ⟨b2,1,none⟩ (.int .i64 xo)).setCell ⟨b2,2,none⟩ (.slice qa xd.length sa)).setCell ⟨b2,3,none⟩ (.slice qk xs.length sk)).setCell ⟨b2,4,none⟩ (.slice qc ecs.length sc)).setCell ⟨b2,5,none⟩ (.slice qd eks.length sd)).heap[b2]?=some (.cells #[.int .i64 xk, .int .i64 xo, .slice qa xd.length sa, .slice qk xs.length sk, .slice qc ecs.length sc, .slice qd eks.length sd] 55):=(heap_setCell (heap_setCell (heap_setCell (heap_setCell (heap_setCell (heap_setCell hh 0 (.int .i64 xk)) 1 (.int .i64 xo)) 2 (.slice qa xd.length sa)) 3 (.slice qk xs.length sk)) 4 (.slice qc ecs.length sc)) 5 (.slice qd eks.length sd))
   refine hK _ _ hp ?_;clear hK K hh y0 z0 y1 z1 y2 z2 y3 z3 y4 z4 y5 z5 hH2;replace hE2:=(hE2.rely hR).put hp hL2 hN2;replace hF2:=(hF2.rely hR).put hp hL2
   revert hE2 hF2 hh2
   clear hp hR;generalize ((((((w₁.setCell ⟨b2,0,none⟩ (.int .i64 xk)).setCell ⟨b2,1,none⟩ (.int .i64 xo)).setCell ⟨b2,2,none⟩ (.slice qa xd.length sa)).setCell ⟨b2,3,none⟩ (.slice qk xs.length sk)).setCell ⟨b2,4,none⟩ (.slice qc ecs.length sc)).setCell ⟨b2,5,none⟩ (.slice qd eks.length sd))=W2;intro hh2 hE2 hF2;have HC2:Hid (∀W,Keep Low O2 W2 W->∀ii,W.cell? ⟨b2,ii,none⟩=(#[.int .i64 xk, .int .i64 xo, .slice qa xd.length sa, .slice qk xs.length sk, .slice qc ecs.length sc, .slice qd eks.length sd]:Array Value)[ii]?):=λW hW ii=>(hW.ext.cell (.inl hO2) ii).trans (cell_of_heap hh2 ii)
   clear hh2;try walk_nrm
   have hwj:IntKind.i64.wrap ((j:Int)+1)=((j+1:Nat):Int):=by rw[IntKind.wrap_i64];omega
   clear hEb hE1 hF1 hb HCN;have hEb:=hE2;have _Y:=cs6 (λW h=>HB1.out O2 W2 W hEb h);have _B1:=hE2.own _ hO1;refine kW ?_;clear _Y _B1
   (refine F8 (Be _ _ _) rfl (by rfl) rfl (A25 ks.length j hlt hlk _ _ _) (by simp[Act.eval]) ?_;rintro _ _ O3 W3 ⟨rfl,rfl,rfl⟩;try walk_nrm)
   have _Y:=cs6 HC2;refine kW ?_;clear _Y
   (refine F8 (Be _ _ _) rfl (by rfl) rfl (HBJ.out _ _ _ hF2) (by simp[Act.eval]) ?_;rintro v3 _ O3 W3 ⟨rfl,hTk,hE3,hF3⟩;try walk_nrm)
   replace HC2:=Af9 HC2 hE3 hO2;replace hO2:=hE3.own _ hO2
   (refine F8 (Be _ _ _) rfl (by rfl) rfl (hTk _) (by simp[Act.eval]) ?_;rintro _ _ O4 W4 ⟨rfl,hE4,hF4⟩;try walk_nrm)
   clear hTk;replace HC2:=Af9 HC2 hE4 hO2;replace hO2:=hE4.own _ hO2;have _Y:=cs6 HC2;refine kW ?_;clear _Y
   (refine F8 (Be _ _ _) rfl (by rfl) rfl (HTJ.out _ _ _ hF4) (by simp[Act.eval]) ?_;rintro _ _ O5 W5 ⟨rfl,hE5,hF5⟩;try walk_nrm)
   refine kW ?_;exact⟨ks.length - (j+1),by omega,j+1,_,_,_,_,_,_,_,_,_,_,_,_,_,_,_,_,_,_,_,_,_,by omega,rfl,rfl,rfl,((hE2.trans hE3).trans hE4).trans hE5,hF5⟩
  ·have hge:¬(j:Int)<(ks.length:Int):=by omega
   have hd:kvs.drop j=[]:=List.drop_eq_nil_of_le (by rw[HLV.out];omega);rw[hd];refine kW ?_;exact⟨rfl,_,hres _,rfl,hEo.trans hE1,hF1⟩
end Go.Proofs.YtbfljjcnbbmoaaaGreatDoor
