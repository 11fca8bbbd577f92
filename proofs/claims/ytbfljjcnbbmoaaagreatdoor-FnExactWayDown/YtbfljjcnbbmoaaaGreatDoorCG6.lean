import Derived.Test.YtbfljjcnbbmoaaaGreatDoorCI1
import Derived.Test.YtbfljjcnbbmoaaaGreatDoorS30
namespace Go.Proofs.YtbfljjcnbbmoaaaGreatDoor
open Stil
open Go.RowKit Go.Sort Go.BigFrame Go.Conc Go.Co
variable {Low c : Nat}
def bl (vs:List Value):List Nat:=vs.filterMap Value.ownBlock
theorem Akm (a b:List Value):bl (a++b)=bl a++bl b:=List.filterMap_append
theorem Agi {a b:List Value}(h:a.Sublist b):(bl a).Sublist (bl b):=h.filterMap _
def MIs (w₀:World)(S:List Value)(ms:List MI)(is:List Stil.Rl):Prop:=ms.map MI.inst=is/\(∀x∈ms,EOk w₀ 0 x.e)/\(bl (ms.map (·.e.av))).Sublist (bl S)
section
variable {w₀ : World}{S S' : List Value}{ms ms' : List MI}{is is' : List Stil.Rl}
theorem MIs.append (h:MIs w₀ S ms is)(h':MIs w₀ S' ms' is'):MIs w₀ (S++S') (ms++ms') (is++is'):=by
 refine⟨by rw[A4m,h.1,h'.1],λx hx=>(List.mem_append.1 hx).elim (h.2.1 x) (h'.2.1 x),?_⟩;rw[A4m,Akm,Akm];exact h.2.2.append h'.2.2
theorem MIs.sub (h:MIs w₀ S ms is)(hs:(bl S).Sublist (bl S')):MIs w₀ S' ms is:=⟨h.1,h.2.1,h.2.2.trans hs⟩
theorem MIs.nil:MIs w₀ [] [] []:=⟨rfl,spz,List.Sublist.refl _⟩
theorem MIs.zero (k:Int):MIs w₀ [] [mi0 k] [Nv k]:=⟨rfl,λx hx=>by rw[List.mem_singleton.1 hx];exact World.ownsRow_nil _ _ _ _,List.Sublist.refl _⟩
theorem MIs.snoc (h:MIs w₀ S ms is)(k:Int):MIs w₀ S (ms++[mi0 k]) (is++[Nv k]):=(h.append (MIs.zero k)).sub (by rw[List.append_nil];exact List.Sublist.refl _)
theorem MIs.one (k:Int)(e:Df)(h:EOk w₀ 0 e):MIs w₀ [e.av] [⟨k,e⟩] [⟨k,e.elem⟩]:=⟨rfl,λx hx=>by rw[List.mem_singleton.1 hx];exact h,List.Sublist.refl _⟩
end
variable {k:Int}{w₀:World}
def Ady:Stil.Net->Prop
 | ⟨k,_,kids⟩=>(1<=k/\k<=4)/\(k≠1->kids≠[])/\∀p∈kids.map Ady,p
theorem An5 (k:Int)(e:Stil.Elem)(kids:List Stil.Net):Ady ⟨k,e,kids⟩↔(1<=k/\k<=4)/\(k≠1->kids≠[])/\∀x∈kids,Ady x:=by rw[Ady,Stil.all_map]
theorem A0f {t:Ah}{vs:List MI}(ht:NOk Low w₀ t)(h:t.kind≠1->MIs w₀ t.vals vs (D7 t.net)):MIs w₀ t.vals (Acp k t vs) (Ec k t.net):=by
 have hk:t.net.kind=t.kind:=by rw[Ah.net_eq]
 unfold Acp;by_cases h1:t.kind=1
 ·rw[if_pos h1,V8 _ _ (hk.trans h1),Ah.net_eq]
  refine(MIs.one (w₀:=w₀) k ⟨t.op,t.ds,t.av⟩ ((H5 _ _ _).1 ht.1).1).sub ?_;rw[Ah.vals_eq];exact Agi (List.Sublist.cons_cons _ (List.nil_sublist _))
 ·rw[if_neg h1,Td _ _ (λe=>h1 (hk.symm.trans e))]
  exact(h h1).snoc _
theorem Agn {f:Ah->List MI}:∀{ts:List Ah},(∀t∈ts,NOk Low w₀ t)->(∀t∈ts,t.kind≠1->MIs w₀ t.vals (f t) (D7 t.net))->MIs w₀ (Ew ts) (ts.map λt=>Acp k t (f t)).flatten ((ts.map Ah.net).map (Ec k)).flatten
 | [],_,_=>MIs.nil
 | t::ts,h1,h2=>by
  rw[A4q,List.flatten_cons,A4q,A4q,List.flatten_cons];exact(A0f (h1 t spz) (h2 t spz)).append (Agn (λx hx=>h1 x (by simp[hx])) λx hx=>h2 x (by simp[hx]))
theorem Abc (ts:List Ah)(g:Ah->List MI):((ts.map g).flatten).map MI.val=(ts.map λt=>(g t).map MI.val).flatten:=by rw[List.map_flatten,List.map_map];rfl
theorem Avy {w:World}{O:Nat->Prop}(h:Held Low w₀ O w)(d:Nat):Held Low w₀ O {w with drawn:=d}:=⟨h.still,h.low,h.up,h.os,h.out⟩
theorem Ayw {w w':World}{O O':Nat->Prop}(h:Ext Low O O' w w')(d:Nat):Ext Low O O' w {w' with drawn:=d}:=⟨h.own,h.still,h.mine,h.size⟩
set_option maxRecDepth 100000 in
set_option maxHeartbeats 4000000 in
theorem Aww (w₀:World)(n:Ah):Ady n.net->Aj n.net<=1000000->NOk Low w₀ n->∃vs,MIs w₀ n.vals vs (D7 n.net)/\Ael Low c w₀ n vs:=by
 induction n using Ja with
 | h k op ds av kv kids ih=>
  intro hgo hs hok;have bQ:=Ah.vals_eq ⟨k,op,ds,av,kv,kids⟩;rw[Ah.net_eq] at hgo hs ⊢;dsimp only at hgo hs bQ ⊢;obtain⟨⟨hk1,hk4⟩,hne,hgk⟩:=(An5 _ _ _).1 hgo;rw[D8] at hs;simp only at hs;have hks:∀x∈kids,Aj x.net<=1000000:=λx hx=>by have:Aj x.net<=Stil.sizes (kids.map Ah.net):=D9 Aj _ x.net (List.mem_map_of_mem hx);omega
  have hkl:kids.length<=999999:=by have:=Ig (kids.map Ah.net);rw[A4o] at this;omega
  replace hgk:∀x∈kids,Ady x.net:=λx hx=>hgk _ (List.mem_map_of_mem hx)
  obtain⟨p0,r0,hv0⟩:=hok.devs;obtain⟨p1,r1,hv1,hq1,hko,hkc⟩:=hok.kids;have hav:=((H5 _ _ _).1 hok.1).1;dsimp only at hv0 hv1 hq1 hav hko hkc;subst hv0 hv1;have hres:=resultsC_none (P:=Tryz.prog) (fn:=Tryz.f67) rfl;by_cases h1:k=1
  ·subst h1
   refine⟨[⟨1,⟨op,ds, .slice p0 ds.length r0⟩⟩],?_,λrest O w hF=>?_⟩
   ·rw[Uw,bQ]
    exact(MIs.one (w₀:=w₀) 1 ⟨op,ds, .slice p0 ds.length r0⟩ hav).sub (Agi (List.Sublist.cons_cons _ (List.nil_sublist _)))
   clear bQ hks hkl hgk hgo hs hok ih hko hkc hav hne hq1;rw[A4q,List.map_nil,MI.val,A4y,A4z];dsimp only;refine He Tryz.func67 rrz rfl ?_;simp only[Tryz.ntmps67,A4b,A39,A4a,Nat.reduceAdd,Nat.reduceSub,A41,A42,A47,A44,A4z,A4y];refine Jl (Bg _ _ _) ?_
   (refine Fe (Bg _ _ _) ?_;simp only[A4b,A39,A4a,A4h,List.range,List.range.loop])
   refine kB hF #[.int .i64 1, .int .i64 op, .slice p0 ds.length r0, .slice p1 kids.length r1] 52 λO1 W1 b1 hE1 hF1 aZ hL1 bH=>?_
   try walk_nrm
   have _Y:=cs4 bH;refine kW ?_;clear _Y;exact⟨rfl,_,hres _,rfl,hE1,hF1⟩
  obtain⟨t,rs,rfl⟩:=List.exists_cons_of_ne_nil (λe=>hne h1 (by rw[e];rfl):kids≠[]);obtain⟨b,o,rfl,hbl,hc0⟩:=hkc 0 spz;rw[List.getElem_cons_zero,Nat.zero_mul,Nat.add_zero] at hc0;have hcap:rs.length+1<=r1:=by have:=hq1.1;simp only[A39] at this;exact this
  have hrc:∀i (h:i<rs.length),b<Low/\Vu w₀ b (o+4+i*4) rs[i]:=λi hi=>by
   obtain⟨b',o',e',hb',hc'⟩:=hkc (i+1) (by simp;omega);cases e';rw[List.getElem_cons_succ] at hc';exact⟨hb',by rw[show o+4+i*4=o+(i+1)*4 by omega];exact hc'⟩
  have hall:=λy hy=>ih y hy (hgk _ hy) (hks _ hy) (hko y hy)
  obtain⟨vt,hvt,hBt⟩:=hall t spz;have hkb:(k==1)=false:=by rw[A5a];exact h1
  have yX:=hko t spz;have hrs:rs.length<=999999:=by simp only[A39] at hkl;omega
  clear ih hks hkc hgk hkl hgo hne hs hq1;obtain⟨pa,ra,hva⟩:=yX.devs;obtain⟨pk,rk,hvk,_⟩:=yX.kids;have qh:Hid ((k=4->MIs w₀ (Ah.vals ⟨k,op,ds, .slice p0 ds.length r0, .slice (some ⟨b,o,none⟩) (t::rs).length r1,t::rs⟩) (vt++[mi0 6]) (D7 t.net++[Nv 6]))/\∀vs' is',MIs w₀ (Ew rs) vs' is'->MIs w₀ (Ah.vals ⟨k,op,ds, .slice p0 ds.length r0, .slice (some ⟨b,o,none⟩) (t::rs).length r1,t::rs⟩) (vt++vs') (D7 t.net++is')):=by
   have e:Ew (t::rs)=t.vals++Ew rs:=rfl;have hs1:(bl t.vals).Sublist (bl (Ah.vals ⟨k,op,ds, .slice p0 ds.length r0, .slice (some ⟨b,o,none⟩) (t::rs).length r1,t::rs⟩)):=by
    rw[bQ,e];exact Agi (((List.sublist_append_left _ _).cons _).cons _)
   refine⟨λ_=>(hvt.snoc 6).sub hs1,λvs' is' h'=>(hvt.append h').sub ?_⟩;rw[bQ,e];exact Agi (((List.Sublist.refl _).cons _).cons _)
  clear bQ hvt hok;have qg:Hid (∀k',k'≠1->k'≠4->D7 ⟨k',⟨op,ds⟩,(t::rs).map Ah.net⟩=D7 t.net++((rs.map Ah.net).map (Ec k')).flatten):=λk' h1 h4=>by rw[A4q,Rz _ _ _ h1 h4]
  have xM:Hid (D7 ⟨4,⟨op,ds⟩,(t::rs).map Ah.net⟩=D7 t.net++[Nv 6]):=by show _=_;rw[A4q,Ux]
  obtain⟨t1,tp,td,ta,tk,ts⟩:=t;dsimp only at hva hvk;subst hva hvk;by_cases h4:k=4
  ·subst h4
   refine⟨vt++[mi0 6],by rw[xM.out];exact qh.1 rfl,λrest O w hF=>?_⟩;clear qh xM qg;rw[A4m,A4q,List.map_nil,A4w,A4y,A4z];dsimp only;simp only[A39];refine He Tryz.func67 rrz rfl ?_;simp only[Tryz.ntmps67,A4b,A39,A4a,Nat.reduceAdd,Nat.reduceSub,A41,A42,A47,A44,A4z,A4y];refine Jl (Bg _ _ _) ?_
   (refine Fe (Bg _ _ _) ?_;simp only[A4b,A39,A4a,A4h,List.range,List.range.loop])
   refine kB hF #[.int .i64 4, .int .i64 op, .slice p0 ds.length r0, .slice (some ⟨b,o,none⟩) (rs.length+1) r1] 52 λO1 W1 b1 hE1 hF1 aZ hL1 bH=>?_
   try walk_nrm
   have jq:=hid (λW (hW:Keep Low O1 W1 W)=>hc0.held (hF1.rely hW) hbl);have _Y:=λW h=>And.intro (cs4 bH W h) (jq W h)
   simp only[Vu] at _Y;refine kW ?_;clear _Y
   (refine Gl (Bg _ _ _) rfl rrz rfl (hBt _ _ _ hF1) (by simp[Act.eval]) ?_;rintro _ _ O2 W2 ⟨rfl,hE2,hF2⟩;try walk_nrm)
   replace bH:=Ag1 bH hE2 aZ;replace aZ:=hE2.own _ aZ;simp only[MI.val,mi0];have _Y:=cs4 bH;refine kW ?_;clear _Y;exact⟨rfl,_,hres _,rfl,hE1.trans hE2,hF2⟩
  have eX:k=2\/k=3:=omz
  have zI:(k==4)=false:=by rw[A5a];exact h4
  obtain⟨f,hf⟩:∃f:Ah->List MI,∀y∈rs,MIs w₀ y.vals (f y) (D7 y.net)/\Ael Low c w₀ y (f y):=by
   classical
   refine⟨λy=>if h:∃vs,MIs w₀ y.vals vs (D7 y.net)/\Ael Low c w₀ y vs then h.choose else [],λy hy=>?_⟩;have h:=hall y (by simp[hy]);simp only[h,dite_true];exact h.choose_spec
  have hkr:∀y∈rs,NOk Low w₀ y:=λy hy=>hko y (by simp[hy])
  refine⟨vt++(rs.map λy=>Acp k y (f y)).flatten,?_,λrest O w hF=>?_⟩
  ·rw[qg.out k h1 h4]
   exact qh.2 _ _ (Agn hkr λy hy _=>(hf y hy).1)
  clear qh xM qg;rw[A4m,Abc,A4w];dsimp only;simp only[A39]
  have HT:=hid (λO W hW=>by
   have:=Az4 (c:=c) w₀ k eX rs f hkr (λy hy _=>(hf y hy).2) omz rest O W hW (if r1=1 then some ⟨b,o,none⟩ else some ⟨b,o+4,none⟩) (r1 - 1) (λi hi=>by
    obtain⟨hb',hc'⟩:=hrc i hi;have hr1:¬r1=1:=omz
    rw[if_neg hr1]
    exact⟨b,o+4,rfl, .inr hb',hc'.held hW hb'⟩)
   exact this)
  clear hf hall hrc hkr hko hav;generalize (rs.map λt=>(Acp k t (f t)).map MI.val).flatten=tl at*;generalize rs.length=m at*;refine He Tryz.func67 rrz rfl ?_;simp only[Tryz.ntmps67,A4b,A39,A4a,Nat.reduceAdd,Nat.reduceSub,A41,A42,A47,A44,A4z,A4y];refine Jl (Bg _ _ _) ?_
  (refine Fe (Bg _ _ _) ?_;simp only[A4b,A39,A4a,A4h,List.range,List.range.loop])
  refine kB hF #[.int .i64 k, .int .i64 op, .slice p0 ds.length r0, .slice (some ⟨b,o,none⟩) (m+1) r1] 52 λO1 W1 b1 hE1 hF1 aZ hL1 bH=>?_
  try walk_nrm
  have jq:=hid (λW (hW:Keep Low O1 W1 W)=>hc0.held (hF1.rely hW) hbl);have _Y:=λW h=>And.intro (cs4 bH W h) (jq W h)
  simp only[Vu] at _Y;refine kW ?_;clear _Y
  (refine Gl (Bg _ _ _) rfl rrz rfl (hBt _ _ _ hF1) (by simp[Act.eval]) ?_;rintro _ _ O2 W2 ⟨rfl,hE2,hF2⟩;try walk_nrm)
  replace bH:=Ag1 bH hE2 aZ;replace aZ:=hE2.own _ aZ;have _Y:=cs4 bH;refine kW ?_;clear _Y;have h1m:(1:Int)<=(m:Int)+1:=omz
  have hev:∀(W:World) (es:Array Event),(Instr.sliceAt 50 (.slice (some ⟨b,o,none⟩) (m+1) r1) (some (.int .i64 1)) none none).events Tryz.prog W es=es:=λW es=>Ahb _ Tryz.underlying50 _ _ _ h1m
  refine Acl (Bg _ _ _) (λW=>W.cell? ⟨b1,0,none⟩=some (.int .i64 k)/\W.cell? ⟨b1,3,none⟩=some (.slice (some ⟨b,o,none⟩) (m+1) r1)) 6 krz rfl λw₁ hR=>?_
  have hSR:∀u v:World,(u.cell? ⟨b1,0,none⟩=some (.int .i64 k)/\u.cell? ⟨b1,3,none⟩=some (.slice (some ⟨b,o,none⟩) (m+1) r1))->Keep Low O2 u v->(v.cell? ⟨b1,0,none⟩=some (.int .i64 k)/\v.cell? ⟨b1,3,none⟩=some (.slice (some ⟨b,o,none⟩) (m+1) r1)):=λu v hu hk=>⟨(hk.ext.cell (.inl aZ) _).trans hu.1,(hk.ext.cell (.inl aZ) _).trans hu.2⟩
  have hSw:({w₁ with drawn:=w₁.drawn+1}:World).cell? ⟨b1,0,none⟩=some (.int .i64 k)/\({w₁ with drawn:=w₁.drawn+1}:World).cell? ⟨b1,3,none⟩=some (.slice (some ⟨b,o,none⟩) (m+1) r1):=⟨bH _ hR 0,bH _ hR 3⟩
  simp only[A4b,A39,A4a,Nat.reduceAdd,A4h]
  (refine Ui (Bg _ _ _) hSR (i:=0) (v:=.chan (some c)) rfl (by decide+kernel) (by decide+kernel) (by decide+kernel) (by decide+kernel) (by decide+kernel) (.inl ⟨rrz,λW1 hS1=>⟨run_eq_of ?_,⟨λ_ _ _=>rfl,A4d _,rfl,rfl,rfl,?_⟩⟩⟩) hSw ?_;(focus (intro K hK;obtain⟨y0,y3⟩:=hS1;go_simp;exact hK));(focus (rw[Iq];intro e he;replace he:=mem_listed he;obtain⟨y0,y3⟩:=hS1;simp[go_sem, *] at he;try (refine Or.inl ?_;(first | (subst he;exact⟨_,_,rfl, .inl aZ⟩) | (rcases he with rfl | rfl<;>exact⟨_,_,rfl, .inl aZ⟩) | (rcases he with rfl | rfl | rfl | rfl<;>exact⟨_,_,rfl, .inl aZ⟩) | (rcases he with rfl | rfl | rfl | rfl | rfl | rfl<;>exact⟨_,_,rfl, .inl aZ⟩)))));try walk_nrm)
  (refine Ui (Bg _ _ _) hSR (i:=1) (v:=.pointer (some ⟨b1,0,none⟩)) rfl (by decide+kernel) (by decide+kernel) (by decide+kernel) (by decide+kernel) (by decide+kernel) (.inl ⟨rrz,λW1 hS1=>⟨run_eq_of ?_,⟨λ_ _ _=>rfl,A4d _,rfl,rfl,rfl,?_⟩⟩⟩) hSw ?_;(focus (intro K hK;obtain⟨y0,y3⟩:=hS1;go_simp;exact hK));(focus (rw[Iq];intro e he;replace he:=mem_listed he;obtain⟨y0,y3⟩:=hS1;simp[go_sem, *] at he;try (refine Or.inl ?_;(first | (subst he;exact⟨_,_,rfl, .inl aZ⟩) | (rcases he with rfl | rfl<;>exact⟨_,_,rfl, .inl aZ⟩) | (rcases he with rfl | rfl | rfl | rfl<;>exact⟨_,_,rfl, .inl aZ⟩) | (rcases he with rfl | rfl | rfl | rfl | rfl | rfl<;>exact⟨_,_,rfl, .inl aZ⟩)))));try walk_nrm)
  (refine Ui (Bg _ _ _) hSR (i:=2) (v:=.int .i64 k) rfl (by decide+kernel) (by decide+kernel) (by decide+kernel) (by decide+kernel) (by decide+kernel) (.inl ⟨rrz,λW1 hS1=>⟨run_eq_of ?_,⟨λ_ _ _=>rfl,A4d _,rfl,rfl,rfl,?_⟩⟩⟩) hSw ?_;(focus (intro K hK;obtain⟨y0,y3⟩:=hS1;go_simp;exact hK));(focus (rw[Iq];intro e he;replace he:=mem_listed he;obtain⟨y0,y3⟩:=hS1;simp[go_sem, *] at he;try (refine Or.inl ?_;(first | (subst he;exact⟨_,_,rfl, .inl aZ⟩) | (rcases he with rfl | rfl<;>exact⟨_,_,rfl, .inl aZ⟩) | (rcases he with rfl | rfl | rfl | rfl<;>exact⟨_,_,rfl, .inl aZ⟩) | (rcases he with rfl | rfl | rfl | rfl | rfl | rfl<;>exact⟨_,_,rfl, .inl aZ⟩)))));try walk_nrm)
  (refine Ui (Bg _ _ _) hSR (i:=3) (v:=.pointer (some ⟨b1,3,none⟩)) rfl (by decide+kernel) (by decide+kernel) (by decide+kernel) (by decide+kernel) (by decide+kernel) (.inl ⟨rrz,λW1 hS1=>⟨run_eq_of ?_,⟨λ_ _ _=>rfl,A4d _,rfl,rfl,rfl,?_⟩⟩⟩) hSw ?_;(focus (intro K hK;obtain⟨y0,y3⟩:=hS1;go_simp;exact hK));(focus (rw[Iq];intro e he;replace he:=mem_listed he;obtain⟨y0,y3⟩:=hS1;simp[go_sem, *] at he;try (refine Or.inl ?_;(first | (subst he;exact⟨_,_,rfl, .inl aZ⟩) | (rcases he with rfl | rfl<;>exact⟨_,_,rfl, .inl aZ⟩) | (rcases he with rfl | rfl | rfl | rfl<;>exact⟨_,_,rfl, .inl aZ⟩) | (rcases he with rfl | rfl | rfl | rfl | rfl | rfl<;>exact⟨_,_,rfl, .inl aZ⟩)))));try walk_nrm)
  (refine Ui (Bg _ _ _) hSR (i:=4) (v:=.slice (some ⟨b,o,none⟩) (m+1) r1) rfl (by decide+kernel) (by decide+kernel) (by decide+kernel) (by decide+kernel) (by decide+kernel) (.inl ⟨rrz,λW1 hS1=>⟨run_eq_of ?_,⟨λ_ _ _=>rfl,A4d _,rfl,rfl,rfl,?_⟩⟩⟩) hSw ?_;(focus (intro K hK;obtain⟨y0,y3⟩:=hS1;go_simp;exact hK));(focus (rw[Iq];intro e he;replace he:=mem_listed he;obtain⟨y0,y3⟩:=hS1;simp[go_sem, *] at he;try (refine Or.inl ?_;(first | (subst he;exact⟨_,_,rfl, .inl aZ⟩) | (rcases he with rfl | rfl<;>exact⟨_,_,rfl, .inl aZ⟩) | (rcases he with rfl | rfl | rfl | rfl<;>exact⟨_,_,rfl, .inl aZ⟩) | (rcases he with rfl | rfl | rfl | rfl | rfl | rfl<;>exact⟨_,_,rfl, .inl aZ⟩)))));try walk_nrm)
  (refine Ui (Bg _ _ _) hSR (i:=5) (v:=.slice (if r1=1 then some ⟨b,o,none⟩ else some ⟨b,o+4,none⟩) m (r1 - 1)) rfl (by decide+kernel) (by decide+kernel) (by decide+kernel) (by decide+kernel) (by decide+kernel) (.inl ⟨rrz,λW1 hS1=>⟨run_eq_of ?_,⟨λ_ _ _=>rfl,A4d _,rfl,rfl,rfl,?_⟩⟩⟩) hSw ?_;(focus (intro K hK;obtain⟨y0,y3⟩:=hS1;go_simp;exact hK));(focus (rw[Iq];intro e he;replace he:=mem_listed he;obtain⟨y0,y3⟩:=hS1;simp[go_sem, *] at he;try (refine Or.inl ?_;(first | (subst he;exact⟨_,_,rfl, .inl aZ⟩) | (rcases he with rfl | rfl<;>exact⟨_,_,rfl, .inl aZ⟩) | (rcases he with rfl | rfl | rfl | rfl<;>exact⟨_,_,rfl, .inl aZ⟩) | (rcases he with rfl | rfl | rfl | rfl | rfl | rfl<;>exact⟨_,_,rfl, .inl aZ⟩)))));try walk_nrm)
  refine⟨by first | kernel_rfl | rfl,?_⟩;have hF3:=Avy (hF2.rely hR) (w₁.drawn+1);have gW:=Ayw ((hE1.trans hE2).rely hR) (w₁.drawn+1)
  (refine Gl (Bg _ _ _) rfl rrz rfl (HT _ _ hF3) (by simp[Act.eval]) ?_;rintro _ _ O4 W4 ⟨rfl,fD,lZ⟩;try walk_nrm)
  refine kW ?_;exact⟨rfl,_,hres _,rfl,gW.trans fD,lZ⟩
end Go.Proofs.YtbfljjcnbbmoaaaGreatDoor
namespace Go.Proofs.YtbfljjcnbbmoaaaGreatDoor
open Stil
open Go.RowKit Go.Sort Go.BigFrame Go.Conc Go.Co
variable {Low c : Nat}
def Aig (m:Aw):List Value:=(m.cv::Ff m.coils)++(m.kv::Gj m.kids)
theorem P5 (m:Aw):m.vals=m.net.vals++Aig m:=m.vals_eq
def VOk (Low:Nat)(w₀:World)(m:Aw):Prop:=AOk w₀ 0 m/\∀x∈m.vals,∀k,x.ownBlock=some k->k<Low
def Afd (w:World)(b o:Nat)(m:Aw):Prop:=Vu w b o m.net/\w.cell? ⟨b,o+4,none⟩=some m.cv/\w.cell? ⟨b,o+5,none⟩=some m.kv
section
variable {w₀ w w' : World}{O O' : Nat -> Prop}
theorem Afd.held {b o:Nat}{m:Aw}(h:Afd w₀ b o m)(k:Held Low w₀ O w)(hb:b<Low):Afd w b o m:=⟨h.1.held k hb,(k.down hb _).trans h.2.1,(k.down hb _).trans h.2.2⟩
theorem VOk.net {m:Aw}(h:VOk Low w₀ m):NOk Low w₀ m.net:=⟨((Hf _ _ _).1 h.1).1,λx hx k hk=>h.2 x (by rw[P5];exact A4j _ hx) k hk⟩
theorem VOk.coils {m:Aw}(h:VOk Low w₀ m):∃(a:Option Addr) (cap:Nat),m.cv=.slice a m.coils.length cap/\(∀e∈m.coils,EOk w₀ 0 e)/\
  ∀i (h:i<m.coils.length),∃b o,a=some ⟨b,o,none⟩/\b<Low/\w₀.cell? ⟨b,o+i*2,none⟩=some (.int .i64 m.coils[i].op)/\w₀.cell? ⟨b,o+i*2+1,none⟩=some m.coils[i].av:=by
 obtain⟨_,⟨hk,ho⟩,_⟩:=(Hf _ _ _).1 h.1;obtain⟨a,cap,e,_,hc⟩:=P8 hk;refine⟨a,cap,e,ho,λi hi=>?_⟩;obtain⟨g0,g1⟩:=Qd m.coils i hi;obtain⟨b,ha,hb,c0⟩:=hc _ _ g0;obtain⟨b1,ha1,_,c1⟩:=hc _ _ g1;rw[ha] at ha1;cases ha1;refine⟨b,0,ha,h.2 m.cv (by rw[P5];simp[Aig]) b hb,?_⟩;rw[A4h];exact⟨c0,c1⟩
theorem VOk.kids {m:Aw}(h:VOk Low w₀ m):∃(a:Option Addr) (cap:Nat),m.kv=.slice a m.kids.length cap/\(∀t∈m.kids,VOk Low w₀ t)/\
  ∀i (h:i<m.kids.length),∃b o,a=some ⟨b,o,none⟩/\b<Low/\Afd w₀ b (o+i*6) m.kids[i]:=by
 obtain⟨_,_,hk,ho⟩:=(Hf _ _ _).1 h.1;obtain⟨a,cap,e,_,hc⟩:=P8 hk;refine⟨a,cap,e,λt ht=>⟨ho t ht,λx hx k hk=>h.2 x ?_ k hk⟩,λi hi=>?_⟩
 ·rw[P5]
  refine A4g _ (A4g _ (A4c _ (Io.2 ⟨t,ht,hx⟩)))
 ·obtain⟨g0,g1,g2,g3,g4,g5⟩:=Na m.kids i hi
  obtain⟨b,ha,hb,c0⟩:=hc _ _ g0;obtain⟨b1,ha1,_,c1⟩:=hc _ _ g1;obtain⟨b2,ha2,_,c2⟩:=hc _ _ g2;obtain⟨b3,sG,_,c3⟩:=hc _ _ g3;obtain⟨b4,zU,_,c4⟩:=hc _ _ g4;obtain⟨b5,zT,_,c5⟩:=hc _ _ g5;rw[ha] at ha1 ha2 sG zU zT;cases ha1;cases ha2;cases sG;cases zU;cases zT;refine⟨b,0,ha,h.2 m.kv (by rw[P5];simp[Aig]) b hb,?_⟩;unfold Afd Vu;rw[A4h];exact⟨⟨c0,c1,c2,c3⟩,c4,c5⟩
end
variable {w₀:World}
def Aia (Low c:Nat)(w₀:World)(t:Ah)(ms:List MI):Prop:=∀vs O w,Held Low w₀ O w->
 J6 Tryz.prog (okS Tryz.prog Low c) 94 #[.agg #[.int .i64 t.kind, .int .i64 t.op,t.av,t.kv]] vs O w λv x' O' w'=>x'=vs/\
  (∀rest,J6 Tryz.prog (okS Tryz.prog Low c) 92 #[.chan (some c), .int .i64 2,v] (ms.map MI.val++rest) O' w' λ_ x'' sS w''=>x''=rest/\Ext Low O' sS w' w''/\Held Low w₀ sS w'')/\Ext Low O O' w w'/\Held Low w₀ O' w'
def Ave (n:Stil.Net):Prop:=n.one.args.length<=1048576/\n.kids.length<=1000000/\∀x∈Di n,Ady x/\Aj x<=1000000
theorem Awv (w₀:World)(t:Ah)(ht:NOk Low w₀ t)(hg:Ave t.net):∃ms,MIs w₀ t.vals ms (E5 t.net)/\Aia Low c w₀ t ms:=by
 obtain⟨h1,h2,h3⟩:=hg;rw[Ah.net_eq] at h1 h2;simp only[A4o] at h1 h2;obtain⟨ts,e,hts,hsub,hB⟩:=Aza (c:=c) w₀ t ht omz omz;have hall:∀y∈ts,∃vs,MIs w₀ y.vals vs (D7 y.net)/\Ael Low c w₀ y vs:=λy hy=>by
  have hy':y.net∈Di t.net:=by rw[<-e];exact List.mem_map_of_mem hy
  exact Aww w₀ y (h3 _ hy').1 (h3 _ hy').2 (hts y hy)
 obtain⟨f,hf⟩:∃f:Ah->List MI,∀y∈ts,MIs w₀ y.vals (f y) (D7 y.net)/\Ael Low c w₀ y (f y):=by
  classical
  refine⟨λy=>if h:∃vs,MIs w₀ y.vals vs (D7 y.net)/\Ael Low c w₀ y vs then h.choose else [],λy hy=>?_⟩;have h:=hall y hy;simp only[h,dite_true];exact h.choose_spec
 have hlen:ts.length<=1000001:=by
  have e1:ts.length=(Di t.net).length:=by rw[<-e,A4o]
  rw[e1];unfold Di;rw[Ah.net_eq];split
  ·simp
  ·split
   ·simp only[A4o];omega
   ·simp
 refine⟨(ts.map λy=>Acp 2 y (f y)).flatten,?_,λvs O w hF=>(hB vs O w hF).mono ?_⟩
 ·unfold E5
  rw[<-e];exact(Agn hts λy hy _=>(hf y hy).1).sub (Agi hsub)
 ·rintro v x' O' w' ⟨hx,⟨a,cap,rfl,hr⟩,hE,hF'⟩
  refine⟨hx,λrest=>?_,hE,hF'⟩;rw[Abc];exact Az4 w₀ 2 (.inl rfl) ts f hts (λy hy _=>(hf y hy).2) omz rest O' w' hF' a cap hr
def Azd (Low c:Nat)(w₀:World)(t:Aw)(vs:List MI):Prop:=∀rest O w,Held Low w₀ O w->
 J6 Tryz.prog (okS Tryz.prog Low c) 68 #[.chan (some c), .agg #[.int .i64 t.net.kind, .int .i64 t.net.op,t.net.av,t.net.kv,t.cv,t.kv]] (vs.map MI.val++rest) O w λ_ x' O' w'=>x'=rest/\Ext Low O O' w w'/\Held Low w₀ O' w'
def Ae4:Stil.Arm->Prop
 | ⟨_,cs,kids⟩=>cs.length<=1000000/\kids.length<=1000000/\(∀x∈kids,Ave x.net)/\∀p∈kids.map Ae4,p
theorem An6 (n:Stil.Net)(cs:List Stil.Elem)(kids:List Stil.Arm):Ae4 ⟨n,cs,kids⟩↔cs.length<=1000000/\kids.length<=1000000/\(∀x∈kids,Ave x.net)/\∀x∈kids,Ae4 x:=by rw[Ae4,Stil.all_map]
def X7 (n i:Nat):List MI:=(Ez n i).map λx=>mi0 x.code
theorem Av2 (n i:Nat):(X7 n i).map MI.val=(Ez n i).map λx=>v0 x.code:=by unfold X7;rw[List.map_map];rfl
theorem A09 (n i:Nat):MIs w₀ [] (X7 n i) (Ez n i):=by
 unfold X7 Ez;repeat' split
 all_goals first | exact MIs.nil | exact MIs.zero _
def Aob (e:Df):MI:=⟨10,e⟩
theorem Awh:∀{es:List Df},(∀e∈es,EOk w₀ 0 e)->MIs w₀ (Ff es) (es.map Aob) (Il (es.map Df.elem))
 | [],_=>MIs.nil
 | e::es,h=>(MIs.one 10 e (h e spz)).append (Awh λx hx=>h x (by simp[hx]))
theorem Avc {n:Nat}{p:Aw->List MI × List MI}:∀{l:List Aw} (k:Nat),(∀x∈l,MIs w₀ x.net.vals (p x).1 (E5 x.net.net)/\MIs w₀ (Aig x) (p x).2 (Ey x.arm))->
  MIs w₀ (Gj l) (l.mapIdx λi x=>X7 n (k+i)++((p x).1++(p x).2)).flatten ((l.map Aw.arm).mapIdx λi a=>Ip n (k+i) a).flatten
 | [],_,_=>MIs.nil
 | x::l,k,h=>by
  obtain⟨h1,h2⟩:=h x spz;have ih:=Avc (l:=l) (n:=n) (p:=p) (k+1) λy hy=>h y (by simp[hy])
  have e:Gj (x::l)=x.vals++Gj l:=rfl;rw[e,P5,A4q,List.mapIdx_cons,List.mapIdx_cons,List.flatten_cons,List.flatten_cons];refine MIs.append ?_ ?_
  ·have e2:Ip n (k+0) x.arm=Ez n (k+0)++(E5 x.net.net++Ey x.arm):=by
    show Ez _ _++(E5 x.arm.net++_)=_
    rw[Aw.arm_eq]
   rw[e2];exact((A09 n (k+0)).append (h1.append h2)).sub (by rw[A4z];exact List.Sublist.refl _)
  ·have e3:∀i,k+1+i=k+(i+1):=λi=>by omega
   have ea:(λ(i:Nat) (x:Aw)=>X7 n (k+1+i)++((p x).1++(p x).2))=λi x=>X7 n (k+(i+1))++((p x).1++(p x).2):=by funext i x;rw[e3]
   have eb:(λ(i:Nat) (a:Stil.Arm)=>Ip n (k+1+i) a)=λi a=>Ip n (k+(i+1)) a:=by funext i a;rw[e3]
   rw[ea,eb] at ih;exact ih
end Go.Proofs.YtbfljjcnbbmoaaaGreatDoor
