import Derived.Test.YtbfljjcnbbmoaaaGreatDoorCI1
import Derived.Test.YtbfljjcnbbmoaaaGreatDoorCG4
namespace Go.Proofs.YtbfljjcnbbmoaaaGreatDoor
open Stil
open Go.RowKit Go.Sort Go.BigFrame Go.Conc Go.Co
variable {Low c : Nat}
def bl (vs:List Value):List Nat:=vs.filterMap Value.ownBlock
theorem Ajy (a b:List Value):bl (a++b)=bl a++bl b:=List.filterMap_append
theorem Afq {a b:List Value} (h:a.Sublist b):(bl a).Sublist (bl b):=h.filterMap _
def MIs (w₀:World) (S:List Value) (ms:List MI) (is:List Stil.Ht):Prop:=ms.map MI.inst=is/\(∀x∈ms,EOk w₀ 0 x.e)/\(bl (ms.map (·.e.av))).Sublist (bl S)
section
variable {w₀ : World} {S S' : List Value} {ms ms' : List MI} {is is' : List Stil.Ht}
theorem MIs.append (h:MIs w₀ S ms is) (h':MIs w₀ S' ms' is'):MIs w₀ (S++S') (ms++ms') (is++is'):=by
 refine⟨by rw[A4r,h.1,h'.1],λx hx=>(List.mem_append.1 hx).elim (h.2.1 x) (h'.2.1 x),?_⟩;rw[A4r,Ajy,Ajy];exact h.2.2.append h'.2.2
theorem MIs.sub (h:MIs w₀ S ms is) (hs:(bl S).Sublist (bl S')):MIs w₀ S' ms is:=⟨h.1,h.2.1,h.2.2.trans hs⟩
theorem MIs.nil:MIs w₀ [] [] []:=⟨rfl,by simp,List.Sublist.refl _⟩
theorem MIs.zero (k:Int):MIs w₀ [] [mi0 k] [Md k]:=⟨rfl,λx hx=>by rw[List.mem_singleton.1 hx];exact World.ownsRow_nil _ _ _ _,List.Sublist.refl _⟩
theorem MIs.snoc (h:MIs w₀ S ms is) (k:Int):MIs w₀ S (ms++[mi0 k]) (is++[Md k]):=(h.append (MIs.zero k)).sub (by rw[List.append_nil];exact List.Sublist.refl _)
theorem MIs.one (k:Int) (e:Cm) (h:EOk w₀ 0 e):MIs w₀ [e.av] [⟨k,e⟩] [⟨k,e.elem⟩]:=⟨rfl,λx hx=>by rw[List.mem_singleton.1 hx];exact h,List.Sublist.refl _⟩
end
def Ac2:Stil.Net->Prop
 | ⟨k,_,kids⟩=>(1<=k/\k<=4)/\(k≠1->kids≠[])/\∀p∈kids.map Ac2,p
theorem Anm (k:Int) (e:Stil.Elem) (kids:List Stil.Net):Ac2 ⟨k,e,kids⟩↔(1<=k/\k<=4)/\(k≠1->kids≠[])/\∀x∈kids,Ac2 x:=by rw[Ac2,Stil.all_map]
theorem Az8 {w₀:World} {k:Int} {t:Ah} {vs:List MI} (ht:NOk Low w₀ t) (h:t.kind≠1->MIs w₀ t.vals vs (Dy t.net)):MIs w₀ t.vals (Aby k t vs) (D8 k t.net):=by
 have hk:t.net.kind=t.kind:=by rw[Ah.net_eq]
 unfold Aby;by_cases h1:t.kind=1
 ·rw[if_pos h1,Vk _ _ (hk.trans h1),Ah.net_eq]
  refine(MIs.one (w₀:=w₀) k ⟨t.op,t.ds,t.av⟩ ((Hq _ _ _).1 ht.1).1).sub ?_;rw[Ah.vals_eq];exact Afq (List.Sublist.cons_cons _ (List.nil_sublist _))
 ·rw[if_neg h1,Rl _ _ (λe=>h1 (hk.symm.trans e))]
  exact(h h1).snoc _
theorem Afv {w₀:World} {k:Int} {f:Ah->List MI}:∀{ts:List Ah},(∀t∈ts,NOk Low w₀ t)->(∀t∈ts,t.kind≠1->MIs w₀ t.vals (f t) (Dy t.net))->MIs w₀ (Eh ts) (ts.map λt=>Aby k t (f t)).flatten ((ts.map Ah.net).map (D8 k)).flatten
 | [],_,_=>MIs.nil
 | t::ts,h1,h2=>by
  rw[A4v,List.flatten_cons,A4v,A4v,List.flatten_cons];exact(Az8 (h1 t (by simp)) (h2 t (by simp))).append (Afv (λx hx=>h1 x (by simp[hx])) λx hx=>h2 x (by simp[hx]))
theorem Aap (ts:List Ah) (g:Ah->List MI):((ts.map g).flatten).map MI.val=(ts.map λt=>(g t).map MI.val).flatten:=by rw[List.map_flatten,List.map_map];rfl
theorem Ava {w₀ w:World} {O:Nat->Prop} (h:Held Low w₀ O w) (d:Nat):Held Low w₀ O {w with drawn:=d}:=⟨h.still,h.low,h.up,h.os,h.out⟩
theorem Aye {w w':World} {O O':Nat->Prop} (h:Ext Low O O' w w') (d:Nat):Ext Low O O' w {w' with drawn:=d}:=⟨h.own,h.still,h.mine,h.size⟩
set_option maxRecDepth 100000 in
set_option maxHeartbeats 4000000 in
theorem Av7 (w₀:World) (n:Ah):Ac2 n.net->Aj n.net<=1000000->NOk Low w₀ n->∃vs,MIs w₀ n.vals vs (Dy n.net)/\Ads Low c w₀ n vs:=by
 induction n using Ir with
 | h k op ds av kv kids ih=>
  intro hgo hs hok;have hvals:=Ah.vals_eq ⟨k,op,ds,av,kv,kids⟩;rw[Ah.net_eq] at hgo hs ⊢;dsimp only at hgo hs hvals ⊢;obtain⟨⟨hk1,hk4⟩,hne,hgk⟩:=(Anm _ _ _).1 hgo;rw[Dz] at hs;simp only at hs;have hks:∀x∈kids,Aj x.net<=1000000:=λx hx=>by have:Aj x.net<=Stil.sizes (kids.map Ah.net):=Ew Aj _ x.net (List.mem_map_of_mem hx);omega
  have hkl:kids.length<=999999:=by have:=Jl (kids.map Ah.net);rw[A4t] at this;omega
  replace hgk:∀x∈kids,Ac2 x.net:=λx hx=>hgk _ (List.mem_map_of_mem hx)
  obtain⟨p0,r0,hv0⟩:=hok.devs;obtain⟨p1,r1,hv1,hq1,hko,hkc⟩:=hok.kids;have hav:=((Hq _ _ _).1 hok.1).1;dsimp only at hv0 hv1 hq1 hav hko hkc;subst hv0 hv1;have hres:=resultsC_none (P:=Tryz.prog) (fn:=Tryz.f67) rfl;by_cases h1:k=1
  ·subst h1
   refine⟨[⟨1,⟨op,ds, .slice p0 ds.length r0⟩⟩],?_,λrest O w hF=>?_⟩
   ·rw[Tz,hvals]
    exact(MIs.one (w₀:=w₀) 1 ⟨op,ds, .slice p0 ds.length r0⟩ hav).sub (Afq (List.Sublist.cons_cons _ (List.nil_sublist _)))
   clear hvals hks hkl hgk hgo hs hok ih hko hkc hav hne hq1;rw[A4v,List.map_nil,MI.val,A43,A44];dsimp only;refine G6 Tryz.func67 (by rfl) rfl ?_;simp only[Tryz.ntmps67,A4g,A4e,A4f,Nat.reduceAdd,Nat.reduceSub,A46,A47,A5c,A49,A44,A43];refine Jb (Be _ _ _) ?_
   (refine Es (Be _ _ _) ?_;simp only[A4g,A4e,A4f,A4m,List.range,List.range.loop])
   refine kB hF #[.int .i64 1, .int .i64 op, .slice p0 ds.length r0, .slice p1 kids.length r1] 52 λO1 W1 b1 hE1 hF1 hO1 hL1 HC1=>?_
   try walk_nrm
   have _Y:=cs4 HC1;refine kW ?_;clear _Y;exact⟨rfl,_,hres _,rfl,hE1,hF1⟩
  obtain⟨t,rs,rfl⟩:=List.exists_cons_of_ne_nil (λe=>hne h1 (by rw[e];rfl):kids≠[]);obtain⟨b,o,rfl,hbl,hc0⟩:=hkc 0 (by simp);rw[List.getElem_cons_zero,Nat.zero_mul,Nat.add_zero] at hc0;have hcap:rs.length+1<=r1:=by have:=hq1.1;simp only[A4e] at this;exact this
  have hrc:∀i (h:i<rs.length),b<Low/\U9 w₀ b (o+4+i*4) rs[i]:=λi hi=>by
   obtain⟨b',o',e',hb',hc'⟩:=hkc (i+1) (by simp;omega);cases e';rw[List.getElem_cons_succ] at hc';exact⟨hb',by rw[show o+4+i*4=o+(i+1)*4 by omega];exact hc'⟩
  have hall:=λy hy=>ih y hy (hgk _ hy) (hks _ hy) (hko y hy)
  obtain⟨vt,hvt,hBt⟩:=hall t (by simp);have hkb:(k==1)=false:=by rw[A5f];exact h1
  have hokt:=hko t (by simp);have hrs:rs.length<=999999:=by simp only[A4e] at hkl;omega
  clear ih hks hkc hgk hkl hgo hne hs hq1;obtain⟨pa,ra,hva⟩:=hokt.devs;obtain⟨pk,rk,hvk,_⟩:=hokt.kids;have HMV:Hid ((k=4->MIs w₀ (Ah.vals ⟨k,op,ds, .slice p0 ds.length r0, .slice (some ⟨b,o,none⟩) (t::rs).length r1,t::rs⟩) (vt++[mi0 6]) (Dy t.net++[Md 6]))/\∀vs' is',MIs w₀ (Eh rs) vs' is'->MIs w₀ (Ah.vals ⟨k,op,ds, .slice p0 ds.length r0, .slice (some ⟨b,o,none⟩) (t::rs).length r1,t::rs⟩) (vt++vs') (Dy t.net++is')):=by
   have e:Eh (t::rs)=t.vals++Eh rs:=rfl;have hs1:(bl t.vals).Sublist (bl (Ah.vals ⟨k,op,ds, .slice p0 ds.length r0, .slice (some ⟨b,o,none⟩) (t::rs).length r1,t::rs⟩)):=by
    rw[hvals,e];exact Afq (((List.sublist_append_left _ _).cons _).cons _)
   refine⟨λ_=>(hvt.snoc 6).sub hs1,λvs' is' h'=>(hvt.append h').sub ?_⟩;rw[hvals,e];exact Afq (((List.Sublist.refl _).cons _).cons _)
  clear hvals hvt hok;have HNL:Hid (∀k',k'≠1->k'≠4->Dy ⟨k',⟨op,ds⟩,(t::rs).map Ah.net⟩=Dy t.net++((rs.map Ah.net).map (D8 k')).flatten):=λk' h1 h4=>by rw[A4v,Qz _ _ _ h1 h4]
  have HNN:Hid (Dy ⟨4,⟨op,ds⟩,(t::rs).map Ah.net⟩=Dy t.net++[Md 6]):=by show _=_;rw[A4v,Ua]
  obtain⟨t1,tp,td,ta,tk,ts⟩:=t;dsimp only at hva hvk;subst hva hvk;by_cases h4:k=4
  ·subst h4
   refine⟨vt++[mi0 6],by rw[HNN.out];exact HMV.out.1 rfl,λrest O w hF=>?_⟩;clear HMV HNN HNL;rw[A4r,A4v,List.map_nil,A41,A43,A44];dsimp only;simp only[A4e];refine G6 Tryz.func67 (by rfl) rfl ?_;simp only[Tryz.ntmps67,A4g,A4e,A4f,Nat.reduceAdd,Nat.reduceSub,A46,A47,A5c,A49,A44,A43];refine Jb (Be _ _ _) ?_
   (refine Es (Be _ _ _) ?_;simp only[A4g,A4e,A4f,A4m,List.range,List.range.loop])
   refine kB hF #[.int .i64 4, .int .i64 op, .slice p0 ds.length r0, .slice (some ⟨b,o,none⟩) (rs.length+1) r1] 52 λO1 W1 b1 hE1 hF1 hO1 hL1 HC1=>?_
   try walk_nrm
   have HCX:=hid (λW (hW:Keep Low O1 W1 W)=>hc0.held (hF1.rely hW) hbl);have _Y:=λW h=>And.intro (cs4 HC1 W h) (HCX.out W h)
   simp only[U9] at _Y;refine kW ?_;clear _Y
   (refine F8 (Be _ _ _) rfl (by rfl) rfl (hBt _ _ _ hF1) (by simp[Act.eval]) ?_;rintro _ _ O2 W2 ⟨rfl,hE2,hF2⟩;try walk_nrm)
   replace HC1:=Af9 HC1 hE2 hO1;replace hO1:=hE2.own _ hO1;simp only[MI.val,mi0];have _Y:=cs4 HC1;refine kW ?_;clear _Y;exact⟨rfl,_,hres _,rfl,hE1.trans hE2,hF2⟩
  have hk23:k=2\/k=3:=by omega
  have hkb4:(k==4)=false:=by rw[A5f];exact h4
  obtain⟨f,hf⟩:∃f:Ah->List MI,∀y∈rs,MIs w₀ y.vals (f y) (Dy y.net)/\Ads Low c w₀ y (f y):=by
   classical
   refine⟨λy=>if h:∃vs,MIs w₀ y.vals vs (Dy y.net)/\Ads Low c w₀ y vs then h.choose else [],λy hy=>?_⟩;have h:=hall y (by simp[hy]);simp only[h,dite_true];exact h.choose_spec
  have hkr:∀y∈rs,NOk Low w₀ y:=λy hy=>hko y (by simp[hy])
  refine⟨vt++(rs.map λy=>Aby k y (f y)).flatten,?_,λrest O w hF=>?_⟩
  ·rw[HNL.out k h1 h4]
   exact HMV.out.2 _ _ (Afv hkr λy hy _=>(hf y hy).1)
  clear HMV HNN HNL;rw[A4r,Aap,A41];dsimp only;simp only[A4e]
  have HT:=hid (λO W hW=>by
   have:=Azx (c:=c) w₀ k hk23 rs f hkr (λy hy _=>(hf y hy).2) (by omega) rest O W hW (if r1=1 then some ⟨b,o,none⟩ else some ⟨b,o+4,none⟩) (r1 - 1) (λi hi=>by
    obtain⟨hb',hc'⟩:=hrc i hi;have hr1:¬r1=1:=by omega
    rw[if_neg hr1]
    exact⟨b,o+4,rfl, .inr hb',hc'.held hW hb'⟩)
   exact this)
  clear hf hall hrc hkr hko hav;generalize (rs.map λt=>(Aby k t (f t)).map MI.val).flatten=tl at*;generalize rs.length=m at*;refine G6 Tryz.func67 (by rfl) rfl ?_;simp only[Tryz.ntmps67,A4g,A4e,A4f,Nat.reduceAdd,Nat.reduceSub,A46,A47,A5c,A49,A44,A43];refine Jb (Be _ _ _) ?_
  (refine Es (Be _ _ _) ?_;simp only[A4g,A4e,A4f,A4m,List.range,List.range.loop])
  refine kB hF #[.int .i64 k, .int .i64 op, .slice p0 ds.length r0, .slice (some ⟨b,o,none⟩) (m+1) r1] 52 λO1 W1 b1 hE1 hF1 hO1 hL1 HC1=>?_
  try walk_nrm
  have HCX:=hid (λW (hW:Keep Low O1 W1 W)=>hc0.held (hF1.rely hW) hbl);have _Y:=λW h=>And.intro (cs4 HC1 W h) (HCX.out W h)
  simp only[U9] at _Y;refine kW ?_;clear _Y
  (refine F8 (Be _ _ _) rfl (by rfl) rfl (hBt _ _ _ hF1) (by simp[Act.eval]) ?_;rintro _ _ O2 W2 ⟨rfl,hE2,hF2⟩;try walk_nrm)
  replace HC1:=Af9 HC1 hE2 hO1;replace hO1:=hE2.own _ hO1;have _Y:=cs4 HC1;refine kW ?_;clear _Y;have h1m:(1:Int)<=(m:Int)+1:=by omega
  have hev:∀(W:World) (es:Array Event),(Instr.sliceAt 50 (.slice (some ⟨b,o,none⟩) (m+1) r1) (some (.int .i64 1)) none none).events Tryz.prog W es=es:=λW es=>Agj _ Tryz.underlying50 _ _ _ h1m
  refine Abu (Be _ _ _) (λW=>W.cell? ⟨b1,0,none⟩=some (.int .i64 k)/\W.cell? ⟨b1,3,none⟩=some (.slice (some ⟨b,o,none⟩) (m+1) r1)) 6 (by kernel_rfl) rfl λw₁ hR=>?_
  have hSR:∀u v:World,(u.cell? ⟨b1,0,none⟩=some (.int .i64 k)/\u.cell? ⟨b1,3,none⟩=some (.slice (some ⟨b,o,none⟩) (m+1) r1))->Keep Low O2 u v->(v.cell? ⟨b1,0,none⟩=some (.int .i64 k)/\v.cell? ⟨b1,3,none⟩=some (.slice (some ⟨b,o,none⟩) (m+1) r1)):=λu v hu hk=>⟨(hk.ext.cell (.inl hO1) _).trans hu.1,(hk.ext.cell (.inl hO1) _).trans hu.2⟩
  have hSw:({w₁ with drawn:=w₁.drawn+1}:World).cell? ⟨b1,0,none⟩=some (.int .i64 k)/\({w₁ with drawn:=w₁.drawn+1}:World).cell? ⟨b1,3,none⟩=some (.slice (some ⟨b,o,none⟩) (m+1) r1):=⟨HC1.out _ hR 0,HC1.out _ hR 3⟩
  simp only[A4g,A4e,A4f,Nat.reduceAdd,A4m]
  (refine Tc (Be _ _ _) hSR (i:=0) (v:=.chan (some c)) rfl (by decide+kernel) (by decide+kernel) (by decide+kernel) (by decide+kernel) (by decide+kernel) (.inl ⟨by rfl,λW1 hS1=>⟨run_eq_of ?_,⟨λ_ _ _=>rfl,A4i _,rfl,rfl,rfl,?_⟩⟩⟩) hSw ?_;(focus (intro K hK;obtain⟨y0,y3⟩:=hS1;go_simp;exact hK));(focus (rw[Ih];intro e he;replace he:=mem_listed he;obtain⟨y0,y3⟩:=hS1;simp[go_sem, *] at he;try (refine Or.inl ?_;(first | (subst he;exact⟨_,_,rfl, .inl hO1⟩) | (rcases he with rfl | rfl<;>exact⟨_,_,rfl, .inl hO1⟩) | (rcases he with rfl | rfl | rfl | rfl<;>exact⟨_,_,rfl, .inl hO1⟩) | (rcases he with rfl | rfl | rfl | rfl | rfl | rfl<;>exact⟨_,_,rfl, .inl hO1⟩)))));try walk_nrm)
  (refine Tc (Be _ _ _) hSR (i:=1) (v:=.pointer (some ⟨b1,0,none⟩)) rfl (by decide+kernel) (by decide+kernel) (by decide+kernel) (by decide+kernel) (by decide+kernel) (.inl ⟨by rfl,λW1 hS1=>⟨run_eq_of ?_,⟨λ_ _ _=>rfl,A4i _,rfl,rfl,rfl,?_⟩⟩⟩) hSw ?_;(focus (intro K hK;obtain⟨y0,y3⟩:=hS1;go_simp;exact hK));(focus (rw[Ih];intro e he;replace he:=mem_listed he;obtain⟨y0,y3⟩:=hS1;simp[go_sem, *] at he;try (refine Or.inl ?_;(first | (subst he;exact⟨_,_,rfl, .inl hO1⟩) | (rcases he with rfl | rfl<;>exact⟨_,_,rfl, .inl hO1⟩) | (rcases he with rfl | rfl | rfl | rfl<;>exact⟨_,_,rfl, .inl hO1⟩) | (rcases he with rfl | rfl | rfl | rfl | rfl | rfl<;>exact⟨_,_,rfl, .inl hO1⟩)))));try walk_nrm)
  (refine Tc (Be _ _ _) hSR (i:=2) (v:=.int .i64 k) rfl (by decide+kernel) (by decide+kernel) (by decide+kernel) (by decide+kernel) (by decide+kernel) (.inl ⟨by rfl,λW1 hS1=>⟨run_eq_of ?_,⟨λ_ _ _=>rfl,A4i _,rfl,rfl,rfl,?_⟩⟩⟩) hSw ?_;(focus (intro K hK;obtain⟨y0,y3⟩:=hS1;go_simp;exact hK));(focus (rw[Ih];intro e he;replace he:=mem_listed he;obtain⟨y0,y3⟩:=hS1;simp[go_sem, *] at he;try (refine Or.inl ?_;(first | (subst he;exact⟨_,_,rfl, .inl hO1⟩) | (rcases he with rfl | rfl<;>exact⟨_,_,rfl, .inl hO1⟩) | (rcases he with rfl | rfl | rfl | rfl<;>exact⟨_,_,rfl, .inl hO1⟩) | (rcases he with rfl | rfl | rfl | rfl | rfl | rfl<;>exact⟨_,_,rfl, .inl hO1⟩)))));try walk_nrm)
  (refine Tc (Be _ _ _) hSR (i:=3) (v:=.pointer (some ⟨b1,3,none⟩)) rfl (by decide+kernel) (by decide+kernel) (by decide+kernel) (by decide+kernel) (by decide+kernel) (.inl ⟨by rfl,λW1 hS1=>⟨run_eq_of ?_,⟨λ_ _ _=>rfl,A4i _,rfl,rfl,rfl,?_⟩⟩⟩) hSw ?_;(focus (intro K hK;obtain⟨y0,y3⟩:=hS1;go_simp;exact hK));(focus (rw[Ih];intro e he;replace he:=mem_listed he;obtain⟨y0,y3⟩:=hS1;simp[go_sem, *] at he;try (refine Or.inl ?_;(first | (subst he;exact⟨_,_,rfl, .inl hO1⟩) | (rcases he with rfl | rfl<;>exact⟨_,_,rfl, .inl hO1⟩) | (rcases he with rfl | rfl | rfl | rfl<;>exact⟨_,_,rfl, .inl hO1⟩) | (rcases he with rfl | rfl | rfl | rfl | rfl | rfl<;>exact⟨_,_,rfl, .inl hO1⟩)))));try walk_nrm)
  (refine Tc (Be _ _ _) hSR (i:=4) (v:=.slice (some ⟨b,o,none⟩) (m+1) r1) rfl (by decide+kernel) (by decide+kernel) (by decide+kernel) (by decide+kernel) (by decide+kernel) (.inl ⟨by rfl,λW1 hS1=>⟨run_eq_of ?_,⟨λ_ _ _=>rfl,A4i _,rfl,rfl,rfl,?_⟩⟩⟩) hSw ?_;(focus (intro K hK;obtain⟨y0,y3⟩:=hS1;go_simp;exact hK));(focus (rw[Ih];intro e he;replace he:=mem_listed he;obtain⟨y0,y3⟩:=hS1;simp[go_sem, *] at he;try (refine Or.inl ?_;(first | (subst he;exact⟨_,_,rfl, .inl hO1⟩) | (rcases he with rfl | rfl<;>exact⟨_,_,rfl, .inl hO1⟩) | (rcases he with rfl | rfl | rfl | rfl<;>exact⟨_,_,rfl, .inl hO1⟩) | (rcases he with rfl | rfl | rfl | rfl | rfl | rfl<;>exact⟨_,_,rfl, .inl hO1⟩)))));try walk_nrm)
  (refine Tc (Be _ _ _) hSR (i:=5) (v:=.slice (if r1=1 then some ⟨b,o,none⟩ else some ⟨b,o+4,none⟩) m (r1 - 1)) rfl (by decide+kernel) (by decide+kernel) (by decide+kernel) (by decide+kernel) (by decide+kernel) (.inl ⟨by rfl,λW1 hS1=>⟨run_eq_of ?_,⟨λ_ _ _=>rfl,A4i _,rfl,rfl,rfl,?_⟩⟩⟩) hSw ?_;(focus (intro K hK;obtain⟨y0,y3⟩:=hS1;go_simp;exact hK));(focus (rw[Ih];intro e he;replace he:=mem_listed he;obtain⟨y0,y3⟩:=hS1;simp[go_sem, *] at he;try (refine Or.inl ?_;(first | (subst he;exact⟨_,_,rfl, .inl hO1⟩) | (rcases he with rfl | rfl<;>exact⟨_,_,rfl, .inl hO1⟩) | (rcases he with rfl | rfl | rfl | rfl<;>exact⟨_,_,rfl, .inl hO1⟩) | (rcases he with rfl | rfl | rfl | rfl | rfl | rfl<;>exact⟨_,_,rfl, .inl hO1⟩)))));try walk_nrm)
  refine⟨by first | kernel_rfl | rfl,?_⟩;have hF3:=Ava (hF2.rely hR) (w₁.drawn+1);have hE3:=Aye ((hE1.trans hE2).rely hR) (w₁.drawn+1)
  (refine F8 (Be _ _ _) rfl (by rfl) rfl (HT.out _ _ hF3) (by simp[Act.eval]) ?_;rintro _ _ O4 W4 ⟨rfl,hE4,hF4⟩;try walk_nrm)
  refine kW ?_;exact⟨rfl,_,hres _,rfl,hE3.trans hE4,hF4⟩
end Go.Proofs.YtbfljjcnbbmoaaaGreatDoor
namespace Go.Proofs.YtbfljjcnbbmoaaaGreatDoor
open Stil
open Go.RowKit Go.Sort Go.BigFrame Go.Conc Go.Co
variable {Low c : Nat}
def Aho (m:Au):List Value:=(m.cv::Et m.coils)++(m.kv::Fp m.kids)
theorem Ph (m:Au):m.vals=m.net.vals++Aho m:=m.vals_eq
def VOk (Low:Nat) (w₀:World) (m:Au):Prop:=AOk w₀ 0 m/\∀x∈m.vals,∀k,x.ownBlock=some k->k<Low
def Aah (w:World) (b o:Nat) (m:Au):Prop:=U9 w b o m.net/\w.cell? ⟨b,o+4,none⟩=some m.cv/\w.cell? ⟨b,o+5,none⟩=some m.kv
section
variable {w₀ w w' : World} {O O' : Nat -> Prop}
theorem Aah.ext {b o:Nat} {m:Au} (h:Aah w b o m) (k:Ext Low O O' w w') (hb:O b\/b<Low):Aah w' b o m:=⟨h.1.ext k hb,(k.cell hb _).trans h.2.1,(k.cell hb _).trans h.2.2⟩
theorem Aah.held {b o:Nat} {m:Au} (h:Aah w₀ b o m) (k:Held Low w₀ O w) (hb:b<Low):Aah w b o m:=⟨h.1.held k hb,(k.down hb _).trans h.2.1,(k.down hb _).trans h.2.2⟩
theorem VOk.net {m:Au} (h:VOk Low w₀ m):NOk Low w₀ m.net:=⟨((G8 _ _ _).1 h.1).1,λx hx k hk=>h.2 x (by rw[Ph];exact A4o _ hx) k hk⟩
theorem VOk.coils {m:Au} (h:VOk Low w₀ m):∃(a:Option Addr) (cap:Nat),m.cv=.slice a m.coils.length cap/\(∀e∈m.coils,EOk w₀ 0 e)/\
  ∀i (h:i<m.coils.length),∃b o,a=some ⟨b,o,none⟩/\b<Low/\w₀.cell? ⟨b,o+i*2,none⟩=some (.int .i64 m.coils[i].op)/\w₀.cell? ⟨b,o+i*2+1,none⟩=some m.coils[i].av:=by
 obtain⟨_,⟨hk,ho⟩,_⟩:=(G8 _ _ _).1 h.1;obtain⟨a,cap,e,_,hc⟩:=Pi hk;refine⟨a,cap,e,ho,λi hi=>?_⟩;obtain⟨g0,g1⟩:=Po m.coils i hi;obtain⟨b,ha,hb,c0⟩:=hc _ _ g0;obtain⟨b1,ha1,_,c1⟩:=hc _ _ g1;rw[ha] at ha1;cases ha1;refine⟨b,0,ha,h.2 m.cv (by rw[Ph];simp[Aho]) b hb,?_⟩;rw[A4m];exact⟨c0,c1⟩
theorem VOk.kids {m:Au} (h:VOk Low w₀ m):∃(a:Option Addr) (cap:Nat),m.kv=.slice a m.kids.length cap/\(∀t∈m.kids,VOk Low w₀ t)/\
  ∀i (h:i<m.kids.length),∃b o,a=some ⟨b,o,none⟩/\b<Low/\Aah w₀ b (o+i*6) m.kids[i]:=by
 obtain⟨_,_,hk,ho⟩:=(G8 _ _ _).1 h.1;obtain⟨a,cap,e,_,hc⟩:=Pi hk;refine⟨a,cap,e,λt ht=>⟨ho t ht,λx hx k hk=>h.2 x ?_ k hk⟩,λi hi=>?_⟩
 ·rw[Ph]
  refine A4l _ (A4l _ (A4h _ (Ie.2 ⟨t,ht,hx⟩)))
 ·obtain⟨g0,g1,g2,g3,g4,g5⟩:=Ll m.kids i hi
  obtain⟨b,ha,hb,c0⟩:=hc _ _ g0;obtain⟨b1,ha1,_,c1⟩:=hc _ _ g1;obtain⟨b2,ha2,_,c2⟩:=hc _ _ g2;obtain⟨b3,ha3,_,c3⟩:=hc _ _ g3;obtain⟨b4,ha4,_,c4⟩:=hc _ _ g4;obtain⟨b5,ha5,_,c5⟩:=hc _ _ g5;rw[ha] at ha1 ha2 ha3 ha4 ha5;cases ha1;cases ha2;cases ha3;cases ha4;cases ha5;refine⟨b,0,ha,h.2 m.kv (by rw[Ph];simp[Aho]) b hb,?_⟩;unfold Aah U9;rw[A4m];exact⟨⟨c0,c1,c2,c3⟩,c4,c5⟩
end
def Ahg (Low c:Nat) (w₀:World) (t:Ah) (ms:List MI):Prop:=∀vs O w,Held Low w₀ O w->
 Jv Tryz.prog (okS Tryz.prog Low c) 94 #[.agg #[.int .i64 t.kind, .int .i64 t.op,t.av,t.kv]] vs O w λv x' O' w'=>x'=vs/\
  (∀rest,Jv Tryz.prog (okS Tryz.prog Low c) 92 #[.chan (some c), .int .i64 2,v] (ms.map MI.val++rest) O' w' λ_ x'' O'' w''=>x''=rest/\Ext Low O' O'' w' w''/\Held Low w₀ O'' w'')/\Ext Low O O' w w'/\Held Low w₀ O' w'
def Aut (n:Stil.Net):Prop:=n.one.args.length<=1048576/\n.kids.length<=1000000/\∀x∈Fv n,Ac2 x/\Aj x<=1000000
theorem Av6 (w₀:World) (t:Ah) (ht:NOk Low w₀ t) (hg:Aut t.net):∃ms,MIs w₀ t.vals ms (En t.net)/\Ahg Low c w₀ t ms:=by
 obtain⟨h1,h2,h3⟩:=hg;rw[Ah.net_eq] at h1 h2;simp only[A4t] at h1 h2;obtain⟨ts,e,hts,hsub,hB⟩:=Ayx (c:=c) w₀ t ht (by omega) (by omega);have hall:∀y∈ts,∃vs,MIs w₀ y.vals vs (Dy y.net)/\Ads Low c w₀ y vs:=λy hy=>by
  have hy':y.net∈Fv t.net:=by rw[<-e];exact List.mem_map_of_mem hy
  exact Av7 w₀ y (h3 _ hy').1 (h3 _ hy').2 (hts y hy)
 obtain⟨f,hf⟩:∃f:Ah->List MI,∀y∈ts,MIs w₀ y.vals (f y) (Dy y.net)/\Ads Low c w₀ y (f y):=by
  classical
  refine⟨λy=>if h:∃vs,MIs w₀ y.vals vs (Dy y.net)/\Ads Low c w₀ y vs then h.choose else [],λy hy=>?_⟩;have h:=hall y hy;simp only[h,dite_true];exact h.choose_spec
 have hlen:ts.length<=1000001:=by
  have e1:ts.length=(Fv t.net).length:=by rw[<-e,A4t]
  rw[e1];unfold Fv;rw[Ah.net_eq];split
  ·simp
  ·split
   ·simp only[A4t];omega
   ·simp
 refine⟨(ts.map λy=>Aby 2 y (f y)).flatten,?_,λvs O w hF=>(hB vs O w hF).mono ?_⟩
 ·unfold En
  rw[<-e];exact(Afv hts λy hy _=>(hf y hy).1).sub (Afq hsub)
 ·rintro v x' O' w' ⟨hx,⟨a,cap,rfl,hr⟩,hE,hF'⟩
  refine⟨hx,λrest=>?_,hE,hF'⟩;rw[Aap];exact Azx w₀ 2 (.inl rfl) ts f hts (λy hy _=>(hf y hy).2) (by omega) rest O' w' hF' a cap hr
def Ay0 (Low c:Nat) (w₀:World) (t:Au) (vs:List MI):Prop:=∀rest O w,Held Low w₀ O w->
 Jv Tryz.prog (okS Tryz.prog Low c) 68 #[.chan (some c), .agg #[.int .i64 t.net.kind, .int .i64 t.net.op,t.net.av,t.net.kv,t.cv,t.kv]] (vs.map MI.val++rest) O w λ_ x' O' w'=>x'=rest/\Ext Low O O' w w'/\Held Low w₀ O' w'
def Aed:Stil.Arm->Prop
 | ⟨_,cs,kids⟩=>cs.length<=1000000/\kids.length<=1000000/\(∀x∈kids,Aut x.net)/\∀p∈kids.map Aed,p
theorem Ann (n:Stil.Net) (cs:List Stil.Elem) (kids:List Stil.Arm):Aed ⟨n,cs,kids⟩↔cs.length<=1000000/\kids.length<=1000000/\(∀x∈kids,Aut x.net)/\∀x∈kids,Aed x:=by rw[Aed,Stil.all_map]
def Xl (n i:Nat):List MI:=(Em n i).map λx=>mi0 x.code
theorem Avd (n i:Nat):(Xl n i).map MI.val=(Em n i).map λx=>v0 x.code:=by unfold Xl;rw[List.map_map];rfl
theorem A04 {w₀:World} (n i:Nat):MIs w₀ [] (Xl n i) (Em n i):=by
 unfold Xl Em;repeat' split
 all_goals first | exact MIs.nil | exact MIs.zero _
def Anq (e:Cm):MI:=⟨10,e⟩
theorem Avs {w₀:World}:∀{es:List Cm},(∀e∈es,EOk w₀ 0 e)->MIs w₀ (Et es) (es.map Anq) (Ic (es.map Cm.elem))
 | [],_=>MIs.nil
 | e::es,h=>(MIs.one 10 e (h e (by simp))).append (Avs λx hx=>h x (by simp[hx]))
theorem Aur {w₀:World} {n:Nat} {p:Au->List MI × List MI}:∀{l:List Au} (k:Nat),(∀x∈l,MIs w₀ x.net.vals (p x).1 (En x.net.net)/\MIs w₀ (Aho x) (p x).2 (Ej x.arm))->
  MIs w₀ (Fp l) (l.mapIdx λi x=>Xl n (k+i)++((p x).1++(p x).2)).flatten ((l.map Au.arm).mapIdx λi a=>Ig n (k+i) a).flatten
 | [],_,_=>MIs.nil
 | x::l,k,h=>by
  obtain⟨h1,h2⟩:=h x (by simp);have ih:=Aur (l:=l) (n:=n) (p:=p) (k+1) λy hy=>h y (by simp[hy])
  have e:Fp (x::l)=x.vals++Fp l:=rfl;rw[e,Ph,A4v,List.mapIdx_cons,List.mapIdx_cons,List.flatten_cons,List.flatten_cons];refine MIs.append ?_ ?_
  ·have e2:Ig n (k+0) x.arm=Em n (k+0)++(En x.net.net++Ej x.arm):=by
    show Em _ _++(En x.arm.net++_)=_
    rw[Au.arm_eq]
   rw[e2];exact((A04 n (k+0)).append (h1.append h2)).sub (by rw[A44];exact List.Sublist.refl _)
  ·have e3:∀i,k+1+i=k+(i+1):=λi=>by omega
   have ea:(λ(i:Nat) (x:Au)=>Xl n (k+1+i)++((p x).1++(p x).2))=λi x=>Xl n (k+(i+1))++((p x).1++(p x).2):=by funext i x;rw[e3]
   have eb:(λ(i:Nat) (a:Stil.Arm)=>Ig n (k+1+i) a)=λi a=>Ig n (k+(i+1)) a:=by funext i a;rw[e3]
   rw[ea,eb] at ih;exact ih
end Go.Proofs.YtbfljjcnbbmoaaaGreatDoor
