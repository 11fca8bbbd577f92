/- The specification's chapter 8: the instructions on one net and on two nets of a stack. -/
import Derived.Test.YtpaljcoojkbhnaaGreatDoorS20
set_option maxHeartbeats 4000000
set_option maxRecDepth 100000
namespace Go.Proofs.YtpaljcoojkbhnaaGreatDoor
open Go.RowKit Go.Sort Go.BigFrame
theorem do_not {e : Stil.Elem} {ms : List MNet} {j : Nat} (h : ms.length = j + 1) (hj : j < ms.length) {M : MNet} (hM : M.net = Stil.notOf ms[j].net) : ((ms.set j M).map MNet.net).reverse = Stil.doNet 6 e (ms.map MNet.net).reverse := by
 have h1 : (ms.map MNet.net).reverse = ms[j].net :: ((ms.take j).map MNet.net).reverse := by
  have e := congrArg (fun l : List MNet => (l.map MNet.net).reverse) (last_all h hj)
  simp only [List.map_append, List.map_cons, List.map_nil, List.reverse_append, List.reverse_cons, List.reverse_nil, List.nil_append, List.cons_append] at e
  exact e
 rw [last_set h, List.map_append, List.reverse_append, List.map_singleton, hM, h1]
 rfl
theorem set4_alloc {W : World} {g o1 o2 o3 o4 : Nat} {u1 u2 u3 u4 : Value} (hg : g < W.heap.size) (o : Obj) : (((((W.alloc o).setCell ⟨g, o1, none⟩ u1).setCell ⟨g, o2, none⟩ u2).setCell ⟨g, o3, none⟩ u3).setCell ⟨g, o4, none⟩ u4) = ((((W.setCell ⟨g, o1, none⟩ u1).setCell ⟨g, o2, none⟩ u2).setCell ⟨g, o3, none⟩ u3).setCell ⟨g, o4, none⟩ u4).alloc o := by
 rw [World.setCell_alloc_past _ _ _ _ hg, World.setCell_alloc_past _ _ _ _ (by simpa using hg), World.setCell_alloc_past _ _ _ _ (by simpa using hg), World.setCell_alloc_past _ _ _ _ (by simpa using hg)]
/-- A net turned. -/
def notM (b : Nat) (X : MNet) : MNet := ⟨4, 0, [], .slice none 0 0, .slice (some ⟨b, 0, none⟩) 1 1, [X]⟩
theorem notM_own {W : World} {base : Nat} {X : MNet} (h : MOwn W base X) (hb : base ≤ W.heap.size) : MOwn (W.alloc (.cells #[.int .i64 X.kind, .int .i64 X.op, X.av, X.kv] 29)) base (notM W.heap.size X) := (MRow.single h hb).net 4 0 [] (World.ownsRow_nil _ _ _ _) (fun x _ => aside_nil x)
theorem notM_net (b : Nat) (X : MNet) : (notM b X).net = Stil.notOf X.net := by unfold notM; rw [MNet.net_eq]; rfl
theorem notM_vals {b : Nat} {X : MNet} {x : Value} (h : x ∈ (notM b X).vals) (us : List Value) : x ∈ X.vals ++ us ∨ ∀ q, x.ownBlock = some q → b ≤ q := by
 unfold notM at h
 rw [MNet.vals_eq] at h
 simp only [List.mem_cons, mVals_one] at h
 rcases h with rfl | rfl | h
 ·exact .inr (fun q hq => by cases hq)
 ·exact .inr (fun q hq => by cases hq; exact Nat.le_refl _)
 ·exact .inl (List.mem_append_left _ h)
theorem pair_len {a : Option Addr} {n m c d : Nat} {l : List Value} (h : (Value.slice a n c :: l).Pairwise Aside) : (Value.slice a m d :: l).Pairwise Aside := by
 rw [List.pairwise_cons] at h ⊢
 refine ⟨fun y hy => ?_, h.2⟩
 have h3 := h.1 y hy
 have hob : (Value.slice a m d).ownBlock = (Value.slice a n c).ownBlock := by cases a <;> rfl
 unfold Aside at h3 ⊢
 rw [hob]
 exact h3
theorem last_two {ms : List MNet} {j : Nat} (h : ms.length = j + 2) (h0 : j < ms.length) (h1 : j + 1 < ms.length) : ms = ms.take j ++ [ms[j], ms[j + 1]] := by
 have e1 := List.take_succ_eq_append_getElem h1
 have e0 := List.take_succ_eq_append_getElem h0
 rw [List.take_of_length_le (by omega), e0, List.append_assoc] at e1
 exact e1
theorem do_two {c : Int} {e : Stil.Elem} {ms : List MNet} {j : Nat} (hc : c = 4 ∨ c = 5) (h : ms.length = j + 2) (h0 : j < ms.length) (h1 : j + 1 < ms.length) {M : MNet} (hM : M.net = Stil.addNet (c - 2) ms[j].net ms[j + 1].net) : (((ms.take (j + 1)).set j M).map MNet.net).reverse = Stil.doNet c e (ms.map MNet.net).reverse := by
 have h2 : (ms.map MNet.net).reverse = ms[j + 1].net :: ms[j].net :: ((ms.take j).map MNet.net).reverse := by
  have e := congrArg (fun l : List MNet => (l.map MNet.net).reverse) (last_two h h0 h1)
  simp only [List.map_append, List.map_cons, List.map_nil, List.reverse_append, List.reverse_cons, List.reverse_nil, List.nil_append, List.cons_append] at e
  exact e
 have hl : (ms.take (j + 1)).length = j + 1 := by rw [List.length_take]; omega
 have ht : (ms.take (j + 1)).take j = ms.take j := by rw [List.take_take]; congr 1; omega
 rw [last_set hl, ht, List.map_append, List.reverse_append, List.map_singleton, hM, h2]
 rcases hc with rfl | rfl <;> rfl
theorem s_do6 (i : Stil.Inst) (av : Value) (ms : List MNet) (ra : Option Addr) (rc base : Nat) (w : World) (hrow : MRow w base (.slice ra ms.length rc) ms) (hav : DevsAt w av i.one.args) (hf : i.fits) (hcc : i.code = 6) (hn : Stil.needs i.code ≤ ms.length) (hs : Stil.sizes (ms.map MNet.net) ≤ 800000) (hbase : base ≤ w.heap.size) :
  Calls Tryz.prog 22 #[.slice ra ms.length rc, .agg #[.int .i64 i.code, .int .i64 i.one.op, av]] w fun e w' => DoRet w w' base (Stil.doNet i.code i.one (ms.map MNet.net).reverse) e := by
 have HCP : Hid (∀ W, Below w.heap.size w W → Calls Tryz.prog 48 #[.agg #[.int .i64 i.one.op, av]] W fun r w' => ∃ a c, r = .returned (.agg #[.int .i64 i.one.op, .slice a i.one.args.length c]) ∧ w'.ownsRow W.heap.size 117 3 (.slice a i.one.args.length c) i.one.args.length (devsCells i.one.args) ∧ Below W.heap.size W w') := fun W h => s_copy i.one av W (hav.below h) hf.2.2.1
 obtain ⟨p0, r0, rfl, -⟩ := hav
 obtain ⟨c, op, ds⟩ := i
 simp only at HCP hcc hn ⊢
 subst hcc
 have hlm : ms.length ≤ 800000 := by
  have := Stil.len_sizes (ms.map MNet.net)
  rw [List.length_map] at this
  omega
 have HS : Hid (Stil.sizes (ms.map MNet.net) ≤ 800000) := hs
 have HR : Hid (MRow w base (.slice ra ms.length rc) ms) := hrow
 clear hrow hs hf
 go_enter Tryz.func22, Tryz.ntmps22
 go_upto_region 3 with (go_at_call 48; refine (HCP.out _ blA).mono ?_; rintro e w1 ⟨a1, c1, rfl, hown, hb1⟩; have HOW : Hid (w1.ownsRow (w.heap.size + 1) 117 3 (.slice a1 ds.length c1) ds.length (devsCells ds)) := (by have h := hown; simp only [World.size_alloc] at h; exact h); clear hown)
 have hB1 : Below w.heap.size w w1 := blA
 have hs1 : w.heap.size < w1.heap.size := by have := hb1.size; simp at this; omega
 obtain ⟨W, hW⟩ : ∃ W, W = w1.alloc (.cells #[.int .i64 1, .int .i64 op, .slice a1 ds.length c1, .slice none 0 0] 29) := ⟨_, rfl⟩
 have hb1W : Below w1.heap.size w1 W := by rw [hW]; exact below_alloc _ _
 have hBW : Below w.heap.size w W := bl_call hB1 hb1W
 have HST : Hid (DoSt w W base w1.heap.size ms ra rc op ds a1 c1) := by
  refine ⟨HR.out.below hBW, ?_, fun x hx q hq => (HR.out.lt x hx q hq).2, fun x hx q hq => ?_, by rw [hW]; exact box4, hs1, hBW, hbase⟩
  ·exact ((oneM_own HOW.out).le (by omega)).below hb1W
  ·have := (MOk.lt _ (oneM_own (op := op) HOW.out).1 x hx q hq).1
   omega
 have k0 : W.cell? ⟨w.heap.size, 0, none⟩ = some (.int .i64 6) := by
  rw [hb1W.cell (p := ⟨w.heap.size, 0, none⟩) hs1, hb1.cell (p := ⟨w.heap.size, 0, none⟩) (by simp)]
  simp [go_sem]
 rw [← hW]
 clear hW hb1W hB1 hb1 HOW HCP HR
 obtain ⟨_, ⟨o0, o1, o2, o3⟩, _⟩ := HST.out.box
 have hzW : w1.heap.size < W.heap.size := HST.out.box.1
 obtain ⟨j, hml⟩ : ∃ j, ms.length = j + 1 := ⟨ms.length - 1, by simp [Stil.needs] at hn; omega⟩
 obtain ⟨g, cp, hv, hgb, hgl, _, hcell⟩ := ownsRow_cells HST.out.row.1 (by omega)
 have hjm : j < ms.length := by omega
 obtain ⟨x0, x1, x2, x3⟩ := mCells_get ms j hjm
 have y0 := hcell _ _ x0
 have y1 := hcell _ _ x1
 have y2 := hcell _ _ x2
 have y3 := hcell _ _ x3
 simp only [Value.slice.injEq] at hv
 obtain ⟨rfl, _, rfl⟩ := hv
 have hok := (MOk_iff _ _ _).1 (HST.out.row.2.1 ms[j] (List.getElem_mem hjm))
 obtain ⟨pa, ca, hxa⟩ := slice_of_owns hok.1
 obtain ⟨qa, da, hxk⟩ := slice_of_owns hok.2.1
 have HXO : Hid (MOwn W base ms[j]) := HST.out.row.one j hjm
 have HYC : Hid (∀ V, Below W.heap.size W V → (V.cell? ⟨g, j * 4, none⟩ = some (.int .i64 ms[j].kind) ∧ V.cell? ⟨g, j * 4 + 1, none⟩ = some (.int .i64 ms[j].op) ∧ V.cell? ⟨g, j * 4 + 2, none⟩ = some ms[j].av ∧ V.cell? ⟨g, j * 4 + 3, none⟩ = some ms[j].kv) ∧ V.frozen? ⟨g, j * 4, none⟩ = false ∧ V.frozen? ⟨g, j * 4 + 1, none⟩ = false ∧ V.frozen? ⟨g, j * 4 + 2, none⟩ = false ∧ V.frozen? ⟨g, j * 4 + 3, none⟩ = false) := fun V h =>
  ⟨⟨(h.cell hgl).trans y0, (h.cell hgl).trans y1, (h.cell hgl).trans y2, (h.cell hgl).trans y3⟩, (HST.out.below h).row.1.frozenAt _, (HST.out.below h).row.1.frozenAt _, (HST.out.below h).row.1.frozenAt _, (HST.out.below h).row.1.frozenAt _⟩
 have HML : Hid (ms.length = j + 1) := hml
 have HLV : Hid (∀ M : MNet, M.net = Stil.notOf ms[j].net → ((ms.set j M).map MNet.net).reverse = Stil.doNet 6 ⟨op, ds⟩ (ms.map MNet.net).reverse) := fun M hM => do_not hml hjm hM
 have HPV : Hid (∀ (M : MNet) (lo : Nat), w.heap.size ≤ lo → M.vals.Pairwise Aside → (∀ x ∈ M.vals, x ∈ ms[j].vals ++ (oneM op ds a1 c1).vals ∨ ∀ q, x.ownBlock = some q → lo ≤ q) → (Value.slice (some ⟨g, 0, none⟩) ms.length rc :: mVals (ms.set j M)).Pairwise Aside) := fun M lo hlo hM hv => by
  have hal := HST.out.all
  have hlw := HST.out.low
  have he := last_all hml hjm
  rw [last_set hml]
  refine swap_pair (vs := ms[j].vals ++ (oneM op ds a1 c1).vals) (lo := lo) ?_ (fun x hx q hq => Nat.lt_of_lt_of_le (hlw x ?_ q hq) hlo) hM hv
  ·have e2 : mVals ms ++ mVals [oneM op ds a1 c1] = mVals (ms.take j) ++ (ms[j].vals ++ (oneM op ds a1 c1).vals) := by
    rw [mVals_one]
    have e3 := congrArg mVals he
    rw [mVals_append, mVals_one] at e3
    rw [e3, List.append_assoc]
   rw [← e2]
   exact hal
  ·rcases List.mem_cons.1 hx with rfl | hx
   ·exact List.mem_cons_self
   ·refine List.mem_cons_of_mem _ ?_
    rw [he, mVals_append]
    exact List.mem_append_left _ hx
 have e5 : ((j + 1 : Nat) : Int) - 1 = (j : Int) := by omega
 obtain ⟨X, hX⟩ : ∃ X, X = ms[j] := ⟨_, rfl⟩
 rw [← hX] at y0 y1 y2 y3 HXO HYC HLV HPV hxa hxk
 obtain ⟨xk, xop, xds, xav, xkv, xks⟩ := X
 simp only at hxa hxk y0 y1 y2 y3 HYC
 subst hxa
 subst hxk
 rw [hml, e5]
 clear hX hcell x0 x1 x2 x3 hok hn
 have hjn : ¬ ((j : Int) < 0) := by omega
 obtain ⟨⟨_, _, _, _⟩, f0, f1, f2, f3⟩ := HYC.out W (Below.refl _ _)
 go_wp2
 go_ret
 have hmo := notM_own HXO.out (Nat.le_trans hbase HST.out.bel.size)
 have hB2 : Below W.heap.size W (W.alloc (.cells #[.int .i64 xk, .int .i64 xop, .slice pa xds.length ca, .slice qa xks.length da] 29)) := below_alloc _ _
 have hp := HPV.out (notM W.heap.size (MNet.mk xk xop xds (.slice pa xds.length ca) (.slice qa xks.length da) xks)) W.heap.size HST.out.bel.size hmo.2 (fun x hx => notM_vals hx _)
 have hr := (HST.out.below hB2).row.stored (m := notM W.heap.size (MNet.mk xk xop xds (.slice pa xds.length ca) (.slice qa xks.length da) xks)) hjm hmo.1 hp
 have hB := (HST.out.bel.trans (hB2.mono HST.out.bel.size)).mono hbase
 refine ⟨some ⟨g, 0, none⟩, rc, ms.set j (notM W.heap.size (MNet.mk xk xop xds (.slice pa xds.length ca) (.slice qa xks.length da) xks)), by rw [List.length_set, HML.out]; rfl, ?_, HLV.out _ (notM_net _ _), ?_⟩
 ·rw [List.length_set, ← set4_alloc hgl]
  exact hr
 ·rw [← set4_alloc hgl]
  exact bl4 hB hgb
theorem s_do4 (i : Stil.Inst) (av : Value) (ms : List MNet) (ra : Option Addr) (rc base : Nat) (w : World) (hrow : MRow w base (.slice ra ms.length rc) ms) (hav : DevsAt w av i.one.args) (hf : i.fits) (hcc : i.code = 4) (hn : Stil.needs i.code ≤ ms.length) (hs : Stil.sizes (ms.map MNet.net) ≤ 800000) (hbase : base ≤ w.heap.size) :
  Calls Tryz.prog 22 #[.slice ra ms.length rc, .agg #[.int .i64 i.code, .int .i64 i.one.op, av]] w fun e w' => DoRet w w' base (Stil.doNet i.code i.one (ms.map MNet.net).reverse) e := by
 have HCP : Hid (∀ W, Below w.heap.size w W → Calls Tryz.prog 48 #[.agg #[.int .i64 i.one.op, av]] W fun r w' => ∃ a c, r = .returned (.agg #[.int .i64 i.one.op, .slice a i.one.args.length c]) ∧ w'.ownsRow W.heap.size 117 3 (.slice a i.one.args.length c) i.one.args.length (devsCells i.one.args) ∧ Below W.heap.size W w') := fun W h => s_copy i.one av W (hav.below h) hf.2.2.1
 obtain ⟨p0, r0, rfl, -⟩ := hav
 obtain ⟨c, op, ds⟩ := i
 simp only at HCP hcc hn ⊢
 subst hcc
 have hlm : ms.length ≤ 800000 := by
  have := Stil.len_sizes (ms.map MNet.net)
  rw [List.length_map] at this
  omega
 have HS : Hid (Stil.sizes (ms.map MNet.net) ≤ 800000) := hs
 have HR : Hid (MRow w base (.slice ra ms.length rc) ms) := hrow
 clear hrow hs hf
 go_enter Tryz.func22, Tryz.ntmps22
 go_upto_region 3 with (go_at_call 48; refine (HCP.out _ blA).mono ?_; rintro e w1 ⟨a1, c1, rfl, hown, hb1⟩; have HOW : Hid (w1.ownsRow (w.heap.size + 1) 117 3 (.slice a1 ds.length c1) ds.length (devsCells ds)) := (by have h := hown; simp only [World.size_alloc] at h; exact h); clear hown)
 have hB1 : Below w.heap.size w w1 := blA
 have hs1 : w.heap.size < w1.heap.size := by have := hb1.size; simp at this; omega
 obtain ⟨W, hW⟩ : ∃ W, W = w1.alloc (.cells #[.int .i64 1, .int .i64 op, .slice a1 ds.length c1, .slice none 0 0] 29) := ⟨_, rfl⟩
 have hb1W : Below w1.heap.size w1 W := by rw [hW]; exact below_alloc _ _
 have hBW : Below w.heap.size w W := bl_call hB1 hb1W
 have HST : Hid (DoSt w W base w1.heap.size ms ra rc op ds a1 c1) := by
  refine ⟨HR.out.below hBW, ?_, fun x hx q hq => (HR.out.lt x hx q hq).2, fun x hx q hq => ?_, by rw [hW]; exact box4, hs1, hBW, hbase⟩
  ·exact ((oneM_own HOW.out).le (by omega)).below hb1W
  ·have := (MOk.lt _ (oneM_own (op := op) HOW.out).1 x hx q hq).1
   omega
 have k0 : W.cell? ⟨w.heap.size, 0, none⟩ = some (.int .i64 4) := by
  rw [hb1W.cell (p := ⟨w.heap.size, 0, none⟩) hs1, hb1.cell (p := ⟨w.heap.size, 0, none⟩) (by simp)]
  simp [go_sem]
 rw [← hW]
 clear hW hb1W hB1 hb1 HOW HCP HR
 obtain ⟨_, ⟨o0, o1, o2, o3⟩, _⟩ := HST.out.box
 have hzW : w1.heap.size < W.heap.size := HST.out.box.1
 obtain ⟨j, hml⟩ : ∃ j, ms.length = j + 2 := ⟨ms.length - 2, by simp [Stil.needs] at hn; omega⟩
 obtain ⟨g, cp, hv, hgb, hgl, hcap, hcell⟩ := ownsRow_cells HST.out.row.1 (by omega)
 have hjm : j < ms.length := by omega
 have hjn : j + 1 < ms.length := by omega
 obtain ⟨x0, x1, x2, x3⟩ := mCells_get ms j hjm
 obtain ⟨x4, x5, x6, x7⟩ := mCells_get ms (j + 1) hjn
 have y0 := hcell _ _ x0
 have y1 := hcell _ _ x1
 have y2 := hcell _ _ x2
 have y3 := hcell _ _ x3
 have z0 := hcell _ _ x4
 have z1 := hcell _ _ x5
 have z2 := hcell _ _ x6
 have z3 := hcell _ _ x7
 simp only [Value.slice.injEq] at hv
 obtain ⟨rfl, _, rfl⟩ := hv
 have hok := (MOk_iff _ _ _).1 (HST.out.row.2.1 ms[j] (List.getElem_mem hjm))
 have hok2 := (MOk_iff _ _ _).1 (HST.out.row.2.1 ms[j + 1] (List.getElem_mem hjn))
 obtain ⟨pa, ca, hxa⟩ := slice_of_owns hok.1
 obtain ⟨qa, da, hxk⟩ := slice_of_owns hok.2.1
 obtain ⟨pb, cb, hza⟩ := slice_of_owns hok2.1
 obtain ⟨qb, db, hzk⟩ := slice_of_owns hok2.2.1
 have hlt : (ms.take (j + 1)).length = j + 1 := by rw [List.length_take]; omega
 have htt : (ms.take (j + 1)).take j = ms.take j := by rw [List.take_take]; congr 1; omega
 have hall : (Value.slice (some ⟨g, 0, none⟩) ms.length rc :: (mVals (ms.take j) ++ (ms[j].vals ++ ms[j + 1].vals))).Pairwise Aside := by
  have h2 := HST.out.row.2.2
  have e3 := congrArg mVals (last_two hml hjm hjn)
  rw [mVals_append, show [ms[j], ms[j + 1]] = [ms[j]] ++ [ms[j + 1]] from rfl, mVals_append, mVals_one, mVals_one] at e3
  rw [e3] at h2
  exact h2
 have HAD : Hid (∀ V, Below W.heap.size W V → Calls Tryz.prog 49 #[.int .i64 2, .agg #[.int .i64 ms[j].kind, .int .i64 ms[j].op, ms[j].av, ms[j].kv], .agg #[.int .i64 ms[j + 1].kind, .int .i64 ms[j + 1].op, ms[j + 1].av, ms[j + 1].kv]] V fun e w' => PutRet w' base (ms[j].vals ++ ms[j + 1].vals) V.heap.size (Stil.addNet 2 ms[j].net ms[j + 1].net) e ∧ Below V.heap.size V w') := fun V h => by
  have hst := HST.out.below h
  have hsz := HS.out
  refine s_add 2 ms[j] ms[j + 1] base V (hst.row.2.1 _ (List.getElem_mem hjm)) (hst.row.2.1 _ (List.getElem_mem hjn)) (List.pairwise_append.1 (List.pairwise_cons.1 hall).2).2.1 ?_ (Nat.le_trans hbase hst.bel.size)
  have e4 := congrArg (fun l : List MNet => Stil.sizes (l.map MNet.net)) (last_two hml hjm hjn)
  simp only [List.map_append, Stil.sizes_append, List.map_cons, List.map_nil, Stil.sizes_cons, Stil.sizes_nil] at e4
  omega
 have HYC : Hid (∀ V, Below W.heap.size W V → (V.cell? ⟨g, j * 4, none⟩ = some (.int .i64 ms[j].kind) ∧ V.cell? ⟨g, j * 4 + 1, none⟩ = some (.int .i64 ms[j].op) ∧ V.cell? ⟨g, j * 4 + 2, none⟩ = some ms[j].av ∧ V.cell? ⟨g, j * 4 + 3, none⟩ = some ms[j].kv) ∧ V.frozen? ⟨g, j * 4, none⟩ = false ∧ V.frozen? ⟨g, j * 4 + 1, none⟩ = false ∧ V.frozen? ⟨g, j * 4 + 2, none⟩ = false ∧ V.frozen? ⟨g, j * 4 + 3, none⟩ = false) := fun V h =>
  ⟨⟨(h.cell hgl).trans y0, (h.cell hgl).trans y1, (h.cell hgl).trans y2, (h.cell hgl).trans y3⟩, (HST.out.below h).row.1.frozenAt _, (HST.out.below h).row.1.frozenAt _, (HST.out.below h).row.1.frozenAt _, (HST.out.below h).row.1.frozenAt _⟩
 have HFI : Hid (∀ (V : World) (M : MNet), Below W.heap.size W V → MOwn V base M → M.net = Stil.addNet 2 ms[j].net ms[j + 1].net → (∀ x ∈ M.vals, x ∈ ms[j].vals ++ ms[j + 1].vals ∨ ∀ q, x.ownBlock = some q → W.heap.size ≤ q) → MRow ((((V.setCell ⟨g, j * 4, none⟩ (.int .i64 M.kind)).setCell ⟨g, j * 4 + 1, none⟩ (.int .i64 M.op)).setCell ⟨g, j * 4 + 2, none⟩ M.av).setCell ⟨g, j * 4 + 3, none⟩ M.kv) base (.slice (some ⟨g, 0, none⟩) (j + 1) rc) ((ms.take (j + 1)).set j M) ∧ ((((ms.take (j + 1)).set j M)).map MNet.net).reverse = Stil.doNet 4 ⟨op, ds⟩ (ms.map MNet.net).reverse ∧ Below base w ((((V.setCell ⟨g, j * 4, none⟩ (.int .i64 M.kind)).setCell ⟨g, j * 4 + 1, none⟩ (.int .i64 M.op)).setCell ⟨g, j * 4 + 2, none⟩ M.av).setCell ⟨g, j * 4 + 3, none⟩ M.kv)) := fun V M h hM hn hv => by
  have hst := HST.out.below h
  refine ⟨?_, do_two (by simp) hml hjm hjn hn, bl4 (hst.bel.mono hbase) hgb⟩
  have hr := hst.row.firsts (n := j + 1) (by omega)
  rcases hr with hr | hr
  ·have hr2 : MRow V base (.slice (some ⟨g, 0, none⟩) (ms.take (j + 1)).length rc) (ms.take (j + 1)) := by rw [hlt]; exact hr
   have h3 := hr2.stored (i := j) (m := M) (by omega) hM.1 (by
    rw [last_set hlt, htt]
    refine swap_pair (vs := ms[j].vals ++ ms[j + 1].vals) (lo := W.heap.size) (pair_len hall) (fun x hx q hq => ?_) hM.2 hv
    refine Nat.lt_of_lt_of_le ?_ HST.out.bel.size
    rcases List.mem_cons.1 hx with rfl | hx
    ·exact HST.out.low (Value.slice (some ⟨g, 0, none⟩) ms.length rc) List.mem_cons_self q hq
    ·refine HST.out.low x (List.mem_cons_of_mem _ ?_) q hq
     rw [congrArg mVals (last_two hml hjm hjn), mVals_append]
     exact List.mem_append_left _ hx)
   rw [hlt] at h3
   exact h3
  ·omega
 have HLT : Hid ((ms.take (j + 1)).length = j + 1) := hlt
 obtain ⟨X, hX⟩ : ∃ X, X = ms[j] := ⟨_, rfl⟩
 obtain ⟨Z, hZ⟩ : ∃ X, X = ms[j + 1] := ⟨_, rfl⟩
 rw [← hX] at y0 y1 y2 y3 HAD HYC HFI hxa hxk
 rw [← hZ] at z0 z1 z2 z3 HAD HFI hza hzk
 obtain ⟨xk, xop, xds, xav, xkv, xks⟩ := X
 obtain ⟨zk, zop, zds, zav, zkv, zks⟩ := Z
 simp only at hxa hxk hza hzk y0 y1 y2 y3 z0 z1 z2 z3 HAD HYC
 subst hxa
 subst hxk
 subst hza
 subst hzk
 clear hX hZ hcell x0 x1 x2 x3 x4 x5 x6 x7 hok hok2 hn hall hlt htt
 obtain ⟨J, hJ⟩ : ∃ J, J = j + 1 := ⟨_, rfl⟩
 have hmJ : ms.length = J + 1 := by omega
 have e5 : ((J + 1 : Nat) : Int) - 1 = (J : Int) := by omega
 have e6 : (J : Int) - 1 = (j : Int) := by omega
 have i0 : j < J + 1 := by omega
 have i1 : (j : Int) < ((J + 1 : Nat) : Int) := by omega
 have i2 : j ≤ J := by omega
 have i3 : (j : Int) ≤ (J : Int) := by omega
 have i4 : j < J := by omega
 have i5 : (j : Int) < (J : Int) := by omega
 have hj9 : j ≤ 800000 := by omega
 have hw6 : IntKind.i64.wrap ((J : Int) - 1) = (j : Int) := by rw [IntKind.wrap_i64]; omega
 have hw8 : IntKind.i64.wrap (j : Int) = (j : Int) := by rw [IntKind.wrap_i64]; omega
 have hJ9 : J ≤ 800000 := by omega
 have hJc : J ≤ rc := by omega
 rw [← hJ] at z0 z1 z2 z3 HFI HLT
 rw [hmJ, e5]
 clear hml hjn hJ
 go_upto_region 13 with fail
 go_region_with (go_at_call 49; refine (HAD.out _ blA).mono ?_; rintro e w2 ⟨⟨mk, mop, mds, s0, t0, s1, t1, mks, rfl, hmo, hmn, hmv⟩, hb2⟩; have HMO : Hid (MOwn w2 base ⟨mk, mop, mds, .slice s0 mds.length t0, .slice s1 mks.length t1, mks⟩) := hmo; have HMN : Hid ((MNet.mk mk mop mds (.slice s0 mds.length t0) (.slice s1 mks.length t1) mks).net = _) := hmn; have HMV : Hid (∀ x ∈ (MNet.mk mk mop mds (.slice s0 mds.length t0) (.slice s1 mks.length t1) mks).vals, _ ∨ ∀ q, x.ownBlock = some q → W.heap.size ≤ q) := hmv; clear hmo hmn hmv y0 y1 y2 y3; obtain ⟨⟨y0, y1, y2, y3⟩, f0, f1, f2, f3⟩ := HYC.out w2 blA; have hB2 : Below W.heap.size W w2 := blA; have HB2 : Hid (Below W.heap.size W w2) := hB2; clear hB2)
 all_goals
  obtain ⟨hr1, hr2, hr3⟩ := HFI.out w2 (MNet.mk mk mop mds (.slice s0 mds.length t0) (.slice s1 mks.length t1) mks) HB2.out HMO.out HMN.out HMV.out
  simp only at hr1 hr3
  have HR1 : Hid (MRow _ base (.slice (some ⟨g, 0, none⟩) J rc) ((ms.take J).set j (MNet.mk mk mop mds (.slice s0 mds.length t0) (.slice s1 mks.length t1) mks))) := hr1
  have HR2 : Hid ((((ms.take J).set j (MNet.mk mk mop mds (.slice s0 mds.length t0) (.slice s1 mks.length t1) mks)).map MNet.net).reverse = _) := hr2
  have HR3 : Hid (Below base w _) := hr3
  clear hr1 hr2 hr3
  go_wp2
  go_ret
  refine ⟨some ⟨g, 0, none⟩, rc, (ms.take J).set j (MNet.mk mk mop mds (.slice s0 mds.length t0) (.slice s1 mks.length t1) mks), by rw [List.length_set, HLT.out]; rfl, ?_, HR2.out, HR3.out⟩
  rw [List.length_set, HLT.out]
  exact HR1.out
theorem s_do5 (i : Stil.Inst) (av : Value) (ms : List MNet) (ra : Option Addr) (rc base : Nat) (w : World) (hrow : MRow w base (.slice ra ms.length rc) ms) (hav : DevsAt w av i.one.args) (hf : i.fits) (hcc : i.code = 5) (hn : Stil.needs i.code ≤ ms.length) (hs : Stil.sizes (ms.map MNet.net) ≤ 800000) (hbase : base ≤ w.heap.size) :
  Calls Tryz.prog 22 #[.slice ra ms.length rc, .agg #[.int .i64 i.code, .int .i64 i.one.op, av]] w fun e w' => DoRet w w' base (Stil.doNet i.code i.one (ms.map MNet.net).reverse) e := by
 have HCP : Hid (∀ W, Below w.heap.size w W → Calls Tryz.prog 48 #[.agg #[.int .i64 i.one.op, av]] W fun r w' => ∃ a c, r = .returned (.agg #[.int .i64 i.one.op, .slice a i.one.args.length c]) ∧ w'.ownsRow W.heap.size 117 3 (.slice a i.one.args.length c) i.one.args.length (devsCells i.one.args) ∧ Below W.heap.size W w') := fun W h => s_copy i.one av W (hav.below h) hf.2.2.1
 obtain ⟨p0, r0, rfl, -⟩ := hav
 obtain ⟨c, op, ds⟩ := i
 simp only at HCP hcc hn ⊢
 subst hcc
 have hlm : ms.length ≤ 800000 := by
  have := Stil.len_sizes (ms.map MNet.net)
  rw [List.length_map] at this
  omega
 have HS : Hid (Stil.sizes (ms.map MNet.net) ≤ 800000) := hs
 have HR : Hid (MRow w base (.slice ra ms.length rc) ms) := hrow
 clear hrow hs hf
 go_enter Tryz.func22, Tryz.ntmps22
 go_upto_region 3 with (go_at_call 48; refine (HCP.out _ blA).mono ?_; rintro e w1 ⟨a1, c1, rfl, hown, hb1⟩; have HOW : Hid (w1.ownsRow (w.heap.size + 1) 117 3 (.slice a1 ds.length c1) ds.length (devsCells ds)) := (by have h := hown; simp only [World.size_alloc] at h; exact h); clear hown)
 have hB1 : Below w.heap.size w w1 := blA
 have hs1 : w.heap.size < w1.heap.size := by have := hb1.size; simp at this; omega
 obtain ⟨W, hW⟩ : ∃ W, W = w1.alloc (.cells #[.int .i64 1, .int .i64 op, .slice a1 ds.length c1, .slice none 0 0] 29) := ⟨_, rfl⟩
 have hb1W : Below w1.heap.size w1 W := by rw [hW]; exact below_alloc _ _
 have hBW : Below w.heap.size w W := bl_call hB1 hb1W
 have HST : Hid (DoSt w W base w1.heap.size ms ra rc op ds a1 c1) := by
  refine ⟨HR.out.below hBW, ?_, fun x hx q hq => (HR.out.lt x hx q hq).2, fun x hx q hq => ?_, by rw [hW]; exact box4, hs1, hBW, hbase⟩
  ·exact ((oneM_own HOW.out).le (by omega)).below hb1W
  ·have := (MOk.lt _ (oneM_own (op := op) HOW.out).1 x hx q hq).1
   omega
 have k0 : W.cell? ⟨w.heap.size, 0, none⟩ = some (.int .i64 5) := by
  rw [hb1W.cell (p := ⟨w.heap.size, 0, none⟩) hs1, hb1.cell (p := ⟨w.heap.size, 0, none⟩) (by simp)]
  simp [go_sem]
 rw [← hW]
 clear hW hb1W hB1 hb1 HOW HCP HR
 obtain ⟨_, ⟨o0, o1, o2, o3⟩, _⟩ := HST.out.box
 have hzW : w1.heap.size < W.heap.size := HST.out.box.1
 obtain ⟨j, hml⟩ : ∃ j, ms.length = j + 2 := ⟨ms.length - 2, by simp [Stil.needs] at hn; omega⟩
 obtain ⟨g, cp, hv, hgb, hgl, hcap, hcell⟩ := ownsRow_cells HST.out.row.1 (by omega)
 have hjm : j < ms.length := by omega
 have hjn : j + 1 < ms.length := by omega
 obtain ⟨x0, x1, x2, x3⟩ := mCells_get ms j hjm
 obtain ⟨x4, x5, x6, x7⟩ := mCells_get ms (j + 1) hjn
 have y0 := hcell _ _ x0
 have y1 := hcell _ _ x1
 have y2 := hcell _ _ x2
 have y3 := hcell _ _ x3
 have z0 := hcell _ _ x4
 have z1 := hcell _ _ x5
 have z2 := hcell _ _ x6
 have z3 := hcell _ _ x7
 simp only [Value.slice.injEq] at hv
 obtain ⟨rfl, _, rfl⟩ := hv
 have hok := (MOk_iff _ _ _).1 (HST.out.row.2.1 ms[j] (List.getElem_mem hjm))
 have hok2 := (MOk_iff _ _ _).1 (HST.out.row.2.1 ms[j + 1] (List.getElem_mem hjn))
 obtain ⟨pa, ca, hxa⟩ := slice_of_owns hok.1
 obtain ⟨qa, da, hxk⟩ := slice_of_owns hok.2.1
 obtain ⟨pb, cb, hza⟩ := slice_of_owns hok2.1
 obtain ⟨qb, db, hzk⟩ := slice_of_owns hok2.2.1
 have hlt : (ms.take (j + 1)).length = j + 1 := by rw [List.length_take]; omega
 have htt : (ms.take (j + 1)).take j = ms.take j := by rw [List.take_take]; congr 1; omega
 have hall : (Value.slice (some ⟨g, 0, none⟩) ms.length rc :: (mVals (ms.take j) ++ (ms[j].vals ++ ms[j + 1].vals))).Pairwise Aside := by
  have h2 := HST.out.row.2.2
  have e3 := congrArg mVals (last_two hml hjm hjn)
  rw [mVals_append, show [ms[j], ms[j + 1]] = [ms[j]] ++ [ms[j + 1]] from rfl, mVals_append, mVals_one, mVals_one] at e3
  rw [e3] at h2
  exact h2
 have HAD : Hid (∀ V, Below W.heap.size W V → Calls Tryz.prog 49 #[.int .i64 3, .agg #[.int .i64 ms[j].kind, .int .i64 ms[j].op, ms[j].av, ms[j].kv], .agg #[.int .i64 ms[j + 1].kind, .int .i64 ms[j + 1].op, ms[j + 1].av, ms[j + 1].kv]] V fun e w' => PutRet w' base (ms[j].vals ++ ms[j + 1].vals) V.heap.size (Stil.addNet 3 ms[j].net ms[j + 1].net) e ∧ Below V.heap.size V w') := fun V h => by
  have hst := HST.out.below h
  have hsz := HS.out
  refine s_add 3 ms[j] ms[j + 1] base V (hst.row.2.1 _ (List.getElem_mem hjm)) (hst.row.2.1 _ (List.getElem_mem hjn)) (List.pairwise_append.1 (List.pairwise_cons.1 hall).2).2.1 ?_ (Nat.le_trans hbase hst.bel.size)
  have e4 := congrArg (fun l : List MNet => Stil.sizes (l.map MNet.net)) (last_two hml hjm hjn)
  simp only [List.map_append, Stil.sizes_append, List.map_cons, List.map_nil, Stil.sizes_cons, Stil.sizes_nil] at e4
  omega
 have HYC : Hid (∀ V, Below W.heap.size W V → (V.cell? ⟨g, j * 4, none⟩ = some (.int .i64 ms[j].kind) ∧ V.cell? ⟨g, j * 4 + 1, none⟩ = some (.int .i64 ms[j].op) ∧ V.cell? ⟨g, j * 4 + 2, none⟩ = some ms[j].av ∧ V.cell? ⟨g, j * 4 + 3, none⟩ = some ms[j].kv) ∧ V.frozen? ⟨g, j * 4, none⟩ = false ∧ V.frozen? ⟨g, j * 4 + 1, none⟩ = false ∧ V.frozen? ⟨g, j * 4 + 2, none⟩ = false ∧ V.frozen? ⟨g, j * 4 + 3, none⟩ = false) := fun V h =>
  ⟨⟨(h.cell hgl).trans y0, (h.cell hgl).trans y1, (h.cell hgl).trans y2, (h.cell hgl).trans y3⟩, (HST.out.below h).row.1.frozenAt _, (HST.out.below h).row.1.frozenAt _, (HST.out.below h).row.1.frozenAt _, (HST.out.below h).row.1.frozenAt _⟩
 have HFI : Hid (∀ (V : World) (M : MNet), Below W.heap.size W V → MOwn V base M → M.net = Stil.addNet 3 ms[j].net ms[j + 1].net → (∀ x ∈ M.vals, x ∈ ms[j].vals ++ ms[j + 1].vals ∨ ∀ q, x.ownBlock = some q → W.heap.size ≤ q) → MRow ((((V.setCell ⟨g, j * 4, none⟩ (.int .i64 M.kind)).setCell ⟨g, j * 4 + 1, none⟩ (.int .i64 M.op)).setCell ⟨g, j * 4 + 2, none⟩ M.av).setCell ⟨g, j * 4 + 3, none⟩ M.kv) base (.slice (some ⟨g, 0, none⟩) (j + 1) rc) ((ms.take (j + 1)).set j M) ∧ ((((ms.take (j + 1)).set j M)).map MNet.net).reverse = Stil.doNet 5 ⟨op, ds⟩ (ms.map MNet.net).reverse ∧ Below base w ((((V.setCell ⟨g, j * 4, none⟩ (.int .i64 M.kind)).setCell ⟨g, j * 4 + 1, none⟩ (.int .i64 M.op)).setCell ⟨g, j * 4 + 2, none⟩ M.av).setCell ⟨g, j * 4 + 3, none⟩ M.kv)) := fun V M h hM hn hv => by
  have hst := HST.out.below h
  refine ⟨?_, do_two (by simp) hml hjm hjn hn, bl4 (hst.bel.mono hbase) hgb⟩
  have hr := hst.row.firsts (n := j + 1) (by omega)
  rcases hr with hr | hr
  ·have hr2 : MRow V base (.slice (some ⟨g, 0, none⟩) (ms.take (j + 1)).length rc) (ms.take (j + 1)) := by rw [hlt]; exact hr
   have h3 := hr2.stored (i := j) (m := M) (by omega) hM.1 (by
    rw [last_set hlt, htt]
    refine swap_pair (vs := ms[j].vals ++ ms[j + 1].vals) (lo := W.heap.size) (pair_len hall) (fun x hx q hq => ?_) hM.2 hv
    refine Nat.lt_of_lt_of_le ?_ HST.out.bel.size
    rcases List.mem_cons.1 hx with rfl | hx
    ·exact HST.out.low (Value.slice (some ⟨g, 0, none⟩) ms.length rc) List.mem_cons_self q hq
    ·refine HST.out.low x (List.mem_cons_of_mem _ ?_) q hq
     rw [congrArg mVals (last_two hml hjm hjn), mVals_append]
     exact List.mem_append_left _ hx)
   rw [hlt] at h3
   exact h3
  ·omega
 have HLT : Hid ((ms.take (j + 1)).length = j + 1) := hlt
 obtain ⟨X, hX⟩ : ∃ X, X = ms[j] := ⟨_, rfl⟩
 obtain ⟨Z, hZ⟩ : ∃ X, X = ms[j + 1] := ⟨_, rfl⟩
 rw [← hX] at y0 y1 y2 y3 HAD HYC HFI hxa hxk
 rw [← hZ] at z0 z1 z2 z3 HAD HFI hza hzk
 obtain ⟨xk, xop, xds, xav, xkv, xks⟩ := X
 obtain ⟨zk, zop, zds, zav, zkv, zks⟩ := Z
 simp only at hxa hxk hza hzk y0 y1 y2 y3 z0 z1 z2 z3 HAD HYC
 subst hxa
 subst hxk
 subst hza
 subst hzk
 clear hX hZ hcell x0 x1 x2 x3 x4 x5 x6 x7 hok hok2 hn hall hlt htt
 obtain ⟨J, hJ⟩ : ∃ J, J = j + 1 := ⟨_, rfl⟩
 have hmJ : ms.length = J + 1 := by omega
 have e5 : ((J + 1 : Nat) : Int) - 1 = (J : Int) := by omega
 have e6 : (J : Int) - 1 = (j : Int) := by omega
 have i0 : j < J + 1 := by omega
 have i1 : (j : Int) < ((J + 1 : Nat) : Int) := by omega
 have i2 : j ≤ J := by omega
 have i3 : (j : Int) ≤ (J : Int) := by omega
 have i4 : j < J := by omega
 have i5 : (j : Int) < (J : Int) := by omega
 have hj9 : j ≤ 800000 := by omega
 have hw6 : IntKind.i64.wrap ((J : Int) - 1) = (j : Int) := by rw [IntKind.wrap_i64]; omega
 have hw8 : IntKind.i64.wrap (j : Int) = (j : Int) := by rw [IntKind.wrap_i64]; omega
 have hJ9 : J ≤ 800000 := by omega
 have hJc : J ≤ rc := by omega
 rw [← hJ] at z0 z1 z2 z3 HFI HLT
 rw [hmJ, e5]
 clear hml hjn hJ
 go_upto_region 16 with fail
 go_region_with (go_at_call 49; refine (HAD.out _ blA).mono ?_; rintro e w2 ⟨⟨mk, mop, mds, s0, t0, s1, t1, mks, rfl, hmo, hmn, hmv⟩, hb2⟩; have HMO : Hid (MOwn w2 base ⟨mk, mop, mds, .slice s0 mds.length t0, .slice s1 mks.length t1, mks⟩) := hmo; have HMN : Hid ((MNet.mk mk mop mds (.slice s0 mds.length t0) (.slice s1 mks.length t1) mks).net = _) := hmn; have HMV : Hid (∀ x ∈ (MNet.mk mk mop mds (.slice s0 mds.length t0) (.slice s1 mks.length t1) mks).vals, _ ∨ ∀ q, x.ownBlock = some q → W.heap.size ≤ q) := hmv; clear hmo hmn hmv y0 y1 y2 y3; obtain ⟨⟨y0, y1, y2, y3⟩, f0, f1, f2, f3⟩ := HYC.out w2 blA; have hB2 : Below W.heap.size W w2 := blA; have HB2 : Hid (Below W.heap.size W w2) := hB2; clear hB2)
 all_goals
  obtain ⟨hr1, hr2, hr3⟩ := HFI.out w2 (MNet.mk mk mop mds (.slice s0 mds.length t0) (.slice s1 mks.length t1) mks) HB2.out HMO.out HMN.out HMV.out
  simp only at hr1 hr3
  have HR1 : Hid (MRow _ base (.slice (some ⟨g, 0, none⟩) J rc) ((ms.take J).set j (MNet.mk mk mop mds (.slice s0 mds.length t0) (.slice s1 mks.length t1) mks))) := hr1
  have HR2 : Hid ((((ms.take J).set j (MNet.mk mk mop mds (.slice s0 mds.length t0) (.slice s1 mks.length t1) mks)).map MNet.net).reverse = _) := hr2
  have HR3 : Hid (Below base w _) := hr3
  clear hr1 hr2 hr3
  go_wp2
  go_ret
  refine ⟨some ⟨g, 0, none⟩, rc, (ms.take J).set j (MNet.mk mk mop mds (.slice s0 mds.length t0) (.slice s1 mks.length t1) mks), by rw [List.length_set, HLT.out]; rfl, ?_, HR2.out, HR3.out⟩
  rw [List.length_set, HLT.out]
  exact HR1.out
theorem s_do (i : Stil.Inst) (av : Value) (ms : List MNet) (ra : Option Addr) (rc base : Nat) (w : World) (hrow : MRow w base (.slice ra ms.length rc) ms) (hav : DevsAt w av i.one.args) (hf : i.fits) (hc : 1 ≤ i.code ∧ i.code ≤ 6) (hn : Stil.needs i.code ≤ ms.length) (hs : Stil.sizes (ms.map MNet.net) ≤ 800000) (hbase : base ≤ w.heap.size) :
  Calls Tryz.prog 22 #[.slice ra ms.length rc, .agg #[.int .i64 i.code, .int .i64 i.one.op, av]] w fun e w' => DoRet w w' base (Stil.doNet i.code i.one (ms.map MNet.net).reverse) e := by
 have h : i.code = 1 ∨ i.code = 2 ∨ i.code = 3 ∨ i.code = 4 ∨ i.code = 5 ∨ i.code = 6 := by omega
 rcases h with h | h | h | h | h | h
 ·exact s_do1 i av ms ra rc base w hrow hav hf h hn hs hbase
 ·exact s_do2 i av ms ra rc base w hrow hav hf h hn hs hbase
 ·exact s_do3 i av ms ra rc base w hrow hav hf h hn hs hbase
 ·exact s_do4 i av ms ra rc base w hrow hav hf h hn hs hbase
 ·exact s_do5 i av ms ra rc base w hrow hav hf h hn hs hbase
 ·exact s_do6 i av ms ra rc base w hrow hav hf h hn hs hbase
end Go.Proofs.YtpaljcoojkbhnaaGreatDoor
