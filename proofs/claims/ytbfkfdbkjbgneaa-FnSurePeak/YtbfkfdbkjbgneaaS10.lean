/- The specification's chapter 6: SureTrace. -/
import Derived.Test.YtbfkfdbkjbgneaaHn
namespace Go.Proofs.Ytbfkfdbkjbgneaa
open Go.RowKit Go.Sort Go.BigFrame
theorem own_else {w w' : World} {base : Nat} {e : TypeId} {size : Nat} {v : Value} {n : Nat} {xs : List Value} {r : Option Nat} (h : w.ownsRow base e size v n xs) (hg : w.grownBy w' r) (hr : ∀ k, v.ownBlock = some k → r ≠ some k) : w'.ownsRow base e size v n xs := by
  refine ⟨h.1, ?_⟩
  rcases h.2 with h0 | ⟨k, cap, cur, hv, hk, hh, hrest⟩
  · exact Or.inl h0
  · have hb : v.ownBlock = some k := by rw [hv]; rfl
    exact Or.inr ⟨k, cap, cur, hv, hk, by rw [hg.block k (h.lt k hb).2 (fun e => hr k hb e.symm)]; exact hh, hrest⟩
set_option maxHeartbeats 4000000 in
set_option maxRecDepth 100000 in
theorem s_sureTrace (l : List Stil.Inst) (v : Value) (w : World) (hv : InstsAt w v l) (hl : l.length ≤ 1048576) :
    Calls Try.prog 6 #[v] w fun e w' => ∃ (a : Option Addr) (c : Nat), e = .returned (.slice a (Stil.sureTrace l).length c) ∧ w'.ownsRow w.heap.size 26 2 (.slice a (Stil.sureTrace l).length c) (Stil.sureTrace l).length (stCells (Stil.sureTrace l)) ∧ Below w.heap.size w w' := by
  obtain ⟨i0, hi, hy0, hy1, hy2⟩ := info_parts info_state
  have HV : Hid (∀ W, Below w.heap.size w W → InstsAt W v l) := fun W h => hv.below h
  obtain ⟨a0, c0, rfl, -⟩ := hv
  have hown0 : ∀ o, ((w.alloc (.cells #[] 26)).alloc o).ownsRow w.heap.size 26 2 (.slice (some ⟨w.heap.size, 0, none⟩) 0 0) 0 [] := fun o => by
    have := (World.ownsRow_lit (base := w.heap.size) (e := 26) (size := 2) w #[] 0 (by omega) (by unfold maxLen; omega) rfl).alloc o
    simpa using this
  by_cases hbig : 1000 < l.length
  · have HT : Hid (Stil.sureTrace l = []) := if_pos hbig
    rw [HT.out]
    clear HT
    have hown1 : (w.alloc (.cells #[] 26)).ownsRow w.heap.size 26 2 (.slice (some ⟨w.heap.size, 0, none⟩) 0 0) 0 [] := by
      have := World.ownsRow_lit (base := w.heap.size) (e := 26) (size := 2) w #[] 0 (by omega) (by unfold maxLen; omega) rfl
      simpa using this
    go_enter Try.func6, Try.ntmps6
    go_wp2
    go_ret
    exact ⟨some ⟨w.heap.size, 0, none⟩, 0, rfl, hown1, by (repeat (first | with_reducible exact Below.refl _ _ | with_reducible assumption | with_reducible refine bl_set (by first | exact Nat.le_refl _ | (simp; done) | (simp; omega) | omega) ?_ _ | with_reducible refine bl_alloc ?_ _ | with_reducible refine bl_drewN ?_ _ | with_reducible refine bl_drew ?_ | with_reducible refine bl_grow ?_ _ _ | with_reducible refine bl_call ?_ (by assumption)))⟩
  have HT : Hid (Stil.sureTrace l = Stil.traceFrom (0, 0) l) := if_neg hbig
  rw [HT.out]
  have hlen := Stil.traceFrom_len l (0, 0)
  have HLEN : Hid ((Stil.traceFrom (0, 0) l).length = l.length) := hlen
  rw [hlen]
  clear HT hlen
  go_enter Try.func6, Try.ntmps6
  go_wp2
  go_loopw [3, 5] (fun tr i wr => ∃ (j : Nat) (a : Option Addr) (c : Nat), j ≤ l.length ∧ i = .int .i64 j ∧ tr = .slice a j c ∧ wr.ownsRow w.heap.size 26 2 (.slice a j c) j (stCells ((Stil.traceFrom (0, 0) l).take j)) ∧ (Value.slice a j c).ownBlock ≠ some (w.heap.size + 1) ∧ StBox wr (w.heap.size + 1) (Stil.stFrom (0, 0) l j) ∧ Below w.heap.size w wr) (fun _ i _ => l.length - (intOf i).toNat)
  case atStart =>
    refine ⟨0, some ⟨w.heap.size, 0, none⟩, 0, by omega, rfl, rfl, hown0 _, by simp [Value.ownBlock], ?_, by (repeat (first | with_reducible exact Below.refl _ _ | with_reducible assumption | with_reducible refine bl_set (by first | exact Nat.le_refl _ | (simp; done) | (simp; omega) | omega) ?_ _ | with_reducible refine bl_alloc ?_ _ | with_reducible refine bl_drewN ?_ _ | with_reducible refine bl_drew ?_ | with_reducible refine bl_grow ?_ _ _ | with_reducible refine bl_call ?_ (by assumption)))⟩
    rw [Stil.stFrom_zero]
    exact ⟨by simp, by simp [go_sem], by simp [go_sem], by simp [go_sem], by simp [go_sem]⟩
  case round =>
    clear hown0
    obtain ⟨j, a, c, hj, rfl, rfl, hown, hne, hbox, hB⟩ := hrel
    by_cases hlt : j < l.length
    case neg =>
      obtain rfl : j = l.length := by omega
      have HE : Hid ((Stil.traceFrom (0, 0) l).take l.length = Stil.traceFrom (0, 0) l) := List.take_of_length_le (by rw [HLEN.out]; exact Nat.le_refl _)
      rw [HE.out] at hown
      have HOW : Hid (wr.ownsRow w.heap.size 26 2 (.slice a l.length c) l.length (stCells (Stil.traceFrom (0, 0) l))) := hown
      clear hown hbox
      go_wp2
      go_ret
      exact ⟨a, c, rfl, HOW.out, hB⟩
    have HOW : Hid (wr.ownsRow w.heap.size 26 2 (.slice a j c) j (stCells ((Stil.traceFrom (0, 0) l).take j))) := hown
    obtain ⟨a', c', e', hat⟩ := HV.out wr hB
    cases e'
    obtain ⟨b, o, rfl, hbl, x0, x1, av, x2, hav⟩ := hat j hlt
    have hbd := Stil.st_bound l (0, 0) j
    simp only at hbd
    have HSN : Hid ((Stil.traceFrom (0, 0) l).take (j + 1) = (Stil.traceFrom (0, 0) l).take j ++ [Stil.step (Stil.stFrom (0, 0) l j) l[j].code]) := Stil.trace_snoc l j hlt
    have HSU : Hid (Stil.stFrom (0, 0) l (j + 1) = Stil.step (Stil.stFrom (0, 0) l j) l[j].code) := Stil.stFrom_succ l (0, 0) j hlt
    obtain ⟨⟨B, F⟩, hs⟩ : ∃ s, s = Stil.stFrom (0, 0) l j := ⟨_, rfl⟩
    rw [← hs] at HSN HSU hbd hbox
    have HBX : Hid (StBox wr (w.heap.size + 1) (B, F)) := hbox
    obtain ⟨cd, hcd⟩ : ∃ x, x = l[j].code := ⟨_, rfl⟩
    rw [← hcd] at HSN HSU x0
    obtain ⟨hz, b0, b1, p0, p1⟩ := hbox
    simp only at b0 b1 hbd
    have k1 : IntKind.i64.wrap (B + 1) = B + 1 := by rw [IntKind.wrap_i64]; omega
    have k2 : IntKind.i64.wrap (B - 1) = B - 1 := by rw [IntKind.wrap_i64]; omega
    have k3 : IntKind.i64.wrap (F + 1) = F + 1 := by rw [IntKind.wrap_i64]; omega
    have k4 : IntKind.i64.wrap (F - 1) = F - 1 := by rw [IntKind.wrap_i64]; omega
    clear hs hcd hat hown x1 x2 hav
    rcases Classical.em (cd = 1) with hc | n1
    · skip
      subst hc
      have HS : Hid (Stil.step (B, F) 1 = (B + 1, F)) := by show _ = _; simp [Stil.step]
      rw [HS.out] at HSN HSU
      go_upto_region 19 with fail
      obtain ⟨W4, hW4⟩ : ∃ W4, W4 = wr.setCell ⟨w.heap.size + 1, 0, none⟩ (.int .i64 (B + 1)) := ⟨_, rfl⟩
      have hbox4 : StBox W4 (w.heap.size + 1) (B + 1, F) := by
        rw [hW4]
        exact ⟨by simp; omega, cell_set_at b0, (cell_set_off (by omega)).trans b1, frozen_set.trans p0, frozen_set.trans p1⟩
      have hB4 : Below w.heap.size w W4 := by rw [hW4]; exact bl_set (by simp) hB _
      have HOW4 : Hid (W4.ownsRow w.heap.size 26 2 (.slice a j c) j (stCells ((Stil.traceFrom (0, 0) l).take j))) := by
        rw [hW4]
        exact own_else HOW.out (grown_set _ _ _ _) (fun k hk e => hne (by rw [hk]; exact e.symm))
      rw [← hW4]
      obtain ⟨S, hS⟩ : ∃ S : Int × Int, S = (B + 1, F) := ⟨_, rfl⟩
      clear b0 b1 p0 p1
      have b0 : W4.cell? ⟨w.heap.size + 1, 0, none⟩ = some (.int .i64 S.1) := by rw [hS]; exact hbox4.2.1
      have b1 : W4.cell? ⟨w.heap.size + 1, 1, none⟩ = some (.int .i64 S.2) := by rw [hS]; exact hbox4.2.2.1
      rw [← hS] at HSN HSU hbox4
      have HBX4 : Hid (StBox W4 (w.heap.size + 1) S) := hbox4
      have hz4 := hbox4.1
      clear hW4 hS HS HBX HOW
      go_wp2_with (at_builtin; refine wpList_append_own_at _ rfl _ _ 28 rfl w.heap.size 26 i0 (.agg #[.int .i64 0, .int .i64 0]) 2 16 Try.underlying28 hi hy0 hy1 hy2 rfl (by decide) _ _ _ rfl (HOW4.out.alloc _) _ _ _ [.int .i64 S.1, .int .i64 S.2] rfl rfl (by exact cells_new _ _ _ _ (by simp)) (by intro u hu; simp at hu; rcases hu with rfl | rfl <;> rfl) (by unfold maxLen; omega) (by omega) (by rw [World.size_alloc]; omega) ?_; intro v' w6 hown6 hgr6 hnil6 hat6; obtain ⟨av6, vc6, hv6, _⟩ := own_open hown6; subst hv6)
      have hlo : ∀ k, (Value.slice a j c).ownBlock = some k → w.heap.size ≤ k := fun k hk => (HOW4.out.lt k hk).1
      refine ⟨⟨j + 1, av6, vc6, by omega, by go_num, rfl, ?_, ?_, ?_, ?_⟩, by simp [intOf]; omega⟩
      · rw [HSN.out, stCells_snoc]; exact hown6
      · intro e
        rcases hat6 with h | h
        · rw [h] at e; exact hne e
        · rw [h] at e; simp at e; omega
      · rw [HSU.out]
        exact (HBX4.out.grown (r := none) (grown_below (below_alloc _ _) _) (by simp)).grown hgr6 (fun e => hne e)
      · have h1 : w.grownBy w6 none := gr_own (grown_below (bl_alloc hB4 _) none) hgr6 (fun k hk => by have := hlo k hk; omega)
        exact ⟨h1.os, h1.tape, h1.output, h1.size, fun k hk => h1.block k hk (by simp)⟩
    rcases Classical.em (cd = 4) with hc | n4
    · skip
      subst hc
      have HS : Hid (Stil.step (B, F) 4 = (B - 1, F)) := by show _ = _; simp [Stil.step]
      rw [HS.out] at HSN HSU
      go_upto_region 19 with fail
      obtain ⟨W4, hW4⟩ : ∃ W4, W4 = wr.setCell ⟨w.heap.size + 1, 0, none⟩ (.int .i64 (B - 1)) := ⟨_, rfl⟩
      have hbox4 : StBox W4 (w.heap.size + 1) (B - 1, F) := by
        rw [hW4]
        exact ⟨by simp; omega, cell_set_at b0, (cell_set_off (by omega)).trans b1, frozen_set.trans p0, frozen_set.trans p1⟩
      have hB4 : Below w.heap.size w W4 := by rw [hW4]; exact bl_set (by simp) hB _
      have HOW4 : Hid (W4.ownsRow w.heap.size 26 2 (.slice a j c) j (stCells ((Stil.traceFrom (0, 0) l).take j))) := by
        rw [hW4]
        exact own_else HOW.out (grown_set _ _ _ _) (fun k hk e => hne (by rw [hk]; exact e.symm))
      rw [← hW4]
      obtain ⟨S, hS⟩ : ∃ S : Int × Int, S = (B - 1, F) := ⟨_, rfl⟩
      clear b0 b1 p0 p1
      have b0 : W4.cell? ⟨w.heap.size + 1, 0, none⟩ = some (.int .i64 S.1) := by rw [hS]; exact hbox4.2.1
      have b1 : W4.cell? ⟨w.heap.size + 1, 1, none⟩ = some (.int .i64 S.2) := by rw [hS]; exact hbox4.2.2.1
      rw [← hS] at HSN HSU hbox4
      have HBX4 : Hid (StBox W4 (w.heap.size + 1) S) := hbox4
      have hz4 := hbox4.1
      clear hW4 hS HS HBX HOW
      go_wp2_with (at_builtin; refine wpList_append_own_at _ rfl _ _ 28 rfl w.heap.size 26 i0 (.agg #[.int .i64 0, .int .i64 0]) 2 16 Try.underlying28 hi hy0 hy1 hy2 rfl (by decide) _ _ _ rfl (HOW4.out.alloc _) _ _ _ [.int .i64 S.1, .int .i64 S.2] rfl rfl (by exact cells_new _ _ _ _ (by simp)) (by intro u hu; simp at hu; rcases hu with rfl | rfl <;> rfl) (by unfold maxLen; omega) (by omega) (by rw [World.size_alloc]; omega) ?_; intro v' w6 hown6 hgr6 hnil6 hat6; obtain ⟨av6, vc6, hv6, _⟩ := own_open hown6; subst hv6)
      have hlo : ∀ k, (Value.slice a j c).ownBlock = some k → w.heap.size ≤ k := fun k hk => (HOW4.out.lt k hk).1
      refine ⟨⟨j + 1, av6, vc6, by omega, by go_num, rfl, ?_, ?_, ?_, ?_⟩, by simp [intOf]; omega⟩
      · rw [HSN.out, stCells_snoc]; exact hown6
      · intro e
        rcases hat6 with h | h
        · rw [h] at e; exact hne e
        · rw [h] at e; simp at e; omega
      · rw [HSU.out]
        exact (HBX4.out.grown (r := none) (grown_below (below_alloc _ _) _) (by simp)).grown hgr6 (fun e => hne e)
      · have h1 : w.grownBy w6 none := gr_own (grown_below (bl_alloc hB4 _) none) hgr6 (fun k hk => by have := hlo k hk; omega)
        exact ⟨h1.os, h1.tape, h1.output, h1.size, fun k hk => h1.block k hk (by simp)⟩
    rcases Classical.em (cd = 5) with hc | n5
    · skip
      subst hc
      have HS : Hid (Stil.step (B, F) 5 = (B - 1, F)) := by show _ = _; simp [Stil.step]
      rw [HS.out] at HSN HSU
      go_upto_region 19 with fail
      obtain ⟨W4, hW4⟩ : ∃ W4, W4 = wr.setCell ⟨w.heap.size + 1, 0, none⟩ (.int .i64 (B - 1)) := ⟨_, rfl⟩
      have hbox4 : StBox W4 (w.heap.size + 1) (B - 1, F) := by
        rw [hW4]
        exact ⟨by simp; omega, cell_set_at b0, (cell_set_off (by omega)).trans b1, frozen_set.trans p0, frozen_set.trans p1⟩
      have hB4 : Below w.heap.size w W4 := by rw [hW4]; exact bl_set (by simp) hB _
      have HOW4 : Hid (W4.ownsRow w.heap.size 26 2 (.slice a j c) j (stCells ((Stil.traceFrom (0, 0) l).take j))) := by
        rw [hW4]
        exact own_else HOW.out (grown_set _ _ _ _) (fun k hk e => hne (by rw [hk]; exact e.symm))
      rw [← hW4]
      obtain ⟨S, hS⟩ : ∃ S : Int × Int, S = (B - 1, F) := ⟨_, rfl⟩
      clear b0 b1 p0 p1
      have b0 : W4.cell? ⟨w.heap.size + 1, 0, none⟩ = some (.int .i64 S.1) := by rw [hS]; exact hbox4.2.1
      have b1 : W4.cell? ⟨w.heap.size + 1, 1, none⟩ = some (.int .i64 S.2) := by rw [hS]; exact hbox4.2.2.1
      rw [← hS] at HSN HSU hbox4
      have HBX4 : Hid (StBox W4 (w.heap.size + 1) S) := hbox4
      have hz4 := hbox4.1
      clear hW4 hS HS HBX HOW
      go_wp2_with (at_builtin; refine wpList_append_own_at _ rfl _ _ 28 rfl w.heap.size 26 i0 (.agg #[.int .i64 0, .int .i64 0]) 2 16 Try.underlying28 hi hy0 hy1 hy2 rfl (by decide) _ _ _ rfl (HOW4.out.alloc _) _ _ _ [.int .i64 S.1, .int .i64 S.2] rfl rfl (by exact cells_new _ _ _ _ (by simp)) (by intro u hu; simp at hu; rcases hu with rfl | rfl <;> rfl) (by unfold maxLen; omega) (by omega) (by rw [World.size_alloc]; omega) ?_; intro v' w6 hown6 hgr6 hnil6 hat6; obtain ⟨av6, vc6, hv6, _⟩ := own_open hown6; subst hv6)
      have hlo : ∀ k, (Value.slice a j c).ownBlock = some k → w.heap.size ≤ k := fun k hk => (HOW4.out.lt k hk).1
      refine ⟨⟨j + 1, av6, vc6, by omega, by go_num, rfl, ?_, ?_, ?_, ?_⟩, by simp [intOf]; omega⟩
      · rw [HSN.out, stCells_snoc]; exact hown6
      · intro e
        rcases hat6 with h | h
        · rw [h] at e; exact hne e
        · rw [h] at e; simp at e; omega
      · rw [HSU.out]
        exact (HBX4.out.grown (r := none) (grown_below (below_alloc _ _) _) (by simp)).grown hgr6 (fun e => hne e)
      · have h1 : w.grownBy w6 none := gr_own (grown_below (bl_alloc hB4 _) none) hgr6 (fun k hk => by have := hlo k hk; omega)
        exact ⟨h1.os, h1.tape, h1.output, h1.size, fun k hk => h1.block k hk (by simp)⟩
    rcases Classical.em (cd = 11) with hc | n11
    · skip
      subst hc
      have HS : Hid (Stil.step (B, F) 11 = (B - 1, F)) := by show _ = _; simp [Stil.step]
      rw [HS.out] at HSN HSU
      go_upto_region 19 with fail
      obtain ⟨W4, hW4⟩ : ∃ W4, W4 = wr.setCell ⟨w.heap.size + 1, 0, none⟩ (.int .i64 (B - 1)) := ⟨_, rfl⟩
      have hbox4 : StBox W4 (w.heap.size + 1) (B - 1, F) := by
        rw [hW4]
        exact ⟨by simp; omega, cell_set_at b0, (cell_set_off (by omega)).trans b1, frozen_set.trans p0, frozen_set.trans p1⟩
      have hB4 : Below w.heap.size w W4 := by rw [hW4]; exact bl_set (by simp) hB _
      have HOW4 : Hid (W4.ownsRow w.heap.size 26 2 (.slice a j c) j (stCells ((Stil.traceFrom (0, 0) l).take j))) := by
        rw [hW4]
        exact own_else HOW.out (grown_set _ _ _ _) (fun k hk e => hne (by rw [hk]; exact e.symm))
      rw [← hW4]
      obtain ⟨S, hS⟩ : ∃ S : Int × Int, S = (B - 1, F) := ⟨_, rfl⟩
      clear b0 b1 p0 p1
      have b0 : W4.cell? ⟨w.heap.size + 1, 0, none⟩ = some (.int .i64 S.1) := by rw [hS]; exact hbox4.2.1
      have b1 : W4.cell? ⟨w.heap.size + 1, 1, none⟩ = some (.int .i64 S.2) := by rw [hS]; exact hbox4.2.2.1
      rw [← hS] at HSN HSU hbox4
      have HBX4 : Hid (StBox W4 (w.heap.size + 1) S) := hbox4
      have hz4 := hbox4.1
      clear hW4 hS HS HBX HOW
      go_wp2_with (at_builtin; refine wpList_append_own_at _ rfl _ _ 28 rfl w.heap.size 26 i0 (.agg #[.int .i64 0, .int .i64 0]) 2 16 Try.underlying28 hi hy0 hy1 hy2 rfl (by decide) _ _ _ rfl (HOW4.out.alloc _) _ _ _ [.int .i64 S.1, .int .i64 S.2] rfl rfl (by exact cells_new _ _ _ _ (by simp)) (by intro u hu; simp at hu; rcases hu with rfl | rfl <;> rfl) (by unfold maxLen; omega) (by omega) (by rw [World.size_alloc]; omega) ?_; intro v' w6 hown6 hgr6 hnil6 hat6; obtain ⟨av6, vc6, hv6, _⟩ := own_open hown6; subst hv6)
      have hlo : ∀ k, (Value.slice a j c).ownBlock = some k → w.heap.size ≤ k := fun k hk => (HOW4.out.lt k hk).1
      refine ⟨⟨j + 1, av6, vc6, by omega, by go_num, rfl, ?_, ?_, ?_, ?_⟩, by simp [intOf]; omega⟩
      · rw [HSN.out, stCells_snoc]; exact hown6
      · intro e
        rcases hat6 with h | h
        · rw [h] at e; exact hne e
        · rw [h] at e; simp at e; omega
      · rw [HSU.out]
        exact (HBX4.out.grown (r := none) (grown_below (below_alloc _ _) _) (by simp)).grown hgr6 (fun e => hne e)
      · have h1 : w.grownBy w6 none := gr_own (grown_below (bl_alloc hB4 _) none) hgr6 (fun k hk => by have := hlo k hk; omega)
        exact ⟨h1.os, h1.tape, h1.output, h1.size, fun k hk => h1.block k hk (by simp)⟩
    rcases Classical.em (cd = 7) with hc | n7
    · skip
      subst hc
      have HS : Hid (Stil.step (B, F) 7 = (B, F + 1)) := by show _ = _; simp [Stil.step]
      rw [HS.out] at HSN HSU
      go_upto_region 19 with fail
      obtain ⟨W4, hW4⟩ : ∃ W4, W4 = wr.setCell ⟨w.heap.size + 1, 1, none⟩ (.int .i64 (F + 1)) := ⟨_, rfl⟩
      have hbox4 : StBox W4 (w.heap.size + 1) (B, F + 1) := by
        rw [hW4]
        exact ⟨by simp; omega, (cell_set_off (by omega)).trans b0, cell_set_at b1, frozen_set.trans p0, frozen_set.trans p1⟩
      have hB4 : Below w.heap.size w W4 := by rw [hW4]; exact bl_set (by simp) hB _
      have HOW4 : Hid (W4.ownsRow w.heap.size 26 2 (.slice a j c) j (stCells ((Stil.traceFrom (0, 0) l).take j))) := by
        rw [hW4]
        exact own_else HOW.out (grown_set _ _ _ _) (fun k hk e => hne (by rw [hk]; exact e.symm))
      rw [← hW4]
      obtain ⟨S, hS⟩ : ∃ S : Int × Int, S = (B, F + 1) := ⟨_, rfl⟩
      clear b0 b1 p0 p1
      have b0 : W4.cell? ⟨w.heap.size + 1, 0, none⟩ = some (.int .i64 S.1) := by rw [hS]; exact hbox4.2.1
      have b1 : W4.cell? ⟨w.heap.size + 1, 1, none⟩ = some (.int .i64 S.2) := by rw [hS]; exact hbox4.2.2.1
      rw [← hS] at HSN HSU hbox4
      have HBX4 : Hid (StBox W4 (w.heap.size + 1) S) := hbox4
      have hz4 := hbox4.1
      clear hW4 hS HS HBX HOW
      go_wp2_with (at_builtin; refine wpList_append_own_at _ rfl _ _ 28 rfl w.heap.size 26 i0 (.agg #[.int .i64 0, .int .i64 0]) 2 16 Try.underlying28 hi hy0 hy1 hy2 rfl (by decide) _ _ _ rfl (HOW4.out.alloc _) _ _ _ [.int .i64 S.1, .int .i64 S.2] rfl rfl (by exact cells_new _ _ _ _ (by simp)) (by intro u hu; simp at hu; rcases hu with rfl | rfl <;> rfl) (by unfold maxLen; omega) (by omega) (by rw [World.size_alloc]; omega) ?_; intro v' w6 hown6 hgr6 hnil6 hat6; obtain ⟨av6, vc6, hv6, _⟩ := own_open hown6; subst hv6)
      have hlo : ∀ k, (Value.slice a j c).ownBlock = some k → w.heap.size ≤ k := fun k hk => (HOW4.out.lt k hk).1
      refine ⟨⟨j + 1, av6, vc6, by omega, by go_num, rfl, ?_, ?_, ?_, ?_⟩, by simp [intOf]; omega⟩
      · rw [HSN.out, stCells_snoc]; exact hown6
      · intro e
        rcases hat6 with h | h
        · rw [h] at e; exact hne e
        · rw [h] at e; simp at e; omega
      · rw [HSU.out]
        exact (HBX4.out.grown (r := none) (grown_below (below_alloc _ _) _) (by simp)).grown hgr6 (fun e => hne e)
      · have h1 : w.grownBy w6 none := gr_own (grown_below (bl_alloc hB4 _) none) hgr6 (fun k hk => by have := hlo k hk; omega)
        exact ⟨h1.os, h1.tape, h1.output, h1.size, fun k hk => h1.block k hk (by simp)⟩
    rcases Classical.em (cd = 9) with hc | n9
    · skip
      subst hc
      have HS : Hid (Stil.step (B, F) 9 = (B, F - 1)) := by show _ = _; simp [Stil.step]
      rw [HS.out] at HSN HSU
      go_upto_region 19 with fail
      obtain ⟨W4, hW4⟩ : ∃ W4, W4 = wr.setCell ⟨w.heap.size + 1, 1, none⟩ (.int .i64 (F - 1)) := ⟨_, rfl⟩
      have hbox4 : StBox W4 (w.heap.size + 1) (B, F - 1) := by
        rw [hW4]
        exact ⟨by simp; omega, (cell_set_off (by omega)).trans b0, cell_set_at b1, frozen_set.trans p0, frozen_set.trans p1⟩
      have hB4 : Below w.heap.size w W4 := by rw [hW4]; exact bl_set (by simp) hB _
      have HOW4 : Hid (W4.ownsRow w.heap.size 26 2 (.slice a j c) j (stCells ((Stil.traceFrom (0, 0) l).take j))) := by
        rw [hW4]
        exact own_else HOW.out (grown_set _ _ _ _) (fun k hk e => hne (by rw [hk]; exact e.symm))
      rw [← hW4]
      obtain ⟨S, hS⟩ : ∃ S : Int × Int, S = (B, F - 1) := ⟨_, rfl⟩
      clear b0 b1 p0 p1
      have b0 : W4.cell? ⟨w.heap.size + 1, 0, none⟩ = some (.int .i64 S.1) := by rw [hS]; exact hbox4.2.1
      have b1 : W4.cell? ⟨w.heap.size + 1, 1, none⟩ = some (.int .i64 S.2) := by rw [hS]; exact hbox4.2.2.1
      rw [← hS] at HSN HSU hbox4
      have HBX4 : Hid (StBox W4 (w.heap.size + 1) S) := hbox4
      have hz4 := hbox4.1
      clear hW4 hS HS HBX HOW
      go_wp2_with (at_builtin; refine wpList_append_own_at _ rfl _ _ 28 rfl w.heap.size 26 i0 (.agg #[.int .i64 0, .int .i64 0]) 2 16 Try.underlying28 hi hy0 hy1 hy2 rfl (by decide) _ _ _ rfl (HOW4.out.alloc _) _ _ _ [.int .i64 S.1, .int .i64 S.2] rfl rfl (by exact cells_new _ _ _ _ (by simp)) (by intro u hu; simp at hu; rcases hu with rfl | rfl <;> rfl) (by unfold maxLen; omega) (by omega) (by rw [World.size_alloc]; omega) ?_; intro v' w6 hown6 hgr6 hnil6 hat6; obtain ⟨av6, vc6, hv6, _⟩ := own_open hown6; subst hv6)
      have hlo : ∀ k, (Value.slice a j c).ownBlock = some k → w.heap.size ≤ k := fun k hk => (HOW4.out.lt k hk).1
      refine ⟨⟨j + 1, av6, vc6, by omega, by go_num, rfl, ?_, ?_, ?_, ?_⟩, by simp [intOf]; omega⟩
      · rw [HSN.out, stCells_snoc]; exact hown6
      · intro e
        rcases hat6 with h | h
        · rw [h] at e; exact hne e
        · rw [h] at e; simp at e; omega
      · rw [HSU.out]
        exact (HBX4.out.grown (r := none) (grown_below (below_alloc _ _) _) (by simp)).grown hgr6 (fun e => hne e)
      · have h1 : w.grownBy w6 none := gr_own (grown_below (bl_alloc hB4 _) none) hgr6 (fun k hk => by have := hlo k hk; omega)
        exact ⟨h1.os, h1.tape, h1.output, h1.size, fun k hk => h1.block k hk (by simp)⟩
    · skip
      have m1 : (cd == 1) = false := beq_eq_false_iff_ne.2 n1
      have m4 : (cd == 4) = false := beq_eq_false_iff_ne.2 n4
      have m5 : (cd == 5) = false := beq_eq_false_iff_ne.2 n5
      have m11 : (cd == 11) = false := beq_eq_false_iff_ne.2 n11
      have m7 : (cd == 7) = false := beq_eq_false_iff_ne.2 n7
      have m9 : (cd == 9) = false := beq_eq_false_iff_ne.2 n9
      have HS : Hid (Stil.step (B, F) cd = (B, F)) := by show _ = _; simp [Stil.step, n1, n4, n5, n7, n9, n11]
      rw [HS.out] at HSN HSU
      go_upto_region 19 with fail
      have hbox4 : StBox wr (w.heap.size + 1) (B, F) := HBX.out
      have HOW4 : Hid (wr.ownsRow w.heap.size 26 2 (.slice a j c) j (stCells ((Stil.traceFrom (0, 0) l).take j))) := HOW.out
      have hB4 : Below w.heap.size w wr := hB
      obtain ⟨S, hS⟩ : ∃ S : Int × Int, S = (B, F) := ⟨_, rfl⟩
      clear b0 b1 p0 p1
      have b0 : wr.cell? ⟨w.heap.size + 1, 0, none⟩ = some (.int .i64 S.1) := by rw [hS]; exact hbox4.2.1
      have b1 : wr.cell? ⟨w.heap.size + 1, 1, none⟩ = some (.int .i64 S.2) := by rw [hS]; exact hbox4.2.2.1
      rw [← hS] at HSN HSU hbox4
      have HBX4 : Hid (StBox wr (w.heap.size + 1) S) := hbox4
      have hz4 := hbox4.1
      clear hS HS HBX HOW
      go_wp2_with (at_builtin; refine wpList_append_own_at _ rfl _ _ 28 rfl w.heap.size 26 i0 (.agg #[.int .i64 0, .int .i64 0]) 2 16 Try.underlying28 hi hy0 hy1 hy2 rfl (by decide) _ _ _ rfl (HOW4.out.alloc _) _ _ _ [.int .i64 S.1, .int .i64 S.2] rfl rfl (by exact cells_new _ _ _ _ (by simp)) (by intro u hu; simp at hu; rcases hu with rfl | rfl <;> rfl) (by unfold maxLen; omega) (by omega) (by rw [World.size_alloc]; omega) ?_; intro v' w6 hown6 hgr6 hnil6 hat6; obtain ⟨av6, vc6, hv6, _⟩ := own_open hown6; subst hv6)
      have hlo : ∀ k, (Value.slice a j c).ownBlock = some k → w.heap.size ≤ k := fun k hk => (HOW4.out.lt k hk).1
      refine ⟨⟨j + 1, av6, vc6, by omega, by go_num, rfl, ?_, ?_, ?_, ?_⟩, by simp [intOf]; omega⟩
      · rw [HSN.out, stCells_snoc]; exact hown6
      · intro e
        rcases hat6 with h | h
        · rw [h] at e; exact hne e
        · rw [h] at e; simp at e; omega
      · rw [HSU.out]
        exact (HBX4.out.grown (r := none) (grown_below (below_alloc _ _) _) (by simp)).grown hgr6 (fun e => hne e)
      · have h1 : w.grownBy w6 none := gr_own (grown_below (bl_alloc hB4 _) none) hgr6 (fun k hk => by have := hlo k hk; omega)
        exact ⟨h1.os, h1.tape, h1.output, h1.size, fun k hk => h1.block k hk (by simp)⟩
end Go.Proofs.Ytbfkfdbkjbgneaa
