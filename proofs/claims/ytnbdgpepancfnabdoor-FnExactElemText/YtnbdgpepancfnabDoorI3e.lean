/- Contracts of the program's chapter 2, sixth part: whether the operands fit. -/
import Derived.Test.YtnbdgpepancfnabDoorI3d
namespace Go.Proofs.YtnbdgpepancfnabDoor
open Go.RowKit Go.Sort Go.BigFrame
theorem row_word (x0 x1 x2 x3 x4 x5 x6 x7 : Value) (w : World) : (Instr.field 52 (.agg #[x0, x1, x2, x3, x4, x5, x6, x7]) 0).run Tryd.prog w = .ok x0 w := by kernel_rfl
theorem row_write (x0 x1 x2 x3 x4 x5 x6 x7 : Value) (w : World) : (Instr.field 52 (.agg #[x0, x1, x2, x3, x4, x5, x6, x7]) 1).run Tryd.prog w = .ok x1 w := by kernel_rfl
theorem row_ways (x0 x1 x2 x3 x4 x5 x6 x7 : Value) (w : World) : (Instr.field 52 (.agg #[x0, x1, x2, x3, x4, x5, x6, x7]) 2).run Tryd.prog w = .ok (.agg #[x2, x3, x4, x5, x6, x7]) w := by kernel_rfl
theorem way_ix0 (x2 x3 x4 x5 x6 x7 : Value) (w : World) : (Instr.index 50 (.agg #[x2, x3, x4, x5, x6, x7]) (.int .i64 0)).run Tryd.prog w = .ok (.agg #[x2, x3, x4]) w := by kernel_rfl
theorem way_ix1 (x2 x3 x4 x5 x6 x7 : Value) (w : World) : (Instr.index 50 (.agg #[x2, x3, x4, x5, x6, x7]) (.int .i64 1)).run Tryd.prog w = .ok (.agg #[x5, x6, x7]) w := by kernel_rfl
def WayFn (l : List Nat) (ps : List (Stil.Dev → Bool)) : Prop := l.length = ps.length ∧ l.length ≤ 3 ∧ ∀ i (h1 : i < l.length) (h2 : i < ps.length), l[i] ≠ 0 ∧ PlaceFn l[i] ps[i]
set_option maxHeartbeats 1000000 in
set_option maxRecDepth 100000 in
theorem i_fits (op : Int) (p0 p1 : List (Stil.Dev → Bool)) (v : Value) (ds : List Stil.Dev) (w : World) (hr : RowsAt w) (h0 : WayFn (rowOf op).2.2.1 p0) (h1 : WayFn (rowOf op).2.2.2 p1)
    (hat : DevsAt w v ds) (hf : ∀ x ∈ ds, x.fits) (hlen : ds.length ≤ 9223372036854775807) :
    Calls Tryd.prog 20 #[.agg #[.int .i64 op, v]] w fun e w' => e = .returned (.bool (takesB p0 ds || takesB p1 ds)) ∧ Below w.heap.size w w' := by
  obtain ⟨r, hr'⟩ : ∃ r, r = rowOf op := ⟨_, rfl⟩
  rw [← hr'] at h0 h1
  have HRow : Hid (∀ W, Calls Tryd.prog 28 #[.int .i64 op] W fun e w' => e = .returned (rowVal r) ∧ Below W.heap.size W w') := by intro W; rw [hr']; exact i_rowOf op W
  have HA : Hid (∀ W, Below w.heap.size w W → DevsAt W v ds) := fun W h => hat.below h
  have HR : Hid (∀ W, Below w.heap.size w W → RowsAt W) := fun W h => hr.below h
  have H0 : Hid (∀ W, Below w.heap.size w W → Calls Tryd.prog 31 #[wayVal r.2.2.1, v] W fun e w' => e = .returned (.bool (takesB p0 ds)) ∧ Below W.heap.size W w') := fun W h => i_takes _ _ v ds W (HR.out W h) h0.1 h0.2.1 h0.2.2 (HA.out W h) hf hlen
  have H1 : Hid (∀ W, Below w.heap.size w W → Calls Tryd.prog 31 #[wayVal r.2.2.2, v] W fun e w' => e = .returned (.bool (takesB p1 ds)) ∧ Below W.heap.size W w') := fun W h => i_takes _ _ v ds W (HR.out W h) h1.1 h1.2.1 h1.2.2 (HA.out W h) hf hlen
  obtain ⟨a, cap, rfl, _⟩ := hat
  obtain ⟨s, hs⟩ : ∃ s, s = r.1 := ⟨_, rfl⟩
  obtain ⟨n0, e0⟩ : ∃ n, n = r.2.1 := ⟨_, rfl⟩
  obtain ⟨n1, e1⟩ : ∃ n, n = r.2.2.1.getD 0 0 := ⟨_, rfl⟩
  obtain ⟨n2, e2⟩ : ∃ n, n = r.2.2.1.getD 1 0 := ⟨_, rfl⟩
  obtain ⟨n3, e3⟩ : ∃ n, n = r.2.2.1.getD 2 0 := ⟨_, rfl⟩
  obtain ⟨n4, e4⟩ : ∃ n, n = r.2.2.2.getD 0 0 := ⟨_, rfl⟩
  obtain ⟨n5, e5⟩ : ∃ n, n = r.2.2.2.getD 1 0 := ⟨_, rfl⟩
  obtain ⟨n6, e6⟩ : ∃ n, n = r.2.2.2.getD 2 0 := ⟨_, rfl⟩
  have hw0 : wayVal r.2.2.1 = .agg #[fnv n1, fnv n2, fnv n3] := by rw [wayVal, e1, e2, e3]
  have hw1 : wayVal r.2.2.2 = .agg #[fnv n4, fnv n5, fnv n6] := by rw [wayVal, e4, e5, e6]
  have hrv : rowVal r = .agg #[.string ⟨s.toArray⟩, fnv n0, fnv n1, fnv n2, fnv n3, fnv n4, fnv n5, fnv n6] := by rw [rowVal, hs, e0, e1, e2, e3, e4, e5, e6]
  rw [hw0] at H0
  rw [hw1] at H1
  rw [hrv] at HRow
  clear h0 h1 hr hr' hs e0 e1 e2 e3 e4 e5 e6 hw0 hw1 hrv HA
  have hst := run_store_fnv
  have hfd := row_ways
  have hix0 := way_ix0
  have hix1 := way_ix1
  generalize takesB p0 ds = t0 at H0 ⊢
  generalize takesB p1 ds = t1 at H1 ⊢
  go_enter Tryd.func20, Tryd.ntmps20
  go_wp2_with (go_at_call 28; refine (HRow.out _).mono ?_; rintro e w1 ⟨rfl, hb⟩; obtain ⟨hc, hfz⟩ := bcell hb; have hz := below_lt hb; have hbw1 : Below w.heap.size w w1 := below_two hb)
  cases t0
  · cases t1
    · refine wp_loop_rounds 3 ?_
      rw [rounds_succ]
      go_wp2_with (go_at_call 31; refine (H0.out _ (bl_alloc hbw1 _)).mono ?_; rintro e w2 ⟨rfl, hb2⟩; obtain ⟨hc2, hfz2⟩ := bcell hb2; have hz2 : w.heap.size < w2.heap.size := Nat.lt_of_lt_of_le hz (Nat.le_trans (by simp) hb2.size); have hbw2 : Below w.heap.size w w2 := bl_call (bl_alloc hbw1 _) hb2)
      rw [rounds_succ]
      go_wp2_with (go_at_call 31; refine (H1.out _ (bl_alloc hbw2 _)).mono ?_; rintro e w3 ⟨rfl, hb3⟩; have hbw3 : Below w.heap.size w w3 := bl_call (bl_alloc hbw2 _) hb3)
      rw [rounds_succ]
      go_wp2
      go_ret
      exact ⟨rfl, hbw3⟩
    · refine wp_loop_rounds 2 ?_
      rw [rounds_succ]
      go_wp2_with (go_at_call 31; refine (H0.out _ (bl_alloc hbw1 _)).mono ?_; rintro e w2 ⟨rfl, hb2⟩; obtain ⟨hc2, hfz2⟩ := bcell hb2; have hz2 : w.heap.size < w2.heap.size := Nat.lt_of_lt_of_le hz (Nat.le_trans (by simp) hb2.size); have hbw2 : Below w.heap.size w w2 := bl_call (bl_alloc hbw1 _) hb2)
      rw [rounds_succ]
      go_wp2_with (go_at_call 31; refine (H1.out _ (bl_alloc hbw2 _)).mono ?_; rintro e w3 ⟨rfl, hb3⟩; have hbw3 : Below w.heap.size w w3 := bl_call (bl_alloc hbw2 _) hb3)
      go_ret
      exact ⟨rfl, hbw3⟩
  · refine wp_loop_rounds 1 ?_
    rw [rounds_succ]
    go_wp2_with (go_at_call 31; refine (H0.out _ (bl_alloc hbw1 _)).mono ?_; rintro e w2 ⟨rfl, hb2⟩; obtain ⟨hc2, hfz2⟩ := bcell hb2; have hz2 : w.heap.size < w2.heap.size := Nat.lt_of_lt_of_le hz (Nat.le_trans (by simp) hb2.size); have hbw2 : Below w.heap.size w w2 := bl_call (bl_alloc hbw1 _) hb2)
    go_ret
    exact ⟨rfl, hbw2⟩
end Go.Proofs.YtnbdgpepancfnabDoor
