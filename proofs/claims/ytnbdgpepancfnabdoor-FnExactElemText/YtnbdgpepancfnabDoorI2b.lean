/- Contracts of the program's chapter 2: what an operand must be at a place. -/
import Derived.Test.YtnbdgpepancfnabDoorI2
import Derived.Test.YtnbdgpepancfnabDoorM2b
namespace Go.Proofs.YtnbdgpepancfnabDoor
open Go.RowKit Go.Sort Go.BigFrame
def IntsFrom (w : World) (b : Nat) : Nat → List Int → Prop
  | _, [] => True
  | o, x :: r => w.cell? ⟨b, o, none⟩ = some (.int .i64 x) ∧ IntsFrom w b (o + 1) r
theorem ints_of_from {w : World} {b : Nat} : ∀ {l : List Int} {o : Nat}, IntsFrom w b o l → IntsAt w b o l
  | [], _, _ => fun i hi => absurd hi (by simp)
  | x :: r, o, h => fun i hi => by
    cases i with
    | zero => exact h.1
    | succ k =>
      have := ints_of_from h.2 k (by simpa using hi)
      rw [show o + (k + 1) = o + 1 + k from by omega]
      simpa using this
set_option maxHeartbeats 400000 in
set_option maxRecDepth 100000 in
theorem i_isE (d : Stil.Dev) (w : World) (hr : RowsAt w) (hn1 : -9223372036854775808 ≤ d.n) (hn2 : d.n ≤ 9223372036854775807) :
    Calls Tryd.prog 59 #[.agg #[.int .i64 d.kind, .int .i64 d.n, .int .i64 d.p]] w fun e w' => e = .returned (.bool (d.ok && decide (d.kind ∈ ([5] : List Int)))) ∧ Below w.heap.size w w' := by
  have HR : Hid (∀ W, Below w.heap.size w W → RowsAt W) := fun W h => hr.below h
  clear hr
  go_enter Tryd.func59, Tryd.ntmps59
  go_wp2_with (go_at_call 74; refine (i_among d _ _ [5] _ (HR.out _ (by (repeat (first | exact Below.refl _ _ | assumption | refine bl_alloc ?_ _ | refine bl_drewN ?_ _ | refine bl_drew ?_ | refine bl_grow ?_ _ _ | refine bl_set (Nat.le_refl _) ?_ _ | refine bl_call ?_ (by assumption))))) (ints_of_from (by simp [IntsFrom, go_sem])) (by simp) (by simp) hn1 hn2).mono ?_; rintro e w1 ⟨rfl, hb⟩)
  go_ret
  exact ⟨ret_bool (by simp), by (repeat (first | exact Below.refl _ _ | assumption | refine bl_alloc ?_ _ | refine bl_drewN ?_ _ | refine bl_drew ?_ | refine bl_grow ?_ _ _ | refine bl_set (Nat.le_refl _) ?_ _ | refine bl_call ?_ (by assumption)))⟩
set_option maxHeartbeats 400000 in
set_option maxRecDepth 100000 in
theorem i_isS (d : Stil.Dev) (w : World) (hr : RowsAt w) (hn1 : -9223372036854775808 ≤ d.n) (hn2 : d.n ≤ 9223372036854775807) :
    Calls Tryd.prog 65 #[.agg #[.int .i64 d.kind, .int .i64 d.n, .int .i64 d.p]] w fun e w' => e = .returned (.bool (d.ok && decide (d.kind ∈ ([4] : List Int)))) ∧ Below w.heap.size w w' := by
  have HR : Hid (∀ W, Below w.heap.size w W → RowsAt W) := fun W h => hr.below h
  clear hr
  go_enter Tryd.func65, Tryd.ntmps65
  go_wp2_with (go_at_call 74; refine (i_among d _ _ [4] _ (HR.out _ (by (repeat (first | exact Below.refl _ _ | assumption | refine bl_alloc ?_ _ | refine bl_drewN ?_ _ | refine bl_drew ?_ | refine bl_grow ?_ _ _ | refine bl_set (Nat.le_refl _) ?_ _ | refine bl_call ?_ (by assumption))))) (ints_of_from (by simp [IntsFrom, go_sem])) (by simp) (by simp) hn1 hn2).mono ?_; rintro e w1 ⟨rfl, hb⟩)
  go_ret
  exact ⟨ret_bool (by simp), by (repeat (first | exact Below.refl _ _ | assumption | refine bl_alloc ?_ _ | refine bl_drewN ?_ _ | refine bl_drew ?_ | refine bl_grow ?_ _ _ | refine bl_set (Nat.le_refl _) ?_ _ | refine bl_call ?_ (by assumption)))⟩
set_option maxHeartbeats 400000 in
set_option maxRecDepth 100000 in
theorem i_isT (d : Stil.Dev) (w : World) (hr : RowsAt w) (hn1 : -9223372036854775808 ≤ d.n) (hn2 : d.n ≤ 9223372036854775807) :
    Calls Tryd.prog 53 #[.agg #[.int .i64 d.kind, .int .i64 d.n, .int .i64 d.p]] w fun e w' => e = .returned (.bool (d.ok && decide (d.kind ∈ ([7] : List Int)))) ∧ Below w.heap.size w w' := by
  have HR : Hid (∀ W, Below w.heap.size w W → RowsAt W) := fun W h => hr.below h
  clear hr
  go_enter Tryd.func53, Tryd.ntmps53
  go_wp2_with (go_at_call 74; refine (i_among d _ _ [7] _ (HR.out _ (by (repeat (first | exact Below.refl _ _ | assumption | refine bl_alloc ?_ _ | refine bl_drewN ?_ _ | refine bl_drew ?_ | refine bl_grow ?_ _ _ | refine bl_set (Nat.le_refl _) ?_ _ | refine bl_call ?_ (by assumption))))) (ints_of_from (by simp [IntsFrom, go_sem])) (by simp) (by simp) hn1 hn2).mono ?_; rintro e w1 ⟨rfl, hb⟩)
  go_ret
  exact ⟨ret_bool (by simp), by (repeat (first | exact Below.refl _ _ | assumption | refine bl_alloc ?_ _ | refine bl_drewN ?_ _ | refine bl_drew ?_ | refine bl_grow ?_ _ _ | refine bl_set (Nat.le_refl _) ?_ _ | refine bl_call ?_ (by assumption)))⟩
set_option maxHeartbeats 400000 in
set_option maxRecDepth 100000 in
theorem i_isC (d : Stil.Dev) (w : World) (hr : RowsAt w) (hn1 : -9223372036854775808 ≤ d.n) (hn2 : d.n ≤ 9223372036854775807) :
    Calls Tryd.prog 66 #[.agg #[.int .i64 d.kind, .int .i64 d.n, .int .i64 d.p]] w fun e w' => e = .returned (.bool (d.ok && decide (d.kind ∈ ([8] : List Int)))) ∧ Below w.heap.size w w' := by
  have HR : Hid (∀ W, Below w.heap.size w W → RowsAt W) := fun W h => hr.below h
  clear hr
  go_enter Tryd.func66, Tryd.ntmps66
  go_wp2_with (go_at_call 74; refine (i_among d _ _ [8] _ (HR.out _ (by (repeat (first | exact Below.refl _ _ | assumption | refine bl_alloc ?_ _ | refine bl_drewN ?_ _ | refine bl_drew ?_ | refine bl_grow ?_ _ _ | refine bl_set (Nat.le_refl _) ?_ _ | refine bl_call ?_ (by assumption))))) (ints_of_from (by simp [IntsFrom, go_sem])) (by simp) (by simp) hn1 hn2).mono ?_; rintro e w1 ⟨rfl, hb⟩)
  go_ret
  exact ⟨ret_bool (by simp), by (repeat (first | exact Below.refl _ _ | assumption | refine bl_alloc ?_ _ | refine bl_drewN ?_ _ | refine bl_drew ?_ | refine bl_grow ?_ _ _ | refine bl_set (Nat.le_refl _) ?_ _ | refine bl_call ?_ (by assumption)))⟩
set_option maxHeartbeats 400000 in
set_option maxRecDepth 100000 in
theorem i_isD (d : Stil.Dev) (w : World) (hr : RowsAt w) (hn1 : -9223372036854775808 ≤ d.n) (hn2 : d.n ≤ 9223372036854775807) :
    Calls Tryd.prog 55 #[.agg #[.int .i64 d.kind, .int .i64 d.n, .int .i64 d.p]] w fun e w' => e = .returned (.bool (d.ok && decide (d.kind ∈ ([9] : List Int)))) ∧ Below w.heap.size w w' := by
  have HR : Hid (∀ W, Below w.heap.size w W → RowsAt W) := fun W h => hr.below h
  clear hr
  go_enter Tryd.func55, Tryd.ntmps55
  go_wp2_with (go_at_call 74; refine (i_among d _ _ [9] _ (HR.out _ (by (repeat (first | exact Below.refl _ _ | assumption | refine bl_alloc ?_ _ | refine bl_drewN ?_ _ | refine bl_drew ?_ | refine bl_grow ?_ _ _ | refine bl_set (Nat.le_refl _) ?_ _ | refine bl_call ?_ (by assumption))))) (ints_of_from (by simp [IntsFrom, go_sem])) (by simp) (by simp) hn1 hn2).mono ?_; rintro e w1 ⟨rfl, hb⟩)
  go_ret
  exact ⟨ret_bool (by simp), by (repeat (first | exact Below.refl _ _ | assumption | refine bl_alloc ?_ _ | refine bl_drewN ?_ _ | refine bl_drew ?_ | refine bl_grow ?_ _ _ | refine bl_set (Nat.le_refl _) ?_ _ | refine bl_call ?_ (by assumption)))⟩
set_option maxHeartbeats 400000 in
set_option maxRecDepth 100000 in
theorem i_isR (d : Stil.Dev) (w : World) (hr : RowsAt w) (hn1 : -9223372036854775808 ≤ d.n) (hn2 : d.n ≤ 9223372036854775807) :
    Calls Tryd.prog 56 #[.agg #[.int .i64 d.kind, .int .i64 d.n, .int .i64 d.p]] w fun e w' => e = .returned (.bool (d.ok && decide (d.kind ∈ ([10] : List Int)))) ∧ Below w.heap.size w w' := by
  have HR : Hid (∀ W, Below w.heap.size w W → RowsAt W) := fun W h => hr.below h
  clear hr
  go_enter Tryd.func56, Tryd.ntmps56
  go_wp2_with (go_at_call 74; refine (i_among d _ _ [10] _ (HR.out _ (by (repeat (first | exact Below.refl _ _ | assumption | refine bl_alloc ?_ _ | refine bl_drewN ?_ _ | refine bl_drew ?_ | refine bl_grow ?_ _ _ | refine bl_set (Nat.le_refl _) ?_ _ | refine bl_call ?_ (by assumption))))) (ints_of_from (by simp [IntsFrom, go_sem])) (by simp) (by simp) hn1 hn2).mono ?_; rintro e w1 ⟨rfl, hb⟩)
  go_ret
  exact ⟨ret_bool (by simp), by (repeat (first | exact Below.refl _ _ | assumption | refine bl_alloc ?_ _ | refine bl_drewN ?_ _ | refine bl_drew ?_ | refine bl_grow ?_ _ _ | refine bl_set (Nat.le_refl _) ?_ _ | refine bl_call ?_ (by assumption)))⟩
set_option maxHeartbeats 400000 in
set_option maxRecDepth 100000 in
theorem i_isYM (d : Stil.Dev) (w : World) (hr : RowsAt w) (hn1 : -9223372036854775808 ≤ d.n) (hn2 : d.n ≤ 9223372036854775807) :
    Calls Tryd.prog 62 #[.agg #[.int .i64 d.kind, .int .i64 d.n, .int .i64 d.p]] w fun e w' => e = .returned (.bool (d.ok && decide (d.kind ∈ ([2, 3] : List Int)))) ∧ Below w.heap.size w w' := by
  have HR : Hid (∀ W, Below w.heap.size w W → RowsAt W) := fun W h => hr.below h
  clear hr
  go_enter Tryd.func62, Tryd.ntmps62
  go_wp2_with (go_at_call 74; refine (i_among d _ _ [2, 3] _ (HR.out _ (by (repeat (first | exact Below.refl _ _ | assumption | refine bl_alloc ?_ _ | refine bl_drewN ?_ _ | refine bl_drew ?_ | refine bl_grow ?_ _ _ | refine bl_set (Nat.le_refl _) ?_ _ | refine bl_call ?_ (by assumption))))) (ints_of_from (by simp [IntsFrom, go_sem])) (by simp) (by simp) hn1 hn2).mono ?_; rintro e w1 ⟨rfl, hb⟩)
  go_ret
  exact ⟨ret_bool (by simp), by (repeat (first | exact Below.refl _ _ | assumption | refine bl_alloc ?_ _ | refine bl_drewN ?_ _ | refine bl_drew ?_ | refine bl_grow ?_ _ _ | refine bl_set (Nat.le_refl _) ?_ _ | refine bl_call ?_ (by assumption)))⟩
set_option maxHeartbeats 400000 in
set_option maxRecDepth 100000 in
theorem i_isYMS (d : Stil.Dev) (w : World) (hr : RowsAt w) (hn1 : -9223372036854775808 ≤ d.n) (hn2 : d.n ≤ 9223372036854775807) :
    Calls Tryd.prog 63 #[.agg #[.int .i64 d.kind, .int .i64 d.n, .int .i64 d.p]] w fun e w' => e = .returned (.bool (d.ok && decide (d.kind ∈ ([2, 3, 4] : List Int)))) ∧ Below w.heap.size w w' := by
  have HR : Hid (∀ W, Below w.heap.size w W → RowsAt W) := fun W h => hr.below h
  clear hr
  go_enter Tryd.func63, Tryd.ntmps63
  go_wp2_with (go_at_call 74; refine (i_among d _ _ [2, 3, 4] _ (HR.out _ (by (repeat (first | exact Below.refl _ _ | assumption | refine bl_alloc ?_ _ | refine bl_drewN ?_ _ | refine bl_drew ?_ | refine bl_grow ?_ _ _ | refine bl_set (Nat.le_refl _) ?_ _ | refine bl_call ?_ (by assumption))))) (ints_of_from (by simp [IntsFrom, go_sem])) (by simp) (by simp) hn1 hn2).mono ?_; rintro e w1 ⟨rfl, hb⟩)
  go_ret
  exact ⟨ret_bool (by simp), by (repeat (first | exact Below.refl _ _ | assumption | refine bl_alloc ?_ _ | refine bl_drewN ?_ _ | refine bl_drew ?_ | refine bl_grow ?_ _ _ | refine bl_set (Nat.le_refl _) ?_ _ | refine bl_call ?_ (by assumption)))⟩
set_option maxHeartbeats 400000 in
set_option maxRecDepth 100000 in
theorem i_isYMSTC (d : Stil.Dev) (w : World) (hr : RowsAt w) (hn1 : -9223372036854775808 ≤ d.n) (hn2 : d.n ≤ 9223372036854775807) :
    Calls Tryd.prog 64 #[.agg #[.int .i64 d.kind, .int .i64 d.n, .int .i64 d.p]] w fun e w' => e = .returned (.bool (d.ok && decide (d.kind ∈ ([2, 3, 4, 7, 8] : List Int)))) ∧ Below w.heap.size w w' := by
  have HR : Hid (∀ W, Below w.heap.size w W → RowsAt W) := fun W h => hr.below h
  clear hr
  go_enter Tryd.func64, Tryd.ntmps64
  go_wp2_with (go_at_call 74; refine (i_among d _ _ [2, 3, 4, 7, 8] _ (HR.out _ (by (repeat (first | exact Below.refl _ _ | assumption | refine bl_alloc ?_ _ | refine bl_drewN ?_ _ | refine bl_drew ?_ | refine bl_grow ?_ _ _ | refine bl_set (Nat.le_refl _) ?_ _ | refine bl_call ?_ (by assumption))))) (ints_of_from (by simp [IntsFrom, go_sem])) (by simp) (by simp) hn1 hn2).mono ?_; rintro e w1 ⟨rfl, hb⟩)
  go_ret
  exact ⟨ret_bool (by simp), by (repeat (first | exact Below.refl _ _ | assumption | refine bl_alloc ?_ _ | refine bl_drewN ?_ _ | refine bl_drew ?_ | refine bl_grow ?_ _ _ | refine bl_set (Nat.le_refl _) ?_ _ | refine bl_call ?_ (by assumption)))⟩
set_option maxHeartbeats 400000 in
set_option maxRecDepth 100000 in
theorem i_isPreset (d : Stil.Dev) (w : World) (hr : RowsAt w) (hn1 : -9223372036854775808 ≤ d.n) (hn2 : d.n ≤ 9223372036854775807) :
    Calls Tryd.prog 54 #[.agg #[.int .i64 d.kind, .int .i64 d.n, .int .i64 d.p]] w fun e w' => e = .returned (.bool (d.ok && decide (d.kind ∈ ([11] : List Int)) && decide (0 ≤ d.n))) ∧ Below w.heap.size w w' := by
  have HR : Hid (∀ W, Below w.heap.size w W → RowsAt W) := fun W h => hr.below h
  clear hr
  cases h : (d.ok && decide (d.kind ∈ ([11] : List Int)))
  all_goals
    go_enter Tryd.func54, Tryd.ntmps54
    go_wp2_with (go_at_call 74; refine (i_among d _ _ [11] _ (HR.out _ (by (repeat (first | exact Below.refl _ _ | assumption | refine bl_alloc ?_ _ | refine bl_drewN ?_ _ | refine bl_drew ?_ | refine bl_grow ?_ _ _ | refine bl_set (Nat.le_refl _) ?_ _ | refine bl_call ?_ (by assumption))))) (ints_of_from (by simp [IntsFrom, go_sem])) (by simp) (by simp) hn1 hn2).mono ?_; rw [h]; rintro e w1 ⟨rfl, hb⟩; obtain ⟨hc, hf⟩ := bcell hb)
    all_goals go_ret
    all_goals exact ⟨ret_bool (by simp), by (repeat (first | exact Below.refl _ _ | assumption | refine bl_alloc ?_ _ | refine bl_drewN ?_ _ | refine bl_drew ?_ | refine bl_grow ?_ _ _ | refine bl_set (Nat.le_refl _) ?_ _ | refine bl_call ?_ (by assumption)))⟩
end Go.Proofs.YtnbdgpepancfnabDoor
