/- S1, S1b, S1c, S1d, S1e, S1f, S1g, S1h: texts put together. -/
import Derived.Test.YtpaljcoojkbhnaaGreatDoorChecked
import Derived.Test.YtpaljcoojkbhnaaGreatDoorGM
import Derived.WalkKit
import Derived.WalkSpells
import Derived.WalkLawsBesides
import Derived.Deep.QuietTactic
import Derived.BigQuiet
import Derived.Lib.QuietBelow
import Derived.Deep.Light
import Derived.Lib.ItoaNum
import Derived.Laws.BytesArg
import Derived.Deep.RegionHeld3
set_option maxHeartbeats 4000000
set_option maxRecDepth 100000
/- Contracts of the specification's chapter 1. -/
namespace Go.Proofs.YtpaljcoojkbhnaaGreatDoor
open Go.RowKit Go.Sort Go.BigFrame
theorem ret_int {k : IntKind} {a b : Int} (h : a = b) : Ending.returned (.int k a) = .returned (.int k b) := by rw [h]
theorem ret_bool {a b : Bool} (h : a = b) : Ending.returned (.bool a) = .returned (.bool b) := by rw [h]
theorem bcell {W w1 : World} (hb : Below W.heap.size W w1) : (∀ b o, b < W.heap.size → w1.cell? ⟨b, o, none⟩ = W.cell? ⟨b, o, none⟩) ∧ (∀ b o, b < W.heap.size → w1.frozen? ⟨b, o, none⟩ = W.frozen? ⟨b, o, none⟩) :=
 ⟨fun b o h => hb.cell (p := ⟨b, o, none⟩) h, fun b o h => hb.frozen (p := ⟨b, o, none⟩) h⟩
theorem below_alloc (w : World) (o : Obj) : Below w.heap.size w (w.alloc o) := (Below.refl _ _).alloc (Nat.le_refl _) o
theorem same_below {P : Program} {f : FuncId} {args : Array Value} {w : World} {v : Value} (h : Calls P f args w fun e w' => e = .returned v ∧ w' = w) : Calls P f args w fun e w' => e = .returned v ∧ Below w.heap.size w w' :=
 h.mono fun _ _ ⟨he, hw⟩ => ⟨he, by rw [hw]; exact Below.refl _ _⟩
theorem s_devSize (k : Int) (w : World) :
  Calls Tryz.prog 104 #[.int .i64 k] w fun e w' => e = .returned (.int .i64 (Stil.devSize k)) ∧ w' = w := by
 go_enter Tryz.func104, Tryz.ntmps104
 go_wp2
 all_goals go_ret
 all_goals (refine ⟨ret_int ?_, rfl⟩; simp only [beq_iff_eq, beq_eq_false_iff_ne] at *; unfold Stil.devSize; simp [*])
theorem s_devOk (k n p : Int) (w : World) (hn1 : -9223372036854775808 ≤ n) (hn2 : n ≤ 9223372036854775807) :
  Calls Tryz.prog 76 #[.agg #[.int .i64 k, .int .i64 n, .int .i64 p]] w fun e w' => e = .returned (.bool (Stil.devOkB k n p)) ∧ Below w.heap.size w w' := by
 have c0 : (w.alloc (Obj.cells #[.int .i64 k, .int .i64 n, .int .i64 p] 117)).cell? ⟨w.heap.size, 0, none⟩ = some (.int .i64 k) := by simp [go_sem]
 have c1 : (w.alloc (Obj.cells #[.int .i64 k, .int .i64 n, .int .i64 p] 117)).cell? ⟨w.heap.size, 1, none⟩ = some (.int .i64 n) := by simp [go_sem]
 have c2 : (w.alloc (Obj.cells #[.int .i64 k, .int .i64 n, .int .i64 p] 117)).cell? ⟨w.heap.size, 2, none⟩ = some (.int .i64 p) := by simp [go_sem]
 have r0 := cell_regrown c0
 have r1 := cell_regrown c1
 have r2 := cell_regrown c2
 clear c0 c1 c2
 go_enter Tryz.func76, Tryz.ntmps76
 go_wp2
 rotate_right 1
 focus
  by_cases h0 : 0 ≤ n
  ·by_cases h1 : n < Stil.devSize k
   ·refine wp_region_quiet_below (by kernel_rfl) (by kernel_rfl) ?_
    repeat (go_big_quiet_step ((exact Calls.regrown_of (same_below (s_devSize _ _)))))
    refine wpQuiet_nil ?_
    intro _ hw'
    obtain ⟨⟨dq, osq⟩, hw''⟩ := hw'
    subst hw''
    go_wp2
    go_ret
    refine ⟨ret_bool ?_, (below_alloc _ _).trans ((below_regrown _ dq osq).mono (by simp))⟩
    go_light
    simp only [beq_eq_false_iff_ne] at *
    (rw [Bool.eq_iff_iff]; simp [Stil.devOkB, *]; try omega)
   ·have h1' : decide (n < Stil.devSize k) = false := by simpa using h1
    refine wp_region_quiet_below (by kernel_rfl) (by kernel_rfl) ?_
    repeat (go_big_quiet_step ((exact Calls.regrown_of (same_below (s_devSize _ _)))))
    refine wpQuiet_nil ?_
    intro _ hw'
    obtain ⟨⟨dq, osq⟩, hw''⟩ := hw'
    subst hw''
    go_wp2
    go_ret
    refine ⟨ret_bool ?_, (below_alloc _ _).trans ((below_regrown _ dq osq).mono (by simp))⟩
    go_light
    simp only [beq_eq_false_iff_ne] at *
    (rw [Bool.eq_iff_iff]; simp [Stil.devOkB, *]; try omega)
  ·have h0' : decide (0 ≤ n) = false := by simpa using h0
   refine wp_region_quiet_below (by kernel_rfl) (by kernel_rfl) ?_
   repeat (go_big_quiet_step ((exact Calls.regrown_of (same_below (s_devSize _ _)))))
   refine wpQuiet_nil ?_
   intro _ hw'
   obtain ⟨⟨dq, osq⟩, hw''⟩ := hw'
   subst hw''
   go_wp2
   go_ret
   refine ⟨ret_bool ?_, (below_alloc _ _).trans ((below_regrown _ dq osq).mono (by simp))⟩
   go_light
   simp only [beq_eq_false_iff_ne] at *
   (rw [Bool.eq_iff_iff]; simp [Stil.devOkB, *]; try omega)
 all_goals go_ret
 all_goals (refine ⟨ret_bool ?_, below_alloc _ _⟩)
 all_goals go_light
 all_goals simp only [beq_iff_eq, beq_eq_false_iff_ne] at *
 all_goals (rw [Bool.eq_iff_iff]; simp [Stil.devOkB, *]; try omega)
theorem below_two {w w1 : World} {o : Obj} (hb : Below (w.alloc o).heap.size (w.alloc o) w1) : Below w.heap.size w w1 := (below_alloc w o).trans (hb.mono (by simp))
theorem s_devIsBit (k n p : Int) (w : World) (hn1 : -9223372036854775808 ≤ n) (hn2 : n ≤ 9223372036854775807) :
  Calls Tryz.prog 75 #[.agg #[.int .i64 k, .int .i64 n, .int .i64 p]] w fun e w' => e = .returned (.bool (Stil.devIsBitB k n p)) ∧ Below w.heap.size w w' := by
 cases h : Stil.devOkB k n p
 all_goals
  go_enter Tryz.func75, Tryz.ntmps75
  go_wp2_with (go_at_call 76; refine (s_devOk _ _ _ _ hn1 hn2).mono ?_; rintro e w' ⟨rfl, hb⟩; obtain ⟨hc, hf⟩ := bcell hb)
  all_goals go_ret
  all_goals (refine ⟨ret_bool ?_, below_two (by assumption)⟩)
  all_goals go_light
  all_goals (rw [Stil.devIsBitB, h, Bool.eq_iff_iff]; clear h; simp [*]; try omega)
theorem s_devIsWhole (k n p : Int) (w : World) (hn1 : -9223372036854775808 ≤ n) (hn2 : n ≤ 9223372036854775807) :
  Calls Tryz.prog 77 #[.agg #[.int .i64 k, .int .i64 n, .int .i64 p]] w fun e w' => e = .returned (.bool (Stil.devIsWholeB k n p)) ∧ Below w.heap.size w w' := by
 cases h : Stil.devOkB k n p
 all_goals
  go_enter Tryz.func77, Tryz.ntmps77
  go_wp2_with (go_at_call 76; refine (s_devOk _ _ _ _ hn1 hn2).mono ?_; rintro e w' ⟨rfl, hb⟩; obtain ⟨hc, hf⟩ := bcell hb)
  all_goals go_ret
  all_goals (refine ⟨ret_bool ?_, below_two (by assumption)⟩)
  all_goals go_light
  all_goals (rw [Stil.devIsWholeB, h, Bool.eq_iff_iff]; clear h; simp [*]; try omega)
theorem s_devIsReal (k n p : Int) (w : World) (hn1 : -9223372036854775808 ≤ n) (hn2 : n ≤ 9223372036854775807) :
  Calls Tryz.prog 78 #[.agg #[.int .i64 k, .int .i64 n, .int .i64 p]] w fun e w' => e = .returned (.bool (Stil.devIsRealB k n p)) ∧ Below w.heap.size w w' := by
 cases h : Stil.devOkB k n p
 all_goals
  go_enter Tryz.func78, Tryz.ntmps78
  go_wp2_with (go_at_call 76; refine (s_devOk _ _ _ _ hn1 hn2).mono ?_; rintro e w' ⟨rfl, hb⟩; obtain ⟨hc, hf⟩ := bcell hb)
  all_goals go_ret
  all_goals (refine ⟨ret_bool ?_, below_two (by assumption)⟩)
  all_goals go_light
  all_goals (rw [Stil.devIsRealB, h, Bool.eq_iff_iff]; clear h; simp [*]; try omega)
theorem devOk_dev {k n p : Int} (h : Stil.devOkB k n p = true) (h1 : k ≠ 11) (h2 : k ≠ 12) (h3 : k ≠ 13) : 1 ≤ k ∧ k ≤ 10 ∧ 0 ≤ n ∧ n < 64 ∧ p = 0 := by
 simp only [Stil.devOkB, if_neg h1, if_neg h2, if_neg h3, decide_eq_true_eq] at h
 obtain ⟨a, b, c⟩ := h
 unfold Stil.devSize at b
 split at b
 ·omega
 ·split at b
  ·omega
  ·split at b
   ·omega
   ·split at b <;> omega
theorem below_lt {w w1 : World} {o : Obj} (hb : Below (w.alloc o).heap.size (w.alloc o) w1) : w.heap.size < w1.heap.size := by have := hb.size; simp at this; omega
end Go.Proofs.YtpaljcoojkbhnaaGreatDoor
