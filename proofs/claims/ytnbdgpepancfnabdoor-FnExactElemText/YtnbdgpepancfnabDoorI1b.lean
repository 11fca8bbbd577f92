/- Contracts of the program's chapter 1, second part: DevOk and the kinds. -/
import Derived.Test.YtnbdgpepancfnabDoorI1
namespace Go.Proofs.YtnbdgpepancfnabDoor
open Go.RowKit Go.Sort Go.BigFrame
theorem row_fld0 (a : ByteArray) (b : Int) (c d e : Bool) (w : World) : (Instr.field 68 (.agg #[.string a, .int .i64 b, .bool c, .bool d, .bool e]) 0).run Tryd.prog w = .ok (.string a) w := by kernel_rfl
theorem row_fld1 (a : ByteArray) (b : Int) (c d e : Bool) (w : World) : (Instr.field 68 (.agg #[.string a, .int .i64 b, .bool c, .bool d, .bool e]) 1).run Tryd.prog w = .ok (.int .i64 b) w := by kernel_rfl
theorem row_fld2 (a : ByteArray) (b : Int) (c d e : Bool) (w : World) : (Instr.field 68 (.agg #[.string a, .int .i64 b, .bool c, .bool d, .bool e]) 2).run Tryd.prog w = .ok (.bool c) w := by kernel_rfl
theorem row_fld3 (a : ByteArray) (b : Int) (c d e : Bool) (w : World) : (Instr.field 68 (.agg #[.string a, .int .i64 b, .bool c, .bool d, .bool e]) 3).run Tryd.prog w = .ok (.bool d) w := by kernel_rfl
theorem row_fld4 (a : ByteArray) (b : Int) (c d e : Bool) (w : World) : (Instr.field 68 (.agg #[.string a, .int .i64 b, .bool c, .bool d, .bool e]) 4).run Tryd.prog w = .ok (.bool e) w := by kernel_rfl
set_option maxHeartbeats 400000 in
set_option maxRecDepth 100000 in
theorem i_devSize (k : Int) (w : World) (hr : RowsAt w) :
    Calls Tryd.prog 47 #[.int .i64 k] w fun e w' => e = .returned (.int .i64 (Stil.devSize k)) ∧ Below w.heap.size w w' := by
  have hfd := row_fld1
  go_enter Tryd.func47, Tryd.ntmps47
  go_wp2_with (go_at_call 50; refine (i_devRowOf _ _ hr).mono ?_; rintro e w1 ⟨rfl, hb⟩)
  go_ret
  exact ⟨rfl, by (repeat (first | exact Below.refl _ _ | assumption | refine bl_alloc ?_ _ | refine bl_drewN ?_ _ | refine bl_drew ?_ | refine bl_grow ?_ _ _ | refine bl_set (Nat.le_refl _) ?_ _ | refine bl_call ?_ (by assumption)))⟩
set_option maxHeartbeats 400000 in
set_option maxRecDepth 100000 in
theorem i_devLetter (k : Int) (w : World) (hr : RowsAt w) :
    Calls Tryd.prog 42 #[.int .i64 k] w fun e w' => e = .returned (.string (Stil.devLetter k)) ∧ Below w.heap.size w w' := by
  have hfd := row_fld0
  go_enter Tryd.func42, Tryd.ntmps42
  go_wp2_with (go_at_call 50; refine (i_devRowOf _ _ hr).mono ?_; rintro e w1 ⟨rfl, hb⟩)
  go_ret
  exact ⟨rfl, by (repeat (first | exact Below.refl _ _ | assumption | refine bl_alloc ?_ _ | refine bl_drewN ?_ _ | refine bl_drew ?_ | refine bl_grow ?_ _ _ | refine bl_set (Nat.le_refl _) ?_ _ | refine bl_call ?_ (by assumption)))⟩
set_option maxHeartbeats 400000 in
set_option maxRecDepth 100000 in
theorem i_devDecOk (n p : Int) (w : World) (hn1 : -9223372036854775808 ≤ n) (hn2 : n ≤ 9223372036854775807) :
    Calls Tryd.prog 46 #[.int .i64 n, .int .i64 p] w fun e w' => e = .returned (.bool (Stil.devOkB 12 n p)) ∧ w' = w := by
  go_enter Tryd.func46, Tryd.ntmps46
  go_wp2
  all_goals go_ret
  all_goals (refine ⟨ret_bool ?_, rfl⟩)
  all_goals go_light
  all_goals try simp only [beq_iff_eq, beq_eq_false_iff_ne, bne_iff_ne, bne_eq_false_iff_eq] at *
  all_goals (rw [Bool.eq_iff_iff]; simp [Stil.devOkB, *]; try omega)
set_option maxHeartbeats 400000 in
set_option maxRecDepth 100000 in
theorem i_devOk (k n p : Int) (w : World) (hr : RowsAt w) (hn1 : -9223372036854775808 ≤ n) (hn2 : n ≤ 9223372036854775807) :
    Calls Tryd.prog 39 #[.agg #[.int .i64 k, .int .i64 n, .int .i64 p]] w fun e w' => e = .returned (.bool (Stil.devOkB k n p)) ∧ Below w.heap.size w w' := by
  have HR : Hid (∀ W, Below w.heap.size w W → RowsAt W) := fun W h => hr.below h
  clear hr
  have c0 : (w.alloc (Obj.cells #[.int .i64 k, .int .i64 n, .int .i64 p] 37)).cell? ⟨w.heap.size, 0, none⟩ = some (.int .i64 k) := by simp [go_sem]
  have c1 : (w.alloc (Obj.cells #[.int .i64 k, .int .i64 n, .int .i64 p] 37)).cell? ⟨w.heap.size, 1, none⟩ = some (.int .i64 n) := by simp [go_sem]
  have c2 : (w.alloc (Obj.cells #[.int .i64 k, .int .i64 n, .int .i64 p] 37)).cell? ⟨w.heap.size, 2, none⟩ = some (.int .i64 p) := by simp [go_sem]
  have r0 := cell_regrown c0
  have r1 := cell_regrown c1
  have r2 := cell_regrown c2
  clear c0 c1 c2
  go_enter Tryd.func39, Tryd.ntmps39
  go_wp2_with (go_at_call 46; refine (i_devDecOk _ _ _ hn1 hn2).mono ?_; rintro e w1 ⟨rfl, rfl⟩)
  rotate_right 1
  focus
    by_cases hp : p = 0
    · subst hp
      by_cases h0 : 0 ≤ n
      · by_cases h1 : n < Stil.devSize k
        · refine wp_region_quiet_below (by kernel_rfl) (by kernel_rfl) ?_
          repeat (go_big_quiet_step ((exact Calls.regrown_of (i_devSize _ _ (HR.out _ (by (repeat (first | exact Below.refl _ _ | assumption | refine bl_alloc ?_ _ | refine bl_drewN ?_ _ | refine bl_drew ?_ | refine bl_grow ?_ _ _ | refine bl_set (Nat.le_refl _) ?_ _ | refine bl_call ?_ (by assumption)))))))))
          refine wpQuiet_nil ?_
          intro _ hw'
          obtain ⟨⟨dq, osq⟩, hw''⟩ := hw'
          subst hw''
          go_wp2
          go_ret
          refine ⟨ret_bool ?_, by (repeat (first | exact Below.refl _ _ | assumption | refine bl_alloc ?_ _ | refine bl_drewN ?_ _ | refine bl_drew ?_ | refine bl_grow ?_ _ _ | refine bl_set (Nat.le_refl _) ?_ _ | refine bl_call ?_ (by assumption)))⟩
          go_light
          simp only [beq_eq_false_iff_ne] at *
          (rw [Bool.eq_iff_iff]; simp [Stil.devOkB, *]; try omega)
        · have h1' : decide (n < Stil.devSize k) = false := by simpa using h1
          refine wp_region_quiet_below (by kernel_rfl) (by kernel_rfl) ?_
          repeat (go_big_quiet_step ((exact Calls.regrown_of (i_devSize _ _ (HR.out _ (by (repeat (first | exact Below.refl _ _ | assumption | refine bl_alloc ?_ _ | refine bl_drewN ?_ _ | refine bl_drew ?_ | refine bl_grow ?_ _ _ | refine bl_set (Nat.le_refl _) ?_ _ | refine bl_call ?_ (by assumption)))))))))
          refine wpQuiet_nil ?_
          intro _ hw'
          obtain ⟨⟨dq, osq⟩, hw''⟩ := hw'
          subst hw''
          go_wp2
          go_ret
          refine ⟨ret_bool ?_, by (repeat (first | exact Below.refl _ _ | assumption | refine bl_alloc ?_ _ | refine bl_drewN ?_ _ | refine bl_drew ?_ | refine bl_grow ?_ _ _ | refine bl_set (Nat.le_refl _) ?_ _ | refine bl_call ?_ (by assumption)))⟩
          go_light
          simp only [beq_eq_false_iff_ne] at *
          (rw [Bool.eq_iff_iff]; simp [Stil.devOkB, *]; try omega)
      · have h0' : decide (0 ≤ n) = false := by simpa using h0
        refine wp_region_quiet_below (by kernel_rfl) (by kernel_rfl) ?_
        repeat (go_big_quiet_step ((exact Calls.regrown_of (i_devSize _ _ (HR.out _ (by (repeat (first | exact Below.refl _ _ | assumption | refine bl_alloc ?_ _ | refine bl_drewN ?_ _ | refine bl_drew ?_ | refine bl_grow ?_ _ _ | refine bl_set (Nat.le_refl _) ?_ _ | refine bl_call ?_ (by assumption)))))))))
        refine wpQuiet_nil ?_
        intro _ hw'
        obtain ⟨⟨dq, osq⟩, hw''⟩ := hw'
        subst hw''
        go_wp2
        go_ret
        refine ⟨ret_bool ?_, by (repeat (first | exact Below.refl _ _ | assumption | refine bl_alloc ?_ _ | refine bl_drewN ?_ _ | refine bl_drew ?_ | refine bl_grow ?_ _ _ | refine bl_set (Nat.le_refl _) ?_ _ | refine bl_call ?_ (by assumption)))⟩
        go_light
        simp only [beq_eq_false_iff_ne] at *
        (rw [Bool.eq_iff_iff]; simp [Stil.devOkB, *]; try omega)
    · have hp' : (p == 0) = false := by simpa using hp
      refine wp_region_quiet_below (by kernel_rfl) (by kernel_rfl) ?_
      repeat (go_big_quiet_step ((exact Calls.regrown_of (i_devSize _ _ (HR.out _ (by (repeat (first | exact Below.refl _ _ | assumption | refine bl_alloc ?_ _ | refine bl_drewN ?_ _ | refine bl_drew ?_ | refine bl_grow ?_ _ _ | refine bl_set (Nat.le_refl _) ?_ _ | refine bl_call ?_ (by assumption)))))))))
      refine wpQuiet_nil ?_
      intro _ hw'
      obtain ⟨⟨dq, osq⟩, hw''⟩ := hw'
      subst hw''
      go_wp2
      go_ret
      refine ⟨ret_bool ?_, by (repeat (first | exact Below.refl _ _ | assumption | refine bl_alloc ?_ _ | refine bl_drewN ?_ _ | refine bl_drew ?_ | refine bl_grow ?_ _ _ | refine bl_set (Nat.le_refl _) ?_ _ | refine bl_call ?_ (by assumption)))⟩
      go_light
      simp only [beq_eq_false_iff_ne] at *
      (rw [Bool.eq_iff_iff]; simp [Stil.devOkB, *]; try omega)
  all_goals go_ret
  all_goals (refine ⟨ret_bool ?_, by (repeat (first | exact Below.refl _ _ | assumption | refine bl_alloc ?_ _ | refine bl_drewN ?_ _ | refine bl_drew ?_ | refine bl_grow ?_ _ _ | refine bl_set (Nat.le_refl _) ?_ _ | refine bl_call ?_ (by assumption)))⟩)
  all_goals go_light
  all_goals try simp only [beq_iff_eq, beq_eq_false_iff_ne] at *
  all_goals first | (subst k; rfl) | (rw [Bool.eq_iff_iff]; simp [Stil.devOkB, *]; try omega)
theorem devOk_kind {k n p : Int} (h : Stil.devOkB k n p = true) : 1 ≤ k ∧ k ≤ 13 := by
  by_cases h1 : k = 11
  · omega
  · by_cases h2 : k = 12
    · omega
    · by_cases h3 : k = 13
      · omega
      · have := devOk_dev h h1 h2 h3; omega
theorem devBit_eq (k n p : Int) : (Stil.devOkB k n p && rowBit k) = Stil.devIsBitB k n p := by
  cases h : Stil.devOkB k n p
  · simp [Stil.devIsBitB, h]
  · have hk := devOk_kind h
    rw [Stil.devIsBitB, h, Bool.eq_iff_iff]
    simp [rowBit]; try omega
set_option maxHeartbeats 400000 in
set_option maxRecDepth 100000 in
theorem i_devIsBit (k n p : Int) (w : World) (hr : RowsAt w) (hn1 : -9223372036854775808 ≤ n) (hn2 : n ≤ 9223372036854775807) :
    Calls Tryd.prog 58 #[.agg #[.int .i64 k, .int .i64 n, .int .i64 p]] w fun e w' => e = .returned (.bool (Stil.devIsBitB k n p)) ∧ Below w.heap.size w w' := by
  have hfd := row_fld2
  have HR : Hid (∀ W, Below w.heap.size w W → RowsAt W) := fun W h => hr.below h
  have HE : Hid ((Stil.devOkB k n p && rowBit k) = Stil.devIsBitB k n p) := devBit_eq k n p
  clear hr
  cases h : Stil.devOkB k n p
  all_goals
    go_enter Tryd.func58, Tryd.ntmps58
    go_wp2_with (first | (go_at_call 39; refine (i_devOk _ _ _ _ (HR.out _ (by (repeat (first | exact Below.refl _ _ | assumption | refine bl_alloc ?_ _ | refine bl_drewN ?_ _ | refine bl_drew ?_ | refine bl_grow ?_ _ _ | refine bl_set (Nat.le_refl _) ?_ _ | refine bl_call ?_ (by assumption))))) hn1 hn2).mono ?_; rw [h]; rintro e w1 ⟨rfl, hb⟩; obtain ⟨hc, hf⟩ := bcell hb) | (go_at_call 50; refine (i_devRowOf _ _ (HR.out _ (by (repeat (first | exact Below.refl _ _ | assumption | refine bl_alloc ?_ _ | refine bl_drewN ?_ _ | refine bl_drew ?_ | refine bl_grow ?_ _ _ | refine bl_set (Nat.le_refl _) ?_ _ | refine bl_call ?_ (by assumption)))))).mono ?_; rintro e w2 ⟨rfl, hb2⟩))
    all_goals go_ret
    all_goals (refine ⟨ret_bool ?_, by (repeat (first | exact Below.refl _ _ | assumption | refine bl_alloc ?_ _ | refine bl_drewN ?_ _ | refine bl_drew ?_ | refine bl_grow ?_ _ _ | refine bl_set (Nat.le_refl _) ?_ _ | refine bl_call ?_ (by assumption)))⟩)
    all_goals (rw [← HE.out, h]; rfl)
theorem devWhole_eq (k n p : Int) : (Stil.devOkB k n p && rowWhole k) = Stil.devIsWholeB k n p := by
  cases h : Stil.devOkB k n p
  · simp [Stil.devIsWholeB, h]
  · have hk := devOk_kind h
    rw [Stil.devIsWholeB, h, Bool.eq_iff_iff]
    simp [rowWhole]; try omega
set_option maxHeartbeats 400000 in
set_option maxRecDepth 100000 in
theorem i_devIsWhole (k n p : Int) (w : World) (hr : RowsAt w) (hn1 : -9223372036854775808 ≤ n) (hn2 : n ≤ 9223372036854775807) :
    Calls Tryd.prog 51 #[.agg #[.int .i64 k, .int .i64 n, .int .i64 p]] w fun e w' => e = .returned (.bool (Stil.devIsWholeB k n p)) ∧ Below w.heap.size w w' := by
  have hfd := row_fld3
  have HR : Hid (∀ W, Below w.heap.size w W → RowsAt W) := fun W h => hr.below h
  have HE : Hid ((Stil.devOkB k n p && rowWhole k) = Stil.devIsWholeB k n p) := devWhole_eq k n p
  clear hr
  cases h : Stil.devOkB k n p
  all_goals
    go_enter Tryd.func51, Tryd.ntmps51
    go_wp2_with (first | (go_at_call 39; refine (i_devOk _ _ _ _ (HR.out _ (by (repeat (first | exact Below.refl _ _ | assumption | refine bl_alloc ?_ _ | refine bl_drewN ?_ _ | refine bl_drew ?_ | refine bl_grow ?_ _ _ | refine bl_set (Nat.le_refl _) ?_ _ | refine bl_call ?_ (by assumption))))) hn1 hn2).mono ?_; rw [h]; rintro e w1 ⟨rfl, hb⟩; obtain ⟨hc, hf⟩ := bcell hb) | (go_at_call 50; refine (i_devRowOf _ _ (HR.out _ (by (repeat (first | exact Below.refl _ _ | assumption | refine bl_alloc ?_ _ | refine bl_drewN ?_ _ | refine bl_drew ?_ | refine bl_grow ?_ _ _ | refine bl_set (Nat.le_refl _) ?_ _ | refine bl_call ?_ (by assumption)))))).mono ?_; rintro e w2 ⟨rfl, hb2⟩))
    all_goals go_ret
    all_goals (refine ⟨ret_bool ?_, by (repeat (first | exact Below.refl _ _ | assumption | refine bl_alloc ?_ _ | refine bl_drewN ?_ _ | refine bl_drew ?_ | refine bl_grow ?_ _ _ | refine bl_set (Nat.le_refl _) ?_ _ | refine bl_call ?_ (by assumption)))⟩)
    all_goals (rw [← HE.out, h]; rfl)
theorem devReal_eq (k n p : Int) : (Stil.devOkB k n p && rowReal k) = Stil.devIsRealB k n p := by
  cases h : Stil.devOkB k n p
  · simp [Stil.devIsRealB, h]
  · have hk := devOk_kind h
    rw [Stil.devIsRealB, h, Bool.eq_iff_iff]
    simp [rowReal]; try omega
set_option maxHeartbeats 400000 in
set_option maxRecDepth 100000 in
theorem i_devIsReal (k n p : Int) (w : World) (hr : RowsAt w) (hn1 : -9223372036854775808 ≤ n) (hn2 : n ≤ 9223372036854775807) :
    Calls Tryd.prog 52 #[.agg #[.int .i64 k, .int .i64 n, .int .i64 p]] w fun e w' => e = .returned (.bool (Stil.devIsRealB k n p)) ∧ Below w.heap.size w w' := by
  have hfd := row_fld4
  have HR : Hid (∀ W, Below w.heap.size w W → RowsAt W) := fun W h => hr.below h
  have HE : Hid ((Stil.devOkB k n p && rowReal k) = Stil.devIsRealB k n p) := devReal_eq k n p
  clear hr
  cases h : Stil.devOkB k n p
  all_goals
    go_enter Tryd.func52, Tryd.ntmps52
    go_wp2_with (first | (go_at_call 39; refine (i_devOk _ _ _ _ (HR.out _ (by (repeat (first | exact Below.refl _ _ | assumption | refine bl_alloc ?_ _ | refine bl_drewN ?_ _ | refine bl_drew ?_ | refine bl_grow ?_ _ _ | refine bl_set (Nat.le_refl _) ?_ _ | refine bl_call ?_ (by assumption))))) hn1 hn2).mono ?_; rw [h]; rintro e w1 ⟨rfl, hb⟩; obtain ⟨hc, hf⟩ := bcell hb) | (go_at_call 50; refine (i_devRowOf _ _ (HR.out _ (by (repeat (first | exact Below.refl _ _ | assumption | refine bl_alloc ?_ _ | refine bl_drewN ?_ _ | refine bl_drew ?_ | refine bl_grow ?_ _ _ | refine bl_set (Nat.le_refl _) ?_ _ | refine bl_call ?_ (by assumption)))))).mono ?_; rintro e w2 ⟨rfl, hb2⟩))
    all_goals go_ret
    all_goals (refine ⟨ret_bool ?_, by (repeat (first | exact Below.refl _ _ | assumption | refine bl_alloc ?_ _ | refine bl_drewN ?_ _ | refine bl_drew ?_ | refine bl_grow ?_ _ _ | refine bl_set (Nat.le_refl _) ?_ _ | refine bl_call ?_ (by assumption)))⟩)
    all_goals (rw [← HE.out, h]; rfl)
end Go.Proofs.YtnbdgpepancfnabDoor
