/- I1, I1b, I2, I2b: texts put together. -/
import Derived.Test.YthhfnncehfkbfaaDoorGB
import Derived.Test.YthhfnncehfkbfaaDoorGM
/- Contracts of the program's chapter 1: the table of kinds. -/
namespace Go.Proofs.YthhfnncehfkbfaaDoor
open Go.RowKit Go.Sort Go.BigFrame
def rowBit (k : Int) : Bool := decide (1 ≤ k) && (decide (k ≤ 4) || k == 6 || k == 7 || k == 8)
def rowWhole (k : Int) : Bool := k == 7 || k == 8 || k == 9 || k == 11
def rowReal (k : Int) : Bool := k == 10 || k == 12 || k == 13
/-- The table of kinds lies in memory. -/
def RowsAt (w : World) : Prop := 0 < w.heap.size ∧ ∀ k : Nat, k < 14 → w.cell? ⟨0, k * 5, none⟩ = some (.string (Stil.devLetter k)) ∧ w.cell? ⟨0, k * 5 + 1, none⟩ = some (.int .i64 (Stil.devSize k)) ∧ w.cell? ⟨0, k * 5 + 2, none⟩ = some (.bool (rowBit k)) ∧ w.cell? ⟨0, k * 5 + 3, none⟩ = some (.bool (rowWhole k)) ∧ w.cell? ⟨0, k * 5 + 4, none⟩ = some (.bool (rowReal k))
theorem RowsAt.below {w w' : World} (h : RowsAt w) (hb : Below w.heap.size w w') : RowsAt w' := by
  obtain ⟨h0, h⟩ := h
  obtain ⟨hc, _⟩ := bcell hb
  refine ⟨Nat.lt_of_lt_of_le h0 hb.size, fun k hk => ?_⟩
  obtain ⟨a, b, c, d, e⟩ := h k hk
  exact ⟨by rw [hc _ _ h0]; exact a, by rw [hc _ _ h0]; exact b, by rw [hc _ _ h0]; exact c, by rw [hc _ _ h0]; exact d, by rw [hc _ _ h0]; exact e⟩
set_option maxHeartbeats 400000 in
theorem i_devRowOf (k : Int) (w : World) (hr : RowsAt w) :
    Calls Tryd.prog 79 #[.int .i64 k] w fun e w' => e = .returned (.agg #[.string (Stil.devLetter k), .int .i64 (Stil.devSize k), .bool (rowBit k), .bool (rowWhole k), .bool (rowReal k)]) ∧ Below w.heap.size w w' := by
  by_cases h : 0 ≤ k ∧ k < 14
  · obtain ⟨m, rfl⟩ := Int.eq_ofNat_of_zero_le h.1
    have hm : m < 14 := by omega
    obtain ⟨h0, hr⟩ := hr
    obtain ⟨a, b, c, d, e⟩ := hr m hm
    clear h hr
    go_enter Tryd.func79, Tryd.ntmps79
    go_wp2
    refine bodyPost_ret (v := .agg #[.string (Stil.devLetter m), .int .i64 (Stil.devSize m), .bool (rowBit m), .bool (rowWhole m), .bool (rowReal m)]) (by simp [results, Tryd.results79, go_sem]) rfl ⟨rfl, ?_⟩
    (repeat (first | exact Below.refl _ _ | assumption | refine bl_alloc ?_ _ | refine bl_drewN ?_ _ | refine bl_drew ?_ | refine bl_grow ?_ _ _ | refine bl_set (Nat.le_refl _) ?_ _ | refine bl_call ?_ (by assumption)))
  · have hd : Stil.devLetter k = ⟨#[]⟩ ∧ Stil.devSize k = 0 ∧ rowBit k = false ∧ rowWhole k = false ∧ rowReal k = false := by
      unfold Stil.devLetter Stil.devSize rowBit rowWhole rowReal
      refine ⟨by rw [if_neg (by omega)], by rw [if_neg (by omega), if_neg (by omega), if_neg (by omega), if_neg (by omega)], ?_, ?_, ?_⟩
      · simp only [Bool.and_eq_false_iff, Bool.or_eq_false_iff, decide_eq_false_iff_not, beq_eq_false_iff_ne]; omega
      · simp only [Bool.or_eq_false_iff, beq_eq_false_iff_ne]; omega
      · simp only [Bool.or_eq_false_iff, beq_eq_false_iff_ne]; omega
    have HD : Hid (Stil.devLetter k = ⟨#[]⟩ ∧ Stil.devSize k = 0 ∧ rowBit k = false ∧ rowWhole k = false ∧ rowReal k = false) := hd
    clear hd hr
    go_enter Tryd.func79, Tryd.ntmps79
    go_wp2
    all_goals (obtain ⟨q1, q2, q3, q4, q5⟩ := HD.out)
    all_goals refine bodyPost_ret (v := .agg #[.string ⟨#[]⟩, .int .i64 0, .bool false, .bool false, .bool false]) (by simp [results, Tryd.results79, go_sem]) rfl ⟨by rw [q1, q2, q3, q4, q5], ?_⟩
    all_goals (repeat (first | exact Below.refl _ _ | assumption | refine bl_alloc ?_ _ | refine bl_drewN ?_ _ | refine bl_drew ?_ | refine bl_grow ?_ _ _ | refine bl_set (Nat.le_refl _) ?_ _ | refine bl_call ?_ (by assumption)))
end Go.Proofs.YthhfnncehfkbfaaDoor
/- Contracts of the program's chapter 1, second part: DevOk and the kinds. -/
namespace Go.Proofs.YthhfnncehfkbfaaDoor
open Go.RowKit Go.Sort Go.BigFrame
theorem row_fld0 (a : ByteArray) (b : Int) (c d e : Bool) (w : World) : (Instr.field 92 (.agg #[.string a, .int .i64 b, .bool c, .bool d, .bool e]) 0).run Tryd.prog w = .ok (.string a) w := by kernel_rfl
theorem row_fld1 (a : ByteArray) (b : Int) (c d e : Bool) (w : World) : (Instr.field 92 (.agg #[.string a, .int .i64 b, .bool c, .bool d, .bool e]) 1).run Tryd.prog w = .ok (.int .i64 b) w := by kernel_rfl
theorem row_fld2 (a : ByteArray) (b : Int) (c d e : Bool) (w : World) : (Instr.field 92 (.agg #[.string a, .int .i64 b, .bool c, .bool d, .bool e]) 2).run Tryd.prog w = .ok (.bool c) w := by kernel_rfl
theorem row_fld3 (a : ByteArray) (b : Int) (c d e : Bool) (w : World) : (Instr.field 92 (.agg #[.string a, .int .i64 b, .bool c, .bool d, .bool e]) 3).run Tryd.prog w = .ok (.bool d) w := by kernel_rfl
theorem row_fld4 (a : ByteArray) (b : Int) (c d e : Bool) (w : World) : (Instr.field 92 (.agg #[.string a, .int .i64 b, .bool c, .bool d, .bool e]) 4).run Tryd.prog w = .ok (.bool e) w := by kernel_rfl
set_option maxHeartbeats 400000 in
set_option maxRecDepth 100000 in
theorem i_devSize (k : Int) (w : World) (hr : RowsAt w) :
    Calls Tryd.prog 83 #[.int .i64 k] w fun e w' => e = .returned (.int .i64 (Stil.devSize k)) ∧ Below w.heap.size w w' := by
  have hfd := row_fld1
  go_enter Tryd.func83, Tryd.ntmps83
  go_wp2_with (go_at_call 79; refine (i_devRowOf _ _ hr).mono ?_; rintro e w1 ⟨rfl, hb⟩)
  go_ret
  exact ⟨rfl, by (repeat (first | exact Below.refl _ _ | assumption | refine bl_alloc ?_ _ | refine bl_drewN ?_ _ | refine bl_drew ?_ | refine bl_grow ?_ _ _ | refine bl_set (Nat.le_refl _) ?_ _ | refine bl_call ?_ (by assumption)))⟩
set_option maxHeartbeats 400000 in
set_option maxRecDepth 100000 in
theorem i_devDecOk (n p : Int) (w : World) (hn1 : -9223372036854775808 ≤ n) (hn2 : n ≤ 9223372036854775807) :
    Calls Tryd.prog 82 #[.int .i64 n, .int .i64 p] w fun e w' => e = .returned (.bool (Stil.devOkB 12 n p)) ∧ w' = w := by
  go_enter Tryd.func82, Tryd.ntmps82
  go_wp2
  all_goals go_ret
  all_goals (refine ⟨ret_bool ?_, rfl⟩)
  all_goals go_light
  all_goals try simp only [beq_iff_eq, beq_eq_false_iff_ne, bne_iff_ne, bne_eq_false_iff_eq] at *
  all_goals (rw [Bool.eq_iff_iff]; simp [Stil.devOkB, *]; try omega)
set_option maxHeartbeats 400000 in
set_option maxRecDepth 100000 in
theorem i_devOk (k n p : Int) (w : World) (hr : RowsAt w) (hn1 : -9223372036854775808 ≤ n) (hn2 : n ≤ 9223372036854775807) :
    Calls Tryd.prog 78 #[.agg #[.int .i64 k, .int .i64 n, .int .i64 p]] w fun e w' => e = .returned (.bool (Stil.devOkB k n p)) ∧ Below w.heap.size w w' := by
  have HR : Hid (∀ W, Below w.heap.size w W → RowsAt W) := fun W h => hr.below h
  clear hr
  have c0 : (w.alloc (Obj.cells #[.int .i64 k, .int .i64 n, .int .i64 p] 69)).cell? ⟨w.heap.size, 0, none⟩ = some (.int .i64 k) := by simp [go_sem]
  have c1 : (w.alloc (Obj.cells #[.int .i64 k, .int .i64 n, .int .i64 p] 69)).cell? ⟨w.heap.size, 1, none⟩ = some (.int .i64 n) := by simp [go_sem]
  have c2 : (w.alloc (Obj.cells #[.int .i64 k, .int .i64 n, .int .i64 p] 69)).cell? ⟨w.heap.size, 2, none⟩ = some (.int .i64 p) := by simp [go_sem]
  have r0 := cell_regrown c0
  have r1 := cell_regrown c1
  have r2 := cell_regrown c2
  clear c0 c1 c2
  go_enter Tryd.func78, Tryd.ntmps78
  go_wp2_with (go_at_call 82; refine (i_devDecOk _ _ _ hn1 hn2).mono ?_; rintro e w1 ⟨rfl, rfl⟩)
  rotate_right 1
  focus
    by_cases hp : p = 0
    · subst hp
      by_cases h0 : 0 ≤ n
      · by_cases h1 : n < Stil.devSize k
        · refine wp_region_quiet_below (by kernel_rfl) (by kernel_rfl) ?_
          repeat (go_big_quiet_step ((exact Calls.regrown_of (i_devSize _ _ (HR.out _ (by (repeat (first | exact Below.refl _ _ | assumption | refine bl_alloc ?_ _ | refine bl_drewN ?_ _ | refine bl_drew ?_ | refine bl_grow ?_ _ _ | refine bl_set (Nat.le_refl _) ?_ _ | refine bl_call ?_ (by assumption)))))))))
          refine wpQuiet_nil ?_
          intro _ hw'
          obtain ⟨⟨dq, osq⟩, hw''⟩ := hw'
          subst hw''
          go_wp2
          go_ret
          refine ⟨ret_bool ?_, by (repeat (first | exact Below.refl _ _ | assumption | refine bl_alloc ?_ _ | refine bl_drewN ?_ _ | refine bl_drew ?_ | refine bl_grow ?_ _ _ | refine bl_set (Nat.le_refl _) ?_ _ | refine bl_call ?_ (by assumption)))⟩
          go_light
          simp only [beq_eq_false_iff_ne] at *
          (rw [Bool.eq_iff_iff]; simp [Stil.devOkB, *]; try omega)
        · have h1' : decide (n < Stil.devSize k) = false := by simpa using h1
          refine wp_region_quiet_below (by kernel_rfl) (by kernel_rfl) ?_
          repeat (go_big_quiet_step ((exact Calls.regrown_of (i_devSize _ _ (HR.out _ (by (repeat (first | exact Below.refl _ _ | assumption | refine bl_alloc ?_ _ | refine bl_drewN ?_ _ | refine bl_drew ?_ | refine bl_grow ?_ _ _ | refine bl_set (Nat.le_refl _) ?_ _ | refine bl_call ?_ (by assumption)))))))))
          refine wpQuiet_nil ?_
          intro _ hw'
          obtain ⟨⟨dq, osq⟩, hw''⟩ := hw'
          subst hw''
          go_wp2
          go_ret
          refine ⟨ret_bool ?_, by (repeat (first | exact Below.refl _ _ | assumption | refine bl_alloc ?_ _ | refine bl_drewN ?_ _ | refine bl_drew ?_ | refine bl_grow ?_ _ _ | refine bl_set (Nat.le_refl _) ?_ _ | refine bl_call ?_ (by assumption)))⟩
          go_light
          simp only [beq_eq_false_iff_ne] at *
          (rw [Bool.eq_iff_iff]; simp [Stil.devOkB, *]; try omega)
      · have h0' : decide (0 ≤ n) = false := by simpa using h0
        refine wp_region_quiet_below (by kernel_rfl) (by kernel_rfl) ?_
        repeat (go_big_quiet_step ((exact Calls.regrown_of (i_devSize _ _ (HR.out _ (by (repeat (first | exact Below.refl _ _ | assumption | refine bl_alloc ?_ _ | refine bl_drewN ?_ _ | refine bl_drew ?_ | refine bl_grow ?_ _ _ | refine bl_set (Nat.le_refl _) ?_ _ | refine bl_call ?_ (by assumption)))))))))
        refine wpQuiet_nil ?_
        intro _ hw'
        obtain ⟨⟨dq, osq⟩, hw''⟩ := hw'
        subst hw''
        go_wp2
        go_ret
        refine ⟨ret_bool ?_, by (repeat (first | exact Below.refl _ _ | assumption | refine bl_alloc ?_ _ | refine bl_drewN ?_ _ | refine bl_drew ?_ | refine bl_grow ?_ _ _ | refine bl_set (Nat.le_refl _) ?_ _ | refine bl_call ?_ (by assumption)))⟩
        go_light
        simp only [beq_eq_false_iff_ne] at *
        (rw [Bool.eq_iff_iff]; simp [Stil.devOkB, *]; try omega)
    · have hp' : (p == 0) = false := by simpa using hp
      refine wp_region_quiet_below (by kernel_rfl) (by kernel_rfl) ?_
      repeat (go_big_quiet_step ((exact Calls.regrown_of (i_devSize _ _ (HR.out _ (by (repeat (first | exact Below.refl _ _ | assumption | refine bl_alloc ?_ _ | refine bl_drewN ?_ _ | refine bl_drew ?_ | refine bl_grow ?_ _ _ | refine bl_set (Nat.le_refl _) ?_ _ | refine bl_call ?_ (by assumption)))))))))
      refine wpQuiet_nil ?_
      intro _ hw'
      obtain ⟨⟨dq, osq⟩, hw''⟩ := hw'
      subst hw''
      go_wp2
      go_ret
      refine ⟨ret_bool ?_, by (repeat (first | exact Below.refl _ _ | assumption | refine bl_alloc ?_ _ | refine bl_drewN ?_ _ | refine bl_drew ?_ | refine bl_grow ?_ _ _ | refine bl_set (Nat.le_refl _) ?_ _ | refine bl_call ?_ (by assumption)))⟩
      go_light
      simp only [beq_eq_false_iff_ne] at *
      (rw [Bool.eq_iff_iff]; simp [Stil.devOkB, *]; try omega)
  all_goals go_ret
  all_goals (refine ⟨ret_bool ?_, by (repeat (first | exact Below.refl _ _ | assumption | refine bl_alloc ?_ _ | refine bl_drewN ?_ _ | refine bl_drew ?_ | refine bl_grow ?_ _ _ | refine bl_set (Nat.le_refl _) ?_ _ | refine bl_call ?_ (by assumption)))⟩)
  all_goals go_light
  all_goals try simp only [beq_iff_eq, beq_eq_false_iff_ne] at *
  all_goals first | (subst k; rfl) | (rw [Bool.eq_iff_iff]; simp [Stil.devOkB, *]; try omega)
theorem devOk_kind {k n p : Int} (h : Stil.devOkB k n p = true) : 1 ≤ k ∧ k ≤ 13 := by
  by_cases h1 : k = 11
  · omega
  · by_cases h2 : k = 12
    · omega
    · by_cases h3 : k = 13
      · omega
      · have := devOk_dev h h1 h2 h3; omega
theorem devBit_eq (k n p : Int) : (Stil.devOkB k n p && rowBit k) = Stil.devIsBitB k n p := by
  cases h : Stil.devOkB k n p
  · simp [Stil.devIsBitB, h]
  · have hk := devOk_kind h
    rw [Stil.devIsBitB, h, Bool.eq_iff_iff]
    simp [rowBit]; try omega
set_option maxHeartbeats 400000 in
set_option maxRecDepth 100000 in
theorem i_devIsBit (k n p : Int) (w : World) (hr : RowsAt w) (hn1 : -9223372036854775808 ≤ n) (hn2 : n ≤ 9223372036854775807) :
    Calls Tryd.prog 69 #[.agg #[.int .i64 k, .int .i64 n, .int .i64 p]] w fun e w' => e = .returned (.bool (Stil.devIsBitB k n p)) ∧ Below w.heap.size w w' := by
  have hfd := row_fld2
  have HR : Hid (∀ W, Below w.heap.size w W → RowsAt W) := fun W h => hr.below h
  have HE : Hid ((Stil.devOkB k n p && rowBit k) = Stil.devIsBitB k n p) := devBit_eq k n p
  clear hr
  cases h : Stil.devOkB k n p
  all_goals
    go_enter Tryd.func69, Tryd.ntmps69
    go_wp2_with (first | (go_at_call 78; refine (i_devOk _ _ _ _ (HR.out _ (by (repeat (first | exact Below.refl _ _ | assumption | refine bl_alloc ?_ _ | refine bl_drewN ?_ _ | refine bl_drew ?_ | refine bl_grow ?_ _ _ | refine bl_set (Nat.le_refl _) ?_ _ | refine bl_call ?_ (by assumption))))) hn1 hn2).mono ?_; rw [h]; rintro e w1 ⟨rfl, hb⟩; obtain ⟨hc, hf⟩ := bcell hb) | (go_at_call 79; refine (i_devRowOf _ _ (HR.out _ (by (repeat (first | exact Below.refl _ _ | assumption | refine bl_alloc ?_ _ | refine bl_drewN ?_ _ | refine bl_drew ?_ | refine bl_grow ?_ _ _ | refine bl_set (Nat.le_refl _) ?_ _ | refine bl_call ?_ (by assumption)))))).mono ?_; rintro e w2 ⟨rfl, hb2⟩))
    all_goals go_ret
    all_goals (refine ⟨ret_bool ?_, by (repeat (first | exact Below.refl _ _ | assumption | refine bl_alloc ?_ _ | refine bl_drewN ?_ _ | refine bl_drew ?_ | refine bl_grow ?_ _ _ | refine bl_set (Nat.le_refl _) ?_ _ | refine bl_call ?_ (by assumption)))⟩)
    all_goals (rw [← HE.out, h]; rfl)
theorem devWhole_eq (k n p : Int) : (Stil.devOkB k n p && rowWhole k) = Stil.devIsWholeB k n p := by
  cases h : Stil.devOkB k n p
  · simp [Stil.devIsWholeB, h]
  · have hk := devOk_kind h
    rw [Stil.devIsWholeB, h, Bool.eq_iff_iff]
    simp [rowWhole]; try omega
set_option maxHeartbeats 400000 in
set_option maxRecDepth 100000 in
theorem i_devIsWhole (k n p : Int) (w : World) (hr : RowsAt w) (hn1 : -9223372036854775808 ≤ n) (hn2 : n ≤ 9223372036854775807) :
    Calls Tryd.prog 62 #[.agg #[.int .i64 k, .int .i64 n, .int .i64 p]] w fun e w' => e = .returned (.bool (Stil.devIsWholeB k n p)) ∧ Below w.heap.size w w' := by
  have hfd := row_fld3
  have HR : Hid (∀ W, Below w.heap.size w W → RowsAt W) := fun W h => hr.below h
  have HE : Hid ((Stil.devOkB k n p && rowWhole k) = Stil.devIsWholeB k n p) := devWhole_eq k n p
  clear hr
  cases h : Stil.devOkB k n p
  all_goals
    go_enter Tryd.func62, Tryd.ntmps62
    go_wp2_with (first | (go_at_call 78; refine (i_devOk _ _ _ _ (HR.out _ (by (repeat (first | exact Below.refl _ _ | assumption | refine bl_alloc ?_ _ | refine bl_drewN ?_ _ | refine bl_drew ?_ | refine bl_grow ?_ _ _ | refine bl_set (Nat.le_refl _) ?_ _ | refine bl_call ?_ (by assumption))))) hn1 hn2).mono ?_; rw [h]; rintro e w1 ⟨rfl, hb⟩; obtain ⟨hc, hf⟩ := bcell hb) | (go_at_call 79; refine (i_devRowOf _ _ (HR.out _ (by (repeat (first | exact Below.refl _ _ | assumption | refine bl_alloc ?_ _ | refine bl_drewN ?_ _ | refine bl_drew ?_ | refine bl_grow ?_ _ _ | refine bl_set (Nat.le_refl _) ?_ _ | refine bl_call ?_ (by assumption)))))).mono ?_; rintro e w2 ⟨rfl, hb2⟩))
    all_goals go_ret
    all_goals (refine ⟨ret_bool ?_, by (repeat (first | exact Below.refl _ _ | assumption | refine bl_alloc ?_ _ | refine bl_drewN ?_ _ | refine bl_drew ?_ | refine bl_grow ?_ _ _ | refine bl_set (Nat.le_refl _) ?_ _ | refine bl_call ?_ (by assumption)))⟩)
    all_goals (rw [← HE.out, h]; rfl)
theorem devReal_eq (k n p : Int) : (Stil.devOkB k n p && rowReal k) = Stil.devIsRealB k n p := by
  cases h : Stil.devOkB k n p
  · simp [Stil.devIsRealB, h]
  · have hk := devOk_kind h
    rw [Stil.devIsRealB, h, Bool.eq_iff_iff]
    simp [rowReal]; try omega
set_option maxHeartbeats 400000 in
set_option maxRecDepth 100000 in
theorem i_devIsReal (k n p : Int) (w : World) (hr : RowsAt w) (hn1 : -9223372036854775808 ≤ n) (hn2 : n ≤ 9223372036854775807) :
    Calls Tryd.prog 63 #[.agg #[.int .i64 k, .int .i64 n, .int .i64 p]] w fun e w' => e = .returned (.bool (Stil.devIsRealB k n p)) ∧ Below w.heap.size w w' := by
  have hfd := row_fld4
  have HR : Hid (∀ W, Below w.heap.size w W → RowsAt W) := fun W h => hr.below h
  have HE : Hid ((Stil.devOkB k n p && rowReal k) = Stil.devIsRealB k n p) := devReal_eq k n p
  clear hr
  cases h : Stil.devOkB k n p
  all_goals
    go_enter Tryd.func63, Tryd.ntmps63
    go_wp2_with (first | (go_at_call 78; refine (i_devOk _ _ _ _ (HR.out _ (by (repeat (first | exact Below.refl _ _ | assumption | refine bl_alloc ?_ _ | refine bl_drewN ?_ _ | refine bl_drew ?_ | refine bl_grow ?_ _ _ | refine bl_set (Nat.le_refl _) ?_ _ | refine bl_call ?_ (by assumption))))) hn1 hn2).mono ?_; rw [h]; rintro e w1 ⟨rfl, hb⟩; obtain ⟨hc, hf⟩ := bcell hb) | (go_at_call 79; refine (i_devRowOf _ _ (HR.out _ (by (repeat (first | exact Below.refl _ _ | assumption | refine bl_alloc ?_ _ | refine bl_drewN ?_ _ | refine bl_drew ?_ | refine bl_grow ?_ _ _ | refine bl_set (Nat.le_refl _) ?_ _ | refine bl_call ?_ (by assumption)))))).mono ?_; rintro e w2 ⟨rfl, hb2⟩))
    all_goals go_ret
    all_goals (refine ⟨ret_bool ?_, by (repeat (first | exact Below.refl _ _ | assumption | refine bl_alloc ?_ _ | refine bl_drewN ?_ _ | refine bl_drew ?_ | refine bl_grow ?_ _ _ | refine bl_set (Nat.le_refl _) ?_ _ | refine bl_call ?_ (by assumption)))⟩)
    all_goals (rw [← HE.out, h]; rfl)
end Go.Proofs.YthhfnncehfkbfaaDoor
/- Contracts of the program's chapter 2: kinds of operands. -/
namespace Go.Proofs.YthhfnncehfkbfaaDoor
open Go.RowKit Go.Sort Go.BigFrame
/-- Integers in memory. -/
def IntsAt (w : World) (b o : Nat) (l : List Int) : Prop := ∀ i (h : i < l.length), w.cell? ⟨b, o + i, none⟩ = some (.int .i64 l[i])
set_option maxHeartbeats 400000 in
set_option maxRecDepth 100000 in
theorem i_slIndex (b cap : Nat) (l : List Int) (v : Int) (w : World) (hat : IntsAt w b 0 l) (hl : l.length ≤ 1000) :
    Calls Tryd.prog 88 #[.slice (some ⟨b, 0, none⟩) l.length cap, .int .i64 v] w fun e w' => (∃ r, e = .returned (.int .i64 r) ∧ (0 ≤ r ↔ v ∈ l)) ∧ w' = w := by
  have HA : Hid (IntsAt w b 0 l) := hat
  clear hat
  go_enter Tryd.func88, Tryd.ntmps88
  go_wp2
  go_loop [8] (fun i => ∃ k : Nat, k ≤ l.length ∧ i = .int .i64 k ∧ v ∉ l.take k) (fun i => l.length - (intOf i).toNat)
  case atStart => exact ⟨0, by omega, rfl, by simp⟩
  case round =>
    obtain ⟨k, hk, rfl, hno⟩ := hrel
    have HN : Hid (v ∉ l.take k) := hno
    clear hno
    by_cases hlt : k < l.length
    · have hc := HA.out k hlt
      rw [Nat.zero_add] at hc
      by_cases hx : v = l[k]
      · have hxb : (v == l[k]) = true := by simpa using hx
        have HM : Hid (v ∈ l) := by show _ ∈ _; rw [hx]; exact List.getElem_mem hlt
        clear hx
        go_wp2
        go_ret
        exact ⟨⟨k, rfl, fun _ => HM.out, fun _ => by omega⟩, rfl⟩
      · have hxb : (v == l[k]) = false := by simpa using hx
        have HM : Hid (v ∉ l.take (k + 1)) := by
          show _ ∉ _; rw [List.take_succ_eq_append_getElem hlt, List.mem_append]; rintro (h | h)
          · exact HN.out h
          · exact hx (by simpa using h)
        clear hx
        go_wp2
        exact ⟨⟨k + 1, by omega, by go_num, HM.out⟩, by simp [intOf]; omega⟩
    · have HM : Hid (v ∉ l) := by
        show _ ∉ _
        have := HN.out
        rwa [List.take_of_length_le (by omega)] at this
      go_wp2
      go_ret
      exact ⟨⟨-1, rfl, fun h => by omega, fun h => absurd h HM.out⟩, rfl⟩
set_option maxHeartbeats 400000 in
set_option maxRecDepth 100000 in
theorem i_slContains (b cap : Nat) (l : List Int) (v : Int) (w : World) (hat : IntsAt w b 0 l) (hl : l.length ≤ 1000) :
    Calls Tryd.prog 84 #[.slice (some ⟨b, 0, none⟩) l.length cap, .int .i64 v] w fun e w' => e = .returned (.bool (decide (v ∈ l))) ∧ w' = w := by
  have HA : Hid (IntsAt w b 0 l) := hat
  clear hat
  go_enter Tryd.func84, Tryd.ntmps84
  go_wp2_with (go_at_call 88; refine (i_slIndex b cap l v _ HA.out hl).mono ?_; rintro e w1 ⟨⟨r, rfl, hr⟩, rfl⟩)
  go_ret
  exact ⟨ret_bool (by first | rfl | exact decide_eq_decide.2 hr), rfl⟩
set_option maxHeartbeats 400000 in
set_option maxRecDepth 100000 in
theorem i_among (d : Stil.Dev) (b cap : Nat) (l : List Int) (w : World) (hr : RowsAt w) (hat : IntsAt w b 0 l) (hb : b < w.heap.size) (hl : l.length ≤ 1000) (hn1 : -9223372036854775808 ≤ d.n) (hn2 : d.n ≤ 9223372036854775807) :
    Calls Tryd.prog 80 #[.agg #[.int .i64 d.kind, .int .i64 d.n, .int .i64 d.p], .slice (some ⟨b, 0, none⟩) l.length cap] w fun e w' => e = .returned (.bool (d.ok && decide (d.kind ∈ l))) ∧ Below w.heap.size w w' := by
  have HR : Hid (∀ W, Below w.heap.size w W → RowsAt W) := fun W h => hr.below h
  have HA : Hid (∀ W, Below w.heap.size w W → IntsAt W b 0 l) := fun W h i hi => by rw [(bcell h).1 _ _ hb]; exact hat i hi
  clear hr hat
  cases h : d.ok
  all_goals
    go_enter Tryd.func80, Tryd.ntmps80
    go_wp2_with (first | (go_at_call 78; refine (i_devOk _ _ _ _ (HR.out _ (by (repeat (first | exact Below.refl _ _ | assumption | refine bl_alloc ?_ _ | refine bl_drewN ?_ _ | refine bl_drew ?_ | refine bl_grow ?_ _ _ | refine bl_set (Nat.le_refl _) ?_ _ | refine bl_call ?_ (by assumption))))) hn1 hn2).mono ?_; rw [show Stil.devOkB d.kind d.n d.p = _ from h]; rintro e w1 ⟨rfl, hb1⟩; obtain ⟨hc, hf⟩ := bcell hb1) | (go_at_call 84; refine (i_slContains b cap l _ _ (HA.out _ (by (repeat (first | exact Below.refl _ _ | assumption | refine bl_alloc ?_ _ | refine bl_drewN ?_ _ | refine bl_drew ?_ | refine bl_grow ?_ _ _ | refine bl_set (Nat.le_refl _) ?_ _ | refine bl_call ?_ (by assumption))))) hl).mono ?_; rintro e w2 ⟨rfl, rfl⟩))
    all_goals go_ret
    all_goals exact ⟨rfl, by (repeat (first | exact Below.refl _ _ | assumption | refine bl_alloc ?_ _ | refine bl_drewN ?_ _ | refine bl_drew ?_ | refine bl_grow ?_ _ _ | refine bl_set (Nat.le_refl _) ?_ _ | refine bl_call ?_ (by assumption)))⟩
end Go.Proofs.YthhfnncehfkbfaaDoor
/- Contracts of the program's chapter 2: what an operand must be at a place. -/
namespace Go.Proofs.YthhfnncehfkbfaaDoor
open Go.RowKit Go.Sort Go.BigFrame
def IntsFrom (w : World) (b : Nat) : Nat → List Int → Prop
  | _, [] => True
  | o, x :: r => w.cell? ⟨b, o, none⟩ = some (.int .i64 x) ∧ IntsFrom w b (o + 1) r
theorem ints_of_from {w : World} {b : Nat} : ∀ {l : List Int} {o : Nat}, IntsFrom w b o l → IntsAt w b o l
  | [], _, _ => fun i hi => absurd hi (by simp)
  | x :: r, o, h => fun i hi => by
    cases i with
    | zero => exact h.1
    | succ k =>
      have := ints_of_from h.2 k (by simpa using hi)
      rw [show o + (k + 1) = o + 1 + k from by omega]
      simpa using this
set_option maxHeartbeats 400000 in
set_option maxRecDepth 100000 in
theorem i_isE (d : Stil.Dev) (w : World) (hr : RowsAt w) (hn1 : -9223372036854775808 ≤ d.n) (hn2 : d.n ≤ 9223372036854775807) :
    Calls Tryd.prog 70 #[.agg #[.int .i64 d.kind, .int .i64 d.n, .int .i64 d.p]] w fun e w' => e = .returned (.bool (d.ok && decide (d.kind ∈ ([5] : List Int)))) ∧ Below w.heap.size w w' := by
  have HR : Hid (∀ W, Below w.heap.size w W → RowsAt W) := fun W h => hr.below h
  clear hr
  go_enter Tryd.func70, Tryd.ntmps70
  go_wp2_with (go_at_call 80; refine (i_among d _ _ [5] _ (HR.out _ (by (repeat (first | exact Below.refl _ _ | assumption | refine bl_alloc ?_ _ | refine bl_drewN ?_ _ | refine bl_drew ?_ | refine bl_grow ?_ _ _ | refine bl_set (Nat.le_refl _) ?_ _ | refine bl_call ?_ (by assumption))))) (ints_of_from (by simp [IntsFrom, go_sem])) (by simp) (by simp) hn1 hn2).mono ?_; rintro e w1 ⟨rfl, hb⟩)
  go_ret
  exact ⟨ret_bool (by simp), by (repeat (first | exact Below.refl _ _ | assumption | refine bl_alloc ?_ _ | refine bl_drewN ?_ _ | refine bl_drew ?_ | refine bl_grow ?_ _ _ | refine bl_set (Nat.le_refl _) ?_ _ | refine bl_call ?_ (by assumption)))⟩
set_option maxHeartbeats 400000 in
set_option maxRecDepth 100000 in
theorem i_isS (d : Stil.Dev) (w : World) (hr : RowsAt w) (hn1 : -9223372036854775808 ≤ d.n) (hn2 : d.n ≤ 9223372036854775807) :
    Calls Tryd.prog 76 #[.agg #[.int .i64 d.kind, .int .i64 d.n, .int .i64 d.p]] w fun e w' => e = .returned (.bool (d.ok && decide (d.kind ∈ ([4] : List Int)))) ∧ Below w.heap.size w w' := by
  have HR : Hid (∀ W, Below w.heap.size w W → RowsAt W) := fun W h => hr.below h
  clear hr
  go_enter Tryd.func76, Tryd.ntmps76
  go_wp2_with (go_at_call 80; refine (i_among d _ _ [4] _ (HR.out _ (by (repeat (first | exact Below.refl _ _ | assumption | refine bl_alloc ?_ _ | refine bl_drewN ?_ _ | refine bl_drew ?_ | refine bl_grow ?_ _ _ | refine bl_set (Nat.le_refl _) ?_ _ | refine bl_call ?_ (by assumption))))) (ints_of_from (by simp [IntsFrom, go_sem])) (by simp) (by simp) hn1 hn2).mono ?_; rintro e w1 ⟨rfl, hb⟩)
  go_ret
  exact ⟨ret_bool (by simp), by (repeat (first | exact Below.refl _ _ | assumption | refine bl_alloc ?_ _ | refine bl_drewN ?_ _ | refine bl_drew ?_ | refine bl_grow ?_ _ _ | refine bl_set (Nat.le_refl _) ?_ _ | refine bl_call ?_ (by assumption)))⟩
set_option maxHeartbeats 400000 in
set_option maxRecDepth 100000 in
theorem i_isT (d : Stil.Dev) (w : World) (hr : RowsAt w) (hn1 : -9223372036854775808 ≤ d.n) (hn2 : d.n ≤ 9223372036854775807) :
    Calls Tryd.prog 64 #[.agg #[.int .i64 d.kind, .int .i64 d.n, .int .i64 d.p]] w fun e w' => e = .returned (.bool (d.ok && decide (d.kind ∈ ([7] : List Int)))) ∧ Below w.heap.size w w' := by
  have HR : Hid (∀ W, Below w.heap.size w W → RowsAt W) := fun W h => hr.below h
  clear hr
  go_enter Tryd.func64, Tryd.ntmps64
  go_wp2_with (go_at_call 80; refine (i_among d _ _ [7] _ (HR.out _ (by (repeat (first | exact Below.refl _ _ | assumption | refine bl_alloc ?_ _ | refine bl_drewN ?_ _ | refine bl_drew ?_ | refine bl_grow ?_ _ _ | refine bl_set (Nat.le_refl _) ?_ _ | refine bl_call ?_ (by assumption))))) (ints_of_from (by simp [IntsFrom, go_sem])) (by simp) (by simp) hn1 hn2).mono ?_; rintro e w1 ⟨rfl, hb⟩)
  go_ret
  exact ⟨ret_bool (by simp), by (repeat (first | exact Below.refl _ _ | assumption | refine bl_alloc ?_ _ | refine bl_drewN ?_ _ | refine bl_drew ?_ | refine bl_grow ?_ _ _ | refine bl_set (Nat.le_refl _) ?_ _ | refine bl_call ?_ (by assumption)))⟩
set_option maxHeartbeats 400000 in
set_option maxRecDepth 100000 in
theorem i_isC (d : Stil.Dev) (w : World) (hr : RowsAt w) (hn1 : -9223372036854775808 ≤ d.n) (hn2 : d.n ≤ 9223372036854775807) :
    Calls Tryd.prog 77 #[.agg #[.int .i64 d.kind, .int .i64 d.n, .int .i64 d.p]] w fun e w' => e = .returned (.bool (d.ok && decide (d.kind ∈ ([8] : List Int)))) ∧ Below w.heap.size w w' := by
  have HR : Hid (∀ W, Below w.heap.size w W → RowsAt W) := fun W h => hr.below h
  clear hr
  go_enter Tryd.func77, Tryd.ntmps77
  go_wp2_with (go_at_call 80; refine (i_among d _ _ [8] _ (HR.out _ (by (repeat (first | exact Below.refl _ _ | assumption | refine bl_alloc ?_ _ | refine bl_drewN ?_ _ | refine bl_drew ?_ | refine bl_grow ?_ _ _ | refine bl_set (Nat.le_refl _) ?_ _ | refine bl_call ?_ (by assumption))))) (ints_of_from (by simp [IntsFrom, go_sem])) (by simp) (by simp) hn1 hn2).mono ?_; rintro e w1 ⟨rfl, hb⟩)
  go_ret
  exact ⟨ret_bool (by simp), by (repeat (first | exact Below.refl _ _ | assumption | refine bl_alloc ?_ _ | refine bl_drewN ?_ _ | refine bl_drew ?_ | refine bl_grow ?_ _ _ | refine bl_set (Nat.le_refl _) ?_ _ | refine bl_call ?_ (by assumption)))⟩
set_option maxHeartbeats 400000 in
set_option maxRecDepth 100000 in
theorem i_isD (d : Stil.Dev) (w : World) (hr : RowsAt w) (hn1 : -9223372036854775808 ≤ d.n) (hn2 : d.n ≤ 9223372036854775807) :
    Calls Tryd.prog 66 #[.agg #[.int .i64 d.kind, .int .i64 d.n, .int .i64 d.p]] w fun e w' => e = .returned (.bool (d.ok && decide (d.kind ∈ ([9] : List Int)))) ∧ Below w.heap.size w w' := by
  have HR : Hid (∀ W, Below w.heap.size w W → RowsAt W) := fun W h => hr.below h
  clear hr
  go_enter Tryd.func66, Tryd.ntmps66
  go_wp2_with (go_at_call 80; refine (i_among d _ _ [9] _ (HR.out _ (by (repeat (first | exact Below.refl _ _ | assumption | refine bl_alloc ?_ _ | refine bl_drewN ?_ _ | refine bl_drew ?_ | refine bl_grow ?_ _ _ | refine bl_set (Nat.le_refl _) ?_ _ | refine bl_call ?_ (by assumption))))) (ints_of_from (by simp [IntsFrom, go_sem])) (by simp) (by simp) hn1 hn2).mono ?_; rintro e w1 ⟨rfl, hb⟩)
  go_ret
  exact ⟨ret_bool (by simp), by (repeat (first | exact Below.refl _ _ | assumption | refine bl_alloc ?_ _ | refine bl_drewN ?_ _ | refine bl_drew ?_ | refine bl_grow ?_ _ _ | refine bl_set (Nat.le_refl _) ?_ _ | refine bl_call ?_ (by assumption)))⟩
set_option maxHeartbeats 400000 in
set_option maxRecDepth 100000 in
theorem i_isR (d : Stil.Dev) (w : World) (hr : RowsAt w) (hn1 : -9223372036854775808 ≤ d.n) (hn2 : d.n ≤ 9223372036854775807) :
    Calls Tryd.prog 67 #[.agg #[.int .i64 d.kind, .int .i64 d.n, .int .i64 d.p]] w fun e w' => e = .returned (.bool (d.ok && decide (d.kind ∈ ([10] : List Int)))) ∧ Below w.heap.size w w' := by
  have HR : Hid (∀ W, Below w.heap.size w W → RowsAt W) := fun W h => hr.below h
  clear hr
  go_enter Tryd.func67, Tryd.ntmps67
  go_wp2_with (go_at_call 80; refine (i_among d _ _ [10] _ (HR.out _ (by (repeat (first | exact Below.refl _ _ | assumption | refine bl_alloc ?_ _ | refine bl_drewN ?_ _ | refine bl_drew ?_ | refine bl_grow ?_ _ _ | refine bl_set (Nat.le_refl _) ?_ _ | refine bl_call ?_ (by assumption))))) (ints_of_from (by simp [IntsFrom, go_sem])) (by simp) (by simp) hn1 hn2).mono ?_; rintro e w1 ⟨rfl, hb⟩)
  go_ret
  exact ⟨ret_bool (by simp), by (repeat (first | exact Below.refl _ _ | assumption | refine bl_alloc ?_ _ | refine bl_drewN ?_ _ | refine bl_drew ?_ | refine bl_grow ?_ _ _ | refine bl_set (Nat.le_refl _) ?_ _ | refine bl_call ?_ (by assumption)))⟩
set_option maxHeartbeats 400000 in
set_option maxRecDepth 100000 in
theorem i_isYM (d : Stil.Dev) (w : World) (hr : RowsAt w) (hn1 : -9223372036854775808 ≤ d.n) (hn2 : d.n ≤ 9223372036854775807) :
    Calls Tryd.prog 73 #[.agg #[.int .i64 d.kind, .int .i64 d.n, .int .i64 d.p]] w fun e w' => e = .returned (.bool (d.ok && decide (d.kind ∈ ([2, 3] : List Int)))) ∧ Below w.heap.size w w' := by
  have HR : Hid (∀ W, Below w.heap.size w W → RowsAt W) := fun W h => hr.below h
  clear hr
  go_enter Tryd.func73, Tryd.ntmps73
  go_wp2_with (go_at_call 80; refine (i_among d _ _ [2, 3] _ (HR.out _ (by (repeat (first | exact Below.refl _ _ | assumption | refine bl_alloc ?_ _ | refine bl_drewN ?_ _ | refine bl_drew ?_ | refine bl_grow ?_ _ _ | refine bl_set (Nat.le_refl _) ?_ _ | refine bl_call ?_ (by assumption))))) (ints_of_from (by simp [IntsFrom, go_sem])) (by simp) (by simp) hn1 hn2).mono ?_; rintro e w1 ⟨rfl, hb⟩)
  go_ret
  exact ⟨ret_bool (by simp), by (repeat (first | exact Below.refl _ _ | assumption | refine bl_alloc ?_ _ | refine bl_drewN ?_ _ | refine bl_drew ?_ | refine bl_grow ?_ _ _ | refine bl_set (Nat.le_refl _) ?_ _ | refine bl_call ?_ (by assumption)))⟩
set_option maxHeartbeats 400000 in
set_option maxRecDepth 100000 in
theorem i_isYMS (d : Stil.Dev) (w : World) (hr : RowsAt w) (hn1 : -9223372036854775808 ≤ d.n) (hn2 : d.n ≤ 9223372036854775807) :
    Calls Tryd.prog 74 #[.agg #[.int .i64 d.kind, .int .i64 d.n, .int .i64 d.p]] w fun e w' => e = .returned (.bool (d.ok && decide (d.kind ∈ ([2, 3, 4] : List Int)))) ∧ Below w.heap.size w w' := by
  have HR : Hid (∀ W, Below w.heap.size w W → RowsAt W) := fun W h => hr.below h
  clear hr
  go_enter Tryd.func74, Tryd.ntmps74
  go_wp2_with (go_at_call 80; refine (i_among d _ _ [2, 3, 4] _ (HR.out _ (by (repeat (first | exact Below.refl _ _ | assumption | refine bl_alloc ?_ _ | refine bl_drewN ?_ _ | refine bl_drew ?_ | refine bl_grow ?_ _ _ | refine bl_set (Nat.le_refl _) ?_ _ | refine bl_call ?_ (by assumption))))) (ints_of_from (by simp [IntsFrom, go_sem])) (by simp) (by simp) hn1 hn2).mono ?_; rintro e w1 ⟨rfl, hb⟩)
  go_ret
  exact ⟨ret_bool (by simp), by (repeat (first | exact Below.refl _ _ | assumption | refine bl_alloc ?_ _ | refine bl_drewN ?_ _ | refine bl_drew ?_ | refine bl_grow ?_ _ _ | refine bl_set (Nat.le_refl _) ?_ _ | refine bl_call ?_ (by assumption)))⟩
set_option maxHeartbeats 400000 in
set_option maxRecDepth 100000 in
theorem i_isYMSTC (d : Stil.Dev) (w : World) (hr : RowsAt w) (hn1 : -9223372036854775808 ≤ d.n) (hn2 : d.n ≤ 9223372036854775807) :
    Calls Tryd.prog 75 #[.agg #[.int .i64 d.kind, .int .i64 d.n, .int .i64 d.p]] w fun e w' => e = .returned (.bool (d.ok && decide (d.kind ∈ ([2, 3, 4, 7, 8] : List Int)))) ∧ Below w.heap.size w w' := by
  have HR : Hid (∀ W, Below w.heap.size w W → RowsAt W) := fun W h => hr.below h
  clear hr
  go_enter Tryd.func75, Tryd.ntmps75
  go_wp2_with (go_at_call 80; refine (i_among d _ _ [2, 3, 4, 7, 8] _ (HR.out _ (by (repeat (first | exact Below.refl _ _ | assumption | refine bl_alloc ?_ _ | refine bl_drewN ?_ _ | refine bl_drew ?_ | refine bl_grow ?_ _ _ | refine bl_set (Nat.le_refl _) ?_ _ | refine bl_call ?_ (by assumption))))) (ints_of_from (by simp [IntsFrom, go_sem])) (by simp) (by simp) hn1 hn2).mono ?_; rintro e w1 ⟨rfl, hb⟩)
  go_ret
  exact ⟨ret_bool (by simp), by (repeat (first | exact Below.refl _ _ | assumption | refine bl_alloc ?_ _ | refine bl_drewN ?_ _ | refine bl_drew ?_ | refine bl_grow ?_ _ _ | refine bl_set (Nat.le_refl _) ?_ _ | refine bl_call ?_ (by assumption)))⟩
set_option maxHeartbeats 400000 in
set_option maxRecDepth 100000 in
theorem i_isPreset (d : Stil.Dev) (w : World) (hr : RowsAt w) (hn1 : -9223372036854775808 ≤ d.n) (hn2 : d.n ≤ 9223372036854775807) :
    Calls Tryd.prog 65 #[.agg #[.int .i64 d.kind, .int .i64 d.n, .int .i64 d.p]] w fun e w' => e = .returned (.bool (d.ok && decide (d.kind ∈ ([11] : List Int)) && decide (0 ≤ d.n))) ∧ Below w.heap.size w w' := by
  have HR : Hid (∀ W, Below w.heap.size w W → RowsAt W) := fun W h => hr.below h
  clear hr
  cases h : (d.ok && decide (d.kind ∈ ([11] : List Int)))
  all_goals
    go_enter Tryd.func65, Tryd.ntmps65
    go_wp2_with (go_at_call 80; refine (i_among d _ _ [11] _ (HR.out _ (by (repeat (first | exact Below.refl _ _ | assumption | refine bl_alloc ?_ _ | refine bl_drewN ?_ _ | refine bl_drew ?_ | refine bl_grow ?_ _ _ | refine bl_set (Nat.le_refl _) ?_ _ | refine bl_call ?_ (by assumption))))) (ints_of_from (by simp [IntsFrom, go_sem])) (by simp) (by simp) hn1 hn2).mono ?_; rw [h]; rintro e w1 ⟨rfl, hb⟩; obtain ⟨hc, hf⟩ := bcell hb)
    all_goals go_ret
    all_goals exact ⟨ret_bool (by simp), by (repeat (first | exact Below.refl _ _ | assumption | refine bl_alloc ?_ _ | refine bl_drewN ?_ _ | refine bl_drew ?_ | refine bl_grow ?_ _ _ | refine bl_set (Nat.le_refl _) ?_ _ | refine bl_call ?_ (by assumption)))⟩
end Go.Proofs.YthhfnncehfkbfaaDoor
