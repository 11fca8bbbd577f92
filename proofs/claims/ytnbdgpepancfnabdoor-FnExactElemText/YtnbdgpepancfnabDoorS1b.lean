/- Contracts of the specification's chapter 1, second part. -/
import Derived.Test.YtnbdgpepancfnabDoorS1
namespace Go.Proofs.YtnbdgpepancfnabDoor
open Go.RowKit Go.Sort Go.BigFrame
theorem below_two {w w1 : World} {o : Obj} (hb : Below (w.alloc o).heap.size (w.alloc o) w1) : Below w.heap.size w w1 := (below_alloc w o).trans (hb.mono (by simp))
set_option maxHeartbeats 400000 in
theorem s_devIsBit (k n p : Int) (w : World) (hn1 : -9223372036854775808 ≤ n) (hn2 : n ≤ 9223372036854775807) :
    Calls Tryd.prog 37 #[.agg #[.int .i64 k, .int .i64 n, .int .i64 p]] w fun e w' => e = .returned (.bool (Stil.devIsBitB k n p)) ∧ Below w.heap.size w w' := by
  cases h : Stil.devOkB k n p
  all_goals
    go_enter Tryd.func37, Tryd.ntmps37
    go_wp2_with (go_at_call 29; refine (s_devOk _ _ _ _ hn1 hn2).mono ?_; rintro e w' ⟨rfl, hb⟩; obtain ⟨hc, hf⟩ := bcell hb)
    all_goals go_ret
    all_goals (refine ⟨ret_bool ?_, below_two (by assumption)⟩)
    all_goals go_light
    all_goals (rw [Stil.devIsBitB, h, Bool.eq_iff_iff]; clear h; simp [*]; try omega)
set_option maxHeartbeats 400000 in
theorem s_devIsWhole (k n p : Int) (w : World) (hn1 : -9223372036854775808 ≤ n) (hn2 : n ≤ 9223372036854775807) :
    Calls Tryd.prog 15 #[.agg #[.int .i64 k, .int .i64 n, .int .i64 p]] w fun e w' => e = .returned (.bool (Stil.devIsWholeB k n p)) ∧ Below w.heap.size w w' := by
  cases h : Stil.devOkB k n p
  all_goals
    go_enter Tryd.func15, Tryd.ntmps15
    go_wp2_with (go_at_call 29; refine (s_devOk _ _ _ _ hn1 hn2).mono ?_; rintro e w' ⟨rfl, hb⟩; obtain ⟨hc, hf⟩ := bcell hb)
    all_goals go_ret
    all_goals (refine ⟨ret_bool ?_, below_two (by assumption)⟩)
    all_goals go_light
    all_goals (rw [Stil.devIsWholeB, h, Bool.eq_iff_iff]; clear h; simp [*]; try omega)
set_option maxHeartbeats 400000 in
theorem s_devIsReal (k n p : Int) (w : World) (hn1 : -9223372036854775808 ≤ n) (hn2 : n ≤ 9223372036854775807) :
    Calls Tryd.prog 16 #[.agg #[.int .i64 k, .int .i64 n, .int .i64 p]] w fun e w' => e = .returned (.bool (Stil.devIsRealB k n p)) ∧ Below w.heap.size w w' := by
  cases h : Stil.devOkB k n p
  all_goals
    go_enter Tryd.func16, Tryd.ntmps16
    go_wp2_with (go_at_call 29; refine (s_devOk _ _ _ _ hn1 hn2).mono ?_; rintro e w' ⟨rfl, hb⟩; obtain ⟨hc, hf⟩ := bcell hb)
    all_goals go_ret
    all_goals (refine ⟨ret_bool ?_, below_two (by assumption)⟩)
    all_goals go_light
    all_goals (rw [Stil.devIsRealB, h, Bool.eq_iff_iff]; clear h; simp [*]; try omega)
theorem ret_string {a b : ByteArray} (h : a = b) : Ending.returned (.string a) = .returned (.string b) := by rw [h]
set_option maxHeartbeats 400000 in
theorem s_devLetter (k : Int) (w : World) :
    Calls Tryd.prog 36 #[.int .i64 k] w fun e w' => e = .returned (.string (Stil.devLetter k)) ∧ w' = w := by
  by_cases h : 1 ≤ k ∧ k ≤ 10
  · obtain ⟨h1, h2⟩ := h
    have hs : (Stil.devSize k == 0) = false := by
      simp only [beq_eq_false_iff_ne]; unfold Stil.devSize; split; omega; split; omega; split; omega; split <;> omega
    go_enter Tryd.func36, Tryd.ntmps36
    go_wp2_with (go_at_call 44; refine (s_devSize _ _).mono ?_; rintro e w' ⟨rfl, rfl⟩)
    go_ret
    refine ⟨ret_string ?_, rfl⟩
    go_light
    have hk : k = 1 ∨ k = 2 ∨ k = 3 ∨ k = 4 ∨ k = 5 ∨ k = 6 ∨ k = 7 ∨ k = 8 ∨ k = 9 ∨ k = 10 := by omega
    clear hs h1 h2
    rcases hk with rfl | rfl | rfl | rfl | rfl | rfl | rfl | rfl | rfl | rfl <;> decide +kernel
  · have hs : (Stil.devSize k == 0) = true := by
      simp only [beq_iff_eq]; unfold Stil.devSize; rw [if_neg (by omega), if_neg (by omega), if_neg (by omega), if_neg (by omega)]
    go_enter Tryd.func36, Tryd.ntmps36
    go_wp2_with (go_at_call 44; refine (s_devSize _ _).mono ?_; rintro e w' ⟨rfl, rfl⟩)
    go_ret
    refine ⟨ret_string ?_, rfl⟩
    unfold Stil.devLetter; rw [if_neg h]
end Go.Proofs.YtnbdgpepancfnabDoor
