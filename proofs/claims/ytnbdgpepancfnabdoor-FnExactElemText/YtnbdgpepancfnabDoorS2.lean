/- Contracts of the specification's chapter 2, first part. -/
import Derived.Test.YtnbdgpepancfnabDoorS1h
import Derived.Test.YtnbdgpepancfnabDoorM2
namespace Go.Proofs.YtnbdgpepancfnabDoor
open Go.RowKit Go.Sort Go.BigFrame
set_option maxHeartbeats 1000000 in
theorem s_arity (op : Int) (w : World) :
    Calls Tryd.prog 13 #[.int .i64 op] w fun e w' => e = .returned (.int .i64 (Stil.arity op)) ∧ w' = w := by
  go_enter Tryd.func13, Tryd.ntmps13
  go_wp2
  all_goals go_ret
  all_goals (refine ⟨ret_int ?_, rfl⟩; go_light; simp only [beq_iff_eq, beq_eq_false_iff_ne] at *; unfold Stil.arity; first | (simp [*]; done) | (repeat (first | rw [if_pos (by omega)] | rw [if_neg (by omega)])))
theorem s_elemName_cell (W : World) (op : Int) (h1 : 21 ≤ op) (h2 : op ≤ 37) : (W.alloc (Obj.cells #[.string ⟨#[111, 117, 116]⟩, .string ⟨#[115, 101, 116]⟩, .string ⟨#[114, 101, 115, 101, 116]⟩, .string ⟨#[112, 117, 108, 115, 101]⟩, .string ⟨#[115, 116, 101, 112]⟩, .string ⟨#[116, 105, 109, 101, 114]⟩, .string ⟨#[104, 111, 108, 100]⟩, .string ⟨#[108, 97, 116, 101]⟩, .string ⟨#[99, 111, 117, 110, 116]⟩, .string ⟨#[109, 111, 118, 101]⟩, .string ⟨#[97, 100, 100]⟩, .string ⟨#[115, 117, 98]⟩, .string ⟨#[109, 117, 108]⟩, .string ⟨#[100, 105, 118]⟩, .string ⟨#[114, 101, 109]⟩, .string ⟨#[114, 101, 97, 108]⟩, .string ⟨#[119, 104, 111, 108, 101]⟩] 9)).cell? ⟨W.heap.size, (op - 21).toNat, none⟩ = some (.string ⟨(Stil.names.getD (op - 21).toNat []).toArray⟩) := by
  have hn : op = 21 ∨ op = 22 ∨ op = 23 ∨ op = 24 ∨ op = 25 ∨ op = 26 ∨ op = 27 ∨ op = 28 ∨ op = 29 ∨ op = 30 ∨ op = 31 ∨ op = 32 ∨ op = 33 ∨ op = 34 ∨ op = 35 ∨ op = 36 ∨ op = 37 := by omega
  rcases hn with rfl | rfl | rfl | rfl | rfl | rfl | rfl | rfl | rfl | rfl | rfl | rfl | rfl | rfl | rfl | rfl | rfl <;> simp [go_sem, Stil.names]
set_option maxHeartbeats 400000 in
set_option maxRecDepth 100000 in
theorem s_elemName (op : Int) (w : World) (hb1 : -9223372036854775808 ≤ op) (hb2 : op ≤ 9223372036854775807) :
    Calls Tryd.prog 22 #[.int .i64 op] w fun e w' => e = .returned (.string ⟨(Stil.elemName op).toArray⟩) ∧ Below w.heap.size w w' := by
  by_cases h : 21 ≤ op ∧ op ≤ 37
  · obtain ⟨h1, h2⟩ := h
    have HD : Hid (Stil.elemName op = Stil.names.getD (op - 21).toNat []) := by show _ = _; unfold Stil.elemName; rw [if_pos ⟨h1, h2⟩]
    have hc := s_elemName_cell w op h1 h2
    go_enter Tryd.func22, Tryd.ntmps22
    go_wp2
    go_ret
    exact ⟨ret_string (by rw [HD.out]; simp [List.getD]), below_alloc _ _⟩
  · have HD : Hid (Stil.elemName op = []) := by show _ = _; unfold Stil.elemName; rw [if_neg h]
    have h' : op < 21 ∨ 37 < op := by omega
    clear h
    rcases h' with h' | h'
    · go_enter Tryd.func22, Tryd.ntmps22
      go_wp2
      go_ret
      exact ⟨ret_string (by rw [HD.out]), Below.refl _ _⟩
    · have h'' : ¬ op < 21 := by omega
      go_enter Tryd.func22, Tryd.ntmps22
      go_wp2
      go_ret
      exact ⟨ret_string (by rw [HD.out]), Below.refl _ _⟩
theorem s_sign_cell (W : World) (op : Int) (h1 : 5 ≤ op) (h2 : op ≤ 10) : (W.alloc (Obj.cells #[.string ⟨#[60]⟩, .string ⟨#[60, 61]⟩, .string ⟨#[61]⟩, .string ⟨#[60, 62]⟩, .string ⟨#[62, 61]⟩, .string ⟨#[62]⟩] 9)).cell? ⟨W.heap.size, (op - 5).toNat, none⟩ = some (.string ⟨(Stil.signs.getD (op - 5).toNat []).toArray⟩) := by
  have hn : op = 5 ∨ op = 6 ∨ op = 7 ∨ op = 8 ∨ op = 9 ∨ op = 10 := by omega
  rcases hn with rfl | rfl | rfl | rfl | rfl | rfl <;> simp [go_sem, Stil.signs]
set_option maxHeartbeats 400000 in
set_option maxRecDepth 100000 in
theorem s_sign (op : Int) (w : World) (hb1 : -9223372036854775808 ≤ op) (hb2 : op ≤ 9223372036854775807) :
    Calls Tryd.prog 25 #[.int .i64 op] w fun e w' => e = .returned (.string ⟨(Stil.sign op).toArray⟩) ∧ Below w.heap.size w w' := by
  by_cases h : 5 ≤ op ∧ op ≤ 10
  · obtain ⟨h1, h2⟩ := h
    have HD : Hid (Stil.sign op = Stil.signs.getD (op - 5).toNat []) := by show _ = _; unfold Stil.sign; rw [if_pos ⟨h1, h2⟩]
    have hc := s_sign_cell w op h1 h2
    go_enter Tryd.func25, Tryd.ntmps25
    go_wp2
    go_ret
    exact ⟨ret_string (by rw [HD.out]; simp [List.getD]), below_alloc _ _⟩
  · have HD : Hid (Stil.sign op = []) := by show _ = _; unfold Stil.sign; rw [if_neg h]
    have h' : op < 5 ∨ 10 < op := by omega
    clear h
    rcases h' with h' | h'
    · go_enter Tryd.func25, Tryd.ntmps25
      go_wp2
      go_ret
      exact ⟨ret_string (by rw [HD.out]), Below.refl _ _⟩
    · have h'' : ¬ op < 5 := by omega
      go_enter Tryd.func25, Tryd.ntmps25
      go_wp2
      go_ret
      exact ⟨ret_string (by rw [HD.out]), Below.refl _ _⟩
set_option maxHeartbeats 400000 in
theorem s_kind (k n p a b : Int) (w : World) (hn1 : -9223372036854775808 ≤ n) (hn2 : n ≤ 9223372036854775807) :
    Calls Tryd.prog 14 #[.agg #[.int .i64 k, .int .i64 n, .int .i64 p], .int .i64 a, .int .i64 b] w fun e w' => e = .returned (.bool (Stil.kindB k n p a b)) ∧ Below w.heap.size w w' := by
  cases h : Stil.devOkB k n p
  all_goals
    go_enter Tryd.func14, Tryd.ntmps14
    go_wp2_with (go_at_call 29; refine (s_devOk _ _ _ _ hn1 hn2).mono ?_; rintro e w' ⟨rfl, hb⟩; obtain ⟨hc, hf⟩ := bcell hb)
    all_goals go_ret
    all_goals (refine ⟨ret_bool ?_, below_two (by assumption)⟩)
    all_goals go_light
    all_goals (rw [Stil.kindB, h, Bool.eq_iff_iff]; clear h; simp [*])
end Go.Proofs.YtnbdgpepancfnabDoor
