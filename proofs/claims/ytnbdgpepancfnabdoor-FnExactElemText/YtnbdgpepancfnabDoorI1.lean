/- Contracts of the program's chapter 1: the table of kinds. -/
import Derived.Test.YtnbdgpepancfnabDoorB0
namespace Go.Proofs.YtnbdgpepancfnabDoor
open Go.RowKit Go.Sort Go.BigFrame
def rowBit (k : Int) : Bool := decide (1 ≤ k) && (decide (k ≤ 4) || k == 6 || k == 7 || k == 8)
def rowWhole (k : Int) : Bool := k == 7 || k == 8 || k == 9 || k == 11
def rowReal (k : Int) : Bool := k == 10 || k == 12 || k == 13
/-- The table of kinds lies in memory. -/
def RowsAt (w : World) : Prop := 1 < w.heap.size ∧ ∀ k : Nat, k < 14 → w.cell? ⟨1, k * 5, none⟩ = some (.string (Stil.devLetter k)) ∧ w.cell? ⟨1, k * 5 + 1, none⟩ = some (.int .i64 (Stil.devSize k)) ∧ w.cell? ⟨1, k * 5 + 2, none⟩ = some (.bool (rowBit k)) ∧ w.cell? ⟨1, k * 5 + 3, none⟩ = some (.bool (rowWhole k)) ∧ w.cell? ⟨1, k * 5 + 4, none⟩ = some (.bool (rowReal k))
theorem RowsAt.below {w w' : World} (h : RowsAt w) (hb : Below w.heap.size w w') : RowsAt w' := by
  obtain ⟨h0, h⟩ := h
  obtain ⟨hc, _⟩ := bcell hb
  refine ⟨Nat.lt_of_lt_of_le h0 hb.size, fun k hk => ?_⟩
  obtain ⟨a, b, c, d, e⟩ := h k hk
  exact ⟨by rw [hc _ _ h0]; exact a, by rw [hc _ _ h0]; exact b, by rw [hc _ _ h0]; exact c, by rw [hc _ _ h0]; exact d, by rw [hc _ _ h0]; exact e⟩
set_option maxHeartbeats 400000 in
theorem i_devRowOf (k : Int) (w : World) (hr : RowsAt w) :
    Calls Tryd.prog 50 #[.int .i64 k] w fun e w' => e = .returned (.agg #[.string (Stil.devLetter k), .int .i64 (Stil.devSize k), .bool (rowBit k), .bool (rowWhole k), .bool (rowReal k)]) ∧ Below w.heap.size w w' := by
  by_cases h : 0 ≤ k ∧ k < 14
  · obtain ⟨m, rfl⟩ := Int.eq_ofNat_of_zero_le h.1
    have hm : m < 14 := by omega
    obtain ⟨h0, hr⟩ := hr
    obtain ⟨a, b, c, d, e⟩ := hr m hm
    clear h hr
    go_enter Tryd.func50, Tryd.ntmps50
    go_wp2
    refine bodyPost_ret (v := .agg #[.string (Stil.devLetter m), .int .i64 (Stil.devSize m), .bool (rowBit m), .bool (rowWhole m), .bool (rowReal m)]) (by simp [results, Tryd.results50, go_sem]) rfl ⟨rfl, ?_⟩
    (repeat (first | exact Below.refl _ _ | assumption | refine bl_alloc ?_ _ | refine bl_drewN ?_ _ | refine bl_drew ?_ | refine bl_grow ?_ _ _ | refine bl_set (Nat.le_refl _) ?_ _ | refine bl_call ?_ (by assumption)))
  · have hd : Stil.devLetter k = ⟨#[]⟩ ∧ Stil.devSize k = 0 ∧ rowBit k = false ∧ rowWhole k = false ∧ rowReal k = false := by
      unfold Stil.devLetter Stil.devSize rowBit rowWhole rowReal
      refine ⟨by rw [if_neg (by omega)], by rw [if_neg (by omega), if_neg (by omega), if_neg (by omega), if_neg (by omega)], ?_, ?_, ?_⟩
      · simp only [Bool.and_eq_false_iff, Bool.or_eq_false_iff, decide_eq_false_iff_not, beq_eq_false_iff_ne]; omega
      · simp only [Bool.or_eq_false_iff, beq_eq_false_iff_ne]; omega
      · simp only [Bool.or_eq_false_iff, beq_eq_false_iff_ne]; omega
    have HD : Hid (Stil.devLetter k = ⟨#[]⟩ ∧ Stil.devSize k = 0 ∧ rowBit k = false ∧ rowWhole k = false ∧ rowReal k = false) := hd
    clear hd hr
    go_enter Tryd.func50, Tryd.ntmps50
    go_wp2
    all_goals (obtain ⟨q1, q2, q3, q4, q5⟩ := HD.out)
    all_goals refine bodyPost_ret (v := .agg #[.string ⟨#[]⟩, .int .i64 0, .bool false, .bool false, .bool false]) (by simp [results, Tryd.results50, go_sem]) rfl ⟨by rw [q1, q2, q3, q4, q5], ?_⟩
    all_goals (repeat (first | exact Below.refl _ _ | assumption | refine bl_alloc ?_ _ | refine bl_drewN ?_ _ | refine bl_drew ?_ | refine bl_grow ?_ _ _ | refine bl_set (Nat.le_refl _) ?_ _ | refine bl_call ?_ (by assumption)))
end Go.Proofs.YtnbdgpepancfnabDoor
