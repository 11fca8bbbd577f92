/- I7n: texts put together. -/
import Derived.Test.YtipdjmbgbehkaaaGreatDoorGT
/- Contracts of the program's chapter 3: whether a contact or coil is nothing. -/
namespace Go.Proofs.YtipdjmbgbehkaaaGreatDoor
open Go.RowKit Go.Sort Go.BigFrame
set_option maxHeartbeats 1000000 in
theorem i_isNothing (op : Int) (a : Option Addr) (ln cap : Nat) (w : World) (_h : ln ≤ 9223372036854775807) :
    Calls Tryz.prog 45 #[.agg #[.int .i64 op, .slice a ln cap]] w fun e w' => e = .returned (.bool (op == 0 && ln == 0)) ∧ Below w.heap.size w w' := by
  by_cases h0 : op = 0
  · subst h0
    go_enter Tryz.func45, Tryz.ntmps45
    go_wp2
    all_goals go_ret
    all_goals refine ⟨ret_bool ?_, by (repeat (first | with_reducible exact Below.refl _ _ | with_reducible assumption | with_reducible refine bl_set (by first | exact Nat.le_refl _ | (simp; done) | (simp; omega) | omega) ?_ _ | with_reducible refine bl_alloc ?_ _ | with_reducible refine bl_drewN ?_ _ | with_reducible refine bl_drew ?_ | with_reducible refine bl_grow ?_ _ _ | with_reducible refine bl_call ?_ (by assumption)))⟩
    all_goals (go_light; rw [Bool.eq_iff_iff]; simp; try omega)
  · have h1 : (op == 0) = false := by rw [beq_eq_false_iff_ne]; exact h0
    go_enter Tryz.func45, Tryz.ntmps45
    go_wp2
    all_goals go_ret
    all_goals refine ⟨ret_bool ?_, by (repeat (first | with_reducible exact Below.refl _ _ | with_reducible assumption | with_reducible refine bl_set (by first | exact Nat.le_refl _ | (simp; done) | (simp; omega) | omega) ?_ _ | with_reducible refine bl_alloc ?_ _ | with_reducible refine bl_drewN ?_ _ | with_reducible refine bl_drew ?_ | with_reducible refine bl_grow ?_ _ _ | with_reducible refine bl_call ?_ (by assumption)))⟩
    all_goals (go_light; simp [h1])
end Go.Proofs.YtipdjmbgbehkaaaGreatDoor
