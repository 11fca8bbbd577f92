/- I8s: texts put together. -/
import Derived.Test.YtbfkfdbkjbgneaaGreatDoorGa
import Derived.Test.YtbfkfdbkjbgneaaGreatDoorGB
import Derived.WalkLawsBesides
import Derived.Deep.Light
/- Contracts of the program's chapter 6: a step of the run. -/
namespace Go.Proofs.YtbfkfdbkjbgneaaGreatDoor
open Go.RowKit Go.Sort Go.BigFrame
set_option maxHeartbeats 2000000 in
set_option maxRecDepth 100000 in
theorem i_sureStep (b f : Int) (c : Int) (w : World) (hb0 : -1000 ≤ b) (hb1 : b ≤ 1000) (hf0 : -1000 ≤ f) (hf1 : f ≤ 1000) :
    Calls Tryz.prog 32 #[.agg #[.int .i64 b, .int .i64 f], .int .i64 c] w fun e w' => e = .returned (.agg #[.int .i64 (if c = 1 then b + 1 else if c = 4 ∨ c = 5 ∨ c = 11 then b - 1 else b), .int .i64 (if c = 7 then f + 1 else if c = 9 then f - 1 else f)]) ∧ Below w.heap.size w w' := by
  have k1 : IntKind.i64.wrap (b + 1) = b + 1 := by rw [IntKind.wrap_i64]; omega
  have k2 : IntKind.i64.wrap (b - 1) = b - 1 := by rw [IntKind.wrap_i64]; omega
  have k3 : IntKind.i64.wrap (f + 1) = f + 1 := by rw [IntKind.wrap_i64]; omega
  have k4 : IntKind.i64.wrap (f - 1) = f - 1 := by rw [IntKind.wrap_i64]; omega
  obtain ⟨x, hx⟩ : ∃ x : Int, x = if c = 1 then b + 1 else if c = 4 ∨ c = 5 ∨ c = 11 then b - 1 else b := ⟨_, rfl⟩
  obtain ⟨y, hy⟩ : ∃ y : Int, y = if c = 7 then f + 1 else if c = 9 then f - 1 else f := ⟨_, rfl⟩
  have HX : Hid (x = if c = 1 then b + 1 else if c = 4 ∨ c = 5 ∨ c = 11 then b - 1 else b) := hx
  have HY : Hid (y = if c = 7 then f + 1 else if c = 9 then f - 1 else f) := hy
  rw [← hx, ← hy]
  clear hx hy hb0 hb1 hf0 hf1
  go_enter Tryz.func32, Tryz.ntmps32
  go_wp2
  all_goals refine bodyPost_ret (by simp [results, Tryz.results32, go_sem]; rfl) rfl ⟨?_, by (repeat (first | with_reducible exact Below.refl _ _ | with_reducible assumption | with_reducible refine bl_set (by first | exact Nat.le_refl _ | (simp; done) | (simp; omega) | omega) ?_ _ | with_reducible refine bl_alloc ?_ _ | with_reducible refine bl_drewN ?_ _ | with_reducible refine bl_drew ?_ | with_reducible refine bl_grow ?_ _ _ | with_reducible refine bl_call ?_ (by assumption)))⟩
  all_goals (rw [HX.out, HY.out]; go_light; (try simp only [beq_iff_eq, beq_eq_false_iff_ne] at *); simp [*])
end Go.Proofs.YtbfkfdbkjbgneaaGreatDoor
