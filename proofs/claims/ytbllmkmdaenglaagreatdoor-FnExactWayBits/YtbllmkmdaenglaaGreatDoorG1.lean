/- V4: texts put together. -/
import Derived.Test.YtbllmkmdaenglaaGreatDoorGy
import Derived.Test.YtbllmkmdaenglaaGreatDoorGw
/- The specification's chapter 7: forks. -/
namespace Go.Proofs.YtbllmkmdaenglaaGreatDoor
open Go.RowKit Go.Sort Go.BigFrame
set_option maxHeartbeats 2000000 in
set_option maxRecDepth 100000 in
theorem s_greater (a b : Nat) (w : World) : Calls Tryz.prog 31 #[.int .i64 a, .int .i64 b] w fun e w' => e = .returned (.int .i64 (max a b : Nat)) ∧ w' = w := by
  go_enter Tryz.func31, Tryz.ntmps31
  go_wp2
  all_goals go_ret
  all_goals refine ⟨ret_int ?_, rfl⟩
  all_goals (congr 1; omega)
end Go.Proofs.YtbllmkmdaenglaaGreatDoor
