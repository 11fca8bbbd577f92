/- The law on TreeCheck: the walk. -/
import Derived.Test.YtbllmkmdaenglaaGreatDoorGL
import Derived.Test.YtbllmkmdaenglaaGreatDoorGU
import Derived.Test.YtbllmkmdaenglaaGreatDoorGY
namespace Go.Proofs.YtbllmkmdaenglaaGreatDoor
open Go.RowKit Go.Sort Go.BigFrame
theorem check_size_le (la : List Stil.Arm) : Stil.treeSize la ≤ 2 * Stil.armsSz la := by
  unfold Stil.treeSize Stil.armsSz
  induction la with
  | nil => simp
  | cons x r ih =>
    have := Stil.armSize_le x
    simp only [List.map_cons, List.sum_cons, List.length_cons] at ih ⊢
    omega
end Go.Proofs.YtbllmkmdaenglaaGreatDoor
