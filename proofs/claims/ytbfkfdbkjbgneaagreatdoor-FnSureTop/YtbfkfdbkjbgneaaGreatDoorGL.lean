/- L3a: texts put together. -/
import Derived.Test.YtbfkfdbkjbgneaaGreatDoorGT
import Derived.Test.YtbfkfdbkjbgneaaGreatDoorGU
import Derived.Test.YtbfkfdbkjbgneaaGreatDoorGM
/- Contracts of the laws' helpers for ladders: what they weigh. -/
namespace Go.Proofs.YtbfkfdbkjbgneaaGreatDoor
open Go.RowKit Go.Sort Go.BigFrame
theorem szL_neg {left : Int} {n : Nat} (h : left - n < 0) : szL left n = -1 := by unfold szL; rw [if_pos h]
theorem szL_nn {left : Int} {n : Nat} (h : ¬ left - n < 0) : szL left n = left - n := by unfold szL; rw [if_neg h]
end Go.Proofs.YtbfkfdbkjbgneaaGreatDoor
