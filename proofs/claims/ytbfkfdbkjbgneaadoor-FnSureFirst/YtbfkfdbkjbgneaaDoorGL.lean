/- L3a: texts put together. -/
import Derived.Test.YtbfkfdbkjbgneaaDoorGT
import Derived.Test.YtbfkfdbkjbgneaaDoorGU
import Derived.Test.YtbfkfdbkjbgneaaDoorGM
/- Contracts of the laws' helpers for ladders: what they weigh. -/
namespace Go.Proofs.YtbfkfdbkjbgneaaDoor
open Go.RowKit Go.Sort Go.BigFrame
theorem szL_neg {left : Int} {n : Nat} (h : left - n < 0) : szL left n = -1 := by unfold szL; rw [if_pos h]
theorem szL_nn {left : Int} {n : Nat} (h : ¬ left - n < 0) : szL left n = left - n := by unfold szL; rw [if_neg h]
end Go.Proofs.YtbfkfdbkjbgneaaDoor
