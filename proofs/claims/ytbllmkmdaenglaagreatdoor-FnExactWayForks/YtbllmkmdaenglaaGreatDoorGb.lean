/- L7c: texts put together. -/
import Derived.Test.YtbllmkmdaenglaaGreatDoorGa
import Derived.Test.YtbllmkmdaenglaaGreatDoorGU
/- Contracts of the laws' helpers for lists of instructions: are two the same. -/
namespace Go.Proofs.YtbllmkmdaenglaaGreatDoor
open Go.RowKit Go.Sort Go.BigFrame
end Go.Proofs.YtbllmkmdaenglaaGreatDoor
