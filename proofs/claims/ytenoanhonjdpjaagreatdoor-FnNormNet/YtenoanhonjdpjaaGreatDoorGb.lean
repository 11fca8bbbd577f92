/- L7c: texts put together. -/
import Derived.Test.YtenoanhonjdpjaaGreatDoorGa
import Derived.Test.YtenoanhonjdpjaaGreatDoorGU
/- Contracts of the laws' helpers for lists of instructions: are two the same. -/
namespace Go.Proofs.YtenoanhonjdpjaaGreatDoor
open Go.RowKit Go.Sort Go.BigFrame
end Go.Proofs.YtenoanhonjdpjaaGreatDoor
