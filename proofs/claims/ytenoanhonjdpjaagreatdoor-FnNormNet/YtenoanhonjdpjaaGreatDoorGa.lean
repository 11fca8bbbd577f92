/- T7: texts put together. -/
import Derived.Test.YtenoanhonjdpjaaGreatDoorGT
import Derived.Test.YtenoanhonjdpjaaGreatDoorGZ
/- How lists of instructions lie in memory. -/
namespace Go.Proofs.YtenoanhonjdpjaaGreatDoor
open Go.RowKit Go.Sort Go.BigFrame
end Go.Proofs.YtenoanhonjdpjaaGreatDoor
