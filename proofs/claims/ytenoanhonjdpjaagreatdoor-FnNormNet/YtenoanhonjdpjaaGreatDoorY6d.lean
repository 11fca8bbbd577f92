/- The specification's chapter 4: the normal form of one net: a NetNot. -/
import Derived.Test.YtenoanhonjdpjaaGreatDoorY6a
import Derived.Test.YtenoanhonjdpjaaGreatDoorGk
namespace Go.Proofs.YtenoanhonjdpjaaGreatDoor
open Go.RowKit Go.Sort Go.BigFrame
end Go.Proofs.YtenoanhonjdpjaaGreatDoor
