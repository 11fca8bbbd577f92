/- U1,U4,U2,U3: texts put together. -/
import Derived.Test.YtenoanhonjdpjaaGreatDoorGX
/- Contracts of chapter 3,of the specification and of the program: how often an operand stands in a contact or coil. -/
namespace Go.Proofs.YtenoanhonjdpjaaGreatDoor
open Go.RowKit Go.Sort Go.BigFrame
end Go.Proofs.YtenoanhonjdpjaaGreatDoor
/- Contracts of the program's chapter 3: TreeUses. -/
namespace Go.Proofs.YtenoanhonjdpjaaGreatDoor
open Go.RowKit Go.Sort Go.BigFrame Go.Shelf
attribute [local go_sem] Oper.semAt_some
end Go.Proofs.YtenoanhonjdpjaaGreatDoor
/- Contracts of the specification's chapter 3: how often an operand stands in a net,in a ladder. -/
namespace Go.Proofs.YtenoanhonjdpjaaGreatDoor
open Go.RowKit Go.Sort Go.BigFrame
end Go.Proofs.YtenoanhonjdpjaaGreatDoor
/- Contracts of the specification's chapter 3: TreeUses. -/
namespace Go.Proofs.YtenoanhonjdpjaaGreatDoor
open Go.RowKit Go.Sort Go.BigFrame
end Go.Proofs.YtenoanhonjdpjaaGreatDoor
