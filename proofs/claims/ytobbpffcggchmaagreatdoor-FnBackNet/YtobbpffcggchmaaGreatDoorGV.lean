import Derived.Test.YtobbpffcggchmaaGreatDoorGX
namespace Go.Proofs.YtobbpffcggchmaaGreatDoor
open Go.RowKit Go.Sort Go.BigFrame
end Go.Proofs.YtobbpffcggchmaaGreatDoor
namespace Go.Proofs.YtobbpffcggchmaaGreatDoor
open Go.RowKit Go.Sort Go.BigFrame Go.Shelf
attribute [local go_sem] Oper.semAt_some
end Go.Proofs.YtobbpffcggchmaaGreatDoor
namespace Go.Proofs.YtobbpffcggchmaaGreatDoor
open Go.RowKit Go.Sort Go.BigFrame
end Go.Proofs.YtobbpffcggchmaaGreatDoor
namespace Go.Proofs.YtobbpffcggchmaaGreatDoor
open Go.RowKit Go.Sort Go.BigFrame
end Go.Proofs.YtobbpffcggchmaaGreatDoor
