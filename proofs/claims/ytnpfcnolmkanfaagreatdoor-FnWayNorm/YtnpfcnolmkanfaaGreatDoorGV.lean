import Derived.Test.YtnpfcnolmkanfaaGreatDoorGX
namespace Go.Proofs.YtnpfcnolmkanfaaGreatDoor
open Go.RowKit Go.Sort Go.BigFrame
end Go.Proofs.YtnpfcnolmkanfaaGreatDoor
namespace Go.Proofs.YtnpfcnolmkanfaaGreatDoor
open Go.RowKit Go.Sort Go.BigFrame Go.Shelf
attribute [local go_sem] Oper.semAt_some
end Go.Proofs.YtnpfcnolmkanfaaGreatDoor
namespace Go.Proofs.YtnpfcnolmkanfaaGreatDoor
open Go.RowKit Go.Sort Go.BigFrame
end Go.Proofs.YtnpfcnolmkanfaaGreatDoor
namespace Go.Proofs.YtnpfcnolmkanfaaGreatDoor
open Go.RowKit Go.Sort Go.BigFrame
end Go.Proofs.YtnpfcnolmkanfaaGreatDoor
