/- L3b, L3b1, L3b2, L3b4, L3b3, L3b5: texts put together. -/
import Derived.Test.YtenoanhonjdpjaaGreatDoorGT
import Derived.Test.YtenoanhonjdpjaaGreatDoorGU
import Derived.Test.YtenoanhonjdpjaaGreatDoorGM
/- Contracts of the laws' helpers for ladders: copies. -/
namespace Go.Proofs.YtenoanhonjdpjaaGreatDoor
open Go.RowKit Go.Sort Go.BigFrame
theorem info_Elem : (Tryz.prog.info? 30).map (fun i => (i.zero, i.size, i.bytes)) = some (some (.agg #[.int .i64 0, .slice none 0 0]), 2, 32) := by kernel_rfl
theorem info_Net : (Tryz.prog.info? 33).map (fun i => (i.zero, i.size, i.bytes)) = some (some (.agg #[.int .i64 0, .int .i64 0, .slice none 0 0, .slice none 0 0]), 4, 64) := by kernel_rfl
end Go.Proofs.YtenoanhonjdpjaaGreatDoor
/- Contracts of the laws' helpers for ladders: copies. -/
namespace Go.Proofs.YtenoanhonjdpjaaGreatDoor
open Go.RowKit Go.Sort Go.BigFrame
theorem info_Arm : (Tryz.prog.info? 36).map (fun i => (i.zero, i.size, i.bytes)) = some (some (.agg #[.int .i64 0, .int .i64 0, .slice none 0 0, .slice none 0 0, .slice none 0 0, .slice none 0 0]), 6, 112) := by kernel_rfl
end Go.Proofs.YtenoanhonjdpjaaGreatDoor
