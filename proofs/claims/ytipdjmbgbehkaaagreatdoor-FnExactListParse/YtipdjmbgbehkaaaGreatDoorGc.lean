/- Contracts of the specification's chapter 6: what is wrong with an instruction, what is known behind it. -/
import Derived.Test.YtipdjmbgbehkaaaGreatDoorS7
import Derived.Test.YtipdjmbgbehkaaaGreatDoorGa
namespace Go.Proofs.YtipdjmbgbehkaaaGreatDoor
open Go.RowKit Go.Sort Go.BigFrame
end Go.Proofs.YtipdjmbgbehkaaaGreatDoor
/- S7c, S7d: texts put together. -/
/- Contracts of the specification's chapter 6: what is known behind an instruction; SureCheck. -/
namespace Go.Proofs.YtipdjmbgbehkaaaGreatDoor
open Go.RowKit Go.Sort Go.BigFrame
end Go.Proofs.YtipdjmbgbehkaaaGreatDoor
/- Contracts of the specification's chapter 6: SureCheck. -/
namespace Go.Proofs.YtipdjmbgbehkaaaGreatDoor
open Go.RowKit Go.Sort Go.BigFrame
end Go.Proofs.YtipdjmbgbehkaaaGreatDoor
