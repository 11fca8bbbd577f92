/- D6, D7: texts put together. -/
import Derived.Test.YtipdjmbgbehkaaaGreatDoorGD
import Derived.Deep.DeepCutAuto
import Derived.Test.YtipdjmbgbehkaaaGreatDoorGC
/- Contracts of the specification's draws: contacts. -/
namespace Go.Proofs.YtipdjmbgbehkaaaGreatDoor
open Go.RowKit Go.Sort Go.BigFrame
end Go.Proofs.YtipdjmbgbehkaaaGreatDoor
/- Contracts of the specification's draws: boxes of operands and of contacts or coils; l2Contact. -/
namespace Go.Proofs.YtipdjmbgbehkaaaGreatDoor
open Go.RowKit Go.Sort Go.BigFrame
end Go.Proofs.YtipdjmbgbehkaaaGreatDoor
/- Contracts of the specification's draws: l2Spoil. -/
namespace Go.Proofs.YtipdjmbgbehkaaaGreatDoor
open Go.RowKit Go.Sort Go.BigFrame
end Go.Proofs.YtipdjmbgbehkaaaGreatDoor
