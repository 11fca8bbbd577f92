/- S3: texts put together. -/
import Derived.Test.YtipdjmbgbehkaaaGreatDoorGT
import Derived.Deep.DeepCutAuto
import Derived.Test.YtipdjmbgbehkaaaGreatDoorGM
/- Contracts of the specification's chapter 3, first part: sizes. -/
namespace Go.Proofs.YtipdjmbgbehkaaaGreatDoor
open Go.RowKit Go.Sort Go.BigFrame
end Go.Proofs.YtipdjmbgbehkaaaGreatDoor
/- L3a, L3b: texts put together. -/
/- Contracts of the laws' helpers for ladders: what they weigh. -/
namespace Go.Proofs.YtipdjmbgbehkaaaGreatDoor
open Go.RowKit Go.Sort Go.BigFrame
end Go.Proofs.YtipdjmbgbehkaaaGreatDoor
/- Contracts of the laws' helpers for ladders: copies. -/
namespace Go.Proofs.YtipdjmbgbehkaaaGreatDoor
open Go.RowKit Go.Sort Go.BigFrame
end Go.Proofs.YtipdjmbgbehkaaaGreatDoor
