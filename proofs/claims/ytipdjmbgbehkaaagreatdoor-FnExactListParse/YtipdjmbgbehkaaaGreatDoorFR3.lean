/- From what a row says of memory to what the walks ask: ladders. -/
import Derived.Test.YtipdjmbgbehkaaaGreatDoorFR0
import Derived.Test.YtipdjmbgbehkaaaGreatDoorGT
import Derived.Test.YtipdjmbgbehkaaaGreatDoorGM
namespace Go.Proofs.YtipdjmbgbehkaaaGreatDoor
open Go.ChangeShapes Go.WideShapes Go.ChangeAt Go.RowKit
end Go.Proofs.YtipdjmbgbehkaaaGreatDoor
