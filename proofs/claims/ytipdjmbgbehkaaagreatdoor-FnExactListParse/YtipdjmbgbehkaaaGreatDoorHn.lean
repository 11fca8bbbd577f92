/- I8s: texts put together. -/
import Derived.Test.YtipdjmbgbehkaaaGreatDoorGa
import Derived.Test.YtipdjmbgbehkaaaGreatDoorGB
import Derived.WalkLawsBesides
import Derived.Deep.Light
/- Contracts of the program's chapter 6: a step of the run. -/
namespace Go.Proofs.YtipdjmbgbehkaaaGreatDoor
open Go.RowKit Go.Sort Go.BigFrame
end Go.Proofs.YtipdjmbgbehkaaaGreatDoor
