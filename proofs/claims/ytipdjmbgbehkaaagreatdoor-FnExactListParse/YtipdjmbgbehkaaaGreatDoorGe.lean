/- I8c, I8d, I8e: texts put together. -/
import Derived.Test.YtipdjmbgbehkaaaGreatDoorI8b
import Derived.Test.YtipdjmbgbehkaaaGreatDoorHn
import Derived.Test.YtipdjmbgbehkaaaGreatDoorGa
import Derived.WalkLawsBesides
import Derived.Test.YtipdjmbgbehkaaaGreatDoorGZ
import Derived.Defers
import Derived.Recover
/- Contracts of the program's chapter 6: a step of the run, the table of rules, what a run was left with. -/
namespace Go.Proofs.YtipdjmbgbehkaaaGreatDoor
open Go.RowKit Go.Sort Go.BigFrame
end Go.Proofs.YtipdjmbgbehkaaaGreatDoor
/- Contracts of the program's chapter 6: the run of a list. -/
namespace Go.Proofs.YtipdjmbgbehkaaaGreatDoor
open Go.RowKit Go.Sort Go.BigFrame
end Go.Proofs.YtipdjmbgbehkaaaGreatDoor
/- Contracts of the program's chapter 6: SureCheck. -/
namespace Go.Proofs.YtipdjmbgbehkaaaGreatDoor
open Go.RowKit Go.Sort Go.BigFrame
end Go.Proofs.YtipdjmbgbehkaaaGreatDoor
