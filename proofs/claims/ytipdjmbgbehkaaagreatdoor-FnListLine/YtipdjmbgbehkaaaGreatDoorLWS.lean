/- I8s: texts put together. -/
import Derived.Test.YtipdjmbgbehkaaaGreatDoorGd
import Derived.Test.YtipdjmbgbehkaaaGreatDoorGB
import Derived.WalkLawsBesides
import Derived.Deep.Light
import Derived.Test.YtipdjmbgbehkaaaGreatDoorI8b
import Derived.Test.YtipdjmbgbehkaaaGreatDoorGZ
import Derived.Defers
import Derived.Recover
import Derived.Test.YtipdjmbgbehkaaaGreatDoorS7
import Derived.Test.YtipdjmbgbehkaaaGreatDoorHh
import Derived.Test.YtipdjmbgbehkaaaGreatDoorHm
/- Contracts of the program's chapter 6: a step of the run. -/
namespace Go.Proofs.YtipdjmbgbehkaaaGreatDoor
open Go.RowKit Go.Sort Go.BigFrame
end Go.Proofs.YtipdjmbgbehkaaaGreatDoor
/- I8c, I8d, I8e: texts put together. -/
/- Contracts of the program's chapter 6: a step of the run, the table of rules, what a run was left with. -/
namespace Go.Proofs.YtipdjmbgbehkaaaGreatDoor
open Go.RowKit Go.Sort Go.BigFrame
end Go.Proofs.YtipdjmbgbehkaaaGreatDoor
/- Contracts of the program's chapter 6: the run of a list. -/
namespace Go.Proofs.YtipdjmbgbehkaaaGreatDoor
open Go.RowKit Go.Sort Go.BigFrame
end Go.Proofs.YtipdjmbgbehkaaaGreatDoor
/- Contracts of the program's chapter 6: SureCheck. -/
namespace Go.Proofs.YtipdjmbgbehkaaaGreatDoor
open Go.RowKit Go.Sort Go.BigFrame
end Go.Proofs.YtipdjmbgbehkaaaGreatDoor
/- Contracts of the specification's chapter 6: what is wrong with an instruction, what is known behind it. -/
namespace Go.Proofs.YtipdjmbgbehkaaaGreatDoor
open Go.RowKit Go.Sort Go.BigFrame
end Go.Proofs.YtipdjmbgbehkaaaGreatDoor
/- S7c, S7d: texts put together. -/
/- Contracts of the specification's chapter 6: what is known behind an instruction; SureCheck. -/
namespace Go.Proofs.YtipdjmbgbehkaaaGreatDoor
open Go.RowKit Go.Sort Go.BigFrame
end Go.Proofs.YtipdjmbgbehkaaaGreatDoor
/- Contracts of the specification's chapter 6: SureCheck. -/
namespace Go.Proofs.YtipdjmbgbehkaaaGreatDoor
open Go.RowKit Go.Sort Go.BigFrame
end Go.Proofs.YtipdjmbgbehkaaaGreatDoor
/- Lists that were drawn: the functions over them, in one form. -/
namespace Go.Proofs.YtipdjmbgbehkaaaGreatDoor
open Go.RowKit Go.Sort Go.BigFrame
theorem ITame.fits {i : Stil.Inst} (h : ITame i) : i.fits := ⟨⟨by have := h.1.1; omega, by have := h.1.2; omega⟩, h.2.wf.1, by have := h.2.2.2; omega, h.2.wf.2.2⟩
end Go.Proofs.YtipdjmbgbehkaaaGreatDoor
