/- D1, D2, D3, D4, D5: texts put together. -/
import Derived.Test.YtipdjmbgbehkaaaGreatDoorGC
import Derived.Test.YtipdjmbgbehkaaaGreatDoorGI
import Derived.Deep.RegionWith
/- Contracts of the specification's draws: the reader. -/
namespace Go.Proofs.YtipdjmbgbehkaaaGreatDoor
open Go.RowKit Go.Sort Go.BigFrame
end Go.Proofs.YtipdjmbgbehkaaaGreatDoor
/- Contracts of the specification's draws: numbers and operands. -/
namespace Go.Proofs.YtipdjmbgbehkaaaGreatDoor
open Go.RowKit Go.Sort Go.BigFrame
theorem cell_set_other {W : World} {b c o p : Nat} {v : Value} (h : c ≠ b) : (W.setCell ⟨b, o, none⟩ v).cell? ⟨c, p, none⟩ = W.cell? ⟨c, p, none⟩ := by
  have h1 : ¬ b = c := fun e => h e.symm
  simp [go_sem]
theorem cell_set_off {W : World} {b o p : Nat} {v : Value} (h : p ≠ o) : (W.setCell ⟨b, o, none⟩ v).cell? ⟨b, p, none⟩ = W.cell? ⟨b, p, none⟩ := by
  have h1 : ¬ o = p := fun e => h e.symm
  simp [go_sem]
theorem cell_set_at {W : World} {b o : Nat} {v u : Value} (h : W.cell? ⟨b, o, none⟩ = some u) : (W.setCell ⟨b, o, none⟩ v).cell? ⟨b, o, none⟩ = some v := by
  simp [go_sem, h]
theorem frozen_set {W : World} {b c o p : Nat} {v : Value} : (W.setCell ⟨b, o, none⟩ v).frozen? ⟨c, p, none⟩ = W.frozen? ⟨c, p, none⟩ := by
  simp [go_sem]
end Go.Proofs.YtipdjmbgbehkaaaGreatDoor
/- Contracts of the specification's draws: an operand of a kind. -/
namespace Go.Proofs.YtipdjmbgbehkaaaGreatDoor
open Go.RowKit Go.Sort Go.BigFrame
end Go.Proofs.YtipdjmbgbehkaaaGreatDoor
/- Contracts of the specification's draws: spoilt operands. -/
namespace Go.Proofs.YtipdjmbgbehkaaaGreatDoor
open Go.RowKit Go.Sort Go.BigFrame
end Go.Proofs.YtipdjmbgbehkaaaGreatDoor
/- Contracts of the specification's draws: any operand. -/
namespace Go.Proofs.YtipdjmbgbehkaaaGreatDoor
open Go.RowKit Go.Sort Go.BigFrame
end Go.Proofs.YtipdjmbgbehkaaaGreatDoor
