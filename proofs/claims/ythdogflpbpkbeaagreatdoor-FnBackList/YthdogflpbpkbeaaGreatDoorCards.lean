/-
  DERIVED. GIVEN WITH THE SEED: THE CARDS: each row of YthdogflpbpkbeaaGreatDoorRows.lean that lists a variable, with what it lists TIED to the program's text (the seventh form; the later family's looks); each row that meets fmt, with fmt's text TOLD by the authors' own Lean function (tested against real Go, not proved from fmt's source: count such statements apart). THE CARD IS WHAT COUNTS. Prove the row's statement (the work); the ties are given (YthdogflpbpkbeaaGreatDoorTie.lean); close each card by the builder's one call (the guide's Derived/Test/ToyasCard.lean, 'card_holds'). Laid BY PROGRAM, IN A SANDBOX (cutbox-door.mjs). By AI agents, Wed Nov 11 2026. No macro, syntax, notation, axiom, sorry.
-/
import Derived.Test.YthdogflpbpkbeaaGreatDoorRows
import GoSem.ClaimSeven
namespace Go.Proofs.YthdogflpbpkbeaaGreatDoor
namespace Rows

/-- THE TIED CARD OF 'laws.FnBackList'. -/
def fnBackListCard : Claim7 := { stood := { row := fnBackListRow, standIns := [], harness := (true, "e525abafd2c61a6d3f4a680356d1e218bf1e09032c83e201e8dba743bc1c0870"), looks := true }, kinds := [], alts := [], goes := true, laidByText := true, laidKinds := [.handle, .data, .data], laidTests := true, laidLooks := .later }
def FnBackListCardSaid : Prop := Claim7.holds Tryz.pinned (.plain (OpenSpec.ofChange fnBackListSpec)) fnBackListCard

/-- THE SECOND FORM's CARD OF 'laws.FnBackList'. -/
def fnBackListUptoCard : Claim7 := { stood := { row := fnBackListUptoRow, standIns := [], harness := (true, "e525abafd2c61a6d3f4a680356d1e218bf1e09032c83e201e8dba743bc1c0870"), looks := true }, kinds := [], alts := [], goes := true, laidByText := true, laidKinds := [.handle, .data, .data], laidTests := true, laidLooks := .later }
def FnBackListUptoCardSaid : Prop := Claim7.holds Tryz.pinned (.plain (OpenSpec.upto fnBackListSpec)) fnBackListUptoCard
end Rows
end Go.Proofs.YthdogflpbpkbeaaGreatDoor
