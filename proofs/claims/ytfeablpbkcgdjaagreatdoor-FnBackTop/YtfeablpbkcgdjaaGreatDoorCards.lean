/-
  DERIVED. GIVEN WITH THE SEED: THE CARDS: each row of YtfeablpbkcgdjaaGreatDoorRows.lean that lists a variable, with what it lists TIED to the program's text (the seventh form; the later family's looks); each row that meets fmt, with fmt's text TOLD by the authors' own Lean function (tested against real Go, not proved from fmt's source: count such statements apart). THE CARD IS WHAT COUNTS. Prove the row's statement (the work); the ties are given (YtfeablpbkcgdjaaGreatDoorTie.lean); close each card by the builder's one call (the guide's Derived/Test/ToyasCard.lean, 'card_holds'). Laid BY PROGRAM, IN A SANDBOX (cutbox-door.mjs). By AI agents, Wed Nov 11 2026. No macro, syntax, notation, axiom, sorry.
-/
import Derived.Test.YtfeablpbkcgdjaaGreatDoorRows
import GoSem.ClaimSeven
namespace Go.Proofs.YtfeablpbkcgdjaaGreatDoor
namespace Rows

/-- THE TIED CARD OF 'laws.FnBackTop'. -/
def fnBackTopCard : Claim7 := { stood := { row := fnBackTopRow, standIns := [], harness := (true, "43774605c17967847c8c59b20e8ac25181376c69e6d3cbdaa92d9ad5d00f4dc2"), looks := true }, kinds := [], alts := [], goes := true, laidByText := true, laidKinds := [.handle, .data, .data], laidTests := true, laidLooks := .later }
def FnBackTopCardSaid : Prop := Claim7.holds Tryz.pinned (.plain (OpenSpec.ofChange fnBackTopSpec)) fnBackTopCard

/-- THE SECOND FORM's CARD OF 'laws.FnBackTop'. -/
def fnBackTopUptoCard : Claim7 := { stood := { row := fnBackTopUptoRow, standIns := [], harness := (true, "43774605c17967847c8c59b20e8ac25181376c69e6d3cbdaa92d9ad5d00f4dc2"), looks := true }, kinds := [], alts := [], goes := true, laidByText := true, laidKinds := [.handle, .data, .data], laidTests := true, laidLooks := .later }
def FnBackTopUptoCardSaid : Prop := Claim7.holds Tryz.pinned (.plain (OpenSpec.upto fnBackTopSpec)) fnBackTopUptoCard
end Rows
end Go.Proofs.YtfeablpbkcgdjaaGreatDoor
