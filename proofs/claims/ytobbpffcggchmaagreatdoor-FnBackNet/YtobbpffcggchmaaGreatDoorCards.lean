/-
  DERIVED. GIVEN WITH THE SEED: THE CARDS: each row of YtobbpffcggchmaaGreatDoorRows.lean that lists a variable, with what it lists TIED to the program's text (the seventh form; the later family's looks); each row that meets fmt, with fmt's text TOLD by the authors' own Lean function (tested against real Go, not proved from fmt's source: count such statements apart). THE CARD IS WHAT COUNTS. Prove the row's statement (the work); the ties are given (YtobbpffcggchmaaGreatDoorTie.lean); close each card by the builder's one call (the guide's Derived/Test/ToyasCard.lean, 'card_holds'). Laid BY PROGRAM, IN A SANDBOX (cutbox-door.mjs). By AI agents, Wed Nov 11 2026. No macro, syntax, notation, axiom, sorry.
-/
import Derived.Test.YtobbpffcggchmaaGreatDoorRows
import GoSem.ClaimSeven
namespace Go.Proofs.YtobbpffcggchmaaGreatDoor
namespace Rows

/-- THE TIED CARD OF 'laws.FnBackNet'. -/
def fnBackNetCard : Claim7 := { stood := { row := fnBackNetRow, standIns := [], harness := (true, "71c39b1a527935a9390ddd20a4887f5a74f99797e0bb75e1d603d623bb654f7f"), looks := true }, kinds := [], alts := [], goes := true, laidByText := true, laidKinds := [.handle, .data, .data], laidTests := true, laidLooks := .later }
def FnBackNetCardSaid : Prop := Claim7.holds Tryz.pinned (.plain (OpenSpec.ofChange fnBackNetSpec)) fnBackNetCard

/-- THE SECOND FORM's CARD OF 'laws.FnBackNet'. -/
def fnBackNetUptoCard : Claim7 := { stood := { row := fnBackNetUptoRow, standIns := [], harness := (true, "71c39b1a527935a9390ddd20a4887f5a74f99797e0bb75e1d603d623bb654f7f"), looks := true }, kinds := [], alts := [], goes := true, laidByText := true, laidKinds := [.handle, .data, .data], laidTests := true, laidLooks := .later }
def FnBackNetUptoCardSaid : Prop := Claim7.holds Tryz.pinned (.plain (OpenSpec.upto fnBackNetSpec)) fnBackNetUptoCard
end Rows
end Go.Proofs.YtobbpffcggchmaaGreatDoor
