/-
  DERIVED. GIVEN WITH THE SEED: THE CARDS: each row of YtnpfcnolmkanfaaGreatDoorRows.lean that lists a variable, with what it lists TIED to the program's text (the seventh form; the later family's looks); each row that meets fmt, with fmt's text TOLD by the authors' own Lean function (tested against real Go, not proved from fmt's source: count such statements apart). THE CARD IS WHAT COUNTS. Prove the row's statement (the work); the ties are given (YtnpfcnolmkanfaaGreatDoorTie.lean); close each card by the builder's one call (the guide's Derived/Test/ToyasCard.lean, 'card_holds'). Laid BY PROGRAM, IN A SANDBOX (cutbox-door.mjs). By AI agents, Wed Nov 11 2026. No macro, syntax, notation, axiom, sorry.
-/
import Derived.Test.YtnpfcnolmkanfaaGreatDoorRows
import GoSem.ClaimSeven
namespace Go.Proofs.YtnpfcnolmkanfaaGreatDoor
namespace Rows

/-- THE TIED CARD OF 'laws.FnWayNorm'. -/
def fnWayNormCard : Claim7 := { stood := { row := fnWayNormRow, standIns := [], harness := (true, "dba64d696ab31859258ed660bb211d652dc7e81edcf3dd16dc8206febe52c3f3"), looks := true }, kinds := [], alts := [], goes := true, laidByText := true, laidKinds := [.handle, .data], laidTests := true, laidLooks := .later }
def FnWayNormCardSaid : Prop := Claim7.holds Tryz.pinned (.plain (OpenSpec.ofChange fnWayNormSpec)) fnWayNormCard

/-- THE SECOND FORM's CARD OF 'laws.FnWayNorm'. -/
def fnWayNormUptoCard : Claim7 := { stood := { row := fnWayNormUptoRow, standIns := [], harness := (true, "dba64d696ab31859258ed660bb211d652dc7e81edcf3dd16dc8206febe52c3f3"), looks := true }, kinds := [], alts := [], goes := true, laidByText := true, laidKinds := [.handle, .data], laidTests := true, laidLooks := .later }
def FnWayNormUptoCardSaid : Prop := Claim7.holds Tryz.pinned (.plain (OpenSpec.upto fnWayNormSpec)) fnWayNormUptoCard
end Rows
end Go.Proofs.YtnpfcnolmkanfaaGreatDoor
