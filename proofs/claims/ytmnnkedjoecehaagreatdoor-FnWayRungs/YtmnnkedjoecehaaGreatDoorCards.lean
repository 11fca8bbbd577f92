/-
  DERIVED. GIVEN WITH THE SEED: THE CARDS: each row of YtmnnkedjoecehaaGreatDoorRows.lean that lists a variable, with what it lists TIED to the program's text (the seventh form; the later family's looks); each row that meets fmt, with fmt's text TOLD by the authors' own Lean function (tested against real Go, not proved from fmt's source: count such statements apart). THE CARD IS WHAT COUNTS. Prove the row's statement (the work); the ties are given (YtmnnkedjoecehaaGreatDoorTie.lean); close each card by the builder's one call (the guide's Derived/Test/ToyasCard.lean, 'card_holds'). Laid BY PROGRAM, IN A SANDBOX (cutbox-door.mjs). By AI agents, Wed Nov 11 2026. No macro, syntax, notation, axiom, sorry.
-/
import Derived.Test.YtmnnkedjoecehaaGreatDoorRows
import GoSem.ClaimSeven
namespace Go.Proofs.YtmnnkedjoecehaaGreatDoor
namespace Rows

/-- THE TIED CARD OF 'laws.FnWayRungs'. -/
def fnWayRungsCard : Claim7 := { stood := { row := fnWayRungsRow, standIns := [], harness := (true, "b34b72fcdc138fe51d31924667d2f8b0a5f55a273ea89a41ecbdbebd60db6231"), looks := true }, kinds := [], alts := [], goes := true, laidByText := true, laidKinds := [.handle, .data, .data], laidTests := true, laidLooks := .later }
def FnWayRungsCardSaid : Prop := Claim7.holds Tryz.pinned (.plain (OpenSpec.ofChange fnWayRungsSpec)) fnWayRungsCard

/-- THE SECOND FORM's CARD OF 'laws.FnWayRungs'. -/
def fnWayRungsUptoCard : Claim7 := { stood := { row := fnWayRungsUptoRow, standIns := [], harness := (true, "b34b72fcdc138fe51d31924667d2f8b0a5f55a273ea89a41ecbdbebd60db6231"), looks := true }, kinds := [], alts := [], goes := true, laidByText := true, laidKinds := [.handle, .data, .data], laidTests := true, laidLooks := .later }
def FnWayRungsUptoCardSaid : Prop := Claim7.holds Tryz.pinned (.plain (OpenSpec.upto fnWayRungsSpec)) fnWayRungsUptoCard
end Rows
end Go.Proofs.YtmnnkedjoecehaaGreatDoor
