/-
  DERIVED. GIVEN WITH THE SEED: THE CARDS: each row of YtgnkpbhknkinoaaGreatDoorRows.lean that lists a variable, with what it lists TIED to the program's text (the seventh form; the later family's looks); each row that meets fmt, with fmt's text TOLD by the authors' own Lean function (tested against real Go, not proved from fmt's source: count such statements apart). THE CARD IS WHAT COUNTS. Prove the row's statement (the work); the ties are given (YtgnkpbhknkinoaaGreatDoorTie.lean); close each card by the builder's one call (the guide's Derived/Test/ToyasCard.lean, 'card_holds'). Laid BY PROGRAM, IN A SANDBOX (cutbox-door.mjs). By AI agents, Wed Nov 11 2026. No macro, syntax, notation, axiom, sorry.
-/
import Derived.Test.YtgnkpbhknkinoaaGreatDoorRows
import GoSem.ClaimSeven
namespace Go.Proofs.YtgnkpbhknkinoaaGreatDoor
namespace Rows

/-- THE TIED CARD OF 'laws.FnBackTwice'. -/
def fnBackTwiceCard : Claim7 := { stood := { row := fnBackTwiceRow, standIns := [], harness := (true, "95c6a33b5e653063cf782dc393fd776f9d045eccbd3983573326355a66b7e885"), looks := true }, kinds := [], alts := [], goes := true, laidByText := true, laidKinds := [.handle, .data, .data], laidTests := true, laidLooks := .later }
def FnBackTwiceCardSaid : Prop := Claim7.holds Tryz.pinned (.plain (OpenSpec.ofChange fnBackTwiceSpec)) fnBackTwiceCard

/-- THE SECOND FORM's CARD OF 'laws.FnBackTwice'. -/
def fnBackTwiceUptoCard : Claim7 := { stood := { row := fnBackTwiceUptoRow, standIns := [], harness := (true, "95c6a33b5e653063cf782dc393fd776f9d045eccbd3983573326355a66b7e885"), looks := true }, kinds := [], alts := [], goes := true, laidByText := true, laidKinds := [.handle, .data, .data], laidTests := true, laidLooks := .later }
def FnBackTwiceUptoCardSaid : Prop := Claim7.holds Tryz.pinned (.plain (OpenSpec.upto fnBackTwiceSpec)) fnBackTwiceUptoCard
end Rows
end Go.Proofs.YtgnkpbhknkinoaaGreatDoor
