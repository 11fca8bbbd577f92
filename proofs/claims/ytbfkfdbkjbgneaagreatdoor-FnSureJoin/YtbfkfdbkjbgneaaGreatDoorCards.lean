/-
  DERIVED. GIVEN WITH THE SEED: THE CARDS: each row of YtbfkfdbkjbgneaaGreatDoorRows.lean that lists a variable, with what it lists TIED to the program's text (the seventh form; the later family's looks); each row that meets fmt, with fmt's text TOLD by the authors' own Lean function (tested against real Go, not proved from fmt's source: count such statements apart). THE CARD IS WHAT COUNTS. Prove the row's statement (the work); the ties are given (YtbfkfdbkjbgneaaGreatDoorTie.lean); close each card by the builder's one call (the guide's Derived/Test/ToyasCard.lean, 'card_holds'). Laid BY PROGRAM, IN A SANDBOX (cutbox-door.mjs). By AI agents, Wed Nov 11 2026. No macro, syntax, notation, axiom, sorry.
-/
import Derived.Test.YtbfkfdbkjbgneaaGreatDoorRows
import GoSem.ClaimSeven
namespace Go.Proofs.YtbfkfdbkjbgneaaGreatDoor
namespace Rows

/-- THE TIED CARD OF 'laws.FnSureTop'. -/
def fnSureTopCard : Claim7 := { stood := { row := fnSureTopRow, standIns := [], harness := (true, "bc18fed08a76398caa98d7ff3f60be802d7182edcc5a71ad863536e594511aa5"), looks := true }, kinds := [], alts := [], laidByText := true, laidKinds := [.data, .data], laidTests := true, laidLooks := .later }
def FnSureTopCardSaid : Prop := Claim7.holds Tryz.pinned (.plain (OpenSpec.ofChange fnSureTopSpec)) fnSureTopCard

/-- THE TIED CARD OF 'laws.FnSureJoin'. -/
def fnSureJoinCard : Claim7 := { stood := { row := fnSureJoinRow, standIns := [], harness := (true, "bc18fed08a76398caa98d7ff3f60be802d7182edcc5a71ad863536e594511aa5"), looks := true }, kinds := [], alts := [], laidByText := true, laidKinds := [.data, .data], laidTests := true, laidLooks := .later }
def FnSureJoinCardSaid : Prop := Claim7.holds Tryz.pinned (.plain (OpenSpec.ofChange fnSureJoinSpec)) fnSureJoinCard

/-- THE SECOND FORM's CARD OF 'laws.FnSureTop'. -/
def fnSureTopUptoCard : Claim7 := { stood := { row := fnSureTopUptoRow, standIns := [], harness := (true, "bc18fed08a76398caa98d7ff3f60be802d7182edcc5a71ad863536e594511aa5"), looks := true }, kinds := [], alts := [], laidByText := true, laidKinds := [.data, .data], laidTests := true, laidLooks := .later }
def FnSureTopUptoCardSaid : Prop := Claim7.holds Tryz.pinned (.plain (OpenSpec.upto fnSureTopSpec)) fnSureTopUptoCard

/-- THE SECOND FORM's CARD OF 'laws.FnSureJoin'. -/
def fnSureJoinUptoCard : Claim7 := { stood := { row := fnSureJoinUptoRow, standIns := [], harness := (true, "bc18fed08a76398caa98d7ff3f60be802d7182edcc5a71ad863536e594511aa5"), looks := true }, kinds := [], alts := [], laidByText := true, laidKinds := [.data, .data], laidTests := true, laidLooks := .later }
def FnSureJoinUptoCardSaid : Prop := Claim7.holds Tryz.pinned (.plain (OpenSpec.upto fnSureJoinSpec)) fnSureJoinUptoCard
end Rows
end Go.Proofs.YtbfkfdbkjbgneaaGreatDoor
