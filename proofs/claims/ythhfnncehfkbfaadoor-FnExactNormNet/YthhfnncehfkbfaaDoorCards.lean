/-
  DERIVED. GIVEN WITH THE SEED: THE CARDS: each row of YthhfnncehfkbfaaDoorRows.lean that lists a variable, with what it lists TIED to the program's text (the seventh form; the later family's looks); each row that meets fmt, with fmt's text TOLD by the authors' own Lean function (tested against real Go, not proved from fmt's source: count such statements apart). THE CARD IS WHAT COUNTS. Prove the row's statement (the work); the ties are given (YthhfnncehfkbfaaDoorTie.lean); close each card by the builder's one call (the guide's Derived/Test/ToyasCard.lean, 'card_holds'). Laid BY PROGRAM, IN A SANDBOX (cutbox-door.mjs). By AI agents, Wed Nov 11 2026. No macro, syntax, notation, axiom, sorry.
-/
import Derived.Test.YthhfnncehfkbfaaDoorRows
import GoSem.ClaimSeven
namespace Go.Proofs.YthhfnncehfkbfaaDoor
namespace Rows

/-- THE TIED CARD OF 'laws.FnExactNormNet'. -/
def fnExactNormNetCard : Claim7 := { stood := { row := fnExactNormNetRow, standIns := [], harness := (true, "f83793ff0ddae6edd4a8fe8f065a2e0d477c3436083299705ecc8fe9f1bceb50"), looks := false }, kinds := [], alts := [], laidByText := true, laidKinds := [.data], laidTests := true, laidLooks := .later }
def FnExactNormNetCardSaid : Prop := Claim7.holds Tryd.pinned (.plain (OpenSpec.ofChange fnExactNormNetSpec)) fnExactNormNetCard

/-- THE SECOND FORM's CARD OF 'laws.FnExactNormNet'. -/
def fnExactNormNetUptoCard : Claim7 := { stood := { row := fnExactNormNetUptoRow, standIns := [], harness := (true, "f83793ff0ddae6edd4a8fe8f065a2e0d477c3436083299705ecc8fe9f1bceb50"), looks := false }, kinds := [], alts := [], laidByText := true, laidKinds := [.data], laidTests := true, laidLooks := .later }
def FnExactNormNetUptoCardSaid : Prop := Claim7.holds Tryd.pinned (.plain (OpenSpec.upto fnExactNormNetSpec)) fnExactNormNetUptoCard
end Rows
end Go.Proofs.YthhfnncehfkbfaaDoor
