/-
  DERIVED. GIVEN WITH THE SEED: THE CARDS: each row of YtbllmkmdaenglaaGreatDoorRows.lean that lists a variable, with what it lists TIED to the program's text (the seventh form; the later family's looks); each row that meets fmt, with fmt's text TOLD by the authors' own Lean function (tested against real Go, not proved from fmt's source: count such statements apart). THE CARD IS WHAT COUNTS. Prove the row's statement (the work); the ties are given (YtbllmkmdaenglaaGreatDoorTie.lean); close each card by the builder's one call (the guide's Derived/Test/ToyasCard.lean, 'card_holds'). Laid BY PROGRAM, IN A SANDBOX (cutbox-door.mjs). By AI agents, Wed Nov 11 2026. No macro, syntax, notation, axiom, sorry.
-/
import Derived.Test.YtbllmkmdaenglaaGreatDoorRows
import GoSem.ClaimSeven
namespace Go.Proofs.YtbllmkmdaenglaaGreatDoor
namespace Rows

/-- THE TIED CARD OF 'laws.FnExactNormMake'. -/
def fnExactNormMakeCard : Claim7 := { stood := { row := fnExactNormMakeRow, standIns := [], harness := (true, "c59ac3432d72b4910521b38663811af89d92a3be47fac75da8720af47cb4033c"), looks := true }, kinds := [], alts := [], laidByText := true, laidKinds := [.handle, .data], laidTests := true, laidLooks := .later }
def FnExactNormMakeCardSaid : Prop := Claim7.holds Tryz.pinned (.plain (OpenSpec.ofChange fnExactNormMakeSpec)) fnExactNormMakeCard

/-- THE TIED CARD OF 'laws.FnExactWayBits'. -/
def fnExactWayBitsCard : Claim7 := { stood := { row := fnExactWayBitsRow, standIns := [], harness := (true, "c59ac3432d72b4910521b38663811af89d92a3be47fac75da8720af47cb4033c"), looks := true }, kinds := [], alts := [], laidByText := true, laidKinds := [.handle, .data], laidTests := true, laidLooks := .later }
def FnExactWayBitsCardSaid : Prop := Claim7.holds Tryz.pinned (.plain (OpenSpec.ofChange fnExactWayBitsSpec)) fnExactWayBitsCard

/-- THE TIED CARD OF 'laws.FnExactWayForks'. -/
def fnExactWayForksCard : Claim7 := { stood := { row := fnExactWayForksRow, standIns := [], harness := (true, "c59ac3432d72b4910521b38663811af89d92a3be47fac75da8720af47cb4033c"), looks := true }, kinds := [], alts := [], laidByText := true, laidKinds := [.handle, .data], laidTests := true, laidLooks := .later }
def FnExactWayForksCardSaid : Prop := Claim7.holds Tryz.pinned (.plain (OpenSpec.ofChange fnExactWayForksSpec)) fnExactWayForksCard

/-- THE SECOND FORM's CARD OF 'laws.FnExactNormMake'. -/
def fnExactNormMakeUptoCard : Claim7 := { stood := { row := fnExactNormMakeUptoRow, standIns := [], harness := (true, "c59ac3432d72b4910521b38663811af89d92a3be47fac75da8720af47cb4033c"), looks := true }, kinds := [], alts := [], laidByText := true, laidKinds := [.handle, .data], laidTests := true, laidLooks := .later }
def FnExactNormMakeUptoCardSaid : Prop := Claim7.holds Tryz.pinned (.plain (OpenSpec.upto fnExactNormMakeSpec)) fnExactNormMakeUptoCard

/-- THE SECOND FORM's CARD OF 'laws.FnExactWayBits'. -/
def fnExactWayBitsUptoCard : Claim7 := { stood := { row := fnExactWayBitsUptoRow, standIns := [], harness := (true, "c59ac3432d72b4910521b38663811af89d92a3be47fac75da8720af47cb4033c"), looks := true }, kinds := [], alts := [], laidByText := true, laidKinds := [.handle, .data], laidTests := true, laidLooks := .later }
def FnExactWayBitsUptoCardSaid : Prop := Claim7.holds Tryz.pinned (.plain (OpenSpec.upto fnExactWayBitsSpec)) fnExactWayBitsUptoCard

/-- THE SECOND FORM's CARD OF 'laws.FnExactWayForks'. -/
def fnExactWayForksUptoCard : Claim7 := { stood := { row := fnExactWayForksUptoRow, standIns := [], harness := (true, "c59ac3432d72b4910521b38663811af89d92a3be47fac75da8720af47cb4033c"), looks := true }, kinds := [], alts := [], laidByText := true, laidKinds := [.handle, .data], laidTests := true, laidLooks := .later }
def FnExactWayForksUptoCardSaid : Prop := Claim7.holds Tryz.pinned (.plain (OpenSpec.upto fnExactWayForksSpec)) fnExactWayForksUptoCard
end Rows
end Go.Proofs.YtbllmkmdaenglaaGreatDoor
