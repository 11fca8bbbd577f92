/-
  DERIVED. GIVEN WITH THE SEED: THE CARDS: each row of YtmgifjihphdlaacGreatDoorRows.lean that lists a variable, with what it lists TIED to the program's text (the seventh form; the later family's looks); each row that meets fmt, with fmt's text TOLD by the authors' own Lean function (tested against real Go, not proved from fmt's source: count such statements apart). THE CARD IS WHAT COUNTS. Prove the row's statement (the work); the ties are given (YtmgifjihphdlaacGreatDoorTie.lean); close each card by the builder's one call (the guide's Derived/Test/ToyasCard.lean, 'card_holds'). Laid BY PROGRAM, IN A SANDBOX (cutbox-door.mjs). By AI agents, Wed Nov 11 2026. No macro, syntax, notation, axiom, sorry.
-/
import Derived.Test.YtmgifjihphdlaacGreatDoorRows
import GoSem.ClaimSeven
namespace Go.Proofs.YtmgifjihphdlaacGreatDoor
namespace Rows

/-- THE TIED CARD OF 'laws.FnExactElemRead'. -/
def fnExactElemReadCard : Claim7 := { stood := { row := fnExactElemReadRow, standIns := [], harness := (true, "00d61bdfa7798695ed17b81330e733e0f441cf16d0bdddb4d98383acb7f156e6"), looks := true }, kinds := [], alts := [], laidByText := true, laidKinds := [.data, .data, .data, .data, .handle, .data, .data, .pinned], laidTests := true, laidLooks := .later }
def FnExactElemReadCardSaid : Prop := Claim7.holds Tryz.pinned (.plain (OpenSpec.ofChange fnExactElemReadSpec)) fnExactElemReadCard

/-- THE TIED CARD OF 'laws.FnExactTreeCheck'. -/
def fnExactTreeCheckCard : Claim7 := { stood := { row := fnExactTreeCheckRow, standIns := [], harness := (true, "00d61bdfa7798695ed17b81330e733e0f441cf16d0bdddb4d98383acb7f156e6"), looks := true }, kinds := [], alts := [], laidByText := true, laidKinds := [.handle, .data], laidTests := true, laidLooks := .later }
def FnExactTreeCheckCardSaid : Prop := Claim7.holds Tryz.pinned (.plain (OpenSpec.ofChange fnExactTreeCheckSpec)) fnExactTreeCheckCard

/-- THE TIED CARD OF 'laws.FnExactNormMake'. -/
def fnExactNormMakeCard : Claim7 := { stood := { row := fnExactNormMakeRow, standIns := [], harness := (true, "00d61bdfa7798695ed17b81330e733e0f441cf16d0bdddb4d98383acb7f156e6"), looks := true }, kinds := [], alts := [], laidByText := true, laidKinds := [.handle, .data], laidTests := true, laidLooks := .later }
def FnExactNormMakeCardSaid : Prop := Claim7.holds Tryz.pinned (.plain (OpenSpec.ofChange fnExactNormMakeSpec)) fnExactNormMakeCard

/-- THE SECOND FORM's CARD OF 'laws.FnExactElemRead'. -/
def fnExactElemReadUptoCard : Claim7 := { stood := { row := fnExactElemReadUptoRow, standIns := [], harness := (true, "00d61bdfa7798695ed17b81330e733e0f441cf16d0bdddb4d98383acb7f156e6"), looks := true }, kinds := [], alts := [], laidByText := true, laidKinds := [.data, .data, .data, .data, .handle, .data, .data, .pinned], laidTests := true, laidLooks := .later }
def FnExactElemReadUptoCardSaid : Prop := Claim7.holds Tryz.pinned (.plain (OpenSpec.upto fnExactElemReadSpec)) fnExactElemReadUptoCard

/-- THE SECOND FORM's CARD OF 'laws.FnExactTreeCheck'. -/
def fnExactTreeCheckUptoCard : Claim7 := { stood := { row := fnExactTreeCheckUptoRow, standIns := [], harness := (true, "00d61bdfa7798695ed17b81330e733e0f441cf16d0bdddb4d98383acb7f156e6"), looks := true }, kinds := [], alts := [], laidByText := true, laidKinds := [.handle, .data], laidTests := true, laidLooks := .later }
def FnExactTreeCheckUptoCardSaid : Prop := Claim7.holds Tryz.pinned (.plain (OpenSpec.upto fnExactTreeCheckSpec)) fnExactTreeCheckUptoCard

/-- THE SECOND FORM's CARD OF 'laws.FnExactNormMake'. -/
def fnExactNormMakeUptoCard : Claim7 := { stood := { row := fnExactNormMakeUptoRow, standIns := [], harness := (true, "00d61bdfa7798695ed17b81330e733e0f441cf16d0bdddb4d98383acb7f156e6"), looks := true }, kinds := [], alts := [], laidByText := true, laidKinds := [.handle, .data], laidTests := true, laidLooks := .later }
def FnExactNormMakeUptoCardSaid : Prop := Claim7.holds Tryz.pinned (.plain (OpenSpec.upto fnExactNormMakeSpec)) fnExactNormMakeUptoCard
end Rows
end Go.Proofs.YtmgifjihphdlaacGreatDoor
