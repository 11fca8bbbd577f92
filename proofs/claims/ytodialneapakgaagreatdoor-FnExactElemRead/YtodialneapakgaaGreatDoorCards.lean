/-
  DERIVED. GIVEN WITH THE SEED: THE CARDS: each row of YtodialneapakgaaGreatDoorRows.lean that lists a variable, with what it lists TIED to the program's text (the seventh form; the later family's looks); each row that meets fmt, with fmt's text TOLD by the authors' own Lean function (tested against real Go, not proved from fmt's source: count such statements apart). THE CARD IS WHAT COUNTS. Prove the row's statement (the work); the ties are given (YtodialneapakgaaGreatDoorTie.lean); close each card by the builder's one call (the guide's Derived/Test/ToyasCard.lean, 'card_holds'). Laid BY PROGRAM, IN A SANDBOX (cutbox-door.mjs). By AI agents, Wed Nov 11 2026. No macro, syntax, notation, axiom, sorry.
-/
import Derived.Test.YtodialneapakgaaGreatDoorRows
import GoSem.ClaimSeven
namespace Go.Proofs.YtodialneapakgaaGreatDoor
namespace Rows

/-- THE TIED CARD OF 'laws.FnElemBack'. -/
def fnElemBackCard : Claim7 := { stood := { row := fnElemBackRow, standIns := [], harness := (true, "d9e2e488ef0285ee725fd7d98a9030e765f2b0ac019facec1a314721a4b0f87e"), looks := true }, kinds := [], alts := [], laidByText := true, laidKinds := [.data, .data, .data, .data, .handle, .data, .data, .pinned], laidTests := true, laidLooks := .later }
def FnElemBackCardSaid : Prop := Claim7.holds Tryz.pinned (.plain (OpenSpec.ofChange fnElemBackSpec)) fnElemBackCard

/-- THE TIED CARD OF 'laws.FnExactElemRead'. -/
def fnExactElemReadCard : Claim7 := { stood := { row := fnExactElemReadRow, standIns := [], harness := (true, "d9e2e488ef0285ee725fd7d98a9030e765f2b0ac019facec1a314721a4b0f87e"), looks := true }, kinds := [], alts := [], laidByText := true, laidKinds := [.data, .data, .data, .data, .handle, .data, .data, .pinned], laidTests := true, laidLooks := .later }
def FnExactElemReadCardSaid : Prop := Claim7.holds Tryz.pinned (.plain (OpenSpec.ofChange fnExactElemReadSpec)) fnExactElemReadCard

/-- THE TIED CARD OF 'laws.FnExactTreeCheck'. -/
def fnExactTreeCheckCard : Claim7 := { stood := { row := fnExactTreeCheckRow, standIns := [], harness := (true, "d9e2e488ef0285ee725fd7d98a9030e765f2b0ac019facec1a314721a4b0f87e"), looks := true }, kinds := [], alts := [], laidByText := true, laidKinds := [.handle, .data], laidTests := true, laidLooks := .later }
def FnExactTreeCheckCardSaid : Prop := Claim7.holds Tryz.pinned (.plain (OpenSpec.ofChange fnExactTreeCheckSpec)) fnExactTreeCheckCard

/-- THE SECOND FORM's CARD OF 'laws.FnElemBack'. -/
def fnElemBackUptoCard : Claim7 := { stood := { row := fnElemBackUptoRow, standIns := [], harness := (true, "d9e2e488ef0285ee725fd7d98a9030e765f2b0ac019facec1a314721a4b0f87e"), looks := true }, kinds := [], alts := [], laidByText := true, laidKinds := [.data, .data, .data, .data, .handle, .data, .data, .pinned], laidTests := true, laidLooks := .later }
def FnElemBackUptoCardSaid : Prop := Claim7.holds Tryz.pinned (.plain (OpenSpec.upto fnElemBackSpec)) fnElemBackUptoCard

/-- THE SECOND FORM's CARD OF 'laws.FnExactElemRead'. -/
def fnExactElemReadUptoCard : Claim7 := { stood := { row := fnExactElemReadUptoRow, standIns := [], harness := (true, "d9e2e488ef0285ee725fd7d98a9030e765f2b0ac019facec1a314721a4b0f87e"), looks := true }, kinds := [], alts := [], laidByText := true, laidKinds := [.data, .data, .data, .data, .handle, .data, .data, .pinned], laidTests := true, laidLooks := .later }
def FnExactElemReadUptoCardSaid : Prop := Claim7.holds Tryz.pinned (.plain (OpenSpec.upto fnExactElemReadSpec)) fnExactElemReadUptoCard

/-- THE SECOND FORM's CARD OF 'laws.FnExactTreeCheck'. -/
def fnExactTreeCheckUptoCard : Claim7 := { stood := { row := fnExactTreeCheckUptoRow, standIns := [], harness := (true, "d9e2e488ef0285ee725fd7d98a9030e765f2b0ac019facec1a314721a4b0f87e"), looks := true }, kinds := [], alts := [], laidByText := true, laidKinds := [.handle, .data], laidTests := true, laidLooks := .later }
def FnExactTreeCheckUptoCardSaid : Prop := Claim7.holds Tryz.pinned (.plain (OpenSpec.upto fnExactTreeCheckSpec)) fnExactTreeCheckUptoCard
end Rows
end Go.Proofs.YtodialneapakgaaGreatDoor
