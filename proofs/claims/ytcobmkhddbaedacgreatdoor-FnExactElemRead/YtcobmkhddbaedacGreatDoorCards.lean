/-
  DERIVED. GIVEN WITH THE SEED: THE CARDS: each row of YtcobmkhddbaedacGreatDoorRows.lean that lists a variable, with what it lists TIED to the program's text (the seventh form; the later family's looks); each row that meets fmt, with fmt's text TOLD by the authors' own Lean function (tested against real Go, not proved from fmt's source: count such statements apart). THE CARD IS WHAT COUNTS. Prove the row's statement (the work); the ties are given (YtcobmkhddbaedacGreatDoorTie.lean); close each card by the builder's one call (the guide's Derived/Test/ToyasCard.lean, 'card_holds'). Laid BY PROGRAM, IN A SANDBOX (cutbox-door.mjs). By AI agents, Wed Nov 11 2026. No macro, syntax, notation, axiom, sorry.
-/
import Derived.Test.YtcobmkhddbaedacGreatDoorRows
import GoSem.ClaimSeven
namespace Go.Proofs.YtcobmkhddbaedacGreatDoor
namespace Rows

/-- THE TIED CARD OF 'laws.FnExactElemRead'. -/
def fnExactElemReadCard : Claim7 := { stood := { row := fnExactElemReadRow, standIns := [], harness := (true, "7e71036f82a5ed9f57de3a460759bb3d0c021b3ad7a44168133e2baad2f2a293"), looks := true }, kinds := [], alts := [], laidByText := true, laidKinds := [.data, .data, .data, .data, .handle, .data, .data, .pinned], laidTests := true, laidLooks := .later }
def FnExactElemReadCardSaid : Prop := Claim7.holds Tryz.pinned (.plain (OpenSpec.ofChange fnExactElemReadSpec)) fnExactElemReadCard

/-- THE TIED CARD OF 'laws.FnExactTreeCheck'. -/
def fnExactTreeCheckCard : Claim7 := { stood := { row := fnExactTreeCheckRow, standIns := [], harness := (true, "7e71036f82a5ed9f57de3a460759bb3d0c021b3ad7a44168133e2baad2f2a293"), looks := true }, kinds := [], alts := [], laidByText := true, laidKinds := [.handle, .data], laidTests := true, laidLooks := .later }
def FnExactTreeCheckCardSaid : Prop := Claim7.holds Tryz.pinned (.plain (OpenSpec.ofChange fnExactTreeCheckSpec)) fnExactTreeCheckCard

/-- THE TIED CARD OF 'laws.FnExactNormMake'. -/
def fnExactNormMakeCard : Claim7 := { stood := { row := fnExactNormMakeRow, standIns := [], harness := (true, "7e71036f82a5ed9f57de3a460759bb3d0c021b3ad7a44168133e2baad2f2a293"), looks := true }, kinds := [], alts := [], laidByText := true, laidKinds := [.handle, .data], laidTests := true, laidLooks := .later }
def FnExactNormMakeCardSaid : Prop := Claim7.holds Tryz.pinned (.plain (OpenSpec.ofChange fnExactNormMakeSpec)) fnExactNormMakeCard

/-- THE TIED CARD OF 'laws.FnExactListParse'. -/
def fnExactListParseCard : Claim7 := { stood := { row := fnExactListParseRow, standIns := [], harness := (true, "7e71036f82a5ed9f57de3a460759bb3d0c021b3ad7a44168133e2baad2f2a293"), looks := true }, kinds := [], alts := [], laidByText := true, laidKinds := [.data, .data, .data, .data, .handle, .data, .data, .data, .pinned], laidTests := true, laidLooks := .later }
def FnExactListParseCardSaid : Prop := Claim7.holds Tryz.pinned (.plain (OpenSpec.ofChange fnExactListParseSpec)) fnExactListParseCard

/-- THE SECOND FORM's CARD OF 'laws.FnExactElemRead'. -/
def fnExactElemReadUptoCard : Claim7 := { stood := { row := fnExactElemReadUptoRow, standIns := [], harness := (true, "7e71036f82a5ed9f57de3a460759bb3d0c021b3ad7a44168133e2baad2f2a293"), looks := true }, kinds := [], alts := [], laidByText := true, laidKinds := [.data, .data, .data, .data, .handle, .data, .data, .pinned], laidTests := true, laidLooks := .later }
def FnExactElemReadUptoCardSaid : Prop := Claim7.holds Tryz.pinned (.plain (OpenSpec.upto fnExactElemReadSpec)) fnExactElemReadUptoCard

/-- THE SECOND FORM's CARD OF 'laws.FnExactTreeCheck'. -/
def fnExactTreeCheckUptoCard : Claim7 := { stood := { row := fnExactTreeCheckUptoRow, standIns := [], harness := (true, "7e71036f82a5ed9f57de3a460759bb3d0c021b3ad7a44168133e2baad2f2a293"), looks := true }, kinds := [], alts := [], laidByText := true, laidKinds := [.handle, .data], laidTests := true, laidLooks := .later }
def FnExactTreeCheckUptoCardSaid : Prop := Claim7.holds Tryz.pinned (.plain (OpenSpec.upto fnExactTreeCheckSpec)) fnExactTreeCheckUptoCard

/-- THE SECOND FORM's CARD OF 'laws.FnExactNormMake'. -/
def fnExactNormMakeUptoCard : Claim7 := { stood := { row := fnExactNormMakeUptoRow, standIns := [], harness := (true, "7e71036f82a5ed9f57de3a460759bb3d0c021b3ad7a44168133e2baad2f2a293"), looks := true }, kinds := [], alts := [], laidByText := true, laidKinds := [.handle, .data], laidTests := true, laidLooks := .later }
def FnExactNormMakeUptoCardSaid : Prop := Claim7.holds Tryz.pinned (.plain (OpenSpec.upto fnExactNormMakeSpec)) fnExactNormMakeUptoCard

/-- THE SECOND FORM's CARD OF 'laws.FnExactListParse'. -/
def fnExactListParseUptoCard : Claim7 := { stood := { row := fnExactListParseUptoRow, standIns := [], harness := (true, "7e71036f82a5ed9f57de3a460759bb3d0c021b3ad7a44168133e2baad2f2a293"), looks := true }, kinds := [], alts := [], laidByText := true, laidKinds := [.data, .data, .data, .data, .handle, .data, .data, .data, .pinned], laidTests := true, laidLooks := .later }
def FnExactListParseUptoCardSaid : Prop := Claim7.holds Tryz.pinned (.plain (OpenSpec.upto fnExactListParseSpec)) fnExactListParseUptoCard
end Rows
end Go.Proofs.YtcobmkhddbaedacGreatDoor
