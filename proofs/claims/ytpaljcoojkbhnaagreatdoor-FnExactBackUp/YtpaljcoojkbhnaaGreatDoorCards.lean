/-
  DERIVED. GIVEN WITH THE SEED: THE CARDS: each row of YtpaljcoojkbhnaaGreatDoorRows.lean that lists a variable, with what it lists TIED to the program's text (the seventh form; the later family's looks); each row that meets fmt, with fmt's text TOLD by the authors' own Lean function (tested against real Go, not proved from fmt's source: count such statements apart). THE CARD IS WHAT COUNTS. Prove the row's statement (the work); the ties are given (YtpaljcoojkbhnaaGreatDoorTie.lean); close each card by the builder's one call (the guide's Derived/Test/ToyasCard.lean, 'card_holds'). Laid BY PROGRAM, IN A SANDBOX (cutbox-door.mjs). By AI agents, Wed Nov 11 2026. No macro, syntax, notation, axiom, sorry.
-/
import Derived.Test.YtpaljcoojkbhnaaGreatDoorRows
import GoSem.ClaimSeven
namespace Go.Proofs.YtpaljcoojkbhnaaGreatDoor
namespace Rows

/-- THE TIED CARD OF 'laws.FnExactBackNet'. -/
def fnExactBackNetCard : Claim7 := { stood := { row := fnExactBackNetRow, standIns := [], harness := (true, "ccd946b15900612121903a59bbb47a14dd07993998464b967396feb6226d659d"), looks := true }, kinds := [], alts := [], laidByText := true, laidKinds := [.handle, .data, .data], laidTests := true, laidLooks := .later }
def FnExactBackNetCardSaid : Prop := Claim7.holds Tryz.pinned (.plain (OpenSpec.ofChange fnExactBackNetSpec)) fnExactBackNetCard

/-- THE TIED CARD OF 'laws.FnExactBackUp'. -/
def fnExactBackUpCard : Claim7 := { stood := { row := fnExactBackUpRow, standIns := [], harness := (true, "ccd946b15900612121903a59bbb47a14dd07993998464b967396feb6226d659d"), looks := true }, kinds := [], alts := [], laidByText := true, laidKinds := [.handle, .data, .data], laidTests := true, laidLooks := .later }
def FnExactBackUpCardSaid : Prop := Claim7.holds Tryz.pinned (.plain (OpenSpec.ofChange fnExactBackUpSpec)) fnExactBackUpCard

/-- THE SECOND FORM's CARD OF 'laws.FnExactBackNet'. -/
def fnExactBackNetUptoCard : Claim7 := { stood := { row := fnExactBackNetUptoRow, standIns := [], harness := (true, "ccd946b15900612121903a59bbb47a14dd07993998464b967396feb6226d659d"), looks := true }, kinds := [], alts := [], laidByText := true, laidKinds := [.handle, .data, .data], laidTests := true, laidLooks := .later }
def FnExactBackNetUptoCardSaid : Prop := Claim7.holds Tryz.pinned (.plain (OpenSpec.upto fnExactBackNetSpec)) fnExactBackNetUptoCard

/-- THE SECOND FORM's CARD OF 'laws.FnExactBackUp'. -/
def fnExactBackUpUptoCard : Claim7 := { stood := { row := fnExactBackUpUptoRow, standIns := [], harness := (true, "ccd946b15900612121903a59bbb47a14dd07993998464b967396feb6226d659d"), looks := true }, kinds := [], alts := [], laidByText := true, laidKinds := [.handle, .data, .data], laidTests := true, laidLooks := .later }
def FnExactBackUpUptoCardSaid : Prop := Claim7.holds Tryz.pinned (.plain (OpenSpec.upto fnExactBackUpSpec)) fnExactBackUpUptoCard
end Rows
end Go.Proofs.YtpaljcoojkbhnaaGreatDoor
