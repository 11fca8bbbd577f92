/-
  DERIVED. GIVEN WITH THE SEED: THE CARDS: each row of YtbfljjcnbbmoaaaGreatDoorRows.lean that lists a variable, with what it lists TIED to the program's text (the seventh form; the later family's looks); each row that meets fmt, with fmt's text TOLD by the authors' own Lean function (tested against real Go, not proved from fmt's source: count such statements apart). THE CARD IS WHAT COUNTS. Prove the row's statement (the work); the ties are given (YtbfljjcnbbmoaaaGreatDoorTie.lean); close each card by the builder's one call (the guide's Derived/Test/ToyasCard.lean, 'card_holds'). Laid BY PROGRAM, IN A SANDBOX (cutbox-door.mjs). By AI agents, Wed Nov 11 2026. No macro, syntax, notation, axiom, sorry.
-/
import Derived.Test.YtbfljjcnbbmoaaaGreatDoorRows
import GoSem.ClaimSeven
namespace Go.Proofs.YtbfljjcnbbmoaaaGreatDoor
namespace Rows

/-- THE TIED CARD OF 'laws.FnExactWayPlain'. -/
def fnExactWayPlainCard : Claim7 := { stood := { row := fnExactWayPlainRow, standIns := [], harness := (true, "91b455cf27bcb0556bf83c802074d7b707263f2420f4030bd1d959a65337f31f"), looks := true }, kinds := [], alts := [], goes := true, laidByText := true, laidKinds := [.handle, .data], laidTests := true, laidLooks := .later }
def FnExactWayPlainCardSaid : Prop := Claim7.holds Tryz.pinned (.plain (OpenSpec.ofChange fnExactWayPlainSpec)) fnExactWayPlainCard

/-- THE TIED CARD OF 'laws.FnExactWayDown'. -/
def fnExactWayDownCard : Claim7 := { stood := { row := fnExactWayDownRow, standIns := [], harness := (true, "91b455cf27bcb0556bf83c802074d7b707263f2420f4030bd1d959a65337f31f"), looks := true }, kinds := [], alts := [], goes := true, laidByText := true, laidKinds := [.handle, .data], laidTests := true, laidLooks := .later }
def FnExactWayDownCardSaid : Prop := Claim7.holds Tryz.pinned (.plain (OpenSpec.ofChange fnExactWayDownSpec)) fnExactWayDownCard

/-- THE SECOND FORM's CARD OF 'laws.FnExactWayPlain'. -/
def fnExactWayPlainUptoCard : Claim7 := { stood := { row := fnExactWayPlainUptoRow, standIns := [], harness := (true, "91b455cf27bcb0556bf83c802074d7b707263f2420f4030bd1d959a65337f31f"), looks := true }, kinds := [], alts := [], goes := true, laidByText := true, laidKinds := [.handle, .data], laidTests := true, laidLooks := .later }
def FnExactWayPlainUptoCardSaid : Prop := Claim7.holds Tryz.pinned (.plain (OpenSpec.upto fnExactWayPlainSpec)) fnExactWayPlainUptoCard

/-- THE SECOND FORM's CARD OF 'laws.FnExactWayDown'. -/
def fnExactWayDownUptoCard : Claim7 := { stood := { row := fnExactWayDownUptoRow, standIns := [], harness := (true, "91b455cf27bcb0556bf83c802074d7b707263f2420f4030bd1d959a65337f31f"), looks := true }, kinds := [], alts := [], goes := true, laidByText := true, laidKinds := [.handle, .data], laidTests := true, laidLooks := .later }
def FnExactWayDownUptoCardSaid : Prop := Claim7.holds Tryz.pinned (.plain (OpenSpec.upto fnExactWayDownSpec)) fnExactWayDownUptoCard
end Rows
end Go.Proofs.YtbfljjcnbbmoaaaGreatDoor
