/-
  DERIVED. GIVEN WITH THE SEED: THE CARDS: each row of YtenoanhonjdpjaaGreatDoorRows.lean that lists a variable, with what it lists TIED to the program's text (the seventh form; the later family's looks); each row that meets fmt, with fmt's text TOLD by the authors' own Lean function (tested against real Go, not proved from fmt's source: count such statements apart). THE CARD IS WHAT COUNTS. Prove the row's statement (the work); the ties are given (YtenoanhonjdpjaaGreatDoorTie.lean); close each card by the builder's one call (the guide's Derived/Test/ToyasCard.lean, 'card_holds'). Laid BY PROGRAM, IN A SANDBOX (cutbox-door.mjs). By AI agents, Wed Nov 11 2026. No macro, syntax, notation, axiom, sorry.
-/
import Derived.Test.YtenoanhonjdpjaaGreatDoorRows
import GoSem.ClaimSeven
namespace Go.Proofs.YtenoanhonjdpjaaGreatDoor
namespace Rows

/-- THE TIED CARD OF 'laws.FnTreeParts'. -/
def fnTreePartsCard : Claim7 := { stood := { row := fnTreePartsRow, standIns := [], harness := (true, "4238d6501d79df2714358a44aedb1f871b7c12ec9daa2c5c25853455d86cc771"), looks := true }, kinds := [], alts := [], laidByText := true, laidKinds := [.handle, .data], laidTests := true, laidLooks := .later }
def FnTreePartsCardSaid : Prop := Claim7.holds Tryz.pinned (.plain (OpenSpec.ofChange fnTreePartsSpec)) fnTreePartsCard

/-- THE TIED CARD OF 'laws.FnTreeSame'. -/
def fnTreeSameCard : Claim7 := { stood := { row := fnTreeSameRow, standIns := [], harness := (true, "4238d6501d79df2714358a44aedb1f871b7c12ec9daa2c5c25853455d86cc771"), looks := true }, kinds := [], alts := [], laidByText := true, laidKinds := [.handle, .data], laidTests := true, laidLooks := .later }
def FnTreeSameCardSaid : Prop := Claim7.holds Tryz.pinned (.plain (OpenSpec.ofChange fnTreeSameSpec)) fnTreeSameCard

/-- THE TIED CARD OF 'laws.FnNormOnce'. -/
def fnNormOnceCard : Claim7 := { stood := { row := fnNormOnceRow, standIns := [], harness := (true, "4238d6501d79df2714358a44aedb1f871b7c12ec9daa2c5c25853455d86cc771"), looks := true }, kinds := [], alts := [], laidByText := true, laidKinds := [.handle, .data], laidTests := true, laidLooks := .later }
def FnNormOnceCardSaid : Prop := Claim7.holds Tryz.pinned (.plain (OpenSpec.ofChange fnNormOnceSpec)) fnNormOnceCard

/-- THE TIED CARD OF 'laws.FnNormShape'. -/
def fnNormShapeCard : Claim7 := { stood := { row := fnNormShapeRow, standIns := [], harness := (true, "4238d6501d79df2714358a44aedb1f871b7c12ec9daa2c5c25853455d86cc771"), looks := true }, kinds := [], alts := [], laidByText := true, laidKinds := [.handle, .data], laidTests := true, laidLooks := .later }
def FnNormShapeCardSaid : Prop := Claim7.holds Tryz.pinned (.plain (OpenSpec.ofChange fnNormShapeSpec)) fnNormShapeCard

/-- THE TIED CARD OF 'laws.FnNormUses'. -/
def fnNormUsesCard : Claim7 := { stood := { row := fnNormUsesRow, standIns := [], harness := (true, "4238d6501d79df2714358a44aedb1f871b7c12ec9daa2c5c25853455d86cc771"), looks := true }, kinds := [], alts := [], laidByText := true, laidKinds := [.handle, .data], laidTests := true, laidLooks := .later }
def FnNormUsesCardSaid : Prop := Claim7.holds Tryz.pinned (.plain (OpenSpec.ofChange fnNormUsesSpec)) fnNormUsesCard

/-- THE TIED CARD OF 'laws.FnNormNet'. -/
def fnNormNetCard : Claim7 := { stood := { row := fnNormNetRow, standIns := [], harness := (true, "4238d6501d79df2714358a44aedb1f871b7c12ec9daa2c5c25853455d86cc771"), looks := true }, kinds := [], alts := [], laidByText := true, laidKinds := [.handle, .data], laidTests := true, laidLooks := .later }
def FnNormNetCardSaid : Prop := Claim7.holds Tryz.pinned (.plain (OpenSpec.ofChange fnNormNetSpec)) fnNormNetCard

/-- THE SECOND FORM's CARD OF 'laws.FnTreeParts'. -/
def fnTreePartsUptoCard : Claim7 := { stood := { row := fnTreePartsUptoRow, standIns := [], harness := (true, "4238d6501d79df2714358a44aedb1f871b7c12ec9daa2c5c25853455d86cc771"), looks := true }, kinds := [], alts := [], laidByText := true, laidKinds := [.handle, .data], laidTests := true, laidLooks := .later }
def FnTreePartsUptoCardSaid : Prop := Claim7.holds Tryz.pinned (.plain (OpenSpec.upto fnTreePartsSpec)) fnTreePartsUptoCard

/-- THE SECOND FORM's CARD OF 'laws.FnTreeSame'. -/
def fnTreeSameUptoCard : Claim7 := { stood := { row := fnTreeSameUptoRow, standIns := [], harness := (true, "4238d6501d79df2714358a44aedb1f871b7c12ec9daa2c5c25853455d86cc771"), looks := true }, kinds := [], alts := [], laidByText := true, laidKinds := [.handle, .data], laidTests := true, laidLooks := .later }
def FnTreeSameUptoCardSaid : Prop := Claim7.holds Tryz.pinned (.plain (OpenSpec.upto fnTreeSameSpec)) fnTreeSameUptoCard

/-- THE SECOND FORM's CARD OF 'laws.FnNormOnce'. -/
def fnNormOnceUptoCard : Claim7 := { stood := { row := fnNormOnceUptoRow, standIns := [], harness := (true, "4238d6501d79df2714358a44aedb1f871b7c12ec9daa2c5c25853455d86cc771"), looks := true }, kinds := [], alts := [], laidByText := true, laidKinds := [.handle, .data], laidTests := true, laidLooks := .later }
def FnNormOnceUptoCardSaid : Prop := Claim7.holds Tryz.pinned (.plain (OpenSpec.upto fnNormOnceSpec)) fnNormOnceUptoCard

/-- THE SECOND FORM's CARD OF 'laws.FnNormShape'. -/
def fnNormShapeUptoCard : Claim7 := { stood := { row := fnNormShapeUptoRow, standIns := [], harness := (true, "4238d6501d79df2714358a44aedb1f871b7c12ec9daa2c5c25853455d86cc771"), looks := true }, kinds := [], alts := [], laidByText := true, laidKinds := [.handle, .data], laidTests := true, laidLooks := .later }
def FnNormShapeUptoCardSaid : Prop := Claim7.holds Tryz.pinned (.plain (OpenSpec.upto fnNormShapeSpec)) fnNormShapeUptoCard

/-- THE SECOND FORM's CARD OF 'laws.FnNormUses'. -/
def fnNormUsesUptoCard : Claim7 := { stood := { row := fnNormUsesUptoRow, standIns := [], harness := (true, "4238d6501d79df2714358a44aedb1f871b7c12ec9daa2c5c25853455d86cc771"), looks := true }, kinds := [], alts := [], laidByText := true, laidKinds := [.handle, .data], laidTests := true, laidLooks := .later }
def FnNormUsesUptoCardSaid : Prop := Claim7.holds Tryz.pinned (.plain (OpenSpec.upto fnNormUsesSpec)) fnNormUsesUptoCard

/-- THE SECOND FORM's CARD OF 'laws.FnNormNet'. -/
def fnNormNetUptoCard : Claim7 := { stood := { row := fnNormNetUptoRow, standIns := [], harness := (true, "4238d6501d79df2714358a44aedb1f871b7c12ec9daa2c5c25853455d86cc771"), looks := true }, kinds := [], alts := [], laidByText := true, laidKinds := [.handle, .data], laidTests := true, laidLooks := .later }
def FnNormNetUptoCardSaid : Prop := Claim7.holds Tryz.pinned (.plain (OpenSpec.upto fnNormNetSpec)) fnNormNetUptoCard
end Rows
end Go.Proofs.YtenoanhonjdpjaaGreatDoor
