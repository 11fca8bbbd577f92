/-
  DERIVED. GIVEN WITH THE SEED: THE CARDS: each row of YtcobmkhddbaedaaGreatDoorRows.lean that lists a variable, with what it lists TIED to the program's text (the seventh form; the later family's looks); each row that meets fmt, with fmt's text TOLD by the authors' own Lean function (tested against real Go, not proved from fmt's source: count such statements apart). THE CARD IS WHAT COUNTS. Prove the row's statement (the work); the ties are given (YtcobmkhddbaedaaGreatDoorTie.lean); close each card by the builder's one call (the guide's Derived/Test/ToyasCard.lean, 'card_holds'). Laid BY PROGRAM, IN A SANDBOX (cutbox-door.mjs). By AI agents, Wed Nov 11 2026. No macro, syntax, notation, axiom, sorry.
-/
import Derived.Test.YtcobmkhddbaedaaGreatDoorRows
import GoSem.ClaimSeven
namespace Go.Proofs.YtcobmkhddbaedaaGreatDoor
namespace Rows

/-- THE TIED CARD OF 'laws.FnElemBack'. -/
def fnElemBackCard : Claim7 := { stood := { row := fnElemBackRow, standIns := [], harness := (true, "25abc63a2977f74e87d8ac7cd674bdb8443ab86f168fb4991fd687d0b9bbdd23"), looks := true }, kinds := [], alts := [], laidByText := true, laidKinds := [.data, .data, .data, .data, .handle, .data, .data, .pinned], laidTests := true, laidLooks := .later }
def FnElemBackCardSaid : Prop := Claim7.holds Tryz.pinned (.plain (OpenSpec.ofChange fnElemBackSpec)) fnElemBackCard

/-- THE TIED CARD OF 'laws.FnTreeParts'. -/
def fnTreePartsCard : Claim7 := { stood := { row := fnTreePartsRow, standIns := [], harness := (true, "25abc63a2977f74e87d8ac7cd674bdb8443ab86f168fb4991fd687d0b9bbdd23"), looks := true }, kinds := [], alts := [], laidByText := true, laidKinds := [.handle, .data], laidTests := true, laidLooks := .later }
def FnTreePartsCardSaid : Prop := Claim7.holds Tryz.pinned (.plain (OpenSpec.ofChange fnTreePartsSpec)) fnTreePartsCard

/-- THE TIED CARD OF 'laws.FnTreeSame'. -/
def fnTreeSameCard : Claim7 := { stood := { row := fnTreeSameRow, standIns := [], harness := (true, "25abc63a2977f74e87d8ac7cd674bdb8443ab86f168fb4991fd687d0b9bbdd23"), looks := true }, kinds := [], alts := [], laidByText := true, laidKinds := [.handle, .data], laidTests := true, laidLooks := .later }
def FnTreeSameCardSaid : Prop := Claim7.holds Tryz.pinned (.plain (OpenSpec.ofChange fnTreeSameSpec)) fnTreeSameCard

/-- THE TIED CARD OF 'laws.FnNormOnce'. -/
def fnNormOnceCard : Claim7 := { stood := { row := fnNormOnceRow, standIns := [], harness := (true, "25abc63a2977f74e87d8ac7cd674bdb8443ab86f168fb4991fd687d0b9bbdd23"), looks := true }, kinds := [], alts := [], laidByText := true, laidKinds := [.handle, .data], laidTests := true, laidLooks := .later }
def FnNormOnceCardSaid : Prop := Claim7.holds Tryz.pinned (.plain (OpenSpec.ofChange fnNormOnceSpec)) fnNormOnceCard

/-- THE TIED CARD OF 'laws.FnNormShape'. -/
def fnNormShapeCard : Claim7 := { stood := { row := fnNormShapeRow, standIns := [], harness := (true, "25abc63a2977f74e87d8ac7cd674bdb8443ab86f168fb4991fd687d0b9bbdd23"), looks := true }, kinds := [], alts := [], laidByText := true, laidKinds := [.handle, .data], laidTests := true, laidLooks := .later }
def FnNormShapeCardSaid : Prop := Claim7.holds Tryz.pinned (.plain (OpenSpec.ofChange fnNormShapeSpec)) fnNormShapeCard

/-- THE TIED CARD OF 'laws.FnNormUses'. -/
def fnNormUsesCard : Claim7 := { stood := { row := fnNormUsesRow, standIns := [], harness := (true, "25abc63a2977f74e87d8ac7cd674bdb8443ab86f168fb4991fd687d0b9bbdd23"), looks := true }, kinds := [], alts := [], laidByText := true, laidKinds := [.handle, .data], laidTests := true, laidLooks := .later }
def FnNormUsesCardSaid : Prop := Claim7.holds Tryz.pinned (.plain (OpenSpec.ofChange fnNormUsesSpec)) fnNormUsesCard

/-- THE TIED CARD OF 'laws.FnNormNet'. -/
def fnNormNetCard : Claim7 := { stood := { row := fnNormNetRow, standIns := [], harness := (true, "25abc63a2977f74e87d8ac7cd674bdb8443ab86f168fb4991fd687d0b9bbdd23"), looks := true }, kinds := [], alts := [], laidByText := true, laidKinds := [.handle, .data], laidTests := true, laidLooks := .later }
def FnNormNetCardSaid : Prop := Claim7.holds Tryz.pinned (.plain (OpenSpec.ofChange fnNormNetSpec)) fnNormNetCard

/-- THE TIED CARD OF 'laws.FnListBack'. -/
def fnListBackCard : Claim7 := { stood := { row := fnListBackRow, standIns := [], harness := (true, "25abc63a2977f74e87d8ac7cd674bdb8443ab86f168fb4991fd687d0b9bbdd23"), looks := true }, kinds := [], alts := [], laidByText := true, laidKinds := [.data, .data, .data, .data, .handle, .data, .data, .data, .pinned], laidTests := true, laidLooks := .later }
def FnListBackCardSaid : Prop := Claim7.holds Tryz.pinned (.plain (OpenSpec.ofChange fnListBackSpec)) fnListBackCard

/-- THE TIED CARD OF 'laws.FnListParse'. -/
def fnListParseCard : Claim7 := { stood := { row := fnListParseRow, standIns := [], harness := (true, "25abc63a2977f74e87d8ac7cd674bdb8443ab86f168fb4991fd687d0b9bbdd23"), looks := true }, kinds := [], alts := [], laidByText := true, laidKinds := [.data, .data, .data, .data, .handle, .data, .data, .data, .pinned], laidTests := true, laidLooks := .later }
def FnListParseCardSaid : Prop := Claim7.holds Tryz.pinned (.plain (OpenSpec.ofChange fnListParseSpec)) fnListParseCard

/-- THE TIED CARD OF 'laws.FnListLine'. -/
def fnListLineCard : Claim7 := { stood := { row := fnListLineRow, standIns := [], harness := (true, "25abc63a2977f74e87d8ac7cd674bdb8443ab86f168fb4991fd687d0b9bbdd23"), looks := true }, kinds := [], alts := [], laidByText := true, laidKinds := [.data, .data, .data, .data, .handle, .data, .data, .data, .pinned], laidTests := true, laidLooks := .later }
def FnListLineCardSaid : Prop := Claim7.holds Tryz.pinned (.plain (OpenSpec.ofChange fnListLineSpec)) fnListLineCard

/-- THE SECOND FORM's CARD OF 'laws.FnElemBack'. -/
def fnElemBackUptoCard : Claim7 := { stood := { row := fnElemBackUptoRow, standIns := [], harness := (true, "25abc63a2977f74e87d8ac7cd674bdb8443ab86f168fb4991fd687d0b9bbdd23"), looks := true }, kinds := [], alts := [], laidByText := true, laidKinds := [.data, .data, .data, .data, .handle, .data, .data, .pinned], laidTests := true, laidLooks := .later }
def FnElemBackUptoCardSaid : Prop := Claim7.holds Tryz.pinned (.plain (OpenSpec.upto fnElemBackSpec)) fnElemBackUptoCard

/-- THE SECOND FORM's CARD OF 'laws.FnTreeParts'. -/
def fnTreePartsUptoCard : Claim7 := { stood := { row := fnTreePartsUptoRow, standIns := [], harness := (true, "25abc63a2977f74e87d8ac7cd674bdb8443ab86f168fb4991fd687d0b9bbdd23"), looks := true }, kinds := [], alts := [], laidByText := true, laidKinds := [.handle, .data], laidTests := true, laidLooks := .later }
def FnTreePartsUptoCardSaid : Prop := Claim7.holds Tryz.pinned (.plain (OpenSpec.upto fnTreePartsSpec)) fnTreePartsUptoCard

/-- THE SECOND FORM's CARD OF 'laws.FnTreeSame'. -/
def fnTreeSameUptoCard : Claim7 := { stood := { row := fnTreeSameUptoRow, standIns := [], harness := (true, "25abc63a2977f74e87d8ac7cd674bdb8443ab86f168fb4991fd687d0b9bbdd23"), looks := true }, kinds := [], alts := [], laidByText := true, laidKinds := [.handle, .data], laidTests := true, laidLooks := .later }
def FnTreeSameUptoCardSaid : Prop := Claim7.holds Tryz.pinned (.plain (OpenSpec.upto fnTreeSameSpec)) fnTreeSameUptoCard

/-- THE SECOND FORM's CARD OF 'laws.FnNormOnce'. -/
def fnNormOnceUptoCard : Claim7 := { stood := { row := fnNormOnceUptoRow, standIns := [], harness := (true, "25abc63a2977f74e87d8ac7cd674bdb8443ab86f168fb4991fd687d0b9bbdd23"), looks := true }, kinds := [], alts := [], laidByText := true, laidKinds := [.handle, .data], laidTests := true, laidLooks := .later }
def FnNormOnceUptoCardSaid : Prop := Claim7.holds Tryz.pinned (.plain (OpenSpec.upto fnNormOnceSpec)) fnNormOnceUptoCard

/-- THE SECOND FORM's CARD OF 'laws.FnNormShape'. -/
def fnNormShapeUptoCard : Claim7 := { stood := { row := fnNormShapeUptoRow, standIns := [], harness := (true, "25abc63a2977f74e87d8ac7cd674bdb8443ab86f168fb4991fd687d0b9bbdd23"), looks := true }, kinds := [], alts := [], laidByText := true, laidKinds := [.handle, .data], laidTests := true, laidLooks := .later }
def FnNormShapeUptoCardSaid : Prop := Claim7.holds Tryz.pinned (.plain (OpenSpec.upto fnNormShapeSpec)) fnNormShapeUptoCard

/-- THE SECOND FORM's CARD OF 'laws.FnNormUses'. -/
def fnNormUsesUptoCard : Claim7 := { stood := { row := fnNormUsesUptoRow, standIns := [], harness := (true, "25abc63a2977f74e87d8ac7cd674bdb8443ab86f168fb4991fd687d0b9bbdd23"), looks := true }, kinds := [], alts := [], laidByText := true, laidKinds := [.handle, .data], laidTests := true, laidLooks := .later }
def FnNormUsesUptoCardSaid : Prop := Claim7.holds Tryz.pinned (.plain (OpenSpec.upto fnNormUsesSpec)) fnNormUsesUptoCard

/-- THE SECOND FORM's CARD OF 'laws.FnNormNet'. -/
def fnNormNetUptoCard : Claim7 := { stood := { row := fnNormNetUptoRow, standIns := [], harness := (true, "25abc63a2977f74e87d8ac7cd674bdb8443ab86f168fb4991fd687d0b9bbdd23"), looks := true }, kinds := [], alts := [], laidByText := true, laidKinds := [.handle, .data], laidTests := true, laidLooks := .later }
def FnNormNetUptoCardSaid : Prop := Claim7.holds Tryz.pinned (.plain (OpenSpec.upto fnNormNetSpec)) fnNormNetUptoCard

/-- THE SECOND FORM's CARD OF 'laws.FnListBack'. -/
def fnListBackUptoCard : Claim7 := { stood := { row := fnListBackUptoRow, standIns := [], harness := (true, "25abc63a2977f74e87d8ac7cd674bdb8443ab86f168fb4991fd687d0b9bbdd23"), looks := true }, kinds := [], alts := [], laidByText := true, laidKinds := [.data, .data, .data, .data, .handle, .data, .data, .data, .pinned], laidTests := true, laidLooks := .later }
def FnListBackUptoCardSaid : Prop := Claim7.holds Tryz.pinned (.plain (OpenSpec.upto fnListBackSpec)) fnListBackUptoCard

/-- THE SECOND FORM's CARD OF 'laws.FnListParse'. -/
def fnListParseUptoCard : Claim7 := { stood := { row := fnListParseUptoRow, standIns := [], harness := (true, "25abc63a2977f74e87d8ac7cd674bdb8443ab86f168fb4991fd687d0b9bbdd23"), looks := true }, kinds := [], alts := [], laidByText := true, laidKinds := [.data, .data, .data, .data, .handle, .data, .data, .data, .pinned], laidTests := true, laidLooks := .later }
def FnListParseUptoCardSaid : Prop := Claim7.holds Tryz.pinned (.plain (OpenSpec.upto fnListParseSpec)) fnListParseUptoCard

/-- THE SECOND FORM's CARD OF 'laws.FnListLine'. -/
def fnListLineUptoCard : Claim7 := { stood := { row := fnListLineUptoRow, standIns := [], harness := (true, "25abc63a2977f74e87d8ac7cd674bdb8443ab86f168fb4991fd687d0b9bbdd23"), looks := true }, kinds := [], alts := [], laidByText := true, laidKinds := [.data, .data, .data, .data, .handle, .data, .data, .data, .pinned], laidTests := true, laidLooks := .later }
def FnListLineUptoCardSaid : Prop := Claim7.holds Tryz.pinned (.plain (OpenSpec.upto fnListLineSpec)) fnListLineUptoCard
end Rows
end Go.Proofs.YtcobmkhddbaedaaGreatDoor
