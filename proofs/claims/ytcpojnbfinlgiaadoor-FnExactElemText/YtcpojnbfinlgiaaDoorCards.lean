/-
  DERIVED. GIVEN WITH THE SEED: THE CARDS: each row of YtcpojnbfinlgiaaDoorRows.lean that lists a variable, with what it lists TIED to the program's text (the seventh form; the later family's looks); each row that meets fmt, with fmt's text TOLD by the authors' own Lean function (tested against real Go, not proved from fmt's source: count such statements apart). THE CARD IS WHAT COUNTS. Prove the row's statement (the work); the ties are given (YtcpojnbfinlgiaaDoorTie.lean); close each card by the builder's one call (the guide's Derived/Test/ToyasCard.lean, 'card_holds'). Laid BY PROGRAM, IN A SANDBOX (cutbox-door.mjs). By AI agents, Wed Nov 11 2026. No macro, syntax, notation, axiom, sorry.
-/
import Derived.Test.YtcpojnbfinlgiaaDoorRows
import GoSem.ClaimSeven
namespace Go.Proofs.YtcpojnbfinlgiaaDoor
namespace Rows

/-- THE TIED CARD OF 'laws.FnExactElemIsCoil'. -/
def fnExactElemIsCoilCard : Claim7 := { stood := { row := fnExactElemIsCoilRow, standIns := [], harness := (true, "bb7ea0e3abe66237953ba245f7b0056f4083075b2cebe3cf25dd72005ae42716"), looks := false }, kinds := [], alts := [], laidByText := true, laidKinds := [.data], laidTests := true, laidLooks := .later }
def FnExactElemIsCoilCardSaid : Prop := Claim7.holds Tryd.pinned (.plain (OpenSpec.ofChange fnExactElemIsCoilSpec)) fnExactElemIsCoilCard

/-- THE TIED CARD OF 'laws.FnExactElemText'. -/
def fnExactElemTextCard : Claim7 := { stood := { row := fnExactElemTextRow, standIns := [], harness := (true, "bb7ea0e3abe66237953ba245f7b0056f4083075b2cebe3cf25dd72005ae42716"), looks := false }, kinds := [], alts := [], laidByText := true, laidKinds := [.data, .data, .data, .data, .data], laidTests := true, laidLooks := .later }
def FnExactElemTextCardSaid : Prop := Claim7.holds Tryd.pinned (.plain (OpenSpec.ofChange fnExactElemTextSpec)) fnExactElemTextCard

/-- THE SECOND FORM's CARD OF 'laws.FnExactElemIsCoil'. -/
def fnExactElemIsCoilUptoCard : Claim7 := { stood := { row := fnExactElemIsCoilUptoRow, standIns := [], harness := (true, "bb7ea0e3abe66237953ba245f7b0056f4083075b2cebe3cf25dd72005ae42716"), looks := false }, kinds := [], alts := [], laidByText := true, laidKinds := [.data], laidTests := true, laidLooks := .later }
def FnExactElemIsCoilUptoCardSaid : Prop := Claim7.holds Tryd.pinned (.plain (OpenSpec.upto fnExactElemIsCoilSpec)) fnExactElemIsCoilUptoCard

/-- THE SECOND FORM's CARD OF 'laws.FnExactElemText'. -/
def fnExactElemTextUptoCard : Claim7 := { stood := { row := fnExactElemTextUptoRow, standIns := [], harness := (true, "bb7ea0e3abe66237953ba245f7b0056f4083075b2cebe3cf25dd72005ae42716"), looks := false }, kinds := [], alts := [], laidByText := true, laidKinds := [.data, .data, .data, .data, .data], laidTests := true, laidLooks := .later }
def FnExactElemTextUptoCardSaid : Prop := Claim7.holds Tryd.pinned (.plain (OpenSpec.upto fnExactElemTextSpec)) fnExactElemTextUptoCard
end Rows
end Go.Proofs.YtcpojnbfinlgiaaDoor
