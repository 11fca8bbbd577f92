/-
  DERIVED. GIVEN WITH THE SEED: THE CARDS: each row of YtebnniokjkpgpaaDoorRows.lean that lists a variable, with what it lists TIED to the program's text (the seventh form; the later family's looks); each row that meets fmt, with fmt's text TOLD by the authors' own Lean function (tested against real Go, not proved from fmt's source: count such statements apart). THE CARD IS WHAT COUNTS. Prove the row's statement (the work); the ties are given (YtebnniokjkpgpaaDoorTie.lean); close each card by the builder's one call (the guide's Derived/Test/ToyasCard.lean, 'card_holds'). Laid BY PROGRAM, IN A SANDBOX (cutbox-door.mjs). By AI agents, Wed Nov 11 2026. No macro, syntax, notation, axiom, sorry.
-/
import Derived.Test.YtebnniokjkpgpaaDoorRows
import GoSem.ClaimSeven
namespace Go.Proofs.YtebnniokjkpgpaaDoor
namespace Rows

/-- THE TIED CARD OF 'laws.FnExactSureCheck'. -/
def fnExactSureCheckCard : Claim7 := { stood := { row := fnExactSureCheckRow, standIns := [], harness := (true, "832746b2257394bc6c195b01c53a5166a0107f71dab91593c7e3e0932b2a716b"), looks := true }, kinds := [], alts := [], laidByText := true, laidKinds := [.data, .data], laidTests := true, laidLooks := .later }
def FnExactSureCheckCardSaid : Prop := Claim7.holds Tryd.pinned (.plain (OpenSpec.ofChange fnExactSureCheckSpec)) fnExactSureCheckCard

/-- THE TIED CARD OF 'laws.FnExactSureRungs'. -/
def fnExactSureRungsCard : Claim7 := { stood := { row := fnExactSureRungsRow, standIns := [], harness := (true, "832746b2257394bc6c195b01c53a5166a0107f71dab91593c7e3e0932b2a716b"), looks := true }, kinds := [], alts := [], laidByText := true, laidKinds := [.data, .data], laidTests := true, laidLooks := .later }
def FnExactSureRungsCardSaid : Prop := Claim7.holds Tryd.pinned (.plain (OpenSpec.ofChange fnExactSureRungsSpec)) fnExactSureRungsCard

/-- THE SECOND FORM's CARD OF 'laws.FnExactSureCheck'. -/
def fnExactSureCheckUptoCard : Claim7 := { stood := { row := fnExactSureCheckUptoRow, standIns := [], harness := (true, "832746b2257394bc6c195b01c53a5166a0107f71dab91593c7e3e0932b2a716b"), looks := true }, kinds := [], alts := [], laidByText := true, laidKinds := [.data, .data], laidTests := true, laidLooks := .later }
def FnExactSureCheckUptoCardSaid : Prop := Claim7.holds Tryd.pinned (.plain (OpenSpec.upto fnExactSureCheckSpec)) fnExactSureCheckUptoCard

/-- THE SECOND FORM's CARD OF 'laws.FnExactSureRungs'. -/
def fnExactSureRungsUptoCard : Claim7 := { stood := { row := fnExactSureRungsUptoRow, standIns := [], harness := (true, "832746b2257394bc6c195b01c53a5166a0107f71dab91593c7e3e0932b2a716b"), looks := true }, kinds := [], alts := [], laidByText := true, laidKinds := [.data, .data], laidTests := true, laidLooks := .later }
def FnExactSureRungsUptoCardSaid : Prop := Claim7.holds Tryd.pinned (.plain (OpenSpec.upto fnExactSureRungsSpec)) fnExactSureRungsUptoCard
end Rows
end Go.Proofs.YtebnniokjkpgpaaDoor
