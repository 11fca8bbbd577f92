/-
  DERIVED. GIVEN WITH THE SEED: THE CARDS: each row of YtifcnfeppdbjdaaGreatDoorRows.lean that lists a variable, with what it lists TIED to the program's text (the seventh form; the later family's looks); each row that meets fmt, with fmt's text TOLD by the authors' own Lean function (tested against real Go, not proved from fmt's source: count such statements apart). THE CARD IS WHAT COUNTS. Prove the row's statement (the work); the ties are given (YtifcnfeppdbjdaaGreatDoorTie.lean); close each card by the builder's one call (the guide's Derived/Test/ToyasCard.lean, 'card_holds'). Laid BY PROGRAM, IN A SANDBOX (cutbox-door.mjs). By AI agents, Wed Nov 11 2026. No macro, syntax, notation, axiom, sorry.
-/
import Derived.Test.YtifcnfeppdbjdaaGreatDoorRows
import GoSem.ClaimSeven
namespace Go.Proofs.YtifcnfeppdbjdaaGreatDoor
namespace Rows

/-- THE TIED CARD OF 'laws.FnWayTop'. -/
def fnWayTopCard : Claim7 := { stood := { row := fnWayTopRow, standIns := [], harness := (true, "622b194023ca6d3d0154b32c43c0d77926df375f1e1c505f92397d0a09960cb8"), looks := true }, kinds := [], alts := [], goes := true, laidByText := true, laidKinds := [.handle, .data, .data], laidTests := true, laidLooks := .later }
def FnWayTopCardSaid : Prop := Claim7.holds Tryz.pinned (.plain (OpenSpec.ofChange fnWayTopSpec)) fnWayTopCard

/-- THE SECOND FORM's CARD OF 'laws.FnWayTop'. -/
def fnWayTopUptoCard : Claim7 := { stood := { row := fnWayTopUptoRow, standIns := [], harness := (true, "622b194023ca6d3d0154b32c43c0d77926df375f1e1c505f92397d0a09960cb8"), looks := true }, kinds := [], alts := [], goes := true, laidByText := true, laidKinds := [.handle, .data, .data], laidTests := true, laidLooks := .later }
def FnWayTopUptoCardSaid : Prop := Claim7.holds Tryz.pinned (.plain (OpenSpec.upto fnWayTopSpec)) fnWayTopUptoCard
end Rows
end Go.Proofs.YtifcnfeppdbjdaaGreatDoor
