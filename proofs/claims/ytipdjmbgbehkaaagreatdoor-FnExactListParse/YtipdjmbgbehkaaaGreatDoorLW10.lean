/- The law on SureCheck: the walk. -/
import Derived.Test.YtipdjmbgbehkaaaGreatDoorGb
import Derived.Test.YtipdjmbgbehkaaaGreatDoorGc
import Derived.Test.YtipdjmbgbehkaaaGreatDoorGe
namespace Go.Proofs.YtipdjmbgbehkaaaGreatDoor
open Go.RowKit Go.Sort Go.BigFrame
theorem l_eqList (l : List Stil.Inst) (hf : ∀ x ∈ l, x.fits) (hl : l.length ≤ 1048576) (v u : Value) (W : World) (hat : InstsAt W v l) (hau : InstsAt W u l) :
    Calls Tryz.prog 21 #[v, u] W fun e w' => e = .returned (.bool true) ∧ Below W.heap.size W w' :=
  l_eqInsts l (fun x hx => l_eqInst x (hf x hx)) v u W hat hau hl
end Go.Proofs.YtipdjmbgbehkaaaGreatDoor
