/- L7c: texts put together. -/
import Derived.Test.YthhfnncehfkbfaaDoorGa
import Derived.Test.YthhfnncehfkbfaaDoorGU
/- Contracts of the laws' helpers for lists of instructions: are two the same. -/
namespace Go.Proofs.YthhfnncehfkbfaaDoor
open Go.RowKit Go.Sort Go.BigFrame
theorem l_eqElemI (x : Stil.Elem) (hx : x.fits) : ∀ (av avq : Value) (w : World), DevsAt w av x.args → DevsAt w avq x.args → Calls Tryd.prog 21 #[.agg #[.int .i64 x.op, av], .agg #[.int .i64 x.op, avq]] w fun e w' => e = .returned (.bool true) ∧ Below w.heap.size w w' := by
  intro av avq w hav havq
  refine (l_eqElem x.op x.op av avq x.args x.args w hav havq hx.2.1 hx.2.1).mono ?_
  rintro e w1 ⟨rfl, hb⟩
  exact ⟨ret_bool (by simp), hb⟩
end Go.Proofs.YthhfnncehfkbfaaDoor
