/- N3: texts put together. -/
import Derived.Test.YtipdjmbgbehkaaaGreatDoorGh
/- The program's chapter 6: SureRungs. -/
namespace Go.Proofs.YtipdjmbgbehkaaaGreatDoor
open Go.RowKit Go.Sort Go.BigFrame
theorem cells3 {W : World} {u0 u1 u2 : Value} {t : TypeId} : ∀ j u, [u0, u1, u2][j]? = some u → (W.alloc (.cells #[u0, u1, u2] t)).cell? ((⟨W.heap.size, 0, none⟩ : Addr).add j) = some u := by
  intro j u h
  rw [Addr.add_lit]
  match j, h with
  | 0, h => simp at h; subst h; simp [go_sem]
  | 1, h => simp at h; subst h; simp [go_sem]
  | 2, h => simp at h; subst h; simp [go_sem]
  | j + 3, h => simp at h
end Go.Proofs.YtipdjmbgbehkaaaGreatDoor
