/- An append of nets to a row of nets, in a region; boxes of nets. -/
import Derived.Test.YtenoanhonjdpjaaGreatDoorY5
import Derived.Test.YtenoanhonjdpjaaGreatDoorGg
namespace Go.Proofs.YtenoanhonjdpjaaGreatDoor
open Go.RowKit Go.Sort Go.BigFrame
theorem mCells_one' {w : World} {base : Nat} {ks : List MNet} (hk : ∀ m ∈ ks, MOk w base m) : ∀ u ∈ mCells ks, u.oneCell' = true := by
  intro u hu
  obtain ⟨m, hm, hu⟩ := List.mem_flatMap.1 hu
  have h := (MOk_iff w base m).1 (hk m hm)
  obtain ⟨a1, c1, e1⟩ := slice_of_owns h.1
  obtain ⟨a2, c2, e2⟩ := slice_of_owns h.2.1
  simp only [MNet.cells, List.mem_cons, List.mem_nil_iff, or_false] at hu
  rcases hu with rfl | rfl | rfl | rfl
  · rfl
  · rfl
  · rw [e1]; rfl
  · rw [e2]; rfl
theorem frozenS {W : World} {p q : Addr} {v : Value} : (W.setCell p v).frozen? q = W.frozen? q := by simp [go_sem]
theorem cells4 {W : World} {u0 u1 u2 u3 : Value} {t : TypeId} : ∀ j u, [u0, u1, u2, u3][j]? = some u → (W.alloc (.cells #[u0, u1, u2, u3] t)).cell? ((⟨W.heap.size, 0, none⟩ : Addr).add j) = some u := by
  intro j u h
  rw [Addr.add_lit]
  match j, h with
  | 0, h => simp at h; subst h; simp [go_sem]
  | 1, h => simp at h; subst h; simp [go_sem]
  | 2, h => simp at h; subst h; simp [go_sem]
  | 3, h => simp at h; subst h; simp [go_sem]
  | j + 4, h => simp at h
/-- A net in a variable. -/
def B4 (w : World) (b : Nat) (v0 v1 v2 v3 : Value) : Prop := b < w.heap.size ∧ (w.cell? ⟨b, 0, none⟩ = some v0 ∧ w.cell? ⟨b, 1, none⟩ = some v1 ∧ w.cell? ⟨b, 2, none⟩ = some v2 ∧ w.cell? ⟨b, 3, none⟩ = some v3) ∧
  w.frozen? ⟨b, 0, none⟩ = false ∧ w.frozen? ⟨b, 1, none⟩ = false ∧ w.frozen? ⟨b, 2, none⟩ = false ∧ w.frozen? ⟨b, 3, none⟩ = false
theorem B4.below {w w' : World} {n b : Nat} {v0 v1 v2 v3 : Value} (h : B4 w b v0 v1 v2 v3) (hb : Below n w w') (hn : b < n) : B4 w' b v0 v1 v2 v3 := by
  obtain ⟨h0, ⟨c0, c1, c2, c3⟩, f0, f1, f2, f3⟩ := h
  refine ⟨Nat.lt_of_lt_of_le h0 hb.size, ⟨(hb.cell (p := ⟨b, 0, none⟩) hn).trans c0, (hb.cell (p := ⟨b, 1, none⟩) hn).trans c1, (hb.cell (p := ⟨b, 2, none⟩) hn).trans c2, (hb.cell (p := ⟨b, 3, none⟩) hn).trans c3⟩, ?_⟩
  exact ⟨(hb.frozen (p := ⟨b, 0, none⟩) hn).trans f0, (hb.frozen (p := ⟨b, 1, none⟩) hn).trans f1, (hb.frozen (p := ⟨b, 2, none⟩) hn).trans f2, (hb.frozen (p := ⟨b, 3, none⟩) hn).trans f3⟩
end Go.Proofs.YtenoanhonjdpjaaGreatDoor
