/- Contracts of the specification's chapter 2, tenth part: l2Args. -/
import Derived.Test.YtnbdgpepancfnabDoorS2i
import Derived.Lib.SmallJoins
namespace Go.Proofs.YtnbdgpepancfnabDoor
open Go.RowKit Go.Sort Go.BigFrame
def devCells (d : Stil.Dev) : List Value := [.int .i64 d.kind, .int .i64 d.n, .int .i64 d.p]
def devsCells (ds : List Stil.Dev) : List Value := ds.flatMap devCells
theorem devsCells_length (ds : List Stil.Dev) : (devsCells ds).length = ds.length * 3 := by
  induction ds with
  | nil => rfl
  | cons d r ih => simp [devsCells, devCells] at ih ⊢; omega
theorem devsCells_snoc (ds : List Stil.Dev) (d : Stil.Dev) : devsCells (ds ++ [d]) = devsCells ds ++ devCells d := by simp [devsCells]
theorem devsCells_get (ds : List Stil.Dev) : ∀ (i : Nat) (h : i < ds.length), (devsCells ds)[i * 3]? = some (.int .i64 ds[i].kind) ∧ (devsCells ds)[i * 3 + 1]? = some (.int .i64 ds[i].n) ∧ (devsCells ds)[i * 3 + 2]? = some (.int .i64 ds[i].p) := by
  induction ds with
  | nil => intro i h; simp at h
  | cons d r ih =>
    intro i h
    have e : devsCells (d :: r) = .int .i64 d.kind :: .int .i64 d.n :: .int .i64 d.p :: devsCells r := rfl
    cases i with
    | zero => rw [e]; simp
    | succ i =>
      have h' : i < r.length := by simpa using h
      rw [e]
      have := ih i h'
      have e0 : (i + 1) * 3 = i * 3 + 3 := by omega
      rw [e0]
      simpa using this
theorem add_plain (g j : Nat) : (⟨g, 0, none⟩ : Addr).add j = ⟨g, j, none⟩ := by unfold Addr.add; split <;> simp_all
theorem ownsRow_cells {w : World} {base : Nat} {e : TypeId} {size : Nat} {v : Value} {n : Nat} {xs : List Value} (h : w.ownsRow base e size v n xs) (hn : 0 < n) : ∃ g cap, v = .slice (some ⟨g, 0, none⟩) n cap ∧ base ≤ g ∧ g < w.heap.size ∧ n ≤ cap ∧ ∀ j u, xs[j]? = some u → w.cell? ⟨g, j, none⟩ = some u := by
  have h2 := h.2
  rcases h2 with ⟨_, h0⟩ | ⟨g, cap, cur, hv, hg, _, hc, _⟩
  · omega
  · refine ⟨g, cap, hv, hg, (h.lt g (by rw [hv]; rfl)).2, hc, fun j u hu => ?_⟩
    have := h.cells (g := g) (by rw [hv]; rfl) j u hu
    rwa [add_plain] at this
theorem DevsAt.of_owns {w : World} {base : Nat} {v : Value} {ds : List Stil.Dev} (h : w.ownsRow base 37 3 v ds.length (devsCells ds)) : DevsAt w v ds := by
  by_cases hd : ds.length = 0
  · have hn : ds = [] := List.length_eq_zero_iff.1 hd
    subst hn
    rcases h.2 with ⟨h0, _⟩ | ⟨g, cap, cur, hv, _⟩
    · exact ⟨none, 0, h0, fun i hi => by simp at hi⟩
    · exact ⟨_, cap, hv, fun i hi => by simp at hi⟩
  · obtain ⟨g, cap, hv, _, hlt, _, hc⟩ := ownsRow_cells h (by omega)
    refine ⟨_, cap, hv, fun i hi => ⟨g, 0, rfl, hlt, ?_⟩⟩
    obtain ⟨a1, a2, a3⟩ := devsCells_get ds i hi
    unfold DevAt
    rw [Nat.zero_add]
    exact ⟨hc _ _ a1, hc _ _ a2, hc _ _ a3⟩
theorem ownsRow_below {w w' : World} {base : Nat} {e : TypeId} {size : Nat} {v : Value} {n : Nat} {xs : List Value} (h : w.ownsRow base e size v n xs) (hb : Below w.heap.size w w') : w'.ownsRow base e size v n xs := by
  refine ⟨h.1, ?_⟩
  rcases h.2 with h0 | ⟨g, cap, cur, hv, hg, hh, hr⟩
  · exact Or.inl h0
  · have := (h.lt g (by rw [hv]; rfl)).2
    exact Or.inr ⟨g, cap, cur, hv, hg, by rw [hb.block g this]; exact hh, hr⟩
theorem cells_new (W : World) (cs : List Value) (t : TypeId) (b : Nat) (hb : b = W.heap.size) : ∀ j u, cs[j]? = some u → (W.alloc (.cells cs.toArray t)).cell? ((⟨b, 0, none⟩ : Addr).add j) = some u := by
  subst hb
  intro j u hj
  rw [add_plain, World.cell?_alloc_at _ _ _ _ rfl]
  simpa using hj
theorem cut_ne (c : UInt8) (l : List UInt8) : 0 < (Stil.cut c l).length := by
  cases l with
  | nil => simp [Stil.cut]
  | cons x r =>
    unfold Stil.cut
    split
    · simp
    · cases Stil.cut c r <;> simp [Stil.consHead]
theorem cut_len (c : UInt8) : ∀ (l : List UInt8), ∀ p ∈ Stil.cut c l, p.length ≤ l.length
  | [], p, h => by simp [Stil.cut] at h; subst h; simp
  | x :: r, p, h => by
    unfold Stil.cut at h
    split at h
    · rcases List.mem_cons.1 h with rfl | h
      · simp
      · have := cut_len c r p h; simp; omega
    · have ih := cut_len c r
      cases hc : Stil.cut c r with
      | nil => rw [hc] at h; simp [Stil.consHead] at h; subst h; simp
      | cons a t =>
        rw [hc] at h ih
        simp only [Stil.consHead] at h
        rcases List.mem_cons.1 h with rfl | h
        · have := ih a (by simp); simp; omega
        · have := ih p (by simp [h]); simp; omega
end Go.Proofs.YtnbdgpepancfnabDoor
