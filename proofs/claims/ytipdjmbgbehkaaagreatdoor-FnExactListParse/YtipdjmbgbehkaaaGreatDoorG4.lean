/- T4, T5: texts put together. -/
import Derived.Test.YtipdjmbgbehkaaaGreatDoorGT
import Derived.Maps.AppendAt
import Derived.Test.YtipdjmbgbehkaaaGreatDoorGM
import Derived.Test.YtipdjmbgbehkaaaGreatDoorD9
/- Ladders in memory of their own: all their blocks of one kind. -/
namespace Go.Proofs.YtipdjmbgbehkaaaGreatDoor
open Go.RowKit Go.Sort Go.BigFrame
/-- How a slice's room is told. -/
def CapOk (a : Option Addr) (n cap : Nat) : Prop := n ≤ cap ∧ (a = none → cap = 0)
end Go.Proofs.YtipdjmbgbehkaaaGreatDoor
/- Rows of contacts, nets and arms: what a list's cells hold. -/
namespace Go.Proofs.YtipdjmbgbehkaaaGreatDoor
open Go.RowKit Go.Sort Go.BigFrame
/-- What an own row's cells are, and how its room is told. -/
theorem own_open {w : World} {base s n : Nat} {e : TypeId} {v : Value} {xs : List Value} (h : w.ownsRow base e s v n xs) : ∃ a cap, v = .slice a n cap ∧ CapOk a n cap ∧ (∀ b o sp, a = some ⟨b, o, sp⟩ → o = 0 ∧ sp = none ∧ v.ownBlock = some b ∧ base ≤ b ∧ b < w.heap.size ∧ ∀ j u, xs[j]? = some u → w.cell? ⟨b, j, none⟩ = some u) ∧ (0 < n → a ≠ none) := by
  rcases h.2 with ⟨h0, h1⟩ | ⟨g, cap, cur, hv, hb, hh, hc, hr⟩
  · have hn : n = 0 := h1
    subst hn
    exact ⟨none, 0, h0, ⟨Nat.le_refl _, fun _ => rfl⟩, fun b o sp he => (by cases he), fun hp => absurd hp (by omega)⟩
  · refine ⟨_, cap, hv, ⟨hc, fun he => (by cases he)⟩, fun b o sp he => ?_, fun _ he => (by cases he)⟩
    simp only [Option.some.injEq, Addr.mk.injEq] at he
    obtain ⟨rfl, rfl, rfl⟩ := he
    have hob : v.ownBlock = some g := by rw [hv]; rfl
    refine ⟨rfl, rfl, hob, hb, (h.lt g hob).2, fun j u hj => ?_⟩
    have hj' : j < xs.length := (List.getElem?_eq_some_iff.1 hj).1
    subst hv
    have := h.cellAt j (by have := h.1; omega)
    rw [this]
    exact hj
end Go.Proofs.YtipdjmbgbehkaaaGreatDoor
