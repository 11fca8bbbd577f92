/- L3a, L3b: texts put together. -/
import Derived.Test.YtbfkfdbkjbgneaaGreatDoorGT
import Derived.Test.YtbfkfdbkjbgneaaGreatDoorGU
import Derived.Test.YtbfkfdbkjbgneaaGreatDoorGM
/- Contracts of the laws' helpers for ladders: what they weigh. -/
namespace Go.Proofs.YtbfkfdbkjbgneaaGreatDoor
open Go.RowKit Go.Sort Go.BigFrame
theorem szL_neg {left : Int} {n : Nat} (h : left - n < 0) : szL left n = -1 := by unfold szL; rw [if_pos h]
theorem szL_nn {left : Int} {n : Nat} (h : ¬ left - n < 0) : szL left n = left - n := by unfold szL; rw [if_neg h]
end Go.Proofs.YtbfkfdbkjbgneaaGreatDoor
/- Contracts of the laws' helpers for ladders: copies. -/
namespace Go.Proofs.YtbfkfdbkjbgneaaGreatDoor
open Go.RowKit Go.Sort Go.BigFrame
theorem rowN2 {w : World} {base g cap n : Nat} {e : TypeId} {xs : List Value} (h : w.ownsRow base e 2 (.slice (some ⟨g, 0, none⟩) n cap) n xs) (k : Nat) (hk : k < n) :
    (∃ u, w.cell? ⟨g, k * 2, none⟩ = some u) ∧ (∃ u, w.cell? ⟨g, k * 2 + 1, none⟩ = some u) := by
  have hl := h.1
  refine ⟨?_, ?_⟩
  · rw [h.cellAt (k * 2) (by omega), List.getElem?_eq_getElem (by omega)]; exact ⟨_, rfl⟩
  · rw [h.cellAt (k * 2 + 1) (by omega), List.getElem?_eq_getElem (by omega)]; exact ⟨_, rfl⟩
theorem frozN2 {w : World} {base g cap n : Nat} {e : TypeId} {xs : List Value} (h : w.ownsRow base e 2 (.slice (some ⟨g, 0, none⟩) n cap) n xs) (k : Nat) :
    w.frozen? ⟨g, k * 2, none⟩ = false ∧ w.frozen? ⟨g, k * 2 + 1, none⟩ = false := ⟨h.frozenAt _, h.frozenAt _⟩
theorem rowN4 {w : World} {base g cap n : Nat} {e : TypeId} {xs : List Value} (h : w.ownsRow base e 4 (.slice (some ⟨g, 0, none⟩) n cap) n xs) (k : Nat) (hk : k < n) :
    (∃ u, w.cell? ⟨g, k * 4, none⟩ = some u) ∧ (∃ u, w.cell? ⟨g, k * 4 + 1, none⟩ = some u) ∧ (∃ u, w.cell? ⟨g, k * 4 + 2, none⟩ = some u) ∧ (∃ u, w.cell? ⟨g, k * 4 + 3, none⟩ = some u) := by
  have hl := h.1
  refine ⟨?_, ?_, ?_, ?_⟩
  · rw [h.cellAt (k * 4) (by omega), List.getElem?_eq_getElem (by omega)]; exact ⟨_, rfl⟩
  · rw [h.cellAt (k * 4 + 1) (by omega), List.getElem?_eq_getElem (by omega)]; exact ⟨_, rfl⟩
  · rw [h.cellAt (k * 4 + 2) (by omega), List.getElem?_eq_getElem (by omega)]; exact ⟨_, rfl⟩
  · rw [h.cellAt (k * 4 + 3) (by omega), List.getElem?_eq_getElem (by omega)]; exact ⟨_, rfl⟩
theorem frozN4 {w : World} {base g cap n : Nat} {e : TypeId} {xs : List Value} (h : w.ownsRow base e 4 (.slice (some ⟨g, 0, none⟩) n cap) n xs) (k : Nat) :
    w.frozen? ⟨g, k * 4, none⟩ = false ∧ w.frozen? ⟨g, k * 4 + 1, none⟩ = false ∧ w.frozen? ⟨g, k * 4 + 2, none⟩ = false ∧ w.frozen? ⟨g, k * 4 + 3, none⟩ = false := ⟨h.frozenAt _, h.frozenAt _, h.frozenAt _, h.frozenAt _⟩
theorem rowN6 {w : World} {base g cap n : Nat} {e : TypeId} {xs : List Value} (h : w.ownsRow base e 6 (.slice (some ⟨g, 0, none⟩) n cap) n xs) (k : Nat) (hk : k < n) :
    (∃ u, w.cell? ⟨g, k * 6, none⟩ = some u) ∧ (∃ u, w.cell? ⟨g, k * 6 + 1, none⟩ = some u) ∧ (∃ u, w.cell? ⟨g, k * 6 + 2, none⟩ = some u) ∧ (∃ u, w.cell? ⟨g, k * 6 + 3, none⟩ = some u) ∧ (∃ u, w.cell? ⟨g, k * 6 + 4, none⟩ = some u) ∧ (∃ u, w.cell? ⟨g, k * 6 + 5, none⟩ = some u) := by
  have hl := h.1
  refine ⟨?_, ?_, ?_, ?_, ?_, ?_⟩
  · rw [h.cellAt (k * 6) (by omega), List.getElem?_eq_getElem (by omega)]; exact ⟨_, rfl⟩
  · rw [h.cellAt (k * 6 + 1) (by omega), List.getElem?_eq_getElem (by omega)]; exact ⟨_, rfl⟩
  · rw [h.cellAt (k * 6 + 2) (by omega), List.getElem?_eq_getElem (by omega)]; exact ⟨_, rfl⟩
  · rw [h.cellAt (k * 6 + 3) (by omega), List.getElem?_eq_getElem (by omega)]; exact ⟨_, rfl⟩
  · rw [h.cellAt (k * 6 + 4) (by omega), List.getElem?_eq_getElem (by omega)]; exact ⟨_, rfl⟩
  · rw [h.cellAt (k * 6 + 5) (by omega), List.getElem?_eq_getElem (by omega)]; exact ⟨_, rfl⟩
theorem frozN6 {w : World} {base g cap n : Nat} {e : TypeId} {xs : List Value} (h : w.ownsRow base e 6 (.slice (some ⟨g, 0, none⟩) n cap) n xs) (k : Nat) :
    w.frozen? ⟨g, k * 6, none⟩ = false ∧ w.frozen? ⟨g, k * 6 + 1, none⟩ = false ∧ w.frozen? ⟨g, k * 6 + 2, none⟩ = false ∧ w.frozen? ⟨g, k * 6 + 3, none⟩ = false ∧ w.frozen? ⟨g, k * 6 + 4, none⟩ = false ∧ w.frozen? ⟨g, k * 6 + 5, none⟩ = false := ⟨h.frozenAt _, h.frozenAt _, h.frozenAt _, h.frozenAt _, h.frozenAt _, h.frozenAt _⟩
end Go.Proofs.YtbfkfdbkjbgneaaGreatDoor
