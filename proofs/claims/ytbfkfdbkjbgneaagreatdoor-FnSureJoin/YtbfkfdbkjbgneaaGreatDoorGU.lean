/- S3: texts put together. -/
import Derived.Test.YtbfkfdbkjbgneaaGreatDoorGT
import Derived.Deep.DeepCutAuto
/- Contracts of the specification's chapter 3, first part: sizes. -/
namespace Go.Proofs.YtbfkfdbkjbgneaaGreatDoor
open Go.RowKit Go.Sort Go.BigFrame
theorem sum_take_succ (l : List Nat) (i : Nat) (h : i < l.length) : (l.take (i + 1)).sum = (l.take i).sum + l[i] := by
  rw [List.take_succ_eq_append_getElem h, List.sum_append, List.sum_cons, List.sum_nil, Nat.add_zero]
theorem sum_take_le : ∀ (l : List Nat) (i : Nat), (l.take i).sum ≤ l.sum
  | [], i => by simp
  | x :: r, 0 => by simp
  | x :: r, i + 1 => by have := sum_take_le r i; simp; omega
theorem netSize_pos (x : Stil.Net) : 1 ≤ Stil.netSize x := by obtain ⟨_, _, _⟩ := x; rw [Stil.netSize_eq]; omega
theorem armSize_pos (x : Stil.Arm) : 1 ≤ Stil.armSize x := by obtain ⟨_, _, _⟩ := x; rw [Stil.armSize_eq]; omega
theorem len_le_sum {α : Type} (f : α → Nat) (hf : ∀ x, 1 ≤ f x) : ∀ l : List α, l.length ≤ (l.map f).sum
  | [] => by simp
  | x :: r => by have := len_le_sum f hf r; have := hf x; simp only [List.map_cons, List.sum_cons, List.length_cons]; omega
end Go.Proofs.YtbfkfdbkjbgneaaGreatDoor
