/- Contracts of the specification's chapter 1, eighth part: DevRead. -/
import Derived.Test.YtnbdgpepancfnabDoorS1g
import Derived.Test.YtnbdgpepancfnabDoorM1c
namespace Go.Proofs.YtnbdgpepancfnabDoor
open Go.RowKit Go.Sort Go.BigFrame
theorem below_lt {w w1 : World} {o : Obj} (hb : Below (w.alloc o).heap.size (w.alloc o) w1) : w.heap.size < w1.heap.size := by have := hb.size; simp at this; omega
theorem guessNum_bound (l : List UInt8) : -9223372036854775808 ≤ (Stil.guessNum l).n ∧ (Stil.guessNum l).n ≤ 9223372036854775807 := by
  unfold Stil.guessNum Stil.signOf
  have h1 := digits_bound (Stil.bare l)
  split
  · simp only; split <;> omega
  · have h2 := digits_bound (List.take (Stil.find 46 (Stil.bare l)).toNat (Stil.bare l) ++ List.drop ((Stil.find 46 (Stil.bare l)).toNat + 1) (Stil.bare l))
    simp only; split <;> omega
theorem guessFrom_bound (l : List UInt8) : ∀ m k : Nat, -9223372036854775808 ≤ (Stil.guessFrom l m k).n ∧ (Stil.guessFrom l m k).n ≤ 9223372036854775807
  | 0, k => guessNum_bound l
  | m + 1, k => by
    unfold Stil.guessFrom
    split
    · have := digits_bound (l.drop 1); simp only; omega
    · exact guessFrom_bound l m (k + 1)
theorem wordFrom_bound (l : List UInt8) : ∀ m k : Nat, m + k ≤ 4 → -9223372036854775808 ≤ (Stil.wordFrom l m k).n ∧ (Stil.wordFrom l m k).n ≤ 9223372036854775807
  | 0, k, _ => guessFrom_bound l 10 1
  | m + 1, k, h1 => by
    unfold Stil.wordFrom
    split
    · simp only; omega
    · exact wordFrom_bound l m (k + 1) (by omega)
theorem guess_bound (l : List UInt8) : -9223372036854775808 ≤ (Stil.guess l).n ∧ (Stil.guess l).n ≤ 9223372036854775807 := wordFrom_bound l 4 0 (by omega)
end Go.Proofs.YtnbdgpepancfnabDoor
