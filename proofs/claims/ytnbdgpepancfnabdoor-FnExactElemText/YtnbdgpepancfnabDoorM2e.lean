/- Plain models of chapter 2, fifth part: a text that is cut, operands that are read. -/
import Derived.Test.YtnbdgpepancfnabDoorM2d
namespace Stil
def consHead (x : UInt8) : List (List UInt8) → List (List UInt8)
  | [] => [[x]]
  | h :: t => (x :: h) :: t
def cut (c : UInt8) : List UInt8 → List (List UInt8)
  | [] => [[]]
  | x :: r => if x = c then [] :: cut c r else consHead x (cut c r)
theorem cut_none (c : UInt8) : ∀ (a : List UInt8), (∀ x ∈ a, x ≠ c) → cut c a = [a]
  | [], _ => rfl
  | x :: r, h => by
    unfold cut
    rw [if_neg (h x (by simp)), cut_none c r (fun y hy => h y (by simp [hy]))]; rfl
theorem cut_at (c : UInt8) : ∀ (a r : List UInt8), (∀ x ∈ a, x ≠ c) → cut c (a ++ c :: r) = a :: cut c r
  | [], r, _ => by simp [cut]
  | x :: a, r, h => by
    have e : cut c (x :: (a ++ c :: r)) = if x = c then [] :: cut c (a ++ c :: r) else consHead x (cut c (a ++ c :: r)) := rfl
    rw [List.cons_append, e, if_neg (h x (by simp)), cut_at c a r (fun y hy => h y (by simp [hy]))]; rfl
def args (c : UInt8) (l : List UInt8) : List Dev := ((cut c l).map devRead).take 4
end Stil
