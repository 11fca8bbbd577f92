/- I1, I1b, I2, I2b: texts put together. -/
import Derived.Test.YtbfkfdbkjbgneaaGB
import Derived.Test.YtbfkfdbkjbgneaaGM
/- Contracts of the program's chapter 1: the table of kinds. -/
namespace Go.Proofs.Ytbfkfdbkjbgneaa
open Go.RowKit Go.Sort Go.BigFrame
def rowBit (k : Int) : Bool := decide (1 ≤ k) && (decide (k ≤ 4) || k == 6 || k == 7 || k == 8)
def rowWhole (k : Int) : Bool := k == 7 || k == 8 || k == 9 || k == 11
def rowReal (k : Int) : Bool := k == 10 || k == 12 || k == 13
end Go.Proofs.Ytbfkfdbkjbgneaa
/- Contracts of the program's chapter 1, second part: DevOk and the kinds. -/
namespace Go.Proofs.Ytbfkfdbkjbgneaa
open Go.RowKit Go.Sort Go.BigFrame
theorem devOk_kind {k n p : Int} (h : Stil.devOkB k n p = true) : 1 ≤ k ∧ k ≤ 13 := by
  by_cases h1 : k = 11
  · omega
  · by_cases h2 : k = 12
    · omega
    · by_cases h3 : k = 13
      · omega
      · have := devOk_dev h h1 h2 h3; omega
theorem devBit_eq (k n p : Int) : (Stil.devOkB k n p && rowBit k) = Stil.devIsBitB k n p := by
  cases h : Stil.devOkB k n p
  · simp [Stil.devIsBitB, h]
  · have hk := devOk_kind h
    rw [Stil.devIsBitB, h, Bool.eq_iff_iff]
    simp [rowBit]; try omega
theorem devWhole_eq (k n p : Int) : (Stil.devOkB k n p && rowWhole k) = Stil.devIsWholeB k n p := by
  cases h : Stil.devOkB k n p
  · simp [Stil.devIsWholeB, h]
  · have hk := devOk_kind h
    rw [Stil.devIsWholeB, h, Bool.eq_iff_iff]
    simp [rowWhole]; try omega
theorem devReal_eq (k n p : Int) : (Stil.devOkB k n p && rowReal k) = Stil.devIsRealB k n p := by
  cases h : Stil.devOkB k n p
  · simp [Stil.devIsRealB, h]
  · have hk := devOk_kind h
    rw [Stil.devIsRealB, h, Bool.eq_iff_iff]
    simp [rowReal]; try omega
end Go.Proofs.Ytbfkfdbkjbgneaa
/- Contracts of the program's chapter 2: kinds of operands. -/
namespace Go.Proofs.Ytbfkfdbkjbgneaa
open Go.RowKit Go.Sort Go.BigFrame
/-- Integers in memory. -/
def IntsAt (w : World) (b o : Nat) (l : List Int) : Prop := ∀ i (h : i < l.length), w.cell? ⟨b, o + i, none⟩ = some (.int .i64 l[i])
end Go.Proofs.Ytbfkfdbkjbgneaa
/- Contracts of the program's chapter 2: what an operand must be at a place. -/
namespace Go.Proofs.Ytbfkfdbkjbgneaa
open Go.RowKit Go.Sort Go.BigFrame
def IntsFrom (w : World) (b : Nat) : Nat → List Int → Prop
  | _, [] => True
  | o, x :: r => w.cell? ⟨b, o, none⟩ = some (.int .i64 x) ∧ IntsFrom w b (o + 1) r
theorem ints_of_from {w : World} {b : Nat} : ∀ {l : List Int} {o : Nat}, IntsFrom w b o l → IntsAt w b o l
  | [], _, _ => fun i hi => absurd hi (by simp)
  | x :: r, o, h => fun i hi => by
    cases i with
    | zero => exact h.1
    | succ k =>
      have := ints_of_from h.2 k (by simpa using hi)
      rw [show o + (k + 1) = o + 1 + k from by omega]
      simpa using this
end Go.Proofs.Ytbfkfdbkjbgneaa
