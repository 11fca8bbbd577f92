/- Contracts of the specification's chapter 1, sixth part: digits that are read, a byte that is looked for. -/
import Derived.Test.YtnbdgpepancfnabDoorS1e
namespace Go.Proofs.YtnbdgpepancfnabDoor
open Go.RowKit Go.Sort Go.BigFrame
theorem ba_get (l : List UInt8) (k : Nat) (h : k < l.length) : (⟨l.toArray⟩ : ByteArray)[k]'(by simpa [ByteArray.size] using h) = l[k] := rfl
theorem digFold_bound : ∀ (l : List UInt8) (acc n : Nat), Stil.digFold acc l = some n → n < (acc + 1) * 10 ^ l.length
  | [], acc, n, h => by simp [Stil.digFold] at h; subst h; simp
  | c :: r, acc, n, h => by
    unfold Stil.digFold at h
    split at h
    · have := digFold_bound r _ n h
      have h3 : (acc * 10 + (c.toNat - 48) + 1) * 10 ^ r.length ≤ (acc + 1) * 10 * 10 ^ r.length := Nat.mul_le_mul_right _ (by omega)
      rw [List.length_cons, Nat.pow_succ, Nat.mul_comm (10 ^ r.length) 10, ← Nat.mul_assoc]
      omega
    · cases h
theorem digits_bound (l : List UInt8) : -1 ≤ Stil.digits l ∧ Stil.digits l < 100000000000000000 := by
  unfold Stil.digits
  split
  · omega
  · rename_i h
    cases hn : Stil.digFold 0 l with
    | some n =>
      have h1 := digFold_bound l 0 n hn
      have h2 : 10 ^ l.length ≤ 10 ^ 17 := Nat.pow_le_pow_right (by omega) (by omega)
      have h3 : (10 : Nat) ^ 17 = 100000000000000000 := by decide
      simp only [Stil.optInt]
      omega
    | none => simp [Stil.optInt]
end Go.Proofs.YtnbdgpepancfnabDoor
