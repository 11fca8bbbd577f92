/- Contracts of the specification's chapter 2, ninth part: l9Cut. -/
import Derived.Test.YtnbdgpepancfnabDoorS2h
import Derived.Test.YtnbdgpepancfnabDoorM2e
namespace Go.Proofs.YtnbdgpepancfnabDoor
open Go.RowKit Go.Sort Go.BigFrame
theorem info_string : (Tryd.prog.info? 9).map (fun i => (i.zero, i.size, i.bytes)) = some (some (.string ⟨#[]⟩), 1, 16) := by kernel_rfl
theorem info_dev : (Tryd.prog.info? 37).map (fun i => (i.zero, i.size, i.bytes)) = some (some (.agg #[.int .i64 0, .int .i64 0, .int .i64 0]), 3, 24) := by kernel_rfl
def strV (l : List UInt8) : Value := .string ⟨l.toArray⟩
theorem slice_mid (l : List UInt8) (a b : Nat) : (⟨l.toArray⟩ : ByteArray).extract a b = ⟨((l.take b).drop a).toArray⟩ := ba_ext l a b
theorem piece_end {c : UInt8} {l : List UInt8} {f : Nat} (h : ∀ j (hj : j < l.length), f ≤ j → l[j] ≠ c) : Stil.cut c (l.drop f) = [l.drop f] := by
  refine Stil.cut_none c _ fun x hx => ?_
  obtain ⟨i, hi, rfl⟩ := List.getElem_of_mem hx
  rw [List.getElem_drop]
  exact h (f + i) (by simp at hi; omega) (by omega)
theorem piece_at {c : UInt8} {l : List UInt8} {f k : Nat} (hf : f ≤ k) (hk : k < l.length) (h : ∀ j (hj : j < k), f ≤ j → l[j] ≠ c) (hc : l[k] = c) : Stil.cut c (l.drop f) = (l.take k).drop f :: Stil.cut c (l.drop (k + 1)) := by
  have e : l.drop f = (l.take k).drop f ++ c :: l.drop (k + 1) := by
    have h1 : l = l.take k ++ l[k] :: l.drop (k + 1) := by rw [← List.drop_eq_getElem_cons hk, List.take_append_drop]
    have h2 : l.drop f = (l.take k ++ l[k] :: l.drop (k + 1)).drop f := by rw [← h1]
    rw [h2, List.drop_append_of_le_length (by simp; omega), hc]
  rw [e]
  refine Stil.cut_at c _ _ fun x hx => ?_
  obtain ⟨i, hi, rfl⟩ := List.getElem_of_mem hx
  simp only [List.getElem_drop, List.getElem_take]
  simp at hi
  exact h (f + i) (by omega) (by omega)
end Go.Proofs.YtnbdgpepancfnabDoor
