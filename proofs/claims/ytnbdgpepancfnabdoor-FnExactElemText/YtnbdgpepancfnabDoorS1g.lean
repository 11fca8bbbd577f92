/- Contracts of the specification's chapter 1, seventh part: l1Guess. -/
import Derived.Test.YtnbdgpepancfnabDoorS1f
import Derived.Test.YtnbdgpepancfnabDoorM1b
namespace Go.Proofs.YtnbdgpepancfnabDoor
open Go.RowKit Go.Sort Go.BigFrame
theorem words_cell (W : World) (k : Nat) (hk : k < 4) : (W.alloc (Obj.cells #[.string ⟨#[110, 97, 110]⟩, .string ⟨#[105, 110, 102]⟩, .string ⟨#[45, 105, 110, 102]⟩, .string ⟨#[45, 48, 46, 48]⟩] 9)).cell? ⟨W.heap.size, k, none⟩ = some (.string ⟨(Stil.words.getD k []).toArray⟩) := by
  have hn : k = 0 ∨ k = 1 ∨ k = 2 ∨ k = 3 := by omega
  rcases hn with rfl | rfl | rfl | rfl <;> simp [go_sem, Stil.words]
theorem ba_drop (l : List UInt8) (a : Nat) : (⟨l.toArray⟩ : ByteArray).extract a l.length = ⟨(l.drop a).toArray⟩ := by rw [ba_ext, List.take_length]
theorem letter_eq (l : List UInt8) (m : Nat) (hl : l ≠ []) (h1 : 1 ≤ m) (h2 : m ≤ 10) : (((⟨l.toArray⟩ : ByteArray).extract 0 1).toList == (Stil.devLetter (m : Int)).toList) = Stil.letterAt l m := by
  cases l with
  | nil => exact absurd rfl hl
  | cons c r =>
    unfold Stil.devLetter Stil.letterAt
    rw [if_pos (by omega), ba_ext]
    simp
theorem head_get (l : List UInt8) (h : 0 < l.length) (hh : l.head? = some 45) : (45 : UInt8) = l[0] := by
  rw [List.head?_eq_getElem?, List.getElem?_eq_getElem h] at hh; exact (Option.some.inj hh).symm
theorem cat_eq (t : List UInt8) (d : Nat) : (⟨t.toArray⟩ : ByteArray).extract 0 d ++ (⟨t.toArray⟩ : ByteArray).extract (d + 1) t.length = ⟨(t.take d ++ t.drop (d + 1)).toArray⟩ := by
  rw [ba_drop, ba_ext, ba_app]; simp
theorem find_spec (c : UInt8) (l : List UInt8) : Stil.find c l < 0 ∨ ∃ d : Nat, Stil.find c l = d ∧ d < l.length := by
  have h : ∀ (l : List UInt8) (k : Nat), Stil.findFrom c l k < 0 ∨ ∃ d : Nat, Stil.findFrom c l k = ((k + d : Nat) : Int) ∧ d < l.length := by
    intro l
    induction l with
    | nil => intro k; left; simp [Stil.findFrom]
    | cons x r ih =>
      intro k
      unfold Stil.findFrom
      split
      · right; exact ⟨0, by simp, by simp⟩
      · rcases ih (k + 1) with h | ⟨d, h, hd⟩
        · left; exact h
        · right; exact ⟨d + 1, by rw [h]; congr 1; omega, by simp; omega⟩
  rcases h l 0 with h | ⟨d, h, hd⟩
  · exact Or.inl h
  · exact Or.inr ⟨d, by unfold Stil.find; rw [h]; simp, hd⟩
end Go.Proofs.YtnbdgpepancfnabDoor
