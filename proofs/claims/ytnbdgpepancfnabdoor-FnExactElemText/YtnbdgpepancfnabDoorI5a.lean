/- What the rows' writers make of the operands' texts is the text of the model. -/
import Derived.Test.YtnbdgpepancfnabDoorI5
import Derived.Test.YtnbdgpepancfnabDoorI3b
import Derived.Test.YtnbdgpepancfnabDoorM2d
namespace Go.Proofs.YtnbdgpepancfnabDoor
open Go.RowKit Go.Sort Go.BigFrame
theorem join_args (d : Stil.Dev) (r : List Stil.Dev) : Lib.join ((d :: r).map Stil.Dev.text) [44] = d.text ++ Stil.argsText r := by
  rw [List.map_cons, Lib.join_cons]
  congr 1
  induction r with
  | nil => rfl
  | cons x r ih => rw [List.map_cons, Lib.joinTail, List.map_cons, List.flatten_cons, Stil.argsText, ← ih]; rfl
theorem coil_shape {op : Int} {ds : List Stil.Dev} (h : Stil.isCoil op ds = true) : 21 ≤ op ∧ op ≤ 37 ∧ 0 < ds.length ∧ ds.length ≤ 3 := by
  unfold Stil.isCoil at h
  split at h
  · cases h
  · rename_i hn
    have ha : (1 : Int) ≤ Stil.arity op ∧ Stil.arity op ≤ 3 := by
      unfold Stil.arity
      split
      · omega
      · split
        · omega
        · rw [if_pos (by omega)]; omega
    omega
theorem contact_shape {op : Int} {ds : List Stil.Dev} (h : Stil.isContact op ds = true) : 1 ≤ op ∧ op ≤ 10 ∧ ((op ≤ 2 ∧ ∃ a, ds = [a]) ∨ (3 ≤ op ∧ ∃ a b, ds = [a, b])) := by
  unfold Stil.isContact at h
  split at h
  · cases h
  · rename_i hn
    refine ⟨by omega, by omega, ?_⟩
    split at h
    · rename_i a
      simp at h
      exact Or.inl ⟨h.1, a, rfl⟩
    · rename_i a b
      split at h
      · cases h
      · exact Or.inr ⟨by omega, a, b, rfl⟩
    · cases h
def writeOf (op : Int) (word : List UInt8) (xs : List (List UInt8)) : List UInt8 :=
  if op ≤ 4 then word ++ Lib.join xs [58] else if op ≤ 10 then Lib.join xs word else word ++ 58 :: Lib.join xs [44]
theorem row_coil {op : Int} (h1 : 21 ≤ op) (h2 : op ≤ 37) : (rowOf op).1 = Stil.elemName op ∧ (rowOf op).2.1 = 61 ∧ (rowOf op).1.length ≤ 100 := by
  have h : op = 21 ∨ op = 22 ∨ op = 23 ∨ op = 24 ∨ op = 25 ∨ op = 26 ∨ op = 27 ∨ op = 28 ∨ op = 29 ∨ op = 30 ∨ op = 31 ∨ op = 32 ∨ op = 33 ∨ op = 34 ∨ op = 35 ∨ op = 36 ∨ op = 37 := by omega
  rcases h with rfl | rfl | rfl | rfl | rfl | rfl | rfl | rfl | rfl | rfl | rfl | rfl | rfl | rfl | rfl | rfl | rfl <;> exact ⟨rfl, rfl, by decide⟩
theorem row_sign {op : Int} (h1 : 5 ≤ op) (h2 : op ≤ 10) : (rowOf op).1 = Stil.sign op ∧ (rowOf op).2.1 = 60 ∧ (rowOf op).1.length ≤ 100 := by
  have h : op = 5 ∨ op = 6 ∨ op = 7 ∨ op = 8 ∨ op = 9 ∨ op = 10 := by omega
  rcases h with rfl | rfl | rfl | rfl | rfl | rfl <;> exact ⟨rfl, rfl, by decide⟩
theorem row_ahead {op : Int} (h1 : 1 ≤ op) (h2 : op ≤ 4) : (rowOf op).1 = (if op = 1 then [] else if op = 2 then [47] else if op = 3 then [43] else [45]) ∧ (rowOf op).2.1 = 57 ∧ (rowOf op).1.length ≤ 100 := by
  have h : op = 1 ∨ op = 2 ∨ op = 3 ∨ op = 4 := by omega
  rcases h with rfl | rfl | rfl | rfl <;> exact ⟨rfl, rfl, by decide⟩
theorem write_fn {op : Int} (h : (1 ≤ op ∧ op ≤ 10) ∨ (21 ≤ op ∧ op ≤ 37)) : WriteFn (rowOf op).2.1 (writeOf op) ∧ (rowOf op).2.1 ≠ 0 ∧ (rowOf op).1.length ≤ 100 := by
  rcases h with ⟨h1, h2⟩ | ⟨h1, h2⟩
  · by_cases h4 : op ≤ 4
    · obtain ⟨_, e, l⟩ := row_ahead h1 h4
      rw [e]
      refine ⟨?_, by decide, l⟩
      rw [show writeOf op = (fun word xs => word ++ Lib.join xs [58]) from by funext word xs; unfold writeOf; rw [if_pos h4]]
      exact wf_ahead
    · obtain ⟨_, e, l⟩ := row_sign (by omega) h2
      rw [e]
      refine ⟨?_, by decide, l⟩
      rw [show writeOf op = (fun word xs => Lib.join xs word) from by funext word xs; unfold writeOf; rw [if_neg h4, if_pos h2]]
      exact wf_between
  · obtain ⟨_, e, l⟩ := row_coil h1 h2
    rw [e]
    refine ⟨?_, by decide, l⟩
    rw [show writeOf op = (fun word xs => word ++ 58 :: Lib.join xs [44]) from by funext word xs; unfold writeOf; rw [if_neg (by omega), if_neg (by omega)]]
    exact wf_named
theorem coil_contact {op : Int} {ds : List Stil.Dev} (h : op ≤ 10) : Stil.isCoil op ds = false := by unfold Stil.isCoil; rw [if_pos (by omega)]
theorem join_two (a b sep : List UInt8) : Lib.join [a, b] sep = a ++ (sep ++ b) := by rw [Lib.join_cons]; simp [Lib.joinTail]
theorem write_eq {op : Int} {ds : List Stil.Dev} (h : (Stil.isContact op ds || Stil.isCoil op ds) = true) : writeOf op (rowOf op).1 (ds.map Stil.Dev.text) = Stil.elemText op ds := by
  cases hco : Stil.isCoil op ds
  · rw [hco, Bool.or_false] at h
    obtain ⟨h1, h2, hs⟩ := contact_shape h
    unfold Stil.elemText
    rw [hco, h]
    rcases hs with ⟨h3, a, rfl⟩ | ⟨h3, a, b, rfl⟩
    · rw [(row_ahead h1 (by omega)).1]
      unfold writeOf
      rw [if_pos (by omega)]
      have h12 : op = 1 ∨ op = 2 := by omega
      rcases h12 with rfl | rfl <;> simp [Lib.join_one]
    · by_cases h4 : op ≤ 4
      · rw [(row_ahead h1 h4).1]
        unfold writeOf
        rw [if_pos h4]
        have h34 : op = 3 ∨ op = 4 := by omega
        rcases h34 with rfl | rfl <;> simp [join_two]
      · rw [(row_sign (by omega) h2).1]
        unfold writeOf
        rw [if_neg h4, if_pos h2]
        simp [join_two, show ¬ op = 3 by omega, show ¬ op = 4 by omega]
  · obtain ⟨h1, h2, h3, _⟩ := coil_shape hco
    unfold Stil.elemText
    rw [hco]
    match ds, h3 with
    | d :: r, _ =>
      rw [(row_coil h1 h2).1]
      unfold writeOf
      rw [if_neg (by omega), if_neg (by omega), join_args]
      simp
end Go.Proofs.YtnbdgpepancfnabDoor
