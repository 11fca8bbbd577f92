/- The law on ListParse: the walk. -/
import Derived.Test.YtipdjmbgbehkaaaGreatDoorGN
import Derived.Test.YtipdjmbgbehkaaaGreatDoorHx
namespace Go.Proofs.YtipdjmbgbehkaaaGreatDoor
open Go.RowKit Go.Sort Go.BigFrame
theorem code_bound (x : List UInt8) : -1 ≤ Stil.codeOf x ∧ Stil.codeOf x ≤ 11 := by unfold Stil.codeOf; (repeat' split) <;> omega
theorem inst_fits (ws : List (List UInt8)) : (Stil.instOf ws).fits := by
 have hc := code_bound (ws.headD [])
 refine ⟨⟨by show _ ≤ Stil.codeOf _; omega, by show Stil.codeOf _ ≤ _; omega⟩, ?_⟩
 unfold Stil.instOf
 match ws with
 | [] => exact ⟨⟨by show (-9223372036854775808 : Int) ≤ 0; decide, by show (0 : Int) ≤ 9223372036854775807; decide⟩, by simp, by simp⟩
 | [_] => exact ⟨⟨by show (-9223372036854775808 : Int) ≤ 0; decide, by show (0 : Int) ≤ 9223372036854775807; decide⟩, by simp, by simp⟩
 | _ :: b :: _ => exact elemRead_fits b
theorem parse_fits : ∀ (ls : List (List UInt8)) (k : Nat) (cs : List Stil.Inst), (∀ x ∈ cs, x.fits) → cs.length ≤ 1000 → (∀ x ∈ (Stil.parseFrom k cs ls).1, x.fits) ∧ (Stil.parseFrom k cs ls).1.length ≤ 1000
 | [], k, cs, h1, h2 => ⟨h1, h2⟩
 | l :: r, k, cs, h1, h2 => by
  rw [Stil.parseFrom]
  split
  ·exact parse_fits r (k + 1) cs h1 h2
  ·split
   ·exact ⟨(fun x hx => by cases hx), by simp⟩
   ·split
    ·exact ⟨(fun x hx => by cases hx), by simp⟩
    ·rename_i hn
     refine parse_fits r (k + 1) _ (fun x hx => ?_) (by simp; omega)
     rcases List.mem_append.1 hx with h | h
     ·exact h1 x h
     ·rw [List.mem_singleton.1 h]; exact inst_fits _
theorem list_fits (l : List UInt8) : (∀ x ∈ (Stil.listParse l).1, x.fits) ∧ (Stil.listParse l).1.length ≤ 1000 := by
 unfold Stil.listParse
 split
 ·exact ⟨(fun x hx => by cases hx), by simp⟩
 ·exact parse_fits _ _ _ (fun x hx => by cases hx) (by simp)
end Go.Proofs.YtipdjmbgbehkaaaGreatDoor
