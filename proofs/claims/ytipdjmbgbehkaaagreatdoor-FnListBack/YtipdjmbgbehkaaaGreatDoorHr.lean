/- S11, S12, S13a: texts put together. -/
import Derived.Test.YtipdjmbgbehkaaaGreatDoorGC
import Derived.Test.YtipdjmbgbehkaaaGreatDoorHq
/- Contracts of the specification's chapter 5: the words of a line. -/
namespace Go.Proofs.YtipdjmbgbehkaaaGreatDoor
open Go.RowKit Go.Sort Go.BigFrame
theorem piece_count (c : UInt8) (l : List UInt8) : (Stil.cut c l).length ≤ l.length + 1 := by
  induction l with
  | nil => simp [Stil.cut]
  | cons x r ih =>
    rw [Stil.cut]
    split
    · simp; omega
    · have : (Stil.consHead x (Stil.cut c r)).length = (Stil.cut c r).length ∨ (Stil.consHead x (Stil.cut c r)).length = 1 := by
        cases h : Stil.cut c r with
        | nil => right; rfl
        | cons a q => left; rfl
      rcases this with h | h <;> simp <;> omega
end Go.Proofs.YtipdjmbgbehkaaaGreatDoor
/- Contracts of the specification's chapter 5: the words of the codes. -/
namespace Go.Proofs.YtipdjmbgbehkaaaGreatDoor
open Go.RowKit Go.Sort Go.BigFrame
set_option maxHeartbeats 2000000 in
set_option maxRecDepth 100000 in
theorem s_listWord (k : Nat) (w : World) (h1 : 1 ≤ k) (h2 : k ≤ 11) :
    Calls Tryz.prog 49 #[.int .i64 k] w fun e w' => e = .returned (.string ⟨(Stil.lwordOf k).toArray⟩) ∧ Below w.heap.size w w' := by
  have hk : k = 1 ∨ k = 2 ∨ k = 3 ∨ k = 4 ∨ k = 5 ∨ k = 6 ∨ k = 7 ∨ k = 8 ∨ k = 9 ∨ k = 10 ∨ k = 11 := by omega
  rcases hk with rfl | rfl | rfl | rfl | rfl | rfl | rfl | rfl | rfl | rfl | rfl
  all_goals
    go_enter Tryz.func49, Tryz.ntmps49
    go_wp2
    go_ret
    exact ⟨rfl, by (repeat (first | with_reducible exact Below.refl _ _ | with_reducible assumption | with_reducible refine bl_set (by first | exact Nat.le_refl _ | (simp; done) | (simp; omega) | omega) ?_ _ | with_reducible refine bl_alloc ?_ _ | with_reducible refine bl_drewN ?_ _ | with_reducible refine bl_drew ?_ | with_reducible refine bl_grow ?_ _ _ | with_reducible refine bl_call ?_ (by assumption)))⟩
end Go.Proofs.YtipdjmbgbehkaaaGreatDoor
/- What is read of a contact or coil is of small numbers. -/
namespace Go.Proofs.YtipdjmbgbehkaaaGreatDoor
theorem elemRead_fits (l : List UInt8) : (Stil.elemRead l).fits := by
  cases hb : Stil.elemReadB l
  · rw [Stil.read_no hb]
    exact ⟨⟨by show (-9223372036854775808 : Int) ≤ 0; decide, by show (0 : Int) ≤ 9223372036854775807; decide⟩, by simp, by simp⟩
  · have ht := Stil.text_read hb
    have hop : 1 ≤ (Stil.elemRead l).op ∧ (Stil.elemRead l).op ≤ 37 := by
      rcases Stil.elemText_ok (by rw [ht]; exact Stil.readB_ne hb) with h1 | h1
      · unfold Stil.isContact at h1
        split at h1
        · cases h1
        · omega
      · have := Stil.coil_len h1; omega
    exact ⟨⟨by omega, by omega⟩, by have := Stil.read_len l; omega, fun d hd => devOk_fits d (Stil.read_ok hb d hd)⟩
end Go.Proofs.YtipdjmbgbehkaaaGreatDoor
