/- Contracts of the specification's chapter 2, fourth part: ElemIsCoil. -/
import Derived.Test.YtnbdgpepancfnabDoorS2c
namespace Go.Proofs.YtnbdgpepancfnabDoor
open Go.RowKit Go.Sort Go.BigFrame
set_option maxHeartbeats 400000 in
set_option maxRecDepth 100000 in
theorem s_isCoil_no (op : Int) (a : Option Addr) (len cap : Nat) (w : World) (h : op < 21 ∨ 37 < op ∨ (len : Int) ≠ Stil.arity op) (_hl : len ≤ 9223372036854775807) :
    Calls Tryd.prog 6 #[.agg #[.int .i64 op, .slice a len cap]] w fun e w' => e = .returned (.bool false) ∧ Below w.heap.size w w' := by
  by_cases h1 : op < 21
  · have h1' : decide (op < 21) = true := by simpa using h1
    go_enter Tryd.func6, Tryd.ntmps6
    go_wp2
    go_quiet (exact Calls.quiet_of_same (s_arity _ _))
    go_wp2
    go_ret
    exact ⟨rfl, below_drewN (below_alloc _ _) _⟩
  · have h1' : decide (op < 21) = false := by simpa using h1
    by_cases h2 : 37 < op
    · have h2' : decide (37 < op) = true := by simpa using h2
      go_enter Tryd.func6, Tryd.ntmps6
      go_wp2
      go_quiet (exact Calls.quiet_of_same (s_arity _ _))
      go_wp2
      go_ret
      exact ⟨rfl, below_drewN (below_alloc _ _) _⟩
    · have h2' : decide (37 < op) = false := by simpa using h2
      have h3 : ((len : Int) != Stil.arity op) = true := by rw [bne_iff_ne]; omega
      clear h
      go_enter Tryd.func6, Tryd.ntmps6
      go_wp2
      go_quiet (exact Calls.quiet_of_same (s_arity _ _))
      go_wp2
      go_ret
      exact ⟨rfl, below_drewN (below_alloc _ _) _⟩
set_option maxHeartbeats 1000000 in
set_option maxRecDepth 100000 in
theorem s_isCoil_one (op : Int) (b o cap : Nat) (d : Stil.Dev) (w : World) (h1 : 21 ≤ op) (h2 : op ≤ 37) (h3 : Stil.arity op = 1) (hlt : b < w.heap.size) (hat : DevAt w b o d) (hn1 : -9223372036854775808 ≤ d.n) (hn2 : d.n ≤ 9223372036854775807) :
    Calls Tryd.prog 6 #[.agg #[.int .i64 op, .slice (some ⟨b, o, none⟩) 1 cap]] w fun e w' => e = .returned (.bool (Stil.isCoil op [d])) ∧ Below w.heap.size w w' := by
  obtain ⟨c0, c1, c2⟩ := hat
  have hlt1 : b < w.heap.size + 1 := by omega
  have hlt2 : b < w.heap.size + 1 + 1 := by omega
  have ho : op = 21 ∨ op = 22 ∨ op = 23 ∨ op = 25 := by
    unfold Stil.arity at h3
    split at h3
    · omega
    · split at h3
      · omega
      · split at h3 <;> omega
  have HD : Hid (Stil.isCoil op [d] = if op = 21 then Stil.kindB d.kind d.n d.p 2 3 else if op = 22 then Stil.kindB d.kind d.n d.p 2 3 || Stil.kindB d.kind d.n d.p 4 4 else if op = 23 then Stil.kindB d.kind d.n d.p 2 3 || Stil.kindB d.kind d.n d.p 4 7 || Stil.kindB d.kind d.n d.p 8 8 else Stil.kindB d.kind d.n d.p 4 4) := by
    show _ = _
    unfold Stil.isCoil; rw [if_neg (by simp [h3]; omega)]; rfl
  have h1' : decide (op < 21) = false := by simp; omega
  have h2' : decide (37 < op) = false := by simp; omega
  clear h1 h2
  rcases ho with rfl | rfl | rfl | rfl
  all_goals
    go_enter Tryd.func6, Tryd.ntmps6
    go_wp2
    go_quiet (exact Calls.quiet_of_same (s_arity _ _))
    go_wp2_with (first | (go_at_call 14; refine (s_kind _ _ _ _ _ _ (by assumption) (by assumption)).mono ?_; rintro e w1 ⟨rfl, hb⟩; obtain ⟨hc, hf⟩ := bcell hb; have hz0 : w.heap.size < w1.heap.size := Nat.lt_of_lt_of_le (by first | assumption | (simp; done) | (simp; omega)) hb.size; have hz1 : w.heap.size + 1 < w1.heap.size := Nat.lt_of_lt_of_le (by first | assumption | (simp; done) | (simp; omega)) hb.size; have hz2 : b < w1.heap.size := Nat.lt_of_lt_of_le (by first | assumption | (simp; done) | (simp; omega)) hb.size))
    all_goals go_ret
    all_goals (refine ⟨ret_bool ?_, by (repeat (first | exact Below.refl _ _ | assumption | refine bl_alloc ?_ _ | refine bl_drewN ?_ _ | refine bl_drew ?_ | refine bl_grow ?_ _ _ | refine bl_set (Nat.le_refl _) ?_ _ | refine bl_call ?_ (by assumption)))⟩)
    all_goals rw [HD.out]
    all_goals go_light
    all_goals simp [*]
end Go.Proofs.YtnbdgpepancfnabDoor
