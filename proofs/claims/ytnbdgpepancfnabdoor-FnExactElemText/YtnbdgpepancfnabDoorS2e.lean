/- Contracts of the specification's chapter 2, fifth part: ElemIsCoil of two operands and more. -/
import Derived.Test.YtnbdgpepancfnabDoorS2d
namespace Go.Proofs.YtnbdgpepancfnabDoor
open Go.RowKit Go.Sort Go.BigFrame
set_option maxHeartbeats 1000000 in
set_option maxRecDepth 100000 in
theorem s_isCoil_pulse (op : Int) (b o cap : Nat) (d f : Stil.Dev) (w : World) (ho : op = 24) (hlt : b < w.heap.size) (hat : DevAt w b o d) (hat2 : DevAt w b (o + 3) f) (hn1 : -9223372036854775808 ≤ d.n) (hn2 : d.n ≤ 9223372036854775807) (hm1 : -9223372036854775808 ≤ f.n) (hm2 : f.n ≤ 9223372036854775807) :
    Calls Tryd.prog 6 #[.agg #[.int .i64 op, .slice (some ⟨b, o, none⟩) 2 cap]] w fun e w' => e = .returned (.bool (Stil.kindB d.kind d.n d.p 2 3 && Stil.kindB f.kind f.n f.p 5 5)) ∧ Below w.heap.size w w' := by
  obtain ⟨c0, c1, c2⟩ := hat
  obtain ⟨e0, e1, e2⟩ := hat2
  have hlt1 : b < w.heap.size + 1 := by omega
  have hlt2 : b < w.heap.size + 1 + 1 := by omega
  have h3 : Stil.arity op = 2 := by unfold Stil.arity; rw [if_neg (by omega), if_neg (by omega), if_pos (by omega)]
  have h1' : decide (op < 21) = false := by simp; omega
  have h2' : decide (37 < op) = false := by simp; omega
  subst ho
  all_goals
    go_enter Tryd.func6, Tryd.ntmps6
    go_wp2
    go_quiet (exact Calls.quiet_of_same (s_arity _ _))
    go_wp2_with (first | (go_at_call 14; refine (s_kind _ _ _ _ _ _ (by assumption) (by assumption)).mono ?_; rintro e w1 ⟨rfl, hb⟩; obtain ⟨hc, hf⟩ := bcell hb; have hz0 : w.heap.size < w1.heap.size := Nat.lt_of_lt_of_le (by first | assumption | (simp; done) | (simp; omega)) hb.size; have hz1 : w.heap.size + 1 < w1.heap.size := Nat.lt_of_lt_of_le (by first | assumption | (simp; done) | (simp; omega)) hb.size; have hz2 : b < w1.heap.size := Nat.lt_of_lt_of_le (by first | assumption | (simp; done) | (simp; omega)) hb.size))
    all_goals go_ret
    all_goals (refine ⟨ret_bool ?_, by (repeat (first | exact Below.refl _ _ | assumption | refine bl_alloc ?_ _ | refine bl_drewN ?_ _ | refine bl_drew ?_ | refine bl_grow ?_ _ _ | refine bl_set (Nat.le_refl _) ?_ _ | refine bl_call ?_ (by assumption)))⟩)
    all_goals go_light
    all_goals simp [*]
set_option maxHeartbeats 1000000 in
set_option maxRecDepth 100000 in
theorem s_isCoil_timer (op : Int) (b o cap : Nat) (d f : Stil.Dev) (w : World) (ho : op = 26 ∨ op = 27 ∨ op = 28) (hlt : b < w.heap.size) (hat : DevAt w b o d) (hat2 : DevAt w b (o + 3) f) (hn1 : -9223372036854775808 ≤ d.n) (hn2 : d.n ≤ 9223372036854775807) (hm1 : -9223372036854775808 ≤ f.n) (hm2 : f.n ≤ 9223372036854775807) :
    Calls Tryd.prog 6 #[.agg #[.int .i64 op, .slice (some ⟨b, o, none⟩) 2 cap]] w fun e w' => e = .returned (.bool (Stil.kindB d.kind d.n d.p 7 7 && Stil.kindB f.kind f.n f.p 11 11 && decide (0 ≤ f.n))) ∧ Below w.heap.size w w' := by
  obtain ⟨c0, c1, c2⟩ := hat
  obtain ⟨e0, e1, e2⟩ := hat2
  have hlt1 : b < w.heap.size + 1 := by omega
  have hlt2 : b < w.heap.size + 1 + 1 := by omega
  have h3 : Stil.arity op = 2 := by unfold Stil.arity; rw [if_neg (by omega), if_neg (by omega), if_pos (by omega)]
  have h1' : decide (op < 21) = false := by simp; omega
  have h2' : decide (37 < op) = false := by simp; omega
  rcases ho with rfl | rfl | rfl
  all_goals
    go_enter Tryd.func6, Tryd.ntmps6
    go_wp2
    go_quiet (exact Calls.quiet_of_same (s_arity _ _))
    go_wp2_with (first | (go_at_call 14; refine (s_kind _ _ _ _ _ _ (by assumption) (by assumption)).mono ?_; rintro e w1 ⟨rfl, hb⟩; obtain ⟨hc, hf⟩ := bcell hb; have hz0 : w.heap.size < w1.heap.size := Nat.lt_of_lt_of_le (by first | assumption | (simp; done) | (simp; omega)) hb.size; have hz1 : w.heap.size + 1 < w1.heap.size := Nat.lt_of_lt_of_le (by first | assumption | (simp; done) | (simp; omega)) hb.size; have hz2 : b < w1.heap.size := Nat.lt_of_lt_of_le (by first | assumption | (simp; done) | (simp; omega)) hb.size))
    all_goals go_ret
    all_goals (refine ⟨ret_bool ?_, by (repeat (first | exact Below.refl _ _ | assumption | refine bl_alloc ?_ _ | refine bl_drewN ?_ _ | refine bl_drew ?_ | refine bl_grow ?_ _ _ | refine bl_set (Nat.le_refl _) ?_ _ | refine bl_call ?_ (by assumption)))⟩)
    all_goals go_light
    all_goals simp [*]
set_option maxHeartbeats 1000000 in
set_option maxRecDepth 100000 in
theorem s_isCoil_count (op : Int) (b o cap : Nat) (d f : Stil.Dev) (w : World) (ho : op = 29) (hlt : b < w.heap.size) (hat : DevAt w b o d) (hat2 : DevAt w b (o + 3) f) (hn1 : -9223372036854775808 ≤ d.n) (hn2 : d.n ≤ 9223372036854775807) (hm1 : -9223372036854775808 ≤ f.n) (hm2 : f.n ≤ 9223372036854775807) :
    Calls Tryd.prog 6 #[.agg #[.int .i64 op, .slice (some ⟨b, o, none⟩) 2 cap]] w fun e w' => e = .returned (.bool (Stil.kindB d.kind d.n d.p 8 8 && Stil.kindB f.kind f.n f.p 11 11 && decide (0 ≤ f.n))) ∧ Below w.heap.size w w' := by
  obtain ⟨c0, c1, c2⟩ := hat
  obtain ⟨e0, e1, e2⟩ := hat2
  have hlt1 : b < w.heap.size + 1 := by omega
  have hlt2 : b < w.heap.size + 1 + 1 := by omega
  have h3 : Stil.arity op = 2 := by unfold Stil.arity; rw [if_neg (by omega), if_neg (by omega), if_pos (by omega)]
  have h1' : decide (op < 21) = false := by simp; omega
  have h2' : decide (37 < op) = false := by simp; omega
  subst ho
  all_goals
    go_enter Tryd.func6, Tryd.ntmps6
    go_wp2
    go_quiet (exact Calls.quiet_of_same (s_arity _ _))
    go_wp2_with (first | (go_at_call 14; refine (s_kind _ _ _ _ _ _ (by assumption) (by assumption)).mono ?_; rintro e w1 ⟨rfl, hb⟩; obtain ⟨hc, hf⟩ := bcell hb; have hz0 : w.heap.size < w1.heap.size := Nat.lt_of_lt_of_le (by first | assumption | (simp; done) | (simp; omega)) hb.size; have hz1 : w.heap.size + 1 < w1.heap.size := Nat.lt_of_lt_of_le (by first | assumption | (simp; done) | (simp; omega)) hb.size; have hz2 : b < w1.heap.size := Nat.lt_of_lt_of_le (by first | assumption | (simp; done) | (simp; omega)) hb.size))
    all_goals go_ret
    all_goals (refine ⟨ret_bool ?_, by (repeat (first | exact Below.refl _ _ | assumption | refine bl_alloc ?_ _ | refine bl_drewN ?_ _ | refine bl_drew ?_ | refine bl_grow ?_ _ _ | refine bl_set (Nat.le_refl _) ?_ _ | refine bl_call ?_ (by assumption)))⟩)
    all_goals go_light
    all_goals simp [*]
set_option maxHeartbeats 1000000 in
set_option maxRecDepth 100000 in
theorem s_isCoil_real (op : Int) (b o cap : Nat) (d f : Stil.Dev) (w : World) (ho : op = 36) (hlt : b < w.heap.size) (hat : DevAt w b o d) (hat2 : DevAt w b (o + 3) f) (hn1 : -9223372036854775808 ≤ d.n) (hn2 : d.n ≤ 9223372036854775807) (hm1 : -9223372036854775808 ≤ f.n) (hm2 : f.n ≤ 9223372036854775807) :
    Calls Tryd.prog 6 #[.agg #[.int .i64 op, .slice (some ⟨b, o, none⟩) 2 cap]] w fun e w' => e = .returned (.bool (Stil.kindB d.kind d.n d.p 10 10 && Stil.devIsWholeB f.kind f.n f.p)) ∧ Below w.heap.size w w' := by
  obtain ⟨c0, c1, c2⟩ := hat
  obtain ⟨e0, e1, e2⟩ := hat2
  have hlt1 : b < w.heap.size + 1 := by omega
  have hlt2 : b < w.heap.size + 1 + 1 := by omega
  have h3 : Stil.arity op = 2 := by unfold Stil.arity; rw [if_neg (by omega), if_neg (by omega), if_pos (by omega)]
  have h1' : decide (op < 21) = false := by simp; omega
  have h2' : decide (37 < op) = false := by simp; omega
  subst ho
  all_goals
    go_enter Tryd.func6, Tryd.ntmps6
    go_wp2
    go_quiet (exact Calls.quiet_of_same (s_arity _ _))
    go_wp2_with (first | (go_at_call 14; refine (s_kind _ _ _ _ _ _ (by assumption) (by assumption)).mono ?_; rintro e w1 ⟨rfl, hb⟩; obtain ⟨hc, hf⟩ := bcell hb; have hz0 : w.heap.size < w1.heap.size := Nat.lt_of_lt_of_le (by first | assumption | (simp; done) | (simp; omega)) hb.size; have hz1 : w.heap.size + 1 < w1.heap.size := Nat.lt_of_lt_of_le (by first | assumption | (simp; done) | (simp; omega)) hb.size; have hz2 : b < w1.heap.size := Nat.lt_of_lt_of_le (by first | assumption | (simp; done) | (simp; omega)) hb.size) | (go_at_call 15; refine (s_devIsWhole _ _ _ _ (by assumption) (by assumption)).mono ?_; rintro e w1 ⟨rfl, hb⟩; obtain ⟨hc, hf⟩ := bcell hb; have hz0 : w.heap.size < w1.heap.size := Nat.lt_of_lt_of_le (by first | assumption | (simp; done) | (simp; omega)) hb.size; have hz1 : w.heap.size + 1 < w1.heap.size := Nat.lt_of_lt_of_le (by first | assumption | (simp; done) | (simp; omega)) hb.size; have hz2 : b < w1.heap.size := Nat.lt_of_lt_of_le (by first | assumption | (simp; done) | (simp; omega)) hb.size))
    all_goals go_ret
    all_goals (refine ⟨ret_bool ?_, by (repeat (first | exact Below.refl _ _ | assumption | refine bl_alloc ?_ _ | refine bl_drewN ?_ _ | refine bl_drew ?_ | refine bl_grow ?_ _ _ | refine bl_set (Nat.le_refl _) ?_ _ | refine bl_call ?_ (by assumption)))⟩)
    all_goals go_light
    all_goals simp [*]
set_option maxHeartbeats 1000000 in
set_option maxRecDepth 100000 in
theorem s_isCoil_whole (op : Int) (b o cap : Nat) (d f : Stil.Dev) (w : World) (ho : op = 37) (hlt : b < w.heap.size) (hat : DevAt w b o d) (hat2 : DevAt w b (o + 3) f) (hn1 : -9223372036854775808 ≤ d.n) (hn2 : d.n ≤ 9223372036854775807) (hm1 : -9223372036854775808 ≤ f.n) (hm2 : f.n ≤ 9223372036854775807) :
    Calls Tryd.prog 6 #[.agg #[.int .i64 op, .slice (some ⟨b, o, none⟩) 2 cap]] w fun e w' => e = .returned (.bool (Stil.kindB d.kind d.n d.p 9 9 && Stil.devIsRealB f.kind f.n f.p)) ∧ Below w.heap.size w w' := by
  obtain ⟨c0, c1, c2⟩ := hat
  obtain ⟨e0, e1, e2⟩ := hat2
  have hlt1 : b < w.heap.size + 1 := by omega
  have hlt2 : b < w.heap.size + 1 + 1 := by omega
  have h3 : Stil.arity op = 2 := by unfold Stil.arity; rw [if_neg (by omega), if_neg (by omega), if_pos (by omega)]
  have h1' : decide (op < 21) = false := by simp; omega
  have h2' : decide (37 < op) = false := by simp; omega
  subst ho
  all_goals
    go_enter Tryd.func6, Tryd.ntmps6
    go_wp2
    go_quiet (exact Calls.quiet_of_same (s_arity _ _))
    go_wp2_with (first | (go_at_call 14; refine (s_kind _ _ _ _ _ _ (by assumption) (by assumption)).mono ?_; rintro e w1 ⟨rfl, hb⟩; obtain ⟨hc, hf⟩ := bcell hb; have hz0 : w.heap.size < w1.heap.size := Nat.lt_of_lt_of_le (by first | assumption | (simp; done) | (simp; omega)) hb.size; have hz1 : w.heap.size + 1 < w1.heap.size := Nat.lt_of_lt_of_le (by first | assumption | (simp; done) | (simp; omega)) hb.size; have hz2 : b < w1.heap.size := Nat.lt_of_lt_of_le (by first | assumption | (simp; done) | (simp; omega)) hb.size) | (go_at_call 16; refine (s_devIsReal _ _ _ _ (by assumption) (by assumption)).mono ?_; rintro e w1 ⟨rfl, hb⟩; obtain ⟨hc, hf⟩ := bcell hb; have hz0 : w.heap.size < w1.heap.size := Nat.lt_of_lt_of_le (by first | assumption | (simp; done) | (simp; omega)) hb.size; have hz1 : w.heap.size + 1 < w1.heap.size := Nat.lt_of_lt_of_le (by first | assumption | (simp; done) | (simp; omega)) hb.size; have hz2 : b < w1.heap.size := Nat.lt_of_lt_of_le (by first | assumption | (simp; done) | (simp; omega)) hb.size))
    all_goals go_ret
    all_goals (refine ⟨ret_bool ?_, by (repeat (first | exact Below.refl _ _ | assumption | refine bl_alloc ?_ _ | refine bl_drewN ?_ _ | refine bl_drew ?_ | refine bl_grow ?_ _ _ | refine bl_set (Nat.le_refl _) ?_ _ | refine bl_call ?_ (by assumption)))⟩)
    all_goals go_light
    all_goals simp [*]
set_option maxHeartbeats 1000000 in
set_option maxRecDepth 100000 in
theorem s_isCoil_calc (op : Int) (b o cap : Nat) (d : Stil.Dev) (r : List Stil.Dev) (w : World) (ho : 30 ≤ op ∧ op ≤ 35) (ha : Stil.arity op = (r.length : Int) + 1) (hlt : b < w.heap.size)
    (hat : ∀ i (h : i < (d :: r).length), DevAt w b (o + i * 3) (d :: r)[i]) (hfit : ∀ x ∈ d :: r, x.fits) :
    Calls Tryd.prog 6 #[.agg #[.int .i64 op, .slice (some ⟨b, o, none⟩) (r.length + 1) cap]] w fun e w' => e = .returned (.bool (Stil.calcB op (d :: r))) ∧ Below w.heap.size w w' := by
  obtain ⟨c0, c1, c2⟩ := hat 0 (by simp)
  simp only [Nat.zero_mul, Nat.add_zero, List.getElem_cons_zero] at c0 c1 c2
  have hl : r.length ≤ 100 := by
    have : Stil.arity op ≤ 3 := by unfold Stil.arity; split <;> (try split) <;> (try split) <;> omega
    omega
  have HA : Hid (∀ W, Below w.heap.size w W → ∀ i (h : i < (d :: r).length), DevAt W b (o + i * 3) (d :: r)[i]) := fun W hW i h => (hat i h).below hW hlt
  have HF : Hid (∀ x ∈ d :: r, x.fits) := hfit
  have h1' : decide (op < 21) = false := by simp; omega
  have h2' : decide (37 < op) = false := by simp; omega
  have hne : (op == 21) = false ∧ (op == 22) = false ∧ (op == 23) = false ∧ (op == 24) = false ∧ (op == 25) = false ∧ (op == 26) = false ∧ (op == 27) = false ∧ (op == 28) = false ∧ (op == 29) = false ∧ (op == 36) = false ∧ (op == 37) = false := by
    simp only [beq_eq_false_iff_ne]; omega
  obtain ⟨n1, n2, n3, n4, n5, n6, n7, n8, n9, n10, n11⟩ := hne
  have h3 : (((r.length : Int) + 1) != Stil.arity op) = false := by rw [ha]; simp
  clear hat hfit ho ha
  go_enter Tryd.func6, Tryd.ntmps6
  go_wp2
  go_quiet (exact Calls.quiet_of_same (s_arity _ _))
  go_wp2_with (first | (go_at_call 17; refine (s_calc op b o cap d r _ (by simp; omega) hl (HA.out _ (by (repeat (first | exact Below.refl _ _ | assumption | refine bl_alloc ?_ _ | refine bl_drewN ?_ _ | refine bl_drew ?_ | refine bl_grow ?_ _ _ | refine bl_set (Nat.le_refl _) ?_ _ | refine bl_call ?_ (by assumption))))) HF.out).mono ?_; rintro e w1 ⟨rfl, hb⟩))
  go_ret
  exact ⟨rfl, by (repeat (first | exact Below.refl _ _ | assumption | refine bl_alloc ?_ _ | refine bl_drewN ?_ _ | refine bl_drew ?_ | refine bl_grow ?_ _ _ | refine bl_set (Nat.le_refl _) ?_ _ | refine bl_call ?_ (by assumption)))⟩
end Go.Proofs.YtnbdgpepancfnabDoor
