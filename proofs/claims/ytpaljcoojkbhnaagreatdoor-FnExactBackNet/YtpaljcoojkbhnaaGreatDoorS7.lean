/- Contracts of the specification's chapters 5 and 6: ListOk, and what is wrong with an instruction. -/
import Derived.Test.YtpaljcoojkbhnaaGreatDoorGa
import Derived.Test.YtpaljcoojkbhnaaGreatDoorGB
namespace Go.Proofs.YtpaljcoojkbhnaaGreatDoor
open Go.RowKit Go.Sort Go.BigFrame
set_option maxHeartbeats 2000000 in
set_option maxRecDepth 100000 in
theorem s_listOk (i : Stil.Inst) (av : Value) (w : World) (hav : DevsAt w av i.one.args) (hf : i.fits) :
    Calls Tryz.prog 20 #[.agg #[.int .i64 i.code, .int .i64 i.one.op, av]] w fun e w' => e = .returned (.bool (Stil.listOk i)) ∧ Below w.heap.size w w' := by
  obtain ⟨c, op, ds⟩ := i
  simp only at hav hf ⊢
  have hla : ds.length ≤ 1048576 := hf.2.2.1
  have HC : Hid (∀ W, Below w.heap.size w W → Calls Tryz.prog 46 #[.agg #[.int .i64 op, av]] W fun e w' => e = .returned (.bool (Stil.isContact op ds)) ∧ Below W.heap.size W w') := fun W hW => s_isContact op av ds W (hav.below hW) hf.2.2.2 (by omega)
  have HO : Hid (∀ W, Below w.heap.size w W → Calls Tryz.prog 47 #[.agg #[.int .i64 op, av]] W fun e w' => e = .returned (.bool (Stil.isCoil op ds)) ∧ Below W.heap.size W w') := fun W hW => s_isCoil op av ds W (hav.below hW) hf.2.2.2 (by omega)
  have HL : Hid (Stil.listOk ⟨c, op, ds⟩ = if c < 1 ∨ 11 < c then false else if c ≤ 3 then Stil.isContact op ds else if c = 10 then Stil.isCoil op ds else (op == 0 && ds.length == 0)) := rfl
  obtain ⟨p0, r0, rfl, _⟩ := hav
  obtain ⟨R, hR⟩ : ∃ R, R = Stil.listOk ⟨c, op, ds⟩ := ⟨_, rfl⟩
  obtain ⟨q1, hq1⟩ : ∃ q, q = Stil.isContact op ds := ⟨_, rfl⟩
  obtain ⟨q2, hq2⟩ : ∃ q, q = Stil.isCoil op ds := ⟨_, rfl⟩
  obtain ⟨ln, hln⟩ : ∃ ln, ln = ds.length := ⟨_, rfl⟩
  rw [← hR] at HL ⊢
  rw [← hq1] at HL HC
  rw [← hq2] at HL HO
  rw [← hln] at HL HC HO hla ⊢
  clear hR hq1 hq2 hf hln
  by_cases h1 : c < 1 ∨ 11 < c
  · have HX : Hid (R = false) := by show _ = _; rw [HL.out, if_pos h1]
    clear HL HC HO
    go_enter Tryz.func20, Tryz.ntmps20
    go_wp2
    all_goals first | (exfalso; omega) | (go_ret; exact ⟨ret_bool HX.out.symm, by (repeat (first | with_reducible exact Below.refl _ _ | with_reducible assumption | with_reducible refine bl_set (by first | exact Nat.le_refl _ | (simp; done) | (simp; omega) | omega) ?_ _ | with_reducible refine bl_alloc ?_ _ | with_reducible refine bl_drewN ?_ _ | with_reducible refine bl_drew ?_ | with_reducible refine bl_grow ?_ _ _ | with_reducible refine bl_call ?_ (by assumption)))⟩)
  · have HL2 : Hid (R = if c ≤ 3 then q1 else if c = 10 then q2 else (op == 0 && ln == 0)) := by show _ = _; rw [HL.out, if_neg h1]
    have c1 : ¬ c < 1 := by omega
    have c2 : ¬ 11 < c := by omega
    clear HL h1
    by_cases h3 : c ≤ 3
    · have HX : Hid (R = q1) := by show _ = _; rw [HL2.out, if_pos h3]
      clear HL2 HO
      go_enter Tryz.func20, Tryz.ntmps20
      go_wp2_with (go_at_call 46; refine (HC.out _ (by (repeat (first | with_reducible exact Below.refl _ _ | with_reducible assumption | with_reducible refine bl_set (by first | exact Nat.le_refl _ | (simp; done) | (simp; omega) | omega) ?_ _ | with_reducible refine bl_alloc ?_ _ | with_reducible refine bl_drewN ?_ _ | with_reducible refine bl_drew ?_ | with_reducible refine bl_grow ?_ _ _ | with_reducible refine bl_call ?_ (by assumption))))).mono ?_; rintro e w1 ⟨rfl, hb⟩)
      go_ret
      exact ⟨ret_bool HX.out.symm, by (repeat (first | with_reducible exact Below.refl _ _ | with_reducible assumption | with_reducible refine bl_set (by first | exact Nat.le_refl _ | (simp; done) | (simp; omega) | omega) ?_ _ | with_reducible refine bl_alloc ?_ _ | with_reducible refine bl_drewN ?_ _ | with_reducible refine bl_drew ?_ | with_reducible refine bl_grow ?_ _ _ | with_reducible refine bl_call ?_ (by assumption)))⟩
    · by_cases h10 : c = 10
      · have HX : Hid (R = q2) := by show _ = _; rw [HL2.out, if_neg h3, if_pos h10]
        subst h10
        clear HL2 HC
        go_enter Tryz.func20, Tryz.ntmps20
        go_wp2_with (go_at_call 47; refine (HO.out _ (by (repeat (first | with_reducible exact Below.refl _ _ | with_reducible assumption | with_reducible refine bl_set (by first | exact Nat.le_refl _ | (simp; done) | (simp; omega) | omega) ?_ _ | with_reducible refine bl_alloc ?_ _ | with_reducible refine bl_drewN ?_ _ | with_reducible refine bl_drew ?_ | with_reducible refine bl_grow ?_ _ _ | with_reducible refine bl_call ?_ (by assumption))))).mono ?_; rintro e w1 ⟨rfl, hb⟩)
        go_ret
        exact ⟨ret_bool HX.out.symm, by (repeat (first | with_reducible exact Below.refl _ _ | with_reducible assumption | with_reducible refine bl_set (by first | exact Nat.le_refl _ | (simp; done) | (simp; omega) | omega) ?_ _ | with_reducible refine bl_alloc ?_ _ | with_reducible refine bl_drewN ?_ _ | with_reducible refine bl_drew ?_ | with_reducible refine bl_grow ?_ _ _ | with_reducible refine bl_call ?_ (by assumption)))⟩
      · have HX : Hid (R = (op == 0 && ln == 0)) := by show _ = _; rw [HL2.out, if_neg h3, if_neg h10]
        have e10 : (c == 10) = false := by rw [beq_eq_false_iff_ne]; exact h10
        clear HL2 HC HO h10
        go_enter Tryz.func20, Tryz.ntmps20
        go_wp2
        all_goals go_ret
        all_goals (refine ⟨ret_bool ?_, by (repeat (first | with_reducible exact Below.refl _ _ | with_reducible assumption | with_reducible refine bl_set (by first | exact Nat.le_refl _ | (simp; done) | (simp; omega) | omega) ?_ _ | with_reducible refine bl_alloc ?_ _ | with_reducible refine bl_drewN ?_ _ | with_reducible refine bl_drew ?_ | with_reducible refine bl_grow ?_ _ _ | with_reducible refine bl_call ?_ (by assumption)))⟩)
        all_goals (rw [HX.out, Bool.eq_iff_iff]; go_light; simp [*])
set_option maxHeartbeats 2000000 in
set_option maxRecDepth 100000 in
theorem s_needs (c : Int) (w : World) : Calls Tryz.prog 21 #[.int .i64 c] w fun e w' => e = .returned (.int .i64 (Stil.needs c)) ∧ Below w.heap.size w w' := by
  go_enter Tryz.func21, Tryz.ntmps21
  go_wp2
  all_goals go_ret
  all_goals (refine ⟨ret_int ?_, Below.refl _ _⟩)
  all_goals go_light
  all_goals (simp only [beq_iff_eq, beq_eq_false_iff_ne] at *; simp [Stil.needs, *])
end Go.Proofs.YtpaljcoojkbhnaaGreatDoor
