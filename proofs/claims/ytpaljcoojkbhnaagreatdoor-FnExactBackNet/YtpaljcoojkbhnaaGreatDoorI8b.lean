/- Contracts of the program's chapters 5 and 6: ListOk, and the verifier's rules. -/
import Derived.Test.YtpaljcoojkbhnaaGreatDoorGd
namespace Go.Proofs.YtpaljcoojkbhnaaGreatDoor
open Go.RowKit Go.Sort Go.BigFrame
set_option maxHeartbeats 2000000 in
set_option maxRecDepth 100000 in
theorem i_listOk (i : Stil.Inst) (av : Value) (w : World) (hr : RowsAt w) (hw : LWordsAt w) (hav : DevsAt w av i.one.args) (hf : i.fits) :
    Calls Tryz.prog 51 #[.agg #[.int .i64 i.code, .int .i64 i.one.op, av]] w fun e w' => e = .returned (.bool (Stil.listOk i)) ∧ Below w.heap.size w w' := by
  obtain ⟨c, op, ds⟩ := i
  simp only at hav hf ⊢
  have hla : ds.length ≤ 1048576 := hf.2.2.1
  have HC : Hid (∀ W, Below w.heap.size w W → Calls Tryz.prog 83 #[.agg #[.int .i64 op, av]] W fun e w' => e = .returned (.bool (Stil.isContact op ds)) ∧ Below W.heap.size W w') := fun W hW => i_isContact op av ds W (hr.below hW) (hav.below hW) hf.2.2.2 (by omega)
  have HO : Hid (∀ W, Below w.heap.size w W → Calls Tryz.prog 84 #[.agg #[.int .i64 op, av]] W fun e w' => e = .returned (.bool (Stil.isCoil op ds)) ∧ Below W.heap.size W w') := fun W hW => i_isCoil op av ds W (hr.below hW) (hav.below hW) hf.2.2.2 (by omega)
  have HW : Hid (∀ W, Below w.heap.size w W → ∀ k : Nat, k < 12 → Calls Tryz.prog 85 #[.int .i64 k] W fun e w' => e = .returned (.string ⟨(Stil.listWords.getD k []).toArray⟩) ∧ w' = W) := fun W hW k hk => i_listWord k W (hw.below hW) hk
  have HL : Hid (Stil.listOk ⟨c, op, ds⟩ = if c < 1 ∨ 11 < c then false else if c ≤ 3 then Stil.isContact op ds else if c = 10 then Stil.isCoil op ds else (op == 0 && ds.length == 0)) := rfl
  obtain ⟨p0, r0, rfl, _⟩ := hav
  obtain ⟨R, hR⟩ : ∃ R, R = Stil.listOk ⟨c, op, ds⟩ := ⟨_, rfl⟩
  obtain ⟨q1, hq1⟩ : ∃ q, q = Stil.isContact op ds := ⟨_, rfl⟩
  obtain ⟨q2, hq2⟩ : ∃ q, q = Stil.isCoil op ds := ⟨_, rfl⟩
  obtain ⟨ln, hln⟩ : ∃ ln, ln = ds.length := ⟨_, rfl⟩
  rw [← hR] at HL ⊢
  rw [← hq1] at HL HC
  rw [← hq2] at HL HO
  rw [← hln] at HL HC HO hla ⊢
  have HN : Hid (∀ W, Calls Tryz.prog 86 #[.agg #[.int .i64 op, .slice p0 ln r0]] W fun e w' => e = .returned (.bool (op == 0 && ln == 0)) ∧ Below W.heap.size W w') := fun W => i_isNothing _ _ _ _ _ (by omega)
  clear hR hq1 hq2 hf hln hr hw
  by_cases h1 : c < 0 ∨ 11 < c
  · have HX : Hid (R = false) := by show _ = _; rw [HL.out, if_pos (by omega)]
    have e1 : (c == 1) = false := by rw [beq_eq_false_iff_ne]; omega
    have e2 : (c == 2) = false := by rw [beq_eq_false_iff_ne]; omega
    have e3 : (c == 3) = false := by rw [beq_eq_false_iff_ne]; omega
    have e4 : (c == 10) = false := by rw [beq_eq_false_iff_ne]; omega
    have HV : Hid (c < 0 ∨ 12 ≤ c) := by show _ ∨ _; omega
    clear HL HC HO HW h1
    go_enter Tryz.func51, Tryz.ntmps51
    go_wp2_with (go_at_call 85; refine (i_listWord_no _ _ HV.out).mono ?_; rintro e w1 ⟨rfl, rfl⟩)
    go_ret
    exact ⟨ret_bool HX.out.symm, by (repeat (first | with_reducible exact Below.refl _ _ | with_reducible assumption | with_reducible refine bl_set (by first | exact Nat.le_refl _ | (simp; done) | (simp; omega) | omega) ?_ _ | with_reducible refine bl_alloc ?_ _ | with_reducible refine bl_drewN ?_ _ | with_reducible refine bl_drew ?_ | with_reducible refine bl_grow ?_ _ _ | with_reducible refine bl_call ?_ (by assumption)))⟩
  · have hx : c = 0 ∨ c = 1 ∨ c = 2 ∨ c = 3 ∨ c = 10 ∨ c = 4 ∨ c = 5 ∨ c = 6 ∨ c = 7 ∨ c = 8 ∨ c = 9 ∨ c = 11 := by omega
    clear h1
    rcases hx with rfl | rfl | rfl | rfl | rfl | hx
    · have HX : Hid (R = false) := by show _ = _; rw [HL.out, if_pos (by omega)]
      clear HL HC HO HN
      go_enter Tryz.func51, Tryz.ntmps51
      go_wp2_with (go_at_call 85; refine (HW.out _ (by (repeat (first | with_reducible exact Below.refl _ _ | with_reducible assumption | with_reducible refine bl_set (by first | exact Nat.le_refl _ | (simp; done) | (simp; omega) | omega) ?_ _ | with_reducible refine bl_alloc ?_ _ | with_reducible refine bl_drewN ?_ _ | with_reducible refine bl_drew ?_ | with_reducible refine bl_grow ?_ _ _ | with_reducible refine bl_call ?_ (by assumption)))) 0 (by omega)).mono ?_; rintro e w1 ⟨rfl, rfl⟩; simp only [Stil.listWords, List.getD_cons_zero])
      go_ret
      exact ⟨ret_bool HX.out.symm, by (repeat (first | with_reducible exact Below.refl _ _ | with_reducible assumption | with_reducible refine bl_set (by first | exact Nat.le_refl _ | (simp; done) | (simp; omega) | omega) ?_ _ | with_reducible refine bl_alloc ?_ _ | with_reducible refine bl_drewN ?_ _ | with_reducible refine bl_drew ?_ | with_reducible refine bl_grow ?_ _ _ | with_reducible refine bl_call ?_ (by assumption)))⟩
    iterate 3
      · have HX : Hid (R = q1) := by show _ = _; rw [HL.out, if_neg (by omega), if_pos (by omega)]
        clear HL HW HO HN
        go_enter Tryz.func51, Tryz.ntmps51
        go_wp2_with (go_at_call 83; refine (HC.out _ (by (repeat (first | with_reducible exact Below.refl _ _ | with_reducible assumption | with_reducible refine bl_set (by first | exact Nat.le_refl _ | (simp; done) | (simp; omega) | omega) ?_ _ | with_reducible refine bl_alloc ?_ _ | with_reducible refine bl_drewN ?_ _ | with_reducible refine bl_drew ?_ | with_reducible refine bl_grow ?_ _ _ | with_reducible refine bl_call ?_ (by assumption))))).mono ?_; rintro e w1 ⟨rfl, hb⟩)
        go_ret
        exact ⟨ret_bool HX.out.symm, by (repeat (first | with_reducible exact Below.refl _ _ | with_reducible assumption | with_reducible refine bl_set (by first | exact Nat.le_refl _ | (simp; done) | (simp; omega) | omega) ?_ _ | with_reducible refine bl_alloc ?_ _ | with_reducible refine bl_drewN ?_ _ | with_reducible refine bl_drew ?_ | with_reducible refine bl_grow ?_ _ _ | with_reducible refine bl_call ?_ (by assumption)))⟩
    · have HX : Hid (R = q2) := by show _ = _; rw [HL.out, if_neg (by omega), if_neg (by omega), if_pos rfl]
      clear HL HW HC HN
      go_enter Tryz.func51, Tryz.ntmps51
      go_wp2_with (go_at_call 84; refine (HO.out _ (by (repeat (first | with_reducible exact Below.refl _ _ | with_reducible assumption | with_reducible refine bl_set (by first | exact Nat.le_refl _ | (simp; done) | (simp; omega) | omega) ?_ _ | with_reducible refine bl_alloc ?_ _ | with_reducible refine bl_drewN ?_ _ | with_reducible refine bl_drew ?_ | with_reducible refine bl_grow ?_ _ _ | with_reducible refine bl_call ?_ (by assumption))))).mono ?_; rintro e w1 ⟨rfl, hb⟩)
      go_ret
      exact ⟨ret_bool HX.out.symm, by (repeat (first | with_reducible exact Below.refl _ _ | with_reducible assumption | with_reducible refine bl_set (by first | exact Nat.le_refl _ | (simp; done) | (simp; omega) | omega) ?_ _ | with_reducible refine bl_alloc ?_ _ | with_reducible refine bl_drewN ?_ _ | with_reducible refine bl_drew ?_ | with_reducible refine bl_grow ?_ _ _ | with_reducible refine bl_call ?_ (by assumption)))⟩
    · have HX : Hid (R = (op == 0 && ln == 0)) := by show _ = _; rw [HL.out, if_neg (by omega), if_neg (by omega), if_neg (by omega)]
      clear HL HC HO
      rcases hx with rfl | rfl | rfl | rfl | rfl | rfl | rfl
      · go_enter Tryz.func51, Tryz.ntmps51
        go_wp2_with (first | (go_at_call 85; refine (HW.out _ (by (repeat (first | with_reducible exact Below.refl _ _ | with_reducible assumption | with_reducible refine bl_set (by first | exact Nat.le_refl _ | (simp; done) | (simp; omega) | omega) ?_ _ | with_reducible refine bl_alloc ?_ _ | with_reducible refine bl_drewN ?_ _ | with_reducible refine bl_drew ?_ | with_reducible refine bl_grow ?_ _ _ | with_reducible refine bl_call ?_ (by assumption)))) 4 (by omega)).mono ?_; rintro e w1 ⟨rfl, rfl⟩; simp only [Stil.listWords, List.getD_cons_succ, List.getD_cons_zero]) | (go_at_call 86; refine (HN.out _).mono ?_; rintro e w2 ⟨rfl, hb⟩))
        go_ret
        exact ⟨ret_bool HX.out.symm, by (repeat (first | with_reducible exact Below.refl _ _ | with_reducible assumption | with_reducible refine bl_set (by first | exact Nat.le_refl _ | (simp; done) | (simp; omega) | omega) ?_ _ | with_reducible refine bl_alloc ?_ _ | with_reducible refine bl_drewN ?_ _ | with_reducible refine bl_drew ?_ | with_reducible refine bl_grow ?_ _ _ | with_reducible refine bl_call ?_ (by assumption)))⟩
      · go_enter Tryz.func51, Tryz.ntmps51
        go_wp2_with (first | (go_at_call 85; refine (HW.out _ (by (repeat (first | with_reducible exact Below.refl _ _ | with_reducible assumption | with_reducible refine bl_set (by first | exact Nat.le_refl _ | (simp; done) | (simp; omega) | omega) ?_ _ | with_reducible refine bl_alloc ?_ _ | with_reducible refine bl_drewN ?_ _ | with_reducible refine bl_drew ?_ | with_reducible refine bl_grow ?_ _ _ | with_reducible refine bl_call ?_ (by assumption)))) 5 (by omega)).mono ?_; rintro e w1 ⟨rfl, rfl⟩; simp only [Stil.listWords, List.getD_cons_succ, List.getD_cons_zero]) | (go_at_call 86; refine (HN.out _).mono ?_; rintro e w2 ⟨rfl, hb⟩))
        go_ret
        exact ⟨ret_bool HX.out.symm, by (repeat (first | with_reducible exact Below.refl _ _ | with_reducible assumption | with_reducible refine bl_set (by first | exact Nat.le_refl _ | (simp; done) | (simp; omega) | omega) ?_ _ | with_reducible refine bl_alloc ?_ _ | with_reducible refine bl_drewN ?_ _ | with_reducible refine bl_drew ?_ | with_reducible refine bl_grow ?_ _ _ | with_reducible refine bl_call ?_ (by assumption)))⟩
      · go_enter Tryz.func51, Tryz.ntmps51
        go_wp2_with (first | (go_at_call 85; refine (HW.out _ (by (repeat (first | with_reducible exact Below.refl _ _ | with_reducible assumption | with_reducible refine bl_set (by first | exact Nat.le_refl _ | (simp; done) | (simp; omega) | omega) ?_ _ | with_reducible refine bl_alloc ?_ _ | with_reducible refine bl_drewN ?_ _ | with_reducible refine bl_drew ?_ | with_reducible refine bl_grow ?_ _ _ | with_reducible refine bl_call ?_ (by assumption)))) 6 (by omega)).mono ?_; rintro e w1 ⟨rfl, rfl⟩; simp only [Stil.listWords, List.getD_cons_succ, List.getD_cons_zero]) | (go_at_call 86; refine (HN.out _).mono ?_; rintro e w2 ⟨rfl, hb⟩))
        go_ret
        exact ⟨ret_bool HX.out.symm, by (repeat (first | with_reducible exact Below.refl _ _ | with_reducible assumption | with_reducible refine bl_set (by first | exact Nat.le_refl _ | (simp; done) | (simp; omega) | omega) ?_ _ | with_reducible refine bl_alloc ?_ _ | with_reducible refine bl_drewN ?_ _ | with_reducible refine bl_drew ?_ | with_reducible refine bl_grow ?_ _ _ | with_reducible refine bl_call ?_ (by assumption)))⟩
      · go_enter Tryz.func51, Tryz.ntmps51
        go_wp2_with (first | (go_at_call 85; refine (HW.out _ (by (repeat (first | with_reducible exact Below.refl _ _ | with_reducible assumption | with_reducible refine bl_set (by first | exact Nat.le_refl _ | (simp; done) | (simp; omega) | omega) ?_ _ | with_reducible refine bl_alloc ?_ _ | with_reducible refine bl_drewN ?_ _ | with_reducible refine bl_drew ?_ | with_reducible refine bl_grow ?_ _ _ | with_reducible refine bl_call ?_ (by assumption)))) 7 (by omega)).mono ?_; rintro e w1 ⟨rfl, rfl⟩; simp only [Stil.listWords, List.getD_cons_succ, List.getD_cons_zero]) | (go_at_call 86; refine (HN.out _).mono ?_; rintro e w2 ⟨rfl, hb⟩))
        go_ret
        exact ⟨ret_bool HX.out.symm, by (repeat (first | with_reducible exact Below.refl _ _ | with_reducible assumption | with_reducible refine bl_set (by first | exact Nat.le_refl _ | (simp; done) | (simp; omega) | omega) ?_ _ | with_reducible refine bl_alloc ?_ _ | with_reducible refine bl_drewN ?_ _ | with_reducible refine bl_drew ?_ | with_reducible refine bl_grow ?_ _ _ | with_reducible refine bl_call ?_ (by assumption)))⟩
      · go_enter Tryz.func51, Tryz.ntmps51
        go_wp2_with (first | (go_at_call 85; refine (HW.out _ (by (repeat (first | with_reducible exact Below.refl _ _ | with_reducible assumption | with_reducible refine bl_set (by first | exact Nat.le_refl _ | (simp; done) | (simp; omega) | omega) ?_ _ | with_reducible refine bl_alloc ?_ _ | with_reducible refine bl_drewN ?_ _ | with_reducible refine bl_drew ?_ | with_reducible refine bl_grow ?_ _ _ | with_reducible refine bl_call ?_ (by assumption)))) 8 (by omega)).mono ?_; rintro e w1 ⟨rfl, rfl⟩; simp only [Stil.listWords, List.getD_cons_succ, List.getD_cons_zero]) | (go_at_call 86; refine (HN.out _).mono ?_; rintro e w2 ⟨rfl, hb⟩))
        go_ret
        exact ⟨ret_bool HX.out.symm, by (repeat (first | with_reducible exact Below.refl _ _ | with_reducible assumption | with_reducible refine bl_set (by first | exact Nat.le_refl _ | (simp; done) | (simp; omega) | omega) ?_ _ | with_reducible refine bl_alloc ?_ _ | with_reducible refine bl_drewN ?_ _ | with_reducible refine bl_drew ?_ | with_reducible refine bl_grow ?_ _ _ | with_reducible refine bl_call ?_ (by assumption)))⟩
      · go_enter Tryz.func51, Tryz.ntmps51
        go_wp2_with (first | (go_at_call 85; refine (HW.out _ (by (repeat (first | with_reducible exact Below.refl _ _ | with_reducible assumption | with_reducible refine bl_set (by first | exact Nat.le_refl _ | (simp; done) | (simp; omega) | omega) ?_ _ | with_reducible refine bl_alloc ?_ _ | with_reducible refine bl_drewN ?_ _ | with_reducible refine bl_drew ?_ | with_reducible refine bl_grow ?_ _ _ | with_reducible refine bl_call ?_ (by assumption)))) 9 (by omega)).mono ?_; rintro e w1 ⟨rfl, rfl⟩; simp only [Stil.listWords, List.getD_cons_succ, List.getD_cons_zero]) | (go_at_call 86; refine (HN.out _).mono ?_; rintro e w2 ⟨rfl, hb⟩))
        go_ret
        exact ⟨ret_bool HX.out.symm, by (repeat (first | with_reducible exact Below.refl _ _ | with_reducible assumption | with_reducible refine bl_set (by first | exact Nat.le_refl _ | (simp; done) | (simp; omega) | omega) ?_ _ | with_reducible refine bl_alloc ?_ _ | with_reducible refine bl_drewN ?_ _ | with_reducible refine bl_drew ?_ | with_reducible refine bl_grow ?_ _ _ | with_reducible refine bl_call ?_ (by assumption)))⟩
      · go_enter Tryz.func51, Tryz.ntmps51
        go_wp2_with (first | (go_at_call 85; refine (HW.out _ (by (repeat (first | with_reducible exact Below.refl _ _ | with_reducible assumption | with_reducible refine bl_set (by first | exact Nat.le_refl _ | (simp; done) | (simp; omega) | omega) ?_ _ | with_reducible refine bl_alloc ?_ _ | with_reducible refine bl_drewN ?_ _ | with_reducible refine bl_drew ?_ | with_reducible refine bl_grow ?_ _ _ | with_reducible refine bl_call ?_ (by assumption)))) 11 (by omega)).mono ?_; rintro e w1 ⟨rfl, rfl⟩; simp only [Stil.listWords, List.getD_cons_succ, List.getD_cons_zero]) | (go_at_call 86; refine (HN.out _).mono ?_; rintro e w2 ⟨rfl, hb⟩))
        go_ret
        exact ⟨ret_bool HX.out.symm, by (repeat (first | with_reducible exact Below.refl _ _ | with_reducible assumption | with_reducible refine bl_set (by first | exact Nat.le_refl _ | (simp; done) | (simp; omega) | omega) ?_ _ | with_reducible refine bl_alloc ?_ _ | with_reducible refine bl_drewN ?_ _ | with_reducible refine bl_drew ?_ | with_reducible refine bl_grow ?_ _ _ | with_reducible refine bl_call ?_ (by assumption)))⟩
set_option maxHeartbeats 2000000 in
set_option maxRecDepth 100000 in
theorem i_sureNeeds (c : Int) (w : World) :
    Calls Tryz.prog 54 #[.int .i64 c] w fun e w' => e = .returned (.int .i64 (Stil.needs c)) ∧ w' = w := by
  obtain ⟨R, hR⟩ : ∃ R, R = Stil.needs c := ⟨_, rfl⟩
  have HR : Hid (R = Stil.needs c) := hR
  rw [← hR]
  clear hR
  go_enter Tryz.func54, Tryz.ntmps54
  go_wp2
  all_goals go_ret
  all_goals refine ⟨ret_int ?_, rfl⟩
  all_goals (rw [HR.out]; go_light; (try simp only [beq_iff_eq, beq_eq_false_iff_ne] at *); simp [Stil.needs, *]; try omega)
end Go.Proofs.YtpaljcoojkbhnaaGreatDoor
