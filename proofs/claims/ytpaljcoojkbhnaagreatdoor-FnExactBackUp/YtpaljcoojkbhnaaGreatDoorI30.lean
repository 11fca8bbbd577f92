/- Contracts of the program's chapters 5 and 6: ListOk, and the verifier's rules. -/
import Derived.Test.YtpaljcoojkbhnaaGreatDoorFR7
import Derived.Test.YtpaljcoojkbhnaaGreatDoorS21
import Derived.Test.YtpaljcoojkbhnaaGreatDoorKd
import Derived.Test.YtpaljcoojkbhnaaGreatDoorS25
set_option maxHeartbeats 4000000
set_option maxRecDepth 100000
namespace Go.Proofs.YtpaljcoojkbhnaaGreatDoor
open Go.RowKit Go.Sort Go.BigFrame
theorem i_listOk (i : Stil.Inst) (av : Value) (w : World) (hr : RowsAt w) (hw : LWordsAt w) (hav : DevsAt w av i.one.args) (hf : i.fits) :
  Calls Tryz.prog 51 #[.agg #[.int .i64 i.code, .int .i64 i.one.op, av]] w fun e w' => e = .returned (.bool (Stil.listOk i)) ∧ Below w.heap.size w w' := by
 obtain ⟨c, op, ds⟩ := i
 simp only at hav hf ⊢
 have hla : ds.length ≤ 1048576 := hf.2.2.1
 have HC : Hid (∀ W, Below w.heap.size w W → Calls Tryz.prog 83 #[.agg #[.int .i64 op, av]] W fun e w' => e = .returned (.bool (Stil.isContact op ds)) ∧ Below W.heap.size W w') := fun W hW => i_isContact op av ds W (hr.below hW) (hav.below hW) hf.2.2.2 (by omega)
 have HO : Hid (∀ W, Below w.heap.size w W → Calls Tryz.prog 84 #[.agg #[.int .i64 op, av]] W fun e w' => e = .returned (.bool (Stil.isCoil op ds)) ∧ Below W.heap.size W w') := fun W hW => i_isCoil op av ds W (hr.below hW) (hav.below hW) hf.2.2.2 (by omega)
 have HW : Hid (∀ W, Below w.heap.size w W → ∀ k : Nat, k < 12 → Calls Tryz.prog 85 #[.int .i64 k] W fun e w' => e = .returned (.string ⟨(Stil.listWords.getD k []).toArray⟩) ∧ w' = W) := fun W hW k hk => i_listWord k W (hw.below hW) hk
 have HL : Hid (Stil.listOk ⟨c, op, ds⟩ = if c < 1 ∨ 11 < c then false else if c ≤ 3 then Stil.isContact op ds else if c = 10 then Stil.isCoil op ds else (op == 0 && ds.length == 0)) := rfl
 obtain ⟨p0, r0, rfl, _⟩ := hav
 obtain ⟨R, hR⟩ : ∃ R, R = Stil.listOk ⟨c, op, ds⟩ := ⟨_, rfl⟩
 obtain ⟨q1, hq1⟩ : ∃ q, q = Stil.isContact op ds := ⟨_, rfl⟩
 obtain ⟨q2, hq2⟩ : ∃ q, q = Stil.isCoil op ds := ⟨_, rfl⟩
 obtain ⟨ln, hln⟩ : ∃ ln, ln = ds.length := ⟨_, rfl⟩
 rw [← hR] at HL ⊢
 rw [← hq1] at HL HC
 rw [← hq2] at HL HO
 rw [← hln] at HL HC HO hla ⊢
 have HN : Hid (∀ W, Calls Tryz.prog 86 #[.agg #[.int .i64 op, .slice p0 ln r0]] W fun e w' => e = .returned (.bool (op == 0 && ln == 0)) ∧ Below W.heap.size W w') := fun W => i_isNothing _ _ _ _ _ (by omega)
 clear hR hq1 hq2 hf hln hr hw
 by_cases h1 : c < 0 ∨ 11 < c
 ·have HX : Hid (R = false) := by show _ = _; rw [HL.out, if_pos (by omega)]
  have e1 : (c == 1) = false := by rw [beq_eq_false_iff_ne]; omega
  have e2 : (c == 2) = false := by rw [beq_eq_false_iff_ne]; omega
  have e3 : (c == 3) = false := by rw [beq_eq_false_iff_ne]; omega
  have e4 : (c == 10) = false := by rw [beq_eq_false_iff_ne]; omega
  have HV : Hid (c < 0 ∨ 12 ≤ c) := by show _ ∨ _; omega
  clear HL HC HO HW h1
  go_enter Tryz.func51, Tryz.ntmps51
  go_wp2_with (go_at_call 85; refine (i_listWord_no _ _ HV.out).mono ?_; rintro e w1 ⟨rfl, rfl⟩)
  go_ret
  exact ⟨ret_bool HX.out.symm, blA⟩
 ·have hx : c = 0 ∨ c = 1 ∨ c = 2 ∨ c = 3 ∨ c = 10 ∨ c = 4 ∨ c = 5 ∨ c = 6 ∨ c = 7 ∨ c = 8 ∨ c = 9 ∨ c = 11 := by omega
  clear h1
  rcases hx with rfl | rfl | rfl | rfl | rfl | hx
  ·have HX : Hid (R = false) := by show _ = _; rw [HL.out, if_pos (by omega)]
   clear HL HC HO HN
   go_enter Tryz.func51, Tryz.ntmps51
   go_wp2_with (go_at_call 85; refine (HW.out _ blA 0 (by omega)).mono ?_; rintro e w1 ⟨rfl, rfl⟩; simp only [Stil.listWords, List.getD_cons_zero])
   go_ret
   exact ⟨ret_bool HX.out.symm, blA⟩
  iterate 3
   ·have HX : Hid (R = q1) := by show _ = _; rw [HL.out, if_neg (by omega), if_pos (by omega)]
    clear HL HW HO HN
    go_enter Tryz.func51, Tryz.ntmps51
    go_wp2_with (go_at_call 83; refine (HC.out _ blA).mono ?_; rintro e w1 ⟨rfl, hb⟩)
    go_ret
    exact ⟨ret_bool HX.out.symm, blA⟩
  ·have HX : Hid (R = q2) := by show _ = _; rw [HL.out, if_neg (by omega), if_neg (by omega), if_pos rfl]
   clear HL HW HC HN
   go_enter Tryz.func51, Tryz.ntmps51
   go_wp2_with (go_at_call 84; refine (HO.out _ blA).mono ?_; rintro e w1 ⟨rfl, hb⟩)
   go_ret
   exact ⟨ret_bool HX.out.symm, blA⟩
  ·have HX : Hid (R = (op == 0 && ln == 0)) := by show _ = _; rw [HL.out, if_neg (by omega), if_neg (by omega), if_neg (by omega)]
   clear HL HC HO
   rcases hx with rfl | rfl | rfl | rfl | rfl | rfl | rfl
   ·go_enter Tryz.func51, Tryz.ntmps51
    go_wp2_with (first | (go_at_call 85; refine (HW.out _ blA 4 (by omega)).mono ?_; rintro e w1 ⟨rfl, rfl⟩; simp only [Stil.listWords, List.getD_cons_succ, List.getD_cons_zero]) | (go_at_call 86; refine (HN.out _).mono ?_; rintro e w2 ⟨rfl, hb⟩))
    go_ret
    exact ⟨ret_bool HX.out.symm, blA⟩
   ·go_enter Tryz.func51, Tryz.ntmps51
    go_wp2_with (first | (go_at_call 85; refine (HW.out _ blA 5 (by omega)).mono ?_; rintro e w1 ⟨rfl, rfl⟩; simp only [Stil.listWords, List.getD_cons_succ, List.getD_cons_zero]) | (go_at_call 86; refine (HN.out _).mono ?_; rintro e w2 ⟨rfl, hb⟩))
    go_ret
    exact ⟨ret_bool HX.out.symm, blA⟩
   ·go_enter Tryz.func51, Tryz.ntmps51
    go_wp2_with (first | (go_at_call 85; refine (HW.out _ blA 6 (by omega)).mono ?_; rintro e w1 ⟨rfl, rfl⟩; simp only [Stil.listWords, List.getD_cons_succ, List.getD_cons_zero]) | (go_at_call 86; refine (HN.out _).mono ?_; rintro e w2 ⟨rfl, hb⟩))
    go_ret
    exact ⟨ret_bool HX.out.symm, blA⟩
   ·go_enter Tryz.func51, Tryz.ntmps51
    go_wp2_with (first | (go_at_call 85; refine (HW.out _ blA 7 (by omega)).mono ?_; rintro e w1 ⟨rfl, rfl⟩; simp only [Stil.listWords, List.getD_cons_succ, List.getD_cons_zero]) | (go_at_call 86; refine (HN.out _).mono ?_; rintro e w2 ⟨rfl, hb⟩))
    go_ret
    exact ⟨ret_bool HX.out.symm, blA⟩
   ·go_enter Tryz.func51, Tryz.ntmps51
    go_wp2_with (first | (go_at_call 85; refine (HW.out _ blA 8 (by omega)).mono ?_; rintro e w1 ⟨rfl, rfl⟩; simp only [Stil.listWords, List.getD_cons_succ, List.getD_cons_zero]) | (go_at_call 86; refine (HN.out _).mono ?_; rintro e w2 ⟨rfl, hb⟩))
    go_ret
    exact ⟨ret_bool HX.out.symm, blA⟩
   ·go_enter Tryz.func51, Tryz.ntmps51
    go_wp2_with (first | (go_at_call 85; refine (HW.out _ blA 9 (by omega)).mono ?_; rintro e w1 ⟨rfl, rfl⟩; simp only [Stil.listWords, List.getD_cons_succ, List.getD_cons_zero]) | (go_at_call 86; refine (HN.out _).mono ?_; rintro e w2 ⟨rfl, hb⟩))
    go_ret
    exact ⟨ret_bool HX.out.symm, blA⟩
   ·go_enter Tryz.func51, Tryz.ntmps51
    go_wp2_with (first | (go_at_call 85; refine (HW.out _ blA 11 (by omega)).mono ?_; rintro e w1 ⟨rfl, rfl⟩; simp only [Stil.listWords, List.getD_cons_succ, List.getD_cons_zero]) | (go_at_call 86; refine (HN.out _).mono ?_; rintro e w2 ⟨rfl, hb⟩))
    go_ret
    exact ⟨ret_bool HX.out.symm, blA⟩
theorem i_rule0 (b f : Int) (sn cl : Bool) (i : Stil.Inst) (av : Value) (w : World) (hr : RowsAt w) (hw : LWordsAt w) (hav : DevsAt w av i.one.args) (hf : i.fits) :
  Calls Tryz.prog 121 #[.agg #[.int .i64 b, .int .i64 f, .bool sn, .bool cl], .agg #[.int .i64 i.code, .int .i64 i.one.op, av]] w fun e w' => e = .returned (.bool (Stil.rule 0 ⟨b, f, sn, cl⟩ i)) ∧ Below w.heap.size w w' := by
 have HK : Hid (∀ W, Below w.heap.size w W → Calls Tryz.prog 51 #[.agg #[.int .i64 i.code, .int .i64 i.one.op, av]] W fun e w' => e = .returned (.bool (Stil.listOk i)) ∧ Below W.heap.size W w') := fun W hW => i_listOk i av W (hr.below hW) (hw.below hW) (hav.below hW) hf
 have HX : Hid (Stil.rule 0 ⟨b, f, sn, cl⟩ i = !Stil.listOk i) := rfl
 obtain ⟨p0, r0, rfl, _⟩ := hav
 clear hr hw hf
 go_enter Tryz.func121, Tryz.ntmps121
 go_wp2_with (go_at_call 51; refine (HK.out _ blA).mono ?_; rintro e w1 ⟨rfl, hb⟩)
 go_ret
 exact ⟨ret_bool HX.out.symm, blA⟩
theorem i_sureNeeds (c : Int) (w : World) :
  Calls Tryz.prog 54 #[.int .i64 c] w fun e w' => e = .returned (.int .i64 (Stil.needs c)) ∧ w' = w := by
 obtain ⟨R, hR⟩ : ∃ R, R = Stil.needs c := ⟨_, rfl⟩
 have HR : Hid (R = Stil.needs c) := hR
 rw [← hR]
 clear hR
 go_enter Tryz.func54, Tryz.ntmps54
 go_wp2
 all_goals go_ret
 all_goals refine ⟨ret_int ?_, rfl⟩
 all_goals (rw [HR.out]; go_light; (try simp only [beq_iff_eq, beq_eq_false_iff_ne] at *); simp [Stil.needs, *]; try omega)
theorem i_rule1 (b f : Int) (sn cl : Bool) (i : Stil.Inst) (p : Option Addr) (n cap : Nat) (w : World) :
  Calls Tryz.prog 122 #[.agg #[.int .i64 b, .int .i64 f, .bool sn, .bool cl], .agg #[.int .i64 i.code, .int .i64 i.one.op, .slice p n cap]] w fun e w' => e = .returned (.bool (Stil.rule 1 ⟨b, f, sn, cl⟩ i)) ∧ Below w.heap.size w w' := by
 obtain ⟨c, op, ds⟩ := i
 simp only
 obtain ⟨R, hR⟩ : ∃ R, R = Stil.rule 1 ⟨b, f, sn, cl⟩ ⟨c, op, ds⟩ := ⟨_, rfl⟩
 have HR : Hid (R = decide (b < Stil.needs c)) := hR
 obtain ⟨nd, hnd⟩ : ∃ nd, nd = Stil.needs c := ⟨_, rfl⟩
 have HN : Hid (∀ W, Calls Tryz.prog 54 #[.int .i64 c] W fun e w' => e = .returned (.int .i64 nd) ∧ w' = W) := by rw [hnd]; exact fun W => i_sureNeeds c W
 rw [← hnd] at HR
 rw [← hR]
 clear hR hnd
 cases sn <;> cases cl
 all_goals (
  go_enter Tryz.func122, Tryz.ntmps122
  go_upto_region 1 with fail
  go_region_with (go_at_call 54; refine (HN.out _).mono ?_; rintro e w1 ⟨rfl, rfl⟩)
  all_goals (try go_wp2)
  all_goals go_ret
  all_goals refine ⟨ret_bool ?_, blA⟩
  all_goals (rw [HR.out]))
theorem i_rule2 (b f : Int) (sn cl : Bool) (i : Stil.Inst) (p : Option Addr) (n cap : Nat) (w : World) :
  Calls Tryz.prog 123 #[.agg #[.int .i64 b, .int .i64 f, .bool sn, .bool cl], .agg #[.int .i64 i.code, .int .i64 i.one.op, .slice p n cap]] w fun e w' => e = .returned (.bool (Stil.rule 2 ⟨b, f, sn, cl⟩ i)) ∧ Below w.heap.size w w' := by
 obtain ⟨c, op, ds⟩ := i
 simp only
 obtain ⟨R, hR⟩ : ∃ R, R = Stil.rule 2 ⟨b, f, sn, cl⟩ ⟨c, op, ds⟩ := ⟨_, rfl⟩
 have HR : Hid (R = Stil.rule 2 ⟨b, f, sn, cl⟩ ⟨c, op, ds⟩) := hR
 rw [← hR]
 clear hR
 cases sn <;> cases cl
 all_goals (
  go_enter Tryz.func123, Tryz.ntmps123
  go_wp2
  all_goals go_ret
  all_goals refine ⟨ret_bool ?_, blA⟩
  all_goals (rw [HR.out]; go_light; (try simp only [beq_iff_eq, beq_eq_false_iff_ne] at *); rw [Bool.eq_iff_iff]; simp [Stil.rule, *]; try omega))
theorem i_rule3 (b f : Int) (sn cl : Bool) (i : Stil.Inst) (p : Option Addr) (n cap : Nat) (w : World) :
  Calls Tryz.prog 124 #[.agg #[.int .i64 b, .int .i64 f, .bool sn, .bool cl], .agg #[.int .i64 i.code, .int .i64 i.one.op, .slice p n cap]] w fun e w' => e = .returned (.bool (Stil.rule 3 ⟨b, f, sn, cl⟩ i)) ∧ Below w.heap.size w w' := by
 obtain ⟨c, op, ds⟩ := i
 simp only
 obtain ⟨R, hR⟩ : ∃ R, R = Stil.rule 3 ⟨b, f, sn, cl⟩ ⟨c, op, ds⟩ := ⟨_, rfl⟩
 have HR : Hid (R = Stil.rule 3 ⟨b, f, sn, cl⟩ ⟨c, op, ds⟩) := hR
 rw [← hR]
 clear hR
 cases sn <;> cases cl
 all_goals (
  go_enter Tryz.func124, Tryz.ntmps124
  go_wp2
  all_goals go_ret
  all_goals refine ⟨ret_bool ?_, blA⟩
  all_goals (rw [HR.out]; go_light; (try simp only [beq_iff_eq, beq_eq_false_iff_ne] at *); rw [Bool.eq_iff_iff]; simp [Stil.rule, *]; try omega))
theorem i_rule4 (b f : Int) (sn cl : Bool) (i : Stil.Inst) (p : Option Addr) (n cap : Nat) (w : World) :
  Calls Tryz.prog 125 #[.agg #[.int .i64 b, .int .i64 f, .bool sn, .bool cl], .agg #[.int .i64 i.code, .int .i64 i.one.op, .slice p n cap]] w fun e w' => e = .returned (.bool (Stil.rule 4 ⟨b, f, sn, cl⟩ i)) ∧ Below w.heap.size w w' := by
 obtain ⟨c, op, ds⟩ := i
 simp only
 obtain ⟨R, hR⟩ : ∃ R, R = Stil.rule 4 ⟨b, f, sn, cl⟩ ⟨c, op, ds⟩ := ⟨_, rfl⟩
 have HR : Hid (R = Stil.rule 4 ⟨b, f, sn, cl⟩ ⟨c, op, ds⟩) := hR
 rw [← hR]
 clear hR
 cases sn <;> cases cl
 all_goals (
  go_enter Tryz.func125, Tryz.ntmps125
  go_wp2
  all_goals go_ret
  all_goals refine ⟨ret_bool ?_, blA⟩
  all_goals (rw [HR.out]; go_light; (try simp only [beq_iff_eq, beq_eq_false_iff_ne] at *); rw [Bool.eq_iff_iff]; simp [Stil.rule, *]; try omega))
theorem i_rule5 (b f : Int) (sn cl : Bool) (i : Stil.Inst) (p : Option Addr) (n cap : Nat) (w : World) :
  Calls Tryz.prog 126 #[.agg #[.int .i64 b, .int .i64 f, .bool sn, .bool cl], .agg #[.int .i64 i.code, .int .i64 i.one.op, .slice p n cap]] w fun e w' => e = .returned (.bool (Stil.rule 5 ⟨b, f, sn, cl⟩ i)) ∧ Below w.heap.size w w' := by
 obtain ⟨c, op, ds⟩ := i
 simp only
 obtain ⟨R, hR⟩ : ∃ R, R = Stil.rule 5 ⟨b, f, sn, cl⟩ ⟨c, op, ds⟩ := ⟨_, rfl⟩
 have HR : Hid (R = Stil.rule 5 ⟨b, f, sn, cl⟩ ⟨c, op, ds⟩) := hR
 rw [← hR]
 clear hR
 cases sn <;> cases cl
 all_goals (
  go_enter Tryz.func126, Tryz.ntmps126
  go_wp2
  all_goals go_ret
  all_goals refine ⟨ret_bool ?_, blA⟩
  all_goals (rw [HR.out]; go_light; (try simp only [beq_iff_eq, beq_eq_false_iff_ne] at *); rw [Bool.eq_iff_iff]; simp [Stil.rule, *]; try omega))
theorem i_rule6 (b f : Int) (sn cl : Bool) (i : Stil.Inst) (p : Option Addr) (n cap : Nat) (w : World) :
  Calls Tryz.prog 127 #[.agg #[.int .i64 b, .int .i64 f, .bool sn, .bool cl], .agg #[.int .i64 i.code, .int .i64 i.one.op, .slice p n cap]] w fun e w' => e = .returned (.bool (Stil.rule 6 ⟨b, f, sn, cl⟩ i)) ∧ Below w.heap.size w w' := by
 obtain ⟨c, op, ds⟩ := i
 simp only
 obtain ⟨R, hR⟩ : ∃ R, R = Stil.rule 6 ⟨b, f, sn, cl⟩ ⟨c, op, ds⟩ := ⟨_, rfl⟩
 have HR : Hid (R = Stil.rule 6 ⟨b, f, sn, cl⟩ ⟨c, op, ds⟩) := hR
 rw [← hR]
 clear hR
 cases sn <;> cases cl
 all_goals (
  go_enter Tryz.func127, Tryz.ntmps127
  go_wp2
  all_goals go_ret
  all_goals refine ⟨ret_bool ?_, blA⟩
  all_goals (rw [HR.out]; go_light; (try simp only [beq_iff_eq, beq_eq_false_iff_ne] at *); rw [Bool.eq_iff_iff]; simp [Stil.rule, *]; try omega))
end Go.Proofs.YtpaljcoojkbhnaaGreatDoor
/- The specification's chapter 8: BackNet. -/
namespace Go.Proofs.YtpaljcoojkbhnaaGreatDoor
open Go.RowKit Go.Sort Go.BigFrame
theorem zero_own (w : World) (base : Nat) : MOwn w base ⟨0, 0, [], .slice none 0 0, .slice none 0 0, []⟩ := (MRow.nil w base).net 0 0 [] (World.ownsRow_nil _ _ _ _) (fun x _ => aside_nil x)
theorem zero_net : (MNet.mk 0 0 [] (.slice none 0 0) (.slice none 0 0) []).net = Stil.netZero := by rw [MNet.net_eq]; rfl
end Go.Proofs.YtpaljcoojkbhnaaGreatDoor
/- I28: texts put together. -/
/- The program's chapter 8: the one net that instructions leave. -/
namespace Go.Proofs.YtpaljcoojkbhnaaGreatDoor
open Go.RowKit Go.Sort Go.BigFrame
set_option maxHeartbeats 1000000 in
theorem i_isNetCode (c : Int) (w : World) :
  Calls Tryz.prog 52 #[.int .i64 c] w fun e w' => e = .returned (.bool (decide (1 ≤ c ∧ c ≤ 6))) ∧ w' = w := by
 obtain ⟨R, hR⟩ : ∃ R, R = decide (1 ≤ c ∧ c ≤ 6) := ⟨_, rfl⟩
 have HR : Hid (R = decide (1 ≤ c ∧ c ≤ 6)) := hR
 rw [← hR]
 clear hR
 by_cases h1 : 1 ≤ c
 ·by_cases h2 : c ≤ 6
  ·go_enter Tryz.func52, Tryz.ntmps52
   go_wp2
   go_ret
   exact ⟨by rw [HR.out, decide_eq_true (by omega)]; rfl, rfl⟩
  ·go_enter Tryz.func52, Tryz.ntmps52
   go_wp2
   go_ret
   exact ⟨by rw [HR.out, decide_eq_false (by omega)]; rfl, rfl⟩
 ·go_enter Tryz.func52, Tryz.ntmps52
  go_wp2
  go_ret
  exact ⟨by rw [HR.out, decide_eq_false (by omega)]; rfl, rfl⟩
end Go.Proofs.YtpaljcoojkbhnaaGreatDoor
/- The program's chapter 8: the reader of a verified list: the instruction that it takes away. -/
namespace Go.Proofs.YtpaljcoojkbhnaaGreatDoor
open Go.RowKit Go.Sort Go.BigFrame
/-- A list in memory, from an address on. -/
def LAt (w0 : World) (b o : Nat) (L : List Stil.Inst) : Prop := (L ≠ [] → b < w0.heap.size) ∧ ∀ i (h : i < L.length), InstAt w0 b (o + i * 3) L[i]
theorem LAt.lt {w0 : World} {b o i : Nat} {L : List Stil.Inst} (h : LAt w0 b o L) (hi : i < L.length) : b < w0.heap.size := h.1 (fun e => by rw [e] at hi; simp at hi)
/-- The reader in its block, the first that is new since w0: what is left of the list. -/
structure Rd9 (w0 w : World) (b o : Nat) (L l : List Stil.Inst) : Prop where
 bel : Below w0.heap.size w0 w
 lt : w0.heap.size < w.heap.size
 c0 : ∃ (cap : Nat) (q : Addr), l.length ≤ cap ∧ w.cell? ⟨w0.heap.size, 0, none⟩ = some (.slice (some q) l.length cap) ∧ (l ≠ [] → q = ⟨b, o + (L.length - l.length) * 3, none⟩)
 f0 : w.frozen? ⟨w0.heap.size, 0, none⟩ = false
 suf : l <:+ L
theorem Rd9.below {w0 w w' : World} {b o n : Nat} {L l : List Stil.Inst} (h : Rd9 w0 w b o L l) (hb : Below n w w') (hn : w0.heap.size < n) : Rd9 w0 w' b o L l := by
 obtain ⟨cap, q, hc, c0, hq⟩ := h.c0
 exact ⟨h.bel.trans (hb.mono (Nat.le_of_lt hn)), Nat.lt_of_lt_of_le h.lt hb.size, ⟨cap, q, hc, (hb.cell (p := ⟨w0.heap.size, 0, none⟩) hn).trans c0, hq⟩, (hb.frozen (p := ⟨w0.heap.size, 0, none⟩) hn).trans h.f0, h.suf⟩
theorem Rd9.grown {w0 w w' : World} {b o : Nat} {L l : List Stil.Inst} {r : Option Nat} (h : Rd9 w0 w b o L l) (hg : w.grownBy w' r) (hr : ∀ q, r = some q → w0.heap.size < q) : Rd9 w0 w' b o L l := by
 have hne : r ≠ some w0.heap.size := fun e => Nat.lt_irrefl _ (hr _ e)
 obtain ⟨cap, q, hc, c0, hq⟩ := h.c0
 exact ⟨⟨hg.os.trans h.bel.os, hg.tape.trans h.bel.tape, hg.output.trans h.bel.output, Nat.le_trans h.bel.size hg.size, fun k hk => (hg.block k (Nat.lt_trans hk h.lt) (fun e => by have := hr k e.symm; omega)).trans (h.bel.block k hk)⟩, Nat.lt_of_lt_of_le h.lt hg.size, ⟨cap, q, hc, (grownO_cell hg h.lt hne).trans c0, hq⟩, (grownO_frozen hg h.lt hne).trans h.f0, h.suf⟩
theorem Rd9.setB {w0 w : World} {b o B p : Nat} {L l : List Stil.Inst} (h : Rd9 w0 w b o L l) (hB : w0.heap.size < B) (v : Value) : Rd9 w0 (w.setCell ⟨B, p, none⟩ v) b o L l :=
 h.below (n := w0.heap.size + 1) ((Below.refl _ _).setCell (p := ⟨B, p, none⟩) hB _) (Nat.lt_succ_self _)
/-- The instruction that the reader stands at. -/
theorem Rd9.inst {w0 w : World} {b o : Nat} {L r : List Stil.Inst} {i : Stil.Inst} (h : Rd9 w0 w b o L (i :: r)) (hat : LAt w0 b o L) : ∃ (J cap : Nat) (av : Value), J < L.length ∧ J = L.length - (i :: r).length ∧ J + 1 = L.length - r.length ∧ r.length + 1 ≤ cap ∧ w.cell? ⟨w0.heap.size, 0, none⟩ = some (.slice (some ⟨b, o + J * 3, none⟩) (r.length + 1) cap) ∧ w.cell? ⟨b, o + J * 3, none⟩ = some (.int .i64 i.code) ∧ w.cell? ⟨b, o + J * 3 + 1, none⟩ = some (.int .i64 i.one.op) ∧ w.cell? ⟨b, o + J * 3 + 2, none⟩ = some av ∧ DevsAt w av i.one.args := by
 obtain ⟨J, h1, h2, hj, rfl⟩ := suffix_at h.suf
 obtain ⟨cap, q, hc, c0, hq⟩ := h.c0
 rw [hq (by simp), ← h1] at c0
 obtain ⟨x0, x1, av, x2, hav⟩ := (hat.2 J hj).below h.bel (hat.lt hj)
 exact ⟨J, cap, av, hj, h1, h2, hc, c0, x0, x1, x2, hav⟩
theorem Rd9.next {w0 w : World} {b o J cap : Nat} {q : Addr} {L r : List Stil.Inst} {i : Stil.Inst} (h : Rd9 w0 w b o L (i :: r)) (hJ : J + 1 = L.length - r.length) (hc : r.length ≤ cap) (hq : r ≠ [] → q = ⟨b, o + J * 3 + 3, none⟩) : Rd9 w0 (w.setCell ⟨w0.heap.size, 0, none⟩ (.slice (some q) r.length cap)) b o L r := by
 obtain ⟨cap0, q0, hc0, c0, _⟩ := h.c0
 refine ⟨h.bel.setCell (p := ⟨w0.heap.size, 0, none⟩) (Nat.le_refl _) _, by simpa using h.lt, ⟨cap, q, hc, cellSetAt c0, fun hne => ?_⟩, frozenS.trans h.f0, (List.suffix_cons i r).trans h.suf⟩
 rw [hq hne, ← hJ, Nat.add_mul]
 rfl
set_option maxHeartbeats 1000000 in
set_option maxRecDepth 100000 in
theorem i_next (L r : List Stil.Inst) (i : Stil.Inst) (b o : Nat) (w0 w : World) (hr : Rd9 w0 w b o L (i :: r)) (hat : LAt w0 b o L) (hl : L.length ≤ 1000) :
  Calls Tryz.prog 102 #[.pointer (some ⟨w0.heap.size, 0, none⟩)] w fun e w' => (∃ (a : Option Addr) (c : Nat), e = .returned (.agg #[.int .i64 i.code, .int .i64 i.one.op, .slice a i.one.args.length c]) ∧ DevsAt w' (.slice a i.one.args.length c) i.one.args) ∧ Rd9 w0 w' b o L r ∧ w.grownBy w' (some w0.heap.size) := by
 obtain ⟨J, cap, av, hJ, hJ1, hJ2, hcap, c0, x0, x1, x2, hav⟩ := hr.inst hat
 have HRD : Hid (Rd9 w0 w b o L (i :: r)) := hr
 have hlt := hr.lt
 have f0 := hr.f0
 have hblt : b < w0.heap.size := hat.lt hJ
 have hb : b < w.heap.size := Nat.lt_trans hblt hlt
 have HJ2 : Hid (J + 1 = L.length - r.length) := hJ2
 have HAV : Hid (∀ W, Below w0.heap.size w0 W → DevsAt W av i.one.args) := fun W h => by
  obtain ⟨_, hj, e⟩ : ∃ (_ : J = J) (hj : J < L.length), L[J] = i := by
   obtain ⟨J', e1, _, hj, e⟩ := suffix_at hr.suf
   have e2 : J' = J := by rw [e1, hJ1]
   subst e2
   exact ⟨rfl, hj, e⟩
  obtain ⟨y0, y1, av', y2, hav'⟩ := (hat.2 J hj).below h (hat.lt hj)
  obtain ⟨z0, z1, av2, z2, hav2⟩ := hat.2 J hj
  have e3 := (hr.bel.cell (p := ⟨b, o + J * 3 + 2, none⟩) (hat.lt hj)).trans z2
  rw [x2] at e3
  injection e3 with e3
  rw [e3, ← e]
  exact hav2.below h
 obtain ⟨ta, ua, rfl, -⟩ := hav
 have hcm : 1 ≤ cap := by omega
 have hrm : r.length + 1 ≤ 1000 := by have := hr.suf.length_le; simp only [List.length_cons] at this; omega
 clear hr hat hJ1 hJ2
 have HFI : Hid (∀ (q : Addr) (c : Nat) (t1 t2 : TypeId), r.length ≤ c → (r ≠ [] → q = ⟨b, o + J * 3 + 3, none⟩) → DevsAt (((w.setCell ⟨w0.heap.size, 0, none⟩ (.slice (some q) r.length c)).alloc (.cells #[.int .i64 i.code, .int .i64 i.one.op, .slice ta i.one.args.length ua] t1)).alloc (.cells #[.int .i64 i.code, .int .i64 i.one.op, .slice ta i.one.args.length ua] t2)) (.slice ta i.one.args.length ua) i.one.args ∧ Rd9 w0 (((w.setCell ⟨w0.heap.size, 0, none⟩ (.slice (some q) r.length c)).alloc (.cells #[.int .i64 i.code, .int .i64 i.one.op, .slice ta i.one.args.length ua] t1)).alloc (.cells #[.int .i64 i.code, .int .i64 i.one.op, .slice ta i.one.args.length ua] t2)) b o L r ∧ w.grownBy (((w.setCell ⟨w0.heap.size, 0, none⟩ (.slice (some q) r.length c)).alloc (.cells #[.int .i64 i.code, .int .i64 i.one.op, .slice ta i.one.args.length ua] t1)).alloc (.cells #[.int .i64 i.code, .int .i64 i.one.op, .slice ta i.one.args.length ua] t2)) (some w0.heap.size)) := fun q c t1 t2 hc hq => by
  have h1 := HRD.out.next HJ2.out hc hq
  have h2 : w.grownBy (w.setCell ⟨w0.heap.size, 0, none⟩ (.slice (some q) r.length c)) (some w0.heap.size) := grown_set (World.grownBy.refl _ _) _ _
  have h3 := (h1.below (below_alloc _ (.cells #[.int .i64 i.code, .int .i64 i.one.op, .slice ta i.one.args.length ua] t1)) h1.lt)
  have h4 := h3.below (below_alloc _ (.cells #[.int .i64 i.code, .int .i64 i.one.op, .slice ta i.one.args.length ua] t2)) h3.lt
  exact ⟨HAV.out _ h4.bel, h4, (h2.trans (grown_of (below_alloc _ _) _)).trans (grown_of (below_alloc _ _) _)⟩
 by_cases hc1 : cap = 1
 ·subst hc1
  have hr0 : r = [] := List.length_eq_zero_iff.1 (by omega)
  subst hr0
  go_enter Tryz.func102, Tryz.ntmps102
  go_wp2
  refine bodyPost_ret (v := .agg #[.int .i64 i.code, .int .i64 i.one.op, .slice ta i.one.args.length ua]) (by simp [results, Tryz.results102, go_sem]) rfl ?_
  have h := HFI.out ⟨b, o + J * 3, none⟩ 0 51 51 (Nat.le_refl _) (fun h => absurd rfl h)
  exact ⟨⟨ta, ua, rfl, h.1⟩, h.2⟩
 ·have hc2 : ¬ (cap - 1 = 0) := by omega
  go_enter Tryz.func102, Tryz.ntmps102
  go_wp2
  refine bodyPost_ret (v := .agg #[.int .i64 i.code, .int .i64 i.one.op, .slice ta i.one.args.length ua]) (by simp [results, Tryz.results102, go_sem]) rfl ?_
  have h := HFI.out ⟨b, o + J * 3 + 3, none⟩ (cap - 1) 51 51 (by omega) (fun _ => rfl)
  exact ⟨⟨ta, ua, rfl, h.1⟩, h.2⟩
end Go.Proofs.YtpaljcoojkbhnaaGreatDoor
