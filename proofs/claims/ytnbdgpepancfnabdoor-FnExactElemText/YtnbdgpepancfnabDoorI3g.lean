/- Contracts of the program's chapter 2, seventh part: ElemIsContact and ElemIsCoil. -/
import Derived.Test.YtnbdgpepancfnabDoorI3f
namespace Go.Proofs.YtnbdgpepancfnabDoor
open Go.RowKit Go.Sort Go.BigFrame
set_option maxHeartbeats 400000 in
set_option maxRecDepth 100000 in
theorem i_isContactOp (op : Int) (w : World) :
    Calls Tryd.prog 38 #[.int .i64 op] w fun e w' => e = .returned (.bool (decide (1 ≤ op ∧ op ≤ 10))) ∧ w' = w := by
  by_cases h1 : 1 ≤ op
  · by_cases h2 : op ≤ 10
    · have h2' : decide (op ≤ 10) = true := by simpa using h2
      go_enter Tryd.func38, Tryd.ntmps38
      go_wp2
      all_goals go_ret
      all_goals exact ⟨ret_bool (by first | (simp; done) | (simp; omega)), rfl⟩
    · have h2' : decide (op ≤ 10) = false := by simpa using h2
      go_enter Tryd.func38, Tryd.ntmps38
      go_wp2
      all_goals go_ret
      all_goals exact ⟨ret_bool (by first | (simp; done) | (simp; omega)), rfl⟩
  · have h1' : decide (1 ≤ op) = false := by simpa using h1
    go_enter Tryd.func38, Tryd.ntmps38
    go_wp2
    all_goals go_ret
    all_goals exact ⟨ret_bool (by first | (simp; done) | (simp; omega)), rfl⟩
theorem no_contact {op : Int} {ds : List Stil.Dev} (h : ¬ (1 ≤ op ∧ op ≤ 10)) : Stil.isContact op ds = false := by unfold Stil.isContact; rw [if_pos (by omega)]
set_option maxHeartbeats 400000 in
set_option maxRecDepth 100000 in
theorem i_isContact (op : Int) (v : Value) (ds : List Stil.Dev) (w : World) (hr : RowsAt w) (hat : DevsAt w v ds) (hfit : ∀ d ∈ ds, d.fits) (hl : ds.length ≤ 9223372036854775807) :
    Calls Tryd.prog 26 #[.agg #[.int .i64 op, v]] w fun e w' => e = .returned (.bool (Stil.isContact op ds)) ∧ Below w.heap.size w w' := by
  by_cases h : 1 ≤ op ∧ op ≤ 10
  · obtain ⟨q0, q1, q2⟩ := contact_ways op h.1 h.2
    have HF : Hid (∀ W, Below w.heap.size w W → Calls Tryd.prog 20 #[.agg #[.int .i64 op, v]] W fun e w' => e = .returned (.bool (Stil.isContact op ds)) ∧ Below W.heap.size W w') := by
      intro W hW
      rw [← q2]
      exact i_fits op _ _ v ds W (hr.below hW) q0 q1 (hat.below hW) hfit hl
    obtain ⟨a, cap, rfl, _⟩ := hat
    have hd : decide (1 ≤ op ∧ op ≤ 10) = true := by simpa using h
    clear q0 q1 q2 hr h
    go_enter Tryd.func26, Tryd.ntmps26
    go_wp2_with (first | (go_at_call 38; refine (i_isContactOp _ _).mono ?_; rw [hd]; rintro e w1 ⟨rfl, rfl⟩) | (go_at_call 20; refine (HF.out _ (below_alloc _ _)).mono ?_; rintro e w2 ⟨rfl, hb⟩))
    go_ret
    exact ⟨rfl, below_two hb⟩
  · have HN : Hid (Stil.isContact op ds = false) := no_contact h
    obtain ⟨a, cap, rfl, _⟩ := hat
    have hd : decide (1 ≤ op ∧ op ≤ 10) = false := by simpa using h
    clear hr h
    go_enter Tryd.func26, Tryd.ntmps26
    go_wp2_with (go_at_call 38; refine (i_isContactOp _ _).mono ?_; rw [hd]; rintro e w1 ⟨rfl, rfl⟩)
    go_ret
    exact ⟨ret_bool HN.out.symm, below_alloc _ _⟩
set_option maxHeartbeats 400000 in
set_option maxRecDepth 100000 in
theorem i_isCoilOp (op : Int) (w : World) :
    Calls Tryd.prog 19 #[.int .i64 op] w fun e w' => e = .returned (.bool (decide (21 ≤ op ∧ op ≤ 37))) ∧ w' = w := by
  by_cases h1 : 21 ≤ op
  · by_cases h2 : op ≤ 37
    · have h2' : decide (op ≤ 37) = true := by simpa using h2
      go_enter Tryd.func19, Tryd.ntmps19
      go_wp2
      all_goals go_ret
      all_goals exact ⟨ret_bool (by first | (simp; done) | (simp; omega)), rfl⟩
    · have h2' : decide (op ≤ 37) = false := by simpa using h2
      go_enter Tryd.func19, Tryd.ntmps19
      go_wp2
      all_goals go_ret
      all_goals exact ⟨ret_bool (by first | (simp; done) | (simp; omega)), rfl⟩
  · have h1' : decide (21 ≤ op) = false := by simpa using h1
    go_enter Tryd.func19, Tryd.ntmps19
    go_wp2
    all_goals go_ret
    all_goals exact ⟨ret_bool (by first | (simp; done) | (simp; omega)), rfl⟩
theorem no_coil {op : Int} {ds : List Stil.Dev} (h : ¬ (21 ≤ op ∧ op ≤ 37)) : Stil.isCoil op ds = false := by unfold Stil.isCoil; rw [if_pos (by omega)]
set_option maxHeartbeats 400000 in
set_option maxRecDepth 100000 in
theorem i_isCoil (op : Int) (v : Value) (ds : List Stil.Dev) (w : World) (hr : RowsAt w) (hat : DevsAt w v ds) (hfit : ∀ d ∈ ds, d.fits) (hl : ds.length ≤ 9223372036854775807) :
    Calls Tryd.prog 8 #[.agg #[.int .i64 op, v]] w fun e w' => e = .returned (.bool (Stil.isCoil op ds)) ∧ Below w.heap.size w w' := by
  by_cases h : 21 ≤ op ∧ op ≤ 37
  · obtain ⟨q0, q1, q2⟩ := coil_ways op h.1 h.2
    have HF : Hid (∀ W, Below w.heap.size w W → Calls Tryd.prog 20 #[.agg #[.int .i64 op, v]] W fun e w' => e = .returned (.bool (Stil.isCoil op ds)) ∧ Below W.heap.size W w') := by
      intro W hW
      rw [← q2]
      exact i_fits op _ _ v ds W (hr.below hW) q0 q1 (hat.below hW) hfit hl
    obtain ⟨a, cap, rfl, _⟩ := hat
    have hd : decide (21 ≤ op ∧ op ≤ 37) = true := by simpa using h
    clear q0 q1 q2 hr h
    go_enter Tryd.func8, Tryd.ntmps8
    go_wp2_with (first | (go_at_call 19; refine (i_isCoilOp _ _).mono ?_; rw [hd]; rintro e w1 ⟨rfl, rfl⟩) | (go_at_call 20; refine (HF.out _ (below_alloc _ _)).mono ?_; rintro e w2 ⟨rfl, hb⟩))
    go_ret
    exact ⟨rfl, below_two hb⟩
  · have HN : Hid (Stil.isCoil op ds = false) := no_coil h
    obtain ⟨a, cap, rfl, _⟩ := hat
    have hd : decide (21 ≤ op ∧ op ≤ 37) = false := by simpa using h
    clear hr h
    go_enter Tryd.func8, Tryd.ntmps8
    go_wp2_with (go_at_call 19; refine (i_isCoilOp _ _).mono ?_; rw [hd]; rintro e w1 ⟨rfl, rfl⟩)
    go_ret
    exact ⟨ret_bool HN.out.symm, below_alloc _ _⟩
end Go.Proofs.YtnbdgpepancfnabDoor
