/- The law on TreeSame: the walk. -/
import Derived.Test.YtpeojflemfppgaaGL
import Derived.Test.YtpeojflemfppgaaGU
import Derived.Test.YtpeojflemfppgaaGN
namespace Go.Proofs.Ytpeojflemfppgaa
open Go.RowKit Go.Sort Go.BigFrame
open Classical in
set_option maxHeartbeats 2000000 in
set_option maxRecDepth 100000 in
theorem law_treeSame (v u : Value) (la lb : List Stil.Arm) (w : World) (hav : ArmsAt w v la) (hbv : ArmsAt w u lb) (wfa : ∀ x ∈ la, Stil.armWf x) (wfb : ∀ x ∈ lb, Stil.armWf x) (hla : la.length ≤ 9223372036854775807) (hlb : lb.length ≤ 9223372036854775807) :
    Calls Try.prog 4 #[v, u] w fun e w' => e = .returned (.bool true) ∧ Below w.heap.size w w' := by
  have HA : Hid (∀ W, Below w.heap.size w W → ArmsAt W v la) := fun W h => hav.below h
  have HB : Hid (∀ W, Below w.heap.size w W → ArmsAt W u lb) := fun W h => hbv.below h
  have SA : Hid (∀ W, Below w.heap.size w W → ∀ q, 0 ≤ q → q ≤ 1048576 → Calls Try.prog 6 #[v, .int .i64 q] W fun e w' => e = .returned (.int .i64 (szL q (Stil.armsSz la))) ∧ Below W.heap.size W w') := fun W h q => l_szLadder la wfa hla v q W (hav.below h)
  have SB : Hid (∀ W, Below w.heap.size w W → ∀ q, 0 ≤ q → q ≤ 1048576 → Calls Try.prog 6 #[u, .int .i64 q] W fun e w' => e = .returned (.int .i64 (szL q (Stil.armsSz lb))) ∧ Below W.heap.size W w') := fun W h q => l_szLadder lb wfb hlb u q W (hbv.below h)
  have FA : Hid (Stil.armsSz la ≤ 1048576 → (∀ x ∈ la, Stil.armFits x) ∧ la.length ≤ 1048576) := arms_fit wfa
  have FB : Hid (Stil.armsSz lb ≤ 1048576 → (∀ x ∈ lb, Stil.armFits x) ∧ lb.length ≤ 1048576) := arms_fit wfb
  obtain ⟨p0, r0, rfl, _⟩ := hav
  obtain ⟨p1, r1, rfl, _⟩ := hbv
  obtain ⟨sa, hsa⟩ : ∃ s, s = Stil.armsSz la := ⟨_, rfl⟩
  obtain ⟨sb, hsb⟩ : ∃ s, s = Stil.armsSz lb := ⟨_, rfl⟩
  rw [← hsa] at SA FA
  rw [← hsb] at SB FB
  clear wfa wfb hsa hsb
  by_cases h1 : (1048576 : Int) - sa < 0
  · have HZ : Hid (szL 1048576 sa = -1) := szL_neg h1
    clear h1
    go_enter Try.func4, Try.ntmps4
    go_wp2_with (go_at_call 6; refine (SA.out _ (by (repeat (first | with_reducible exact Below.refl _ _ | with_reducible assumption | with_reducible refine bl_set (by first | exact Nat.le_refl _ | (simp; done) | (simp; omega) | omega) ?_ _ | with_reducible refine bl_alloc ?_ _ | with_reducible refine bl_drewN ?_ _ | with_reducible refine bl_drew ?_ | with_reducible refine bl_grow ?_ _ _ | with_reducible refine bl_call ?_ (by assumption)))) _ (by omega) (by omega)).mono ?_; rw [HZ.out]; rintro e w1 ⟨rfl, hb1⟩)
    go_ret
    exact ⟨rfl, by (repeat (first | with_reducible exact Below.refl _ _ | with_reducible assumption | with_reducible refine bl_set (by first | exact Nat.le_refl _ | (simp; done) | (simp; omega) | omega) ?_ _ | with_reducible refine bl_alloc ?_ _ | with_reducible refine bl_drewN ?_ _ | with_reducible refine bl_drew ?_ | with_reducible refine bl_grow ?_ _ _ | with_reducible refine bl_call ?_ (by assumption)))⟩
  obtain ⟨q1, hq1⟩ : ∃ q1 : Int, q1 = 1048576 - sa := ⟨_, rfl⟩
  have hq10 : 0 ≤ q1 := by omega
  have hq11 : q1 ≤ 1048576 := by omega
  have HZ : Hid (szL 1048576 sa = q1) := by show _ = _; rw [szL_nn h1, hq1]
  obtain ⟨hfa, hla2⟩ := FA.out (by omega)
  have HFA : Hid (∀ x ∈ la, Stil.armFits x) := hfa
  by_cases h2 : q1 - sb < 0
  · have HZ2 : Hid (szL q1 sb = -1) := szL_neg h2
    clear h1 h2 hq1 hfa FA FB
    go_enter Try.func4, Try.ntmps4
    go_wp2_with (go_at_call_of 6 (Value.int IntKind.i64 1048576); refine (SA.out _ (by (repeat (first | with_reducible exact Below.refl _ _ | with_reducible assumption | with_reducible refine bl_set (by first | exact Nat.le_refl _ | (simp; done) | (simp; omega) | omega) ?_ _ | with_reducible refine bl_alloc ?_ _ | with_reducible refine bl_drewN ?_ _ | with_reducible refine bl_drew ?_ | with_reducible refine bl_grow ?_ _ _ | with_reducible refine bl_call ?_ (by assumption)))) _ (by omega) (by omega)).mono ?_; rw [HZ.out]; rintro e w1 ⟨rfl, hb1⟩)
    go_wp2_with (go_at_call 6; refine (SB.out _ (by (repeat (first | with_reducible exact Below.refl _ _ | with_reducible assumption | with_reducible refine bl_set (by first | exact Nat.le_refl _ | (simp; done) | (simp; omega) | omega) ?_ _ | with_reducible refine bl_alloc ?_ _ | with_reducible refine bl_drewN ?_ _ | with_reducible refine bl_drew ?_ | with_reducible refine bl_grow ?_ _ _ | with_reducible refine bl_call ?_ (by assumption)))) _ hq10 hq11).mono ?_; rw [HZ2.out]; rintro e w2 ⟨rfl, hb2⟩)
    go_ret
    exact ⟨rfl, by (repeat (first | with_reducible exact Below.refl _ _ | with_reducible assumption | with_reducible refine bl_set (by first | exact Nat.le_refl _ | (simp; done) | (simp; omega) | omega) ?_ _ | with_reducible refine bl_alloc ?_ _ | with_reducible refine bl_drewN ?_ _ | with_reducible refine bl_drew ?_ | with_reducible refine bl_grow ?_ _ _ | with_reducible refine bl_call ?_ (by assumption)))⟩
  obtain ⟨q2, hq2⟩ : ∃ q2 : Int, q2 = q1 - sb := ⟨_, rfl⟩
  have hq20 : 0 ≤ q2 := by omega
  have HZ2 : Hid (szL q1 sb = q2) := by show _ = _; rw [szL_nn h2, hq2]
  obtain ⟨hfb, hlb2⟩ := FB.out (by omega)
  have HFB : Hid (∀ x ∈ lb, Stil.armFits x) := hfb
  obtain ⟨bb, hbb⟩ : ∃ bb, bb = decide (la = lb) := ⟨_, rfl⟩
  have HBB : Hid (decide (la = lb) = bb) := hbb.symm
  clear h1 h2 hq1 hq2 hfa hfb FA FB hbb
  go_enter Try.func4, Try.ntmps4
  go_wp2_with (go_at_call_of 6 (Value.int IntKind.i64 1048576); refine (SA.out _ (by (repeat (first | with_reducible exact Below.refl _ _ | with_reducible assumption | with_reducible refine bl_set (by first | exact Nat.le_refl _ | (simp; done) | (simp; omega) | omega) ?_ _ | with_reducible refine bl_alloc ?_ _ | with_reducible refine bl_drewN ?_ _ | with_reducible refine bl_drew ?_ | with_reducible refine bl_grow ?_ _ _ | with_reducible refine bl_call ?_ (by assumption)))) _ (by omega) (by omega)).mono ?_; rw [HZ.out]; rintro e w1 ⟨rfl, hb1⟩)
  go_wp2_with (go_at_call 6; refine (SB.out _ (by (repeat (first | with_reducible exact Below.refl _ _ | with_reducible assumption | with_reducible refine bl_set (by first | exact Nat.le_refl _ | (simp; done) | (simp; omega) | omega) ?_ _ | with_reducible refine bl_alloc ?_ _ | with_reducible refine bl_drewN ?_ _ | with_reducible refine bl_drew ?_ | with_reducible refine bl_grow ?_ _ _ | with_reducible refine bl_call ?_ (by assumption)))) _ hq10 hq11).mono ?_; rw [HZ2.out]; rintro e w2 ⟨rfl, hb2⟩)
  go_wp2_with (go_at_call_of 8 (la.length); refine (l_toLadder la HFA.out hla2 _ _ (HA.out _ (by (repeat (first | with_reducible exact Below.refl _ _ | with_reducible assumption | with_reducible refine bl_set (by first | exact Nat.le_refl _ | (simp; done) | (simp; omega) | omega) ?_ _ | with_reducible refine bl_alloc ?_ _ | with_reducible refine bl_drewN ?_ _ | with_reducible refine bl_drew ?_ | with_reducible refine bl_grow ?_ _ _ | with_reducible refine bl_call ?_ (by assumption)))))).mono ?_; rintro e w3 ⟨b3, rfl, g3, hb3⟩)
  have HG3 : Hid (∀ W, Below w3.heap.size w3 W → ArmsAt W (.slice (some ⟨b3, 0, none⟩) la.length la.length) la) := fun W h => g3.below h
  clear g3
  go_wp2_with (go_at_call_of 8 (lb.length); refine (l_toLadder lb HFB.out hlb2 _ _ (HB.out _ (by (repeat (first | with_reducible exact Below.refl _ _ | with_reducible assumption | with_reducible refine bl_set (by first | exact Nat.le_refl _ | (simp; done) | (simp; omega) | omega) ?_ _ | with_reducible refine bl_alloc ?_ _ | with_reducible refine bl_drewN ?_ _ | with_reducible refine bl_drew ?_ | with_reducible refine bl_grow ?_ _ _ | with_reducible refine bl_call ?_ (by assumption)))))).mono ?_; rintro e w4 ⟨b4, rfl, g4, hb4⟩)
  have HG4 : Hid (∀ W, Below w4.heap.size w4 W → ArmsAt W (.slice (some ⟨b4, 0, none⟩) lb.length lb.length) lb) := fun W h => g4.below h
  clear g4
  go_wp2_with (go_at_call 11; refine (s_treeSame la lb _ _ _ (HG3.out _ (by (repeat (first | with_reducible exact Below.refl _ _ | with_reducible assumption | with_reducible refine bl_set (by first | exact Nat.le_refl _ | (simp; done) | (simp; omega) | omega) ?_ _ | with_reducible refine bl_alloc ?_ _ | with_reducible refine bl_drewN ?_ _ | with_reducible refine bl_drew ?_ | with_reducible refine bl_grow ?_ _ _ | with_reducible refine bl_call ?_ (by assumption))))) (HG4.out _ (by (repeat (first | with_reducible exact Below.refl _ _ | with_reducible assumption | with_reducible refine bl_set (by first | exact Nat.le_refl _ | (simp; done) | (simp; omega) | omega) ?_ _ | with_reducible refine bl_alloc ?_ _ | with_reducible refine bl_drewN ?_ _ | with_reducible refine bl_drew ?_ | with_reducible refine bl_grow ?_ _ _ | with_reducible refine bl_call ?_ (by assumption))))) HFA.out HFB.out hla2 hlb2).mono ?_; rw [HBB.out]; rintro e w5 ⟨rfl, hb5⟩)
  clear HG3 HG4
  go_wp2_with (go_at_call_of 8 (la.length); refine (l_toLadder la HFA.out hla2 _ _ (HA.out _ (by (repeat (first | with_reducible exact Below.refl _ _ | with_reducible assumption | with_reducible refine bl_set (by first | exact Nat.le_refl _ | (simp; done) | (simp; omega) | omega) ?_ _ | with_reducible refine bl_alloc ?_ _ | with_reducible refine bl_drewN ?_ _ | with_reducible refine bl_drew ?_ | with_reducible refine bl_grow ?_ _ _ | with_reducible refine bl_call ?_ (by assumption)))))).mono ?_; rintro e w6 ⟨b6, rfl, g6, hb6⟩)
  have HG6 : Hid (∀ W, Below w6.heap.size w6 W → ArmsAt W (.slice (some ⟨b6, 0, none⟩) la.length la.length) la) := fun W h => g6.below h
  clear g6
  go_wp2_with (go_at_call_of 8 (lb.length); refine (l_toLadder lb HFB.out hlb2 _ _ (HB.out _ (by (repeat (first | with_reducible exact Below.refl _ _ | with_reducible assumption | with_reducible refine bl_set (by first | exact Nat.le_refl _ | (simp; done) | (simp; omega) | omega) ?_ _ | with_reducible refine bl_alloc ?_ _ | with_reducible refine bl_drewN ?_ _ | with_reducible refine bl_drew ?_ | with_reducible refine bl_grow ?_ _ _ | with_reducible refine bl_call ?_ (by assumption)))))).mono ?_; rintro e w7 ⟨b7, rfl, g7, hb7⟩)
  have HG7 : Hid (∀ W, Below w7.heap.size w7 W → ArmsAt W (.slice (some ⟨b7, 0, none⟩) lb.length lb.length) lb) := fun W h => g7.below h
  clear g7
  go_wp2_with (go_at_call 12; refine (i_treeSame la lb _ _ _ (HG6.out _ (by (repeat (first | with_reducible exact Below.refl _ _ | with_reducible assumption | with_reducible refine bl_set (by first | exact Nat.le_refl _ | (simp; done) | (simp; omega) | omega) ?_ _ | with_reducible refine bl_alloc ?_ _ | with_reducible refine bl_drewN ?_ _ | with_reducible refine bl_drew ?_ | with_reducible refine bl_grow ?_ _ _ | with_reducible refine bl_call ?_ (by assumption))))) (HG7.out _ (by (repeat (first | with_reducible exact Below.refl _ _ | with_reducible assumption | with_reducible refine bl_set (by first | exact Nat.le_refl _ | (simp; done) | (simp; omega) | omega) ?_ _ | with_reducible refine bl_alloc ?_ _ | with_reducible refine bl_drewN ?_ _ | with_reducible refine bl_drew ?_ | with_reducible refine bl_grow ?_ _ _ | with_reducible refine bl_call ?_ (by assumption))))) HFA.out HFB.out hla2 hlb2).mono ?_; rw [HBB.out]; rintro e w8 ⟨rfl, hb8⟩)
  go_wp2_with (go_at_call_of 8 (la.length); refine (l_toLadder la HFA.out hla2 _ _ (HA.out _ (by (repeat (first | with_reducible exact Below.refl _ _ | with_reducible assumption | with_reducible refine bl_set (by first | exact Nat.le_refl _ | (simp; done) | (simp; omega) | omega) ?_ _ | with_reducible refine bl_alloc ?_ _ | with_reducible refine bl_drewN ?_ _ | with_reducible refine bl_drew ?_ | with_reducible refine bl_grow ?_ _ _ | with_reducible refine bl_call ?_ (by assumption)))))).mono ?_; rintro e w9 ⟨b9, rfl, g9, hb9⟩)
  have HG9 : Hid (∀ W, Below w9.heap.size w9 W → ArmsAt W (.slice (some ⟨b9, 0, none⟩) la.length la.length) la) := fun W h => g9.below h
  clear g9
  go_wp2_with (go_at_call_of 10 (la.length); refine (l_eqLadder la HFA.out hla2 _ _ _ (HG6.out _ (by (repeat (first | with_reducible exact Below.refl _ _ | with_reducible assumption | with_reducible refine bl_set (by first | exact Nat.le_refl _ | (simp; done) | (simp; omega) | omega) ?_ _ | with_reducible refine bl_alloc ?_ _ | with_reducible refine bl_drewN ?_ _ | with_reducible refine bl_drew ?_ | with_reducible refine bl_grow ?_ _ _ | with_reducible refine bl_call ?_ (by assumption))))) (HG9.out _ (by (repeat (first | with_reducible exact Below.refl _ _ | with_reducible assumption | with_reducible refine bl_set (by first | exact Nat.le_refl _ | (simp; done) | (simp; omega) | omega) ?_ _ | with_reducible refine bl_alloc ?_ _ | with_reducible refine bl_drewN ?_ _ | with_reducible refine bl_drew ?_ | with_reducible refine bl_grow ?_ _ _ | with_reducible refine bl_call ?_ (by assumption)))))).mono ?_; rintro e w10 ⟨rfl, hb10⟩)
  go_wp2_with (go_at_call_of 8 (lb.length); refine (l_toLadder lb HFB.out hlb2 _ _ (HB.out _ (by (repeat (first | with_reducible exact Below.refl _ _ | with_reducible assumption | with_reducible refine bl_set (by first | exact Nat.le_refl _ | (simp; done) | (simp; omega) | omega) ?_ _ | with_reducible refine bl_alloc ?_ _ | with_reducible refine bl_drewN ?_ _ | with_reducible refine bl_drew ?_ | with_reducible refine bl_grow ?_ _ _ | with_reducible refine bl_call ?_ (by assumption)))))).mono ?_; rintro e w11 ⟨b11, rfl, g11, hb11⟩)
  have HG11 : Hid (∀ W, Below w11.heap.size w11 W → ArmsAt W (.slice (some ⟨b11, 0, none⟩) lb.length lb.length) lb) := fun W h => g11.below h
  clear g11
  go_wp2_with (go_at_call_of 10 (lb.length); refine (l_eqLadder lb HFB.out hlb2 _ _ _ (HG7.out _ (by (repeat (first | with_reducible exact Below.refl _ _ | with_reducible assumption | with_reducible refine bl_set (by first | exact Nat.le_refl _ | (simp; done) | (simp; omega) | omega) ?_ _ | with_reducible refine bl_alloc ?_ _ | with_reducible refine bl_drewN ?_ _ | with_reducible refine bl_drew ?_ | with_reducible refine bl_grow ?_ _ _ | with_reducible refine bl_call ?_ (by assumption))))) (HG11.out _ (by (repeat (first | with_reducible exact Below.refl _ _ | with_reducible assumption | with_reducible refine bl_set (by first | exact Nat.le_refl _ | (simp; done) | (simp; omega) | omega) ?_ _ | with_reducible refine bl_alloc ?_ _ | with_reducible refine bl_drewN ?_ _ | with_reducible refine bl_drew ?_ | with_reducible refine bl_grow ?_ _ _ | with_reducible refine bl_call ?_ (by assumption)))))).mono ?_; rintro e w12 ⟨rfl, hb12⟩)
  go_ret
  exact ⟨rfl, by (repeat (first | with_reducible exact Below.refl _ _ | with_reducible assumption | with_reducible refine bl_set (by first | exact Nat.le_refl _ | (simp; done) | (simp; omega) | omega) ?_ _ | with_reducible refine bl_alloc ?_ _ | with_reducible refine bl_drewN ?_ _ | with_reducible refine bl_drew ?_ | with_reducible refine bl_grow ?_ _ _ | with_reducible refine bl_call ?_ (by assumption)))⟩
end Go.Proofs.Ytpeojflemfppgaa
