/- The law on TreeSize: the walk. -/
import Derived.Test.YtpeojflemfppgaaGL
import Derived.Test.YtpeojflemfppgaaGU
import Derived.Test.YtpeojflemfppgaaGO
namespace Go.Proofs.Ytpeojflemfppgaa
open Go.RowKit Go.Sort Go.BigFrame
theorem treeSize_le (la : List Stil.Arm) : Stil.treeSize la ≤ 2 * Stil.armsSz la := by
  unfold Stil.treeSize Stil.armsSz
  induction la with
  | nil => simp
  | cons x r ih =>
    have := Stil.armSize_le x
    simp only [List.map_cons, List.sum_cons, List.length_cons] at ih ⊢
    omega
set_option maxHeartbeats 2000000 in
set_option maxRecDepth 100000 in
theorem law_treeSize (v : Value) (la : List Stil.Arm) (w : World) (hav : ArmsAt w v la) (wfa : ∀ x ∈ la, Stil.armWf x) (hla : la.length ≤ 9223372036854775807) :
    Calls Try.prog 3 #[v] w fun e w' => e = .returned (.bool true) ∧ Below w.heap.size w w' := by
  have HA : Hid (∀ W, Below w.heap.size w W → ArmsAt W v la) := fun W h => hav.below h
  have SA : Hid (∀ W, Below w.heap.size w W → ∀ q, 0 ≤ q → q ≤ 1048576 → Calls Try.prog 6 #[v, .int .i64 q] W fun e w' => e = .returned (.int .i64 (szL q (Stil.armsSz la))) ∧ Below W.heap.size W w') := fun W h q => l_szLadder la wfa hla v q W (hav.below h)
  have FA : Hid (Stil.armsSz la ≤ 1048576 → (∀ x ∈ la, Stil.armFits x) ∧ la.length ≤ 1048576) := arms_fit wfa
  obtain ⟨p0, r0, rfl, _⟩ := hav
  have hts := treeSize_le la
  obtain ⟨sa, hsa⟩ : ∃ s, s = Stil.armsSz la := ⟨_, rfl⟩
  rw [← hsa] at SA FA hts
  clear wfa hsa
  by_cases h1 : (1048576 : Int) - sa < 0
  · have HZ : Hid (szL 1048576 sa = -1) := szL_neg h1
    clear h1 hts
    go_enter Try.func3, Try.ntmps3
    go_wp2_with (go_at_call 6; refine (SA.out _ (by (repeat (first | with_reducible exact Below.refl _ _ | with_reducible assumption | with_reducible refine bl_set (by first | exact Nat.le_refl _ | (simp; done) | (simp; omega) | omega) ?_ _ | with_reducible refine bl_alloc ?_ _ | with_reducible refine bl_drewN ?_ _ | with_reducible refine bl_drew ?_ | with_reducible refine bl_grow ?_ _ _ | with_reducible refine bl_call ?_ (by assumption)))) _ (by omega) (by omega)).mono ?_; rw [HZ.out]; rintro e w1 ⟨rfl, hb1⟩)
    go_ret
    exact ⟨rfl, by (repeat (first | with_reducible exact Below.refl _ _ | with_reducible assumption | with_reducible refine bl_set (by first | exact Nat.le_refl _ | (simp; done) | (simp; omega) | omega) ?_ _ | with_reducible refine bl_alloc ?_ _ | with_reducible refine bl_drewN ?_ _ | with_reducible refine bl_drew ?_ | with_reducible refine bl_grow ?_ _ _ | with_reducible refine bl_call ?_ (by assumption)))⟩
  obtain ⟨q1, hq1⟩ : ∃ q1 : Int, q1 = 1048576 - sa := ⟨_, rfl⟩
  have hq10 : 0 ≤ q1 := by omega
  have HZ : Hid (szL 1048576 sa = q1) := by show _ = _; rw [szL_nn h1, hq1]
  obtain ⟨hfa, hla2⟩ := FA.out (by omega)
  have HFA : Hid (∀ x ∈ la, Stil.armFits x) := hfa
  have HTS : Hid (Stil.treeSize la ≤ 2097152) := by show _ ≤ _; omega
  clear h1 hq1 hfa FA hts
  obtain ⟨ts, hts⟩ : ∃ ts, ts = Stil.treeSize la := ⟨_, rfl⟩
  have HE : Hid (Stil.treeSize la = ts) := hts.symm
  clear hts
  go_enter Try.func3, Try.ntmps3
  go_wp2_with (go_at_call 6; refine (SA.out _ (by (repeat (first | with_reducible exact Below.refl _ _ | with_reducible assumption | with_reducible refine bl_set (by first | exact Nat.le_refl _ | (simp; done) | (simp; omega) | omega) ?_ _ | with_reducible refine bl_alloc ?_ _ | with_reducible refine bl_drewN ?_ _ | with_reducible refine bl_drew ?_ | with_reducible refine bl_grow ?_ _ _ | with_reducible refine bl_call ?_ (by assumption)))) _ (by omega) (by omega)).mono ?_; rw [HZ.out]; rintro e w1 ⟨rfl, hb1⟩)
  go_wp2_with (go_at_call 8; refine (l_toLadder la HFA.out hla2 _ _ (HA.out _ (by (repeat (first | with_reducible exact Below.refl _ _ | with_reducible assumption | with_reducible refine bl_set (by first | exact Nat.le_refl _ | (simp; done) | (simp; omega) | omega) ?_ _ | with_reducible refine bl_alloc ?_ _ | with_reducible refine bl_drewN ?_ _ | with_reducible refine bl_drew ?_ | with_reducible refine bl_grow ?_ _ _ | with_reducible refine bl_call ?_ (by assumption)))))).mono ?_; rintro e w3 ⟨b3, rfl, g3, hb3⟩)
  have HG3 : Hid (∀ W, Below w3.heap.size w3 W → ArmsAt W (.slice (some ⟨b3, 0, none⟩) la.length la.length) la) := fun W h => g3.below h
  clear g3
  go_wp2_with (go_at_call 7; refine (s_treeSize la _ _ (HG3.out _ (by (repeat (first | with_reducible exact Below.refl _ _ | with_reducible assumption | with_reducible refine bl_set (by first | exact Nat.le_refl _ | (simp; done) | (simp; omega) | omega) ?_ _ | with_reducible refine bl_alloc ?_ _ | with_reducible refine bl_drewN ?_ _ | with_reducible refine bl_drew ?_ | with_reducible refine bl_grow ?_ _ _ | with_reducible refine bl_call ?_ (by assumption))))) (by have := HTS.out; omega) HFA.out).mono ?_; rw [HE.out]; rintro e w5 ⟨rfl, hb5⟩)
  clear HG3
  go_wp2_with (go_at_call 8; refine (l_toLadder la HFA.out hla2 _ _ (HA.out _ (by (repeat (first | with_reducible exact Below.refl _ _ | with_reducible assumption | with_reducible refine bl_set (by first | exact Nat.le_refl _ | (simp; done) | (simp; omega) | omega) ?_ _ | with_reducible refine bl_alloc ?_ _ | with_reducible refine bl_drewN ?_ _ | with_reducible refine bl_drew ?_ | with_reducible refine bl_grow ?_ _ _ | with_reducible refine bl_call ?_ (by assumption)))))).mono ?_; rintro e w6 ⟨b6, rfl, g6, hb6⟩)
  have HG6 : Hid (∀ W, Below w6.heap.size w6 W → ArmsAt W (.slice (some ⟨b6, 0, none⟩) la.length la.length) la) := fun W h => g6.below h
  clear g6
  go_wp2_with (go_at_call 9; refine (i_treeSize la _ _ (HG6.out _ (by (repeat (first | with_reducible exact Below.refl _ _ | with_reducible assumption | with_reducible refine bl_set (by first | exact Nat.le_refl _ | (simp; done) | (simp; omega) | omega) ?_ _ | with_reducible refine bl_alloc ?_ _ | with_reducible refine bl_drewN ?_ _ | with_reducible refine bl_drew ?_ | with_reducible refine bl_grow ?_ _ _ | with_reducible refine bl_call ?_ (by assumption))))) (by have := HTS.out; omega) HFA.out hla2).mono ?_; rw [HE.out]; rintro e w8 ⟨rfl, hb8⟩)
  go_wp2_with (go_at_call 8; refine (l_toLadder la HFA.out hla2 _ _ (HA.out _ (by (repeat (first | with_reducible exact Below.refl _ _ | with_reducible assumption | with_reducible refine bl_set (by first | exact Nat.le_refl _ | (simp; done) | (simp; omega) | omega) ?_ _ | with_reducible refine bl_alloc ?_ _ | with_reducible refine bl_drewN ?_ _ | with_reducible refine bl_drew ?_ | with_reducible refine bl_grow ?_ _ _ | with_reducible refine bl_call ?_ (by assumption)))))).mono ?_; rintro e w9 ⟨b9, rfl, g9, hb9⟩)
  have HG9 : Hid (∀ W, Below w9.heap.size w9 W → ArmsAt W (.slice (some ⟨b9, 0, none⟩) la.length la.length) la) := fun W h => g9.below h
  clear g9
  go_wp2_with (go_at_call 10; refine (l_eqLadder la HFA.out hla2 _ _ _ (HG6.out _ (by (repeat (first | with_reducible exact Below.refl _ _ | with_reducible assumption | with_reducible refine bl_set (by first | exact Nat.le_refl _ | (simp; done) | (simp; omega) | omega) ?_ _ | with_reducible refine bl_alloc ?_ _ | with_reducible refine bl_drewN ?_ _ | with_reducible refine bl_drew ?_ | with_reducible refine bl_grow ?_ _ _ | with_reducible refine bl_call ?_ (by assumption))))) (HG9.out _ (by (repeat (first | with_reducible exact Below.refl _ _ | with_reducible assumption | with_reducible refine bl_set (by first | exact Nat.le_refl _ | (simp; done) | (simp; omega) | omega) ?_ _ | with_reducible refine bl_alloc ?_ _ | with_reducible refine bl_drewN ?_ _ | with_reducible refine bl_drew ?_ | with_reducible refine bl_grow ?_ _ _ | with_reducible refine bl_call ?_ (by assumption)))))).mono ?_; rintro e w10 ⟨rfl, hb10⟩)
  go_ret
  exact ⟨rfl, by (repeat (first | with_reducible exact Below.refl _ _ | with_reducible assumption | with_reducible refine bl_set (by first | exact Nat.le_refl _ | (simp; done) | (simp; omega) | omega) ?_ _ | with_reducible refine bl_alloc ?_ _ | with_reducible refine bl_drewN ?_ _ | with_reducible refine bl_drew ?_ | with_reducible refine bl_grow ?_ _ _ | with_reducible refine bl_call ?_ (by assumption)))⟩
end Go.Proofs.Ytpeojflemfppgaa
