/- The law on TreeCheck: the walk. -/
import Derived.Test.YtodialneapakgaaGreatDoorGL
import Derived.Test.YtodialneapakgaaGreatDoorHg
import Derived.Test.YtodialneapakgaaGreatDoorGY
namespace Go.Proofs.YtodialneapakgaaGreatDoor
open Go.RowKit Go.Sort Go.BigFrame
theorem check_size_le (la : List Stil.Arm) : Stil.treeSize la ≤ 2 * Stil.armsSz la := by
  unfold Stil.treeSize Stil.armsSz
  induction la with
  | nil => simp
  | cons x r ih =>
    have := Stil.armSize_le x
    simp only [List.map_cons, List.sum_cons, List.length_cons] at ih ⊢
    omega
set_option maxHeartbeats 2000000 in
set_option maxRecDepth 100000 in
theorem l_eqTreeFault (a : Int) (b : Nat) (w : World) : Calls Tryz.prog 22 #[.agg #[.int .i64 a, .int .i64 b], .agg #[.int .i64 a, .int .i64 b]] w fun e w' => e = .returned (.bool true) ∧ Below w.heap.size w w' := by
  go_enter Tryz.func22, Tryz.ntmps22
  go_wp2
  go_ret
  exact ⟨rfl, by (repeat (first | with_reducible exact Below.refl _ _ | with_reducible assumption | with_reducible refine bl_set (by first | exact Nat.le_refl _ | (simp; done) | (simp; omega) | omega) ?_ _ | with_reducible refine bl_alloc ?_ _ | with_reducible refine bl_drewN ?_ _ | with_reducible refine bl_drew ?_ | with_reducible refine bl_grow ?_ _ _ | with_reducible refine bl_call ?_ (by assumption)))⟩
set_option maxHeartbeats 2000000 in
set_option maxRecDepth 100000 in
theorem law_treeCheck (v : Value) (la : List Stil.Arm) (w : World) (hrow : RowsAt w) (herr : ErrTypeAt w) (hav : ArmsAt w v la) (wfa : ∀ x ∈ la, Stil.armWf x) (hla : la.length ≤ 9223372036854775807) :
    Calls Tryz.prog 5 #[v] w fun e w' => e = .returned (.bool true) ∧ Below w.heap.size w w' := by
  have HA : Hid (∀ W, Below w.heap.size w W → ArmsAt W v la) := fun W h => hav.below h
  have SA : Hid (∀ W, Below w.heap.size w W → ∀ q, 0 ≤ q → q ≤ 1048576 → Calls Tryz.prog 18 #[v, .int .i64 q] W fun e w' => e = .returned (.int .i64 (szL q (Stil.armsSz la))) ∧ Below W.heap.size W w') := fun W h q => l_szLadder la wfa hla v q W (hav.below h)
  have FA : Hid (Stil.armsSz la ≤ 1048576 → (∀ x ∈ la, Stil.armFits x) ∧ la.length ≤ 1048576) := arms_fit wfa
  have HRW : Hid (∀ W, Below w.heap.size w W → RowsAt W) := fun W h => hrow.below h
  have HET : Hid (∀ W, Below w.heap.size w W → ErrTypeAt W) := fun W h => herr.below h
  clear hrow herr
  obtain ⟨p0, r0, rfl, _⟩ := hav
  have hts := check_size_le la
  obtain ⟨sa, hsa⟩ : ∃ s, s = Stil.armsSz la := ⟨_, rfl⟩
  rw [← hsa] at SA FA hts
  clear wfa hsa
  by_cases h1 : (1048576 : Int) - sa < 0
  · have HZ : Hid (szL 1048576 sa = -1) := szL_neg h1
    clear h1 hts
    go_enter Tryz.func5, Tryz.ntmps5
    go_wp2_with (go_at_call 18; refine (SA.out _ (by (repeat (first | with_reducible exact Below.refl _ _ | with_reducible assumption | with_reducible refine bl_set (by first | exact Nat.le_refl _ | (simp; done) | (simp; omega) | omega) ?_ _ | with_reducible refine bl_alloc ?_ _ | with_reducible refine bl_drewN ?_ _ | with_reducible refine bl_drew ?_ | with_reducible refine bl_grow ?_ _ _ | with_reducible refine bl_call ?_ (by assumption)))) _ (by omega) (by omega)).mono ?_; rw [HZ.out]; rintro e w1 ⟨rfl, hb1⟩)
    go_ret
    exact ⟨rfl, by (repeat (first | with_reducible exact Below.refl _ _ | with_reducible assumption | with_reducible refine bl_set (by first | exact Nat.le_refl _ | (simp; done) | (simp; omega) | omega) ?_ _ | with_reducible refine bl_alloc ?_ _ | with_reducible refine bl_drewN ?_ _ | with_reducible refine bl_drew ?_ | with_reducible refine bl_grow ?_ _ _ | with_reducible refine bl_call ?_ (by assumption)))⟩
  obtain ⟨q1, hq1⟩ : ∃ q1 : Int, q1 = 1048576 - sa := ⟨_, rfl⟩
  have hq10 : 0 ≤ q1 := by omega
  have HZ : Hid (szL 1048576 sa = q1) := by show _ = _; rw [szL_nn h1, hq1]
  obtain ⟨hfa, hla2⟩ := FA.out (by omega)
  have HFA : Hid (∀ x ∈ la, Stil.armFits x) := hfa
  have HTS : Hid (Stil.treeSize la ≤ 2097152) := by show _ ≤ _; omega
  clear h1 hq1 hfa FA hts
  obtain ⟨c1, hc1⟩ : ∃ c, c = (Stil.treeCheck la).1 := ⟨_, rfl⟩
  obtain ⟨c2, hc2⟩ : ∃ c, c = (Stil.treeCheck la).2 := ⟨_, rfl⟩
  have HE1 : Hid ((Stil.treeCheck la).1 = c1) := hc1.symm
  have HE2 : Hid ((Stil.treeCheck la).2 = c2) := hc2.symm
  clear hc1 hc2
  go_enter Tryz.func5, Tryz.ntmps5
  go_wp2_with (go_at_call 18; refine (SA.out _ (by (repeat (first | with_reducible exact Below.refl _ _ | with_reducible assumption | with_reducible refine bl_set (by first | exact Nat.le_refl _ | (simp; done) | (simp; omega) | omega) ?_ _ | with_reducible refine bl_alloc ?_ _ | with_reducible refine bl_drewN ?_ _ | with_reducible refine bl_drew ?_ | with_reducible refine bl_grow ?_ _ _ | with_reducible refine bl_call ?_ (by assumption)))) _ (by omega) (by omega)).mono ?_; rw [HZ.out]; rintro e w1 ⟨rfl, hb1⟩)
  go_wp2_with (go_at_call 20; refine (l_toLadder la HFA.out hla2 _ _ (HA.out _ (by (repeat (first | with_reducible exact Below.refl _ _ | with_reducible assumption | with_reducible refine bl_set (by first | exact Nat.le_refl _ | (simp; done) | (simp; omega) | omega) ?_ _ | with_reducible refine bl_alloc ?_ _ | with_reducible refine bl_drewN ?_ _ | with_reducible refine bl_drew ?_ | with_reducible refine bl_grow ?_ _ _ | with_reducible refine bl_call ?_ (by assumption)))))).mono ?_; rintro e w3 ⟨b3, rfl, g3, hb3⟩)
  have HG3 : Hid (∀ W, Below w3.heap.size w3 W → ArmsAt W (.slice (some ⟨b3, 0, none⟩) la.length la.length) la) := fun W h => g3.below h
  clear g3
  go_wp2_with (go_at_call 19; refine (s_treeCheck la _ _ (HG3.out _ (by (repeat (first | with_reducible exact Below.refl _ _ | with_reducible assumption | with_reducible refine bl_set (by first | exact Nat.le_refl _ | (simp; done) | (simp; omega) | omega) ?_ _ | with_reducible refine bl_alloc ?_ _ | with_reducible refine bl_drewN ?_ _ | with_reducible refine bl_drew ?_ | with_reducible refine bl_grow ?_ _ _ | with_reducible refine bl_call ?_ (by assumption))))) hla2 (by have := HTS.out; omega) HFA.out).mono ?_; rw [HE1.out, HE2.out]; rintro e w5 ⟨rfl, hb5⟩)
  clear HG3
  go_wp2_with (go_at_call 20; refine (l_toLadder la HFA.out hla2 _ _ (HA.out _ (by (repeat (first | with_reducible exact Below.refl _ _ | with_reducible assumption | with_reducible refine bl_set (by first | exact Nat.le_refl _ | (simp; done) | (simp; omega) | omega) ?_ _ | with_reducible refine bl_alloc ?_ _ | with_reducible refine bl_drewN ?_ _ | with_reducible refine bl_drew ?_ | with_reducible refine bl_grow ?_ _ _ | with_reducible refine bl_call ?_ (by assumption)))))).mono ?_; rintro e w6 ⟨b6, rfl, g6, hb6⟩; have y0 : w6.cell? ⟨w5.heap.size, 0, none⟩ = some (.int .i64 c1) := (by rw [hb6.cell (p := ⟨w5.heap.size, 0, none⟩) (by simp)]; simp [go_sem]); have y1 : w6.cell? ⟨w5.heap.size, 1, none⟩ = some (.int .i64 c2) := (by rw [hb6.cell (p := ⟨w5.heap.size, 1, none⟩) (by simp)]; simp [go_sem]))
  have HG6 : Hid (∀ W, Below w6.heap.size w6 W → ArmsAt W (.slice (some ⟨b6, 0, none⟩) la.length la.length) la) := fun W h => g6.below h
  clear g6
  go_wp2_with (go_at_call 21; refine (i_treeCheck la _ _ (HRW.out _ (by (repeat (first | with_reducible exact Below.refl _ _ | with_reducible assumption | with_reducible refine bl_set (by first | exact Nat.le_refl _ | (simp; done) | (simp; omega) | omega) ?_ _ | with_reducible refine bl_alloc ?_ _ | with_reducible refine bl_drewN ?_ _ | with_reducible refine bl_drew ?_ | with_reducible refine bl_grow ?_ _ _ | with_reducible refine bl_call ?_ (by assumption))))) (HET.out _ (by (repeat (first | with_reducible exact Below.refl _ _ | with_reducible assumption | with_reducible refine bl_set (by first | exact Nat.le_refl _ | (simp; done) | (simp; omega) | omega) ?_ _ | with_reducible refine bl_alloc ?_ _ | with_reducible refine bl_drewN ?_ _ | with_reducible refine bl_drew ?_ | with_reducible refine bl_grow ?_ _ _ | with_reducible refine bl_call ?_ (by assumption))))) (HG6.out _ (by (repeat (first | with_reducible exact Below.refl _ _ | with_reducible assumption | with_reducible refine bl_set (by first | exact Nat.le_refl _ | (simp; done) | (simp; omega) | omega) ?_ _ | with_reducible refine bl_alloc ?_ _ | with_reducible refine bl_drewN ?_ _ | with_reducible refine bl_drew ?_ | with_reducible refine bl_grow ?_ _ _ | with_reducible refine bl_call ?_ (by assumption))))) hla2 (by have := HTS.out; omega) HFA.out).mono ?_; rw [HE1.out, HE2.out]; rintro e w8 ⟨rfl, hb8⟩; have z0 : w8.cell? ⟨w5.heap.size, 0, none⟩ = some (.int .i64 c1) := (hb8.cell (lt_of_cellA y0)).trans y0; have z1 : w8.cell? ⟨w5.heap.size, 1, none⟩ = some (.int .i64 c2) := (hb8.cell (lt_of_cellA y1)).trans y1; have hlt8 : w5.heap.size < w8.heap.size := lt_of_cellA z0)
  go_wp2_with (go_at_call 22; refine (l_eqTreeFault c1 c2 _).mono ?_; rintro e w9a ⟨rfl, hb9a⟩)
  go_wp2_with (go_at_call 20; refine (l_toLadder la HFA.out hla2 _ _ (HA.out _ (by (repeat (first | with_reducible exact Below.refl _ _ | with_reducible assumption | with_reducible refine bl_set (by first | exact Nat.le_refl _ | (simp; done) | (simp; omega) | omega) ?_ _ | with_reducible refine bl_alloc ?_ _ | with_reducible refine bl_drewN ?_ _ | with_reducible refine bl_drew ?_ | with_reducible refine bl_grow ?_ _ _ | with_reducible refine bl_call ?_ (by assumption)))))).mono ?_; rintro e w9 ⟨b9, rfl, g9, hb9⟩)
  have HG9 : Hid (∀ W, Below w9.heap.size w9 W → ArmsAt W (.slice (some ⟨b9, 0, none⟩) la.length la.length) la) := fun W h => g9.below h
  clear g9
  go_wp2_with (go_at_call 23; refine (l_eqLadder la HFA.out hla2 _ _ _ (HG6.out _ (by (repeat (first | with_reducible exact Below.refl _ _ | with_reducible assumption | with_reducible refine bl_set (by first | exact Nat.le_refl _ | (simp; done) | (simp; omega) | omega) ?_ _ | with_reducible refine bl_alloc ?_ _ | with_reducible refine bl_drewN ?_ _ | with_reducible refine bl_drew ?_ | with_reducible refine bl_grow ?_ _ _ | with_reducible refine bl_call ?_ (by assumption))))) (HG9.out _ (by (repeat (first | with_reducible exact Below.refl _ _ | with_reducible assumption | with_reducible refine bl_set (by first | exact Nat.le_refl _ | (simp; done) | (simp; omega) | omega) ?_ _ | with_reducible refine bl_alloc ?_ _ | with_reducible refine bl_drewN ?_ _ | with_reducible refine bl_drew ?_ | with_reducible refine bl_grow ?_ _ _ | with_reducible refine bl_call ?_ (by assumption)))))).mono ?_; rintro e w10 ⟨rfl, hb10⟩)
  go_ret
  exact ⟨rfl, by (repeat (first | with_reducible exact Below.refl _ _ | with_reducible assumption | with_reducible refine bl_set (by first | exact Nat.le_refl _ | (simp; done) | (simp; omega) | omega) ?_ _ | with_reducible refine bl_alloc ?_ _ | with_reducible refine bl_drewN ?_ _ | with_reducible refine bl_drew ?_ | with_reducible refine bl_grow ?_ _ _ | with_reducible refine bl_call ?_ (by assumption)))⟩
end Go.Proofs.YtodialneapakgaaGreatDoor
