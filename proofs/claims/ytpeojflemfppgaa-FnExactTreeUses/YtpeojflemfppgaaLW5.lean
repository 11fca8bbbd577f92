/- The law on TreeUses: the walk. -/
import Derived.Test.YtpeojflemfppgaaGL
import Derived.Test.YtpeojflemfppgaaGV
import Derived.Deep.RegionWith
namespace Go.Proofs.Ytpeojflemfppgaa
open Go.RowKit Go.Sort Go.BigFrame
theorem treeSize_le' (la : List Stil.Arm) : Stil.treeSize la ≤ 2 * Stil.armsSz la := by
  unfold Stil.treeSize Stil.armsSz
  induction la with
  | nil => simp
  | cons x r ih =>
    have := Stil.armSize_le x
    simp only [List.map_cons, List.sum_cons, List.length_cons] at ih ⊢
    omega
theorem treeUses_le (d : Stil.Dev) (la : List Stil.Arm) (h : Stil.armsSz la ≤ 1048576) : Stil.treeUses d la + la.length ≤ 1048576 := by
  have h1 := Stil.sum_mono (Stil.armUses d) Stil.armSz la (fun x _ => Stil.armUses_le d x)
  have e1 : Stil.treeUses d la = (la.map (Stil.armUses d)).sum := rfl
  have e2 : Stil.armsSz la = la.length + (la.map Stil.armSz).sum := rfl
  omega
set_option maxHeartbeats 2000000 in
set_option maxRecDepth 100000 in
theorem law_treeUses (v : Value) (la : List Stil.Arm) (d : Stil.Dev) (w : World) (hav : ArmsAt w v la) (wfa : ∀ x ∈ la, Stil.armWf x) (hla : la.length ≤ 9223372036854775807) :
    Calls Try.prog 5 #[v, .agg #[.int .i64 d.kind, .int .i64 d.n, .int .i64 d.p]] w fun e w' => e = .returned (.bool true) ∧ Below w.heap.size w w' := by
  have HA : Hid (∀ W, Below w.heap.size w W → ArmsAt W v la) := fun W h => hav.below h
  have SA : Hid (∀ W, Below w.heap.size w W → ∀ q, 0 ≤ q → q ≤ 1048576 → Calls Try.prog 6 #[v, .int .i64 q] W fun e w' => e = .returned (.int .i64 (szL q (Stil.armsSz la))) ∧ Below W.heap.size W w') := fun W h q => l_szLadder la wfa hla v q W (hav.below h)
  have FA : Hid (Stil.armsSz la ≤ 1048576 → (∀ x ∈ la, Stil.armFits x) ∧ la.length ≤ 1048576) := arms_fit wfa
  obtain ⟨p0, r0, rfl, _⟩ := hav
  have hts := treeSize_le' la
  have htu := treeUses_le d la
  obtain ⟨sa, hsa⟩ : ∃ s, s = Stil.armsSz la := ⟨_, rfl⟩
  rw [← hsa] at SA FA hts htu
  clear wfa hsa
  by_cases h1 : (1048576 : Int) - sa < 0
  · have HZ : Hid (szL 1048576 sa = -1) := szL_neg h1
    clear h1 hts htu
    go_enter Try.func5, Try.ntmps5
    go_wp2_with (go_at_call 6; refine (SA.out _ (by (repeat (first | with_reducible exact Below.refl _ _ | with_reducible assumption | with_reducible refine bl_set (by first | exact Nat.le_refl _ | (simp; done) | (simp; omega) | omega) ?_ _ | with_reducible refine bl_alloc ?_ _ | with_reducible refine bl_drewN ?_ _ | with_reducible refine bl_drew ?_ | with_reducible refine bl_grow ?_ _ _ | with_reducible refine bl_call ?_ (by assumption)))) _ (by omega) (by omega)).mono ?_; rw [HZ.out]; rintro e w1 ⟨rfl, hb1⟩)
    go_ret
    exact ⟨rfl, by (repeat (first | with_reducible exact Below.refl _ _ | with_reducible assumption | with_reducible refine bl_set (by first | exact Nat.le_refl _ | (simp; done) | (simp; omega) | omega) ?_ _ | with_reducible refine bl_alloc ?_ _ | with_reducible refine bl_drewN ?_ _ | with_reducible refine bl_drew ?_ | with_reducible refine bl_grow ?_ _ _ | with_reducible refine bl_call ?_ (by assumption)))⟩
  obtain ⟨q1, hq1⟩ : ∃ q1 : Int, q1 = 1048576 - sa := ⟨_, rfl⟩
  have hq10 : 0 ≤ q1 := by omega
  have HZ : Hid (szL 1048576 sa = q1) := by show _ = _; rw [szL_nn h1, hq1]
  obtain ⟨hfa, hla2⟩ := FA.out (by omega)
  have HFA : Hid (∀ x ∈ la, Stil.armFits x) := hfa
  have HTS : Hid (Stil.treeSize la ≤ 2097152) := by show _ ≤ _; omega
  have HTU : Hid (Stil.treeUses d la + la.length ≤ 1048576) := htu (by omega)
  clear h1 hq1 hfa FA hts htu
  obtain ⟨ts, hts⟩ : ∃ ts, ts = Stil.treeUses d la := ⟨_, rfl⟩
  have HE : Hid (Stil.treeUses d la = ts) := hts.symm
  clear hts
  go_enter Try.func5, Try.ntmps5
  go_wp2_with (go_at_call 6; refine (SA.out _ (by (repeat (first | with_reducible exact Below.refl _ _ | with_reducible assumption | with_reducible refine bl_set (by first | exact Nat.le_refl _ | (simp; done) | (simp; omega) | omega) ?_ _ | with_reducible refine bl_alloc ?_ _ | with_reducible refine bl_drewN ?_ _ | with_reducible refine bl_drew ?_ | with_reducible refine bl_grow ?_ _ _ | with_reducible refine bl_call ?_ (by assumption)))) _ (by omega) (by omega)).mono ?_; rw [HZ.out]; rintro e w1 ⟨rfl, hb1⟩; have e0 : w1.cell? ⟨w.heap.size, 0, none⟩ = some (.int .i64 d.kind) := (by rw [hb1.cell (p := ⟨w.heap.size, 0, none⟩) (by simp)]; simp [go_sem]); have e1 : w1.cell? ⟨w.heap.size, 1, none⟩ = some (.int .i64 d.n) := (by rw [hb1.cell (p := ⟨w.heap.size, 1, none⟩) (by simp)]; simp [go_sem]); have e2 : w1.cell? ⟨w.heap.size, 2, none⟩ = some (.int .i64 d.p) := (by rw [hb1.cell (p := ⟨w.heap.size, 2, none⟩) (by simp)]; simp [go_sem]))
  go_region_with (first
    | (go_at_call 8; refine (l_toLadder la HFA.out hla2 _ _ (HA.out _ (by (repeat (first | with_reducible exact Below.refl _ _ | with_reducible assumption | with_reducible refine bl_set (by first | exact Nat.le_refl _ | (simp; done) | (simp; omega) | omega) ?_ _ | with_reducible refine bl_alloc ?_ _ | with_reducible refine bl_drewN ?_ _ | with_reducible refine bl_drew ?_ | with_reducible refine bl_grow ?_ _ _ | with_reducible refine bl_call ?_ (by assumption)))))).mono ?_; rintro e w3 ⟨b3, rfl, g3, hb3⟩; have HG3 : Hid (∀ W, Below w3.heap.size w3 W → ArmsAt W (.slice (some ⟨b3, 0, none⟩) la.length la.length) la) := fun W h => g3.below h; clear g3; have k0 : w3.cell? ⟨w.heap.size, 0, none⟩ = some (.int .i64 d.kind) := (hb3.cell (p := ⟨w.heap.size, 0, none⟩) (lt_of_cell3 e0)).trans e0; have k1 : w3.cell? ⟨w.heap.size, 1, none⟩ = some (.int .i64 d.n) := (hb3.cell (p := ⟨w.heap.size, 1, none⟩) (lt_of_cell3 e1)).trans e1; have k2 : w3.cell? ⟨w.heap.size, 2, none⟩ = some (.int .i64 d.p) := (hb3.cell (p := ⟨w.heap.size, 2, none⟩) (lt_of_cell3 e2)).trans e2)
    | (go_at_call 14; refine (l_toDev _ _ _ _).mono ?_; rintro e w4 ⟨rfl, hb4⟩)
    | (go_at_call 13; refine (s_treeUses d la hla2 HFA.out (by have := HTU.out; omega) _ _ (HG3.out _ (by (repeat (first | with_reducible exact Below.refl _ _ | with_reducible assumption | with_reducible refine bl_set (by first | exact Nat.le_refl _ | (simp; done) | (simp; omega) | omega) ?_ _ | with_reducible refine bl_alloc ?_ _ | with_reducible refine bl_drewN ?_ _ | with_reducible refine bl_drew ?_ | with_reducible refine bl_grow ?_ _ _ | with_reducible refine bl_call ?_ (by assumption)))))).mono ?_; rw [HE.out]; rintro e w5 ⟨rfl, hb5⟩; clear HG3; have m0 : w5.cell? ⟨w.heap.size, 0, none⟩ = some (.int .i64 d.kind) := (hb5.cell (p := ⟨w.heap.size, 0, none⟩) (Nat.lt_of_lt_of_le (lt_of_cell3 k0) hb4.size)).trans ((hb4.cell (p := ⟨w.heap.size, 0, none⟩) (lt_of_cell3 k0)).trans k0); have m1 : w5.cell? ⟨w.heap.size, 1, none⟩ = some (.int .i64 d.n) := (hb5.cell (p := ⟨w.heap.size, 1, none⟩) (Nat.lt_of_lt_of_le (lt_of_cell3 k1) hb4.size)).trans ((hb4.cell (p := ⟨w.heap.size, 1, none⟩) (lt_of_cell3 k1)).trans k1); have m2 : w5.cell? ⟨w.heap.size, 2, none⟩ = some (.int .i64 d.p) := (hb5.cell (p := ⟨w.heap.size, 2, none⟩) (Nat.lt_of_lt_of_le (lt_of_cell3 k2) hb4.size)).trans ((hb4.cell (p := ⟨w.heap.size, 2, none⟩) (lt_of_cell3 k2)).trans k2)))
  all_goals (
    go_wp2_with (go_at_call 8; refine (l_toLadder la HFA.out hla2 _ _ (HA.out _ (by (repeat (first | with_reducible exact Below.refl _ _ | with_reducible assumption | with_reducible refine bl_set (by first | exact Nat.le_refl _ | (simp; done) | (simp; omega) | omega) ?_ _ | with_reducible refine bl_alloc ?_ _ | with_reducible refine bl_drewN ?_ _ | with_reducible refine bl_drew ?_ | with_reducible refine bl_grow ?_ _ _ | with_reducible refine bl_call ?_ (by assumption)))))).mono ?_; rintro e w6 ⟨b6, rfl, g6, hb6⟩; have n0 : w6.cell? ⟨w.heap.size, 0, none⟩ = some (.int .i64 d.kind) := (hb6.cell (p := ⟨w.heap.size, 0, none⟩) (lt_of_cell3 m0)).trans m0; have n1 : w6.cell? ⟨w.heap.size, 1, none⟩ = some (.int .i64 d.n) := (hb6.cell (p := ⟨w.heap.size, 1, none⟩) (lt_of_cell3 m1)).trans m1; have n2 : w6.cell? ⟨w.heap.size, 2, none⟩ = some (.int .i64 d.p) := (hb6.cell (p := ⟨w.heap.size, 2, none⟩) (lt_of_cell3 m2)).trans m2)
    have HG6 : Hid (∀ W, Below w6.heap.size w6 W → ArmsAt W (.slice (some ⟨b6, 0, none⟩) la.length la.length) la) := fun W h => g6.below h
    clear g6
    go_wp2_with (go_at_call 14; refine (l_toDev _ _ _ _).mono ?_; rintro e w7 ⟨rfl, hb7⟩)
    go_wp2_with (go_at_call 15; refine (i_treeUses d la _ _ (HG6.out _ (by (repeat (first | with_reducible exact Below.refl _ _ | with_reducible assumption | with_reducible refine bl_set (by first | exact Nat.le_refl _ | (simp; done) | (simp; omega) | omega) ?_ _ | with_reducible refine bl_alloc ?_ _ | with_reducible refine bl_drewN ?_ _ | with_reducible refine bl_drew ?_ | with_reducible refine bl_grow ?_ _ _ | with_reducible refine bl_call ?_ (by assumption))))) HFA.out hla2 (by have := HTS.out; omega) (by have := HTU.out; omega)).mono ?_; rw [HE.out]; rintro e w8 ⟨rfl, hb8⟩)
    go_wp2_with (go_at_call 8; refine (l_toLadder la HFA.out hla2 _ _ (HA.out _ (by (repeat (first | with_reducible exact Below.refl _ _ | with_reducible assumption | with_reducible refine bl_set (by first | exact Nat.le_refl _ | (simp; done) | (simp; omega) | omega) ?_ _ | with_reducible refine bl_alloc ?_ _ | with_reducible refine bl_drewN ?_ _ | with_reducible refine bl_drew ?_ | with_reducible refine bl_grow ?_ _ _ | with_reducible refine bl_call ?_ (by assumption)))))).mono ?_; rintro e w9 ⟨b9, rfl, g9, hb9⟩)
    have HG9 : Hid (∀ W, Below w9.heap.size w9 W → ArmsAt W (.slice (some ⟨b9, 0, none⟩) la.length la.length) la) := fun W h => g9.below h
    clear g9
    go_wp2_with (go_at_call 10; refine (l_eqLadder la HFA.out hla2 _ _ _ (HG6.out _ (by (repeat (first | with_reducible exact Below.refl _ _ | with_reducible assumption | with_reducible refine bl_set (by first | exact Nat.le_refl _ | (simp; done) | (simp; omega) | omega) ?_ _ | with_reducible refine bl_alloc ?_ _ | with_reducible refine bl_drewN ?_ _ | with_reducible refine bl_drew ?_ | with_reducible refine bl_grow ?_ _ _ | with_reducible refine bl_call ?_ (by assumption))))) (HG9.out _ (by (repeat (first | with_reducible exact Below.refl _ _ | with_reducible assumption | with_reducible refine bl_set (by first | exact Nat.le_refl _ | (simp; done) | (simp; omega) | omega) ?_ _ | with_reducible refine bl_alloc ?_ _ | with_reducible refine bl_drewN ?_ _ | with_reducible refine bl_drew ?_ | with_reducible refine bl_grow ?_ _ _ | with_reducible refine bl_call ?_ (by assumption)))))).mono ?_; rintro e w10 ⟨rfl, hb10⟩)
    go_ret
    exact ⟨rfl, by (repeat (first | with_reducible exact Below.refl _ _ | with_reducible assumption | with_reducible refine bl_set (by first | exact Nat.le_refl _ | (simp; done) | (simp; omega) | omega) ?_ _ | with_reducible refine bl_alloc ?_ _ | with_reducible refine bl_drewN ?_ _ | with_reducible refine bl_drew ?_ | with_reducible refine bl_grow ?_ _ _ | with_reducible refine bl_call ?_ (by assumption)))⟩)
end Go.Proofs.Ytpeojflemfppgaa
