/- The law on NormMake: the walk. -/
import Derived.Test.YtbllmkmdaenglaaGreatDoorLW6
import Derived.Test.YtbllmkmdaenglaaGreatDoorGw
import Derived.Test.YtbllmkmdaenglaaGreatDoorGr
namespace Go.Proofs.YtbllmkmdaenglaaGreatDoor
open Go.RowKit Go.Sort Go.BigFrame
theorem ArmsRet.pk {w : World} {base : Nat} {L : List Stil.Arm} {e : Ending} (h : ArmsRet w base L e) : ∃ (a : Option Addr) (c : Nat) (m : MArm), e = .returned (.slice a L.length c) ∧ ArmsPk base w L a c m := by
  obtain ⟨a, c, ms, rfl, hm, hr⟩ := h
  have hl : ms.length = L.length := by rw [← hm, List.length_map]
  exact ⟨a, c, _, by rw [hl], armsPk_of hm hr⟩
set_option maxHeartbeats 4000000 in
set_option maxRecDepth 100000 in
theorem law_normMake (v : Value) (la : List Stil.Arm) (w : World) (hrow : RowsAt w) (herr : ErrTypeAt w) (hav : ArmsAt w v la) (wfa : ∀ x ∈ la, Stil.armWf x) (hla : la.length ≤ 9223372036854775807) :
    Calls Tryz.prog 3 #[v] w fun e w' => e = .returned (.bool true) ∧ Below w.heap.size w w' := by
  have HA : Hid (∀ W, Below w.heap.size w W → ArmsAt W v la) := fun W h => hav.below h
  have SA : Hid (∀ W, Below w.heap.size w W → ∀ q, 0 ≤ q → q ≤ 1048576 → Calls Tryz.prog 6 #[v, .int .i64 q] W fun e w' => e = .returned (.int .i64 (szL q (Stil.armsSz la))) ∧ Below W.heap.size W w') := fun W h q => l_szLadder la wfa hla v q W (hav.below h)
  have FA : Hid (Stil.armsSz la ≤ 1048576 → (∀ x ∈ la, Stil.armFits x) ∧ la.length ≤ 1048576) := arms_fit wfa
  have HRW : Hid (∀ W, Below w.heap.size w W → RowsAt W) := fun W h => hrow.below h
  have HET : Hid (∀ W, Below w.heap.size w W → ErrTypeAt W) := fun W h => herr.below h
  clear hrow herr
  obtain ⟨p0, r0, rfl, _⟩ := hav
  have hts := check_size_le la
  obtain ⟨sa, hsa⟩ : ∃ s, s = Stil.armsSz la := ⟨_, rfl⟩
  rw [← hsa] at SA FA hts
  clear wfa hsa
  by_cases h1 : (1048576 : Int) - sa < 0
  · have HZ : Hid (szL 1048576 sa = -1) := szL_neg h1
    clear h1 hts
    go_enter Tryz.func3, Tryz.ntmps3
    go_wp2_with (go_at_call 6; refine (SA.out _ (by (repeat (first | with_reducible exact Below.refl _ _ | with_reducible assumption | with_reducible refine bl_set (by first | exact Nat.le_refl _ | (simp; done) | (simp; omega) | omega) ?_ _ | with_reducible refine bl_alloc ?_ _ | with_reducible refine bl_drewN ?_ _ | with_reducible refine bl_drew ?_ | with_reducible refine bl_grow ?_ _ _ | with_reducible refine bl_call ?_ (by assumption)))) _ (by omega) (by omega)).mono ?_; rw [HZ.out]; rintro e w1 ⟨rfl, hb1⟩)
    go_ret
    exact ⟨rfl, by (repeat (first | with_reducible exact Below.refl _ _ | with_reducible assumption | with_reducible refine bl_set (by first | exact Nat.le_refl _ | (simp; done) | (simp; omega) | omega) ?_ _ | with_reducible refine bl_alloc ?_ _ | with_reducible refine bl_drewN ?_ _ | with_reducible refine bl_drew ?_ | with_reducible refine bl_grow ?_ _ _ | with_reducible refine bl_call ?_ (by assumption)))⟩
  obtain ⟨q1, hq1⟩ : ∃ q1 : Int, q1 = 1048576 - sa := ⟨_, rfl⟩
  have hq10 : 0 ≤ q1 := by omega
  have HZ : Hid (szL 1048576 sa = q1) := by show _ = _; rw [szL_nn h1, hq1]
  obtain ⟨hfa, hla2⟩ := FA.out (by omega)
  have HFA : Hid (∀ x ∈ la, Stil.armFits x) := hfa
  have HTS : Hid (Stil.treeSize la ≤ 2097152) := by show _ ≤ _; omega
  have hts2 := HTS.out
  clear h1 hq1 FA hts
  have HSP : Hid (∀ W u, ArmsAt W u la → Calls Tryz.prog 7 #[u] W fun e w' => ∃ (a : Option Addr) (c : Nat), e = .returned (.slice a (Stil.normMake la).length c) ∧ ArmsFrom W.heap.size w' (.slice a (Stil.normMake la).length c) (Stil.normMake la) ∧ Below W.heap.size W w') := by
    intro W u h
    refine (s_NormMake la u W h hla2 (by omega) hfa).mono ?_
    rintro e w' ⟨hr, hb⟩
    obtain ⟨a, c, m, he, hp⟩ := hr.pk
    exact ⟨a, c, he, hp.2.2.2.2.2.2.2.1, hb⟩
  have HIM : Hid (∀ W u lo, Below w.heap.size w W → lo ≤ W.heap.size → ArmsAt W u la → Calls Tryz.prog 9 #[u] W fun e w' => ∃ (a : Option Addr) (c : Nat) (m : MArm), e = .returned (.slice a (Stil.normMake la).length c) ∧ ArmsPk lo w' (Stil.normMake la) a c m ∧ Below W.heap.size W w') := by
    intro W u lo hW hlo hu
    refine (i_NormMake la u W (HRW.out W hW) (HET.out W hW) hu hla2 (by omega) hfa).mono ?_
    rintro e w' ⟨hr, hb⟩
    obtain ⟨a, c, m, he, hp⟩ := hr.pk
    exact ⟨a, c, m, he, hp.mono hlo, hb⟩
  have HCP : Hid (∀ W, Below w.heap.size w W → Calls Tryz.prog 8 #[.slice p0 la.length r0] W fun e w' => ∃ (a : Option Addr) (c : Nat) (m : MArm), e = .returned (.slice a la.length c) ∧ ArmsPk W.heap.size w' la a c m ∧ Below W.heap.size W w') := by
    intro W h
    refine (l_toArmsM la (fun x hx => l_toArmM x (hfa x hx)) _ W (HA.out W h) hla2).mono ?_
    rintro e w' ⟨ms, hm, rfl, hr, hb⟩
    have hl : ms.length = la.length := by rw [← hm, List.length_map]
    exact ⟨_, _, _, by rw [hl], armsPk_of hm hr, hb⟩
  obtain ⟨hLF, hLS, hLL⟩ := Stil.normMake_fits hfa
  obtain ⟨L, hL⟩ : ∃ L, L = Stil.normMake la := ⟨_, rfl⟩
  rw [← hL] at HSP HIM hLF hLS hLL
  have HEQ : Hid (∀ W u t, ArmsAt W u L → ArmsAt W t L → Calls Tryz.prog 10 #[u, t] W fun e w' => e = .returned (.bool true) ∧ Below W.heap.size W w') :=
    fun W u t h1 h2 => l_eqLadder L hLF (by omega) u t W h1 h2
  have HMA : Hid (∀ lo W a c m, ArmsPk lo W la a c m → Calls Tryz.prog 11 #[.slice a la.length c, .int .i64 1] W fun e w' => e = .returned (.int .i64 (1 + m.kps.length)) ∧ Marked W w' m.kps 1) := fun lo W a c m h => h.mark hfa hts2
  have HML : Hid (∀ lo W a c m, ArmsPk lo W L a c m → Calls Tryz.prog 11 #[.slice a L.length c, .int .i64 1] W fun e w' => e = .returned (.int .i64 (1 + m.kps.length)) ∧ Marked W w' m.kps 1) := fun lo W a c m h => h.mark hLF (by omega)
  have HHL : Hid (∀ lo W W' a c m, ArmsPk lo W L a c m → Marked W W' m.kps 1 → ∀ V, Below W'.heap.size W' V → Calls Tryz.prog 12 #[.slice a L.length c, .int .i64 1] V fun e w' => e = .returned (.int .i64 (1 + m.kps.length)) ∧ Below V.heap.size V w') := fun lo W W' a c m h hm V hV => h.held hm hV hLF (by omega)
  clear hL hLF hLS hLL hfa HRW HET hts2
  go_enter Tryz.func3, Tryz.ntmps3
  go_wp2_with (go_at_call 6; refine (SA.out _ (by (repeat (first | with_reducible exact Below.refl _ _ | with_reducible assumption | with_reducible refine bl_set (by first | exact Nat.le_refl _ | (simp; done) | (simp; omega) | omega) ?_ _ | with_reducible refine bl_alloc ?_ _ | with_reducible refine bl_drewN ?_ _ | with_reducible refine bl_drew ?_ | with_reducible refine bl_grow ?_ _ _ | with_reducible refine bl_call ?_ (by assumption)))) _ (by omega) (by omega)).mono ?_; rw [HZ.out]; rintro e w1 ⟨rfl, hb1⟩)
  go_wp2_with (go_at_call 8; refine (HCP.out _ (by (repeat (first | with_reducible exact Below.refl _ _ | with_reducible assumption | with_reducible refine bl_set (by first | exact Nat.le_refl _ | (simp; done) | (simp; omega) | omega) ?_ _ | with_reducible refine bl_alloc ?_ _ | with_reducible refine bl_drewN ?_ _ | with_reducible refine bl_drew ?_ | with_reducible refine bl_grow ?_ _ _ | with_reducible refine bl_call ?_ (by assumption))))).mono ?_; rintro e w3 ⟨a3, c3, m3, rfl, P3, hb3⟩)
  have HG3 : Hid (∀ W, Below w3.heap.size w3 W → ArmsAt W (.slice a3 la.length c3) la) := fun W h => (P3.below h).2.2.2.2.2.2.2.1.at
  clear P3
  go_wp2_with (go_at_call 7; refine (HSP.out _ _ (HG3.out _ (by (repeat (first | with_reducible exact Below.refl _ _ | with_reducible assumption | with_reducible refine bl_set (by first | exact Nat.le_refl _ | (simp; done) | (simp; omega) | omega) ?_ _ | with_reducible refine bl_alloc ?_ _ | with_reducible refine bl_drewN ?_ _ | with_reducible refine bl_drew ?_ | with_reducible refine bl_grow ?_ _ _ | with_reducible refine bl_call ?_ (by assumption)))))).mono ?_; rintro e w5 ⟨a5, c5, rfl, g5, hb5⟩)
  have HG5 : Hid (∀ W, Below w5.heap.size w5 W → ArmsAt W (.slice a5 L.length c5) L) := fun W h => g5.at.below h
  clear HG3 g5 HSP
  have hw5 : w.heap.size ≤ w5.heap.size := (by (repeat (first | with_reducible exact Below.refl _ _ | with_reducible assumption | with_reducible refine bl_set (by first | exact Nat.le_refl _ | (simp; done) | (simp; omega) | omega) ?_ _ | with_reducible refine bl_alloc ?_ _ | with_reducible refine bl_drewN ?_ _ | with_reducible refine bl_drew ?_ | with_reducible refine bl_grow ?_ _ _ | with_reducible refine bl_call ?_ (by assumption))) : Below w.heap.size w w5).size
  go_wp2_with (go_at_call 8; refine (HCP.out _ (by (repeat (first | with_reducible exact Below.refl _ _ | with_reducible assumption | with_reducible refine bl_set (by first | exact Nat.le_refl _ | (simp; done) | (simp; omega) | omega) ?_ _ | with_reducible refine bl_alloc ?_ _ | with_reducible refine bl_drewN ?_ _ | with_reducible refine bl_drew ?_ | with_reducible refine bl_grow ?_ _ _ | with_reducible refine bl_call ?_ (by assumption))))).mono ?_; rintro e w6 ⟨a6, c6, m6, rfl, P6, hb6⟩)
  have hlo6 : w5.heap.size ≤ w6.heap.size := (by (repeat (first | with_reducible exact Below.refl _ _ | with_reducible assumption | with_reducible refine bl_set (by first | exact Nat.le_refl _ | (simp; done) | (simp; omega) | omega) ?_ _ | with_reducible refine bl_alloc ?_ _ | with_reducible refine bl_drewN ?_ _ | with_reducible refine bl_drew ?_ | with_reducible refine bl_grow ?_ _ _ | with_reducible refine bl_call ?_ (by assumption))) : Below w5.heap.size w5 w6).size
  have HP6 : Hid (∀ W, Below w6.heap.size w6 W → ArmsPk w5.heap.size W la a6 c6 m6) := fun W h => (P6.below h).mono (Nat.le_refl _)
  obtain ⟨k6, hk6⟩ : ∃ k : Nat, k = m6.kps.length := ⟨_, rfl⟩
  have hkn : ¬ (1 + (k6 : Int) < 0) := by omega
  have HK6 : Hid (k6 = m6.kps.length) := hk6
  have HLO : Hid (∀ p ∈ m6.kps, w5.heap.size ≤ p.1 ∧ p.1 < w6.heap.size) := fun p hp => ⟨P6.2.2.2.2.1 p hp, P6.lt p hp⟩
  clear P6 hk6
  go_wp2_with (go_at_call 9; refine (HIM.out _ _ w6.heap.size (by (repeat (first | with_reducible exact Below.refl _ _ | with_reducible assumption | with_reducible refine bl_set (by first | exact Nat.le_refl _ | (simp; done) | (simp; omega) | omega) ?_ _ | with_reducible refine bl_alloc ?_ _ | with_reducible refine bl_drewN ?_ _ | with_reducible refine bl_drew ?_ | with_reducible refine bl_grow ?_ _ _ | with_reducible refine bl_call ?_ (by assumption)))) ((by (repeat (first | with_reducible exact Below.refl _ _ | with_reducible assumption | with_reducible refine bl_set (by first | exact Nat.le_refl _ | (simp; done) | (simp; omega) | omega) ?_ _ | with_reducible refine bl_alloc ?_ _ | with_reducible refine bl_drewN ?_ _ | with_reducible refine bl_drew ?_ | with_reducible refine bl_grow ?_ _ _ | with_reducible refine bl_call ?_ (by assumption))) : Below w6.heap.size w6 _).size) ((HP6.out _ (by (repeat (first | with_reducible exact Below.refl _ _ | with_reducible assumption | with_reducible refine bl_set (by first | exact Nat.le_refl _ | (simp; done) | (simp; omega) | omega) ?_ _ | with_reducible refine bl_alloc ?_ _ | with_reducible refine bl_drewN ?_ _ | with_reducible refine bl_drew ?_ | with_reducible refine bl_grow ?_ _ _ | with_reducible refine bl_call ?_ (by assumption))))).2.2.2.2.2.2.2.1.at)).mono ?_; rintro e w8 ⟨a8, c8, m8, rfl, P8, hb8⟩)
  have HP8 : Hid (∀ W, Below w8.heap.size w8 W → ArmsPk w6.heap.size W L a8 c8 m8) := fun W h => P8.below h
  clear P8
  go_wp2_with (go_at_call 10; refine (HEQ.out _ _ _ ((HP8.out _ (by (repeat (first | with_reducible exact Below.refl _ _ | with_reducible assumption | with_reducible refine bl_set (by first | exact Nat.le_refl _ | (simp; done) | (simp; omega) | omega) ?_ _ | with_reducible refine bl_alloc ?_ _ | with_reducible refine bl_drewN ?_ _ | with_reducible refine bl_drew ?_ | with_reducible refine bl_grow ?_ _ _ | with_reducible refine bl_call ?_ (by assumption))))).2.2.2.2.2.2.2.1.at) (HG5.out _ (by (repeat (first | with_reducible exact Below.refl _ _ | with_reducible assumption | with_reducible refine bl_set (by first | exact Nat.le_refl _ | (simp; done) | (simp; omega) | omega) ?_ _ | with_reducible refine bl_alloc ?_ _ | with_reducible refine bl_drewN ?_ _ | with_reducible refine bl_drew ?_ | with_reducible refine bl_grow ?_ _ _ | with_reducible refine bl_call ?_ (by assumption)))))).mono ?_; rintro e w9a ⟨rfl, hb9a⟩)
  go_wp2_with (go_at_call 8; refine (HCP.out _ (by (repeat (first | with_reducible exact Below.refl _ _ | with_reducible assumption | with_reducible refine bl_set (by first | exact Nat.le_refl _ | (simp; done) | (simp; omega) | omega) ?_ _ | with_reducible refine bl_alloc ?_ _ | with_reducible refine bl_drewN ?_ _ | with_reducible refine bl_drew ?_ | with_reducible refine bl_grow ?_ _ _ | with_reducible refine bl_call ?_ (by assumption))))).mono ?_; rintro e w9 ⟨a9, c9, m9, rfl, P9, hb9⟩)
  have HG9 : Hid (∀ W, Below w9.heap.size w9 W → ArmsAt W (.slice a9 la.length c9) la) := fun W h => (P9.below h).2.2.2.2.2.2.2.1.at
  clear P9
  go_wp2_with (go_at_call 10; refine (l_eqLadder la HFA.out hla2 _ _ _ ((HP6.out _ (by (repeat (first | with_reducible exact Below.refl _ _ | with_reducible assumption | with_reducible refine bl_set (by first | exact Nat.le_refl _ | (simp; done) | (simp; omega) | omega) ?_ _ | with_reducible refine bl_alloc ?_ _ | with_reducible refine bl_drewN ?_ _ | with_reducible refine bl_drew ?_ | with_reducible refine bl_grow ?_ _ _ | with_reducible refine bl_call ?_ (by assumption))))).2.2.2.2.2.2.2.1.at) (HG9.out _ (by (repeat (first | with_reducible exact Below.refl _ _ | with_reducible assumption | with_reducible refine bl_set (by first | exact Nat.le_refl _ | (simp; done) | (simp; omega) | omega) ?_ _ | with_reducible refine bl_alloc ?_ _ | with_reducible refine bl_drewN ?_ _ | with_reducible refine bl_drew ?_ | with_reducible refine bl_grow ?_ _ _ | with_reducible refine bl_call ?_ (by assumption)))))).mono ?_; rintro e w10 ⟨rfl, hb10⟩)
  clear HG9
  have HMK : Hid (∀ W, Below w.heap.size w W → Below w5.heap.size w5 W → Below w6.heap.size w6 W → Below w8.heap.size w8 W → Calls Tryz.prog 11 #[.slice a6 la.length c6, .int .i64 1] W fun e w' => e = .returned (.int .i64 (1 + k6)) ∧ Below w.heap.size w w' ∧ Below w5.heap.size w5 w' ∧ ArmsPk w6.heap.size w' L a8 c8 m8) := by
    intro W h0 h5 h6 h8
    refine (HMA.out _ W a6 c6 m6 (HP6.out W h6)).mono ?_
    rintro e w' ⟨rfl, hm⟩
    exact ⟨by rw [HK6.out], h0.trans (hm.2.2.2.2 _ h0.size (fun p hp => Nat.le_trans hw5 (HLO.out p hp).1)), h5.trans (hm.2.2.2.2 _ h5.size (fun p hp => (HLO.out p hp).1)), (HP8.out W h8).marked hm (fun p hp => (HLO.out p hp).2)⟩
  clear HLO HMA HK6
  go_wp2_with (go_at_call 11; refine (HMK.out _ (by (repeat (first | with_reducible exact Below.refl _ _ | with_reducible assumption | with_reducible refine bl_set (by first | exact Nat.le_refl _ | (simp; done) | (simp; omega) | omega) ?_ _ | with_reducible refine bl_alloc ?_ _ | with_reducible refine bl_drewN ?_ _ | with_reducible refine bl_drew ?_ | with_reducible refine bl_grow ?_ _ _ | with_reducible refine bl_call ?_ (by assumption)))) (by (repeat (first | with_reducible exact Below.refl _ _ | with_reducible assumption | with_reducible refine bl_set (by first | exact Nat.le_refl _ | (simp; done) | (simp; omega) | omega) ?_ _ | with_reducible refine bl_alloc ?_ _ | with_reducible refine bl_drewN ?_ _ | with_reducible refine bl_drew ?_ | with_reducible refine bl_grow ?_ _ _ | with_reducible refine bl_call ?_ (by assumption)))) (by (repeat (first | with_reducible exact Below.refl _ _ | with_reducible assumption | with_reducible refine bl_set (by first | exact Nat.le_refl _ | (simp; done) | (simp; omega) | omega) ?_ _ | with_reducible refine bl_alloc ?_ _ | with_reducible refine bl_drewN ?_ _ | with_reducible refine bl_drew ?_ | with_reducible refine bl_grow ?_ _ _ | with_reducible refine bl_call ?_ (by assumption)))) (by (repeat (first | with_reducible exact Below.refl _ _ | with_reducible assumption | with_reducible refine bl_set (by first | exact Nat.le_refl _ | (simp; done) | (simp; omega) | omega) ?_ _ | with_reducible refine bl_alloc ?_ _ | with_reducible refine bl_drewN ?_ _ | with_reducible refine bl_drew ?_ | with_reducible refine bl_grow ?_ _ _ | with_reducible refine bl_call ?_ (by assumption))))).mono ?_; rintro e w11 ⟨rfl, hb11, hb11b, P11⟩)
  have HP11 : Hid (∀ W, Below w11.heap.size w11 W → ArmsPk w6.heap.size W L a8 c8 m8) := fun W h => P11.below h
  clear P11 HMK HP8 HP6
  go_wp2_with (go_at_call 10; refine (HEQ.out _ _ _ ((HP11.out _ (by (repeat (first | with_reducible exact Below.refl _ _ | with_reducible assumption | with_reducible refine bl_set (by first | exact Nat.le_refl _ | (simp; done) | (simp; omega) | omega) ?_ _ | with_reducible refine bl_alloc ?_ _ | with_reducible refine bl_drewN ?_ _ | with_reducible refine bl_drew ?_ | with_reducible refine bl_grow ?_ _ _ | with_reducible refine bl_call ?_ (by assumption))))).2.2.2.2.2.2.2.1.at) (HG5.out _ (by (repeat (first | with_reducible exact Below.refl _ _ | with_reducible assumption | with_reducible refine bl_set (by first | exact Nat.le_refl _ | (simp; done) | (simp; omega) | omega) ?_ _ | with_reducible refine bl_alloc ?_ _ | with_reducible refine bl_drewN ?_ _ | with_reducible refine bl_drew ?_ | with_reducible refine bl_grow ?_ _ _ | with_reducible refine bl_call ?_ (by assumption)))))).mono ?_; rintro e w12 ⟨rfl, hb12⟩)
  obtain ⟨k8, hk8⟩ : ∃ k : Nat, k = m8.kps.length := ⟨_, rfl⟩
  have hmn : ¬ (1 + (k8 : Int) < 0) := by omega
  have HMR : Hid (∀ W, Below w.heap.size w W → Below w5.heap.size w5 W → Below w11.heap.size w11 W → Calls Tryz.prog 11 #[.slice a8 L.length c8, .int .i64 1] W fun e w' => e = .returned (.int .i64 (1 + k8)) ∧ Below w.heap.size w w' ∧ Below w5.heap.size w5 w' ∧ ∀ V, Below w'.heap.size w' V → Calls Tryz.prog 12 #[.slice a8 L.length c8, .int .i64 1] V fun e w'' => e = .returned (.int .i64 (1 + k8)) ∧ Below V.heap.size V w'') := by
    intro W h0 h5 h11
    have hP := HP11.out W h11
    have hlo := hP.2.2.2.2.1
    refine (HML.out _ W a8 c8 m8 hP).mono ?_
    rintro e w' ⟨rfl, hm⟩
    refine ⟨by rw [hk8], h0.trans (hm.2.2.2.2 _ h0.size (fun p hp => Nat.le_trans hw5 (Nat.le_trans hlo6 (hlo p hp)))), h5.trans (hm.2.2.2.2 _ h5.size (fun p hp => Nat.le_trans hlo6 (hlo p hp))), fun V hV => ?_⟩
    rw [hk8]
    exact HHL.out _ W w' a8 c8 m8 hP hm V hV
  clear hk8 HML HHL
  go_wp2_with (go_at_call 11; refine (HMR.out _ (by (repeat (first | with_reducible exact Below.refl _ _ | with_reducible assumption | with_reducible refine bl_set (by first | exact Nat.le_refl _ | (simp; done) | (simp; omega) | omega) ?_ _ | with_reducible refine bl_alloc ?_ _ | with_reducible refine bl_drewN ?_ _ | with_reducible refine bl_drew ?_ | with_reducible refine bl_grow ?_ _ _ | with_reducible refine bl_call ?_ (by assumption)))) (by (repeat (first | with_reducible exact Below.refl _ _ | with_reducible assumption | with_reducible refine bl_set (by first | exact Nat.le_refl _ | (simp; done) | (simp; omega) | omega) ?_ _ | with_reducible refine bl_alloc ?_ _ | with_reducible refine bl_drewN ?_ _ | with_reducible refine bl_drew ?_ | with_reducible refine bl_grow ?_ _ _ | with_reducible refine bl_call ?_ (by assumption)))) (by (repeat (first | with_reducible exact Below.refl _ _ | with_reducible assumption | with_reducible refine bl_set (by first | exact Nat.le_refl _ | (simp; done) | (simp; omega) | omega) ?_ _ | with_reducible refine bl_alloc ?_ _ | with_reducible refine bl_drewN ?_ _ | with_reducible refine bl_drew ?_ | with_reducible refine bl_grow ?_ _ _ | with_reducible refine bl_call ?_ (by assumption))))).mono ?_; rintro e w13 ⟨rfl, hb13, hb13b, hh13⟩)
  have HH : Hid (∀ W, Below w13.heap.size w13 W → Calls Tryz.prog 12 #[.slice a8 L.length c8, .int .i64 1] W fun e w' => e = .returned (.int .i64 (1 + k8)) ∧ Below W.heap.size W w') := hh13
  clear HMR HP11 hh13
  go_wp2_with (go_at_call 12; refine (HH.out _ (by (repeat (first | with_reducible exact Below.refl _ _ | with_reducible assumption | with_reducible refine bl_set (by first | exact Nat.le_refl _ | (simp; done) | (simp; omega) | omega) ?_ _ | with_reducible refine bl_alloc ?_ _ | with_reducible refine bl_drewN ?_ _ | with_reducible refine bl_drew ?_ | with_reducible refine bl_grow ?_ _ _ | with_reducible refine bl_call ?_ (by assumption))))).mono ?_; rintro e w14 ⟨rfl, hb14⟩)
  go_wp2_with (go_at_call 8; refine (HCP.out _ (by (repeat (first | with_reducible exact Below.refl _ _ | with_reducible assumption | with_reducible refine bl_set (by first | exact Nat.le_refl _ | (simp; done) | (simp; omega) | omega) ?_ _ | with_reducible refine bl_alloc ?_ _ | with_reducible refine bl_drewN ?_ _ | with_reducible refine bl_drew ?_ | with_reducible refine bl_grow ?_ _ _ | with_reducible refine bl_call ?_ (by assumption))))).mono ?_; rintro e w15 ⟨a15, c15, m15, rfl, P15, hb15⟩)
  have HG15 : Hid (∀ W, Below w15.heap.size w15 W → ArmsAt W (.slice a15 la.length c15) la) := fun W h => (P15.below h).2.2.2.2.2.2.2.1.at
  clear P15
  go_wp2_with (go_at_call 9; refine (HIM.out _ _ 0 (by (repeat (first | with_reducible exact Below.refl _ _ | with_reducible assumption | with_reducible refine bl_set (by first | exact Nat.le_refl _ | (simp; done) | (simp; omega) | omega) ?_ _ | with_reducible refine bl_alloc ?_ _ | with_reducible refine bl_drewN ?_ _ | with_reducible refine bl_drew ?_ | with_reducible refine bl_grow ?_ _ _ | with_reducible refine bl_call ?_ (by assumption)))) (Nat.zero_le _) (HG15.out _ (by (repeat (first | with_reducible exact Below.refl _ _ | with_reducible assumption | with_reducible refine bl_set (by first | exact Nat.le_refl _ | (simp; done) | (simp; omega) | omega) ?_ _ | with_reducible refine bl_alloc ?_ _ | with_reducible refine bl_drewN ?_ _ | with_reducible refine bl_drew ?_ | with_reducible refine bl_grow ?_ _ _ | with_reducible refine bl_call ?_ (by assumption)))))).mono ?_; rintro e w16 ⟨a16, c16, m16, rfl, P16, hb16⟩)
  have HP16 : Hid (∀ W, Below w16.heap.size w16 W → ArmsAt W (.slice a16 L.length c16) L) := fun W h => (P16.below h).2.2.2.2.2.2.2.1.at
  clear P16
  go_wp2_with (go_at_call 10; refine (HEQ.out _ _ _ (HP16.out _ (by (repeat (first | with_reducible exact Below.refl _ _ | with_reducible assumption | with_reducible refine bl_set (by first | exact Nat.le_refl _ | (simp; done) | (simp; omega) | omega) ?_ _ | with_reducible refine bl_alloc ?_ _ | with_reducible refine bl_drewN ?_ _ | with_reducible refine bl_drew ?_ | with_reducible refine bl_grow ?_ _ _ | with_reducible refine bl_call ?_ (by assumption))))) (HG5.out _ (by (repeat (first | with_reducible exact Below.refl _ _ | with_reducible assumption | with_reducible refine bl_set (by first | exact Nat.le_refl _ | (simp; done) | (simp; omega) | omega) ?_ _ | with_reducible refine bl_alloc ?_ _ | with_reducible refine bl_drewN ?_ _ | with_reducible refine bl_drew ?_ | with_reducible refine bl_grow ?_ _ _ | with_reducible refine bl_call ?_ (by assumption)))))).mono ?_; rintro e w17 ⟨rfl, hb17⟩)
  go_wp2_with (go_at_call 12; refine (HH.out _ (by (repeat (first | with_reducible exact Below.refl _ _ | with_reducible assumption | with_reducible refine bl_set (by first | exact Nat.le_refl _ | (simp; done) | (simp; omega) | omega) ?_ _ | with_reducible refine bl_alloc ?_ _ | with_reducible refine bl_drewN ?_ _ | with_reducible refine bl_drew ?_ | with_reducible refine bl_grow ?_ _ _ | with_reducible refine bl_call ?_ (by assumption))))).mono ?_; rintro e w18 ⟨rfl, hb18⟩)
  go_ret
  exact ⟨rfl, by (repeat (first | with_reducible exact Below.refl _ _ | with_reducible assumption | with_reducible refine bl_set (by first | exact Nat.le_refl _ | (simp; done) | (simp; omega) | omega) ?_ _ | with_reducible refine bl_alloc ?_ _ | with_reducible refine bl_drewN ?_ _ | with_reducible refine bl_drew ?_ | with_reducible refine bl_grow ?_ _ _ | with_reducible refine bl_call ?_ (by assumption)))⟩
end Go.Proofs.YtbllmkmdaenglaaGreatDoor
