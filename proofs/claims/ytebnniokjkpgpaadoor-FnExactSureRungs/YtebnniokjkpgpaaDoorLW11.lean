/- The law on SureRungs: the walk. -/
import Derived.Test.YtebnniokjkpgpaaDoorLW10
import Derived.Test.YtebnniokjkpgpaaDoorN7
namespace Go.Proofs.YtebnniokjkpgpaaDoor
open Go.RowKit Go.Sort Go.BigFrame
set_option maxHeartbeats 4000000 in
set_option maxRecDepth 100000 in
theorem law_sureRungs (v : Value) (la : List Stil.Inst) (w : World) (hrow : RowsAt w) (hlw : LWordsAt w) (hav : InstsAt w v la) (wfa : ∀ x ∈ la, x.wf) (hla : la.length ≤ 9223372036854775807) :
    Calls Tryd.prog 4 #[v] w fun e w' => e = .returned (.bool true) ∧ Below w.heap.size w w' := by
  have HA : Hid (∀ W, Below w.heap.size w W → InstsAt W v la) := fun W h => hav.below h
  have SA : Hid (∀ W, Below w.heap.size w W → ∀ q, 0 ≤ q → q ≤ 1048576 → Calls Tryd.prog 5 #[v, .int .i64 q] W fun e w' => e = .returned (.int .i64 (szL q (Stil.instsSz la))) ∧ Below W.heap.size W w') := fun W h q => l_szList la wfa hla v q W (hav.below h)
  have FA : Hid (Stil.instsSz la ≤ 1048576 → (∀ x ∈ la, x.fits) ∧ la.length ≤ 1048576) := Stil.insts_fit wfa
  have HRW : Hid (∀ W, Below w.heap.size w W → RowsAt W) := fun W h => hrow.below h
  have HET : Hid (∀ W, Below w.heap.size w W → LWordsAt W) := fun W h => hlw.below h
  clear hrow hlw
  obtain ⟨p0, r0, rfl, _⟩ := hav
  obtain ⟨sa, hsa⟩ : ∃ s, s = Stil.instsSz la := ⟨_, rfl⟩
  rw [← hsa] at SA FA
  clear wfa hsa
  by_cases h1 : (1048576 : Int) - sa < 0
  · have HZ : Hid (szL 1048576 sa = -1) := szL_neg h1
    clear h1
    go_enter Tryd.func4, Tryd.ntmps4
    go_wp2_with (go_at_call 5; refine (SA.out _ (by (repeat (first | with_reducible exact Below.refl _ _ | with_reducible assumption | with_reducible refine bl_set (by first | exact Nat.le_refl _ | (simp; done) | (simp; omega) | omega) ?_ _ | with_reducible refine bl_alloc ?_ _ | with_reducible refine bl_drewN ?_ _ | with_reducible refine bl_drew ?_ | with_reducible refine bl_grow ?_ _ _ | with_reducible refine bl_call ?_ (by assumption)))) _ (by omega) (by omega)).mono ?_; rw [HZ.out]; rintro e w1 ⟨rfl, hb1⟩)
    go_ret
    exact ⟨rfl, by (repeat (first | with_reducible exact Below.refl _ _ | with_reducible assumption | with_reducible refine bl_set (by first | exact Nat.le_refl _ | (simp; done) | (simp; omega) | omega) ?_ _ | with_reducible refine bl_alloc ?_ _ | with_reducible refine bl_drewN ?_ _ | with_reducible refine bl_drew ?_ | with_reducible refine bl_grow ?_ _ _ | with_reducible refine bl_call ?_ (by assumption)))⟩
  obtain ⟨q1, hq1⟩ : ∃ q1 : Int, q1 = 1048576 - sa := ⟨_, rfl⟩
  have hq10 : 0 ≤ q1 := by omega
  have HZ : Hid (szL 1048576 sa = q1) := by show _ = _; rw [szL_nn h1, hq1]
  obtain ⟨hfa, hla2⟩ := FA.out (by omega)
  have HFA : Hid (∀ x ∈ la, x.fits) := hfa
  clear h1 hq1 FA
  have HSP : Hid (∀ W b, InstsAt W (.slice (some ⟨b, 0, none⟩) la.length la.length) la → Calls Tryd.prog 11 #[.slice (some ⟨b, 0, none⟩) la.length la.length] W fun e w' => ∃ (a : Option Addr) (cap : Nat), e = .returned (.slice a (Stil.sureRungs la).length cap) ∧ InstssFrom W.heap.size w' (.slice a (Stil.sureRungs la).length cap) (Stil.sureRungs la) ∧ Below W.heap.size W w') :=
    fun W b h => s_sureRungs la _ W h hla2 hfa (fun a n c e => by cases e; exact Nat.le_refl _)
  have HIM : Hid (∀ W u lo, Below w.heap.size w W → lo ≤ W.heap.size → InstsAt W u la → Calls Tryd.prog 12 #[u] W fun e w' => ∃ (a : Option Addr) (cap : Nat) (B : Nat) (rs : List Rw), e = .returned (.slice a (Stil.sureRungs la).length cap) ∧ RungsOut lo w' (.slice a (Stil.sureRungs la).length cap) (Stil.sureRungs la) B rs ∧ Below W.heap.size W w') := by
    intro W u lo hW hlo hu
    refine (i_sureRungs la u W (HRW.out W hW) (HET.out W hW) hu hla2 hfa).mono ?_
    rintro e w' ⟨a, cap, B, rs, rfl, hR, hb⟩
    exact ⟨a, cap, B, rs, rfl, hR.mono hlo, hb⟩
  have hLF := Stil.sureRungs_fits hfa
  obtain ⟨L, hL⟩ : ∃ L, L = Stil.sureRungs la := ⟨_, rfl⟩
  rw [← hL] at HSP HIM hLF
  have HEQ : Hid (∀ W u t, InstssAt W u L → InstssAt W t L → Calls Tryd.prog 13 #[u, t] W fun e w' => e = .returned (.bool true) ∧ Below W.heap.size W w') :=
    fun W u t h1 h2 => l_eqInstss L (fun r hr => ⟨(hLF.1 r hr).1, by have := (hLF.1 r hr).2; omega⟩) u t W h1 h2 (by omega)
  clear hL hLF hfa HRW HET
  go_enter Tryd.func4, Tryd.ntmps4
  go_wp2_with (go_at_call 5; refine (SA.out _ (by (repeat (first | with_reducible exact Below.refl _ _ | with_reducible assumption | with_reducible refine bl_set (by first | exact Nat.le_refl _ | (simp; done) | (simp; omega) | omega) ?_ _ | with_reducible refine bl_alloc ?_ _ | with_reducible refine bl_drewN ?_ _ | with_reducible refine bl_drew ?_ | with_reducible refine bl_grow ?_ _ _ | with_reducible refine bl_call ?_ (by assumption)))) _ (by omega) (by omega)).mono ?_; rw [HZ.out]; rintro e w1 ⟨rfl, hb1⟩)
  go_wp2_with (go_at_call 7; refine (l_toList la HFA.out hla2 _ _ (HA.out _ (by (repeat (first | with_reducible exact Below.refl _ _ | with_reducible assumption | with_reducible refine bl_set (by first | exact Nat.le_refl _ | (simp; done) | (simp; omega) | omega) ?_ _ | with_reducible refine bl_alloc ?_ _ | with_reducible refine bl_drewN ?_ _ | with_reducible refine bl_drew ?_ | with_reducible refine bl_grow ?_ _ _ | with_reducible refine bl_call ?_ (by assumption)))))).mono ?_; rintro e w3 ⟨b3, rfl, g3, hb3⟩)
  have HG3 : Hid (∀ W, Below w3.heap.size w3 W → InstsAt W (.slice (some ⟨b3, 0, none⟩) la.length la.length) la) := fun W h => g3.below h
  clear g3
  go_wp2_with (go_at_call 11; refine (HSP.out _ _ (HG3.out _ (by (repeat (first | with_reducible exact Below.refl _ _ | with_reducible assumption | with_reducible refine bl_set (by first | exact Nat.le_refl _ | (simp; done) | (simp; omega) | omega) ?_ _ | with_reducible refine bl_alloc ?_ _ | with_reducible refine bl_drewN ?_ _ | with_reducible refine bl_drew ?_ | with_reducible refine bl_grow ?_ _ _ | with_reducible refine bl_call ?_ (by assumption)))))).mono ?_; rintro e w5 ⟨a5, c5, rfl, g5, hb5⟩)
  have HG5 : Hid (∀ W, Below w5.heap.size w5 W → InstssAt W (.slice a5 L.length c5) L) := fun W h => g5.at.below h
  clear HG3 g5 HSP
  have hw5 : w.heap.size ≤ w5.heap.size := (by (repeat (first | with_reducible exact Below.refl _ _ | with_reducible assumption | with_reducible refine bl_set (by first | exact Nat.le_refl _ | (simp; done) | (simp; omega) | omega) ?_ _ | with_reducible refine bl_alloc ?_ _ | with_reducible refine bl_drewN ?_ _ | with_reducible refine bl_drew ?_ | with_reducible refine bl_grow ?_ _ _ | with_reducible refine bl_call ?_ (by assumption))) : Below w.heap.size w w5).size
  go_wp2_with (go_at_call 7; refine (l_toListM la HFA.out hla2 _ _ (HA.out _ (by (repeat (first | with_reducible exact Below.refl _ _ | with_reducible assumption | with_reducible refine bl_set (by first | exact Nat.le_refl _ | (simp; done) | (simp; omega) | omega) ?_ _ | with_reducible refine bl_alloc ?_ _ | with_reducible refine bl_drewN ?_ _ | with_reducible refine bl_drew ?_ | with_reducible refine bl_grow ?_ _ _ | with_reducible refine bl_call ?_ (by assumption)))))).mono ?_; rintro e w6 ⟨b6, qs6, rfl, sh6, n6, nd6, g6, lo6, len6, hb6⟩; have HLO : Hid (∀ p ∈ instPs b6 0 qs6, w5.heap.size ≤ p.1) := (fun p hp => Nat.le_trans ((by (repeat (first | with_reducible exact Below.refl _ _ | with_reducible assumption | with_reducible refine bl_set (by first | exact Nat.le_refl _ | (simp; done) | (simp; omega) | omega) ?_ _ | with_reducible refine bl_alloc ?_ _ | with_reducible refine bl_drewN ?_ _ | with_reducible refine bl_drew ?_ | with_reducible refine bl_grow ?_ _ _ | with_reducible refine bl_call ?_ (by assumption))) : Below w5.heap.size w5 _).size) (lo6 p hp)); clear lo6)
  have HX6 : Hid (∀ W, Below w6.heap.size w6 W → InstsAt W (.slice (some ⟨b6, 0, none⟩) la.length la.length) la) := fun W h => g6.below h
  obtain ⟨k6, hk6⟩ : ∃ k : Nat, k = (instPs b6 0 qs6).length := ⟨_, rfl⟩
  have hkn : ¬ (1 + (k6 : Int) < 0) := by omega
  have HS6 : Hid (∀ p ∈ instPs b6 0 qs6, p.1 < w6.heap.size) := fun p hp => (n6 p hp).1
  have HM6 : Hid (∀ W, Below w6.heap.size w6 W → Calls Tryd.prog 14 #[.slice (some ⟨b6, 0, none⟩) la.length la.length, .int .i64 1] W fun e w' => e = .returned (.int .i64 (1 + k6)) ∧ Marked W w' (instPs b6 0 qs6) 1) := by
    intro W h6
    rw [hk6]
    exact p_markInsts _ b6 0 qs6 1 W (sh6.below h6) (n6.below h6) nd6 (by omega) (by omega)
  clear g6 sh6 n6 nd6 len6 hk6
  go_wp2_with (go_at_call 12; refine (HIM.out _ _ w6.heap.size (by (repeat (first | with_reducible exact Below.refl _ _ | with_reducible assumption | with_reducible refine bl_set (by first | exact Nat.le_refl _ | (simp; done) | (simp; omega) | omega) ?_ _ | with_reducible refine bl_alloc ?_ _ | with_reducible refine bl_drewN ?_ _ | with_reducible refine bl_drew ?_ | with_reducible refine bl_grow ?_ _ _ | with_reducible refine bl_call ?_ (by assumption)))) ((by (repeat (first | with_reducible exact Below.refl _ _ | with_reducible assumption | with_reducible refine bl_set (by first | exact Nat.le_refl _ | (simp; done) | (simp; omega) | omega) ?_ _ | with_reducible refine bl_alloc ?_ _ | with_reducible refine bl_drewN ?_ _ | with_reducible refine bl_drew ?_ | with_reducible refine bl_grow ?_ _ _ | with_reducible refine bl_call ?_ (by assumption))) : Below w6.heap.size w6 _).size) (HX6.out _ (by (repeat (first | with_reducible exact Below.refl _ _ | with_reducible assumption | with_reducible refine bl_set (by first | exact Nat.le_refl _ | (simp; done) | (simp; omega) | omega) ?_ _ | with_reducible refine bl_alloc ?_ _ | with_reducible refine bl_drewN ?_ _ | with_reducible refine bl_drew ?_ | with_reducible refine bl_grow ?_ _ _ | with_reducible refine bl_call ?_ (by assumption)))))).mono ?_; rintro e w8 ⟨a8, c8, B8, rs8, rfl, R8, hb8⟩)
  have HR8 : Hid (∀ W, Below w8.heap.size w8 W → RungsOut w6.heap.size W (.slice a8 L.length c8) L B8 rs8) := fun W h => R8.below h
  have HL8 : Hid (rs8.length ≤ 1000 ∧ (rowsPs rs8).length ≤ 3145730000000 ∧ (rowsPs rs8).Nodup ∧ ∀ p ∈ rowsPs rs8, w6.heap.size ≤ p.1) := ⟨R8.2.2.2.2.2.2.1, R8.2.2.2.2.2.2.2, R8.2.2.1, R8.2.2.2.1⟩
  clear R8
  go_wp2_with (go_at_call 13; refine (HEQ.out _ _ _ ((HR8.out _ (by (repeat (first | with_reducible exact Below.refl _ _ | with_reducible assumption | with_reducible refine bl_set (by first | exact Nat.le_refl _ | (simp; done) | (simp; omega) | omega) ?_ _ | with_reducible refine bl_alloc ?_ _ | with_reducible refine bl_drewN ?_ _ | with_reducible refine bl_drew ?_ | with_reducible refine bl_grow ?_ _ _ | with_reducible refine bl_call ?_ (by assumption))))).2.2.2.2.2.1.at) (HG5.out _ (by (repeat (first | with_reducible exact Below.refl _ _ | with_reducible assumption | with_reducible refine bl_set (by first | exact Nat.le_refl _ | (simp; done) | (simp; omega) | omega) ?_ _ | with_reducible refine bl_alloc ?_ _ | with_reducible refine bl_drewN ?_ _ | with_reducible refine bl_drew ?_ | with_reducible refine bl_grow ?_ _ _ | with_reducible refine bl_call ?_ (by assumption)))))).mono ?_; rintro e w9a ⟨rfl, hb9a⟩)
  go_wp2_with (go_at_call 7; refine (l_toList la HFA.out hla2 _ _ (HA.out _ (by (repeat (first | with_reducible exact Below.refl _ _ | with_reducible assumption | with_reducible refine bl_set (by first | exact Nat.le_refl _ | (simp; done) | (simp; omega) | omega) ?_ _ | with_reducible refine bl_alloc ?_ _ | with_reducible refine bl_drewN ?_ _ | with_reducible refine bl_drew ?_ | with_reducible refine bl_grow ?_ _ _ | with_reducible refine bl_call ?_ (by assumption)))))).mono ?_; rintro e w9 ⟨b9, rfl, g9, hb9⟩)
  have HG9 : Hid (∀ W, Below w9.heap.size w9 W → InstsAt W (.slice (some ⟨b9, 0, none⟩) la.length la.length) la) := fun W h => g9.below h
  clear g9
  go_wp2_with (go_at_call 10; refine (l_eqList la HFA.out hla2 _ _ _ (HX6.out _ (by (repeat (first | with_reducible exact Below.refl _ _ | with_reducible assumption | with_reducible refine bl_set (by first | exact Nat.le_refl _ | (simp; done) | (simp; omega) | omega) ?_ _ | with_reducible refine bl_alloc ?_ _ | with_reducible refine bl_drewN ?_ _ | with_reducible refine bl_drew ?_ | with_reducible refine bl_grow ?_ _ _ | with_reducible refine bl_call ?_ (by assumption))))) (HG9.out _ (by (repeat (first | with_reducible exact Below.refl _ _ | with_reducible assumption | with_reducible refine bl_set (by first | exact Nat.le_refl _ | (simp; done) | (simp; omega) | omega) ?_ _ | with_reducible refine bl_alloc ?_ _ | with_reducible refine bl_drewN ?_ _ | with_reducible refine bl_drew ?_ | with_reducible refine bl_grow ?_ _ _ | with_reducible refine bl_call ?_ (by assumption)))))).mono ?_; rintro e w10 ⟨rfl, hb10⟩)
  clear HG9 HX6
  have h65 : w5.heap.size ≤ w6.heap.size := (by (repeat (first | with_reducible exact Below.refl _ _ | with_reducible assumption | with_reducible refine bl_set (by first | exact Nat.le_refl _ | (simp; done) | (simp; omega) | omega) ?_ _ | with_reducible refine bl_alloc ?_ _ | with_reducible refine bl_drewN ?_ _ | with_reducible refine bl_drew ?_ | with_reducible refine bl_grow ?_ _ _ | with_reducible refine bl_call ?_ (by assumption))) : Below w5.heap.size w5 w6).size
  have HMK : Hid (∀ W, Below w.heap.size w W → Below w5.heap.size w5 W → Below w6.heap.size w6 W → Below w8.heap.size w8 W → Calls Tryd.prog 14 #[.slice (some ⟨b6, 0, none⟩) la.length la.length, .int .i64 1] W fun e w' => e = .returned (.int .i64 (1 + k6)) ∧ Below w.heap.size w w' ∧ Below w5.heap.size w5 w' ∧ RungsOut w6.heap.size w' (.slice a8 L.length c8) L B8 rs8) := by
    intro W h0 h5 h6 h8
    refine (HM6.out W h6).mono ?_
    rintro e w' ⟨rfl, hm⟩
    exact ⟨rfl, h0.trans (hm.2.2.2.2 _ h0.size (fun p hp => Nat.le_trans hw5 (HLO.out p hp))), h5.trans (hm.2.2.2.2 _ h5.size HLO.out), (HR8.out W h8).marked hm HS6.out⟩
  clear HM6 HLO HS6
  go_wp2_with (go_at_call 14; refine (HMK.out _ (by (repeat (first | with_reducible exact Below.refl _ _ | with_reducible assumption | with_reducible refine bl_set (by first | exact Nat.le_refl _ | (simp; done) | (simp; omega) | omega) ?_ _ | with_reducible refine bl_alloc ?_ _ | with_reducible refine bl_drewN ?_ _ | with_reducible refine bl_drew ?_ | with_reducible refine bl_grow ?_ _ _ | with_reducible refine bl_call ?_ (by assumption)))) (by (repeat (first | with_reducible exact Below.refl _ _ | with_reducible assumption | with_reducible refine bl_set (by first | exact Nat.le_refl _ | (simp; done) | (simp; omega) | omega) ?_ _ | with_reducible refine bl_alloc ?_ _ | with_reducible refine bl_drewN ?_ _ | with_reducible refine bl_drew ?_ | with_reducible refine bl_grow ?_ _ _ | with_reducible refine bl_call ?_ (by assumption)))) (by (repeat (first | with_reducible exact Below.refl _ _ | with_reducible assumption | with_reducible refine bl_set (by first | exact Nat.le_refl _ | (simp; done) | (simp; omega) | omega) ?_ _ | with_reducible refine bl_alloc ?_ _ | with_reducible refine bl_drewN ?_ _ | with_reducible refine bl_drew ?_ | with_reducible refine bl_grow ?_ _ _ | with_reducible refine bl_call ?_ (by assumption)))) (by (repeat (first | with_reducible exact Below.refl _ _ | with_reducible assumption | with_reducible refine bl_set (by first | exact Nat.le_refl _ | (simp; done) | (simp; omega) | omega) ?_ _ | with_reducible refine bl_alloc ?_ _ | with_reducible refine bl_drewN ?_ _ | with_reducible refine bl_drew ?_ | with_reducible refine bl_grow ?_ _ _ | with_reducible refine bl_call ?_ (by assumption))))).mono ?_; rintro e w11 ⟨rfl, hb11, hb11b, R11⟩)
  have HR11 : Hid (∀ W, Below w11.heap.size w11 W → RungsOut w6.heap.size W (.slice a8 L.length c8) L B8 rs8) := fun W h => R11.below h
  clear R11 HMK HR8
  go_wp2_with (go_at_call 13; refine (HEQ.out _ _ _ ((HR11.out _ (by (repeat (first | with_reducible exact Below.refl _ _ | with_reducible assumption | with_reducible refine bl_set (by first | exact Nat.le_refl _ | (simp; done) | (simp; omega) | omega) ?_ _ | with_reducible refine bl_alloc ?_ _ | with_reducible refine bl_drewN ?_ _ | with_reducible refine bl_drew ?_ | with_reducible refine bl_grow ?_ _ _ | with_reducible refine bl_call ?_ (by assumption))))).2.2.2.2.2.1.at) (HG5.out _ (by (repeat (first | with_reducible exact Below.refl _ _ | with_reducible assumption | with_reducible refine bl_set (by first | exact Nat.le_refl _ | (simp; done) | (simp; omega) | omega) ?_ _ | with_reducible refine bl_alloc ?_ _ | with_reducible refine bl_drewN ?_ _ | with_reducible refine bl_drew ?_ | with_reducible refine bl_grow ?_ _ _ | with_reducible refine bl_call ?_ (by assumption)))))).mono ?_; rintro e w12 ⟨rfl, hb12⟩)
  obtain ⟨m8, hm8⟩ : ∃ k : Nat, k = (rowsPs rs8).length := ⟨_, rfl⟩
  have hmn : ¬ (1 + (m8 : Int) < 0) := by omega
  have HMR : Hid (∀ W, Below w.heap.size w W → Below w5.heap.size w5 W → Below w11.heap.size w11 W → Calls Tryd.prog 15 #[.slice a8 L.length c8, .int .i64 1] W fun e w' => e = .returned (.int .i64 (1 + m8)) ∧ Below w.heap.size w w' ∧ Below w5.heap.size w5 w' ∧ HeldAt w' (rowsPs rs8) 1 ∧ RowsSh w' (.slice a8 L.length c8) B8 0 rs8 ∧ ∀ p ∈ rowsPs rs8, p.1 < w'.heap.size) := by
    intro W h0 h5 h11
    obtain ⟨r1, r2, r3, r4, r5, r6, r7, r8⟩ := HR11.out W h11
    rw [hm8]
    refine (p_markRows _ B8 0 rs8 1 W r1 r2 r3 (by omega) (by omega) (by omega)).mono ?_
    rintro e w' ⟨rfl, hm⟩
    exact ⟨rfl, h0.trans (hm.2.2.2.2 _ h0.size (fun p hp => Nat.le_trans hw5 (Nat.le_trans h65 (r4 p hp)))), h5.trans (hm.2.2.2.2 _ h5.size (fun p hp => Nat.le_trans h65 (r4 p hp))), hm.held, r1.marked hm (fun p hp => hp), fun p hp => Nat.lt_of_lt_of_le (r2 p hp).1 hm.1⟩
  have HM8 : Hid (m8 = (rowsPs rs8).length) := hm8
  clear hm8
  go_wp2_with (go_at_call 15; refine (HMR.out _ (by (repeat (first | with_reducible exact Below.refl _ _ | with_reducible assumption | with_reducible refine bl_set (by first | exact Nat.le_refl _ | (simp; done) | (simp; omega) | omega) ?_ _ | with_reducible refine bl_alloc ?_ _ | with_reducible refine bl_drewN ?_ _ | with_reducible refine bl_drew ?_ | with_reducible refine bl_grow ?_ _ _ | with_reducible refine bl_call ?_ (by assumption)))) (by (repeat (first | with_reducible exact Below.refl _ _ | with_reducible assumption | with_reducible refine bl_set (by first | exact Nat.le_refl _ | (simp; done) | (simp; omega) | omega) ?_ _ | with_reducible refine bl_alloc ?_ _ | with_reducible refine bl_drewN ?_ _ | with_reducible refine bl_drew ?_ | with_reducible refine bl_grow ?_ _ _ | with_reducible refine bl_call ?_ (by assumption)))) (by (repeat (first | with_reducible exact Below.refl _ _ | with_reducible assumption | with_reducible refine bl_set (by first | exact Nat.le_refl _ | (simp; done) | (simp; omega) | omega) ?_ _ | with_reducible refine bl_alloc ?_ _ | with_reducible refine bl_drewN ?_ _ | with_reducible refine bl_drew ?_ | with_reducible refine bl_grow ?_ _ _ | with_reducible refine bl_call ?_ (by assumption))))).mono ?_; rintro e w13 ⟨rfl, hb13, hb13b, hh13, sh13, lt13⟩)
  have HH : Hid (∀ W, Below w13.heap.size w13 W → Calls Tryd.prog 16 #[.slice a8 L.length c8, .int .i64 1] W fun e w' => e = .returned (.int .i64 (1 + m8)) ∧ Below W.heap.size W w') := by
    intro W h
    rw [HM8.out]
    have h8 := HL8.out
    refine (p_heldRows _ B8 0 rs8 1 W (sh13.below h) (hh13.below h lt13) (by omega) (by omega) (by omega)).mono ?_
    rintro e w' ⟨rfl, rfl⟩
    exact ⟨rfl, Below.refl _ _⟩
  clear HMR HR11 hh13 sh13 lt13 HM8 HL8
  go_wp2_with (go_at_call 16; refine (HH.out _ (by (repeat (first | with_reducible exact Below.refl _ _ | with_reducible assumption | with_reducible refine bl_set (by first | exact Nat.le_refl _ | (simp; done) | (simp; omega) | omega) ?_ _ | with_reducible refine bl_alloc ?_ _ | with_reducible refine bl_drewN ?_ _ | with_reducible refine bl_drew ?_ | with_reducible refine bl_grow ?_ _ _ | with_reducible refine bl_call ?_ (by assumption))))).mono ?_; rintro e w14 ⟨rfl, hb14⟩)
  go_wp2_with (go_at_call 7; refine (l_toList la HFA.out hla2 _ _ (HA.out _ (by (repeat (first | with_reducible exact Below.refl _ _ | with_reducible assumption | with_reducible refine bl_set (by first | exact Nat.le_refl _ | (simp; done) | (simp; omega) | omega) ?_ _ | with_reducible refine bl_alloc ?_ _ | with_reducible refine bl_drewN ?_ _ | with_reducible refine bl_drew ?_ | with_reducible refine bl_grow ?_ _ _ | with_reducible refine bl_call ?_ (by assumption)))))).mono ?_; rintro e w15 ⟨b15, rfl, g15, hb15⟩)
  have HG15 : Hid (∀ W, Below w15.heap.size w15 W → InstsAt W (.slice (some ⟨b15, 0, none⟩) la.length la.length) la) := fun W h => g15.below h
  clear g15
  go_wp2_with (go_at_call 12; refine (HIM.out _ _ 0 (by (repeat (first | with_reducible exact Below.refl _ _ | with_reducible assumption | with_reducible refine bl_set (by first | exact Nat.le_refl _ | (simp; done) | (simp; omega) | omega) ?_ _ | with_reducible refine bl_alloc ?_ _ | with_reducible refine bl_drewN ?_ _ | with_reducible refine bl_drew ?_ | with_reducible refine bl_grow ?_ _ _ | with_reducible refine bl_call ?_ (by assumption)))) (Nat.zero_le _) (HG15.out _ (by (repeat (first | with_reducible exact Below.refl _ _ | with_reducible assumption | with_reducible refine bl_set (by first | exact Nat.le_refl _ | (simp; done) | (simp; omega) | omega) ?_ _ | with_reducible refine bl_alloc ?_ _ | with_reducible refine bl_drewN ?_ _ | with_reducible refine bl_drew ?_ | with_reducible refine bl_grow ?_ _ _ | with_reducible refine bl_call ?_ (by assumption)))))).mono ?_; rintro e w16 ⟨a16, c16, B16, rs16, rfl, R16, hb16⟩)
  have HR16 : Hid (∀ W, Below w16.heap.size w16 W → InstssAt W (.slice a16 L.length c16) L) := fun W h => (R16.2.2.2.2.2.1.at).below h
  clear R16
  go_wp2_with (go_at_call 13; refine (HEQ.out _ _ _ (HR16.out _ (by (repeat (first | with_reducible exact Below.refl _ _ | with_reducible assumption | with_reducible refine bl_set (by first | exact Nat.le_refl _ | (simp; done) | (simp; omega) | omega) ?_ _ | with_reducible refine bl_alloc ?_ _ | with_reducible refine bl_drewN ?_ _ | with_reducible refine bl_drew ?_ | with_reducible refine bl_grow ?_ _ _ | with_reducible refine bl_call ?_ (by assumption))))) (HG5.out _ (by (repeat (first | with_reducible exact Below.refl _ _ | with_reducible assumption | with_reducible refine bl_set (by first | exact Nat.le_refl _ | (simp; done) | (simp; omega) | omega) ?_ _ | with_reducible refine bl_alloc ?_ _ | with_reducible refine bl_drewN ?_ _ | with_reducible refine bl_drew ?_ | with_reducible refine bl_grow ?_ _ _ | with_reducible refine bl_call ?_ (by assumption)))))).mono ?_; rintro e w17 ⟨rfl, hb17⟩)
  go_wp2_with (go_at_call 16; refine (HH.out _ (by (repeat (first | with_reducible exact Below.refl _ _ | with_reducible assumption | with_reducible refine bl_set (by first | exact Nat.le_refl _ | (simp; done) | (simp; omega) | omega) ?_ _ | with_reducible refine bl_alloc ?_ _ | with_reducible refine bl_drewN ?_ _ | with_reducible refine bl_drew ?_ | with_reducible refine bl_grow ?_ _ _ | with_reducible refine bl_call ?_ (by assumption))))).mono ?_; rintro e w18 ⟨rfl, hb18⟩)
  go_ret
  exact ⟨rfl, by (repeat (first | with_reducible exact Below.refl _ _ | with_reducible assumption | with_reducible refine bl_set (by first | exact Nat.le_refl _ | (simp; done) | (simp; omega) | omega) ?_ _ | with_reducible refine bl_alloc ?_ _ | with_reducible refine bl_drewN ?_ _ | with_reducible refine bl_drew ?_ | with_reducible refine bl_grow ?_ _ _ | with_reducible refine bl_call ?_ (by assumption)))⟩
end Go.Proofs.YtebnniokjkpgpaaDoor
