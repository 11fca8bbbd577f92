/- The program's chapter 8: BackUp. -/
import Derived.Test.YtpaljcoojkbhnaaGreatDoorI34
set_option maxHeartbeats 4000000
set_option maxRecDepth 100000
namespace Go.Proofs.YtpaljcoojkbhnaaGreatDoor
open Go.RowKit Go.Sort Go.BigFrame
theorem i_backCode0 (w : World) : Calls Tryz.prog 40 #[.nilIface] w fun e w' => e = .returned (.int .i64 0) ∧ w' = w := by
 have h : ∀ w : World, (Instr.typeAssert .nilIface 58 61 true).run Tryz.prog w = .ok (.tuple #[.int .i64 0, .bool false]) w := fun w => by kernel_rfl
 go_enter Tryz.func40, Tryz.ntmps40
 go_wp2
 go_ret
 exact ⟨rfl, rfl⟩
theorem i_backCode1 (c : Int) (w : World) : Calls Tryz.prog 40 #[.iface 61 (.int .i64 c)] w fun e w' => e = .returned (.int .i64 c) ∧ w' = w := by
 have h : ∀ w : World, (Instr.typeAssert (.iface 61 (.int .i64 c)) 58 61 true).run Tryz.prog w = .ok (.tuple #[.int .i64 c, .bool true]) w := fun w => by kernel_rfl
 go_enter Tryz.func40, Tryz.ntmps40
 go_wp2
 go_ret
 exact ⟨rfl, rfl⟩
theorem i_backUp_ok (L : List Stil.Inst) (b o cap : Nat) (w : World) (xs : List Stil.Arm) (hrw : RowsAt w) (hlw : LWordsAt w) (hE : ErrTypeAt w) (hat : LAt w b o L) (hl : L.length ≤ 1000) (hft : ∀ x ∈ L, x.fits) (hcap : L.length ≤ cap) (hz : (Stil.sureCheck L).1 = 0) (cs : List (List Stil.Inst)) (hup : Stil.UpR cs xs) (hfl : cs.flatten = L) (hxf : ∀ x ∈ xs, Stil.armFits x) (hxs : Stil.treeSize xs ≤ 4000) (hxl : xs.length ≤ 1000) :
  Calls Tryz.prog 15 #[.slice (some ⟨b, o, none⟩) L.length cap] w fun e w' => UpRet w' w.heap.size (Stil.upOf xs) e ∧ Below w.heap.size w w' := by
 have HL : Hid (Calls Tryz.prog 39 #[.slice (some ⟨b, o, none⟩) L.length cap] w fun e w' => (∃ (a : Option Addr) (c : Nat) (ms : List MArm) (er : Value), e = .returned (.tuple #[.slice a ms.length c, er]) ∧ ms.map MArm.arm = (Stil.upOf xs).1 ∧ ARow w' w.heap.size (.slice a ms.length c) ms ∧ (er = .nilIface ∧ (Stil.upOf xs).2 = 0 ∨ er = .iface 61 (.int .i64 (Stil.upOf xs).2) ∧ 0 < (Stil.upOf xs).2)) ∧ Below w.heap.size w w') := i_backLadder_ok L b o cap w xs hrw hlw hE hat hl hft hcap hz cs hup hfl hxf hxs hxl
 obtain ⟨R, hR⟩ : ∃ R, R = Stil.upOf xs := ⟨_, rfl⟩
 rw [← hR] at HL ⊢
 clear hR hrw hlw hE hat hft hz hup hfl hxf hxs
 go_enter Tryz.func15, Tryz.ntmps15
 go_upto_region 2 with (go_at_call 39; refine HL.out.mono ?_; rintro e w1 ⟨⟨a, c, ms, er, rfl, hn, hr, her⟩, hb1⟩; have HN := hid_of hn; have HR := hid_of hr; have HER := hid_of her; clear hn hr her)
 rcases HER.out with ⟨rfl, h2⟩ | ⟨rfl, h2⟩
 ·have HX : Hid (R.2 = 0) := h2
  clear h2 HER
  go_wp2_with (go_at_call 40; refine (i_backCode0 _).mono ?_; rintro e w2 ⟨rfl, rfl⟩)
  refine bodyPost_ret (v := .tuple #[.slice a ms.length c, .int .i64 0]) (by simp [results, Tryz.results15, go_sem]) rfl ⟨⟨a, c, ms, by rw [HX.out], HN.out, HR.out⟩, hb1⟩
 ·have HX : Hid (0 < R.2) := h2
  clear h2 HER
  go_wp2_with (go_at_call 40; refine (i_backCode1 _ _).mono ?_; rintro e w2 ⟨rfl, rfl⟩)
  refine bodyPost_ret (v := .tuple #[.slice a ms.length c, .int .i64 R.2]) (by simp [results, Tryz.results15, go_sem]) rfl ⟨⟨a, c, ms, rfl, HN.out, HR.out⟩, hb1⟩
theorem i_backUp_bad (L : List Stil.Inst) (v : Value) (w : World) (hrw : RowsAt w) (hlw : LWordsAt w) (hat : InstsAt w v L) (hl : L.length ≤ 1048576) (hft : ∀ x ∈ L, x.fits) (hz : 0 < (Stil.sureCheck L).1) :
  Calls Tryz.prog 15 #[v] w fun e w' => UpRet w' w.heap.size ([], 1) e ∧ Below w.heap.size w w' := by
 have HL : Hid (Calls Tryz.prog 39 #[v] w fun e w' => e = .returned (.tuple #[.slice none 0 0, .iface 61 (.int .i64 1)]) ∧ Below w.heap.size w w') := i_backLadder_bad L v w hrw hlw hat hl hft hz
 obtain ⟨a, cap, rfl, -⟩ := hat
 clear hrw hlw hft hz
 go_enter Tryz.func15, Tryz.ntmps15
 go_wp2_with (first | (go_at_call 39; refine HL.out.mono ?_; rintro e w1 ⟨rfl, hb1⟩) | (go_at_call 40; refine (i_backCode1 _ _).mono ?_; rintro e w2 ⟨rfl, rfl⟩))
 refine bodyPost_ret (v := .tuple #[.slice none 0 0, .int .i64 1]) (by simp [results, Tryz.results15, go_sem]) rfl ⟨⟨none, 0, [], rfl, rfl, ARow.nil _ _⟩, ?_⟩
 assumption
end Go.Proofs.YtpaljcoojkbhnaaGreatDoor
/- The law on BackUp: the walk. -/
namespace Go.Proofs.YtpaljcoojkbhnaaGreatDoor
open Go.RowKit Go.Sort Go.BigFrame
theorem UpRet.pk {w : World} {base : Nat} {R : List Stil.Arm × Int} {e : Ending} (h : UpRet w base R e) : ∃ (a : Option Addr) (c : Nat) (m : MArm), e = .returned (.tuple #[.slice a R.1.length c, .int .i64 R.2]) ∧ ArmsPk base w R.1 a c m := by
 obtain ⟨a, c, ms, rfl, hm, hr⟩ := h
 have hl : ms.length = R.1.length := by rw [← hm, List.length_map]
 exact ⟨a, c, _, by rw [← hl], armsPk_of hm hr⟩
set_option maxHeartbeats 4000000 in
set_option maxRecDepth 100000 in
theorem law_backUp (v : Value) (la : List Stil.Inst) (w : World) (hE : ErrTypeAt w) (hrow : RowsAt w) (hlw : LWordsAt w) (hav : InstsAt w v la) (wfa : ∀ x ∈ la, x.wf) (hla : la.length ≤ 9223372036854775807) :
  Calls Tryz.prog 4 #[v] w fun e w' => e = .returned (.bool true) ∧ Below w.heap.size w w' := by
 have HA : Hid (∀ W, Below w.heap.size w W → InstsAt W v la) := fun W h => hav.below h
 have SA : Hid (∀ W, Below w.heap.size w W → ∀ q, 0 ≤ q → q ≤ 1048576 → Calls Tryz.prog 5 #[v, .int .i64 q] W fun e w' => e = .returned (.int .i64 (szL q (Stil.instsSz la))) ∧ Below W.heap.size W w') := fun W h q => l_szList la wfa hla v q W (hav.below h)
 have FA : Hid (Stil.instsSz la ≤ 1048576 → (∀ x ∈ la, x.fits) ∧ la.length ≤ 1048576) := Stil.insts_fit wfa
 have HRW : Hid (∀ W, Below w.heap.size w W → RowsAt W) := fun W h => hrow.below h
 have HLW : Hid (∀ W, Below w.heap.size w W → LWordsAt W) := fun W h => hlw.below h
 have HET : Hid (∀ W, Below w.heap.size w W → ErrTypeAt W) := fun W h => hE.below h
 clear hrow hlw hE
 obtain ⟨p0, r0, rfl, _⟩ := hav
 obtain ⟨sa, hsa⟩ : ∃ s, s = Stil.instsSz la := ⟨_, rfl⟩
 rw [← hsa] at SA FA
 clear wfa hsa
 by_cases h1 : (1048576 : Int) - sa < 0
 ·have HZ : Hid (szL 1048576 sa = -1) := szL_neg h1
  clear h1
  go_enter Tryz.func4, Tryz.ntmps4
  go_wp2_with (go_at_call 5; refine (SA.out _ blA _ (by omega) (by omega)).mono ?_; rw [HZ.out]; rintro e w1 ⟨rfl, hb1⟩)
  go_ret
  exact ⟨rfl, blA⟩
 obtain ⟨q1, hq1⟩ : ∃ q1 : Int, q1 = 1048576 - sa := ⟨_, rfl⟩
 have hq10 : 0 ≤ q1 := by omega
 have HZ : Hid (szL 1048576 sa = q1) := by show _ = _; rw [szL_nn h1, hq1]
 obtain ⟨hfa, hla2⟩ := FA.out (by omega)
 have HFA : Hid (∀ x ∈ la, x.fits) := hfa
 clear h1 hq1 FA
 obtain ⟨T, Q, HSP, HIM, hLF, hLS, hLL⟩ : ∃ (T : List Stil.Arm) (Q : Int),
   Hid (∀ W b, InstsAt W (.slice (some ⟨b, 0, none⟩) la.length la.length) la → Calls Tryz.prog 14 #[.slice (some ⟨b, 0, none⟩) la.length la.length] W fun e w' => ∃ (a1 : Option Addr) (c1 : Nat) (m : MArm), e = .returned (.tuple #[.slice a1 T.length c1, .int .i64 Q]) ∧ ArmsPk W.heap.size w' T a1 c1 m ∧ Below W.heap.size W w') ∧
   Hid (∀ W b lo, Below w.heap.size w W → lo ≤ W.heap.size → InstsAt W (.slice (some ⟨b, 0, none⟩) la.length la.length) la → Calls Tryz.prog 15 #[.slice (some ⟨b, 0, none⟩) la.length la.length] W fun e w' => ∃ (a1 : Option Addr) (c1 : Nat) (m : MArm), e = .returned (.tuple #[.slice a1 T.length c1, .int .i64 Q]) ∧ ArmsPk lo w' T a1 c1 m ∧ Below W.heap.size W w') ∧ (∀ x ∈ T, Stil.armFits x) ∧ Stil.treeSize T ≤ 4000 ∧ T.length ≤ 1000 := by
  by_cases hbad : 0 < (Stil.sureCheck la).1
  ·refine ⟨[], 1, fun W b h => ?_, fun W b lo hW hlo h => ?_, (fun x hx => by cases hx), by simp [Stil.treeSize], by simp⟩
   ·refine (s_backUp_bad la _ W h hla2 hfa hbad).mono ?_
    rintro e w' ⟨hr, hb⟩
    obtain ⟨a, c, m, he, hp⟩ := hr.pk
    exact ⟨a, c, m, he, hp, hb⟩
   ·refine (i_backUp_bad la _ W (HRW.out W hW) (HLW.out W hW) h hla2 hfa hbad).mono ?_
    rintro e w' ⟨hr, hb⟩
    obtain ⟨a, c, m, he, hp⟩ := hr.pk
    exact ⟨a, c, m, he, hp.mono hlo, hb⟩
  ·have hz : (Stil.sureCheck la).1 = 0 := (Stil.sureCheck_zero la hbad).1
   obtain ⟨xs, hx, hxf, hxs, hxl, hl1, hfl⟩ := Stil.up_there hz hfa
   have hT : (∀ x ∈ (Stil.upOf xs).1, Stil.armFits x) ∧ Stil.treeSize (Stil.upOf xs).1 ≤ 4000 ∧ (Stil.upOf xs).1.length ≤ 1000 := by
    unfold Stil.upOf
    split
    ·exact ⟨(fun x hx => by cases hx), by simp [Stil.treeSize], by simp⟩
    ·exact ⟨hxf, hxs, hxl⟩
   refine ⟨(Stil.upOf xs).1, (Stil.upOf xs).2, fun W b h => ?_, fun W b lo hW hlo h => ?_, hT.1, hT.2.1, hT.2.2⟩
   ·refine (s_backUp_ok la _ W xs h hla2 hfa (fun a n c e => by cases e; exact Nat.le_refl _) hz hx hxf hxs hxl).mono ?_
    rintro e w' ⟨hr, hb⟩
    obtain ⟨a, c, m, he, hp⟩ := hr.pk
    exact ⟨a, c, m, he, hp, hb⟩
   ·have hlat : LAt W b 0 la := by
     obtain ⟨a', cap', e, hc⟩ := h
     cases e
     refine ⟨fun hne => ?_, fun i hi => ?_⟩
     ·obtain ⟨b', o', e', hb', _⟩ := hc 0 (List.length_pos_iff.2 hne)
      simp only [Option.some.injEq, Addr.mk.injEq, and_true] at e'
      rw [e'.1]; exact hb'
     ·obtain ⟨b', o', e', _, hi'⟩ := hc i hi
      simp only [Option.some.injEq, Addr.mk.injEq, and_true] at e'
      rw [e'.1, e'.2]; exact hi'
    refine (i_backUp_ok la b 0 la.length W xs (HRW.out W hW) (HLW.out W hW) (HET.out W hW) hlat hl1 hfa (Nat.le_refl _) hz (Stil.sureRungs la) hx hfl hxf hxs hxl).mono ?_
    rintro e w' ⟨hr, hb⟩
    obtain ⟨a, c, m, he, hp⟩ := hr.pk
    exact ⟨a, c, m, he, hp.mono hlo, hb⟩
 have HEQ : Hid (∀ W u t, ArmsAt W u T → ArmsAt W t T → Calls Tryz.prog 16 #[u, t] W fun e w' => e = .returned (.bool true) ∧ Below W.heap.size W w') :=
  fun W u t h1 h2 => l_eqLadder T hLF (by omega) u t W h1 h2
 have HML : Hid (∀ lo W a c m, ArmsPk lo W T a c m → Calls Tryz.prog 17 #[.slice a T.length c, .int .i64 1] W fun e w' => e = .returned (.int .i64 (1 + m.kps.length)) ∧ Marked W w' m.kps 1) := fun lo W a c m h => h.mark hLF (by omega)
 have HHL : Hid (∀ lo W W' a c m, ArmsPk lo W T a c m → Marked W W' m.kps 1 → ∀ V, Below W'.heap.size W' V → Calls Tryz.prog 18 #[.slice a T.length c, .int .i64 1] V fun e w' => e = .returned (.int .i64 (1 + m.kps.length)) ∧ Below V.heap.size V w') := fun lo W W' a c m h hm V hV => h.held hm hV hLF (by omega)
 clear hfa HRW HLW HET hLF hLS hLL
 go_enter Tryz.func4, Tryz.ntmps4
 go_wp2_with (go_at_call 5; refine (SA.out _ blA _ (by omega) (by omega)).mono ?_; rw [HZ.out]; rintro e w1 ⟨rfl, hb1⟩)
 go_wp2_with (go_at_call 7; refine (l_toList la HFA.out hla2 _ _ (HA.out _ blA)).mono ?_; rintro e w3 ⟨b3, rfl, g3, hb3⟩)
 have HG3 : Hid (∀ W, Below w3.heap.size w3 W → InstsAt W (.slice (some ⟨b3, 0, none⟩) la.length la.length) la) := fun W h => g3.below h
 clear g3
 go_wp2_with (go_at_call 14; refine (HSP.out _ _ (HG3.out _ blA)).mono ?_; rintro e w5 ⟨a5, c5, m5, rfl, g5, hb5⟩)
 have HG5 : Hid (∀ W, Below w5.heap.size w5 W → ArmsAt W (.slice a5 T.length c5) T) := fun W h => (g5.below h).2.2.2.2.2.2.2.1.at
 clear HG3 g5 HSP
 have hw5 : w.heap.size ≤ w5.heap.size := (blA : Below w.heap.size w w5).size
 go_wp2_with (go_at_call 7; refine (l_toListM la HFA.out hla2 _ _ (HA.out _ blA)).mono ?_; rintro e w6 ⟨b6, qs6, rfl, sh6, n6, nd6, g6, lo6, len6, hb6⟩; have HLO : Hid (∀ p ∈ instPs b6 0 qs6, w5.heap.size ≤ p.1) := (fun p hp => Nat.le_trans ((blA : Below w5.heap.size w5 _).size) (lo6 p hp)); clear lo6)
 have HX6 : Hid (∀ W, Below w6.heap.size w6 W → InstsAt W (.slice (some ⟨b6, 0, none⟩) la.length la.length) la) := fun W h => g6.below h
 obtain ⟨k6, hk6⟩ : ∃ k : Nat, k = (instPs b6 0 qs6).length := ⟨_, rfl⟩
 have hkn : ¬ (1 + (k6 : Int) < 0) := by omega
 have HS6 : Hid (∀ p ∈ instPs b6 0 qs6, p.1 < w6.heap.size) := fun p hp => (n6 p hp).1
 have HM6 : Hid (∀ W, Below w6.heap.size w6 W → Calls Tryz.prog 11 #[.slice (some ⟨b6, 0, none⟩) la.length la.length, .int .i64 1] W fun e w' => e = .returned (.int .i64 (1 + k6)) ∧ Marked W w' (instPs b6 0 qs6) 1) := by
  intro W h6
  rw [hk6]
  exact p_markInsts _ b6 0 qs6 1 W (sh6.below h6) (n6.below h6) nd6 (by omega) (by omega)
 clear g6 sh6 n6 nd6 len6 hk6
 go_wp2_with (go_at_call 15; refine (HIM.out _ _ w6.heap.size blA ((blA : Below w6.heap.size w6 _).size) (HX6.out _ blA)).mono ?_; rintro e w8 ⟨a8, c8, m8, rfl, g8, hb8⟩)
 have HP8 : Hid (∀ W, Below w8.heap.size w8 W → ArmsPk w6.heap.size W T a8 c8 m8) := fun W h => g8.below h
 clear g8
 go_wp2_with (go_at_call 16; refine (HEQ.out _ _ _ ((HP8.out _ blA).2.2.2.2.2.2.2.1.at) (HG5.out _ blA)).mono ?_; rintro e w9a ⟨rfl, hb9a⟩)
 go_wp2_with (go_at_call 7; refine (l_toList la HFA.out hla2 _ _ (HA.out _ blA)).mono ?_; rintro e w9 ⟨b9, rfl, g9, hb9⟩)
 have HG9 : Hid (∀ W, Below w9.heap.size w9 W → InstsAt W (.slice (some ⟨b9, 0, none⟩) la.length la.length) la) := fun W h => g9.below h
 clear g9
 go_wp2_with (go_at_call 10; refine (l_eqList la HFA.out hla2 _ _ _ (HX6.out _ blA) (HG9.out _ blA)).mono ?_; rintro e w10 ⟨rfl, hb10⟩)
 clear HG9 HX6
 have h65 : w5.heap.size ≤ w6.heap.size := (blA : Below w5.heap.size w5 w6).size
 have HMK : Hid (∀ W, Below w.heap.size w W → Below w5.heap.size w5 W → Below w6.heap.size w6 W → Below w8.heap.size w8 W → Calls Tryz.prog 11 #[.slice (some ⟨b6, 0, none⟩) la.length la.length, .int .i64 1] W fun e w' => e = .returned (.int .i64 (1 + k6)) ∧ Below w.heap.size w w' ∧ Below w5.heap.size w5 w' ∧ ArmsPk w6.heap.size w' T a8 c8 m8) := by
  intro W h0 h5 h6 h8
  refine (HM6.out W h6).mono ?_
  rintro e w' ⟨rfl, hm⟩
  exact ⟨rfl, h0.trans (hm.2.2.2.2 _ h0.size (fun p hp => Nat.le_trans hw5 (HLO.out p hp))), h5.trans (hm.2.2.2.2 _ h5.size HLO.out), (HP8.out W h8).marked hm HS6.out⟩
 clear HM6 HLO HS6
 go_wp2_with (go_at_call 11; refine (HMK.out _ blA blA blA blA).mono ?_; rintro e w11 ⟨rfl, hb11, hb11b, P11⟩)
 have HP11 : Hid (∀ W, Below w11.heap.size w11 W → ArmsPk w6.heap.size W T a8 c8 m8) := fun W h => P11.below h
 clear P11 HMK HP8
 go_wp2_with (go_at_call 16; refine (HEQ.out _ _ _ ((HP11.out _ blA).2.2.2.2.2.2.2.1.at) (HG5.out _ blA)).mono ?_; rintro e w12 ⟨rfl, hb12⟩)
 obtain ⟨k8, hk8⟩ : ∃ k : Nat, k = m8.kps.length := ⟨_, rfl⟩
 have hmn : ¬ (1 + (k8 : Int) < 0) := by omega
 have HMR : Hid (∀ W, Below w.heap.size w W → Below w5.heap.size w5 W → Below w11.heap.size w11 W → Calls Tryz.prog 17 #[.slice a8 T.length c8, .int .i64 1] W fun e w' => e = .returned (.int .i64 (1 + k8)) ∧ Below w.heap.size w w' ∧ Below w5.heap.size w5 w' ∧ ∀ V, Below w'.heap.size w' V → Calls Tryz.prog 18 #[.slice a8 T.length c8, .int .i64 1] V fun e w'' => e = .returned (.int .i64 (1 + k8)) ∧ Below V.heap.size V w'') := by
  intro W h0 h5 h11
  have hp := HP11.out W h11
  rw [hk8]
  refine (HML.out _ _ _ _ _ hp).mono ?_
  rintro e w' ⟨rfl, hm⟩
  have hlo := hp.2.2.2.2.1
  exact ⟨rfl, h0.trans (hm.2.2.2.2 _ h0.size (fun p hp => by have := hlo p hp; omega)), h5.trans (hm.2.2.2.2 _ h5.size (fun p hp => by have := hlo p hp; omega)), HHL.out _ _ _ _ _ _ hp hm⟩
 have HK8 : Hid (k8 = m8.kps.length) := hk8
 clear hk8
 go_wp2_with (go_at_call 17; refine (HMR.out _ blA blA blA).mono ?_; rintro e w13 ⟨rfl, hb13, hb13b, hh13⟩)
 have HH : Hid (∀ W, Below w13.heap.size w13 W → Calls Tryz.prog 18 #[.slice a8 T.length c8, .int .i64 1] W fun e w' => e = .returned (.int .i64 (1 + k8)) ∧ Below W.heap.size W w') := hh13
 clear HMR HP11 hh13
 go_wp2_with (go_at_call 18; refine (HH.out _ blA).mono ?_; rintro e w14 ⟨rfl, hb14⟩)
 go_wp2_with (go_at_call 7; refine (l_toList la HFA.out hla2 _ _ (HA.out _ blA)).mono ?_; rintro e w15 ⟨b15, rfl, g15, hb15⟩)
 have HG15 : Hid (∀ W, Below w15.heap.size w15 W → InstsAt W (.slice (some ⟨b15, 0, none⟩) la.length la.length) la) := fun W h => g15.below h
 clear g15
 go_wp2_with (go_at_call 15; refine (HIM.out _ _ 0 blA (Nat.zero_le _) (HG15.out _ blA)).mono ?_; rintro e w16 ⟨a16, c16, m16, rfl, g16, hb16⟩)
 have HP16 : Hid (∀ W, Below w16.heap.size w16 W → ArmsAt W (.slice a16 T.length c16) T) := fun W h => (g16.below h).2.2.2.2.2.2.2.1.at
 clear g16
 go_wp2_with (go_at_call 16; refine (HEQ.out _ _ _ (HP16.out _ blA) (HG5.out _ blA)).mono ?_; rintro e w17 ⟨rfl, hb17⟩)
 go_wp2_with (go_at_call 18; refine (HH.out _ blA).mono ?_; rintro e w18 ⟨rfl, hb18⟩)
 go_ret
 exact ⟨rfl, blA⟩
end Go.Proofs.YtpaljcoojkbhnaaGreatDoor
