/- V3, V4: texts put together. -/
import Derived.Test.YtbllmkmdaenglaaGreatDoorGy
import Derived.Test.YtbllmkmdaenglaaGreatDoorGw
import Derived.Deep.RegionHeld3
/- The program's chapter 7: forks. -/
namespace Go.Proofs.YtbllmkmdaenglaaGreatDoor
open Go.RowKit Go.Sort Go.BigFrame
set_option maxHeartbeats 2000000 in
set_option maxRecDepth 100000 in
theorem i_forks1 (x : Stil.Arm) (hf : Stil.armSize x ≤ 1000000) (ih : NeedA 37 x (Stil.forks x)) : NeedA 63 x (1 + Stil.forks x) := by
  intro av nv cv kv w hav hnv hcv hkv
  have IH : Hid (∀ W, Below w.heap.size w W → Calls Tryz.prog 37 #[.agg #[.int .i64 x.net.kind, .int .i64 x.net.one.op, av, nv, cv, kv]] W fun e w' => e = .returned (.int .i64 (Stil.forks x)) ∧ Below W.heap.size W w') := fun W h => ih av nv cv kv W (hav.below h) (hnv.below h) (hcv.below h) (hkv.below h)
  have hle := Stil.forks_le x
  obtain ⟨fx, hfx⟩ : ∃ fx, fx = Stil.forks x := ⟨_, rfl⟩
  rw [← hfx] at IH hle ⊢
  obtain ⟨p0, r0, rfl, hz0⟩ := hav.shape
  obtain ⟨p1, r1, rfl, hz1, _⟩ := hnv.shape
  obtain ⟨p2, r2, rfl, hz2⟩ := hcv.shape
  obtain ⟨p3, r3, rfl, hz3, _⟩ := hkv.shape
  clear ih hz0 hz1 hz2 hz3 hfx
  go_enter Tryz.func63, Tryz.ntmps63
  go_wp2_with (go_at_call 37; refine (IH.out _ (by (repeat (first | with_reducible exact Below.refl _ _ | with_reducible assumption | with_reducible refine bl_set (by first | exact Nat.le_refl _ | (simp; done) | (simp; omega) | omega) ?_ _ | with_reducible refine bl_alloc ?_ _ | with_reducible refine bl_drewN ?_ _ | with_reducible refine bl_drew ?_ | with_reducible refine bl_grow ?_ _ _ | with_reducible refine bl_call ?_ (by assumption))))).mono ?_; rintro e w1 ⟨rfl, hb1⟩)
  go_ret
  exact ⟨ret_int (by go_num), by (repeat (first | with_reducible exact Below.refl _ _ | with_reducible assumption | with_reducible refine bl_set (by first | exact Nat.le_refl _ | (simp; done) | (simp; omega) | omega) ?_ _ | with_reducible refine bl_alloc ?_ _ | with_reducible refine bl_drewN ?_ _ | with_reducible refine bl_drew ?_ | with_reducible refine bl_grow ?_ _ _ | with_reducible refine bl_call ?_ (by assumption)))⟩
set_option maxHeartbeats 2000000 in
set_option maxRecDepth 100000 in
theorem i_armForks (a : Stil.Arm) : Stil.armSize a ≤ 1000000 → NeedA 37 a (Stil.forks a) := by
  induction a using Stil.arm_ind with
  | h n cs kids ih =>
    intro hs av nv cv kv w hav hnv hcv hkv
    simp only at hav hnv hcv hkv
    rw [Stil.armSize_nsz] at hs
    have hks : ∀ x ∈ kids, Stil.armSize x ≤ 1000000 := fun x hx => by have : Stil.armSize x ≤ Stil.ksize kids := Stil.mem_le_sum Stil.armSize kids x hx; omega
    have hkl : kids.length ≤ 999999 := by have := Stil.len_ksize kids; omega
    obtain ⟨p0, r0, rfl, hz0⟩ := hav.shape
    obtain ⟨p1, r1, rfl, hz1, _⟩ := hnv.shape
    obtain ⟨p2, r2, rfl, hz2⟩ := hcv.shape
    clear hz0 hz1 hz2 hs
    rcases List.eq_nil_or_concat kids with rfl | ⟨init, z, hk⟩
    · rw [Stil.forks_nil]
      obtain ⟨p3, r3, rfl, hz3, _⟩ := hkv.shape
      clear hz3 ih hks hkl
      go_enter Tryz.func37, Tryz.ntmps37
      go_wp2
      go_ret
      exact ⟨rfl, by (repeat (first | with_reducible exact Below.refl _ _ | with_reducible assumption | with_reducible refine bl_set (by first | exact Nat.le_refl _ | (simp; done) | (simp; omega) | omega) ?_ _ | with_reducible refine bl_alloc ?_ _ | with_reducible refine bl_drewN ?_ _ | with_reducible refine bl_drew ?_ | with_reducible refine bl_grow ?_ _ _ | with_reducible refine bl_call ?_ (by assumption)))⟩
    · rw [List.concat_eq_append] at hk
      subst hk
      have hE : ∀ args w, (callFunc 63 args).run Tryz.prog w = .ok (.enter 63 args) w := enters_of Tryz.func63 (by kernel_rfl) rfl
      have hat0 := hkv
      obtain ⟨p3, r3, rfl, hcap, hpc⟩ := hkv.shape
      have hat : ArmsT w (.slice p3 (init ++ [z]).length r3) (init ++ [z]) := hat0
      have hti : (init ++ [z]).take init.length = init := by simp
      have hil : init.length ≤ 999999 := by simp only [List.length_append, List.length_singleton] at hkl; omega
      have HMO : Hid (∀ W, Below w.heap.size w W → Calls Tryz.prog 34 #[.slice p3 init.length r3, .int .i64 (Stil.forks z), .func (.func 63) #[] #[]] W fun e w' => e = .returned (.int .i64 (Stil.mostOf (Stil.forks z) (init.map (fun k => 1 + Stil.forks k)))) ∧ Below W.heap.size W w') := by
        intro W h
        refine i_mostA init (fun k => 1 + Stil.forks k) 63 hE (fun x hx => ?_) _ _ W ?_ hil
        · exact i_forks1 x (hks x (by simp [hx])) (ih x (by simp [hx]) (hks x (by simp [hx])))
        · have := (hat.below h).take (n := init.length) (by simp)
          rwa [hti] at this
      obtain ⟨b, o, rfl, hbl, hn⟩ := hpc init.length (by simp)
      have hg : (init ++ [z])[init.length]'(by simp) = z := by simp
      rw [hg] at hn
      obtain ⟨hna, cv', kv', x4, x5, hcv, hkv⟩ := hn.open
      obtain ⟨x0, x1, av', nv', x2, x3, hav, hnv⟩ := hna.open
      have HZ : Hid (∀ W, Below w.heap.size w W → Calls Tryz.prog 37 #[.agg #[.int .i64 z.net.kind, .int .i64 z.net.one.op, av', nv', cv', kv']] W fun e w' => e = .returned (.int .i64 (Stil.forks z)) ∧ Below W.heap.size W w') := fun W h => ih z (by simp) (hks z (by simp)) av' nv' cv' kv' W (hav.below h) (hnv.below h) (hcv.below h) (hkv.below h)
      rw [Stil.forks_last]
      obtain ⟨fz, hfz⟩ : ∃ fz, fz = Stil.forks z := ⟨_, rfl⟩
      rw [← hfz] at HMO HZ ⊢
      obtain ⟨R, hR⟩ : ∃ R, R = Stil.mostOf fz (init.map (fun k => 1 + Stil.forks k)) := ⟨_, rfl⟩
      rw [← hR] at HMO ⊢
      have hlen : (init ++ [z]).length = init.length + 1 := by simp
      obtain ⟨m, hm⟩ : ∃ m, m = init.length := ⟨_, rfl⟩
      rw [hlen]
      rw [← hm] at HMO x0 x1 x2 x3 x4 x5 hil ⊢
      obtain ⟨q0, s0, rfl, hz0⟩ := hav.shape
      obtain ⟨q1, s1, rfl, hz1, _⟩ := hnv.shape
      obtain ⟨q2, s2, rfl, hz2⟩ := hcv.shape
      obtain ⟨q3, s3, rfl, hz3, _⟩ := hkv.shape
      have hj1 : (0 : Int) ≤ (m : Int) := by omega
      have hj2 : (m : Int) ≤ (m : Int) + 1 := by omega
      have hj3 : (m : Int) < (m : Int) + 1 := by omega
      have hw1 : IntKind.i64.wrap ((m : Int) + 1 - 1) = (m : Int) := by rw [IntKind.wrap_i64]; omega
      have hcp : m + 1 ≤ r3 := by have := hcap.1; rw [hlen, ← hm] at this; exact this
      have hj4 : (m : Int) ≤ (r3 : Int) := by omega
      have hj5 : m ≤ r3 := by omega
      clear hz0 hz1 hz2 hz3 hat hat0 hti hpc hn hna hE hfz hR hg ih hks hkl hlen hm hcap
      go_enter Tryz.func37, Tryz.ntmps37
      go_wp2
      obtain ⟨W, hW⟩ : ∃ W, W = w.alloc (.cells #[.int .i64 n.kind, .int .i64 n.one.op, .slice p0 n.one.args.length r0, .slice p1 n.kids.length r1, .slice p2 cs.length r2, .slice (some ⟨b, o, none⟩) (m + 1) r3] 52) := ⟨_, rfl⟩
      rw [← hW]
      have hbW : Below w.heap.size w W := by rw [hW]; exact below_alloc _ _
      have y5 : W.cell? ⟨w.heap.size, 5, none⟩ = some (.slice (some ⟨b, o, none⟩) (m + 1) r3) := by rw [hW]; simp [go_sem]
      have k0 := cell_regrown ((hbW.cell (p := ⟨b, o + m * 6, none⟩) hbl).trans x0)
      have k1 := cell_regrown ((hbW.cell (p := ⟨b, o + m * 6 + 1, none⟩) hbl).trans x1)
      have k2 := cell_regrown ((hbW.cell (p := ⟨b, o + m * 6 + 2, none⟩) hbl).trans x2)
      have k3 := cell_regrown ((hbW.cell (p := ⟨b, o + m * 6 + 3, none⟩) hbl).trans x3)
      have k4 := cell_regrown ((hbW.cell (p := ⟨b, o + m * 6 + 4, none⟩) hbl).trans x4)
      have k5 := cell_regrown ((hbW.cell (p := ⟨b, o + m * 6 + 5, none⟩) hbl).trans x5)
      have k6 := cell_regrown y5
      clear hW y5 x0 x1 x2 x3 x4 x5
      refine wp_region_quiet_below (by kernel_rfl) (by kernel_rfl) ?_
      repeat (go_big_quiet_step ((first | exact Calls.regrown_of (HZ.out _ (bl_grow hbW _ _)) | exact Calls.regrown_of (HMO.out _ (bl_grow hbW _ _)))))
      refine wpQuiet_nil ?_
      intro _ hw'
      obtain ⟨⟨dq, osq⟩, hw''⟩ := hw'
      subst hw''
      go_wp2
      go_ret
      exact ⟨rfl, bl_grow hbW _ _⟩
set_option maxHeartbeats 2000000 in
set_option maxRecDepth 100000 in
theorem i_WayForks (l : List Stil.Arm) (kv : Value) (w : World) (hr : RowsAt w) (hg : ErrTypeAt w) (hkv : ArmsAt w kv l) (hl : l.length ≤ 1048576) (hsz : Stil.treeSize l ≤ 1000000000) (hft : ∀ x ∈ l, Stil.armFits x) :
    Calls Tryz.prog 16 #[kv] w fun e w' => e = .returned (.int .i64 (Stil.wayForks l)) ∧ Below w.heap.size w w' := by
  have HC : Hid (∀ W, Below w.heap.size w W → Calls Tryz.prog 9 #[kv] W fun e w' => ArmsRet w' W.heap.size (Stil.normMake l) e ∧ Below W.heap.size W w') := fun W h => i_NormMake l kv W (hr.below h) (hg.below h) (hkv.below h) hl hsz hft
  obtain ⟨hLF, hLS, hLL⟩ := Stil.normMake_fits hft
  have hR : Hid (Stil.wayForks l = Stil.mostOf 0 ((Stil.normMake l).map Stil.forks)) := rfl
  obtain ⟨L, hL⟩ : ∃ L, L = Stil.normMake l := ⟨_, rfl⟩
  rw [← hL] at HC hLF hLS hLL hR
  have hE : ∀ args w, (callFunc 37 args).run Tryz.prog w = .ok (.enter 37 args) w := enters_of Tryz.func37 (by kernel_rfl) rfl
  have HM : Hid (∀ W v, ArmsT W v L → Calls Tryz.prog 34 #[v, .int .i64 0, .func (.func 37) #[] #[]] W fun e w' => e = .returned (.int .i64 (Stil.mostOf 0 (L.map Stil.forks))) ∧ Below W.heap.size W w') := fun W v h => i_mostA L Stil.forks 37 hE (fun x hx => i_armForks x (by have := Stil.arm_le_tree hx; omega)) 0 v W h (by omega)
  rw [hR.out]
  obtain ⟨R, hRR⟩ : ∃ R, R = Stil.mostOf 0 (L.map Stil.forks) := ⟨_, rfl⟩
  rw [← hRR] at HM ⊢
  obtain ⟨p0, r0, rfl, hz⟩ := hkv
  clear hz hr hg hft hLF hLS hLL hR hL hE hRR
  go_enter Tryz.func16, Tryz.ntmps16
  go_wp2_with (first | (go_at_call 9; refine (HC.out _ (by (repeat (first | with_reducible exact Below.refl _ _ | with_reducible assumption | with_reducible refine bl_set (by first | exact Nat.le_refl _ | (simp; done) | (simp; omega) | omega) ?_ _ | with_reducible refine bl_alloc ?_ _ | with_reducible refine bl_drewN ?_ _ | with_reducible refine bl_drew ?_ | with_reducible refine bl_grow ?_ _ _ | with_reducible refine bl_call ?_ (by assumption))))).mono ?_; rintro e w1 ⟨⟨a, c, ms, rfl, hm, hrw⟩, hb1⟩; have hat : ArmsT w1 (.slice a ms.length c) L := (by have h := (AOk.T _ (rowArm_own hrw).1).2.2.2; rw [MArm.arm_eq] at h; rw [← hm]; exact h); have HAT : Hid (ArmsT w1 (.slice a ms.length c) L) := hat; clear hat hrw hm) | (go_at_call 34; refine (HM.out _ _ HAT.out).mono ?_; rintro e w2 ⟨rfl, hb2⟩))
  go_ret
  exact ⟨rfl, by (repeat (first | with_reducible exact Below.refl _ _ | with_reducible assumption | with_reducible refine bl_set (by first | exact Nat.le_refl _ | (simp; done) | (simp; omega) | omega) ?_ _ | with_reducible refine bl_alloc ?_ _ | with_reducible refine bl_drewN ?_ _ | with_reducible refine bl_drew ?_ | with_reducible refine bl_grow ?_ _ _ | with_reducible refine bl_call ?_ (by assumption)))⟩
end Go.Proofs.YtbllmkmdaenglaaGreatDoor
/- The specification's chapter 7: forks. -/
namespace Go.Proofs.YtbllmkmdaenglaaGreatDoor
open Go.RowKit Go.Sort Go.BigFrame
set_option maxHeartbeats 2000000 in
set_option maxRecDepth 100000 in
theorem s_greater (a b : Nat) (w : World) : Calls Tryz.prog 31 #[.int .i64 a, .int .i64 b] w fun e w' => e = .returned (.int .i64 (max a b : Nat)) ∧ w' = w := by
  go_enter Tryz.func31, Tryz.ntmps31
  go_wp2
  all_goals go_ret
  all_goals refine ⟨ret_int ?_, rfl⟩
  all_goals (congr 1; omega)
set_option maxHeartbeats 2000000 in
set_option maxRecDepth 100000 in
theorem s_armForks (a : Stil.Arm) : Stil.armSize a ≤ 1000000 → NeedA 36 a (Stil.forks a) := by
  induction a using Stil.arm_ind with
  | h n cs kids ih =>
    intro hs av nv cv kv w hav hnv hcv hkv
    simp only at hav hnv hcv hkv
    rw [Stil.armSize_nsz] at hs
    have hks : ∀ x ∈ kids, Stil.armSize x ≤ 1000000 := fun x hx => by have : Stil.armSize x ≤ Stil.ksize kids := Stil.mem_le_sum Stil.armSize kids x hx; omega
    have hkl : kids.length ≤ 999999 := by have := Stil.len_ksize kids; omega
    have IH : Hid (∀ x ∈ kids, NeedA 36 x (Stil.forks x)) := fun x hx => ih x hx (hks x hx)
    have HLE : Hid (∀ x ∈ kids, Stil.forks x ≤ 1000000) := fun x hx => Nat.le_trans (Stil.forks_le x) (hks x hx)
    have HAK : Hid (∀ W, Below w.heap.size w W → ArmsT W kv kids) := fun W h => hkv.below h
    rw [Stil.forks_eq]
    obtain ⟨p0, r0, rfl, hz0⟩ := hav.shape
    obtain ⟨p1, r1, rfl, hz1, _⟩ := hnv.shape
    obtain ⟨p2, r2, rfl, hz2⟩ := hcv.shape
    obtain ⟨p3, r3, rfl, hz3, _⟩ := hkv.shape
    clear hz0 hz1 hz2 hz3 hs ih hks hav hnv hcv hkv
    obtain ⟨fs, hfs⟩ : ∃ fs, fs = kids.map Stil.forks := ⟨_, rfl⟩
    have HFS : Hid (fs = kids.map Stil.forks) := hfs
    rw [← hfs]
    clear hfs
    go_enter Tryz.func36, Tryz.ntmps36
    go_wp2
    obtain ⟨W, hW⟩ : ∃ W, W = w.alloc (.cells #[.int .i64 n.kind, .int .i64 n.one.op, .slice p0 n.one.args.length r0, .slice p1 n.kids.length r1, .slice p2 cs.length r2, .slice p3 kids.length r3] 52) := ⟨_, rfl⟩
    rw [← hW]
    have hbW : Below w.heap.size w W := by rw [hW]; exact below_alloc _ _
    have hlW : w.heap.size < W.heap.size := by rw [hW]; simp
    have y5 : W.cell? ⟨w.heap.size, 5, none⟩ = some (.slice p3 kids.length r3) := by rw [hW]; simp [go_sem]
    clear hW
    go_loopw [3, 5] (fun d i wr => ∃ (j m : Nat), j ≤ kids.length ∧ i = .int .i64 j ∧ d = .int .i64 m ∧ m = Stil.mostOf 0 ((Stil.bump fs).take j) ∧ Below W.heap.size W wr) (fun _ i _ => kids.length - (intOf i).toNat)
    case atStart => exact ⟨0, 0, by omega, rfl, rfl, rfl, Below.refl _ _⟩
    case round =>
      obtain ⟨j, m, hj, rfl, rfl, hm, hb⟩ := hrel
      have HM : Hid (m = Stil.mostOf 0 ((Stil.bump fs).take j)) := hm
      clear hm
      by_cases hlt : j < kids.length
      · have hbw : Below w.heap.size w wr := bl_call hbW hb
        obtain ⟨pa, pc, hpe, _, hpc⟩ := (HAK.out wr hbw).shape
        simp only [Value.slice.injEq, true_and] at hpe
        obtain ⟨rfl, rfl⟩ := hpe
        obtain ⟨b, o, rfl, hbl, hn⟩ := hpc j hlt
        obtain ⟨hna, cv, kv, x4, x5, hcv, hkv⟩ := hn.open
        obtain ⟨x0, x1, av, nv, x2, x3, hav, hnv⟩ := hna.open
        have HI : Hid (∀ V, Below wr.heap.size wr V → Calls Tryz.prog 36 #[.agg #[.int .i64 kids[j].net.kind, .int .i64 kids[j].net.one.op, av, nv, cv, kv]] V fun e w' => e = .returned (.int .i64 (Stil.forks kids[j])) ∧ Below V.heap.size V w') := fun V h => IH.out kids[j] (List.getElem_mem hlt) av nv cv kv V (hav.below h) (hnv.below h) (hcv.below h) (hkv.below h)
        have hle := HLE.out kids[j] (List.getElem_mem hlt)
        have hfl : fs.length = kids.length := by rw [HFS.out, List.length_map]
        have HTS : Hid (Stil.mostOf 0 ((Stil.bump fs).take (j + 1)) = max (Stil.mostOf 0 ((Stil.bump fs).take j)) (if j + 1 < kids.length then Stil.forks kids[j] + 1 else Stil.forks kids[j])) := by
          show _ = _
          rw [Stil.mostOf_take (by rw [Stil.bump_len, hfl]; exact hlt), Stil.bump_get]
          have e1 : fs[j]'(by rw [hfl]; exact hlt) = Stil.forks kids[j] := by simp [HFS.out]
          rw [e1, hfl]
          rfl
        obtain ⟨x, hx⟩ : ∃ x, x = kids[j] := ⟨_, rfl⟩
        rw [← hx] at HI HTS hle x0 x1 hav hnv hcv hkv
        obtain ⟨fx, hfx⟩ : ∃ fx, fx = Stil.forks x := ⟨_, rfl⟩
        rw [← hfx] at HI HTS hle
        obtain ⟨q0, s0, rfl, hz0⟩ := hav.shape
        obtain ⟨q1, s1, rfl, hz1, _⟩ := hnv.shape
        obtain ⟨q2, s2, rfl, hz2⟩ := hcv.shape
        obtain ⟨q3, s3, rfl, hz3, _⟩ := hkv.shape
        have y5r : wr.cell? ⟨w.heap.size, 5, none⟩ = some (.slice (some ⟨b, o, none⟩) kids.length r3) := (hb.cell (p := ⟨w.heap.size, 5, none⟩) hlW).trans y5
        have hj1 : (0 : Int) ≤ (j : Int) := by omega
        have hj2 : (j : Int) < (kids.length : Int) := by omega
        have hwn : IntKind.i64.wrap ((kids.length : Int) - 1) = (kids.length : Int) - 1 := by rw [IntKind.wrap_i64]; omega
        have hwf : IntKind.i64.wrap ((fx : Int) + 1) = (fx : Int) + 1 := by rw [IntKind.wrap_i64]; omega
        have hcast : (fx : Int) + 1 = ((fx + 1 : Nat) : Int) := by omega
        have HG : Hid (∀ (p q : Nat) (V : World), Calls Tryz.prog 31 #[.int .i64 p, .int .i64 q] V fun e w' => e = .returned (.int .i64 (max p q : Nat)) ∧ w' = V) := s_greater
        have HG2 : Hid (∀ (p : Nat) (V : World), Calls Tryz.prog 31 #[.int .i64 p, .int .i64 ((fx : Int) + 1)] V fun e w' => e = .returned (.int .i64 (max p (fx + 1) : Nat)) ∧ w' = V) := fun p V => by rw [hcast]; exact s_greater p (fx + 1) V
        clear hz0 hz1 hz2 hz3 hx hfx hn hna hpc hfl hav hnv hcv hkv hcast hbl
        by_cases hla : j + 1 < kids.length
        · rw [if_pos hla] at HTS
          have hlb : (j : Int) < (kids.length : Int) - 1 := by omega
          go_wp2_with (first | (go_at_call 36; refine (HI.out _ (by (repeat (first | with_reducible exact Below.refl _ _ | with_reducible assumption | with_reducible refine bl_set (by first | exact Nat.le_refl _ | (simp; done) | (simp; omega) | omega) ?_ _ | with_reducible refine bl_alloc ?_ _ | with_reducible refine bl_drewN ?_ _ | with_reducible refine bl_drew ?_ | with_reducible refine bl_grow ?_ _ _ | with_reducible refine bl_call ?_ (by assumption))))).mono ?_; rintro e w2 ⟨rfl, hb2⟩) | (go_at_call 31; refine (HG2.out _ _).mono ?_; rintro e w3 ⟨rfl, rfl⟩))
          refine ⟨⟨j + 1, max m (fx + 1), by omega, by go_num, rfl, ?_, bl_call hb hb2⟩, by simp [intOf]; omega⟩
          rw [HTS.out, ← HM.out]
        · rw [if_neg hla] at HTS
          have hlb : ¬ ((j : Int) < (kids.length : Int) - 1) := by omega
          go_wp2_with (first | (go_at_call 36; refine (HI.out _ (by (repeat (first | with_reducible exact Below.refl _ _ | with_reducible assumption | with_reducible refine bl_set (by first | exact Nat.le_refl _ | (simp; done) | (simp; omega) | omega) ?_ _ | with_reducible refine bl_alloc ?_ _ | with_reducible refine bl_drewN ?_ _ | with_reducible refine bl_drew ?_ | with_reducible refine bl_grow ?_ _ _ | with_reducible refine bl_call ?_ (by assumption))))).mono ?_; rintro e w2 ⟨rfl, hb2⟩) | (go_at_call 31; refine (HG.out _ _ _).mono ?_; rintro e w3 ⟨rfl, rfl⟩))
          refine ⟨⟨j + 1, max m fx, by omega, by go_num, rfl, ?_, bl_call hb hb2⟩, by simp [intOf]; omega⟩
          rw [HTS.out, ← HM.out]
      · obtain rfl : j = kids.length := by omega
        have hmn := HM.out
        rw [List.take_of_length_le (by rw [Stil.bump_len, HFS.out, List.length_map]; exact Nat.le_refl _)] at hmn
        have HM2 : Hid (m = Stil.mostOf 0 (Stil.bump fs)) := hmn
        clear hmn
        go_wp2
        go_ret
        exact ⟨ret_int (by rw [HM2.out]), bl_call hbW hb⟩
set_option maxHeartbeats 2000000 in
set_option maxRecDepth 100000 in
theorem s_WayForks (l : List Stil.Arm) (kv : Value) (w : World) (hkv : ArmsAt w kv l) (hl : l.length ≤ 1048576) (hsz : Stil.treeSize l ≤ 1000000000) (hft : ∀ x ∈ l, Stil.armFits x) :
    Calls Tryz.prog 15 #[kv] w fun e w' => e = .returned (.int .i64 (Stil.wayForks l)) ∧ Below w.heap.size w w' := by
  have HC : Hid (∀ W, Below w.heap.size w W → Calls Tryz.prog 7 #[kv] W fun e w' => ArmsRet w' W.heap.size (Stil.normMake l) e ∧ Below W.heap.size W w') := fun W h => s_NormMake l kv W (hkv.below h) hl hsz hft
  obtain ⟨hLF, hLS, hLL⟩ := Stil.normMake_fits hft
  have hR : Hid (Stil.wayForks l = Stil.mostOf 0 ((Stil.normMake l).map Stil.forks)) := rfl
  obtain ⟨L, hL⟩ : ∃ L, L = Stil.normMake l := ⟨_, rfl⟩
  rw [← hL] at HC hLF hLS hLL hR
  have IH : Hid (∀ x ∈ L, NeedA 36 x (Stil.forks x)) := fun x hx => s_armForks x (by have := Stil.arm_le_tree hx; omega)
  have HG : Hid (∀ (p q : Nat) (V : World), Calls Tryz.prog 31 #[.int .i64 p, .int .i64 q] V fun e w' => e = .returned (.int .i64 (max p q : Nat)) ∧ w' = V) := s_greater
  rw [hR.out]
  obtain ⟨p0, r0, rfl, hz⟩ := hkv
  clear hz hft hLF hLS hR hL
  go_enter Tryz.func15, Tryz.ntmps15
  go_wp2_with (go_at_call 7; refine (HC.out _ (by (repeat (first | with_reducible exact Below.refl _ _ | with_reducible assumption | with_reducible refine bl_set (by first | exact Nat.le_refl _ | (simp; done) | (simp; omega) | omega) ?_ _ | with_reducible refine bl_alloc ?_ _ | with_reducible refine bl_drewN ?_ _ | with_reducible refine bl_drew ?_ | with_reducible refine bl_grow ?_ _ _ | with_reducible refine bl_call ?_ (by assumption))))).mono ?_; rintro e w1 ⟨⟨a, c, ms, rfl, hm, hrw⟩, hb1⟩; have hat : ArmsT w1 (.slice a ms.length c) L := (by have h := (AOk.T _ (rowArm_own hrw).1).2.2.2; rw [MArm.arm_eq] at h; rw [← hm]; exact h); have HAT : Hid (ArmsT w1 (.slice a ms.length c) L) := hat; have hml : ms.length = L.length := (by rw [← hm, List.length_map]); rw [hml] at HAT; rw [hml]; clear hat hrw hm hml)
  go_loopw [4, 5] (fun d i wr => ∃ (j m : Nat), j ≤ L.length ∧ i = .int .i64 j ∧ d = .int .i64 m ∧ m = Stil.mostOf 0 ((L.map Stil.forks).take j) ∧ Below w1.heap.size w1 wr) (fun _ i _ => L.length - (intOf i).toNat)
  case atStart => exact ⟨0, 0, by omega, rfl, rfl, rfl, Below.refl _ _⟩
  case round =>
    obtain ⟨j, m, hj, rfl, rfl, hm, hb⟩ := hrel
    have HM : Hid (m = Stil.mostOf 0 ((L.map Stil.forks).take j)) := hm
    clear hm
    by_cases hlt : j < L.length
    · obtain ⟨pa, pc, hpe, _, hpc⟩ := (HAT.out.below hb).shape
      simp only [Value.slice.injEq, true_and] at hpe
      obtain ⟨rfl, rfl⟩ := hpe
      obtain ⟨b, o, rfl, hbl, hn⟩ := hpc j hlt
      obtain ⟨hna, cv, kv, x4, x5, hcv, hkv⟩ := hn.open
      obtain ⟨x0, x1, av, nv, x2, x3, hav, hnv⟩ := hna.open
      have HI : Hid (∀ V, Below wr.heap.size wr V → Calls Tryz.prog 36 #[.agg #[.int .i64 L[j].net.kind, .int .i64 L[j].net.one.op, av, nv, cv, kv]] V fun e w' => e = .returned (.int .i64 (Stil.forks L[j])) ∧ Below V.heap.size V w') := fun V h => IH.out L[j] (List.getElem_mem hlt) av nv cv kv V (hav.below h) (hnv.below h) (hcv.below h) (hkv.below h)
      have HTS : Hid (Stil.mostOf 0 ((L.map Stil.forks).take (j + 1)) = max (Stil.mostOf 0 ((L.map Stil.forks).take j)) (Stil.forks L[j])) := by
        show _ = _
        rw [Stil.mostOf_take (by rw [List.length_map]; exact hlt), List.getElem_map]
      obtain ⟨x, hx⟩ : ∃ x, x = L[j] := ⟨_, rfl⟩
      rw [← hx] at HI HTS x0 x1 hav hnv hcv hkv
      obtain ⟨fx, hfx⟩ : ∃ fx, fx = Stil.forks x := ⟨_, rfl⟩
      rw [← hfx] at HI HTS
      obtain ⟨q0, s0, rfl, hz0⟩ := hav.shape
      obtain ⟨q1, s1, rfl, hz1, _⟩ := hnv.shape
      obtain ⟨q2, s2, rfl, hz2⟩ := hcv.shape
      obtain ⟨q3, s3, rfl, hz3, _⟩ := hkv.shape
      have hj1 : (0 : Int) ≤ (j : Int) := by omega
      have hj2 : (j : Int) < (L.length : Int) := by omega
      clear hz0 hz1 hz2 hz3 hx hfx hn hna hpc hav hnv hcv hkv hbl
      go_wp2_with (first | (go_at_call 36; refine (HI.out _ (by (repeat (first | with_reducible exact Below.refl _ _ | with_reducible assumption | with_reducible refine bl_set (by first | exact Nat.le_refl _ | (simp; done) | (simp; omega) | omega) ?_ _ | with_reducible refine bl_alloc ?_ _ | with_reducible refine bl_drewN ?_ _ | with_reducible refine bl_drew ?_ | with_reducible refine bl_grow ?_ _ _ | with_reducible refine bl_call ?_ (by assumption))))).mono ?_; rintro e w2 ⟨rfl, hb2⟩) | (go_at_call 31; refine (HG.out _ _ _).mono ?_; rintro e w3 ⟨rfl, rfl⟩))
      refine ⟨⟨j + 1, max m fx, by omega, by go_num, rfl, ?_, bl_call hb hb2⟩, by simp [intOf]; omega⟩
      rw [HTS.out, ← HM.out]
    · obtain rfl : j = L.length := by omega
      have hmn := HM.out
      rw [List.take_of_length_le (by rw [List.length_map]; exact Nat.le_refl _)] at hmn
      have HM2 : Hid (m = Stil.mostOf 0 (L.map Stil.forks)) := hmn
      clear hmn
      go_wp2
      go_ret
      exact ⟨ret_int (by rw [HM2.out]), bl_call hb1 hb⟩
end Go.Proofs.YtbllmkmdaenglaaGreatDoor
