/- S3c, S3h, S3i: texts put together. -/
import Derived.Test.YtpaljcoojkbhnaaGreatDoorGU
set_option maxHeartbeats 4000000
set_option maxRecDepth 100000
/- Contracts of the specification's chapter 3, third part: what is wrong with a net. -/
namespace Go.Proofs.YtpaljcoojkbhnaaGreatDoor
open Go.RowKit Go.Sort Go.BigFrame
theorem s_netWrong (n : Stil.Net) : ∀ (av kv : Value) (w : World), DevsAt w av n.one.args → NetsAt w kv n.kids → Stil.netFits n →
  Calls Tryz.prog 96 #[.agg #[.int .i64 n.kind, .int .i64 n.one.op, av, kv]] w fun e w' => e = .returned (.int .i64 (Stil.netWrong n)) ∧ Below w.heap.size w w' := by
 induction n using Stil.net_ind with
 | h k e kids ih =>
  intro av kv w hav hkv hft
  simp only at hav hkv
  obtain ⟨_, he, hf3, hf4⟩ := (Stil.netFits_eq _ _ _).1 hft
  obtain ⟨_, hal, hdf⟩ := he
  have HF : Hid (∀ x ∈ kids, Stil.netFits x) := hf4
  have IH : Hid (∀ x ∈ kids, ∀ (av kv : Value) (w : World), DevsAt w av x.one.args → NetsAt w kv x.kids → Stil.netFits x →
   Calls Tryz.prog 96 #[.agg #[.int .i64 x.kind, .int .i64 x.one.op, av, kv]] w fun e w' => e = .returned (.int .i64 (Stil.netWrong x)) ∧ Below w.heap.size w w') := ih
  have HK : Hid (∀ W, Below w.heap.size w W → Calls Tryz.prog 46 #[.agg #[.int .i64 e.op, av]] W fun e' w' => e' = .returned (.bool (Stil.isContact e.op e.args)) ∧ Below W.heap.size W w') := fun W hW => s_isContact e.op av e.args W (hav.below hW) hdf (by omega)
  clear ih hf4 hft
  obtain ⟨a, cap, rfl, hc⟩ := hkv
  have HC : Hid (∀ i (h : i < kids.length), ∃ b o, a = some ⟨b, o, none⟩ ∧ b < w.heap.size ∧ NetAt w b (o + i * 4) kids[i]) := hc
  obtain ⟨aa, acap, rfl, _⟩ := hav
  have HZ : Hid (Stil.netWrong ⟨k, e, kids⟩ = if k = 1 then (if 0 < kids.length then 2 else if Stil.isContact e.op e.args then 0 else 3)
   else if Stil.badNet k e.op e.args.length kids.length then 2 else Stil.firstPos (kids.map Stil.netWrong)) := Stil.netWrong_eq k e kids
  clear hc hdf
  obtain ⟨la, hla⟩ : ∃ la, la = e.args.length := ⟨_, rfl⟩
  obtain ⟨lk, hlk⟩ : ∃ lk, lk = kids.length := ⟨_, rfl⟩
  have HLK : Hid (lk = kids.length) := hlk
  rw [← hla] at hal HZ HK ⊢
  rw [← hlk] at hf3 HZ ⊢
  clear hla hlk
  by_cases hk1 : k = 1
  ·subst hk1
   by_cases hkl : 0 < lk
   ·have HX : Hid (Stil.netWrong ⟨1, e, kids⟩ = 2) := by show _ = _; rw [HZ.out, if_pos rfl, if_pos hkl]
    go_enter Tryz.func96, Tryz.ntmps96
    go_wp2
    go_ret
    exact ⟨ret_int (by rw [HX.out]), blB⟩
   ·have hkz : decide (0 < (lk : Int)) = false := by rw [decide_eq_false_iff_not]; omega
    cases hct : Stil.isContact e.op e.args
    ·have HX : Hid (Stil.netWrong ⟨1, e, kids⟩ = 3) := by show _ = _; rw [HZ.out, if_pos rfl, if_neg hkl, hct]; rfl
     go_enter Tryz.func96, Tryz.ntmps96
     go_wp2_with (go_at_call 46; refine (HK.out _ blB).mono ?_; rw [hct]; rintro e' w1 ⟨rfl, hb1⟩)
     go_ret
     exact ⟨ret_int (by rw [HX.out]), blB⟩
    ·have HX : Hid (Stil.netWrong ⟨1, e, kids⟩ = 0) := by show _ = _; rw [HZ.out, if_pos rfl, if_neg hkl, hct]; rfl
     go_enter Tryz.func96, Tryz.ntmps96
     go_wp2_with (go_at_call 46; refine (HK.out _ blB).mono ?_; rw [hct]; rintro e' w1 ⟨rfl, hb1⟩)
     go_ret
     exact ⟨ret_int (by rw [HX.out]), blB⟩
  ·have hkb : (k == 1) = false := by rw [beq_eq_false_iff_ne]; exact hk1
   have HZ2 : Hid (Stil.netWrong ⟨k, e, kids⟩ = if Stil.badNet k e.op la lk then 2 else Stil.firstPos (kids.map Stil.netWrong)) := by show _ = _; rw [HZ.out, if_neg hk1]
   clear HZ hk1
   go_enter Tryz.func96, Tryz.ntmps96
   go_upto_region 7 with fail
   go_cut [0, 53] (fun s0 s53 wc => s0 = .agg #[.int .i64 k, .int .i64 e.op, .slice aa la acap, .slice a lk cap] ∧ s53 = .bool (Stil.badNet k e.op la lk) ∧ wc = w.alloc (.cells #[.int .i64 k, .int .i64 e.op, .slice aa la acap, .slice a lk cap] 29))
   case first =>
    have HBN : Hid (Stil.badNet k e.op la lk = (decide (k < 2) || decide (4 < k) || e.op != 0 || decide ((0 : Int) < (la : Int)) || (lk : Int) == 0 || (k == 4 && (lk : Int) != 1))) := rfl
    cases t1 : decide (k < 2)
    ·cases t2 : decide (4 < k)
     ·cases t3 : (e.op != 0)
      ·have HE : Hid (e.op = 0) := (by simpa using t3 : e.op = 0)
       cases t4 : decide ((0 : Int) < (la : Int))
       ·have HA0 : Hid (la = 0) := (by have := of_decide_eq_false t4; omega : la = 0)
        cases t5 : ((lk : Int) == 0)
        ·cases t6 : (k == 4)
         ·(go_wp2_with fail; go_meet; exact ⟨by first | rfl | simp [HE.out, HA0.out], by rw [HBN.out, t1, t2, t3, t4, t5, t6]; rfl, by first | rfl | simp [HE.out, HA0.out]⟩)
         ·have H4 : Hid (k = 4) := (by simpa using t6 : k = 4)
          cases t7 : ((lk : Int) != 1)
          ·have H1 : Hid (lk = 1) := (by have := bne_eq_false_iff_eq.1 t7; omega : lk = 1)
           (go_wp2_with fail; go_meet; exact ⟨by first | rfl | simp [HE.out, HA0.out, H4.out, H1.out], by rw [HBN.out, t1, t2, t3, t4, t5, t6, t7]; rfl, by first | rfl | simp [HE.out, HA0.out, H4.out, H1.out]⟩)
          ·(go_wp2_with fail; go_meet; exact ⟨by first | rfl | simp [HE.out, HA0.out, H4.out], by rw [HBN.out, t1, t2, t3, t4, t5, t6, t7]; rfl, by first | rfl | simp [HE.out, HA0.out, H4.out]⟩)
        ·have HL : Hid (lk = 0) := (by have := beq_iff_eq.1 t5; omega : lk = 0)
         (go_wp2_with fail; go_meet; exact ⟨by first | rfl | simp [HE.out, HA0.out, HL.out], by rw [HBN.out, t1, t2, t3, t4, t5]; rfl, by first | rfl | simp [HE.out, HA0.out, HL.out]⟩)
       ·have p4 : 0 < la := (by have := of_decide_eq_true t4; omega : 0 < la)
        have p5 : (0 : Int) < (la : Int) := (by omega : (0 : Int) < (la : Int))
        (go_wp2_with fail; go_meet; exact ⟨by first | rfl | simp [HE.out], by rw [HBN.out, t1, t2, t3, t4]; rfl, by first | rfl | simp [HE.out]⟩)
      ·(go_wp2_with fail; go_meet; exact ⟨by rfl, by rw [HBN.out, t1, t2, t3]; rfl, by rfl⟩)
     ·(go_wp2_with fail; go_meet; exact ⟨by rfl, by rw [HBN.out, t1, t2]; rfl, by rfl⟩)
    ·(go_wp2_with fail; go_meet; exact ⟨by rfl, by rw [HBN.out, t1]; rfl, by rfl⟩)
   case rest =>
    obtain ⟨rfl, rfl, rfl⟩ := hcut
    cases hbn : Stil.badNet k e.op la lk
    ·rw [hbn] at HZ2
     have HZ3 : Hid (Stil.netWrong ⟨k, e, kids⟩ = Stil.firstPos (kids.map Stil.netWrong)) := HZ2.out
     clear HZ2
     go_wp2
     go_loopw [3, 4] (fun i _ wr => ∃ j : Nat, j ≤ lk ∧ i = .int .i64 j ∧ Stil.firstPos (kids.map Stil.netWrong) = Stil.firstPos ((kids.drop j).map Stil.netWrong) ∧ Below (w.heap.size + 1) (w.alloc (.cells #[.int .i64 k, .int .i64 e.op, .slice aa la acap, .slice a lk cap] 29)) wr) (fun i _ _ => lk - (intOf i).toNat)
     case atStart => exact ⟨0, by omega, rfl, rfl, Below.refl _ _⟩
     case round =>
      obtain ⟨j, hj, rfl, hfp, hB⟩ := hrel
      have HP : Hid (Stil.firstPos (kids.map Stil.netWrong) = Stil.firstPos ((kids.drop j).map Stil.netWrong)) := hfp
      clear hfp
      have hz : w.heap.size < wr.heap.size := by have := hB.size; simp at this; omega
      have c0 : wr.cell? ⟨w.heap.size, 0, none⟩ = some (.int .i64 k) := clA hB
      have f0 : wr.frozen? ⟨w.heap.size, 0, none⟩ = false := frA hB
      have c1 : wr.cell? ⟨w.heap.size, 1, none⟩ = some (.int .i64 e.op) := clA hB
      have f1 : wr.frozen? ⟨w.heap.size, 1, none⟩ = false := frA hB
      have c2 : wr.cell? ⟨w.heap.size, 2, none⟩ = some (.slice aa la acap) := clA hB
      have f2 : wr.frozen? ⟨w.heap.size, 2, none⟩ = false := frA hB
      have c3 : wr.cell? ⟨w.heap.size, 3, none⟩ = some (.slice a lk cap) := clA hB
      have f3 : wr.frozen? ⟨w.heap.size, 3, none⟩ = false := frA hB
      have hbw : Below w.heap.size w wr := (below_alloc _ _).trans (hB.mono (by omega))
      by_cases hlt : j < lk
      ·have hlt' : j < kids.length := by have := HLK.out; omega
       obtain ⟨b, o, rfl, hbl, hn⟩ := HC.out j hlt'
       obtain ⟨x0, x1, av, kv, x2, x3, hav, hkv⟩ := (NetAt.below hbw _ _ _ hn hbl).open
       have HI : Hid (∀ W, Below wr.heap.size wr W → Calls Tryz.prog 96 #[.agg #[.int .i64 kids[j].kind, .int .i64 kids[j].one.op, av, kv]] W fun e w' => e = .returned (.int .i64 (Stil.netWrong kids[j])) ∧ Below W.heap.size W w') := fun W hW => IH.out kids[j] (List.getElem_mem hlt') av kv W (hav.below hW) (hkv.below hW) (HF.out _ (List.getElem_mem hlt'))
       have HS : Hid (Stil.firstPos ((kids.drop j).map Stil.netWrong) = if 0 < Stil.netWrong kids[j] then Stil.netWrong kids[j] else Stil.firstPos ((kids.drop (j + 1)).map Stil.netWrong)) := by
        show _ = _
        rw [List.drop_eq_getElem_cons hlt', List.map_cons]; rfl
       obtain ⟨s, hs⟩ : ∃ s, s = Stil.netWrong kids[j] := ⟨_, rfl⟩
       obtain ⟨x, hx⟩ : ∃ x, x = kids[j] := ⟨_, rfl⟩
       rw [← hs] at HI HS
       rw [← hx] at HI x0 x1
       obtain ⟨aa', acap', rfl, _⟩ := hav
       obtain ⟨a', cap', rfl, _⟩ := hkv
       clear hs hx hn
       by_cases hpos : 0 < s
       ·go_wp2_with (go_at_call 96; refine (HI.out _ blB).mono ?_; rintro e w2 ⟨rfl, hb2⟩)
        go_ret
        exact ⟨ret_int (by rw [HZ3.out, HP.out, HS.out, if_pos hpos]), blB⟩
       ·go_wp2_with (go_at_call 96; refine (HI.out _ blB).mono ?_; rintro e w2 ⟨rfl, hb2⟩)
        refine ⟨⟨j + 1, by omega, by go_num, ?_, hB.trans (hb2.mono hz)⟩, by simp [intOf]; omega⟩
        rw [HP.out, HS.out, if_neg (by omega)]
      ·go_wp2
       go_ret
       refine ⟨ret_int ?_, hbw⟩
       rw [HZ3.out, HP.out, List.drop_of_length_le (by have := HLK.out; omega)]; rfl
    ·rw [hbn] at HZ2
     go_wp2
     go_ret
     exact ⟨ret_int (by rw [HZ2.out]; rfl), blB⟩
theorem s_armWrong (n : Stil.Arm) : ∀ (root : Bool) (av nv cv kv : Value) (w : World), DevsAt w av n.net.one.args → NetsAt w nv n.net.kids → ElemsAt w cv n.coils → ArmsAt w kv n.kids → Stil.armFits n →
  Calls Tryz.prog 68 #[.agg #[.int .i64 n.net.kind, .int .i64 n.net.one.op, av, nv, cv, kv], .bool root] w fun e w' => e = .returned (.int .i64 (if root = true ∧ Stil.netNone n.net = true then 4 else Stil.armWrong n)) ∧ Below w.heap.size w w' := by
 induction n using Stil.arm_ind with
 | h n coils kids ih =>
  intro root av nv cv kv w hav hnv hcv hkv hft
  simp only at hav hnv hcv hkv
  obtain ⟨hnf, hcl, hcf, hkl, hkf⟩ := Stil.armFits_parts hft
  simp only at hnf hcl hcf hkl hkf
  have hnp := Stil.netFits_parts hnf
  have IH : Hid (∀ x ∈ kids, ∀ (av nv cv kv : Value) (w : World), DevsAt w av x.net.one.args → NetsAt w nv x.net.kids → ElemsAt w cv x.coils → ArmsAt w kv x.kids →
   Calls Tryz.prog 68 #[.agg #[.int .i64 x.net.kind, .int .i64 x.net.one.op, av, nv, cv, kv], .bool false] w fun e w' => e = .returned (.int .i64 (Stil.armWrong x)) ∧ Below w.heap.size w w') := fun x hx av nv cv kv w h1 h2 h3 h4 => (ih x hx false av nv cv kv w h1 h2 h3 h4 (hkf x hx)).mono fun e w' ⟨he, hb⟩ => ⟨by rw [he]; simp, hb⟩
  have HNONE : Hid (∀ W, Below w.heap.size w W → Calls Tryz.prog 95 #[.agg #[.int .i64 n.kind, .int .i64 n.one.op, av, nv]] W fun e w' => e = .returned (.bool (Stil.netNone n)) ∧ Below W.heap.size W w') := fun W hW => s_netNone n av nv W (hav.below hW) (hnv.below hW) (by have := hnp.2.1.2.1; omega) (by have := hnp.2.2.1; omega)
  have HNW : Hid (∀ W, Below w.heap.size w W → Calls Tryz.prog 96 #[.agg #[.int .i64 n.kind, .int .i64 n.one.op, av, nv]] W fun e w' => e = .returned (.int .i64 (Stil.netWrong n)) ∧ Below W.heap.size W w') := fun W hW => s_netWrong n av nv W (hav.below hW) (hnv.below hW) hnf
  have HCF : Hid (∀ c ∈ coils, c.fits) := hcf
  have HCV : Hid (∀ i (h : i < coils.length), ∃ b o, True ∧ b < w.heap.size ∧ ElemAt w b (o + i * 2) coils[i] ∧ ∃ cap, cv = .slice (some ⟨b, o, none⟩) coils.length cap) := by
   intro i hi
   obtain ⟨a, cap, hv, hc⟩ := hcv
   obtain ⟨b, o, ha, hb, hx⟩ := hc i hi
   exact ⟨b, o, trivial, hb, hx, cap, by rw [hv, ha]⟩
  obtain ⟨p0, r0, rfl, _⟩ := hav
  obtain ⟨p1, r1, rfl, _⟩ := hnv
  obtain ⟨p2, r2, rfl, hcc⟩ := hcv
  obtain ⟨p3, r3, rfl, hkk⟩ := hkv
  have HCC : Hid (∀ i (h : i < coils.length), ∃ b o, p2 = some ⟨b, o, none⟩ ∧ b < w.heap.size ∧ ElemAt w b (o + i * 2) coils[i]) := hcc
  have HKK : Hid (∀ i (h : i < kids.length), ∃ b o, p3 = some ⟨b, o, none⟩ ∧ b < w.heap.size ∧ ArmAt w b (o + i * 6) kids[i]) := hkk
  have HW : Hid (Stil.armWrong ⟨n, coils, kids⟩ = if 0 < Stil.armOwnWrong ⟨n, coils, kids⟩ then Stil.armOwnWrong ⟨n, coils, kids⟩ else Stil.firstPos (kids.map Stil.armWrong)) := Stil.armWrong_eq _
  have HOW : Hid (Stil.armOwnWrong ⟨n, coils, kids⟩ = if Stil.netNone n = false ∧ 0 < Stil.netWrong n then Stil.netWrong n else if Stil.coilsBad coils then 3 else if coils.length = 0 ∧ kids.length = 0 then 5 else 0) := rfl
  have HKB : Hid (∀ x ∈ kids, 0 ≤ Stil.armWrong x ∧ Stil.armWrong x ≤ 5) := fun x _ => Stil.armWrong_bound x
  have hnb := Stil.netWrong_bound n
  simp only
  obtain ⟨nn, hnn⟩ : ∃ nn, nn = Stil.netNone n := ⟨_, rfl⟩
  obtain ⟨nw, hnw⟩ : ∃ nw, nw = Stil.netWrong n := ⟨_, rfl⟩
  rw [← hnn] at HNONE HOW ⊢
  rw [← hnw] at HNW HOW hnb
  obtain ⟨lc, hlc⟩ : ∃ lc, lc = coils.length := ⟨_, rfl⟩
  obtain ⟨lk, hlk⟩ : ∃ lk, lk = kids.length := ⟨_, rfl⟩
  have HLC : Hid (lc = coils.length) := hlc
  have HLK : Hid (lk = kids.length) := hlk
  rw [← hlc] at hcl HOW ⊢
  rw [← hlk] at hkl HOW ⊢
  clear ih hft hnf hcf hkf hcc hkk hnp hnn hnw hlc hlk HCV
  obtain ⟨R, hR⟩ : ∃ R, R = (if root = true ∧ nn = true then 4 else Stil.armWrong ⟨n, coils, kids⟩) := ⟨_, rfl⟩
  rw [← hR]
  have hcases : (root = true ∧ nn = true) ∨ (root = true ∧ nn = false ∧ 0 < nw) ∨ (root = false ∧ nn = false ∧ 0 < nw) ∨ (root = false ∧ nn = false ∧ ¬ 0 < nw) ∨ (root = false ∧ nn = true) ∨ (root = true ∧ nn = false ∧ ¬ 0 < nw) := by
   cases root <;> cases nn <;> by_cases h : 0 < nw <;> simp [h]
  rcases hcases with ⟨rfl, rfl⟩ | ⟨rfl, rfl, hpos⟩ | ⟨rfl, rfl, hpos⟩ | ⟨hr, hn, hpos⟩ | ⟨hr, hn⟩ | ⟨hr, hn, hpos⟩
  ·have HX : Hid (R = 4) := by show _ = _; rw [hR]; simp
   clear hR
   go_enter Tryz.func68, Tryz.ntmps68
   go_wp2_with (go_at_call 95; refine (HNONE.out _ blA).mono ?_; rintro e w1 ⟨rfl, hb1⟩)
   go_ret
   exact ⟨ret_int (by rw [HX.out]), blA⟩
  ·have hR1 : R = Stil.armWrong ⟨n, coils, kids⟩ := by rw [hR]; simp
   clear hR
   have HNONE2 := HNONE
   have HX : Hid (R = nw) := by show _ = _; rw [hR1, HW.out, HOW.out]; simp [hpos]
   clear hR1
   go_enter Tryz.func68, Tryz.ntmps68
   go_wp2_with (first | (go_at_call 95; refine (HNONE.out _ blA).mono ?_; clear HNONE; rintro e w0 ⟨rfl, hb0⟩; obtain ⟨hc0, hf0⟩ := bcell hb0; have hz0 : w.heap.size < w0.heap.size := Nat.lt_of_lt_of_le (by simp) hb0.size) | (go_at_call 95; refine (HNONE2.out _ blA).mono ?_; rintro e w1 ⟨rfl, hb1⟩; obtain ⟨hc1, hf1⟩ := bcell hb1) | (go_at_call 96; refine (HNW.out _ blA).mono ?_; rintro e w2 ⟨rfl, hb2⟩))
   go_ret
   exact ⟨ret_int (by rw [HX.out]), blA⟩
  ·have hR1 : R = Stil.armWrong ⟨n, coils, kids⟩ := by rw [hR]; simp
   clear hR
   have HX : Hid (R = nw) := by show _ = _; rw [hR1, HW.out, HOW.out]; simp [hpos]
   clear hR1
   go_enter Tryz.func68, Tryz.ntmps68
   go_wp2_with (first | (go_at_call 95; refine (HNONE.out _ blA).mono ?_; rintro e w1 ⟨rfl, hb1⟩; obtain ⟨hc1, hf1⟩ := bcell hb1) | (go_at_call 96; refine (HNW.out _ blA).mono ?_; rintro e w2 ⟨rfl, hb2⟩))
   go_ret
   exact ⟨ret_int (by rw [HX.out]), blA⟩
  all_goals first
   | (
     obtain rfl : root = false := hr
     obtain rfl : nn = false := hn
     have hR1 : R = Stil.armWrong ⟨n, coils, kids⟩ := by rw [hR]; simp
     clear hR
     have HR2 : Hid (R = if Stil.coilsBad coils then 3 else if lc = 0 ∧ lk = 0 then 5 else Stil.firstPos (kids.map Stil.armWrong)) := by
      show _ = _
      rw [hR1, HW.out, HOW.out]
      simp only [hpos, and_false, if_false]
      cases Stil.coilsBad coils
      ·simp only [Bool.false_eq_true, if_false]
       split <;> simp
      ·simp
     clear hR1
     go_enter Tryz.func68, Tryz.ntmps68
     go_wp2_with (first | (go_at_call 95; refine (HNONE.out _ blA).mono ?_; rintro e w1 ⟨rfl, hb1⟩; obtain ⟨hc1, hf1⟩ := bcell hb1) | (go_at_call 96; refine (HNW.out _ blA).mono ?_; rintro e w2 ⟨rfl, hb2⟩))
     have hbs : Below (w.heap.size + 1) (w.alloc (.cells #[.int .i64 n.kind, .int .i64 n.one.op, .slice p0 n.one.args.length r0, .slice p1 n.kids.length r1, .slice p2 lc r2, .slice p3 lk r3] 80)) w2 := by
      have h1 := hb1.size
      simp only [World.size_alloc] at hb1 h1
      exact hb1.trans (hb2.mono h1)
     clear hb1 hb2 hc1 hf1)
   | (
     obtain rfl : root = false := hr
     obtain rfl : nn = true := hn
     have hR1 : R = Stil.armWrong ⟨n, coils, kids⟩ := by rw [hR]; simp
     clear hR
     have HR2 : Hid (R = if Stil.coilsBad coils then 3 else if lc = 0 ∧ lk = 0 then 5 else Stil.firstPos (kids.map Stil.armWrong)) := by
      show _ = _
      rw [hR1, HW.out, HOW.out]
      simp only [Bool.true_eq_false, false_and, if_false]
      cases Stil.coilsBad coils
      ·simp only [Bool.false_eq_true, if_false]
       split <;> simp
      ·simp
     clear hR1
     go_enter Tryz.func68, Tryz.ntmps68
     go_wp2_with (go_at_call 95; refine (HNONE.out _ blA).mono ?_; rintro e w1 ⟨rfl, hb1⟩; obtain ⟨hc1, hf1⟩ := bcell hb1)
     have hbs : Below (w.heap.size + 1) (w.alloc (.cells #[.int .i64 n.kind, .int .i64 n.one.op, .slice p0 n.one.args.length r0, .slice p1 n.kids.length r1, .slice p2 lc r2, .slice p3 lk r3] 80)) w1 := by simpa using hb1
     clear hb1 hc1 hf1)
   | (
     obtain rfl : root = true := hr
     obtain rfl : nn = false := hn
     have hR1 : R = Stil.armWrong ⟨n, coils, kids⟩ := by rw [hR]; simp
     clear hR
     have HNONE2 := HNONE
     have HR2 : Hid (R = if Stil.coilsBad coils then 3 else if lc = 0 ∧ lk = 0 then 5 else Stil.firstPos (kids.map Stil.armWrong)) := by
      show _ = _
      rw [hR1, HW.out, HOW.out]
      simp only [hpos, and_false, if_false]
      cases Stil.coilsBad coils
      ·simp only [Bool.false_eq_true, if_false]
       split <;> simp
      ·simp
     clear hR1
     go_enter Tryz.func68, Tryz.ntmps68
     go_wp2_with (first | (go_at_call 95; refine (HNONE.out _ blA).mono ?_; clear HNONE; rintro e w0 ⟨rfl, hb0⟩; obtain ⟨hc0, hf0⟩ := bcell hb0; have hz0 : w.heap.size < w0.heap.size := Nat.lt_of_lt_of_le (by simp) hb0.size) | (go_at_call 95; refine (HNONE2.out _ blA).mono ?_; rintro e w1 ⟨rfl, hb1⟩; obtain ⟨hc1, hf1⟩ := bcell hb1) | (go_at_call 96; refine (HNW.out _ blA).mono ?_; rintro e w2 ⟨rfl, hb2⟩))
     have hbs : Below (w.heap.size + 1) (w.alloc (.cells #[.int .i64 n.kind, .int .i64 n.one.op, .slice p0 n.one.args.length r0, .slice p1 n.kids.length r1, .slice p2 lc r2, .slice p3 lk r3] 80)) w2 := by
      have h0 := hb0.size
      have h1 := hb1.size
      simp only [World.size_alloc] at hb0 h0
      exact (hb0.trans (hb1.mono h0)).trans (hb2.mono (Nat.le_trans h0 h1))
     clear hb0 hc0 hf0 hb1 hb2 hc1 hf1 hz0)
  all_goals
   go_loopw [6] (fun i wr => ∃ m : Nat, m ≤ lc ∧ i = .int .i64 m ∧ Stil.coilsBad coils = Stil.coilsBad (coils.drop m) ∧ Below (w.heap.size + 1) (w.alloc (.cells #[.int .i64 n.kind, .int .i64 n.one.op, .slice p0 n.one.args.length r0, .slice p1 n.kids.length r1, .slice p2 lc r2, .slice p3 lk r3] 80)) wr) (fun i _ => lc - (intOf i).toNat)
   case atStart => exact ⟨0, by omega, rfl, rfl, hbs⟩
   case round =>
    clear hbs
    obtain ⟨m, hm, rfl, hcb, hB⟩ := hrel
    have HCB : Hid (Stil.coilsBad coils = Stil.coilsBad (coils.drop m)) := hcb
    clear hcb
    have hz : w.heap.size < wr.heap.size := by have := hB.size; simp at this; omega
    have c0 : wr.cell? ⟨w.heap.size, 0, none⟩ = some (.int .i64 n.kind) := clA hB
    have f0 : wr.frozen? ⟨w.heap.size, 0, none⟩ = false := frA hB
    have c1 : wr.cell? ⟨w.heap.size, 1, none⟩ = some (.int .i64 n.one.op) := clA hB
    have f1 : wr.frozen? ⟨w.heap.size, 1, none⟩ = false := frA hB
    have c2 : wr.cell? ⟨w.heap.size, 2, none⟩ = some (.slice p0 n.one.args.length r0) := clA hB
    have f2 : wr.frozen? ⟨w.heap.size, 2, none⟩ = false := frA hB
    have c3 : wr.cell? ⟨w.heap.size, 3, none⟩ = some (.slice p1 n.kids.length r1) := clA hB
    have f3 : wr.frozen? ⟨w.heap.size, 3, none⟩ = false := frA hB
    have c4 : wr.cell? ⟨w.heap.size, 4, none⟩ = some (.slice p2 lc r2) := clA hB
    have f4 : wr.frozen? ⟨w.heap.size, 4, none⟩ = false := frA hB
    have c5 : wr.cell? ⟨w.heap.size, 5, none⟩ = some (.slice p3 lk r3) := clA hB
    have f5 : wr.frozen? ⟨w.heap.size, 5, none⟩ = false := frA hB
    have hbw : Below w.heap.size w wr := (below_alloc _ _).trans (hB.mono (by omega))
    by_cases hlt : m < lc
    ·have hlt' : m < coils.length := by have := HLC.out; omega
     obtain ⟨b, o, rfl, hbl, hce⟩ := HCC.out m hlt'
     obtain ⟨x0, cav, x1, hcav⟩ := hce.below hbw hbl
     have hcfm := HCF.out _ (List.getElem_mem hlt')
     have HI : Hid (∀ W, Below wr.heap.size wr W → Calls Tryz.prog 47 #[.agg #[.int .i64 coils[m].op, cav]] W fun e w' => e = .returned (.bool (Stil.isCoil coils[m].op coils[m].args)) ∧ Below W.heap.size W w') := fun W hW => s_isCoil coils[m].op cav coils[m].args W (hcav.below hW) hcfm.2.2 (by have := hcfm.2.1; omega)
     have HD : Hid (Stil.coilsBad coils = (!Stil.isCoil coils[m].op coils[m].args || Stil.coilsBad (coils.drop (m + 1)))) := by show _ = _; rw [HCB.out, Stil.coilsBad_drop _ _ hlt']
     obtain ⟨ic, hic⟩ : ∃ ic, ic = Stil.isCoil coils[m].op coils[m].args := ⟨_, rfl⟩
     rw [← hic] at HI HD
     obtain ⟨y, hy⟩ : ∃ y, y = coils[m] := ⟨_, rfl⟩
     rw [← hy] at HI x0
     obtain ⟨t1, t2, f1, _⟩ := hcav
     rw [← hy] at f1
     subst f1
     clear hic hy hce hcfm HCB
     cases ic
     ·have HX : Hid (R = 3) := by show _ = _; rw [HR2.out, HD.out]; rfl
      go_wp2_with (go_at_call 47; refine (HI.out _ blA).mono ?_; rintro e w3 ⟨rfl, hb3⟩)
      go_ret
      exact ⟨ret_int (by rw [HX.out]), blA⟩
     ·have HX : Hid (Stil.coilsBad coils = Stil.coilsBad (coils.drop (m + 1))) := by show _ = _; rw [HD.out]; rfl
      go_wp2_with (go_at_call 47; refine (HI.out _ blA).mono ?_; rintro e w3 ⟨rfl, hb3⟩)
      exact ⟨⟨m + 1, by omega, by go_num, HX.out, hB.trans (hb3.mono hz)⟩, by simp [intOf]; omega⟩
    ·have hcb0 : Stil.coilsBad coils = false := by rw [HCB.out, List.drop_of_length_le (by have := HLC.out; omega)]; rfl
     have HR3 : Hid (R = if lc = 0 ∧ lk = 0 then 5 else Stil.firstPos (kids.map Stil.armWrong)) := by show _ = _; rw [HR2.out, hcb0]; rfl
     clear hcb0 HCB HR2
     obtain ⟨hb0, hb1⟩ : True ∧ True := ⟨trivial, trivial⟩
     by_cases hl0 : lc = 0 ∧ lk = 0
     ·have HX : Hid (R = 5) := by show _ = _; rw [HR3.out, if_pos hl0]
      obtain ⟨rfl, rfl⟩ := hl0
      clear HR3
      go_wp2
      go_ret
      exact ⟨ret_int (by rw [HX.out]), blA⟩
     ·have HX : Hid (R = Stil.firstPos (kids.map Stil.armWrong)) := by show _ = _; rw [HR3.out, if_neg hl0]
      clear HR3
      have hcase : ((lc : Int) == 0) = false ∨ ((lk : Int) == 0) = false := by
       by_cases h : lc = 0
       ·right; rw [beq_eq_false_iff_ne]; omega
       ·left; rw [beq_eq_false_iff_ne]; omega
      clear hl0
      rcases hcase with hq | hq <;> go_wp2
      all_goals (
       go_loopw [7] (fun i wq => ∃ j : Nat, j ≤ lk ∧ i = .int .i64 j ∧ Stil.firstPos (kids.map Stil.armWrong) = Stil.firstPos ((kids.drop j).map Stil.armWrong) ∧ Below (w.heap.size + 1) (w.alloc (.cells #[.int .i64 n.kind, .int .i64 n.one.op, .slice p0 n.one.args.length r0, .slice p1 n.kids.length r1, .slice p2 lc r2, .slice p3 lk r3] 80)) wq) (fun i _ => lk - (intOf i).toNat)
       case atStart => exact ⟨0, by omega, rfl, rfl, hB⟩
       case round =>
        clear c0 c1 c2 c3 c4 c5 f0 f1 f2 f3 f4 f5 hz hB hbw
        obtain ⟨j, hj, rfl, hfp, hB⟩ := hrel
        have HP : Hid (Stil.firstPos (kids.map Stil.armWrong) = Stil.firstPos ((kids.drop j).map Stil.armWrong)) := hfp
        clear hfp
        have hz : w.heap.size < wr.heap.size := by have := hB.size; simp at this; omega
        have c0 : wr.cell? ⟨w.heap.size, 0, none⟩ = some (.int .i64 n.kind) := clA hB
        have f0 : wr.frozen? ⟨w.heap.size, 0, none⟩ = false := frA hB
        have c1 : wr.cell? ⟨w.heap.size, 1, none⟩ = some (.int .i64 n.one.op) := clA hB
        have f1 : wr.frozen? ⟨w.heap.size, 1, none⟩ = false := frA hB
        have c2 : wr.cell? ⟨w.heap.size, 2, none⟩ = some (.slice p0 n.one.args.length r0) := clA hB
        have f2 : wr.frozen? ⟨w.heap.size, 2, none⟩ = false := frA hB
        have c3 : wr.cell? ⟨w.heap.size, 3, none⟩ = some (.slice p1 n.kids.length r1) := clA hB
        have f3 : wr.frozen? ⟨w.heap.size, 3, none⟩ = false := frA hB
        have c4 : wr.cell? ⟨w.heap.size, 4, none⟩ = some (.slice p2 lc r2) := clA hB
        have f4 : wr.frozen? ⟨w.heap.size, 4, none⟩ = false := frA hB
        have c5 : wr.cell? ⟨w.heap.size, 5, none⟩ = some (.slice p3 lk r3) := clA hB
        have f5 : wr.frozen? ⟨w.heap.size, 5, none⟩ = false := frA hB
        have hbw : Below w.heap.size w wr := (below_alloc _ _).trans (hB.mono (by omega))
        by_cases hlt : j < lk
        ·have hlt' : j < kids.length := by have := HLK.out; omega
         obtain ⟨b, o, rfl, hbl, hn⟩ := HKK.out j hlt'
         obtain ⟨hna, kcv, kkv, x4, x5, hcv, hkv⟩ := (ArmAt.below hbw _ _ _ hn hbl).open
         obtain ⟨x0, x1, kav, knv, x2, x3, hav, hnv⟩ := hna.open
         have HI : Hid (∀ W, Below wr.heap.size wr W → Calls Tryz.prog 68 #[.agg #[.int .i64 kids[j].net.kind, .int .i64 kids[j].net.one.op, kav, knv, kcv, kkv], .bool false] W fun e w' => e = .returned (.int .i64 (Stil.armWrong kids[j])) ∧ Below W.heap.size W w') := fun W hW => IH.out kids[j] (List.getElem_mem hlt') kav knv kcv kkv W (hav.below hW) (hnv.below hW) (hcv.below hW) (hkv.below hW)
         have HS : Hid (Stil.firstPos ((kids.drop j).map Stil.armWrong) = if 0 < Stil.armWrong kids[j] then Stil.armWrong kids[j] else Stil.firstPos ((kids.drop (j + 1)).map Stil.armWrong)) := by
          show _ = _
          rw [List.drop_eq_getElem_cons hlt', List.map_cons]; rfl
         obtain ⟨s, hs⟩ : ∃ s, s = Stil.armWrong kids[j] := ⟨_, rfl⟩
         obtain ⟨x, hx⟩ : ∃ x, x = kids[j] := ⟨_, rfl⟩
         rw [← hs] at HI HS
         rw [← hx] at HI x0 x1 hav hnv hcv hkv
         obtain ⟨t0, u0, rfl, _⟩ := hav
         obtain ⟨t1, u1, rfl, _⟩ := hnv
         obtain ⟨t2, u2, rfl, _⟩ := hcv
         obtain ⟨t3, u3, rfl, _⟩ := hkv
         clear hs hx hn hna
         by_cases hpos : 0 < s
         ·go_wp2_with (go_at_call 68; refine (HI.out _ blA).mono ?_; rintro e w4 ⟨rfl, hb4⟩)
          go_ret
          exact ⟨ret_int (by rw [HX.out, HP.out, HS.out, if_pos hpos]), blA⟩
         ·go_wp2_with (go_at_call 68; refine (HI.out _ blA).mono ?_; rintro e w4 ⟨rfl, hb4⟩)
          refine ⟨⟨j + 1, by omega, by go_num, ?_, hB.trans (hb4.mono hz)⟩, by simp [intOf]; omega⟩
          rw [HP.out, HS.out, if_neg (by omega)]
        ·go_wp2
         go_ret
         refine ⟨ret_int ?_, hbw⟩
         rw [HX.out, HP.out, List.drop_of_length_le (by have := HLK.out; omega)]; rfl)
theorem s_rungWrong (n : Stil.Arm) (av nv cv kv : Value) (w : World) (hav : DevsAt w av n.net.one.args) (hnv : NetsAt w nv n.net.kids) (hcv : ElemsAt w cv n.coils) (hkv : ArmsAt w kv n.kids) (hf : Stil.armFits n) :
  Calls Tryz.prog 68 #[.agg #[.int .i64 n.net.kind, .int .i64 n.net.one.op, av, nv, cv, kv], .bool true] w fun e w' => e = .returned (.int .i64 (Stil.rungWrong n)) ∧ Below w.heap.size w w' :=
 (s_armWrong n true av nv cv kv w hav hnv hcv hkv hf).mono fun e w' ⟨he, hb⟩ => ⟨by rw [he]; simp [Stil.rungWrong], hb⟩
theorem s_treeCheck (l : List Stil.Arm) (kv : Value) (w : World) (hkv : ArmsAt w kv l) (hl : l.length ≤ 1048576) (hsz : Stil.treeSize l ≤ 1000000000) (hft : ∀ x ∈ l, Stil.armFits x) :
  Calls Tryz.prog 38 #[kv] w fun e w' => e = .returned (.agg #[.int .i64 (Stil.treeCheck l).1, .int .i64 (Stil.treeCheck l).2]) ∧ Below w.heap.size w w' := by
 have HT : Hid (∀ W, Below w.heap.size w W → Calls Tryz.prog 67 #[kv] W fun e w' => e = .returned (.int .i64 (Stil.treeSize l)) ∧ Below W.heap.size W w') := fun W hW => s_treeSize l kv W (hkv.below hW) hsz hft
 have HF : Hid (∀ x ∈ l, Stil.armFits x) := hft
 obtain ⟨a, cap, rfl, hc⟩ := hkv
 have HC : Hid (∀ i (h : i < l.length), ∃ b o, a = some ⟨b, o, none⟩ ∧ b < w.heap.size ∧ ArmAt w b (o + i * 6) l[i]) := hc
 obtain ⟨ln, hln⟩ : ∃ ln, ln = l.length := ⟨_, rfl⟩
 obtain ⟨z, hz⟩ : ∃ z, z = Stil.treeSize l := ⟨_, rfl⟩
 have HLN : Hid (ln = l.length) := hln
 have HR : Hid (Stil.treeCheck l = if 40 < ln ∨ 400 < z then (1, 0) else Stil.firstRung l 0) := by show _ = _; rw [hln, hz]; rfl
 rw [← hln] at hl HT ⊢
 rw [← hz] at HT hsz
 obtain ⟨R, hR⟩ : ∃ R, R = Stil.treeCheck l := ⟨_, rfl⟩
 rw [← hR] at HR ⊢
 clear hc hft hln hz hR
 by_cases h1 : 40 < ln
 ·have HX : Hid (R = (1, 0)) := by show _ = _; rw [HR.out, if_pos (.inl h1)]
  go_enter Tryz.func38, Tryz.ntmps38
  go_wp2
  refine bodyPost_ret (v := .agg #[.int .i64 1, .int .i64 0]) (by simp [results, Tryz.results38, go_sem]) rfl ⟨by rw [HX.out]; rfl, blA⟩
 ·by_cases h2 : 400 < z
  ·have HX : Hid (R = (1, 0)) := by show _ = _; rw [HR.out, if_pos (.inr h2)]
   go_enter Tryz.func38, Tryz.ntmps38
   go_wp2_with (go_at_call 67; refine (HT.out _ blA).mono ?_; rintro e w1 ⟨rfl, hb1⟩; have g0 : w1.cell? ⟨w.heap.size, 0, none⟩ = some (.int .i64 0) := (clA hb1); have g1 : w1.cell? ⟨w.heap.size, 1, none⟩ = some (.int .i64 0) := (clA hb1); have k0 : w1.frozen? ⟨w.heap.size, 0, none⟩ = false := (frA hb1); have k1 : w1.frozen? ⟨w.heap.size, 1, none⟩ = false := (frA hb1))
   refine bodyPost_ret (v := .agg #[.int .i64 1, .int .i64 0]) (by simp [results, Tryz.results38, go_sem, g0, g1]) rfl ⟨by rw [HX.out]; rfl, blA⟩
  ·have HX : Hid (R = Stil.firstRung l 0) := by show _ = _; rw [HR.out, if_neg (by omega)]
   clear HR
   go_enter Tryz.func38, Tryz.ntmps38
   go_wp2_with (go_at_call 67; refine (HT.out _ blA).mono ?_; rintro e w1 ⟨rfl, hb1⟩)
   have hbs : Below (w.heap.size + 1) (w.alloc (.cells #[.int .i64 0, .int .i64 0] 83)) w1 := by simpa using hb1
   clear hb1
   go_loopw [3] (fun i wr => ∃ j : Nat, j ≤ ln ∧ i = .int .i64 j ∧ R = Stil.firstRung (l.drop j) j ∧ Below (w.heap.size + 1) (w.alloc (.cells #[.int .i64 0, .int .i64 0] 83)) wr) (fun i _ => ln - (intOf i).toNat)
   case atStart => exact ⟨0, by omega, rfl, by rw [HX.out]; rfl, hbs⟩
   case round =>
    clear hbs HX
    obtain ⟨j, hj, rfl, hfr, hB⟩ := hrel
    have HP : Hid (R = Stil.firstRung (l.drop j) j) := hfr
    clear hfr
    have hz : w.heap.size < wr.heap.size := by have := hB.size; simp at this; omega
    have c0 : wr.cell? ⟨w.heap.size, 0, none⟩ = some (.int .i64 0) := clA hB
    have f0 : wr.frozen? ⟨w.heap.size, 0, none⟩ = false := frA hB
    have c1 : wr.cell? ⟨w.heap.size, 1, none⟩ = some (.int .i64 0) := clA hB
    have f1 : wr.frozen? ⟨w.heap.size, 1, none⟩ = false := frA hB
    have hbw : Below w.heap.size w wr := (below_alloc _ _).trans (hB.mono (by omega))
    by_cases hlt : j < ln
    ·have hlt' : j < l.length := by have := HLN.out; omega
     obtain ⟨b, o, rfl, hbl, hn⟩ := HC.out j hlt'
     obtain ⟨hna, kcv, kkv, x4, x5, hcv, hkv⟩ := (ArmAt.below hbw _ _ _ hn hbl).open
     obtain ⟨x0, x1, kav, knv, x2, x3, hav, hnv⟩ := hna.open
     have HI : Hid (∀ W, Below wr.heap.size wr W → Calls Tryz.prog 68 #[.agg #[.int .i64 l[j].net.kind, .int .i64 l[j].net.one.op, kav, knv, kcv, kkv], .bool true] W fun e w' => e = .returned (.int .i64 (Stil.rungWrong l[j])) ∧ Below W.heap.size W w') := fun W hW => s_rungWrong l[j] kav knv kcv kkv W (hav.below hW) (hnv.below hW) (hcv.below hW) (hkv.below hW) (HF.out _ (List.getElem_mem hlt'))
     have HS : Hid (R = if 0 < Stil.rungWrong l[j] then (Stil.rungWrong l[j], j) else Stil.firstRung (l.drop (j + 1)) (j + 1)) := by show _ = _; rw [HP.out, Stil.firstRung_drop l j hlt']
     have hbd := Stil.rungWrong_bound l[j]
     obtain ⟨s, hs⟩ : ∃ s, s = Stil.rungWrong l[j] := ⟨_, rfl⟩
     obtain ⟨x, hx⟩ : ∃ x, x = l[j] := ⟨_, rfl⟩
     rw [← hs] at HI HS hbd
     rw [← hx] at HI x0 x1 hav hnv hcv hkv
     obtain ⟨t0, u0, rfl, _⟩ := hav
     obtain ⟨t1, u1, rfl, _⟩ := hnv
     obtain ⟨t2, u2, rfl, _⟩ := hcv
     obtain ⟨t3, u3, rfl, _⟩ := hkv
     clear hs hx hn hna HP
     by_cases hpos : 0 < s
     ·have HX : Hid (R = (s, j)) := by show _ = _; rw [HS.out, if_pos hpos]
      go_wp2_with (go_at_call 68; refine (HI.out _ blA).mono ?_; rintro e w4 ⟨rfl, hb4⟩; have g0 : w4.cell? ⟨w.heap.size, 0, none⟩ = some (.int .i64 0) := (hb4.cell (p := ⟨w.heap.size, 0, none⟩) hz).trans c0; have g1 : w4.cell? ⟨w.heap.size, 1, none⟩ = some (.int .i64 0) := (hb4.cell (p := ⟨w.heap.size, 1, none⟩) hz).trans c1; have k0 : w4.frozen? ⟨w.heap.size, 0, none⟩ = false := (hb4.frozen (p := ⟨w.heap.size, 0, none⟩) hz).trans f0; have k1 : w4.frozen? ⟨w.heap.size, 1, none⟩ = false := (hb4.frozen (p := ⟨w.heap.size, 1, none⟩) hz).trans f1)
      refine bodyPost_ret (v := .agg #[.int .i64 s, .int .i64 j]) (by simp [results, Tryz.results38, go_sem, g0, g1]) rfl ⟨by rw [HX.out], blA⟩
     ·have HX : Hid (R = Stil.firstRung (l.drop (j + 1)) (j + 1)) := by show _ = _; rw [HS.out, if_neg hpos]
      go_wp2_with (go_at_call 68; refine (HI.out _ blA).mono ?_; rintro e w4 ⟨rfl, hb4⟩)
      exact ⟨⟨j + 1, by omega, by go_num, HX.out, hB.trans (hb4.mono hz)⟩, by simp [intOf]; omega⟩
    ·have HX : Hid (R = (0, 0)) := by show _ = _; rw [HP.out, List.drop_of_length_le (by have := HLN.out; omega)]; rfl
     go_wp2
     refine bodyPost_ret (v := .agg #[.int .i64 0, .int .i64 0]) (by simp [results, Tryz.results38, go_sem, c0, c1]) rfl ⟨by rw [HX.out]; rfl, blA⟩
end Go.Proofs.YtpaljcoojkbhnaaGreatDoor
