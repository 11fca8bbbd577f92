/- The law on the first wrong instruction: the walk. -/
import Derived.Test.YtbfkfdbkjbgneaaDoorHm
import Derived.Deep.RegionWith
import Derived.Deep.RegionLaw
import Derived.Deep.RegionHeld3
import Derived.Lib.QuietBelow
namespace Go.Proofs.YtbfkfdbkjbgneaaDoor
open Go.RowKit Go.Sort Go.BigFrame
set_option maxHeartbeats 4000000 in
set_option maxRecDepth 100000 in
theorem law_sureFirst (u t : Value) (w : World) (hrow : RowsAt w) (hlw : LWordsAt w) (hu : BytesAt w u) (ht : BytesAt w t) :
    Calls Tryd.prog 3 #[u, t] w fun e w' => e = .returned (.bool true) ∧ Below w.heap.size w w' := by
  have HR : Hid (∀ W, Below w.heap.size w W → RowsAt W ∧ LWordsAt W) := fun W h => ⟨hrow.below h, hlw.below h⟩
  have HDU : Hid (∀ W, Below w.heap.size w W → Calls Tryd.prog 4 #[u] W fun e w' => HalfOut e W w') := fun W h => s_drawSureCheck u W (hu.below h)
  have HDT : Hid (∀ W, Below w.heap.size w W → Calls Tryd.prog 4 #[t] W fun e w' => HalfOut e W w') := fun W h => s_drawSureCheck t W (ht.below h)
  obtain ⟨ua, ul, uc, rfl, -, -, -⟩ := hu
  obtain ⟨ta, tl, tc, rfl, -, -, -⟩ := ht
  clear hrow hlw
  by_cases hbig : 1048576 < ul
  · go_enter Tryd.func3, Tryd.ntmps3
    go_wp2
    go_ret
    exact ⟨rfl, by (repeat (first | with_reducible exact Below.refl _ _ | with_reducible assumption | with_reducible refine bl_set (by first | exact Nat.le_refl _ | (simp; done) | (simp; omega) | omega) ?_ _ | with_reducible refine bl_alloc ?_ _ | with_reducible refine bl_drewN ?_ _ | with_reducible refine bl_drew ?_ | with_reducible refine bl_grow ?_ _ _ | with_reducible refine bl_call ?_ (by assumption)))⟩
  by_cases hbig2 : 1048576 < tl
  · go_enter Tryd.func3, Tryd.ntmps3
    go_wp2
    go_ret
    exact ⟨rfl, by (repeat (first | with_reducible exact Below.refl _ _ | with_reducible assumption | with_reducible refine bl_set (by first | exact Nat.le_refl _ | (simp; done) | (simp; omega) | omega) ?_ _ | with_reducible refine bl_alloc ?_ _ | with_reducible refine bl_drewN ?_ _ | with_reducible refine bl_drew ?_ | with_reducible refine bl_grow ?_ _ _ | with_reducible refine bl_call ?_ (by assumption)))⟩
  go_enter Tryd.func3, Tryd.ntmps3
  go_upto_region 4 with (go_at_call 4; refine (HDU.out _ (by (repeat (first | with_reducible exact Below.refl _ _ | with_reducible assumption | with_reducible refine bl_set (by first | exact Nat.le_refl _ | (simp; done) | (simp; omega) | omega) ?_ _ | with_reducible refine bl_alloc ?_ _ | with_reducible refine bl_drewN ?_ _ | with_reducible refine bl_drew ?_ | with_reducible refine bl_grow ?_ _ _ | with_reducible refine bl_call ?_ (by assumption))))).mono ?_; rintro e w1 ⟨l, v1, rfl, hin1, ht1, hn1, hb1⟩)
  have HIN : Hid (InstsIn (fun b => w.heap.size < b) w1 v1 l) := hin1
  have HTM : Hid (∀ i ∈ l, ITame i ∧ i.one.args.length ≤ 4) := ht1
  have HL : Hid (LstF w1 v1 l) := lstF (lst_of hin1 ht1 hn1 (by omega))
  have HR1 : Hid (∀ W, Below w1.heap.size w1 W → RowsAt W ∧ LWordsAt W) := fun W h => HR.out W (hb1.trans (h.mono hb1.size))
  have HDT1 : Hid (∀ W, Below w1.heap.size w1 W → Calls Tryd.prog 4 #[.slice ta tl tc] W fun e w' => HalfOut e W w') := fun W h => HDT.out W (hb1.trans (h.mono hb1.size))
  have HFIN : Hid (∀ W, Below w1.heap.size w1 W → Below w.heap.size w W) := fun W h => hb1.trans (h.mono hb1.size)
  obtain ⟨c1, hc1⟩ : ∃ c, c = (Stil.sureCheck l).1 := ⟨_, rfl⟩
  obtain ⟨c2, hc2⟩ : ∃ c, c = (Stil.sureCheck l).2 := ⟨_, rfl⟩
  have HE1 : Hid ((Stil.sureCheck l).1 = c1) := hc1.symm
  have HE2 : Hid ((Stil.sureCheck l).2 = c2) := hc2.symm
  have hz1 := hb1.size
  obtain ⟨a1, k1, rfl, -⟩ := id hin1
  clear hc1 hc2 hin1 ht1 hb1 HR HDU HDT
  go_upto_region 5 with (go_at_call 5; refine (i_checkL (w := w1) HR1.out HL.out (by (repeat (first | with_reducible exact Below.refl _ _ | with_reducible assumption | with_reducible refine bl_set (by first | exact Nat.le_refl _ | (simp; done) | (simp; omega) | omega) ?_ _ | with_reducible refine bl_alloc ?_ _ | with_reducible refine bl_drewN ?_ _ | with_reducible refine bl_drew ?_ | with_reducible refine bl_grow ?_ _ _ | with_reducible refine bl_call ?_ (by assumption))))).mono ?_; rw [HE1.out, HE2.out]; rintro e w2 ⟨rfl, hb2⟩)
  obtain ⟨W3, hW3⟩ : ∃ W3, W3 = w2.alloc (Obj.cells #[Value.int IntKind.i64 c1, Value.int IntKind.i64 (c2 : Int)] 26) := ⟨_, rfl⟩
  have hb3 : Below w1.heap.size w1 W3 := by rw [hW3]; (repeat (first | with_reducible exact Below.refl _ _ | with_reducible assumption | with_reducible refine bl_set (by first | exact Nat.le_refl _ | (simp; done) | (simp; omega) | omega) ?_ _ | with_reducible refine bl_alloc ?_ _ | with_reducible refine bl_drewN ?_ _ | with_reducible refine bl_drew ?_ | with_reducible refine bl_grow ?_ _ _ | with_reducible refine bl_call ?_ (by assumption)))
  have HX : Hid (∀ W, Below W3.heap.size W3 W → W.cell? ⟨w2.heap.size, 0, none⟩ = some (.int .i64 c1) ∧ W.cell? ⟨w2.heap.size, 1, none⟩ = some (.int .i64 c2)) := by
    intro W h
    rw [hW3] at h
    refine ⟨(h.cell (p := ⟨w2.heap.size, 0, none⟩) (by simp)).trans (by simp [go_sem]), (h.cell (p := ⟨w2.heap.size, 1, none⟩) (by simp)).trans (by simp [go_sem])⟩
  rw [← hW3]
  obtain ⟨bf, hbf⟩ : ∃ bf, bf = w2.heap.size := ⟨_, rfl⟩
  rw [← hbf] at HX ⊢
  have hbf1 : w1.heap.size ≤ bf := by rw [hbf]; exact hb2.size
  have hbf3 : bf < W3.heap.size := by rw [hW3, hbf]; simp
  have HL3 : Hid (LstF W3 (.slice a1 l.length k1) l) := HL.out.later hb3
  have HR3 : Hid (∀ W, Below W3.heap.size W3 W → RowsAt W ∧ LWordsAt W) := fun W h => HR1.out W (hb3.trans (h.mono hb3.size))
  have HDT3 : Hid (∀ W, Below W3.heap.size W3 W → Calls Tryd.prog 4 #[.slice ta tl tc] W fun e w' => HalfOut e W w') := fun W h => HDT1.out W (hb3.trans (h.mono hb3.size))
  have HFIN3 : Hid (∀ W, Below W3.heap.size W3 W → Below w.heap.size w W) := fun W h => HFIN.out W (hb3.trans (h.mono hb3.size))
  have HIN3 : Hid (InstsIn (fun b => w.heap.size < b) W3 (.slice a1 l.length k1) l) := HIN.out.keep (KeepsIn.of_below hb3)
  have hz3 := hb3.size
  clear hW3 hbf hb2 hb3 HL HR1 HDT1 HFIN HIN
  obtain ⟨x0, x1⟩ := HX.out W3 (Below.refl _ _)
  go_cut [24] (fun s24 wc => s24 = .bool false ∧ Below W3.heap.size W3 wc)
  case first =>
    go_region_with (go_at_call 6; refine (s_checkL (w := W3) HL3.out (by (repeat (first | with_reducible exact Below.refl _ _ | with_reducible assumption | with_reducible refine bl_set (by first | exact Nat.le_refl _ | (simp; done) | (simp; omega) | omega) ?_ _ | with_reducible refine bl_alloc ?_ _ | with_reducible refine bl_drewN ?_ _ | with_reducible refine bl_drew ?_ | with_reducible refine bl_grow ?_ _ _ | with_reducible refine bl_call ?_ (by assumption))))).mono ?_; rw [HE1.out, HE2.out]; rintro e w4 ⟨rfl, hb4⟩; obtain ⟨x0, x1⟩ := HX.out w4 (by (repeat (first | with_reducible exact Below.refl _ _ | with_reducible assumption | with_reducible refine bl_set (by first | exact Nat.le_refl _ | (simp; done) | (simp; omega) | omega) ?_ _ | with_reducible refine bl_alloc ?_ _ | with_reducible refine bl_drewN ?_ _ | with_reducible refine bl_drew ?_ | with_reducible refine bl_grow ?_ _ _ | with_reducible refine bl_call ?_ (by assumption)))))
    all_goals
      go_wp2
      go_meet
      exact ⟨by first | rfl | simp, by (repeat (first | with_reducible exact Below.refl _ _ | with_reducible assumption | with_reducible refine bl_set (by first | exact Nat.le_refl _ | (simp; done) | (simp; omega) | omega) ?_ _ | with_reducible refine bl_alloc ?_ _ | with_reducible refine bl_drewN ?_ _ | with_reducible refine bl_drew ?_ | with_reducible refine bl_grow ?_ _ _ | with_reducible refine bl_call ?_ (by assumption)))⟩
  case rest =>
    obtain ⟨rfl, hbc⟩ := hcut
    clear x0 x1
    obtain ⟨x0, x1⟩ := HX.out wc hbc
    by_cases h0 : c1 = 0
    · subst h0
      go_wp2
      go_ret
      exact ⟨rfl, HFIN3.out _ (by (repeat (first | with_reducible exact Below.refl _ _ | with_reducible assumption | with_reducible refine bl_set (by first | exact Nat.le_refl _ | (simp; done) | (simp; omega) | omega) ?_ _ | with_reducible refine bl_alloc ?_ _ | with_reducible refine bl_drewN ?_ _ | with_reducible refine bl_drew ?_ | with_reducible refine bl_grow ?_ _ _ | with_reducible refine bl_call ?_ (by assumption))))⟩
    by_cases h1 : c1 = 1
    · subst h1
      go_wp2
      go_ret
      exact ⟨rfl, HFIN3.out _ (by (repeat (first | with_reducible exact Below.refl _ _ | with_reducible assumption | with_reducible refine bl_set (by first | exact Nat.le_refl _ | (simp; done) | (simp; omega) | omega) ?_ _ | with_reducible refine bl_alloc ?_ _ | with_reducible refine bl_drewN ?_ _ | with_reducible refine bl_drew ?_ | with_reducible refine bl_grow ?_ _ _ | with_reducible refine bl_call ?_ (by assumption))))⟩
    by_cases h9 : c1 = 9
    · subst h9
      go_wp2
      go_ret
      exact ⟨rfl, HFIN3.out _ (by (repeat (first | with_reducible exact Below.refl _ _ | with_reducible assumption | with_reducible refine bl_set (by first | exact Nat.le_refl _ | (simp; done) | (simp; omega) | omega) ?_ _ | with_reducible refine bl_alloc ?_ _ | with_reducible refine bl_drewN ?_ _ | with_reducible refine bl_drew ?_ | with_reducible refine bl_grow ?_ _ _ | with_reducible refine bl_call ?_ (by assumption))))⟩
    obtain ⟨hlt, hle, htk, hjn⟩ := Stil.first_wrong (a := l) (by rw [HE1.out]; exact h0) (by rw [HE1.out]; exact h1) (by rw [HE1.out]; exact h9)
    rw [HE2.out] at hlt htk hjn
    have HEP : Hid (Stil.sureCheck l = (c1, c2)) := Prod.ext HE1.out HE2.out
    rw [HEP.out] at hjn
    have hk1 : l.length ≤ k1 := by
      obtain ⟨a', k', hv, hq, -⟩ := HIN3.out
      injection hv with e1 e2 e3
      subst e3
      exact hq.1
    have HTK : Hid (LstF W3 (.slice a1 c2 k1) (l.take c2)) := lstF (lst_of (n := 1000) (insts_take HIN3.out (Nat.le_of_lt hlt)) (fun i hi => HTM.out i (List.mem_of_mem_take hi)) (by rw [List.length_take]; omega) (by omega))
    obtain ⟨ls, hls⟩ : ∃ ls, ls = l.take (c2 + 1) := ⟨_, rfl⟩
    have HTS : Hid (InstsIn (fun b => w.heap.size < b) W3 (.slice a1 (c2 + 1) k1) ls) := by rw [hls]; exact insts_take HIN3.out hlt
    have HTT : Hid (∀ i ∈ ls, ITame i ∧ i.one.args.length ≤ 4) := by rw [hls]; exact fun i hi => HTM.out i (List.mem_of_mem_take hi)
    have hlsl : ls.length ≤ 1000 := by rw [hls, List.length_take]; omega
    rw [← hls] at hjn
    have HJN : Hid (∀ c, (ls ++ c).length ≤ 1000 → Stil.sureCheck (ls ++ c) = (c1, c2)) := hjn
    obtain ⟨d1, hd1⟩ : ∃ d, d = (Stil.sureCheck (l.take c2)).1 := ⟨_, rfl⟩
    obtain ⟨d2, hd2⟩ : ∃ d, d = (Stil.sureCheck (l.take c2)).2 := ⟨_, rfl⟩
    have HD1 : Hid ((Stil.sureCheck (l.take c2)).1 = d1) := hd1.symm
    have HD2 : Hid ((Stil.sureCheck (l.take c2)).2 = d2) := hd2.symm
    have hdd : d1 = 0 ∧ d2 = 0 ∨ d1 = 9 ∧ d2 = c2 := by
      rcases htk with h | h
      · rw [h] at hd1 hd2; exact .inl ⟨hd1, hd2⟩
      · rw [h] at hd1 hd2; exact .inr ⟨hd1, hd2⟩
    have e0 : (c1 == 0) = false := beq_eq_false_iff_ne.2 h0
    have e1 : (c1 == 1) = false := beq_eq_false_iff_ne.2 h1
    have e9 : (c1 == 9) = false := beq_eq_false_iff_ne.2 h9
    clear hjn htk hls hd1 hd2 HE1 HE2 HEP HIN3 HTM
    go_upto_region 10 with (go_at_call 5; refine (i_checkL (w := W3) HR3.out HTK.out (by (repeat (first | with_reducible exact Below.refl _ _ | with_reducible assumption | with_reducible refine bl_set (by first | exact Nat.le_refl _ | (simp; done) | (simp; omega) | omega) ?_ _ | with_reducible refine bl_alloc ?_ _ | with_reducible refine bl_drewN ?_ _ | with_reducible refine bl_drew ?_ | with_reducible refine bl_grow ?_ _ _ | with_reducible refine bl_call ?_ (by assumption))))).mono ?_; rw [HD1.out, HD2.out]; rintro e w5 ⟨rfl, hb5⟩; clear x0 x1; obtain ⟨x0, x1⟩ := HX.out w5 (by (repeat (first | with_reducible exact Below.refl _ _ | with_reducible assumption | with_reducible refine bl_set (by first | exact Nat.le_refl _ | (simp; done) | (simp; omega) | omega) ?_ _ | with_reducible refine bl_alloc ?_ _ | with_reducible refine bl_drewN ?_ _ | with_reducible refine bl_drew ?_ | with_reducible refine bl_grow ?_ _ _ | with_reducible refine bl_call ?_ (by assumption)))))
    obtain ⟨W6, hW6⟩ : ∃ W6, W6 = w5.alloc (Obj.cells #[Value.int IntKind.i64 d1, Value.int IntKind.i64 (d2 : Int)] 26) := ⟨_, rfl⟩
    have hb6 : Below W3.heap.size W3 W6 := by rw [hW6]; (repeat (first | with_reducible exact Below.refl _ _ | with_reducible assumption | with_reducible refine bl_set (by first | exact Nat.le_refl _ | (simp; done) | (simp; omega) | omega) ?_ _ | with_reducible refine bl_alloc ?_ _ | with_reducible refine bl_drewN ?_ _ | with_reducible refine bl_drew ?_ | with_reducible refine bl_grow ?_ _ _ | with_reducible refine bl_call ?_ (by assumption)))
    have y0 : W6.cell? ⟨w5.heap.size, 0, none⟩ = some (.int .i64 d1) := by rw [hW6]; simp [go_sem]
    have y1 : W6.cell? ⟨w5.heap.size, 1, none⟩ = some (.int .i64 d2) := by rw [hW6]; simp [go_sem]
    rw [← hW6]
    clear hW6 x0 x1 hb5 hbc
    obtain ⟨x0, x1⟩ := HX.out W6 hb6
    go_cut [52] (fun s52 wc => s52 = .bool false ∧ Below W3.heap.size W3 wc)
    case first =>
      rcases hdd with ⟨rfl, rfl⟩ | ⟨rfl, rfl⟩
      · go_wp2
        go_meet
        exact ⟨by first | rfl | simp, by (repeat (first | with_reducible exact Below.refl _ _ | with_reducible assumption | with_reducible refine bl_set (by first | exact Nat.le_refl _ | (simp; done) | (simp; omega) | omega) ?_ _ | with_reducible refine bl_alloc ?_ _ | with_reducible refine bl_drewN ?_ _ | with_reducible refine bl_drew ?_ | with_reducible refine bl_grow ?_ _ _ | with_reducible refine bl_call ?_ (by assumption)))⟩
      · go_wp2
        go_meet
        exact ⟨by first | rfl | simp, by (repeat (first | with_reducible exact Below.refl _ _ | with_reducible assumption | with_reducible refine bl_set (by first | exact Nat.le_refl _ | (simp; done) | (simp; omega) | omega) ?_ _ | with_reducible refine bl_alloc ?_ _ | with_reducible refine bl_drewN ?_ _ | with_reducible refine bl_drew ?_ | with_reducible refine bl_grow ?_ _ _ | with_reducible refine bl_call ?_ (by assumption)))⟩
    case rest =>
      obtain ⟨rfl, hbc⟩ := hcut
      clear x0 x1 y0 y1 hb6 hdd HD1 HD2 HTK
      obtain ⟨x0, x1⟩ := HX.out wc hbc
      have hzc := hbc.size
      have HTC : Hid (InstsIn (fun b => w.heap.size < b) wc (.slice a1 (c2 + 1) k1) ls) := HTS.out.keep (KeepsIn.of_below hbc)
      have hbn : bf ≠ wc.heap.size := by omega
      have hbl : bf < wc.heap.size := by omega
      have hwk : IntKind.i64.wrap ((c2 : Int) + 1) = (c2 : Int) + 1 := by rw [IntKind.wrap_i64]; omega
      go_upto_region 13 with (first | (at_builtin; (refine wpList_copy_insts rfl _ _ rfl (fun b => w.heap.size < b) wc ls (.slice a1 (c2 + 1) k1) rfl rfl rfl HTC.out (by omega) ?_; intro bb cc w6 xs hown hrow hbb1 hbb2 hgr6; have HOW : Hid (w6.ownsRow wc.heap.size 38 3 (.slice (some ⟨bb, 0, none⟩) ls.length cc) ls.length xs) := hown; have HRO : Hid (RowOf 3 (InstC (fun b => w.heap.size < b ∧ b < wc.heap.size) w6) xs ls) := hrow; have HB6 : Hid (Below W3.heap.size W3 w6) := bg_own (hbc.trans ((below_alloc _ _).mono hbc.size)) hgr6 (fun j hj => by simp at hj; omega) (Nat.le_refl _); have hz6 : wc.heap.size < w6.heap.size := (by have := hgr6.size; simp at this; omega); clear hown hrow hgr6)) | (go_at_call 4; (refine (HDT3.out _ HB6.out).mono ?_; rintro e w7 ⟨l7, v7, rfl, hin7, ht7, hn7, hb7⟩; have HI7 : Hid (InstsIn (fun b => w6.heap.size < b) w7 v7 l7) := hin7; have HT7 : Hid (∀ i ∈ l7, ITame i ∧ i.one.args.length ≤ 4) := ht7; have HO7 : Hid (w7.ownsRow wc.heap.size 38 3 (.slice (some ⟨bb, 0, none⟩) ls.length cc) ls.length xs) := own_grown HOW.out (grown_below hb7 (some w.heap.size)) (by omega); have HR7 : Hid (RowOf 3 (InstC (fun b => w.heap.size < b ∧ b < wc.heap.size) w7) xs ls) := HRO.out.imp fun _ _ _ h => h.keep (KeepsIn.of_below hb7); have HB7 : Hid (Below W3.heap.size W3 w7) := HB6.out.trans (hb7.mono HB6.out.size); have hz7 := hb7.size; obtain ⟨a7, k7, rfl, -⟩ := id hin7; clear hin7 ht7 hb7 HOW HRO)) | (at_builtin; refine wpList_join_insts rfl _ _ rfl wc.heap.size w.heap.size bb ls.length cc (.slice a7 l7.length k7) ls l7 xs rfl rfl rfl HO7.out (HR7.out.imp fun _ _ _ h => h.mono fun b _ hb => ⟨hb.1, by simp [Value.ownBlock]; omega⟩) (HI7.out.mono fun b _ hb => ⟨by omega, by simp [Value.ownBlock]; omega⟩) (by omega) (by omega) (by omega) ?_; intro a8 k8 w8 hin8 hgr8; have HB8 : Hid (Below W3.heap.size W3 w8) := bg_own HB7.out hgr8 (fun j hj => by simp at hj; omega) (Nat.le_refl _); have HL8 : Hid (Lst w8 (.slice a8 (ls ++ l7).length k8) (ls ++ l7)) := lst_of (q := 4) (n := 1000000) hin8 (fun i hi => by rcases List.mem_append.1 hi with h | h; exact HTT.out i h; exact HT7.out i h) (by rw [List.length_append]; omega) (by omega); have HJ8 : Hid ((ls ++ l7).length ≤ 1000 → Stil.sureCheck (ls ++ l7) = (c1, c2)) := HJN.out l7; obtain ⟨m8, hm8⟩ : ∃ m, m = ls ++ l7 := ⟨_, rfl⟩; rw [← hm8] at HL8 HJ8 ⊢; clear hin8 hgr8 hm8))
      have HLF : Hid (LstF w8 (.slice a8 m8.length k8) m8) := lstF HL8.out
      have hmz := HL8.out.2.2
      obtain ⟨x0, x1⟩ := HX.out w8 HB8.out
      have HR8 : Hid (∀ W, Below w8.heap.size w8 W → RowsAt W ∧ LWordsAt W) := fun W h => HR3.out W (HB8.out.trans (h.mono HB8.out.size))
      have r0 := cell_regrown x0
      have r1 := cell_regrown x1
      clear x0 x1
      by_cases hbg : 1000 < m8.length
      · have hd : decide (1000 < (m8.length : Int)) = true := by simp; omega
        refine wp_region_quiet_below (by kernel_rfl) (by kernel_rfl) ?_
        repeat (go_big_quiet_step ((fail)))
        refine wpQuiet_nil ?_
        intro _ hw'
        obtain ⟨⟨dq, osq⟩, hw''⟩ := hw'
        subst hw''
        go_wp2
        go_ret
        exact ⟨rfl, HFIN3.out _ (HB8.out.trans (Below.mono (below_regrown _ _ _) HB8.out.size))⟩
      · have hd : decide (1000 < (m8.length : Int)) = false := by simp; omega
        have HJ9 : Hid (Stil.sureCheck m8 = (c1, c2)) := HJ8.out (by omega)
        have HSC : Hid (∀ W, Below w8.heap.size w8 W → Calls Tryd.prog 5 #[.slice a8 m8.length k8] W fun e w' => e = .returned (.agg #[.int .i64 c1, .int .i64 c2]) ∧ Below W.heap.size W w') := fun W h => by
          have := i_checkL (w := w8) HR8.out HLF.out h
          rw [HJ9.out] at this
          exact this
        refine wp_region_quiet_below (by kernel_rfl) (by kernel_rfl) ?_
        repeat (go_big_quiet_step ((exact Calls.regrown_of (HSC.out _ (by (repeat (first | exact Below.refl _ _ | assumption | refine bl_alloc ?_ _ | refine bl_drewN ?_ _ | refine bl_drew ?_ | refine bl_grow ?_ _ _ | refine bl_set (Nat.le_refl _) ?_ _ | refine bl_call ?_ (by assumption))))))))
        refine wpQuiet_nil ?_
        intro _ hw'
        obtain ⟨⟨dq, osq⟩, hw''⟩ := hw'
        subst hw''
        go_wp2
        go_ret
        exact ⟨by first | rfl | simp, HFIN3.out _ (HB8.out.trans (Below.mono (below_regrown _ _ _) HB8.out.size))⟩
end Go.Proofs.YtbfkfdbkjbgneaaDoor
