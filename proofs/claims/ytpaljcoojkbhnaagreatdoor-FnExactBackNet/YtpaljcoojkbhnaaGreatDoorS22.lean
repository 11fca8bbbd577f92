/- The specification's chapter 8: BackNet. -/
import Derived.Test.YtpaljcoojkbhnaaGreatDoorS21
import Derived.Test.YtpaljcoojkbhnaaGreatDoorGU
namespace Go.Proofs.YtpaljcoojkbhnaaGreatDoor
open Go.RowKit Go.Sort Go.BigFrame
/-- A net and a word are answered; the net owns its memory. -/
def BackRet (w : World) (base : Nat) (R : Stil.Net × Bool) (e : Ending) : Prop := ∃ (k op : Int) (ds : List Stil.Dev) (a1 : Option Addr) (c1 : Nat) (a2 : Option Addr) (c2 : Nat) (ms : List MNet), e = .returned (.tuple #[.agg #[.int .i64 k, .int .i64 op, .slice a1 ds.length c1, .slice a2 ms.length c2], .bool R.2]) ∧
  MOwn w base ⟨k, op, ds, .slice a1 ds.length c1, .slice a2 ms.length c2, ms⟩ ∧ (MNet.mk k op ds (.slice a1 ds.length c1) (.slice a2 ms.length c2) ms).net = R.1
theorem zero_own (w : World) (base : Nat) : MOwn w base ⟨0, 0, [], .slice none 0 0, .slice none 0 0, []⟩ := (MRow.nil w base).net 0 0 [] (World.ownsRow_nil _ _ _ _) (fun x _ => aside_nil x)
theorem zero_net : (MNet.mk 0 0 [] (.slice none 0 0) (.slice none 0 0) []).net = Stil.netZero := by rw [MNet.net_eq]; rfl
set_option maxHeartbeats 4000000 in
set_option maxRecDepth 100000 in
theorem s_backNet (l : List Stil.Inst) (v : Value) (w : World) (hat : InstsAt w v l) (hl : l.length ≤ 1048576) (hft : ∀ x ∈ l, x.fits) :
    Calls Tryz.prog 6 #[v] w fun e w' => BackRet w' w.heap.size (Stil.backNet l) e ∧ Below w.heap.size w w' := by
  obtain ⟨a, cap, rfl, hc⟩ := hat
  have HC : Hid (∀ i (h : i < l.length), ∃ b o, a = some ⟨b, o, none⟩ ∧ b < w.heap.size ∧ InstAt w b (o + i * 3) l[i]) := hc
  have HF : Hid (∀ x ∈ l, x.fits) := hft
  clear hc hft
  by_cases hbig : 1000 < l.length
  · have HR : Hid (Stil.backNet l = (Stil.netZero, false)) := by show _ = _; unfold Stil.backNet; rw [if_pos hbig]
    go_enter Tryz.func6, Tryz.ntmps6
    go_wp2
    refine bodyPost_ret (v := .tuple #[.agg #[.int .i64 0, .int .i64 0, .slice none 0 0, .slice none 0 0], .bool false]) (by simp [results, Tryz.results6, go_sem]) rfl ⟨?_, by (repeat (first | with_reducible exact Below.refl _ _ | with_reducible assumption | with_reducible refine bl_set (by first | exact Nat.le_refl _ | (simp; done) | (simp; omega) | omega) ?_ _ | with_reducible refine bl_alloc ?_ _ | with_reducible refine bl_drewN ?_ _ | with_reducible refine bl_drew ?_ | with_reducible refine bl_grow ?_ _ _ | with_reducible refine bl_call ?_ (by assumption)))⟩
    exact ⟨0, 0, [], none, 0, none, 0, [], by rw [HR.out]; rfl, zero_own _ _, by rw [HR.out]; exact zero_net⟩
  have HR : Hid (Stil.backNet l = Stil.lastNet (Stil.backFrom [] l)) := by show _ = _; unfold Stil.backNet; rw [if_neg hbig]
  have hl3 : l.length ≤ 1000 := by omega
  go_enter Tryz.func6, Tryz.ntmps6
  go_wp2
  go_loopw [4, 5] (fun sv iv wr => ∃ (j : Nat) (ms : List MNet) (ra : Option Addr) (rc : Nat), j ≤ l.length ∧ iv = .int .i64 (j : Int) ∧ sv = .slice ra ms.length rc ∧ MRow wr (w.heap.size + 1) (.slice ra ms.length rc) ms ∧ Stil.backFrom [] l = Stil.backFrom (ms.map MNet.net).reverse (l.drop j) ∧ Stil.stGood (2 * j) (ms.map MNet.net).reverse ∧ B4 wr w.heap.size (.int .i64 0) (.int .i64 0) (.slice none 0 0) (.slice none 0 0) ∧ Below w.heap.size w wr) (fun _ iv _ => l.length - (intOf iv).toNat)
  case atStart =>
    refine ⟨0, [], some ⟨w.heap.size + 1, 0, none⟩, 0, Nat.zero_le _, rfl, by simp, ?_, rfl, ⟨(fun n hn => by cases hn), by simp [Stil.sizes]⟩, box4.al _, by (repeat (first | with_reducible exact Below.refl _ _ | with_reducible assumption | with_reducible refine bl_set (by first | exact Nat.le_refl _ | (simp; done) | (simp; omega) | omega) ?_ _ | with_reducible refine bl_alloc ?_ _ | with_reducible refine bl_drewN ?_ _ | with_reducible refine bl_drew ?_ | with_reducible refine bl_grow ?_ _ _ | with_reducible refine bl_call ?_ (by assumption)))⟩
    refine ⟨?_, (fun m hm => by cases hm), List.pairwise_singleton _ _⟩
    have := World.ownsRow_lit (w.alloc (.cells #[.int .i64 0, .int .i64 0, .slice none 0 0, .slice none 0 0] 29)) (base := w.heap.size + 1) (e := 29) (size := 4) #[] 0 (by simp) (by unfold maxLen; omega) rfl
    simpa [mCells] using this
  case round =>
    obtain ⟨j, ms, ra, rc, hj, rfl, rfl, hmr, hbf, hgd, hbx, hB⟩ := hrel
    have HMR : Hid (MRow wr (w.heap.size + 1) (.slice ra ms.length rc) ms) := hmr
    have HBF : Hid (Stil.backFrom [] l = Stil.backFrom (ms.map MNet.net).reverse (l.drop j)) := hbf
    have HGD : Hid (Stil.stGood (2 * j) (ms.map MNet.net).reverse) := hgd
    have hml : ms.length ≤ 2000 := by
      have h1 := hgd.2
      have h2 := Stil.len_sizes (ms.map MNet.net).reverse
      rw [List.length_reverse, List.length_map] at h2
      omega
    have HBX : Hid (∀ W, Below (w.heap.size + 1) wr W → B4 W w.heap.size (.int .i64 0) (.int .i64 0) (.slice none 0 0) (.slice none 0 0)) := fun W h => hbx.below h (Nat.lt_succ_self _)
    have hzr : w.heap.size < wr.heap.size := hbx.1
    obtain ⟨_, ⟨t0, t1, t2, t3⟩, f0, f1, f2, f3⟩ := hbx
    clear hmr hbf hgd
    by_cases hlt : j < l.length
    · obtain ⟨b, o, rfl, hbl, hn0⟩ := HC.out j hlt
      obtain ⟨x0, x1, kav, x2, hav⟩ := hn0.below hB hbl
      have hfx := HF.out _ (List.getElem_mem hlt)
      have hdr := Stil.backFrom_drop l (ms.map MNet.net).reverse j hlt
      rw [List.length_reverse, List.length_map] at hdr
      have HKI : Hid (∀ W, Below wr.heap.size wr W → Calls Tryz.prog 20 #[.agg #[.int .i64 l[j].code, .int .i64 l[j].one.op, kav]] W fun e w' => e = .returned (.bool (Stil.listOk l[j])) ∧ Below W.heap.size W w') := fun W h => s_listOk l[j] kav W (hav.below h) hfx
      have HDO : Hid (Stil.listOk l[j] = true → l[j].code < 7 → Stil.needs l[j].code ≤ ms.length → ∀ W, Below wr.heap.size wr W → Calls Tryz.prog 22 #[.slice ra ms.length rc, .agg #[.int .i64 l[j].code, .int .i64 l[j].one.op, kav]] W fun e w' => DoRet W w' (w.heap.size + 1) (Stil.doNet l[j].code l[j].one (ms.map MNet.net).reverse) e) := fun h1 h2 h3 W h => s_do l[j] kav ms ra rc (w.heap.size + 1) W (HMR.out.below h) (hav.below h) hfx ⟨(Stil.ok_code h1).1, by omega⟩ h3 (by
        have h4 := HGD.out.2
        have h5 : Stil.sizes (ms.map MNet.net).reverse = Stil.sizes (ms.map MNet.net) := by unfold Stil.sizes; rw [List.map_reverse, List.sum_reverse]
        omega) (Nat.le_trans (by omega) h.size)
      have HGN : Hid (Stil.stGood (2 * (j + 1)) (Stil.doNet l[j].code l[j].one (ms.map MNet.net).reverse)) := by
        show Stil.stGood (2 * j + 2) _
        exact Stil.do_good hfx.2 HGD.out (by omega)
      have HDR : Hid (Stil.backFrom (ms.map MNet.net).reverse (l.drop j) = if Stil.listOk l[j] = false ∨ 7 ≤ l[j].code ∨ (ms.length : Int) < Stil.needs l[j].code then none else Stil.backFrom (Stil.doNet l[j].code l[j].one (ms.map MNet.net).reverse) (l.drop (j + 1))) := hdr
      obtain ⟨I, hI⟩ : ∃ I, I = l[j] := ⟨_, rfl⟩
      rw [← hI] at x0 x1 HKI HDO HGN HDR
      have HXC : Hid (∀ W, Below wr.heap.size wr W → W.cell? ⟨b, o + j * 3, none⟩ = some (.int .i64 I.code) ∧ W.cell? ⟨b, o + j * 3 + 1, none⟩ = some (.int .i64 I.one.op) ∧ W.cell? ⟨b, o + j * 3 + 2, none⟩ = some kav) := fun W h => by
        have hbr : b < wr.heap.size := Nat.lt_of_lt_of_le hbl hB.size
        exact ⟨(h.cell hbr).trans x0, (h.cell hbr).trans x1, (h.cell hbr).trans x2⟩
      have HBW : Hid (∀ W, Below wr.heap.size wr W → B4 W w.heap.size (.int .i64 0) (.int .i64 0) (.slice none 0 0) (.slice none 0 0)) := fun W h => HBX.out W (h.mono (by omega))
      obtain ⟨ta, ua, rfl, _⟩ := hav
      have hwj : IntKind.i64.wrap ((j : Int) + 1) = (j : Int) + 1 := by rw [IntKind.wrap_i64]; omega
      have HBAD : Hid (Stil.listOk I = false ∨ 7 ≤ I.code ∨ (ms.length : Int) < Stil.needs I.code → Stil.backNet l = (Stil.netZero, false)) := fun h => by rw [HR.out, HBF.out, HDR.out, if_pos h]; rfl
      obtain ⟨ok, hok⟩ : ∃ k, k = Stil.listOk I := ⟨_, rfl⟩
      rw [← hok] at HKI HDO HBAD HDR
      clear hI hok hdr hn0 hfx
      cases ok
      · go_wp2_with (go_at_call 20; refine (HKI.out _ (by (repeat (first | with_reducible exact Below.refl _ _ | with_reducible assumption | with_reducible refine bl_set (by first | exact Nat.le_refl _ | (simp; done) | (simp; omega) | omega) ?_ _ | with_reducible refine bl_alloc ?_ _ | with_reducible refine bl_drewN ?_ _ | with_reducible refine bl_drew ?_ | with_reducible refine bl_grow ?_ _ _ | with_reducible refine bl_call ?_ (by assumption))))).mono ?_; rintro e w5 ⟨rfl, hb5⟩; have hBW5 : Below wr.heap.size wr w5 := (by (repeat (first | with_reducible exact Below.refl _ _ | with_reducible assumption | with_reducible refine bl_set (by first | exact Nat.le_refl _ | (simp; done) | (simp; omega) | omega) ?_ _ | with_reducible refine bl_alloc ?_ _ | with_reducible refine bl_drewN ?_ _ | with_reducible refine bl_drew ?_ | with_reducible refine bl_grow ?_ _ _ | with_reducible refine bl_call ?_ (by assumption)))); clear t0 t1 t2 t3 f0 f1 f2 f3; obtain ⟨_, ⟨t0, t1, t2, t3⟩, f0, f1, f2, f3⟩ := HBW.out w5 hBW5)
        refine bodyPost_ret (v := .tuple #[.agg #[.int .i64 0, .int .i64 0, .slice none 0 0, .slice none 0 0], .bool false]) (by simp [results, Tryz.results6, go_sem, t0, t1, t2, t3]) rfl ⟨?_, by (repeat (first | with_reducible exact Below.refl _ _ | with_reducible assumption | with_reducible refine bl_set (by first | exact Nat.le_refl _ | (simp; done) | (simp; omega) | omega) ?_ _ | with_reducible refine bl_alloc ?_ _ | with_reducible refine bl_drewN ?_ _ | with_reducible refine bl_drew ?_ | with_reducible refine bl_grow ?_ _ _ | with_reducible refine bl_call ?_ (by assumption)))⟩
        exact ⟨0, 0, [], none, 0, none, 0, [], by rw [HBAD.out (by simp)]; rfl, zero_own _ _, by rw [HBAD.out (by simp)]; exact zero_net⟩
      · by_cases h7 : 7 ≤ I.code
        · go_wp2_with (go_at_call 20; refine (HKI.out _ (by (repeat (first | with_reducible exact Below.refl _ _ | with_reducible assumption | with_reducible refine bl_set (by first | exact Nat.le_refl _ | (simp; done) | (simp; omega) | omega) ?_ _ | with_reducible refine bl_alloc ?_ _ | with_reducible refine bl_drewN ?_ _ | with_reducible refine bl_drew ?_ | with_reducible refine bl_grow ?_ _ _ | with_reducible refine bl_call ?_ (by assumption))))).mono ?_; rintro e w5 ⟨rfl, hb5⟩; have hBW5 : Below wr.heap.size wr w5 := (by (repeat (first | with_reducible exact Below.refl _ _ | with_reducible assumption | with_reducible refine bl_set (by first | exact Nat.le_refl _ | (simp; done) | (simp; omega) | omega) ?_ _ | with_reducible refine bl_alloc ?_ _ | with_reducible refine bl_drewN ?_ _ | with_reducible refine bl_drew ?_ | with_reducible refine bl_grow ?_ _ _ | with_reducible refine bl_call ?_ (by assumption)))); clear t0 t1 t2 t3 f0 f1 f2 f3; obtain ⟨_, ⟨t0, t1, t2, t3⟩, f0, f1, f2, f3⟩ := HBW.out w5 hBW5)
          refine bodyPost_ret (v := .tuple #[.agg #[.int .i64 0, .int .i64 0, .slice none 0 0, .slice none 0 0], .bool false]) (by simp [results, Tryz.results6, go_sem, t0, t1, t2, t3]) rfl ⟨?_, by (repeat (first | with_reducible exact Below.refl _ _ | with_reducible assumption | with_reducible refine bl_set (by first | exact Nat.le_refl _ | (simp; done) | (simp; omega) | omega) ?_ _ | with_reducible refine bl_alloc ?_ _ | with_reducible refine bl_drewN ?_ _ | with_reducible refine bl_drew ?_ | with_reducible refine bl_grow ?_ _ _ | with_reducible refine bl_call ?_ (by assumption)))⟩
          exact ⟨0, 0, [], none, 0, none, 0, [], by rw [HBAD.out (.inr (.inl h7))]; rfl, zero_own _ _, by rw [HBAD.out (.inr (.inl h7))]; exact zero_net⟩
        · have h7' : ¬ (I.code ≥ 7) := h7
          have HND : Hid (∀ W, Below wr.heap.size wr W → Calls Tryz.prog 21 #[.int .i64 I.code] W fun e w' => e = .returned (.int .i64 (Stil.needs I.code)) ∧ Below W.heap.size W w') := fun W _ => s_needs I.code W
          obtain ⟨nd, hnd⟩ : ∃ n, n = Stil.needs I.code := ⟨_, rfl⟩
          rw [← hnd] at HND HDO HBAD HDR
          clear hnd
          by_cases hlen : (ms.length : Int) < nd
          · go_wp2_with (first | (go_at_call 20; refine (HKI.out _ (by (repeat (first | with_reducible exact Below.refl _ _ | with_reducible assumption | with_reducible refine bl_set (by first | exact Nat.le_refl _ | (simp; done) | (simp; omega) | omega) ?_ _ | with_reducible refine bl_alloc ?_ _ | with_reducible refine bl_drewN ?_ _ | with_reducible refine bl_drew ?_ | with_reducible refine bl_grow ?_ _ _ | with_reducible refine bl_call ?_ (by assumption))))).mono ?_; rintro e w5 ⟨rfl, hb5⟩; have hBW5 : Below wr.heap.size wr w5 := (by (repeat (first | with_reducible exact Below.refl _ _ | with_reducible assumption | with_reducible refine bl_set (by first | exact Nat.le_refl _ | (simp; done) | (simp; omega) | omega) ?_ _ | with_reducible refine bl_alloc ?_ _ | with_reducible refine bl_drewN ?_ _ | with_reducible refine bl_drew ?_ | with_reducible refine bl_grow ?_ _ _ | with_reducible refine bl_call ?_ (by assumption))))) | (go_at_call 21; refine (HND.out _ (by (repeat (first | with_reducible exact Below.refl _ _ | with_reducible assumption | with_reducible refine bl_set (by first | exact Nat.le_refl _ | (simp; done) | (simp; omega) | omega) ?_ _ | with_reducible refine bl_alloc ?_ _ | with_reducible refine bl_drewN ?_ _ | with_reducible refine bl_drew ?_ | with_reducible refine bl_grow ?_ _ _ | with_reducible refine bl_call ?_ (by assumption))))).mono ?_; rintro e w6 ⟨rfl, hb6⟩; have hBW6 : Below wr.heap.size wr w6 := (by (repeat (first | with_reducible exact Below.refl _ _ | with_reducible assumption | with_reducible refine bl_set (by first | exact Nat.le_refl _ | (simp; done) | (simp; omega) | omega) ?_ _ | with_reducible refine bl_alloc ?_ _ | with_reducible refine bl_drewN ?_ _ | with_reducible refine bl_drew ?_ | with_reducible refine bl_grow ?_ _ _ | with_reducible refine bl_call ?_ (by assumption)))); clear t0 t1 t2 t3 f0 f1 f2 f3; obtain ⟨_, ⟨t0, t1, t2, t3⟩, f0, f1, f2, f3⟩ := HBW.out w6 hBW6))
            refine bodyPost_ret (v := .tuple #[.agg #[.int .i64 0, .int .i64 0, .slice none 0 0, .slice none 0 0], .bool false]) (by simp [results, Tryz.results6, go_sem, t0, t1, t2, t3]) rfl ⟨?_, by (repeat (first | with_reducible exact Below.refl _ _ | with_reducible assumption | with_reducible refine bl_set (by first | exact Nat.le_refl _ | (simp; done) | (simp; omega) | omega) ?_ _ | with_reducible refine bl_alloc ?_ _ | with_reducible refine bl_drewN ?_ _ | with_reducible refine bl_drew ?_ | with_reducible refine bl_grow ?_ _ _ | with_reducible refine bl_call ?_ (by assumption)))⟩
            exact ⟨0, 0, [], none, 0, none, 0, [], by rw [HBAD.out (.inr (.inr hlen))]; rfl, zero_own _ _, by rw [HBAD.out (.inr (.inr hlen))]; exact zero_net⟩
          · have HD2 : Hid (∀ W, Below wr.heap.size wr W → Calls Tryz.prog 22 #[.slice ra ms.length rc, .agg #[.int .i64 I.code, .int .i64 I.one.op, .slice ta l[j].one.args.length ua]] W fun e w' => DoRet W w' (w.heap.size + 1) (Stil.doNet I.code I.one (ms.map MNet.net).reverse) e) := HDO.out rfl (by omega) (by omega)
            have HNX : Hid (Stil.backFrom [] l = Stil.backFrom (Stil.doNet I.code I.one (ms.map MNet.net).reverse) (l.drop (j + 1))) := by
              show _ = _
              rw [HBF.out, HDR.out, if_neg]
              rintro (h | h | h)
              · cases h
              · exact h7 h
              · exact hlen h
            clear HDO HBAD HDR HBF
            go_wp2_with (first | (go_at_call 20; refine (HKI.out _ (by (repeat (first | with_reducible exact Below.refl _ _ | with_reducible assumption | with_reducible refine bl_set (by first | exact Nat.le_refl _ | (simp; done) | (simp; omega) | omega) ?_ _ | with_reducible refine bl_alloc ?_ _ | with_reducible refine bl_drewN ?_ _ | with_reducible refine bl_drew ?_ | with_reducible refine bl_grow ?_ _ _ | with_reducible refine bl_call ?_ (by assumption))))).mono ?_; rintro e w5 ⟨rfl, hb5⟩; have hBW5 : Below wr.heap.size wr w5 := (by (repeat (first | with_reducible exact Below.refl _ _ | with_reducible assumption | with_reducible refine bl_set (by first | exact Nat.le_refl _ | (simp; done) | (simp; omega) | omega) ?_ _ | with_reducible refine bl_alloc ?_ _ | with_reducible refine bl_drewN ?_ _ | with_reducible refine bl_drew ?_ | with_reducible refine bl_grow ?_ _ _ | with_reducible refine bl_call ?_ (by assumption))))) | (go_at_call 21; refine (HND.out _ (by (repeat (first | with_reducible exact Below.refl _ _ | with_reducible assumption | with_reducible refine bl_set (by first | exact Nat.le_refl _ | (simp; done) | (simp; omega) | omega) ?_ _ | with_reducible refine bl_alloc ?_ _ | with_reducible refine bl_drewN ?_ _ | with_reducible refine bl_drew ?_ | with_reducible refine bl_grow ?_ _ _ | with_reducible refine bl_call ?_ (by assumption))))).mono ?_; rintro e w6 ⟨rfl, hb6⟩; have hBW6 : Below wr.heap.size wr w6 := (by (repeat (first | with_reducible exact Below.refl _ _ | with_reducible assumption | with_reducible refine bl_set (by first | exact Nat.le_refl _ | (simp; done) | (simp; omega) | omega) ?_ _ | with_reducible refine bl_alloc ?_ _ | with_reducible refine bl_drewN ?_ _ | with_reducible refine bl_drew ?_ | with_reducible refine bl_grow ?_ _ _ | with_reducible refine bl_call ?_ (by assumption)))); clear x0 x1 x2; obtain ⟨x0, x1, x2⟩ := HXC.out w6 hBW6) | (go_at_call 22; refine (HD2.out _ hBW6).mono ?_; rintro e w7 ⟨a7, c7, ms7, rfl, hm7, hn7, hb7⟩; have HM7 : Hid (MRow w7 (w.heap.size + 1) (.slice a7 ms7.length c7) ms7) := hm7; have HN7 : Hid ((ms7.map MNet.net).reverse = Stil.doNet I.code I.one (ms.map MNet.net).reverse) := hn7; have HB7 : Hid (Below (w.heap.size + 1) wr w7) := ((hBW6.mono (by omega)).trans hb7); clear hm7 hn7 hb7))
            refine ⟨⟨j + 1, ms7, a7, c7, hlt, by simp, rfl, HM7.out, by rw [HN7.out]; exact HNX.out, by rw [HN7.out]; exact HGN.out, HBX.out w7 HB7.out, hB.trans (HB7.out.mono (by omega))⟩, by simp [intOf]; omega⟩
    · obtain rfl : j = l.length := by omega
      have HEN : Hid (Stil.backNet l = Stil.lastNet (some (ms.map MNet.net).reverse)) := by show _ = _; rw [HR.out, HBF.out, Stil.backFrom_end l _ _ (Nat.le_refl _)]
      clear HBF HR HC
      by_cases h1 : ms.length = 1
      · obtain ⟨m, rfl⟩ := List.length_eq_one_iff.1 h1
        have hmo := HMR.out.one 0 (by simp)
        simp only [List.getElem_cons_zero] at hmo
        obtain ⟨g, c, hv, _, hlt2, _, hcell⟩ := ownsRow_cells HMR.out.1 (by simp)
        obtain ⟨a1, a2, a3, a4⟩ := mCells_get [m] 0 (by simp)
        have y0 := hcell _ _ a1
        have y1 := hcell _ _ a2
        have y2 := hcell _ _ a3
        have y3 := hcell _ _ a4
        simp only [List.getElem_cons_zero, Nat.zero_mul, Nat.zero_add] at y0 y1 y2 y3
        have hok := (MOk_iff _ _ _).1 hmo.1
        obtain ⟨d1, d2, hd⟩ := slice_of_owns hok.1
        obtain ⟨d3, d4, hd2⟩ := slice_of_owns hok.2.1
        simp only [Value.slice.injEq] at hv
        obtain ⟨rfl, _, rfl⟩ := hv
        have hfr := MOk.from m hmo.1
        have hsz : Stil.netSize m.net ≤ 2000 := by
          have h4 := HGD.out.2
          simp only [List.map_cons, List.map_nil, List.reverse_cons, List.reverse_nil, List.nil_append, Stil.sizes_cons, Stil.sizes_nil] at h4
          omega
        have HSZ : Hid (∀ W, Below wr.heap.size wr W → Calls Tryz.prog 23 #[.agg #[.int .i64 m.kind, .int .i64 m.op, m.av, m.kv]] W fun e w' => e = .returned (.int .i64 (Stil.netSize m.net)) ∧ Below W.heap.size W w') := fun W h => by
          have h5 := s_netSize m.net m.av m.kv W (hfr.1.at.below h) (hfr.2.at.below h) (by omega)
          rw [show m.net.kind = m.kind by rw [MNet.net_eq], show m.net.one.op = m.op by rw [MNet.net_eq]] at h5
          exact h5
        have HLN : Hid (Stil.backNet l = if 400 < Stil.netSize m.net then (Stil.netZero, false) else (m.net, true)) := HEN.out
        have HMO : Hid (MOwn wr (w.heap.size + 1) m) := hmo
        have HBW : Hid (∀ W, Below wr.heap.size wr W → B4 W w.heap.size (.int .i64 0) (.int .i64 0) (.slice none 0 0) (.slice none 0 0)) := fun W h => HBX.out W (h.mono (by omega))
        obtain ⟨S, hS⟩ : ∃ S, S = Stil.netSize m.net := ⟨_, rfl⟩
        rw [← hS] at HSZ HLN hsz
        obtain ⟨N, hN⟩ : ∃ N, N = m.net := ⟨_, rfl⟩
        have HNE : Hid (N = m.net) := hN
        rw [← hN] at HLN
        have HYC : Hid (∀ W, Below wr.heap.size wr W → W.cell? ⟨g, 0, none⟩ = some (.int .i64 m.kind) ∧ W.cell? ⟨g, 1, none⟩ = some (.int .i64 m.op) ∧ W.cell? ⟨g, 2, none⟩ = some m.av ∧ W.cell? ⟨g, 3, none⟩ = some m.kv) := fun W h => ⟨(h.cell hlt2).trans y0, (h.cell hlt2).trans y1, (h.cell hlt2).trans y2, (h.cell hlt2).trans y3⟩
        clear hS hN hmo hok hfr HMR HGD HEN hcell a1 a2 a3 a4 HBX
        obtain ⟨mk, mop, mds, mav, mkv, mks⟩ := m
        simp only at hd hd2 y0 y1 y2 y3 HSZ HYC
        subst hd
        subst hd2
        by_cases hbg : 400 < S
        · have hbi : (400 : Int) < (S : Int) := by omega
          rw [if_pos hbg] at HLN
          go_wp2_with (go_at_call 23; refine (HSZ.out _ (by (repeat (first | with_reducible exact Below.refl _ _ | with_reducible assumption | with_reducible refine bl_set (by first | exact Nat.le_refl _ | (simp; done) | (simp; omega) | omega) ?_ _ | with_reducible refine bl_alloc ?_ _ | with_reducible refine bl_drewN ?_ _ | with_reducible refine bl_drew ?_ | with_reducible refine bl_grow ?_ _ _ | with_reducible refine bl_call ?_ (by assumption))))).mono ?_; rintro e w5 ⟨rfl, hb5⟩; have hBW5 : Below wr.heap.size wr w5 := (by (repeat (first | with_reducible exact Below.refl _ _ | with_reducible assumption | with_reducible refine bl_set (by first | exact Nat.le_refl _ | (simp; done) | (simp; omega) | omega) ?_ _ | with_reducible refine bl_alloc ?_ _ | with_reducible refine bl_drewN ?_ _ | with_reducible refine bl_drew ?_ | with_reducible refine bl_grow ?_ _ _ | with_reducible refine bl_call ?_ (by assumption)))); clear t0 t1 t2 t3 f0 f1 f2 f3; obtain ⟨_, ⟨t0, t1, t2, t3⟩, f0, f1, f2, f3⟩ := HBW.out w5 hBW5)
          refine bodyPost_ret (v := .tuple #[.agg #[.int .i64 0, .int .i64 0, .slice none 0 0, .slice none 0 0], .bool false]) (by simp [results, Tryz.results6, go_sem, t0, t1, t2, t3]) rfl ⟨?_, by (repeat (first | with_reducible exact Below.refl _ _ | with_reducible assumption | with_reducible refine bl_set (by first | exact Nat.le_refl _ | (simp; done) | (simp; omega) | omega) ?_ _ | with_reducible refine bl_alloc ?_ _ | with_reducible refine bl_drewN ?_ _ | with_reducible refine bl_drew ?_ | with_reducible refine bl_grow ?_ _ _ | with_reducible refine bl_call ?_ (by assumption)))⟩
          exact ⟨0, 0, [], none, 0, none, 0, [], by rw [HLN.out]; rfl, zero_own _ _, by rw [HLN.out]; exact zero_net⟩
        · have hbi : ¬ ((400 : Int) < (S : Int)) := by omega
          rw [if_neg hbg] at HLN
          go_wp2_with (go_at_call 23; refine (HSZ.out _ (by (repeat (first | with_reducible exact Below.refl _ _ | with_reducible assumption | with_reducible refine bl_set (by first | exact Nat.le_refl _ | (simp; done) | (simp; omega) | omega) ?_ _ | with_reducible refine bl_alloc ?_ _ | with_reducible refine bl_drewN ?_ _ | with_reducible refine bl_drew ?_ | with_reducible refine bl_grow ?_ _ _ | with_reducible refine bl_call ?_ (by assumption))))).mono ?_; rintro e w5 ⟨rfl, hb5⟩; have hBW5 : Below wr.heap.size wr w5 := (by (repeat (first | with_reducible exact Below.refl _ _ | with_reducible assumption | with_reducible refine bl_set (by first | exact Nat.le_refl _ | (simp; done) | (simp; omega) | omega) ?_ _ | with_reducible refine bl_alloc ?_ _ | with_reducible refine bl_drewN ?_ _ | with_reducible refine bl_drew ?_ | with_reducible refine bl_grow ?_ _ _ | with_reducible refine bl_call ?_ (by assumption)))); clear t0 t1 t2 t3 f0 f1 f2 f3 y0 y1 y2 y3; obtain ⟨_, ⟨t0, t1, t2, t3⟩, f0, f1, f2, f3⟩ := HBW.out w5 hBW5; obtain ⟨y0, y1, y2, y3⟩ := HYC.out w5 hBW5)
          refine bodyPost_ret (v := .tuple #[.agg #[.int .i64 mk, .int .i64 mop, .slice d1 mds.length d2, .slice d3 mks.length d4], .bool true]) (by simp [results, Tryz.results6, go_sem, t0, t1, t2, t3]) rfl ⟨?_, by (repeat (first | with_reducible exact Below.refl _ _ | with_reducible assumption | with_reducible refine bl_set (by first | exact Nat.le_refl _ | (simp; done) | (simp; omega) | omega) ?_ _ | with_reducible refine bl_alloc ?_ _ | with_reducible refine bl_drewN ?_ _ | with_reducible refine bl_drew ?_ | with_reducible refine bl_grow ?_ _ _ | with_reducible refine bl_call ?_ (by assumption)))⟩
          refine ⟨mk, mop, mds, d1, d2, d3, d4, mks, by rw [HLN.out], ?_, by rw [HLN.out]; exact HNE.out.symm⟩
          have h9 := HMO.out.below hBW5
          exact MOwn.le ⟨h9.1.set4 (Nat.lt_succ_self _), h9.2⟩ (Nat.le_succ _)
      · have HLN : Hid (Stil.backNet l = (Stil.netZero, false)) := by
          show _ = _
          rw [HEN.out]
          have h2 : ((ms.map MNet.net).reverse).length ≠ 1 := by rw [List.length_reverse, List.length_map]; exact h1
          generalize (ms.map MNet.net).reverse = st at h2
          match st with
          | [] => rfl
          | [x] => exact absurd rfl h2
          | _ :: _ :: _ => rfl
        have e1 : ((ms.length : Int) == 1) = false := by rw [beq_eq_false_iff_ne]; omega
        have e2 : ¬ ((ms.length : Int) = 1) := by omega
        clear HEN HGD
        go_wp2
        refine bodyPost_ret (v := .tuple #[.agg #[.int .i64 0, .int .i64 0, .slice none 0 0, .slice none 0 0], .bool false]) (by simp [results, Tryz.results6, go_sem, t0, t1, t2, t3]) rfl ⟨?_, by (repeat (first | with_reducible exact Below.refl _ _ | with_reducible assumption | with_reducible refine bl_set (by first | exact Nat.le_refl _ | (simp; done) | (simp; omega) | omega) ?_ _ | with_reducible refine bl_alloc ?_ _ | with_reducible refine bl_drewN ?_ _ | with_reducible refine bl_drew ?_ | with_reducible refine bl_grow ?_ _ _ | with_reducible refine bl_call ?_ (by assumption)))⟩
        exact ⟨0, 0, [], none, 0, none, 0, [], by rw [HLN.out]; rfl, zero_own _ _, by rw [HLN.out]; exact zero_net⟩
end Go.Proofs.YtpaljcoojkbhnaaGreatDoor
