/- I28, I29: texts put together. -/
import Derived.Test.YtpaljcoojkbhnaaGreatDoorKd
import Derived.Test.YtpaljcoojkbhnaaGreatDoorI8b
import Derived.Test.YtpaljcoojkbhnaaGreatDoorGO
import Derived.Test.YtpaljcoojkbhnaaGreatDoorS22
import Derived.Test.YtpaljcoojkbhnaaGreatDoorGY
import Derived.Test.YtpaljcoojkbhnaaGreatDoorX12
/- The program's chapter 8: the one net that instructions leave. -/
namespace Go.Proofs.YtpaljcoojkbhnaaGreatDoor
open Go.RowKit Go.Sort Go.BigFrame
/-- What tells that there is no net. -/
def BackErr (er : Value) : Prop := (∃ c : Int, er = .iface 61 (.int .i64 c)) ∨ ∃ k c : Int, er = .iface 98 (.agg #[.int .i64 k, .iface 61 (.int .i64 c)])
/-- A net and an error are answered. -/
def AloneRet (w : World) (base : Nat) (R : Stil.Net × Bool) (e : Ending) : Prop := ∃ (k op : Int) (ds : List Stil.Dev) (a1 : Option Addr) (c1 : Nat) (a2 : Option Addr) (c2 : Nat) (ms : List MNet) (er : Value), e = .returned (.tuple #[.agg #[.int .i64 k, .int .i64 op, .slice a1 ds.length c1, .slice a2 ms.length c2], er]) ∧
  MOwn w base ⟨k, op, ds, .slice a1 ds.length c1, .slice a2 ms.length c2, ms⟩ ∧ (MNet.mk k op ds (.slice a1 ds.length c1) (.slice a2 ms.length c2) ms).net = R.1 ∧ (R.2 = true ∧ er = .nilIface ∨ R.2 = false ∧ BackErr er)
set_option maxHeartbeats 1000000 in
theorem i_isNetCode (c : Int) (w : World) :
    Calls Tryz.prog 52 #[.int .i64 c] w fun e w' => e = .returned (.bool (decide (1 ≤ c ∧ c ≤ 6))) ∧ w' = w := by
  obtain ⟨R, hR⟩ : ∃ R, R = decide (1 ≤ c ∧ c ≤ 6) := ⟨_, rfl⟩
  have HR : Hid (R = decide (1 ≤ c ∧ c ≤ 6)) := hR
  rw [← hR]
  clear hR
  by_cases h1 : 1 ≤ c
  · by_cases h2 : c ≤ 6
    · go_enter Tryz.func52, Tryz.ntmps52
      go_wp2
      go_ret
      exact ⟨by rw [HR.out, decide_eq_true (by omega)]; rfl, rfl⟩
    · go_enter Tryz.func52, Tryz.ntmps52
      go_wp2
      go_ret
      exact ⟨by rw [HR.out, decide_eq_false (by omega)]; rfl, rfl⟩
  · go_enter Tryz.func52, Tryz.ntmps52
    go_wp2
    go_ret
    exact ⟨by rw [HR.out, decide_eq_false (by omega)]; rfl, rfl⟩
set_option maxHeartbeats 8000000 in
set_option maxRecDepth 100000 in
theorem i_backAlone (l : List Stil.Inst) (v : Value) (w : World) (hrw : RowsAt w) (hlw : LWordsAt w) (hat : InstsAt w v l) (hl : l.length ≤ 1048576) (hft : ∀ x ∈ l, x.fits) :
    Calls Tryz.prog 25 #[v] w fun e w' => AloneRet w' w.heap.size (Stil.backNet l) e ∧ Below w.heap.size w w' := by
  obtain ⟨a, cap, rfl, hc⟩ := hat
  have HC : Hid (∀ i (h : i < l.length), ∃ b o, a = some ⟨b, o, none⟩ ∧ b < w.heap.size ∧ InstAt w b (o + i * 3) l[i]) := hc
  have HF : Hid (∀ x ∈ l, x.fits) := hft
  have HRW : Hid (RowsAt w) := hrw
  have HLW : Hid (LWordsAt w) := hlw
  clear hc hft hrw hlw
  by_cases hbig : 1000 < l.length
  · have HR : Hid (Stil.backNet l = (Stil.netZero, false)) := by show _ = _; unfold Stil.backNet; rw [if_pos hbig]
    go_enter Tryz.func25, Tryz.ntmps25
    go_wp2
    refine bodyPost_ret (v := .tuple #[.agg #[.int .i64 0, .int .i64 0, .slice none 0 0, .slice none 0 0], .iface 61 (.int .i64 2)]) (by simp [results, Tryz.results25, go_sem]) rfl ⟨?_, by (repeat (first | with_reducible exact Below.refl _ _ | with_reducible assumption | with_reducible refine bl_set (by first | exact Nat.le_refl _ | (simp; done) | (simp; omega) | omega) ?_ _ | with_reducible refine bl_alloc ?_ _ | with_reducible refine bl_drewN ?_ _ | with_reducible refine bl_drew ?_ | with_reducible refine bl_grow ?_ _ _ | with_reducible refine bl_call ?_ (by assumption)))⟩
    exact ⟨0, 0, [], none, 0, none, 0, [], _, rfl, zero_own _ _, by rw [HR.out]; exact zero_net, .inr ⟨by rw [HR.out], .inl ⟨_, rfl⟩⟩⟩
  have HR : Hid (Stil.backNet l = Stil.lastNet (Stil.backFrom [] l)) := by show _ = _; unfold Stil.backNet; rw [if_neg hbig]
  have hl3 : l.length ≤ 1000 := by omega
  go_enter Tryz.func25, Tryz.ntmps25
  go_wp2
  go_loopw [4, 14] (fun sv iv wr => ∃ (j : Nat) (bs : List Nat) (ms : List MNet) (po : Option Addr), j ≤ l.length ∧ iv = .int .i64 (j : Int) ∧ sv = .pointer po ∧ StackAt wr (w.heap.size + 1) bs ms (.pointer po) ∧ Stil.backFrom [] l = Stil.backFrom (ms.map MNet.net) (l.drop j) ∧ Stil.stGood (2 * j) (ms.map MNet.net) ∧ B4 wr w.heap.size (.int .i64 0) (.int .i64 0) (.slice none 0 0) (.slice none 0 0) ∧ Below w.heap.size w wr) (fun _ iv _ => l.length - (intOf iv).toNat)
  case atStart =>
    exact ⟨0, [], [], none, Nat.zero_le _, rfl, rfl, ⟨rfl, (fun m hm => by cases hm), List.Pairwise.nil, (fun b hb => by cases hb)⟩, rfl, ⟨(fun n hn => by cases hn), by simp [Stil.sizes]⟩, box4, by (repeat (first | with_reducible exact Below.refl _ _ | with_reducible assumption | with_reducible refine bl_set (by first | exact Nat.le_refl _ | (simp; done) | (simp; omega) | omega) ?_ _ | with_reducible refine bl_alloc ?_ _ | with_reducible refine bl_drewN ?_ _ | with_reducible refine bl_drew ?_ | with_reducible refine bl_grow ?_ _ _ | with_reducible refine bl_call ?_ (by assumption)))⟩
  case round =>
    obtain ⟨j, bs, ms, po, hj, rfl, rfl, hst, hbf, hgd, hbx, hB⟩ := hrel
    have HST : Hid (StackAt wr (w.heap.size + 1) bs ms (.pointer po)) := hst
    have HBF : Hid (Stil.backFrom [] l = Stil.backFrom (ms.map MNet.net) (l.drop j)) := hbf
    have HGD : Hid (Stil.stGood (2 * j) (ms.map MNet.net)) := hgd
    have HBX : Hid (∀ W, Below (w.heap.size + 1) wr W → B4 W w.heap.size (.int .i64 0) (.int .i64 0) (.slice none 0 0) (.slice none 0 0)) := fun W h => hbx.below h (Nat.lt_succ_self _)
    have hzr : w.heap.size < wr.heap.size := hbx.1
    obtain ⟨_, ⟨t0, t1, t2, t3⟩, f0, f1, f2, f3⟩ := hbx
    have HBW : Hid (∀ W, Below wr.heap.size wr W → B4 W w.heap.size (.int .i64 0) (.int .i64 0) (.slice none 0 0) (.slice none 0 0)) := fun W h => HBX.out W (h.mono (by omega))
    clear hst hbf hgd
    by_cases hlt : j < l.length
    · obtain ⟨b, o, rfl, hbl, hn0⟩ := HC.out j hlt
      obtain ⟨x0, x1, kav, x2, hav⟩ := hn0.below hB hbl
      have hfx := HF.out _ (List.getElem_mem hlt)
      have hdr := Stil.backFrom_drop l (ms.map MNet.net) j hlt
      rw [List.length_map] at hdr
      have HKI : Hid (∀ W, Below wr.heap.size wr W → Calls Tryz.prog 51 #[.agg #[.int .i64 l[j].code, .int .i64 l[j].one.op, kav]] W fun e w' => e = .returned (.bool (Stil.listOk l[j])) ∧ Below W.heap.size W w') := fun W h => i_listOk l[j] kav W (HRW.out.below (hB.trans (h.mono hB.size))) (HLW.out.below (hB.trans (h.mono hB.size))) (hav.below h) hfx
      have HDO : Hid (Stil.listOk l[j] = true → l[j].code < 7 → Stil.needs l[j].code ≤ (ms.length : Int) → ∀ W, Below wr.heap.size wr W → Calls Tryz.prog 55 #[.pointer po, .agg #[.int .i64 l[j].code, .int .i64 l[j].one.op, kav]] W fun e w' => BehRet W w' (w.heap.size + 1) (Stil.doNet l[j].code l[j].one (ms.map MNet.net)) e) := fun h1 h2 h3 W h => i_behind l[j] kav bs ms (.pointer po) (w.heap.size + 1) (2 * j) W (HST.out.below h) (hav.below h) hfx (Stil.ok_code h1).1 h2 h3 HGD.out (by omega) (Nat.le_trans (by omega) h.size)
      have HGN : Hid (Stil.stGood (2 * (j + 1)) (Stil.doNet l[j].code l[j].one (ms.map MNet.net))) := by
        show Stil.stGood (2 * j + 2) _
        exact Stil.do_good hfx.2 HGD.out (by omega)
      have HDR : Hid (Stil.backFrom (ms.map MNet.net) (l.drop j) = if Stil.listOk l[j] = false ∨ 7 ≤ l[j].code ∨ (ms.length : Int) < Stil.needs l[j].code then none else Stil.backFrom (Stil.doNet l[j].code l[j].one (ms.map MNet.net)) (l.drop (j + 1))) := hdr
      have HC1 : Hid (Stil.listOk l[j] = true → 1 ≤ l[j].code) := fun h => (Stil.ok_code h).1
      obtain ⟨I, hI⟩ : ∃ I, I = l[j] := ⟨_, rfl⟩
      rw [← hI] at x0 x1 HKI HDO HGN HDR HC1
      have HNC : Hid (∀ W, Calls Tryz.prog 52 #[.int .i64 I.code] W fun e w' => e = .returned (.bool (decide (1 ≤ I.code ∧ I.code ≤ 6))) ∧ w' = W) := fun W => i_isNetCode I.code W
      have HND : Hid (∀ W, Calls Tryz.prog 54 #[.int .i64 I.code] W fun e w' => e = .returned (.int .i64 (Stil.needs I.code)) ∧ w' = W) := fun W => i_sureNeeds I.code W
      obtain ⟨nd, hnd, hnd2⟩ : ∃ n : Nat, Stil.needs I.code = (n : Int) ∧ n ≤ 2 := by
        unfold Stil.needs
        split
        · exact ⟨0, rfl, by omega⟩
        · split
          · exact ⟨2, rfl, by omega⟩
          · exact ⟨1, rfl, by omega⟩
      rw [hnd] at HND HDO HDR
      have HHH : Hid (∀ W, Below wr.heap.size wr W → Calls Tryz.prog 53 #[.pointer po, .int .i64 (nd : Int)] W fun e w' => e = .returned (.bool (decide (nd ≤ ms.length))) ∧ w' = W) := fun W h => i_has nd bs ms (.pointer po) W (HST.out.below h).link (by omega)
      obtain ⟨ta, ua, rfl, _⟩ := hav
      have hwj : IntKind.i64.wrap ((j : Int) + 1) = (j : Int) + 1 := by rw [IntKind.wrap_i64]; omega
      have HBAD : Hid (Stil.listOk I = false ∨ 7 ≤ I.code ∨ (ms.length : Int) < (nd : Int) → Stil.backNet l = (Stil.netZero, false)) := fun h => by rw [HR.out, HBF.out, HDR.out, if_pos h]; rfl
      obtain ⟨ok, hok⟩ : ∃ k, k = Stil.listOk I := ⟨_, rfl⟩
      rw [← hok] at HKI HDO HBAD HDR HC1
      clear hI hok hdr hn0 hfx hnd
      cases ok
      · go_wp2_with (go_at_call 51; refine (HKI.out _ (by (repeat (first | with_reducible exact Below.refl _ _ | with_reducible assumption | with_reducible refine bl_set (by first | exact Nat.le_refl _ | (simp; done) | (simp; omega) | omega) ?_ _ | with_reducible refine bl_alloc ?_ _ | with_reducible refine bl_drewN ?_ _ | with_reducible refine bl_drew ?_ | with_reducible refine bl_grow ?_ _ _ | with_reducible refine bl_call ?_ (by assumption))))).mono ?_; rintro e w5 ⟨rfl, hb5⟩; have hBW5 : Below wr.heap.size wr w5 := (by (repeat (first | with_reducible exact Below.refl _ _ | with_reducible assumption | with_reducible refine bl_set (by first | exact Nat.le_refl _ | (simp; done) | (simp; omega) | omega) ?_ _ | with_reducible refine bl_alloc ?_ _ | with_reducible refine bl_drewN ?_ _ | with_reducible refine bl_drew ?_ | with_reducible refine bl_grow ?_ _ _ | with_reducible refine bl_call ?_ (by assumption)))); have k0 : w5.cell? ⟨wr.heap.size, 0, none⟩ = some (.int .i64 I.code) := (by rw [hb5.cell (p := ⟨wr.heap.size, 0, none⟩) (by simp)]; simp [go_sem]); have k1 : w5.cell? ⟨wr.heap.size, 1, none⟩ = some (.int .i64 I.one.op) := (by rw [hb5.cell (p := ⟨wr.heap.size, 1, none⟩) (by simp)]; simp [go_sem]); have k2 : w5.cell? ⟨wr.heap.size, 2, none⟩ = some (.slice ta l[j].one.args.length ua) := (by rw [hb5.cell (p := ⟨wr.heap.size, 2, none⟩) (by simp)]; simp [go_sem]); clear t0 t1 t2 t3 f0 f1 f2 f3; obtain ⟨_, ⟨t0, t1, t2, t3⟩, f0, f1, f2, f3⟩ := HBW.out w5 hBW5)
        refine bodyPost_ret (v := .tuple #[.agg #[.int .i64 0, .int .i64 0, .slice none 0 0, .slice none 0 0], .iface 98 (.agg #[.int .i64 (j : Int), .iface 61 (.int .i64 1)])]) (by simp [results, Tryz.results25, go_sem, t0, t1, t2, t3]) rfl ⟨?_, by (repeat (first | with_reducible exact Below.refl _ _ | with_reducible assumption | with_reducible refine bl_set (by first | exact Nat.le_refl _ | (simp; done) | (simp; omega) | omega) ?_ _ | with_reducible refine bl_alloc ?_ _ | with_reducible refine bl_drewN ?_ _ | with_reducible refine bl_drew ?_ | with_reducible refine bl_grow ?_ _ _ | with_reducible refine bl_call ?_ (by assumption)))⟩
        exact ⟨0, 0, [], none, 0, none, 0, [], _, rfl, zero_own _ _, by rw [HBAD.out (by simp)]; exact zero_net, .inr ⟨by rw [HBAD.out (by simp)], by first | exact .inl ⟨_, rfl⟩ | exact .inr ⟨_, _, rfl⟩⟩⟩
      · have hc1 := HC1.out rfl
        by_cases h7 : 7 ≤ I.code
        · rw [decide_eq_false (by omega)] at HNC
          go_wp2_with (first | (go_at_call 51; refine (HKI.out _ (by (repeat (first | with_reducible exact Below.refl _ _ | with_reducible assumption | with_reducible refine bl_set (by first | exact Nat.le_refl _ | (simp; done) | (simp; omega) | omega) ?_ _ | with_reducible refine bl_alloc ?_ _ | with_reducible refine bl_drewN ?_ _ | with_reducible refine bl_drew ?_ | with_reducible refine bl_grow ?_ _ _ | with_reducible refine bl_call ?_ (by assumption))))).mono ?_; rintro e w5 ⟨rfl, hb5⟩; have hBW5 : Below wr.heap.size wr w5 := (by (repeat (first | with_reducible exact Below.refl _ _ | with_reducible assumption | with_reducible refine bl_set (by first | exact Nat.le_refl _ | (simp; done) | (simp; omega) | omega) ?_ _ | with_reducible refine bl_alloc ?_ _ | with_reducible refine bl_drewN ?_ _ | with_reducible refine bl_drew ?_ | with_reducible refine bl_grow ?_ _ _ | with_reducible refine bl_call ?_ (by assumption)))); have k0 : w5.cell? ⟨wr.heap.size, 0, none⟩ = some (.int .i64 I.code) := (by rw [hb5.cell (p := ⟨wr.heap.size, 0, none⟩) (by simp)]; simp [go_sem]); have k1 : w5.cell? ⟨wr.heap.size, 1, none⟩ = some (.int .i64 I.one.op) := (by rw [hb5.cell (p := ⟨wr.heap.size, 1, none⟩) (by simp)]; simp [go_sem]); have k2 : w5.cell? ⟨wr.heap.size, 2, none⟩ = some (.slice ta l[j].one.args.length ua) := (by rw [hb5.cell (p := ⟨wr.heap.size, 2, none⟩) (by simp)]; simp [go_sem]); clear t0 t1 t2 t3 f0 f1 f2 f3; obtain ⟨_, ⟨t0, t1, t2, t3⟩, f0, f1, f2, f3⟩ := HBW.out w5 hBW5) | (go_at_call 52; refine (HNC.out _).mono ?_; rintro e w6 ⟨rfl, rfl⟩))
          refine bodyPost_ret (v := .tuple #[.agg #[.int .i64 0, .int .i64 0, .slice none 0 0, .slice none 0 0], .iface 98 (.agg #[.int .i64 (j : Int), .iface 61 (.int .i64 1)])]) (by simp [results, Tryz.results25, go_sem, t0, t1, t2, t3]) rfl ⟨?_, by (repeat (first | with_reducible exact Below.refl _ _ | with_reducible assumption | with_reducible refine bl_set (by first | exact Nat.le_refl _ | (simp; done) | (simp; omega) | omega) ?_ _ | with_reducible refine bl_alloc ?_ _ | with_reducible refine bl_drewN ?_ _ | with_reducible refine bl_drew ?_ | with_reducible refine bl_grow ?_ _ _ | with_reducible refine bl_call ?_ (by assumption)))⟩
          exact ⟨0, 0, [], none, 0, none, 0, [], _, rfl, zero_own _ _, by rw [HBAD.out (.inr (.inl h7))]; exact zero_net, .inr ⟨by rw [HBAD.out (.inr (.inl h7))], by first | exact .inl ⟨_, rfl⟩ | exact .inr ⟨_, _, rfl⟩⟩⟩
        · rw [decide_eq_true (by omega)] at HNC
          by_cases hlen : (ms.length : Int) < (nd : Int)
          · have HHS : Hid (∀ W, Below wr.heap.size wr W → Calls Tryz.prog 53 #[.pointer po, .int .i64 (nd : Int)] W fun e w' => e = .returned (.bool false) ∧ w' = W) := by
              rw [decide_eq_false (by omega)] at HHH
              exact HHH
            go_wp2_with (first | (go_at_call 51; refine (HKI.out _ (by (repeat (first | with_reducible exact Below.refl _ _ | with_reducible assumption | with_reducible refine bl_set (by first | exact Nat.le_refl _ | (simp; done) | (simp; omega) | omega) ?_ _ | with_reducible refine bl_alloc ?_ _ | with_reducible refine bl_drewN ?_ _ | with_reducible refine bl_drew ?_ | with_reducible refine bl_grow ?_ _ _ | with_reducible refine bl_call ?_ (by assumption))))).mono ?_; rintro e w5 ⟨rfl, hb5⟩; have hBW5 : Below wr.heap.size wr w5 := (by (repeat (first | with_reducible exact Below.refl _ _ | with_reducible assumption | with_reducible refine bl_set (by first | exact Nat.le_refl _ | (simp; done) | (simp; omega) | omega) ?_ _ | with_reducible refine bl_alloc ?_ _ | with_reducible refine bl_drewN ?_ _ | with_reducible refine bl_drew ?_ | with_reducible refine bl_grow ?_ _ _ | with_reducible refine bl_call ?_ (by assumption)))); have k0 : w5.cell? ⟨wr.heap.size, 0, none⟩ = some (.int .i64 I.code) := (by rw [hb5.cell (p := ⟨wr.heap.size, 0, none⟩) (by simp)]; simp [go_sem]); have k1 : w5.cell? ⟨wr.heap.size, 1, none⟩ = some (.int .i64 I.one.op) := (by rw [hb5.cell (p := ⟨wr.heap.size, 1, none⟩) (by simp)]; simp [go_sem]); have k2 : w5.cell? ⟨wr.heap.size, 2, none⟩ = some (.slice ta l[j].one.args.length ua) := (by rw [hb5.cell (p := ⟨wr.heap.size, 2, none⟩) (by simp)]; simp [go_sem]); clear t0 t1 t2 t3 f0 f1 f2 f3; obtain ⟨_, ⟨t0, t1, t2, t3⟩, f0, f1, f2, f3⟩ := HBW.out w5 hBW5) | (go_at_call 52; refine (HNC.out _).mono ?_; rintro e w6 ⟨rfl, rfl⟩) | (go_at_call 54; refine (HND.out _).mono ?_; rintro e w6 ⟨rfl, rfl⟩) | (go_at_call 53; refine (HHS.out _ hBW5).mono ?_; rintro e w6 ⟨rfl, rfl⟩))
            refine bodyPost_ret (v := .tuple #[.agg #[.int .i64 0, .int .i64 0, .slice none 0 0, .slice none 0 0], .iface 98 (.agg #[.int .i64 (j : Int), .iface 61 (.int .i64 1)])]) (by simp [results, Tryz.results25, go_sem, t0, t1, t2, t3]) rfl ⟨?_, by (repeat (first | with_reducible exact Below.refl _ _ | with_reducible assumption | with_reducible refine bl_set (by first | exact Nat.le_refl _ | (simp; done) | (simp; omega) | omega) ?_ _ | with_reducible refine bl_alloc ?_ _ | with_reducible refine bl_drewN ?_ _ | with_reducible refine bl_drew ?_ | with_reducible refine bl_grow ?_ _ _ | with_reducible refine bl_call ?_ (by assumption)))⟩
            exact ⟨0, 0, [], none, 0, none, 0, [], _, rfl, zero_own _ _, by rw [HBAD.out (.inr (.inr hlen))]; exact zero_net, .inr ⟨by rw [HBAD.out (.inr (.inr hlen))], by first | exact .inl ⟨_, rfl⟩ | exact .inr ⟨_, _, rfl⟩⟩⟩
          · have HHS : Hid (∀ W, Below wr.heap.size wr W → Calls Tryz.prog 53 #[.pointer po, .int .i64 (nd : Int)] W fun e w' => e = .returned (.bool true) ∧ w' = W) := by
              rw [decide_eq_true (by omega)] at HHH
              exact HHH
            have HD2 : Hid (∀ W, Below wr.heap.size wr W → Calls Tryz.prog 55 #[.pointer po, .agg #[.int .i64 I.code, .int .i64 I.one.op, .slice ta l[j].one.args.length ua]] W fun e w' => BehRet W w' (w.heap.size + 1) (Stil.doNet I.code I.one (ms.map MNet.net)) e) := HDO.out rfl (by omega) (by omega)
            have HNX : Hid (Stil.backFrom [] l = Stil.backFrom (Stil.doNet I.code I.one (ms.map MNet.net)) (l.drop (j + 1))) := by
              show _ = _
              rw [HBF.out, HDR.out, if_neg]
              rintro (h | h | h)
              · cases h
              · exact h7 h
              · exact hlen h
            clear HDO HBAD HDR HBF HHH
            go_wp2_with (first | (go_at_call 51; refine (HKI.out _ (by (repeat (first | with_reducible exact Below.refl _ _ | with_reducible assumption | with_reducible refine bl_set (by first | exact Nat.le_refl _ | (simp; done) | (simp; omega) | omega) ?_ _ | with_reducible refine bl_alloc ?_ _ | with_reducible refine bl_drewN ?_ _ | with_reducible refine bl_drew ?_ | with_reducible refine bl_grow ?_ _ _ | with_reducible refine bl_call ?_ (by assumption))))).mono ?_; rintro e w5 ⟨rfl, hb5⟩; have hBW5 : Below wr.heap.size wr w5 := (by (repeat (first | with_reducible exact Below.refl _ _ | with_reducible assumption | with_reducible refine bl_set (by first | exact Nat.le_refl _ | (simp; done) | (simp; omega) | omega) ?_ _ | with_reducible refine bl_alloc ?_ _ | with_reducible refine bl_drewN ?_ _ | with_reducible refine bl_drew ?_ | with_reducible refine bl_grow ?_ _ _ | with_reducible refine bl_call ?_ (by assumption)))); have k0 : w5.cell? ⟨wr.heap.size, 0, none⟩ = some (.int .i64 I.code) := (by rw [hb5.cell (p := ⟨wr.heap.size, 0, none⟩) (by simp)]; simp [go_sem]); have k1 : w5.cell? ⟨wr.heap.size, 1, none⟩ = some (.int .i64 I.one.op) := (by rw [hb5.cell (p := ⟨wr.heap.size, 1, none⟩) (by simp)]; simp [go_sem]); have k2 : w5.cell? ⟨wr.heap.size, 2, none⟩ = some (.slice ta l[j].one.args.length ua) := (by rw [hb5.cell (p := ⟨wr.heap.size, 2, none⟩) (by simp)]; simp [go_sem]); clear t0 t1 t2 t3 f0 f1 f2 f3; obtain ⟨_, ⟨t0, t1, t2, t3⟩, f0, f1, f2, f3⟩ := HBW.out w5 hBW5) | (go_at_call 52; refine (HNC.out _).mono ?_; rintro e w6 ⟨rfl, rfl⟩) | (go_at_call 54; refine (HND.out _).mono ?_; rintro e w6 ⟨rfl, rfl⟩) | (go_at_call 53; refine (HHS.out _ hBW5).mono ?_; rintro e w6 ⟨rfl, rfl⟩) | (go_at_call 55; refine (HD2.out _ hBW5).mono ?_; rintro e w7 ⟨b7, bs7, ms7, rfl, hm7, hn7, hb7⟩; have HM7 : Hid (StackAt w7 (w.heap.size + 1) (b7 :: bs7) ms7 (.pointer (some ⟨b7, 0, none⟩))) := hm7; have HN7 : Hid (ms7.map MNet.net = Stil.doNet I.code I.one (ms.map MNet.net)) := hn7; have HB7 : Hid (Below (w.heap.size + 1) wr w7) := ((hBW5.mono (by omega)).trans hb7); clear hm7 hn7 hb7))
            refine ⟨⟨j + 1, b7 :: bs7, ms7, _, hlt, by simp, rfl, HM7.out, by rw [HN7.out]; exact HNX.out, by rw [HN7.out]; exact HGN.out, HBX.out w7 HB7.out, hB.trans (HB7.out.mono (by omega))⟩, by simp [intOf]; omega⟩
    · obtain rfl : j = l.length := by omega
      have HEN : Hid (Stil.backNet l = Stil.lastNet (some (ms.map MNet.net))) := by show _ = _; rw [HR.out, HBF.out, Stil.backFrom_end l _ _ (Nat.le_refl _)]
      clear HBF HR HC HRW HLW HF
      have HH1 : Hid (∀ W, Below wr.heap.size wr W → Calls Tryz.prog 53 #[.pointer po, .int .i64 1] W fun e w' => e = .returned (.bool (decide (1 ≤ ms.length))) ∧ w' = W) := fun W h => i_has 1 bs ms (.pointer po) W (HST.out.below h).link (by omega)
      have HH2 : Hid (∀ W, Below wr.heap.size wr W → Calls Tryz.prog 53 #[.pointer po, .int .i64 2] W fun e w' => e = .returned (.bool (decide (2 ≤ ms.length))) ∧ w' = W) := fun W h => i_has 2 bs ms (.pointer po) W (HST.out.below h).link (by omega)
      have hrr := Below.refl wr.heap.size wr
      by_cases h1 : ms.length = 1
      · obtain ⟨m, rfl⟩ := List.length_eq_one_iff.1 h1
        rw [decide_eq_true (by simp)] at HH1
        rw [decide_eq_false (by simp)] at HH2
        obtain ⟨g, bs', rfl, hvp, hlt2, ⟨y0, y1, y2, y3⟩, _⟩ := HST.out.link.cons
        obtain rfl : po = some ⟨g, 0, none⟩ := by injection hvp
        have hmo : MOwn wr (w.heap.size + 1) m := ⟨HST.out.oks m (by simp), by have := HST.out.apart; rw [mVals_one] at this; exact this⟩
        have hok := (MOk_iff _ _ _).1 hmo.1
        obtain ⟨d1, d2, hd⟩ := slice_of_owns hok.1
        obtain ⟨d3, d4, hd2⟩ := slice_of_owns hok.2.1
        have hfr := MOk.from m hmo.1
        have hgm := HGD.out.1 m.net (by simp)
        have hsz : Stil.netSize m.net ≤ 2000 := by
          have h4 := HGD.out.2
          simp only [List.map_cons, List.map_nil, Stil.sizes_cons, Stil.sizes_nil] at h4
          omega
        have HCN : Hid (∀ W, Below wr.heap.size wr W → Calls Tryz.prog 56 #[.agg #[.int .i64 m.kind, .int .i64 m.op, m.av, m.kv], .int .i64 400] W fun e w' => ∃ r : Nat, e = .returned (.int .i64 r) ∧ (400 < r ↔ 400 < Stil.netSize m.net) ∧ r ≤ 2000 ∧ Below W.heap.size W w') := fun W h => by
          have h5 := i_countNets m.net m.av m.kv 400 W (hfr.1.at.below h) (hfr.2.at.below h) hgm.1 (by omega) (by omega) (by omega)
          rw [show m.net.kind = m.kind by rw [MNet.net_eq], show m.net.one.op = m.op by rw [MNet.net_eq]] at h5
          refine h5.mono ?_
          rintro e w' ⟨r, he, h6, h7, h8, h9⟩
          refine ⟨r, he, ⟨fun h => by omega, fun h => ?_⟩, by omega, h9⟩
          have := h7 (by omega)
          omega
        have HLN : Hid (Stil.backNet l = if 400 < Stil.netSize m.net then (Stil.netZero, false) else (m.net, true)) := HEN.out
        have HMO : Hid (MOwn wr (w.heap.size + 1) m) := hmo
        obtain ⟨S, hS⟩ : ∃ S, S = Stil.netSize m.net := ⟨_, rfl⟩
        rw [← hS] at HCN HLN hsz
        obtain ⟨N, hN⟩ : ∃ N, N = m.net := ⟨_, rfl⟩
        have HNE : Hid (N = m.net) := hN
        rw [← hN] at HLN
        have HYC : Hid (∀ W, Below wr.heap.size wr W → W.cell? ⟨g, 0, none⟩ = some (.int .i64 m.kind) ∧ W.cell? ⟨g, 1, none⟩ = some (.int .i64 m.op) ∧ W.cell? ⟨g, 2, none⟩ = some m.av ∧ W.cell? ⟨g, 3, none⟩ = some m.kv) := fun W h => ⟨(h.cell hlt2).trans y0, (h.cell hlt2).trans y1, (h.cell hlt2).trans y2, (h.cell hlt2).trans y3⟩
        clear hS hN hmo hok hfr HST HGD HEN HBX hgm
        obtain ⟨mk, mop, mds, mav, mkv, mks⟩ := m
        simp only at hd hd2 y0 y1 y2 y3 HCN HYC
        subst hd
        subst hd2
        by_cases hbg : 400 < S
        · rw [if_pos hbg] at HLN
          go_wp2_with (first | (have hx := hmk1; clear hx hmk1; go_at_call 53; refine (HH2.out _ hrr).mono ?_; rintro e w6 ⟨rfl, hw6⟩; obtain rfl := hw6.symm) | (go_at_call 53; refine (HH1.out _ hrr).mono ?_; rintro e w6 ⟨rfl, hw6⟩; obtain rfl := hw6.symm; have hmk1 : True := trivial) | (go_at_call 56; refine (HCN.out _ (by (repeat (first | with_reducible exact Below.refl _ _ | with_reducible assumption | with_reducible refine bl_set (by first | exact Nat.le_refl _ | (simp; done) | (simp; omega) | omega) ?_ _ | with_reducible refine bl_alloc ?_ _ | with_reducible refine bl_drewN ?_ _ | with_reducible refine bl_drew ?_ | with_reducible refine bl_grow ?_ _ _ | with_reducible refine bl_call ?_ (by assumption))))).mono ?_; rintro e w5 ⟨r, rfl, hri, hr2, hb5⟩; have hr3 : 400 < (r : Int) := (by have := hri.2 hbg; omega); clear hri; have hBW5 : Below wr.heap.size wr w5 := (by (repeat (first | with_reducible exact Below.refl _ _ | with_reducible assumption | with_reducible refine bl_set (by first | exact Nat.le_refl _ | (simp; done) | (simp; omega) | omega) ?_ _ | with_reducible refine bl_alloc ?_ _ | with_reducible refine bl_drewN ?_ _ | with_reducible refine bl_drew ?_ | with_reducible refine bl_grow ?_ _ _ | with_reducible refine bl_call ?_ (by assumption)))); clear t0 t1 t2 t3 f0 f1 f2 f3; obtain ⟨_, ⟨t0, t1, t2, t3⟩, f0, f1, f2, f3⟩ := HBW.out w5 hBW5))
          refine bodyPost_ret (v := .tuple #[.agg #[.int .i64 0, .int .i64 0, .slice none 0 0, .slice none 0 0], .iface 61 (.int .i64 2)]) (by simp [results, Tryz.results25, go_sem, t0, t1, t2, t3]) rfl ⟨?_, by (repeat (first | with_reducible exact Below.refl _ _ | with_reducible assumption | with_reducible refine bl_set (by first | exact Nat.le_refl _ | (simp; done) | (simp; omega) | omega) ?_ _ | with_reducible refine bl_alloc ?_ _ | with_reducible refine bl_drewN ?_ _ | with_reducible refine bl_drew ?_ | with_reducible refine bl_grow ?_ _ _ | with_reducible refine bl_call ?_ (by assumption)))⟩
          exact ⟨0, 0, [], none, 0, none, 0, [], _, rfl, zero_own _ _, by rw [HLN.out]; exact zero_net, .inr ⟨by rw [HLN.out], by first | exact .inl ⟨_, rfl⟩ | exact .inr ⟨_, _, rfl⟩⟩⟩
        · rw [if_neg hbg] at HLN
          go_wp2_with (first | (have hx := hmk1; clear hx hmk1; go_at_call 53; refine (HH2.out _ hrr).mono ?_; rintro e w6 ⟨rfl, hw6⟩; obtain rfl := hw6.symm) | (go_at_call 53; refine (HH1.out _ hrr).mono ?_; rintro e w6 ⟨rfl, hw6⟩; obtain rfl := hw6.symm; have hmk1 : True := trivial) | (go_at_call 56; refine (HCN.out _ (by (repeat (first | with_reducible exact Below.refl _ _ | with_reducible assumption | with_reducible refine bl_set (by first | exact Nat.le_refl _ | (simp; done) | (simp; omega) | omega) ?_ _ | with_reducible refine bl_alloc ?_ _ | with_reducible refine bl_drewN ?_ _ | with_reducible refine bl_drew ?_ | with_reducible refine bl_grow ?_ _ _ | with_reducible refine bl_call ?_ (by assumption))))).mono ?_; rintro e w5 ⟨r, rfl, hri, hr2, hb5⟩; have hr3 : ¬ 400 < (r : Int) := (by have := hri.1; omega); clear hri; have hBW5 : Below wr.heap.size wr w5 := (by (repeat (first | with_reducible exact Below.refl _ _ | with_reducible assumption | with_reducible refine bl_set (by first | exact Nat.le_refl _ | (simp; done) | (simp; omega) | omega) ?_ _ | with_reducible refine bl_alloc ?_ _ | with_reducible refine bl_drewN ?_ _ | with_reducible refine bl_drew ?_ | with_reducible refine bl_grow ?_ _ _ | with_reducible refine bl_call ?_ (by assumption)))); clear t0 t1 t2 t3 f0 f1 f2 f3 y0 y1 y2 y3; obtain ⟨_, ⟨t0, t1, t2, t3⟩, f0, f1, f2, f3⟩ := HBW.out w5 hBW5; obtain ⟨y0, y1, y2, y3⟩ := HYC.out w5 hBW5))
          refine bodyPost_ret (v := .tuple #[.agg #[.int .i64 mk, .int .i64 mop, .slice d1 mds.length d2, .slice d3 mks.length d4], .nilIface]) (by simp [results, Tryz.results25, go_sem, t0, t1, t2, t3]) rfl ⟨?_, by (repeat (first | with_reducible exact Below.refl _ _ | with_reducible assumption | with_reducible refine bl_set (by first | exact Nat.le_refl _ | (simp; done) | (simp; omega) | omega) ?_ _ | with_reducible refine bl_alloc ?_ _ | with_reducible refine bl_drewN ?_ _ | with_reducible refine bl_drew ?_ | with_reducible refine bl_grow ?_ _ _ | with_reducible refine bl_call ?_ (by assumption)))⟩
          refine ⟨mk, mop, mds, d1, d2, d3, d4, mks, _, rfl, ?_, by rw [HLN.out]; exact HNE.out.symm, .inl ⟨by rw [HLN.out], rfl⟩⟩
          have h9 := HMO.out.below hBW5
          exact MOwn.le ⟨h9.1.set4 (Nat.lt_succ_self _), h9.2⟩ (Nat.le_succ _)
      · have HLN : Hid (Stil.backNet l = (Stil.netZero, false)) := by
          show _ = _
          rw [HEN.out]
          have h2 : (ms.map MNet.net).length ≠ 1 := by rw [List.length_map]; exact h1
          generalize ms.map MNet.net = st at h2
          match st with
          | [] => rfl
          | [x] => exact absurd rfl h2
          | _ :: _ :: _ => rfl
        clear HEN HGD HBX
        by_cases h0 : ms.length = 0
        · rw [decide_eq_false (by omega)] at HH1
          go_wp2_with (go_at_call 53; refine (HH1.out _ hrr).mono ?_; rintro e w6 ⟨rfl, hw6⟩; obtain rfl := hw6.symm)
          refine bodyPost_ret (v := .tuple #[.agg #[.int .i64 0, .int .i64 0, .slice none 0 0, .slice none 0 0], .iface 98 (.agg #[.int .i64 (l.length : Int), .iface 61 (.int .i64 1)])]) (by simp [results, Tryz.results25, go_sem, t0, t1, t2, t3]) rfl ⟨?_, by (repeat (first | with_reducible exact Below.refl _ _ | with_reducible assumption | with_reducible refine bl_set (by first | exact Nat.le_refl _ | (simp; done) | (simp; omega) | omega) ?_ _ | with_reducible refine bl_alloc ?_ _ | with_reducible refine bl_drewN ?_ _ | with_reducible refine bl_drew ?_ | with_reducible refine bl_grow ?_ _ _ | with_reducible refine bl_call ?_ (by assumption)))⟩
          exact ⟨0, 0, [], none, 0, none, 0, [], _, rfl, zero_own _ _, by rw [HLN.out]; exact zero_net, .inr ⟨by rw [HLN.out], by first | exact .inl ⟨_, rfl⟩ | exact .inr ⟨_, _, rfl⟩⟩⟩
        · rw [decide_eq_true (by omega)] at HH1
          rw [decide_eq_true (by omega)] at HH2
          go_wp2_with (first | (have hx := hmk1; clear hx hmk1; go_at_call 53; refine (HH2.out _ hrr).mono ?_; rintro e w6 ⟨rfl, hw6⟩; obtain rfl := hw6.symm) | (go_at_call 53; refine (HH1.out _ hrr).mono ?_; rintro e w6 ⟨rfl, hw6⟩; obtain rfl := hw6.symm; have hmk1 : True := trivial))
          refine bodyPost_ret (v := .tuple #[.agg #[.int .i64 0, .int .i64 0, .slice none 0 0, .slice none 0 0], .iface 98 (.agg #[.int .i64 (l.length : Int), .iface 61 (.int .i64 1)])]) (by simp [results, Tryz.results25, go_sem, t0, t1, t2, t3]) rfl ⟨?_, by (repeat (first | with_reducible exact Below.refl _ _ | with_reducible assumption | with_reducible refine bl_set (by first | exact Nat.le_refl _ | (simp; done) | (simp; omega) | omega) ?_ _ | with_reducible refine bl_alloc ?_ _ | with_reducible refine bl_drewN ?_ _ | with_reducible refine bl_drew ?_ | with_reducible refine bl_grow ?_ _ _ | with_reducible refine bl_call ?_ (by assumption)))⟩
          exact ⟨0, 0, [], none, 0, none, 0, [], _, rfl, zero_own _ _, by rw [HLN.out]; exact zero_net, .inr ⟨by rw [HLN.out], by first | exact .inl ⟨_, rfl⟩ | exact .inr ⟨_, _, rfl⟩⟩⟩
end Go.Proofs.YtpaljcoojkbhnaaGreatDoor
/- The program's chapter 8: BackNet. -/
namespace Go.Proofs.YtpaljcoojkbhnaaGreatDoor
open Go.RowKit Go.Sort Go.BigFrame
set_option maxHeartbeats 8000000 in
set_option maxRecDepth 100000 in
theorem i_backNet (l : List Stil.Inst) (v : Value) (w : World) (hE : ErrTypeAt w) (hrw : RowsAt w) (hlw : LWordsAt w) (hat : InstsAt w v l) (hl : l.length ≤ 1048576) (hft : ∀ x ∈ l, x.fits) :
    Calls Tryz.prog 8 #[v] w fun e w' => BackRet w' w.heap.size (Stil.backNet l) e ∧ Below w.heap.size w w' := by
  have HAL : Hid (∀ W, Below w.heap.size w W → Calls Tryz.prog 25 #[v] W fun e w' => AloneRet w' W.heap.size (Stil.backNet l) e ∧ Below W.heap.size W w') := fun W h => i_backAlone l v W (hrw.below h) (hlw.below h) (hat.below h) hl hft
  have HE : Hid (∀ V, Below w.heap.size w V → ErrTypeAt V) := fun V h => hE.below h
  obtain ⟨a, cap, rfl, _⟩ := hat
  obtain ⟨R, hR⟩ : ∃ R, R = Stil.backNet l := ⟨_, rfl⟩
  rw [← hR] at HAL ⊢
  clear hR hE hrw hlw hft
  go_enter Tryz.func8, Tryz.ntmps8
  go_upto_region 2 with (go_at_call 25; refine (HAL.out _ (by (repeat (first | with_reducible exact Below.refl _ _ | with_reducible assumption | with_reducible refine bl_set (by first | exact Nat.le_refl _ | (simp; done) | (simp; omega) | omega) ?_ _ | with_reducible refine bl_alloc ?_ _ | with_reducible refine bl_drewN ?_ _ | with_reducible refine bl_drew ?_ | with_reducible refine bl_grow ?_ _ _ | with_reducible refine bl_call ?_ (by assumption))))).mono ?_; rintro e w1 ⟨⟨k, op, ds, a1, c1, a2, c2, ms, er, rfl, hmo, hmn, her⟩, hb1⟩; simp only [World.size_alloc] at hmo; have HMO : Hid (MOwn w1 (w.heap.size + 1) (MNet.mk k op ds (.slice a1 ds.length c1) (.slice a2 ms.length c2) ms)) := hmo; have HMN : Hid ((MNet.mk k op ds (.slice a1 ds.length c1) (.slice a2 ms.length c2) ms).net = R.1) := hmn; have HER : Hid (R.2 = true ∧ er = .nilIface ∨ R.2 = false ∧ BackErr er) := her; clear hmo hmn her)
  have hB1 : Below w.heap.size w w1 := by (repeat (first | with_reducible exact Below.refl _ _ | with_reducible assumption | with_reducible refine bl_set (by first | exact Nat.le_refl _ | (simp; done) | (simp; omega) | omega) ?_ _ | with_reducible refine bl_alloc ?_ _ | with_reducible refine bl_drewN ?_ _ | with_reducible refine bl_drew ?_ | with_reducible refine bl_grow ?_ _ _ | with_reducible refine bl_call ?_ (by assumption)))
  have hs1 : w.heap.size < w1.heap.size := by have := hb1.size; simp at this; omega
  have hz1 : B4 w1 w.heap.size (.int .i64 0) (.int .i64 0) (.slice none 0 0) (.slice none 0 0) := box4.below hb1 (by simp)
  go_upto_region 3 with fail
  obtain ⟨W, hW⟩ : ∃ W, W = (w1.alloc (.cells #[.int .i64 k, .int .i64 op, .slice a1 ds.length c1, .slice a2 ms.length c2] 29)).alloc (.cells #[.int .i64 0] 61) := ⟨_, rfl⟩
  rw [← hW]
  have hsW : W.heap.size = w1.heap.size + 2 := by rw [hW]; simp
  have hbW : Below w1.heap.size w1 W := by rw [hW]; exact bl_alloc (below_alloc _ _) _
  have hBW : Below w.heap.size w W := bl_call hB1 hbW
  have hnW : B4 W w1.heap.size (.int .i64 k) (.int .i64 op) (.slice a1 ds.length c1) (.slice a2 ms.length c2) := by rw [hW]; exact box4.al _
  have hzW : B4 W w.heap.size (.int .i64 0) (.int .i64 0) (.slice none 0 0) (.slice none 0 0) := hz1.below hbW hs1
  have g0 : W.cell? ⟨w1.heap.size + 1, 0, none⟩ = some (.int .i64 0) := by rw [hW]; simp [go_sem]
  have g1 : W.frozen? ⟨w1.heap.size + 1, 0, none⟩ = false := by rw [hW]; simp [go_sem]
  clear hW
  have HV : Hid (∀ (w4 : World) (u : Value), Below W.heap.size W w4 → B4 (w4.setCell ⟨w1.heap.size + 1, 0, none⟩ u) w1.heap.size (.int .i64 k) (.int .i64 op) (.slice a1 ds.length c1) (.slice a2 ms.length c2) ∧ B4 (w4.setCell ⟨w1.heap.size + 1, 0, none⟩ u) w.heap.size (.int .i64 0) (.int .i64 0) (.slice none 0 0) (.slice none 0 0) ∧ Below w1.heap.size w1 (w4.setCell ⟨w1.heap.size + 1, 0, none⟩ u)) := fun w4 u h =>
    ⟨(hnW.below h (by omega)).setO (by omega) u, (hzW.below h (by omega)).setO (by omega) u, bl_set (by simp) (bl_call hbW h) u⟩
  have HFI : Hid (∀ (V : World) (b : Bool), Below w1.heap.size w1 V → b = R.2 → BackRet ((((V.setCell ⟨w.heap.size, 0, none⟩ (.int .i64 k)).setCell ⟨w.heap.size, 1, none⟩ (.int .i64 op)).setCell ⟨w.heap.size, 2, none⟩ (.slice a1 ds.length c1)).setCell ⟨w.heap.size, 3, none⟩ (.slice a2 ms.length c2)) w.heap.size R (.returned (.tuple #[.agg #[.int .i64 k, .int .i64 op, .slice a1 ds.length c1, .slice a2 ms.length c2], .bool b])) ∧ Below w.heap.size w ((((V.setCell ⟨w.heap.size, 0, none⟩ (.int .i64 k)).setCell ⟨w.heap.size, 1, none⟩ (.int .i64 op)).setCell ⟨w.heap.size, 2, none⟩ (.slice a1 ds.length c1)).setCell ⟨w.heap.size, 3, none⟩ (.slice a2 ms.length c2))) := fun V b h e => by
    subst e
    have hB : Below w.heap.size w V := bl_call hB1 h
    refine ⟨⟨k, op, ds, a1, c1, a2, c2, ms, rfl, MOwn.le ⟨(HMO.out.below h).1.set4 (Nat.lt_succ_self _), HMO.out.2⟩ (Nat.le_succ _), HMN.out⟩, ?_⟩
    exact bl_set (by simp) (bl_set (by simp) (bl_set (by simp) (bl_set (by simp) hB _) _) _) _
  have HB0 : Hid (Below w.heap.size w W) := hBW
  obtain ⟨_, ⟨o0, o1, o2, o3⟩, _⟩ := hnW
  obtain ⟨_, ⟨t0, t1, t2, t3⟩, f0, f1, f2, f3⟩ := hzW
  clear hz1 hB1 hb1
  rcases HER.out with ⟨h2, rfl⟩ | ⟨h2, ⟨c, rfl⟩ | ⟨kk, c, rfl⟩⟩
  · clear HER
    go_region_with (go_at_call 26; refine (as_nil _ _).mono ?_; rintro e w5 ⟨rfl, rfl⟩)
    all_goals
      try go_wp2
    all_goals
      refine bodyPost_ret (v := .tuple #[.agg #[.int .i64 k, .int .i64 op, .slice a1 ds.length c1, .slice a2 ms.length c2], .bool true]) (by simp [results, Tryz.results8, go_sem, t0, t1, t2, t3]) rfl ?_
      exact HFI.out W.drew true hbW.drew h2.symm
  · clear HER
    go_region_with (go_at_call 26; refine (as_hitBD c ⟨w1.heap.size + 1, 0, none⟩ (.int .i64 0) W.drew (HE.out W.drew (by exact HB0.out.drew)) g0 g1).mono ?_; rintro e w5 ⟨rfl, w4, hb4, rfl⟩; have hb4' : Below W.heap.size W w4 := (((Below.refl W.heap.size W).drew).trans hb4); obtain ⟨V, hV⟩ : ∃ V, V = w4.setCell ⟨w1.heap.size + 1, 0, none⟩ (.int .i64 c) := ⟨_, rfl⟩; have hq := HV.out w4 (.int .i64 c) hb4'; rw [← hV] at hq ⊢; obtain ⟨⟨_, ⟨q0, q1, q2, q3⟩, _⟩, ⟨_, ⟨t0', t1', t2', t3'⟩, f0', f1', f2', f3'⟩, hbV⟩ := hq; have HBV : Hid (Below w1.heap.size w1 V) := hbV; clear hbV hb4 hb4' hV)
    all_goals
      try go_wp2
    all_goals
      refine bodyPost_ret (v := .tuple #[.agg #[.int .i64 k, .int .i64 op, .slice a1 ds.length c1, .slice a2 ms.length c2], .bool false]) (by simp [results, Tryz.results8, go_sem, t0', t1', t2', t3']) rfl ?_
      exact HFI.out _ false HBV.out h2.symm
  · clear HER
    go_region_with (go_at_call 26; refine (as_hitBA kk c ⟨w1.heap.size + 1, 0, none⟩ (.int .i64 0) W.drew (HE.out W.drew (by exact HB0.out.drew)) g0 g1).mono ?_; rintro e w5 ⟨rfl, w4, hb4, rfl⟩; have hb4' : Below W.heap.size W w4 := (((Below.refl W.heap.size W).drew).trans hb4); obtain ⟨V, hV⟩ : ∃ V, V = w4.setCell ⟨w1.heap.size + 1, 0, none⟩ (.int .i64 c) := ⟨_, rfl⟩; have hq := HV.out w4 (.int .i64 c) hb4'; rw [← hV] at hq ⊢; obtain ⟨⟨_, ⟨q0, q1, q2, q3⟩, _⟩, ⟨_, ⟨t0', t1', t2', t3'⟩, f0', f1', f2', f3'⟩, hbV⟩ := hq; have HBV : Hid (Below w1.heap.size w1 V) := hbV; clear hbV hb4 hb4' hV)
    all_goals
      try go_wp2
    all_goals
      refine bodyPost_ret (v := .tuple #[.agg #[.int .i64 k, .int .i64 op, .slice a1 ds.length c1, .slice a2 ms.length c2], .bool false]) (by simp [results, Tryz.results8, go_sem, t0', t1', t2', t3']) rfl ?_
      exact HFI.out _ false HBV.out h2.symm
end Go.Proofs.YtpaljcoojkbhnaaGreatDoor
