/- The specification's chapter 8: the net that a reader comes to. -/
import Derived.Test.YtpaljcoojkbhnaaGreatDoorS23
import Derived.Test.YtpaljcoojkbhnaaGreatDoorI30
set_option maxHeartbeats 4000000
set_option maxRecDepth 100000
namespace Go.Proofs.YtpaljcoojkbhnaaGreatDoor
open Go.RowKit Go.Sort Go.BigFrame
def posOf (w : World) (P : Nat) : Nat := match w.cell? ⟨P, 1, none⟩ with
 | some (.int _ k) => k.toNat
 | _ => 0
theorem Rd8.pos {w0 w : World} {a : Option Addr} {cap : Nat} {L l : List Stil.Inst} (h : Rd8 w0 w a cap L l) : L.length - posOf w w0.heap.size = l.length := by
 have := h.suf.length_le
 unfold posOf
 rw [h.c1]
 show L.length - ((L.length - l.length : Nat) : Int).toNat = _
 omega
theorem sizes_rev (l : List Stil.Net) : Stil.sizes l.reverse = Stil.sizes l := by unfold Stil.sizes; rw [List.map_reverse, List.sum_reverse]
theorem s_netR (L l l1 : List Stil.Inst) (n : Stil.Net) (a : Option Addr) (cap : Nat) (w0 w : World) (hr : Rd8 w0 w a cap L l) (hat : InstsAt w0 (.slice a L.length cap) L) (hl : L.length ≤ 1000) (hft : ∀ x ∈ L, x.fits) (hn : Stil.NetR [] l n l1) :
  Calls Tryz.prog 65 #[.pointer (some ⟨w0.heap.size, 0, none⟩), .bool true] w fun e w' => NetRet w' w.heap.size n e ∧ Rd8 w0 w' a cap L l1 ∧ w.grownBy w' (some w0.heap.size) := by
 have HAT : Hid (InstsAt w0 (.slice a L.length cap) L) := hat
 have HF : Hid (∀ x ∈ L, x.fits) := hft
 have HRD : Hid (Rd8 w0 w a cap L l) := hr
 have HNR : Hid (Stil.NetR [] l n l1) := hn
 have hlt := hr.lt
 have hlL := hr.suf.length_le
 clear hat hft hr hn
 go_enter Tryz.func65, Tryz.ntmps65
 go_wp2
 go_loopw [5] (fun sv wr => ∃ (l' : List Stil.Inst) (ms : List MNet) (ra : Option Addr) (rc : Nat), sv = .slice ra ms.length rc ∧ MRow wr (w.heap.size + 1) (.slice ra ms.length rc) ms ∧ Stil.NetR (ms.map MNet.net).reverse l' n l1 ∧ Rd8 w0 wr a cap L l' ∧ Stil.stOk (1 + 2 * (L.length - l'.length)) (ms.map MNet.net).reverse ∧ B4 wr w.heap.size (.int .i64 0) (.int .i64 0) (.slice none 0 0) (.slice none 0 0) ∧ w.grownBy wr (some w0.heap.size)) (fun _ wr => L.length - posOf wr w0.heap.size)
 case atStart =>
  refine ⟨l, [], some ⟨w.heap.size + 1 + 1, 0, none⟩, 0, by simp, ?_, HNR.out, HRD.out.below (n := w.heap.size) blA hlt, ⟨(fun n hn => by cases hn), by simp [Stil.sizes]⟩, (box4.al _).al _, grown_then (World.grownBy.refl w _) (n := w.heap.size) blA (Nat.le_refl _)⟩
  refine ⟨?_, (fun m hm => by cases hm), List.pairwise_singleton _ _⟩
  have := World.ownsRow_lit ((w.alloc (.cells #[.int .i64 0, .int .i64 0, .slice none 0 0, .slice none 0 0] 29)).alloc (.cells #[.int .i64 0, .int .i64 0, .slice none 0 0, .slice none 0 0] 29)) (base := w.heap.size + 1) (e := 29) (size := 4) #[] 0 (by simp) (by unfold maxLen; omega) rfl
  simpa [mCells] using this
 case round =>
  obtain ⟨l', ms, ra, rc, rfl, hmr, hnr, hrd, hok, hbx, hgb⟩ := hrel
  cases l' with
  | nil => exact hnr.elim
  | cons i r =>
   have HCO : Hid (∀ W, Below wr.heap.size wr W → Calls Tryz.prog 66 #[.pointer (some ⟨w0.heap.size, 0, none⟩)] W fun e w' => e = .returned (.int .i64 i.code) ∧ Below W.heap.size W w') := fun W h => s_code L r i a cap w0 W (hrd.below h hrd.lt) HAT.out hl
   have hps := hrd.pos
   have HPS : Hid (L.length - posOf wr w0.heap.size = r.length + 1) := hps
   have hsz : w.heap.size < wr.heap.size := hbx.1
   have hml : ms.length ≤ 3000 := by
    have h1 := hok.2
    have h2 := Stil.len_sizes (ms.map MNet.net).reverse
    rw [List.length_reverse, List.length_map] at h2
    omega
   rw [Stil.NetR] at hnr
   by_cases h7 : i.code < 7
   ·rw [if_pos h7] at hnr
    obtain ⟨hc1, hnd, hnr⟩ := hnr
    rw [List.length_reverse, List.length_map] at hnd
    obtain ⟨b, o, J, av, rfl, hb, hJ, hJ1, hJ2, x0, x1, x2, hav⟩ := hrd.inst HAT.out
    have hfi : i.fits := HF.out i (hrd.suf.subset (by simp))
    have HDO : Hid (∀ W, Below wr.heap.size wr W → Calls Tryz.prog 22 #[.slice ra ms.length rc, .agg #[.int .i64 i.code, .int .i64 i.one.op, av]] W fun e w' => DoRet W w' (w.heap.size + 1) (Stil.doNet i.code i.one (ms.map MNet.net).reverse) e) := fun W h => s_do i av ms ra rc (w.heap.size + 1) W (hmr.below h) (hav.below h) hfi ⟨hc1, by omega⟩ hnd (by
     have h4 := hok.2
     rw [sizes_rev] at h4
     omega) (Nat.le_trans (by omega) h.size)
    have HOK : Hid (Stil.stOk (1 + 2 * (L.length - r.length)) (Stil.doNet i.code i.one (ms.map MNet.net).reverse)) := by
     have h5 := Stil.do_ok (c := i.code) hfi.2 hok (by omega)
     have e5 : 1 + 2 * (L.length - (i :: r).length) + 2 = 1 + 2 * (L.length - r.length) := by omega
     rw [e5] at h5
     exact h5
    have HNR : Hid (Stil.NetR (Stil.doNet i.code i.one (ms.map MNet.net).reverse) r n l1) := hnr
    have c0 := hrd.c0
    have c1 := hrd.c1
    rw [← hJ1] at c1
    have HXC : Hid (∀ W, Below (w.heap.size + 1) wr W → (W.cell? ⟨w0.heap.size, 0, none⟩ = some (.slice (some ⟨b, o, none⟩) L.length cap) ∧ W.cell? ⟨w0.heap.size, 1, none⟩ = some (.int .i64 (J : Int)) ∧ W.cell? ⟨b, o + J * 3, none⟩ = some (.int .i64 i.code) ∧ W.cell? ⟨b, o + J * 3 + 1, none⟩ = some (.int .i64 i.one.op) ∧ W.cell? ⟨b, o + J * 3 + 2, none⟩ = some av) ∧ W.frozen? ⟨w0.heap.size, 1, none⟩ = false) := fun W h => by
     have hx : ∀ o' u, wr.cell? ⟨b, o', none⟩ = some u → W.cell? ⟨b, o', none⟩ = some u := fun o' u e => (h.cell (p := ⟨b, o', none⟩) (by simp only; omega)).trans e
     have hy : ∀ o' u, wr.cell? ⟨w0.heap.size, o', none⟩ = some u → W.cell? ⟨w0.heap.size, o', none⟩ = some u := fun o' u e => (h.cell (p := ⟨w0.heap.size, o', none⟩) (by simp only; omega)).trans e
     exact ⟨⟨hy _ _ c0, hy _ _ c1, hx _ _ x0, hx _ _ x1, hx _ _ x2⟩, (h.frozen (p := ⟨w0.heap.size, 1, none⟩) (by simp only; omega)).trans hrd.f1⟩
    have HEND : Hid (∀ (W : World) (a7 : Option Addr) (c7 : Nat) (ms7 : List MNet), Below (w.heap.size + 1) wr W → MRow W (w.heap.size + 1) (.slice a7 ms7.length c7) ms7 → (ms7.map MNet.net).reverse = Stil.doNet i.code i.one (ms.map MNet.net).reverse → MRow (W.setCell ⟨w0.heap.size, 1, none⟩ (.int .i64 ((J : Int) + 1))) (w.heap.size + 1) (.slice a7 ms7.length c7) ms7 ∧ Stil.NetR (ms7.map MNet.net).reverse r n l1 ∧ Rd8 w0 (W.setCell ⟨w0.heap.size, 1, none⟩ (.int .i64 ((J : Int) + 1))) (some ⟨b, o, none⟩) cap L r ∧ Stil.stOk (1 + 2 * (L.length - r.length)) (ms7.map MNet.net).reverse ∧ B4 (W.setCell ⟨w0.heap.size, 1, none⟩ (.int .i64 ((J : Int) + 1))) w.heap.size (.int .i64 0) (.int .i64 0) (.slice none 0 0) (.slice none 0 0) ∧ w.grownBy (W.setCell ⟨w0.heap.size, 1, none⟩ (.int .i64 ((J : Int) + 1))) (some w0.heap.size)) := fun W a7 c7 ms7 h hm hn7 =>
     ⟨hm.setO (fun x hx e => by have := (hm.lt x hx _ e).1; simp only at this; omega) _, by rw [hn7]; exact HNR.out, (hrd.below h (by omega)).next hJ2, by rw [hn7]; exact HOK.out, (hbx.below h (Nat.lt_succ_self _)).setO (by omega) _, grown_set (grown_then hgb h (Nat.le_succ _)) _ _⟩
    obtain ⟨ta, ua, rfl, -⟩ := hav
    have hwj : IntKind.i64.wrap ((J : Int) + 1) = (J : Int) + 1 := by rw [IntKind.wrap_i64]; omega
    clear hnr hrd hok hbx hgb hJ1 hJ2 hfi hps HNR HOK hmr hnd
    go_upto_region 5 with (go_at_call 66; refine (HCO.out _ blA).mono ?_; rintro e w5 ⟨rfl, hb5⟩; have hBW5 : Below wr.heap.size wr w5 := blA; clear x0 x1 x2 c0 c1; obtain ⟨⟨c0, c1, x0, x1, x2⟩, -⟩ := HXC.out w5 (hBW5.mono (by omega)))
    go_region_held3 (fun W' => (W'.cell? ⟨w0.heap.size, 0, none⟩ = some (.slice (some ⟨b, o, none⟩) L.length cap) ∧ W'.cell? ⟨w0.heap.size, 1, none⟩ = some (.int .i64 (J : Int)) ∧ W'.cell? ⟨b, o + J * 3, none⟩ = some (.int .i64 i.code) ∧ W'.cell? ⟨b, o + J * 3 + 1, none⟩ = some (.int .i64 i.one.op) ∧ W'.cell? ⟨b, o + J * 3 + 2, none⟩ = some (.slice ta i.one.args.length ua))) (first | with_reducible assumption | with_reducible exact ⟨celD.trans c0, celD.trans c1, celD.trans x0, celD.trans x1, celD.trans x2⟩ | skip) (first | (go_at_call 22; refine (HDO.out _ (by exact hBW5.drew)).mono ?_; rintro e w7 ⟨a7, c7, ms7, rfl, hm7, hn7, hb7⟩; have HB7 : Hid (Below (w.heap.size + 1) wr w7) := ((hBW5.drew.mono (by omega)).trans hb7); have HE7 := HEND.out w7 a7 c7 ms7 HB7.out hm7 hn7; have HE8 := hid_of HE7; obtain ⟨hS7, f7⟩ := HXC.out w7 HB7.out; have y1 := hS7.2.1; clear hm7 hn7 hb7 HE7))
    all_goals
     go_wp2
     exact ⟨⟨r, ms7, a7, c7, rfl, HE8.out⟩, by rw [HE8.out.2.2.1.pos, HPS.out]; omega⟩
   ·rw [if_neg h7] at hnr
    obtain ⟨hst, rfl⟩ := hnr
    have hlen : ms.length = 1 := by have := congrArg List.length hst; simpa using this
    obtain ⟨m, rfl⟩ := List.length_eq_one_iff.1 hlen
    have hmn : m.net = n := by simpa using hst
    have hmo := hmr.one 0 (by simp)
    simp only [List.getElem_cons_zero] at hmo
    obtain ⟨g, c, hv, _, hlt2, _, hcell⟩ := ownsRow_cells hmr.1 (by simp)
    obtain ⟨a1, a2, a3, a4⟩ := mCells_get [m] 0 (by simp)
    have y0 := hcell _ _ a1
    have y1 := hcell _ _ a2
    have y2 := hcell _ _ a3
    have y3 := hcell _ _ a4
    simp only [List.getElem_cons_zero, Nat.zero_mul, Nat.zero_add] at y0 y1 y2 y3
    have hmok := (MOk_iff _ _ _).1 hmo.1
    obtain ⟨d1, d2, hd⟩ := slice_of_owns hmok.1
    obtain ⟨d3, d4, hd2⟩ := slice_of_owns hmok.2.1
    simp only [Value.slice.injEq] at hv
    obtain ⟨rfl, _, rfl⟩ := hv
    have HYC : Hid (∀ W, Below wr.heap.size wr W → (W.cell? ⟨g, 0, none⟩ = some (.int .i64 m.kind) ∧ W.cell? ⟨g, 1, none⟩ = some (.int .i64 m.op) ∧ W.cell? ⟨g, 2, none⟩ = some m.av ∧ W.cell? ⟨g, 3, none⟩ = some m.kv) ∧ B4 W w.heap.size (.int .i64 0) (.int .i64 0) (.slice none 0 0) (.slice none 0 0)) := fun W h => ⟨⟨(h.cell hlt2).trans y0, (h.cell hlt2).trans y1, (h.cell hlt2).trans y2, (h.cell hlt2).trans y3⟩, hbx.below h hsz⟩
    have HEND : Hid (∀ W, Below wr.heap.size wr W → MOwn W (w.heap.size + 1) m ∧ Rd8 w0 W a cap L (i :: r) ∧ w.grownBy W (some w0.heap.size)) := fun W h => ⟨hmo.below h, hrd.below h hrd.lt, grown_then hgb h (Nat.le_of_lt hsz)⟩
    have HMN : Hid (m.net = n) := hmn
    clear hst hmo hmok hrd hgb hbx hmr hcell a1 a2 a3 a4 hok hps hmn hlen
    obtain ⟨mk, mop, mds, mav, mkv, mks⟩ := m
    simp only at hd hd2 y0 y1 y2 y3 HYC
    subst hd
    subst hd2
    go_wp2_with (go_at_call 66; refine (HCO.out _ blA).mono ?_; rintro e w5 ⟨rfl, hb5⟩; have hBW5 : Below wr.heap.size wr w5 := blA; clear y0 y1 y2 y3; obtain ⟨⟨y0, y1, y2, y3⟩, _, ⟨t0, t1, t2, t3⟩, f0, f1, f2, f3⟩ := HYC.out w5 hBW5; have HE5 := hid_of (HEND.out w5 hBW5))
    refine bodyPost_ret (v := .agg #[.int .i64 mk, .int .i64 mop, .slice d1 mds.length d2, .slice d3 mks.length d4]) (by simp [results, Tryz.results65, go_sem, t0, t1, t2, t3]) rfl ⟨⟨mk, mop, mds, d1, d2, d3, d4, mks, rfl, ?_, HMN.out⟩, ?_, ?_⟩
    ·exact MOwn.le ⟨HE5.out.1.1.set4 (Nat.lt_succ_self _), HE5.out.1.2⟩ (Nat.le_succ _)
    ·refine HE5.out.2.1.below (n := w.heap.size) ?_ hlt
     exact (((((Below.refl w.heap.size w5).setCell (p := ⟨w.heap.size, 0, none⟩) (Nat.le_refl _) _).setCell (p := ⟨w.heap.size, 1, none⟩) (Nat.le_refl _) _).setCell (p := ⟨w.heap.size, 2, none⟩) (Nat.le_refl _) _).setCell (p := ⟨w.heap.size, 3, none⟩) (Nat.le_refl _) _)
    ·refine grown_then HE5.out.2.2 (n := w.heap.size) ?_ (Nat.le_refl _)
     exact (((((Below.refl w.heap.size w5).setCell (p := ⟨w.heap.size, 0, none⟩) (Nat.le_refl _) _).setCell (p := ⟨w.heap.size, 1, none⟩) (Nat.le_refl _) _).setCell (p := ⟨w.heap.size, 2, none⟩) (Nat.le_refl _) _).setCell (p := ⟨w.heap.size, 3, none⟩) (Nat.le_refl _) _)
theorem s_netK (L l l1 : List Stil.Inst) (n : Stil.Net) (a : Option Addr) (cap : Nat) (w0 w : World) (hr : Rd8 w0 w a cap L l) (hat : InstsAt w0 (.slice a L.length cap) L) (hl : L.length ≤ 1000) (hft : ∀ x ∈ L, x.fits) (hn : Stil.NetR [Stil.netZero] l n l1) :
  Calls Tryz.prog 65 #[.pointer (some ⟨w0.heap.size, 0, none⟩), .bool false] w fun e w' => NetRet w' w.heap.size n e ∧ Rd8 w0 w' a cap L l1 ∧ w.grownBy w' (some w0.heap.size) := by
 have HAT : Hid (InstsAt w0 (.slice a L.length cap) L) := hat
 have HF : Hid (∀ x ∈ L, x.fits) := hft
 have HRD : Hid (Rd8 w0 w a cap L l) := hr
 have HNR : Hid (Stil.NetR [Stil.netZero] l n l1) := hn
 have hlt := hr.lt
 have hlL := hr.suf.length_le
 clear hat hft hr hn
 go_enter Tryz.func65, Tryz.ntmps65
 go_wp2
 go_loopw [5] (fun sv wr => ∃ (l' : List Stil.Inst) (ms : List MNet) (ra : Option Addr) (rc : Nat), sv = .slice ra ms.length rc ∧ MRow wr (w.heap.size + 1) (.slice ra ms.length rc) ms ∧ Stil.NetR (ms.map MNet.net).reverse l' n l1 ∧ Rd8 w0 wr a cap L l' ∧ Stil.stOk (1 + 2 * (L.length - l'.length)) (ms.map MNet.net).reverse ∧ B4 wr w.heap.size (.int .i64 0) (.int .i64 0) (.slice none 0 0) (.slice none 0 0) ∧ w.grownBy wr (some w0.heap.size)) (fun _ wr => L.length - posOf wr w0.heap.size)
 case atStart =>
  refine ⟨l, [⟨0, 0, [], .slice none 0 0, .slice none 0 0, []⟩], some ⟨w.heap.size + 1, 0, none⟩, 1, by simp, ?_, by simpa [zero_net] using HNR.out, HRD.out.below (n := w.heap.size) blA hlt, ?_, box4.al _, grown_then (World.grownBy.refl w _) (n := w.heap.size) blA (Nat.le_refl _)⟩
  ·have h := MRow.single (zero_own (w.alloc (.cells #[.int .i64 0, .int .i64 0, .slice none 0 0, .slice none 0 0] 29)) (w.heap.size + 1)) (by simp)
   simpa using h
  ·simp only [List.map_cons, List.map_nil, zero_net, List.reverse_cons, List.reverse_nil, List.nil_append]
   exact ⟨Stil.zero_stOk.1, Nat.le_trans Stil.zero_stOk.2 (by omega)⟩
 case round =>
  obtain ⟨l', ms, ra, rc, rfl, hmr, hnr, hrd, hok, hbx, hgb⟩ := hrel
  cases l' with
  | nil => exact hnr.elim
  | cons i r =>
   have HCO : Hid (∀ W, Below wr.heap.size wr W → Calls Tryz.prog 66 #[.pointer (some ⟨w0.heap.size, 0, none⟩)] W fun e w' => e = .returned (.int .i64 i.code) ∧ Below W.heap.size W w') := fun W h => s_code L r i a cap w0 W (hrd.below h hrd.lt) HAT.out hl
   have hps := hrd.pos
   have HPS : Hid (L.length - posOf wr w0.heap.size = r.length + 1) := hps
   have hsz : w.heap.size < wr.heap.size := hbx.1
   have hml : ms.length ≤ 3000 := by
    have h1 := hok.2
    have h2 := Stil.len_sizes (ms.map MNet.net).reverse
    rw [List.length_reverse, List.length_map] at h2
    omega
   rw [Stil.NetR] at hnr
   by_cases h7 : i.code < 7
   ·rw [if_pos h7] at hnr
    obtain ⟨hc1, hnd, hnr⟩ := hnr
    rw [List.length_reverse, List.length_map] at hnd
    obtain ⟨b, o, J, av, rfl, hb, hJ, hJ1, hJ2, x0, x1, x2, hav⟩ := hrd.inst HAT.out
    have hfi : i.fits := HF.out i (hrd.suf.subset (by simp))
    have HDO : Hid (∀ W, Below wr.heap.size wr W → Calls Tryz.prog 22 #[.slice ra ms.length rc, .agg #[.int .i64 i.code, .int .i64 i.one.op, av]] W fun e w' => DoRet W w' (w.heap.size + 1) (Stil.doNet i.code i.one (ms.map MNet.net).reverse) e) := fun W h => s_do i av ms ra rc (w.heap.size + 1) W (hmr.below h) (hav.below h) hfi ⟨hc1, by omega⟩ hnd (by
     have h4 := hok.2
     rw [sizes_rev] at h4
     omega) (Nat.le_trans (by omega) h.size)
    have HOK : Hid (Stil.stOk (1 + 2 * (L.length - r.length)) (Stil.doNet i.code i.one (ms.map MNet.net).reverse)) := by
     have h5 := Stil.do_ok (c := i.code) hfi.2 hok (by omega)
     have e5 : 1 + 2 * (L.length - (i :: r).length) + 2 = 1 + 2 * (L.length - r.length) := by omega
     rw [e5] at h5
     exact h5
    have HNR : Hid (Stil.NetR (Stil.doNet i.code i.one (ms.map MNet.net).reverse) r n l1) := hnr
    have c0 := hrd.c0
    have c1 := hrd.c1
    rw [← hJ1] at c1
    have HXC : Hid (∀ W, Below (w.heap.size + 1) wr W → (W.cell? ⟨w0.heap.size, 0, none⟩ = some (.slice (some ⟨b, o, none⟩) L.length cap) ∧ W.cell? ⟨w0.heap.size, 1, none⟩ = some (.int .i64 (J : Int)) ∧ W.cell? ⟨b, o + J * 3, none⟩ = some (.int .i64 i.code) ∧ W.cell? ⟨b, o + J * 3 + 1, none⟩ = some (.int .i64 i.one.op) ∧ W.cell? ⟨b, o + J * 3 + 2, none⟩ = some av) ∧ W.frozen? ⟨w0.heap.size, 1, none⟩ = false) := fun W h => by
     have hx : ∀ o' u, wr.cell? ⟨b, o', none⟩ = some u → W.cell? ⟨b, o', none⟩ = some u := fun o' u e => (h.cell (p := ⟨b, o', none⟩) (by simp only; omega)).trans e
     have hy : ∀ o' u, wr.cell? ⟨w0.heap.size, o', none⟩ = some u → W.cell? ⟨w0.heap.size, o', none⟩ = some u := fun o' u e => (h.cell (p := ⟨w0.heap.size, o', none⟩) (by simp only; omega)).trans e
     exact ⟨⟨hy _ _ c0, hy _ _ c1, hx _ _ x0, hx _ _ x1, hx _ _ x2⟩, (h.frozen (p := ⟨w0.heap.size, 1, none⟩) (by simp only; omega)).trans hrd.f1⟩
    have HEND : Hid (∀ (W : World) (a7 : Option Addr) (c7 : Nat) (ms7 : List MNet), Below (w.heap.size + 1) wr W → MRow W (w.heap.size + 1) (.slice a7 ms7.length c7) ms7 → (ms7.map MNet.net).reverse = Stil.doNet i.code i.one (ms.map MNet.net).reverse → MRow (W.setCell ⟨w0.heap.size, 1, none⟩ (.int .i64 ((J : Int) + 1))) (w.heap.size + 1) (.slice a7 ms7.length c7) ms7 ∧ Stil.NetR (ms7.map MNet.net).reverse r n l1 ∧ Rd8 w0 (W.setCell ⟨w0.heap.size, 1, none⟩ (.int .i64 ((J : Int) + 1))) (some ⟨b, o, none⟩) cap L r ∧ Stil.stOk (1 + 2 * (L.length - r.length)) (ms7.map MNet.net).reverse ∧ B4 (W.setCell ⟨w0.heap.size, 1, none⟩ (.int .i64 ((J : Int) + 1))) w.heap.size (.int .i64 0) (.int .i64 0) (.slice none 0 0) (.slice none 0 0) ∧ w.grownBy (W.setCell ⟨w0.heap.size, 1, none⟩ (.int .i64 ((J : Int) + 1))) (some w0.heap.size)) := fun W a7 c7 ms7 h hm hn7 =>
     ⟨hm.setO (fun x hx e => by have := (hm.lt x hx _ e).1; simp only at this; omega) _, by rw [hn7]; exact HNR.out, (hrd.below h (by omega)).next hJ2, by rw [hn7]; exact HOK.out, (hbx.below h (Nat.lt_succ_self _)).setO (by omega) _, grown_set (grown_then hgb h (Nat.le_succ _)) _ _⟩
    obtain ⟨ta, ua, rfl, -⟩ := hav
    have hwj : IntKind.i64.wrap ((J : Int) + 1) = (J : Int) + 1 := by rw [IntKind.wrap_i64]; omega
    clear hnr hrd hok hbx hgb hJ1 hJ2 hfi hps HNR HOK hmr hnd
    go_upto_region 5 with (go_at_call 66; refine (HCO.out _ blA).mono ?_; rintro e w5 ⟨rfl, hb5⟩; have hBW5 : Below wr.heap.size wr w5 := blA; clear x0 x1 x2 c0 c1; obtain ⟨⟨c0, c1, x0, x1, x2⟩, -⟩ := HXC.out w5 (hBW5.mono (by omega)))
    go_region_held3 (fun W' => (W'.cell? ⟨w0.heap.size, 0, none⟩ = some (.slice (some ⟨b, o, none⟩) L.length cap) ∧ W'.cell? ⟨w0.heap.size, 1, none⟩ = some (.int .i64 (J : Int)) ∧ W'.cell? ⟨b, o + J * 3, none⟩ = some (.int .i64 i.code) ∧ W'.cell? ⟨b, o + J * 3 + 1, none⟩ = some (.int .i64 i.one.op) ∧ W'.cell? ⟨b, o + J * 3 + 2, none⟩ = some (.slice ta i.one.args.length ua))) (first | with_reducible assumption | with_reducible exact ⟨celD.trans c0, celD.trans c1, celD.trans x0, celD.trans x1, celD.trans x2⟩ | skip) (first | (go_at_call 22; refine (HDO.out _ (by exact hBW5.drew)).mono ?_; rintro e w7 ⟨a7, c7, ms7, rfl, hm7, hn7, hb7⟩; have HB7 : Hid (Below (w.heap.size + 1) wr w7) := ((hBW5.drew.mono (by omega)).trans hb7); have HE7 := HEND.out w7 a7 c7 ms7 HB7.out hm7 hn7; have HE8 := hid_of HE7; obtain ⟨hS7, f7⟩ := HXC.out w7 HB7.out; have y1 := hS7.2.1; clear hm7 hn7 hb7 HE7))
    all_goals
     go_wp2
     exact ⟨⟨r, ms7, a7, c7, rfl, HE8.out⟩, by rw [HE8.out.2.2.1.pos, HPS.out]; omega⟩
   ·rw [if_neg h7] at hnr
    obtain ⟨hst, rfl⟩ := hnr
    have hlen : ms.length = 1 := by have := congrArg List.length hst; simpa using this
    obtain ⟨m, rfl⟩ := List.length_eq_one_iff.1 hlen
    have hmn : m.net = n := by simpa using hst
    have hmo := hmr.one 0 (by simp)
    simp only [List.getElem_cons_zero] at hmo
    obtain ⟨g, c, hv, _, hlt2, _, hcell⟩ := ownsRow_cells hmr.1 (by simp)
    obtain ⟨a1, a2, a3, a4⟩ := mCells_get [m] 0 (by simp)
    have y0 := hcell _ _ a1
    have y1 := hcell _ _ a2
    have y2 := hcell _ _ a3
    have y3 := hcell _ _ a4
    simp only [List.getElem_cons_zero, Nat.zero_mul, Nat.zero_add] at y0 y1 y2 y3
    have hmok := (MOk_iff _ _ _).1 hmo.1
    obtain ⟨d1, d2, hd⟩ := slice_of_owns hmok.1
    obtain ⟨d3, d4, hd2⟩ := slice_of_owns hmok.2.1
    simp only [Value.slice.injEq] at hv
    obtain ⟨rfl, _, rfl⟩ := hv
    have HYC : Hid (∀ W, Below wr.heap.size wr W → (W.cell? ⟨g, 0, none⟩ = some (.int .i64 m.kind) ∧ W.cell? ⟨g, 1, none⟩ = some (.int .i64 m.op) ∧ W.cell? ⟨g, 2, none⟩ = some m.av ∧ W.cell? ⟨g, 3, none⟩ = some m.kv) ∧ B4 W w.heap.size (.int .i64 0) (.int .i64 0) (.slice none 0 0) (.slice none 0 0)) := fun W h => ⟨⟨(h.cell hlt2).trans y0, (h.cell hlt2).trans y1, (h.cell hlt2).trans y2, (h.cell hlt2).trans y3⟩, hbx.below h hsz⟩
    have HEND : Hid (∀ W, Below wr.heap.size wr W → MOwn W (w.heap.size + 1) m ∧ Rd8 w0 W a cap L (i :: r) ∧ w.grownBy W (some w0.heap.size)) := fun W h => ⟨hmo.below h, hrd.below h hrd.lt, grown_then hgb h (Nat.le_of_lt hsz)⟩
    have HMN : Hid (m.net = n) := hmn
    clear hst hmo hmok hrd hgb hbx hmr hcell a1 a2 a3 a4 hok hps hmn hlen
    obtain ⟨mk, mop, mds, mav, mkv, mks⟩ := m
    simp only at hd hd2 y0 y1 y2 y3 HYC
    subst hd
    subst hd2
    go_wp2_with (go_at_call 66; refine (HCO.out _ blA).mono ?_; rintro e w5 ⟨rfl, hb5⟩; have hBW5 : Below wr.heap.size wr w5 := blA; clear y0 y1 y2 y3; obtain ⟨⟨y0, y1, y2, y3⟩, _, ⟨t0, t1, t2, t3⟩, f0, f1, f2, f3⟩ := HYC.out w5 hBW5; have HE5 := hid_of (HEND.out w5 hBW5))
    refine bodyPost_ret (v := .agg #[.int .i64 mk, .int .i64 mop, .slice d1 mds.length d2, .slice d3 mks.length d4]) (by simp [results, Tryz.results65, go_sem, t0, t1, t2, t3]) rfl ⟨⟨mk, mop, mds, d1, d2, d3, d4, mks, rfl, ?_, HMN.out⟩, ?_, ?_⟩
    ·exact MOwn.le ⟨HE5.out.1.1.set4 (Nat.lt_succ_self _), HE5.out.1.2⟩ (Nat.le_succ _)
    ·refine HE5.out.2.1.below (n := w.heap.size) ?_ hlt
     exact (((((Below.refl w.heap.size w5).setCell (p := ⟨w.heap.size, 0, none⟩) (Nat.le_refl _) _).setCell (p := ⟨w.heap.size, 1, none⟩) (Nat.le_refl _) _).setCell (p := ⟨w.heap.size, 2, none⟩) (Nat.le_refl _) _).setCell (p := ⟨w.heap.size, 3, none⟩) (Nat.le_refl _) _)
    ·refine grown_then HE5.out.2.2 (n := w.heap.size) ?_ (Nat.le_refl _)
     exact (((((Below.refl w.heap.size w5).setCell (p := ⟨w.heap.size, 0, none⟩) (Nat.le_refl _) _).setCell (p := ⟨w.heap.size, 1, none⟩) (Nat.le_refl _) _).setCell (p := ⟨w.heap.size, 2, none⟩) (Nat.le_refl _) _).setCell (p := ⟨w.heap.size, 3, none⟩) (Nat.le_refl _) _)
end Go.Proofs.YtpaljcoojkbhnaaGreatDoor
