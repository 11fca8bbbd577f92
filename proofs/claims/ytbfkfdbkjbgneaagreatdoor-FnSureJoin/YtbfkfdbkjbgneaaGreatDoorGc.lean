/- S7c, S7d: texts put together. -/
import Derived.Test.YtbfkfdbkjbgneaaGreatDoorS7b
import Derived.Test.YtbfkfdbkjbgneaaGreatDoorGa
/- Contracts of the specification's chapter 6: what is known behind an instruction; SureCheck. -/
namespace Go.Proofs.YtbfkfdbkjbgneaaGreatDoor
open Go.RowKit Go.Sort Go.BigFrame
set_option maxHeartbeats 1000000 in
set_option maxRecDepth 100000 in
theorem s_next (s : Stil.Pt) (c : Int) (w : World) (g : s.good) (h1 : 1 ≤ c) (h2 : c ≤ 11) :
    Calls Tryz.prog 17 #[.agg #[.int .i64 s.bits, .int .i64 s.forks, .bool s.seen, .bool s.coil], .int .i64 c] w fun e w' => e = .returned (.agg #[.int .i64 (Stil.next s c).bits, .int .i64 (Stil.next s c).forks, .bool (Stil.next s c).seen, .bool (Stil.next s c).coil]) ∧ Below w.heap.size w w' := by
  obtain ⟨b, f, sn, cl⟩ := s
  obtain ⟨b0, b1, f0, f1, _⟩ := g
  simp only at b0 b1 f0 f1 ⊢
  have hx : c = 1 ∨ c = 2 ∨ c = 3 ∨ c = 4 ∨ c = 5 ∨ c = 6 ∨ c = 7 ∨ c = 8 ∨ c = 9 ∨ c = 10 ∨ c = 11 := by omega
  have k1 : IntKind.i64.wrap (b + 1) = b + 1 := by rw [IntKind.wrap_i64]; omega
  have k2 : IntKind.i64.wrap (b - 1) = b - 1 := by rw [IntKind.wrap_i64]; omega
  have k3 : IntKind.i64.wrap (f + 1) = f + 1 := by rw [IntKind.wrap_i64]; omega
  have k4 : IntKind.i64.wrap (f - 1) = f - 1 := by rw [IntKind.wrap_i64]; omega
  clear h1 h2 b0 b1 f0 f1
  rcases hx with rfl | rfl | rfl | rfl | rfl | rfl | rfl | rfl | rfl | rfl | rfl
  all_goals cases sn
  all_goals (
    go_enter Tryz.func17, Tryz.ntmps17
    go_wp2
    refine bodyPost_ret (by simp [results, Tryz.results17, go_sem]; rfl) rfl ⟨?_, by (repeat (first | with_reducible exact Below.refl _ _ | with_reducible assumption | with_reducible refine bl_set (by first | exact Nat.le_refl _ | (simp; done) | (simp; omega) | omega) ?_ _ | with_reducible refine bl_alloc ?_ _ | with_reducible refine bl_drewN ?_ _ | with_reducible refine bl_drew ?_ | with_reducible refine bl_grow ?_ _ _ | with_reducible refine bl_call ?_ (by assumption)))⟩
    simp [Stil.next, Stil.pt0])
end Go.Proofs.YtbfkfdbkjbgneaaGreatDoor
/- Contracts of the specification's chapter 6: SureCheck. -/
namespace Go.Proofs.YtbfkfdbkjbgneaaGreatDoor
open Go.RowKit Go.Sort Go.BigFrame
set_option maxHeartbeats 2000000 in
set_option maxRecDepth 100000 in
theorem s_sureCheck (l : List Stil.Inst) (v : Value) (w : World) (hat : InstsAt w v l) (hl : l.length ≤ 1048576) (hft : ∀ x ∈ l, x.fits) :
    Calls Tryz.prog 7 #[v] w fun e w' => e = .returned (.agg #[.int .i64 (Stil.sureCheck l).1, .int .i64 (Stil.sureCheck l).2]) ∧ Below w.heap.size w w' := by
  have HF : Hid (∀ x ∈ l, x.fits) := hft
  obtain ⟨a, cap, rfl, hc⟩ := hat
  have HC : Hid (∀ i (h : i < l.length), ∃ b o, a = some ⟨b, o, none⟩ ∧ b < w.heap.size ∧ InstAt w b (o + i * 3) l[i]) := hc
  obtain ⟨ln, hln⟩ : ∃ ln, ln = l.length := ⟨_, rfl⟩
  have HLN : Hid (ln = l.length) := hln
  have HR : Hid (Stil.sureCheck l = if 1000 < ln then (1, 0) else Stil.sureFrom Stil.pt0 0 l) := by show _ = _; rw [hln]; rfl
  rw [← hln] at hl ⊢
  obtain ⟨R, hR⟩ : ∃ R, R = Stil.sureCheck l := ⟨_, rfl⟩
  rw [← hR] at HR ⊢
  clear hc hft hln hR
  by_cases h1 : 1000 < ln
  · have HX : Hid (R = (1, 0)) := by show _ = _; rw [HR.out, if_pos h1]
    go_enter Tryz.func7, Tryz.ntmps7
    go_wp2
    refine bodyPost_ret (v := .agg #[.int .i64 1, .int .i64 0]) (by simp [results, Tryz.results7, go_sem]) rfl ⟨by rw [HX.out]; rfl, by (repeat (first | with_reducible exact Below.refl _ _ | with_reducible assumption | with_reducible refine bl_set (by first | exact Nat.le_refl _ | (simp; done) | (simp; omega) | omega) ?_ _ | with_reducible refine bl_alloc ?_ _ | with_reducible refine bl_drewN ?_ _ | with_reducible refine bl_drew ?_ | with_reducible refine bl_grow ?_ _ _ | with_reducible refine bl_call ?_ (by assumption)))⟩
  · have HX : Hid (R = Stil.sureFrom Stil.pt0 0 l) := by show _ = _; rw [HR.out, if_neg h1]
    clear HR
    go_enter Tryz.func7, Tryz.ntmps7
    go_wp2
    go_loopw [4] (fun i wr => ∃ (j : Nat) (s : Stil.Pt), j ≤ ln ∧ i = .int .i64 j ∧ s.good ∧ R = Stil.sureFrom s j (l.drop j) ∧ PtAt wr (w.heap.size + 1) s ∧ Below (w.heap.size + 1) (w.alloc (.cells #[.int .i64 0, .int .i64 0] 26)) wr) (fun i _ => ln - (intOf i).toNat)
    case atStart =>
      refine ⟨0, Stil.pt0, by omega, rfl, Stil.good0, by rw [HX.out]; rfl, ?_, ?_⟩
      · refine ⟨by simp, ?_, ?_, ?_, ?_, ?_, ?_, ?_, ?_⟩
        all_goals simp [go_sem, Stil.pt0]
      · simpa using below_alloc (w.alloc (.cells #[.int .i64 0, .int .i64 0] 26)) _
    case round =>
      clear HX
      obtain ⟨j, s, hj, rfl, hg, hfr, hpt, hB⟩ := hrel
      have HP : Hid (R = Stil.sureFrom s j (l.drop j)) := hfr
      have HG : Hid (s.good) := hg
      obtain ⟨hz1, p0, p1, p2, p3, z0, z1, z2, z3⟩ := hpt
      clear hfr hg
      have hz : w.heap.size < wr.heap.size := by have := hB.size; simp at this; omega
      have c0 : wr.cell? ⟨w.heap.size, 0, none⟩ = some (.int .i64 0) := by rw [hB.cell (p := ⟨w.heap.size, 0, none⟩) (by simp)]; simp [go_sem]
      have f0 : wr.frozen? ⟨w.heap.size, 0, none⟩ = false := by rw [hB.frozen (p := ⟨w.heap.size, 0, none⟩) (by simp)]; simp [go_sem]
      have c1 : wr.cell? ⟨w.heap.size, 1, none⟩ = some (.int .i64 0) := by rw [hB.cell (p := ⟨w.heap.size, 1, none⟩) (by simp)]; simp [go_sem]
      have f1 : wr.frozen? ⟨w.heap.size, 1, none⟩ = false := by rw [hB.frozen (p := ⟨w.heap.size, 1, none⟩) (by simp)]; simp [go_sem]
      have hbw : Below w.heap.size w wr := (below_alloc _ _).trans (hB.mono (by omega))
      by_cases hlt : j < ln
      · have hlt' : j < l.length := by have := HLN.out; omega
        obtain ⟨b, o, rfl, hbl, hn⟩ := HC.out j hlt'
        obtain ⟨x0, x1, kav, x2, hav⟩ := hn.below hbw hbl
        have HI : Hid (∀ W, Below wr.heap.size wr W → Calls Tryz.prog 16 #[.agg #[.int .i64 s.bits, .int .i64 s.forks, .bool s.seen, .bool s.coil], .agg #[.int .i64 l[j].code, .int .i64 l[j].one.op, kav]] W fun e w' => e = .returned (.int .i64 (Stil.wrong s l[j])) ∧ Below W.heap.size W w') := fun W hW => s_wrong s.bits s.forks s.seen s.coil l[j] kav W (hav.below hW) (HF.out _ (List.getElem_mem hlt'))
        have HS : Hid (R = if 0 < Stil.wrong s l[j] then (Stil.wrong s l[j], j) else Stil.sureFrom (Stil.next s l[j].code) (j + 1) (l.drop (j + 1))) := by show _ = _; rw [HP.out, Stil.sureFrom_drop l s j hlt']
        have hbd := Stil.wrong_bound s l[j]
        have HGN : Hid (Stil.wrong s l[j] = 0 → (Stil.next s l[j].code).good ∧ 1 ≤ l[j].code ∧ l[j].code ≤ 11) := fun h => ⟨Stil.good_next HG.out h, Stil.ok_code (Stil.wrong_zero h).1⟩
        have HNX : Hid (Stil.wrong s l[j] = 0 → ∀ W, Calls Tryz.prog 17 #[.agg #[.int .i64 s.bits, .int .i64 s.forks, .bool s.seen, .bool s.coil], .int .i64 l[j].code] W fun e w' => e = .returned (.agg #[.int .i64 (Stil.next s l[j].code).bits, .int .i64 (Stil.next s l[j].code).forks, .bool (Stil.next s l[j].code).seen, .bool (Stil.next s l[j].code).coil]) ∧ Below W.heap.size W w') := fun h W => s_next s l[j].code W HG.out (HGN.out h).2.1 (HGN.out h).2.2
        obtain ⟨q, hq⟩ : ∃ q, q = Stil.wrong s l[j] := ⟨_, rfl⟩
        obtain ⟨x, hx⟩ : ∃ x, x = l[j] := ⟨_, rfl⟩
        rw [← hq] at HI HS hbd HGN HNX
        rw [← hx] at HI HS HGN HNX x0 x1 hav
        obtain ⟨t0, u0, rfl, _⟩ := hav
        clear hq hx hn HP
        have rr0 := cell_regrown p0
        have rr1 := cell_regrown p1
        have rr2 := cell_regrown p2
        have rr3 := cell_regrown p3
        have rx0 := cell_regrown x0
        have rx1 := cell_regrown x1
        have rx2 := cell_regrown x2
        by_cases hpos : 0 < q
        · have HX : Hid (R = (q, j)) := by show _ = _; rw [HS.out, if_pos hpos]
          clear HS HGN HNX
          go_wp2
          refine wp_region_quiet_below (by kernel_rfl) (by kernel_rfl) ?_
          repeat (go_big_quiet_step ((exact Calls.regrown_of (HI.out _ (by (repeat (first | exact Below.refl _ _ | assumption | refine bl_alloc ?_ _ | refine bl_drewN ?_ _ | refine bl_drew ?_ | refine bl_grow ?_ _ _ | refine bl_set (Nat.le_refl _) ?_ _ | refine bl_call ?_ (by assumption))))))))
          refine wpQuiet_nil ?_
          intro _ hw'
          obtain ⟨⟨dq, osq⟩, hw''⟩ := hw'
          subst hw''
          clear rr0 rr1 rr2 rr3 rx0 rx1 rx2
          have hb2 := below_regrown wr dq osq
          obtain ⟨w2, hw2⟩ : ∃ w2, w2 = grow (redrawn wr dq) osq := ⟨_, rfl⟩
          rw [← hw2] at hb2 ⊢
          clear hw2
          have hz2 : w.heap.size < w2.heap.size := Nat.lt_of_lt_of_le hz hb2.size
          have hz3 : w.heap.size + 1 < w2.heap.size := Nat.lt_of_lt_of_le hz1 hb2.size
          have c0 := (hb2.cell (p := ⟨w.heap.size, 0, none⟩) hz).trans c0
          have c1 := (hb2.cell (p := ⟨w.heap.size, 1, none⟩) hz).trans c1
          have f0 := (hb2.frozen (p := ⟨w.heap.size, 0, none⟩) hz).trans f0
          have f1 := (hb2.frozen (p := ⟨w.heap.size, 1, none⟩) hz).trans f1
          have p0 := (hb2.cell (p := ⟨w.heap.size + 1, 0, none⟩) hz1).trans p0
          have p1 := (hb2.cell (p := ⟨w.heap.size + 1, 1, none⟩) hz1).trans p1
          have p2 := (hb2.cell (p := ⟨w.heap.size + 1, 2, none⟩) hz1).trans p2
          have p3 := (hb2.cell (p := ⟨w.heap.size + 1, 3, none⟩) hz1).trans p3
          have z0 := (hb2.frozen (p := ⟨w.heap.size + 1, 0, none⟩) hz1).trans z0
          have z1 := (hb2.frozen (p := ⟨w.heap.size + 1, 1, none⟩) hz1).trans z1
          have z2 := (hb2.frozen (p := ⟨w.heap.size + 1, 2, none⟩) hz1).trans z2
          have z3 := (hb2.frozen (p := ⟨w.heap.size + 1, 3, none⟩) hz1).trans z3
          have x0 := (hb2.cell (p := ⟨b, o + j * 3, none⟩) (Nat.lt_of_lt_of_le hbl hbw.size)).trans x0
          have hbl2 : b < w2.heap.size := Nat.lt_of_lt_of_le hbl (Nat.le_trans hbw.size hb2.size)
          have hbw2 : Below w.heap.size w w2 := hbw.trans (hb2.mono hbw.size)
          go_wp2
          refine bodyPost_ret (v := .agg #[.int .i64 q, .int .i64 j]) (by simp [results, Tryz.results7, go_sem, c0, c1]) rfl ⟨by rw [HX.out], by (repeat (first | with_reducible exact Below.refl _ _ | with_reducible assumption | with_reducible refine bl_set (by first | exact Nat.le_refl _ | (simp; done) | (simp; omega) | omega) ?_ _ | with_reducible refine bl_alloc ?_ _ | with_reducible refine bl_drewN ?_ _ | with_reducible refine bl_drew ?_ | with_reducible refine bl_grow ?_ _ _ | with_reducible refine bl_call ?_ (by assumption)))⟩
        · have hq0 : q = 0 := by omega
          have HX : Hid (R = Stil.sureFrom (Stil.next s x.code) (j + 1) (l.drop (j + 1))) := by show _ = _; rw [HS.out, if_neg hpos]
          have HG2 : Hid (Stil.next s x.code).good := (HGN.out hq0).1
          have HN2 : Hid (∀ W, Calls Tryz.prog 17 #[.agg #[.int .i64 s.bits, .int .i64 s.forks, .bool s.seen, .bool s.coil], .int .i64 x.code] W fun e w' => e = .returned (.agg #[.int .i64 (Stil.next s x.code).bits, .int .i64 (Stil.next s x.code).forks, .bool (Stil.next s x.code).seen, .bool (Stil.next s x.code).coil]) ∧ Below W.heap.size W w') := HNX.out hq0
          subst hq0
          clear HS HGN HNX hpos hbd
          go_wp2
          refine wp_region_quiet_below (by kernel_rfl) (by kernel_rfl) ?_
          repeat (go_big_quiet_step ((exact Calls.regrown_of (HI.out _ (by (repeat (first | exact Below.refl _ _ | assumption | refine bl_alloc ?_ _ | refine bl_drewN ?_ _ | refine bl_drew ?_ | refine bl_grow ?_ _ _ | refine bl_set (Nat.le_refl _) ?_ _ | refine bl_call ?_ (by assumption))))))))
          refine wpQuiet_nil ?_
          intro _ hw'
          obtain ⟨⟨dq, osq⟩, hw''⟩ := hw'
          subst hw''
          clear rr0 rr1 rr2 rr3 rx0 rx1 rx2
          have hb2 := below_regrown wr dq osq
          obtain ⟨w2, hw2⟩ : ∃ w2, w2 = grow (redrawn wr dq) osq := ⟨_, rfl⟩
          rw [← hw2] at hb2 ⊢
          clear hw2
          have hz2 : w.heap.size < w2.heap.size := Nat.lt_of_lt_of_le hz hb2.size
          have hz3 : w.heap.size + 1 < w2.heap.size := Nat.lt_of_lt_of_le hz1 hb2.size
          have c0 := (hb2.cell (p := ⟨w.heap.size, 0, none⟩) hz).trans c0
          have c1 := (hb2.cell (p := ⟨w.heap.size, 1, none⟩) hz).trans c1
          have f0 := (hb2.frozen (p := ⟨w.heap.size, 0, none⟩) hz).trans f0
          have f1 := (hb2.frozen (p := ⟨w.heap.size, 1, none⟩) hz).trans f1
          have p0 := (hb2.cell (p := ⟨w.heap.size + 1, 0, none⟩) hz1).trans p0
          have p1 := (hb2.cell (p := ⟨w.heap.size + 1, 1, none⟩) hz1).trans p1
          have p2 := (hb2.cell (p := ⟨w.heap.size + 1, 2, none⟩) hz1).trans p2
          have p3 := (hb2.cell (p := ⟨w.heap.size + 1, 3, none⟩) hz1).trans p3
          have z0 := (hb2.frozen (p := ⟨w.heap.size + 1, 0, none⟩) hz1).trans z0
          have z1 := (hb2.frozen (p := ⟨w.heap.size + 1, 1, none⟩) hz1).trans z1
          have z2 := (hb2.frozen (p := ⟨w.heap.size + 1, 2, none⟩) hz1).trans z2
          have z3 := (hb2.frozen (p := ⟨w.heap.size + 1, 3, none⟩) hz1).trans z3
          have x0 := (hb2.cell (p := ⟨b, o + j * 3, none⟩) (Nat.lt_of_lt_of_le hbl hbw.size)).trans x0
          have hbl2 : b < w2.heap.size := Nat.lt_of_lt_of_le hbl (Nat.le_trans hbw.size hb2.size)
          have hbw2 : Below w.heap.size w w2 := hbw.trans (hb2.mono hbw.size)
          go_wp2
          go_region_with (go_at_call 17; refine (HN2.out _).mono ?_; rintro e w3 ⟨rfl, hb3⟩; have pt3 : PtAt w3 (w.heap.size + 1) s := PtAt.below ⟨hz3, p0, p1, p2, p3, z0, z1, z2, z3⟩ (by (repeat (first | exact Below.refl _ _ | assumption | refine bl_alloc ?_ _ | refine bl_drewN ?_ _ | refine bl_drew ?_ | refine bl_grow ?_ _ _ | refine bl_set (Nat.le_refl _) ?_ _ | refine bl_call ?_ (by assumption)))); obtain ⟨hz4, g0, g1, g2, g3, y0, y1, y2, y3⟩ := pt3)
          all_goals try go_wp2
          all_goals (
            have hB3 : Below (w.heap.size + 1) (w.alloc (.cells #[.int .i64 0, .int .i64 0] 26)) w3 := (hB.trans (hb2.mono (by omega))).trans ((((Below.refl w2.heap.size w2).drew).trans hb3).mono (by omega))
            exact ⟨⟨j + 1, Stil.next s x.code, by omega, by go_num, HG2.out, HX.out, PtAt.stored ⟨hz4, g0, g1, g2, g3, y0, y1, y2, y3⟩ _, (((hB3.setCell (Nat.le_refl _) _).setCell (Nat.le_refl _) _).setCell (Nat.le_refl _) _).setCell (Nat.le_refl _) _⟩, by simp [intOf]; omega⟩)
      · have HX : Hid (R = if 0 < s.bits then (9, j) else (0, 0)) := by show _ = _; rw [HP.out, Stil.sureFrom_end l s j (by have := HLN.out; omega)]
        obtain rfl : j = ln := by omega
        clear HP
        by_cases hb0 : 0 < s.bits
        · have HX2 : Hid (R = (9, j)) := by show _ = _; rw [HX.out, if_pos hb0]
          clear HX
          go_wp2
          refine bodyPost_ret (v := .agg #[.int .i64 9, .int .i64 j]) (by simp [results, Tryz.results7, go_sem, c0, c1]) rfl ⟨by rw [HX2.out], by (repeat (first | with_reducible exact Below.refl _ _ | with_reducible assumption | with_reducible refine bl_set (by first | exact Nat.le_refl _ | (simp; done) | (simp; omega) | omega) ?_ _ | with_reducible refine bl_alloc ?_ _ | with_reducible refine bl_drewN ?_ _ | with_reducible refine bl_drew ?_ | with_reducible refine bl_grow ?_ _ _ | with_reducible refine bl_call ?_ (by assumption)))⟩
        · have HX2 : Hid (R = (0, 0)) := by show _ = _; rw [HX.out, if_neg hb0]
          clear HX
          go_wp2
          refine bodyPost_ret (v := .agg #[.int .i64 0, .int .i64 0]) (by simp [results, Tryz.results7, go_sem, c0, c1]) rfl ⟨by rw [HX2.out]; rfl, by (repeat (first | with_reducible exact Below.refl _ _ | with_reducible assumption | with_reducible refine bl_set (by first | exact Nat.le_refl _ | (simp; done) | (simp; omega) | omega) ?_ _ | with_reducible refine bl_alloc ?_ _ | with_reducible refine bl_drewN ?_ _ | with_reducible refine bl_drew ?_ | with_reducible refine bl_grow ?_ _ _ | with_reducible refine bl_call ?_ (by assumption)))⟩
end Go.Proofs.YtbfkfdbkjbgneaaGreatDoor
