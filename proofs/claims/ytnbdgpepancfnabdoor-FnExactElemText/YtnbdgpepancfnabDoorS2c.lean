/- Contracts of the specification's chapter 2, third part: ElemIsContact whole, l2Calc. -/
import Derived.Test.YtnbdgpepancfnabDoorS2b
import Derived.Test.YtnbdgpepancfnabDoorM2c
namespace Go.Proofs.YtnbdgpepancfnabDoor
open Go.RowKit Go.Sort Go.BigFrame
theorem s_isContact (op : Int) (v : Value) (ds : List Stil.Dev) (w : World) (hat : DevsAt w v ds) (hfit : ∀ d ∈ ds, d.fits) (hl : ds.length ≤ 9223372036854775807) :
    Calls Tryd.prog 24 #[.agg #[.int .i64 op, v]] w fun e w' => e = .returned (.bool (Stil.isContact op ds)) ∧ Below w.heap.size w w' := by
  have hno : ∀ (h : op < 1 ∨ 10 < op ∨ (ds.length : Int) ≠ Stil.arity op), Stil.isContact op ds = false → Calls Tryd.prog 24 #[.agg #[.int .i64 op, v]] w fun e w' => e = .returned (.bool (Stil.isContact op ds)) ∧ Below w.heap.size w w' := by
    intro h he
    obtain ⟨a, cap, rfl, _⟩ := hat
    rw [he]
    exact s_isContact_no op a ds.length cap w h hl
  by_cases h1 : op < 1 ∨ 10 < op
  · exact hno (by omega) (by unfold Stil.isContact; rw [if_pos h1])
  · by_cases h2 : op ≤ 2
    · have ha : Stil.arity op = 1 := by unfold Stil.arity; rw [if_pos (by omega)]
      match ds, hat, hfit, hl, hno with
      | [], _, _, _, hno => exact hno (by right; right; simp [ha]) (by unfold Stil.isContact; rw [if_neg h1])
      | [d], hat, hfit, _, _ =>
        obtain ⟨b, o, cap, rfl, hlt, hd⟩ := hat.one
        have := (hfit d (by simp)).2.1
        have e : Stil.isContact op [d] = d.isBit := by unfold Stil.isContact; rw [if_neg h1]; simp [h2]
        rw [e]
        exact s_isContact_one op b o cap d w (by omega) h2 hlt hd this.1 this.2
      | [d, f], _, _, _, hno => exact hno (by right; right; simp [ha]) (by unfold Stil.isContact; rw [if_neg h1]; simp [h2])
      | d :: f :: g :: r, _, _, _, hno => exact hno (by right; right; simp [ha]; omega) (by unfold Stil.isContact; rw [if_neg h1])
    · have ha : Stil.arity op = 2 := by unfold Stil.arity; rw [if_neg (by omega), if_neg (by omega), if_pos (by omega)]
      match ds, hat, hfit, hl, hno with
      | [], _, _, _, hno => exact hno (by right; right; simp [ha]) (by unfold Stil.isContact; rw [if_neg h1])
      | [d], _, _, _, hno => exact hno (by right; right; simp [ha]) (by unfold Stil.isContact; rw [if_neg h1]; simp [h2])
      | [d, f], hat, hfit, _, _ =>
        obtain ⟨b, o, cap, rfl, hlt, hd, hd2⟩ := hat.two
        have k1 := (hfit d (by simp)).2.1
        have k2 := (hfit f (by simp)).2.1
        by_cases h4 : op ≤ 4
        · have e : Stil.isContact op [d, f] = (d.isBit && f.ok && f.kind == 5) := by unfold Stil.isContact; rw [if_neg h1]; simp [h2, h4]
          rw [e]
          exact s_isContact_up op b o cap d f w (by omega) h4 hlt hd hd2 k1.1 k1.2 k2.1 k2.2
        · have e : Stil.isContact op [d, f] = (d.isWhole && f.isWhole || d.isReal && f.isReal) := by unfold Stil.isContact; rw [if_neg h1]; simp [h2, h4]
          rw [e]
          exact s_isContact_cmp op b o cap d f w (by omega) (by omega) hlt hd hd2 k1.1 k1.2 k2.1 k2.2
      | d :: f :: g :: r, _, _, _, hno => exact hno (by right; right; simp [ha]; omega) (by unfold Stil.isContact; rw [if_neg h1])
set_option maxHeartbeats 1000000 in
set_option maxRecDepth 100000 in
theorem s_calc (op : Int) (b o cap : Nat) (d : Stil.Dev) (r : List Stil.Dev) (w : World) (hlt : b < w.heap.size) (hl : r.length ≤ 100)
    (hat : ∀ i (h : i < (d :: r).length), DevAt w b (o + i * 3) (d :: r)[i]) (hfit : ∀ x ∈ d :: r, x.fits) :
    Calls Tryd.prog 17 #[.agg #[.int .i64 op, .slice (some ⟨b, o, none⟩) (r.length + 1) cap]] w fun e w' => e = .returned (.bool (Stil.calcB op (d :: r))) ∧ Below w.heap.size w w' := by
  have hlt1 : b < w.heap.size + 1 := by omega
  obtain ⟨c0, c1, c2⟩ := hat 0 (by simp)
  simp only [Nat.zero_mul, Nat.add_zero, List.getElem_cons_zero] at c0 c1 c2
  obtain ⟨hn1, hn2⟩ := (hfit d (by simp)).2.1
  cases g1 : Stil.kindB d.kind d.n d.p 9 10
  · have HD : Hid (Stil.calcB op (d :: r) = false) := by show _ = _; simp only [Stil.calcB, Stil.Dev.kindIs, g1]; rfl
    clear hat hfit
    go_enter Tryd.func17, Tryd.ntmps17
    go_wp2_with (first | (go_at_call 14; refine (s_kind _ _ _ _ _ _ hn1 hn2).mono ?_; rintro e w1 ⟨rfl, hb⟩; obtain ⟨hc, hf⟩ := bcell hb; have hz0 : w.heap.size < w1.heap.size := Nat.lt_of_lt_of_le (by first | assumption | (simp; done) | (simp; omega)) hb.size; have hz1 : b < w1.heap.size := Nat.lt_of_lt_of_le (by first | assumption | (simp; done) | (simp; omega)) hb.size))
    go_ret
    exact ⟨ret_bool (by rw [HD.out]), by (repeat (first | exact Below.refl _ _ | assumption | refine bl_alloc ?_ _ | refine bl_drewN ?_ _ | refine bl_drew ?_ | refine bl_grow ?_ _ _ | refine bl_set (Nat.le_refl _) ?_ _ | refine bl_call ?_ (by assumption)))⟩
  · cases g2 : d.kind == 9
    · have HD : Hid (Stil.calcB op (d :: r) = (Stil.calcRest false r && (op != 35))) := by show _ = _; simp only [Stil.calcB, Stil.Dev.kindIs, g1, g2]; simp
      have HA : Hid (∀ i (h : i < (d :: r).length), DevAt w b (o + i * 3) (d :: r)[i]) := hat
      have HF : Hid (∀ x ∈ d :: r, x.fits) := hfit
      clear hat hfit
      go_enter Tryd.func17, Tryd.ntmps17
      go_wp2_with (first | (go_at_call 14; refine (s_kind _ _ _ _ _ _ hn1 hn2).mono ?_; rintro e w1 ⟨rfl, hb⟩; obtain ⟨hc, hf⟩ := bcell hb; have hz0 : w.heap.size < w1.heap.size := Nat.lt_of_lt_of_le (by first | assumption | (simp; done) | (simp; omega)) hb.size; have hz1 : b < w1.heap.size := Nat.lt_of_lt_of_le (by first | assumption | (simp; done) | (simp; omega)) hb.size))
      clear hc hf hz0 hz1
      go_loopw [4] (fun i wr => ∃ k : Nat, k ≤ r.length ∧ i = .int .i64 ((k : Int) + 1) ∧ Stil.calcRest false r = Stil.calcRest false (r.drop k) ∧ Below (w.heap.size + 1) (w.alloc (.cells #[.int .i64 op, .slice (some ⟨b, o, none⟩) (r.length + 1) cap] 29)) wr) (fun i _ => r.length + 1 - (intOf i).toNat)
      case atStart => exact ⟨0, by omega, rfl, rfl, hb.mono (by simp)⟩
      case round =>
        clear hb
        obtain ⟨k, hk, rfl, hcr, hB⟩ := hrel
        have HC : Hid (Stil.calcRest false r = Stil.calcRest false (r.drop k)) := hcr
        clear hcr c0 c1 c2
        have hz : w.heap.size < wr.heap.size := by have := hB.size; simp at this; omega
        have c0 : wr.cell? ⟨w.heap.size, 0, none⟩ = some (.int .i64 op) := by rw [hB.cell (p := ⟨w.heap.size, 0, none⟩) (by simp)]; simp [go_sem]
        have f0 : wr.frozen? ⟨w.heap.size, 0, none⟩ = false := by rw [hB.frozen (p := ⟨w.heap.size, 0, none⟩) (by simp)]; simp [go_sem]
        have c1 : wr.cell? ⟨w.heap.size, 1, none⟩ = some (.slice (some ⟨b, o, none⟩) (r.length + 1) cap) := by rw [hB.cell (p := ⟨w.heap.size, 1, none⟩) (by simp)]; simp [go_sem]
        have f1 : wr.frozen? ⟨w.heap.size, 1, none⟩ = false := by rw [hB.frozen (p := ⟨w.heap.size, 1, none⟩) (by simp)]; simp [go_sem]
        have hbw : Below w.heap.size w wr := (below_alloc _ _).trans (hB.mono (by omega))
        have hz1 : b < wr.heap.size := lt_below hlt hbw
        by_cases hkl : k < r.length
        · obtain ⟨x0, x1, x2⟩ := (HA.out (k + 1) (by simp; omega)).below hbw hlt
          simp only [List.getElem_cons_succ] at x0 x1 x2
          obtain ⟨hm1, hm2⟩ := (HF.out r[k] (by simp)).2.1
          have HR : Hid (Stil.calcRest false (r.drop k) = (Stil.devIsRealB r[k].kind r[k].n r[k].p && Stil.calcRest false (r.drop (k + 1)))) := by
            show (r.drop k).all _ = _
            rw [List.drop_eq_getElem_cons hkl, List.all_cons]; rfl
          obtain ⟨x, hx⟩ : ∃ x, x = r[k] := ⟨_, rfl⟩
          rw [← hx] at x0 x1 x2 hm1 hm2 HR
          clear hx
          cases g3 : Stil.devIsRealB x.kind x.n x.p
          · rw [g3] at HR
            go_wp2_with (first | (go_at_call 16; refine (s_devIsReal _ _ _ _ hm1 hm2).mono ?_; rintro e w2 ⟨rfl, hb⟩; obtain ⟨hc, hf⟩ := bcell hb; have hz0 : w.heap.size < w2.heap.size := Nat.lt_of_lt_of_le (by first | assumption | (simp; done) | (simp; omega)) hb.size; have hz1 : b < w2.heap.size := Nat.lt_of_lt_of_le (by first | assumption | (simp; done) | (simp; omega)) hb.size))
            go_ret
            exact ⟨ret_bool (by rw [HD.out, HC.out, HR.out]; rfl), by (repeat (first | exact Below.refl _ _ | assumption | refine bl_alloc ?_ _ | refine bl_drewN ?_ _ | refine bl_drew ?_ | refine bl_grow ?_ _ _ | refine bl_set (Nat.le_refl _) ?_ _ | refine bl_call ?_ (by assumption)))⟩
          · rw [g3] at HR
            go_wp2_with (first | (go_at_call 16; refine (s_devIsReal _ _ _ _ hm1 hm2).mono ?_; rintro e w2 ⟨rfl, hb⟩; obtain ⟨hc, hf⟩ := bcell hb; have hz0 : w.heap.size < w2.heap.size := Nat.lt_of_lt_of_le (by first | assumption | (simp; done) | (simp; omega)) hb.size; have hz1 : b < w2.heap.size := Nat.lt_of_lt_of_le (by first | assumption | (simp; done) | (simp; omega)) hb.size))
            refine ⟨⟨k + 1, by omega, by go_num, by rw [HC.out, HR.out]; rfl, ?_⟩, by simp [intOf]; omega⟩
            exact hB.trans (hb.mono hz)
        · go_wp2
          go_ret
          exact ⟨ret_bool (by rw [HD.out, HC.out, List.drop_of_length_le (by omega)]; rfl), by (repeat (first | exact Below.refl _ _ | assumption | refine bl_alloc ?_ _ | refine bl_drewN ?_ _ | refine bl_drew ?_ | refine bl_grow ?_ _ _ | refine bl_set (Nat.le_refl _) ?_ _ | refine bl_call ?_ (by assumption)))⟩
    · have HD : Hid (Stil.calcB op (d :: r) = Stil.calcRest true r) := by show _ = _; simp only [Stil.calcB, Stil.Dev.kindIs, g1, g2]; simp
      have HA : Hid (∀ i (h : i < (d :: r).length), DevAt w b (o + i * 3) (d :: r)[i]) := hat
      have HF : Hid (∀ x ∈ d :: r, x.fits) := hfit
      clear hat hfit
      go_enter Tryd.func17, Tryd.ntmps17
      go_wp2_with (first | (go_at_call 14; refine (s_kind _ _ _ _ _ _ hn1 hn2).mono ?_; rintro e w1 ⟨rfl, hb⟩; obtain ⟨hc, hf⟩ := bcell hb; have hz0 : w.heap.size < w1.heap.size := Nat.lt_of_lt_of_le (by first | assumption | (simp; done) | (simp; omega)) hb.size; have hz1 : b < w1.heap.size := Nat.lt_of_lt_of_le (by first | assumption | (simp; done) | (simp; omega)) hb.size))
      clear hc hf hz0 hz1
      go_loopw [4] (fun i wr => ∃ k : Nat, k ≤ r.length ∧ i = .int .i64 ((k : Int) + 1) ∧ Stil.calcRest true r = Stil.calcRest true (r.drop k) ∧ Below (w.heap.size + 1) (w.alloc (.cells #[.int .i64 op, .slice (some ⟨b, o, none⟩) (r.length + 1) cap] 29)) wr) (fun i _ => r.length + 1 - (intOf i).toNat)
      case atStart => exact ⟨0, by omega, rfl, rfl, hb.mono (by simp)⟩
      case round =>
        clear hb
        obtain ⟨k, hk, rfl, hcr, hB⟩ := hrel
        have HC : Hid (Stil.calcRest true r = Stil.calcRest true (r.drop k)) := hcr
        clear hcr c0 c1 c2
        have hz : w.heap.size < wr.heap.size := by have := hB.size; simp at this; omega
        have c0 : wr.cell? ⟨w.heap.size, 0, none⟩ = some (.int .i64 op) := by rw [hB.cell (p := ⟨w.heap.size, 0, none⟩) (by simp)]; simp [go_sem]
        have f0 : wr.frozen? ⟨w.heap.size, 0, none⟩ = false := by rw [hB.frozen (p := ⟨w.heap.size, 0, none⟩) (by simp)]; simp [go_sem]
        have c1 : wr.cell? ⟨w.heap.size, 1, none⟩ = some (.slice (some ⟨b, o, none⟩) (r.length + 1) cap) := by rw [hB.cell (p := ⟨w.heap.size, 1, none⟩) (by simp)]; simp [go_sem]
        have f1 : wr.frozen? ⟨w.heap.size, 1, none⟩ = false := by rw [hB.frozen (p := ⟨w.heap.size, 1, none⟩) (by simp)]; simp [go_sem]
        have hbw : Below w.heap.size w wr := (below_alloc _ _).trans (hB.mono (by omega))
        have hz1 : b < wr.heap.size := lt_below hlt hbw
        by_cases hkl : k < r.length
        · obtain ⟨x0, x1, x2⟩ := (HA.out (k + 1) (by simp; omega)).below hbw hlt
          simp only [List.getElem_cons_succ] at x0 x1 x2
          obtain ⟨hm1, hm2⟩ := (HF.out r[k] (by simp)).2.1
          have HR : Hid (Stil.calcRest true (r.drop k) = (Stil.devIsWholeB r[k].kind r[k].n r[k].p && Stil.calcRest true (r.drop (k + 1)))) := by
            show (r.drop k).all _ = _
            rw [List.drop_eq_getElem_cons hkl, List.all_cons]; rfl
          obtain ⟨x, hx⟩ : ∃ x, x = r[k] := ⟨_, rfl⟩
          rw [← hx] at x0 x1 x2 hm1 hm2 HR
          clear hx
          cases g3 : Stil.devIsWholeB x.kind x.n x.p
          · rw [g3] at HR
            go_wp2_with (first | (go_at_call 15; refine (s_devIsWhole _ _ _ _ hm1 hm2).mono ?_; rintro e w2 ⟨rfl, hb⟩; obtain ⟨hc, hf⟩ := bcell hb; have hz0 : w.heap.size < w2.heap.size := Nat.lt_of_lt_of_le (by first | assumption | (simp; done) | (simp; omega)) hb.size; have hz1 : b < w2.heap.size := Nat.lt_of_lt_of_le (by first | assumption | (simp; done) | (simp; omega)) hb.size))
            go_ret
            exact ⟨ret_bool (by rw [HD.out, HC.out, HR.out]; rfl), by (repeat (first | exact Below.refl _ _ | assumption | refine bl_alloc ?_ _ | refine bl_drewN ?_ _ | refine bl_drew ?_ | refine bl_grow ?_ _ _ | refine bl_set (Nat.le_refl _) ?_ _ | refine bl_call ?_ (by assumption)))⟩
          · rw [g3] at HR
            go_wp2_with (first | (go_at_call 15; refine (s_devIsWhole _ _ _ _ hm1 hm2).mono ?_; rintro e w2 ⟨rfl, hb⟩; obtain ⟨hc, hf⟩ := bcell hb; have hz0 : w.heap.size < w2.heap.size := Nat.lt_of_lt_of_le (by first | assumption | (simp; done) | (simp; omega)) hb.size; have hz1 : b < w2.heap.size := Nat.lt_of_lt_of_le (by first | assumption | (simp; done) | (simp; omega)) hb.size))
            refine ⟨⟨k + 1, by omega, by go_num, by rw [HC.out, HR.out]; rfl, ?_⟩, by simp [intOf]; omega⟩
            exact hB.trans (hb.mono hz)
        · go_wp2
          go_ret
          exact ⟨ret_bool (by rw [HD.out, HC.out, List.drop_of_length_le (by omega)]; rfl), by (repeat (first | exact Below.refl _ _ | assumption | refine bl_alloc ?_ _ | refine bl_drewN ?_ _ | refine bl_drew ?_ | refine bl_grow ?_ _ _ | refine bl_set (Nat.le_refl _) ?_ _ | refine bl_call ?_ (by assumption)))⟩
end Go.Proofs.YtnbdgpepancfnabDoor
