/- The laws' own definition of what is verified: wsHolds. -/
import Derived.Test.YtbfkfdbkjbgneaaGreatDoorHn
import Derived.Test.YtbfkfdbkjbgneaaGreatDoorHh
import Derived.Test.YtbfkfdbkjbgneaaGreatDoorS7
namespace Go.Proofs.YtbfkfdbkjbgneaaGreatDoor
open Go.RowKit Go.Sort Go.BigFrame
set_option maxHeartbeats 4000000 in
set_option maxRecDepth 100000 in
theorem l_wsHolds (l : List Stil.Inst) (v : Value) (w : World) (hv : InstsAt w v l) (hl : l.length ≤ 1048576) (hft : ∀ x ∈ l, x.fits) :
    Calls Tryz.prog 8 #[v] w fun e w' => e = .returned (.bool (Stil.wsHolds l)) ∧ Below w.heap.size w w' := by
  have HV : Hid (∀ W, Below w.heap.size w W → InstsAt W v l) := fun W h => hv.below h
  have HFT : Hid (∀ x ∈ l, x.fits) := hft
  obtain ⟨a0, c0, rfl, -⟩ := hv
  obtain ⟨t, ht⟩ : ∃ t, t = Stil.sureTrace l := ⟨_, rfl⟩
  have HTR : Hid (∀ W, Below w.heap.size w W → Calls Tryz.prog 18 #[.slice a0 l.length c0] W fun e w' => ∃ (a : Option Addr) (c : Nat), e = .returned (.slice a t.length c) ∧ StsAt W.heap.size w' (.slice a t.length c) t ∧ Below W.heap.size W w') := fun W h => (i_sureTrace l _ W (HV.out W h) hl).mono fun e w' ⟨a, c, h1, h2, h3⟩ => by
    rw [← ht] at h1 h2
    exact ⟨a, c, h1, sts_of_own h2, h3⟩
  clear hft
  by_cases hbig : 1000 < l.length
  · have HW : Hid (Stil.wsHolds l = false) := by
      show _ = _
      unfold Stil.wsHolds
      rw [decide_eq_false (by omega)]
      rfl
    rw [HW.out]
    have hd : decide (1000 < (l.length : Int)) = true := by simp; omega
    clear ht HW
    go_enter Tryz.func8, Tryz.ntmps8
    go_wp2_with (go_at_call 18; refine (HTR.out _ (by (repeat (first | with_reducible exact Below.refl _ _ | with_reducible assumption | with_reducible refine bl_set (by first | exact Nat.le_refl _ | (simp; done) | (simp; omega) | omega) ?_ _ | with_reducible refine bl_alloc ?_ _ | with_reducible refine bl_drewN ?_ _ | with_reducible refine bl_drew ?_ | with_reducible refine bl_grow ?_ _ _ | with_reducible refine bl_call ?_ (by assumption))))).mono ?_; rintro e w3 ⟨a, c, rfl, hst, hb3⟩; clear hst)
    go_ret
    exact ⟨rfl, by (repeat (first | with_reducible exact Below.refl _ _ | with_reducible assumption | with_reducible refine bl_set (by first | exact Nat.le_refl _ | (simp; done) | (simp; omega) | omega) ?_ _ | with_reducible refine bl_alloc ?_ _ | with_reducible refine bl_drewN ?_ _ | with_reducible refine bl_drew ?_ | with_reducible refine bl_grow ?_ _ _ | with_reducible refine bl_call ?_ (by assumption)))⟩
  have hl1 : l.length ≤ 1000 := by omega
  have hd : decide (1000 < (l.length : Int)) = false := by simp; omega
  have hte : t = Stil.traceFrom (0, 0) l := by rw [ht]; exact if_neg hbig
  have htl : t.length = l.length := by rw [hte]; exact Stil.traceFrom_len l (0, 0)
  have HTA : Hid (∀ j (h : j < t.length) (h2 : j < l.length), t[j] = Stil.step (Stil.stFrom (0, 0) l j) l[j].code) := by
    intro j h h2
    subst hte
    exact Stil.trace_at h h2
  obtain ⟨R, hR⟩ : ∃ R, R = Stil.wsHolds l := ⟨_, rfl⟩
  have HR0 : Hid (R = Stil.holdsFrom (0, 0) false false l) := by
    show _ = _
    rw [hR]
    unfold Stil.wsHolds
    rw [decide_eq_true hl1, Bool.true_and]
  rw [← hR]
  rw [htl] at HTR
  have HTL : Hid (t.length = l.length) := htl
  clear ht hte hR hbig htl
  go_enter Tryz.func8, Tryz.ntmps8
  go_wp2_with (go_at_call 18; refine (HTR.out _ (by (repeat (first | with_reducible exact Below.refl _ _ | with_reducible assumption | with_reducible refine bl_set (by first | exact Nat.le_refl _ | (simp; done) | (simp; omega) | omega) ?_ _ | with_reducible refine bl_alloc ?_ _ | with_reducible refine bl_drewN ?_ _ | with_reducible refine bl_drew ?_ | with_reducible refine bl_grow ?_ _ _ | with_reducible refine bl_call ?_ (by assumption))))).mono ?_; rintro e w1 ⟨at1, ct1, rfl, hst1, hb1⟩)
  have HST1 : Hid (∀ W, Below w1.heap.size w1 W → StsAt w.heap.size W (.slice at1 l.length ct1) t) := fun W h => hst1.below h
  have hB1 : Below w.heap.size w w1 := by (repeat (first | with_reducible exact Below.refl _ _ | with_reducible assumption | with_reducible refine bl_set (by first | exact Nat.le_refl _ | (simp; done) | (simp; omega) | omega) ?_ _ | with_reducible refine bl_alloc ?_ _ | with_reducible refine bl_drewN ?_ _ | with_reducible refine bl_drew ?_ | with_reducible refine bl_grow ?_ _ _ | with_reducible refine bl_call ?_ (by assumption)))
  have HV1 : Hid (∀ W, Below w1.heap.size w1 W → InstsAt W (.slice a0 l.length c0) l) := fun W h => HV.out W (hB1.trans (h.mono hB1.size))
  have HFIN : Hid (∀ W, Below w1.heap.size w1 W → Below w.heap.size w W) := fun W h => hB1.trans (h.mono hB1.size)
  obtain ⟨bx, hbx⟩ : ∃ bx, bx = w1.heap.size := ⟨_, rfl⟩
  have HBX0 : Hid (StBox (w1.alloc (Obj.cells #[Value.int IntKind.i64 0, Value.int IntKind.i64 0] 48)) bx (0, 0)) := by
    rw [hbx]
    exact ⟨by simp, by simp [go_sem], by simp [go_sem], by simp [go_sem], by simp [go_sem]⟩
  rw [← hbx]
  have hbx1 : w1.heap.size ≤ bx := by omega
  clear hst1 hb1 HV HTR hB1 hbx
  go_loopw [5, 6] (fun s i wr => ∃ (j : Nat) (seen : Bool), j ≤ l.length ∧ i = .int .i64 (j : Int) ∧ s = .bool seen ∧ StBox wr bx (Stil.stFrom (0, 0) l j) ∧ Below w1.heap.size w1 wr ∧ R = Stil.holdsFrom (Stil.stFrom (0, 0) l j) seen (Stil.coilAt l j) (l.drop j)) (fun _ i _ => l.length - (intOf i).toNat)
  case atStart => exact ⟨0, false, Nat.zero_le _, rfl, rfl, by rw [Stil.stFrom_zero]; exact HBX0.out, below_alloc _ _, by rw [Stil.stFrom_zero]; exact HR0.out⟩
  case round =>
    clear HBX0 HR0
    obtain ⟨j, seen, hj, rfl, rfl, hbox, hB, hRj⟩ := hrel
    by_cases hlt : j < l.length
    case neg =>
      obtain rfl : j = l.length := by omega
      obtain ⟨⟨B, F⟩, hs⟩ : ∃ s, s = Stil.stFrom (0, 0) l l.length := ⟨_, rfl⟩
      rw [← hs, List.drop_length] at hRj
      rw [← hs] at hbox
      have HRE : Hid (R = (B == 0 && F == 0)) := hRj
      obtain ⟨hz, b0, b1, p0, p1⟩ := hbox
      simp only at b0 b1
      clear hs hRj
      by_cases hb0 : B = 0
      · subst hb0
        go_wp2
        go_ret
        exact ⟨by rw [HRE.out]; simp, HFIN.out _ (by (repeat (first | with_reducible exact Below.refl _ _ | with_reducible assumption | with_reducible refine bl_set (by first | exact Nat.le_refl _ | (simp; done) | (simp; omega) | omega) ?_ _ | with_reducible refine bl_alloc ?_ _ | with_reducible refine bl_drewN ?_ _ | with_reducible refine bl_drew ?_ | with_reducible refine bl_grow ?_ _ _ | with_reducible refine bl_call ?_ (by assumption))))⟩
      · have hb1 : (B == 0) = false := beq_eq_false_iff_ne.2 hb0
        go_wp2
        go_ret
        exact ⟨by rw [HRE.out]; simp [hb1], HFIN.out _ (by (repeat (first | with_reducible exact Below.refl _ _ | with_reducible assumption | with_reducible refine bl_set (by first | exact Nat.le_refl _ | (simp; done) | (simp; omega) | omega) ?_ _ | with_reducible refine bl_alloc ?_ _ | with_reducible refine bl_drewN ?_ _ | with_reducible refine bl_drew ?_ | with_reducible refine bl_grow ?_ _ _ | with_reducible refine bl_call ?_ (by assumption))))⟩
    have HR : Hid (R = (Stil.fineAt (Stil.stFrom (0, 0) l j) seen (Stil.coilAt l j) l[j] && Stil.holdsFrom (Stil.step (Stil.stFrom (0, 0) l j) l[j].code) (Stil.e26 seen l[j].code) (l[j].code == 10) (l.drop (j + 1)))) := hRj.trans (Stil.holds_at hlt _ _ _)
    have HSU : Hid (Stil.stFrom (0, 0) l (j + 1) = Stil.step (Stil.stFrom (0, 0) l j) l[j].code) := Stil.stFrom_succ l (0, 0) j hlt
    have HCO : Hid (Stil.coilAt l (j + 1) = (l[j].code == 10)) := Stil.coilAt_succ hlt
    have HFP : Hid (Stil.fineAt (Stil.stFrom (0, 0) l j) seen (Stil.coilAt l j) l[j] = (!Stil.e11 (Stil.listOk l[j]) (Stil.step (Stil.stFrom (0, 0) l j) l[j].code) && !Stil.e13 l[j].code (Stil.stFrom (0, 0) l j).1 && !Stil.e15 l[j].code (Stil.stFrom (0, 0) l j).1 && !Stil.e17 seen l[j].code (Stil.stFrom (0, 0) l j).1 && !Stil.e19 l[j].code (Stil.stFrom (0, 0) l j).2 && !(Stil.e21 l[j].code && !Stil.coilAt l j) && !Stil.e24 l[j].code (Stil.step (Stil.stFrom (0, 0) l j) l[j].code))) := Stil.fine_parts _ _ _ _
    have htj : j < t.length := by have := HTL.out; omega
    have HTJ : Hid (t[j] = Stil.step (Stil.stFrom (0, 0) l j) l[j].code) := HTA.out j htj hlt
    -- the instruction ahead of this one
    have HPR : Hid (0 < j → ∃ pc : Int, Stil.coilAt l j = (pc == 10) ∧ ∀ W, Below w1.heap.size w1 W → ∃ b o, a0 = some ⟨b, o, none⟩ ∧ b < w1.heap.size ∧ W.cell? ⟨b, o + (j - 1) * 3, none⟩ = some (.int .i64 pc)) := by
      intro h0
      obtain ⟨i, rfl⟩ : ∃ i, j = i + 1 := ⟨j - 1, by omega⟩
      refine ⟨l[i].code, Stil.coilAt_succ (by omega), fun W h => ?_⟩
      obtain ⟨a', c', e', hat⟩ := HV1.out w1 (Below.refl _ _)
      cases e'
      obtain ⟨b, o, h1, h2, h3, -⟩ := hat i (by omega)
      exact ⟨b, o, h1, h2, by rw [h.cell (p := ⟨b, o + (i + 1 - 1) * 3, none⟩) h2]; exact h3⟩
    obtain ⟨a', c', e', hat⟩ := HV1.out w1 (Below.refl _ _)
    cases e'
    obtain ⟨b, o, rfl, hbl, x0, x1, av, x2, hav⟩ := hat j hlt
    have HAV : Hid (DevsAt w1 av l[j].one.args) := hav
    obtain ⟨ad, cd, rfl, -⟩ := id hav
    obtain ⟨a', c', e', hst⟩ := HST1.out w1 (Below.refl _ _)
    injection e' with ea eb ec
    subst ea ec
    clear eb
    obtain ⟨bt, rfl, -, hbt, t0, t1⟩ := hst j htj
    rw [HTJ.out] at t0 t1
    obtain ⟨⟨B, F⟩, hs⟩ : ∃ s, s = Stil.stFrom (0, 0) l j := ⟨_, rfl⟩
    have HFX : Hid (l[j].fits) := HFT.out _ (List.getElem_mem hlt)
    rw [← hs] at HR HSU HFP t0 t1 hbox
    obtain ⟨x, hx⟩ : ∃ x, x = l[j] := ⟨_, rfl⟩
    rw [← hx] at HR HSU HCO HFP x0 x1 x2 HAV t0 t1 HFX
    obtain ⟨⟨N1, N2⟩, hn⟩ : ∃ n, n = Stil.step (B, F) x.code := ⟨_, rfl⟩
    rw [← hn] at HR HSU HFP t0 t1
    obtain ⟨kc, hkc⟩ : ∃ k, k = Stil.coilAt l j := ⟨_, rfl⟩
    have HKZ : Hid (j = 0 → kc = false) := fun h => by rw [hkc, h]; rfl
    rw [← hkc] at HR HFP HPR
    simp only at HFP t0 t1
    clear hs hx hn hkc hRj hav hat hst HTJ
    have y0 := (hB.cell (p := ⟨b, o + j * 3, none⟩) hbl).trans x0
    have y1 := (hB.cell (p := ⟨b, o + j * 3 + 1, none⟩) hbl).trans x1
    have y2 := (hB.cell (p := ⟨b, o + j * 3 + 2, none⟩) hbl).trans x2
    have z0 := (hB.cell (p := ⟨bt, j * 2, none⟩) hbt).trans t0
    have z1 := (hB.cell (p := ⟨bt, j * 2 + 1, none⟩) hbt).trans t1
    have HBO : Hid (StBox wr bx (B, F)) := hbox
    clear x0 x1 x2 t0 t1 hbox
    go_upto_region 11 with fail
    obtain ⟨bn, hbn⟩ : ∃ bn, bn = wr.heap.size := ⟨_, rfl⟩
    obtain ⟨W2, hW2⟩ : ∃ W2, W2 = wr.alloc (Obj.cells #[Value.int IntKind.i64 N1, Value.int IntKind.i64 N2] 48) := ⟨_, rfl⟩
    have HB2 : Hid (Below w1.heap.size w1 W2) := by rw [hW2]; exact hB.trans ((below_alloc _ _).mono hB.size)
    have HX2 : Hid (StBox W2 bx (B, F)) := by rw [hW2]; exact HBO.out.grown (r := none) (grown_below (below_alloc _ _) _) (by simp)
    have HN2 : Hid (StBox W2 bn (N1, N2)) := by
      rw [hW2, hbn]
      exact ⟨by simp, by simp [go_sem], by simp [go_sem], by simp [go_sem], by simp [go_sem]⟩
    have hne : bx ≠ bn := by have := HBO.out.1; omega
    have v0 : W2.cell? ⟨b, o + j * 3, none⟩ = some (.int .i64 x.code) := by rw [hW2]; exact ((below_alloc _ _).cell (p := ⟨b, o + j * 3, none⟩) (by have := hB.size; show b < _; omega)).trans y0
    have v1 : W2.cell? ⟨b, o + j * 3 + 1, none⟩ = some (.int .i64 x.one.op) := by rw [hW2]; exact ((below_alloc _ _).cell (p := ⟨b, o + j * 3 + 1, none⟩) (by have := hB.size; show b < _; omega)).trans y1
    have v2 : W2.cell? ⟨b, o + j * 3 + 2, none⟩ = some (.slice ad x.one.args.length cd) := by rw [hW2]; exact ((below_alloc _ _).cell (p := ⟨b, o + j * 3 + 2, none⟩) (by have := hB.size; show b < _; omega)).trans y2
    rw [← hW2, ← hbn]
    clear hW2 hbn y0 y1 y2 z0 z1 HBO hB
    have HLO : Hid (∀ W, Below W2.heap.size W2 W → Calls Tryz.prog 19 #[.agg #[.int .i64 x.code, .int .i64 x.one.op, .slice ad x.one.args.length cd]] W fun e w' => e = .returned (.bool (Stil.listOk x)) ∧ Below W.heap.size W w') := fun W h => s_listOk x _ W (HAV.out.below (HB2.out.trans (h.mono HB2.out.size))) HFX.out
    have HOK : Hid (Stil.listOk x = true → 1 ≤ x.code ∧ x.code ≤ 11) := fun h => Stil.ok_code h
    obtain ⟨ok, hok⟩ : ∃ k, k = Stil.listOk x := ⟨_, rfl⟩
    rw [← hok] at HLO HFP HOK
    obtain ⟨n0z, n0, n1, -, -⟩ := HN2.out
    simp only at n0 n1
    go_cut [62] (fun s wc => s = .bool (Stil.e11 ok (N1, N2)) ∧ Below W2.heap.size W2 wc)
    case first =>
      as_aux_lemma =>
        clear HR HSU HFP HPR HCO HOK hok
        cases ok
        · skip
          go_wp2_with (go_at_call 19; refine (HLO.out _ (by (repeat (first | with_reducible exact Below.refl _ _ | with_reducible assumption | with_reducible refine bl_set (by first | exact Nat.le_refl _ | (simp; done) | (simp; omega) | omega) ?_ _ | with_reducible refine bl_alloc ?_ _ | with_reducible refine bl_drewN ?_ _ | with_reducible refine bl_drew ?_ | with_reducible refine bl_grow ?_ _ _ | with_reducible refine bl_call ?_ (by assumption))))).mono ?_; rintro e w3 ⟨rfl, hb3⟩; clear n0 n1; have n0 := (hb3.cell (p := ⟨bn, 0, none⟩) n0z).trans HN2.out.2.1; have n1 := (hb3.cell (p := ⟨bn, 1, none⟩) n0z).trans HN2.out.2.2.1; simp only at n0 n1)
          go_meet
          exact ⟨by simp [Stil.e11, *], by (repeat (first | with_reducible exact Below.refl _ _ | with_reducible assumption | with_reducible refine bl_set (by first | exact Nat.le_refl _ | (simp; done) | (simp; omega) | omega) ?_ _ | with_reducible refine bl_alloc ?_ _ | with_reducible refine bl_drewN ?_ _ | with_reducible refine bl_drew ?_ | with_reducible refine bl_grow ?_ _ _ | with_reducible refine bl_call ?_ (by assumption)))⟩
        · skip
          rcases Classical.em (N1 < 0) with q1 | q1
          · have dq1 : decide (N1 < 0) = true := decide_eq_true q1
            go_wp2_with (go_at_call 19; refine (HLO.out _ (by (repeat (first | with_reducible exact Below.refl _ _ | with_reducible assumption | with_reducible refine bl_set (by first | exact Nat.le_refl _ | (simp; done) | (simp; omega) | omega) ?_ _ | with_reducible refine bl_alloc ?_ _ | with_reducible refine bl_drewN ?_ _ | with_reducible refine bl_drew ?_ | with_reducible refine bl_grow ?_ _ _ | with_reducible refine bl_call ?_ (by assumption))))).mono ?_; rintro e w3 ⟨rfl, hb3⟩; clear n0 n1; have n0 := (hb3.cell (p := ⟨bn, 0, none⟩) n0z).trans HN2.out.2.1; have n1 := (hb3.cell (p := ⟨bn, 1, none⟩) n0z).trans HN2.out.2.2.1; simp only at n0 n1)
            go_meet
            exact ⟨by simp [Stil.e11, *], by (repeat (first | with_reducible exact Below.refl _ _ | with_reducible assumption | with_reducible refine bl_set (by first | exact Nat.le_refl _ | (simp; done) | (simp; omega) | omega) ?_ _ | with_reducible refine bl_alloc ?_ _ | with_reducible refine bl_drewN ?_ _ | with_reducible refine bl_drew ?_ | with_reducible refine bl_grow ?_ _ _ | with_reducible refine bl_call ?_ (by assumption)))⟩
          · have dq1 : decide (N1 < 0) = false := decide_eq_false q1
            rcases Classical.em (16 < N1) with q2 | q2
            · have dq2 : decide (16 < N1) = true := decide_eq_true q2
              go_wp2_with (go_at_call 19; refine (HLO.out _ (by (repeat (first | with_reducible exact Below.refl _ _ | with_reducible assumption | with_reducible refine bl_set (by first | exact Nat.le_refl _ | (simp; done) | (simp; omega) | omega) ?_ _ | with_reducible refine bl_alloc ?_ _ | with_reducible refine bl_drewN ?_ _ | with_reducible refine bl_drew ?_ | with_reducible refine bl_grow ?_ _ _ | with_reducible refine bl_call ?_ (by assumption))))).mono ?_; rintro e w3 ⟨rfl, hb3⟩; clear n0 n1; have n0 := (hb3.cell (p := ⟨bn, 0, none⟩) n0z).trans HN2.out.2.1; have n1 := (hb3.cell (p := ⟨bn, 1, none⟩) n0z).trans HN2.out.2.2.1; simp only at n0 n1)
              go_meet
              exact ⟨by simp [Stil.e11, *], by (repeat (first | with_reducible exact Below.refl _ _ | with_reducible assumption | with_reducible refine bl_set (by first | exact Nat.le_refl _ | (simp; done) | (simp; omega) | omega) ?_ _ | with_reducible refine bl_alloc ?_ _ | with_reducible refine bl_drewN ?_ _ | with_reducible refine bl_drew ?_ | with_reducible refine bl_grow ?_ _ _ | with_reducible refine bl_call ?_ (by assumption)))⟩
            · have dq2 : decide (16 < N1) = false := decide_eq_false q2
              rcases Classical.em (N2 < 0) with q3 | q3
              · have dq3 : decide (N2 < 0) = true := decide_eq_true q3
                go_wp2_with (go_at_call 19; refine (HLO.out _ (by (repeat (first | with_reducible exact Below.refl _ _ | with_reducible assumption | with_reducible refine bl_set (by first | exact Nat.le_refl _ | (simp; done) | (simp; omega) | omega) ?_ _ | with_reducible refine bl_alloc ?_ _ | with_reducible refine bl_drewN ?_ _ | with_reducible refine bl_drew ?_ | with_reducible refine bl_grow ?_ _ _ | with_reducible refine bl_call ?_ (by assumption))))).mono ?_; rintro e w3 ⟨rfl, hb3⟩; clear n0 n1; have n0 := (hb3.cell (p := ⟨bn, 0, none⟩) n0z).trans HN2.out.2.1; have n1 := (hb3.cell (p := ⟨bn, 1, none⟩) n0z).trans HN2.out.2.2.1; simp only at n0 n1)
                go_meet
                exact ⟨by simp [Stil.e11, *], by (repeat (first | with_reducible exact Below.refl _ _ | with_reducible assumption | with_reducible refine bl_set (by first | exact Nat.le_refl _ | (simp; done) | (simp; omega) | omega) ?_ _ | with_reducible refine bl_alloc ?_ _ | with_reducible refine bl_drewN ?_ _ | with_reducible refine bl_drew ?_ | with_reducible refine bl_grow ?_ _ _ | with_reducible refine bl_call ?_ (by assumption)))⟩
              · have dq3 : decide (N2 < 0) = false := decide_eq_false q3
                rcases Classical.em (8 < N2) with q4 | q4
                · have dq4 : decide (8 < N2) = true := decide_eq_true q4
                  go_wp2_with (go_at_call 19; refine (HLO.out _ (by (repeat (first | with_reducible exact Below.refl _ _ | with_reducible assumption | with_reducible refine bl_set (by first | exact Nat.le_refl _ | (simp; done) | (simp; omega) | omega) ?_ _ | with_reducible refine bl_alloc ?_ _ | with_reducible refine bl_drewN ?_ _ | with_reducible refine bl_drew ?_ | with_reducible refine bl_grow ?_ _ _ | with_reducible refine bl_call ?_ (by assumption))))).mono ?_; rintro e w3 ⟨rfl, hb3⟩; clear n0 n1; have n0 := (hb3.cell (p := ⟨bn, 0, none⟩) n0z).trans HN2.out.2.1; have n1 := (hb3.cell (p := ⟨bn, 1, none⟩) n0z).trans HN2.out.2.2.1; simp only at n0 n1)
                  go_meet
                  exact ⟨by simp [Stil.e11, *], by (repeat (first | with_reducible exact Below.refl _ _ | with_reducible assumption | with_reducible refine bl_set (by first | exact Nat.le_refl _ | (simp; done) | (simp; omega) | omega) ?_ _ | with_reducible refine bl_alloc ?_ _ | with_reducible refine bl_drewN ?_ _ | with_reducible refine bl_drew ?_ | with_reducible refine bl_grow ?_ _ _ | with_reducible refine bl_call ?_ (by assumption)))⟩
                · have dq4 : decide (8 < N2) = false := decide_eq_false q4
                  go_wp2_with (go_at_call 19; refine (HLO.out _ (by (repeat (first | with_reducible exact Below.refl _ _ | with_reducible assumption | with_reducible refine bl_set (by first | exact Nat.le_refl _ | (simp; done) | (simp; omega) | omega) ?_ _ | with_reducible refine bl_alloc ?_ _ | with_reducible refine bl_drewN ?_ _ | with_reducible refine bl_drew ?_ | with_reducible refine bl_grow ?_ _ _ | with_reducible refine bl_call ?_ (by assumption))))).mono ?_; rintro e w3 ⟨rfl, hb3⟩; clear n0 n1; have n0 := (hb3.cell (p := ⟨bn, 0, none⟩) n0z).trans HN2.out.2.1; have n1 := (hb3.cell (p := ⟨bn, 1, none⟩) n0z).trans HN2.out.2.2.1; simp only at n0 n1)
                  go_meet
                  exact ⟨by simp [Stil.e11, *], by (repeat (first | with_reducible exact Below.refl _ _ | with_reducible assumption | with_reducible refine bl_set (by first | exact Nat.le_refl _ | (simp; done) | (simp; omega) | omega) ?_ _ | with_reducible refine bl_alloc ?_ _ | with_reducible refine bl_drewN ?_ _ | with_reducible refine bl_drew ?_ | with_reducible refine bl_grow ?_ _ _ | with_reducible refine bl_call ?_ (by assumption)))⟩
    case rest =>
    obtain ⟨rfl, hbc⟩ := hcut
    obtain ⟨W3, hW3⟩ : ∃ W3, W3 = wc := ⟨_, rfl⟩
    rw [← hW3] at hbc ⊢
    have HB3 : Hid (Below w1.heap.size w1 W3) := HB2.out.trans (hbc.mono HB2.out.size)
    have hB3 := HB3.out
    have HX3 : Hid (StBox W3 bx (B, F)) := HX2.out.grown (r := none) (grown_below hbc _) (by simp)
    have HN3 : Hid (StBox W3 bn (N1, N2)) := HN2.out.grown (r := none) (grown_below hbc _) (by simp)
    clear hW3 hbc n0 n1 n0z v0 v1 v2 HX2 HN2 HB2 HLO HAV HFX
    obtain ⟨hzx, b0, b1, p0, p1⟩ := HX3.out
    obtain ⟨hzn, n0, n1, -, -⟩ := HN3.out
    simp only at b0 b1 n0 n1
    obtain ⟨kd, hkd⟩ : ∃ k, k = x.code := ⟨_, rfl⟩
    rw [← hkd] at HR HCO HFP HOK ⊢
    have HK0 : Hid (j = 0 → kc = false) := HKZ.out
    clear hkd HKZ
    by_cases E11 : Stil.e11 ok (N1, N2) = true
    · rw [E11]
      as_aux_lemma =>
        go_wp2
        go_ret
        exact ⟨by rw [HR.out, HFP.out, E11]; simp, HFIN.out _ (by (repeat (first | with_reducible exact Below.refl _ _ | with_reducible assumption | with_reducible refine bl_set (by first | exact Nat.le_refl _ | (simp; done) | (simp; omega) | omega) ?_ _ | with_reducible refine bl_alloc ?_ _ | with_reducible refine bl_drewN ?_ _ | with_reducible refine bl_drew ?_ | with_reducible refine bl_grow ?_ _ _ | with_reducible refine bl_call ?_ (by assumption))))⟩
    have E11f : Stil.e11 ok (N1, N2) = false := by simpa using E11
    clear E11
    rw [E11f]
    go_upto_region 13 with fail
    go_cut [82] (fun s wc => s = .bool (Stil.e13 kd B) ∧ W3 = wc)
    case first =>
      as_aux_lemma =>
        clear HR HSU HFP HPR HCO
        rcases Classical.em (kd = 1) with hq | hq
        · subst hq
          go_wp2
          go_meet
          exact ⟨by first | rfl | (simp [Stil.e13]; done) | (simp [Stil.e13]; omega), rfl⟩
        · have mkd1 : (kd == 1) = false := beq_eq_false_iff_ne.2 hq
          have okd1 : (kd != 1) = true := bne_iff_ne.2 hq
          have dkd1 : decide (kd = 1) = false := decide_eq_false hq
          rcases Classical.em (B = 0) with hq | hq
          · subst hq
            go_wp2
            go_meet
            exact ⟨by first | rfl | (simp [Stil.e13]; done) | (simp [Stil.e13]; omega), rfl⟩
          · have mB0 : (B == 0) = false := beq_eq_false_iff_ne.2 hq
            have oB0 : (B != 0) = true := bne_iff_ne.2 hq
            have dB0 : decide (B = 0) = false := decide_eq_false hq
            rcases Classical.em (kd = 4) with hq | hq
            · subst hq
              rcases Classical.em (B < 2) with q2 | q2
              · have dq2 : decide (B < 2) = true := decide_eq_true q2
                go_wp2
                go_meet
                exact ⟨by first | rfl | (simp [Stil.e13]; done) | (simp [Stil.e13]; omega), rfl⟩
              · have dq2 : decide (B < 2) = false := decide_eq_false q2
                go_wp2
                go_meet
                exact ⟨by first | rfl | (simp [Stil.e13]; done) | (simp [Stil.e13]; omega), rfl⟩
            · have mkd4 : (kd == 4) = false := beq_eq_false_iff_ne.2 hq
              have okd4 : (kd != 4) = true := bne_iff_ne.2 hq
              have dkd4 : decide (kd = 4) = false := decide_eq_false hq
              rcases Classical.em (kd = 5) with hq | hq
              · subst hq
                rcases Classical.em (B < 2) with q2 | q2
                · have dq2 : decide (B < 2) = true := decide_eq_true q2
                  go_wp2
                  go_meet
                  exact ⟨by first | rfl | (simp [Stil.e13]; done) | (simp [Stil.e13]; omega), rfl⟩
                · have dq2 : decide (B < 2) = false := decide_eq_false q2
                  go_wp2
                  go_meet
                  exact ⟨by first | rfl | (simp [Stil.e13]; done) | (simp [Stil.e13]; omega), rfl⟩
              · have mkd5 : (kd == 5) = false := beq_eq_false_iff_ne.2 hq
                have okd5 : (kd != 5) = true := bne_iff_ne.2 hq
                have dkd5 : decide (kd = 5) = false := decide_eq_false hq
                go_wp2
                go_meet
                exact ⟨by first | rfl | (simp [Stil.e13]; done) | (simp [Stil.e13]; omega), rfl⟩
    case rest =>
    obtain ⟨rfl, rfl⟩ := hcut
    by_cases E13 : Stil.e13 kd B = true
    · rw [E13]
      as_aux_lemma =>
        go_wp2
        go_ret
        exact ⟨by rw [HR.out, HFP.out, E13]; simp, HFIN.out _ (by (repeat (first | with_reducible exact Below.refl _ _ | with_reducible assumption | with_reducible refine bl_set (by first | exact Nat.le_refl _ | (simp; done) | (simp; omega) | omega) ?_ _ | with_reducible refine bl_alloc ?_ _ | with_reducible refine bl_drewN ?_ _ | with_reducible refine bl_drew ?_ | with_reducible refine bl_grow ?_ _ _ | with_reducible refine bl_call ?_ (by assumption))))⟩
    have E13f : Stil.e13 kd B = false := by simpa using E13
    clear E13
    rw [E13f]
    go_upto_region 15 with fail
    go_cut [89] (fun s wc => s = .bool (Stil.e15 kd B) ∧ W3 = wc)
    case first =>
      as_aux_lemma =>
        clear HR HSU HFP HPR HCO
        rcases Classical.em (7 ≤ kd) with q7 | q7
        · have dq7 : decide (7 ≤ kd) = true := decide_eq_true q7
          rcases Classical.em (B = 1) with hq | hq
          · subst hq
            go_wp2
            go_meet
            exact ⟨by first | rfl | (simp [Stil.e15]; done) | (simp [Stil.e15]; omega), rfl⟩
          · have mB1 : (B == 1) = false := beq_eq_false_iff_ne.2 hq
            have oB1 : (B != 1) = true := bne_iff_ne.2 hq
            have dB1 : decide (B = 1) = false := decide_eq_false hq
            go_wp2
            go_meet
            exact ⟨by first | rfl | (simp [Stil.e15]; done) | (simp [Stil.e15]; omega), rfl⟩
        · have dq7 : decide (7 ≤ kd) = false := decide_eq_false q7
          go_wp2
          go_meet
          exact ⟨by first | rfl | (simp [Stil.e15]; done) | (simp [Stil.e15]; omega), rfl⟩
    case rest =>
    obtain ⟨rfl, rfl⟩ := hcut
    by_cases E15 : Stil.e15 kd B = true
    · rw [E15]
      as_aux_lemma =>
        go_wp2
        go_ret
        exact ⟨by rw [HR.out, HFP.out, E15]; simp, HFIN.out _ (by (repeat (first | with_reducible exact Below.refl _ _ | with_reducible assumption | with_reducible refine bl_set (by first | exact Nat.le_refl _ | (simp; done) | (simp; omega) | omega) ?_ _ | with_reducible refine bl_alloc ?_ _ | with_reducible refine bl_drewN ?_ _ | with_reducible refine bl_drew ?_ | with_reducible refine bl_grow ?_ _ _ | with_reducible refine bl_call ?_ (by assumption))))⟩
    have E15f : Stil.e15 kd B = false := by simpa using E15
    clear E15
    rw [E15f]
    go_upto_region 17 with fail
    go_cut [115] (fun s wc => s = .bool (Stil.e17 seen kd B) ∧ W3 = wc)
    case first =>
      as_aux_lemma =>
        clear HR HSU HFP HPR HCO
        cases seen
        · skip
          go_wp2
          go_meet
          exact ⟨by first | rfl | (simp [Stil.e17]; done) | (simp [Stil.e17]; omega), rfl⟩
        · skip
          rcases Classical.em (kd = 3) with hq | hq
          · subst hq
            rcases Classical.em (B = 1) with hq | hq
            · subst hq
              go_wp2
              go_meet
              exact ⟨by first | rfl | (simp [Stil.e17]; done) | (simp [Stil.e17]; omega), rfl⟩
            · have mB1 : (B == 1) = false := beq_eq_false_iff_ne.2 hq
              have oB1 : (B != 1) = true := bne_iff_ne.2 hq
              have dB1 : decide (B = 1) = false := decide_eq_false hq
              go_wp2
              go_meet
              exact ⟨by first | rfl | (simp [Stil.e17]; done) | (simp [Stil.e17]; omega), rfl⟩
          · have mkd3 : (kd == 3) = false := beq_eq_false_iff_ne.2 hq
            have okd3 : (kd != 3) = true := bne_iff_ne.2 hq
            have dkd3 : decide (kd = 3) = false := decide_eq_false hq
            rcases Classical.em (kd = 6) with hq | hq
            · subst hq
              rcases Classical.em (B = 1) with hq | hq
              · subst hq
                go_wp2
                go_meet
                exact ⟨by first | rfl | (simp [Stil.e17]; done) | (simp [Stil.e17]; omega), rfl⟩
              · have mB1 : (B == 1) = false := beq_eq_false_iff_ne.2 hq
                have oB1 : (B != 1) = true := bne_iff_ne.2 hq
                have dB1 : decide (B = 1) = false := decide_eq_false hq
                go_wp2
                go_meet
                exact ⟨by first | rfl | (simp [Stil.e17]; done) | (simp [Stil.e17]; omega), rfl⟩
            · have mkd6 : (kd == 6) = false := beq_eq_false_iff_ne.2 hq
              have okd6 : (kd != 6) = true := bne_iff_ne.2 hq
              have dkd6 : decide (kd = 6) = false := decide_eq_false hq
              rcases Classical.em (kd = 5) with hq | hq
              · subst hq
                rcases Classical.em (B = 2) with hq | hq
                · subst hq
                  go_wp2
                  go_meet
                  exact ⟨by first | rfl | (simp [Stil.e17]; done) | (simp [Stil.e17]; omega), rfl⟩
                · have mB2 : (B == 2) = false := beq_eq_false_iff_ne.2 hq
                  have oB2 : (B != 2) = true := bne_iff_ne.2 hq
                  have dB2 : decide (B = 2) = false := decide_eq_false hq
                  go_wp2
                  go_meet
                  exact ⟨by first | rfl | (simp [Stil.e17]; done) | (simp [Stil.e17]; omega), rfl⟩
              · have mkd5 : (kd == 5) = false := beq_eq_false_iff_ne.2 hq
                have okd5 : (kd != 5) = true := bne_iff_ne.2 hq
                have dkd5 : decide (kd = 5) = false := decide_eq_false hq
                go_wp2
                go_meet
                exact ⟨by first | rfl | (simp [Stil.e17]; done) | (simp [Stil.e17]; omega), rfl⟩
    case rest =>
    obtain ⟨rfl, rfl⟩ := hcut
    by_cases E17 : Stil.e17 seen kd B = true
    · rw [E17]
      as_aux_lemma =>
        go_wp2
        go_ret
        exact ⟨by rw [HR.out, HFP.out, E17]; simp, HFIN.out _ (by (repeat (first | with_reducible exact Below.refl _ _ | with_reducible assumption | with_reducible refine bl_set (by first | exact Nat.le_refl _ | (simp; done) | (simp; omega) | omega) ?_ _ | with_reducible refine bl_alloc ?_ _ | with_reducible refine bl_drewN ?_ _ | with_reducible refine bl_drew ?_ | with_reducible refine bl_grow ?_ _ _ | with_reducible refine bl_call ?_ (by assumption))))⟩
    have E17f : Stil.e17 seen kd B = false := by simpa using E17
    clear E17
    rw [E17f]
    go_upto_region 19 with fail
    go_cut [122] (fun s wc => s = .bool (Stil.e19 kd F) ∧ W3 = wc)
    case first =>
      as_aux_lemma =>
        clear HR HSU HFP HPR HCO
        rcases Classical.em (kd = 8) with hq | hq
        · subst hq
          rcases Classical.em (F = 0) with hq | hq
          · subst hq
            go_wp2
            go_meet
            exact ⟨by first | rfl | (simp [Stil.e19]; done) | (simp [Stil.e19]; omega), rfl⟩
          · have mF0 : (F == 0) = false := beq_eq_false_iff_ne.2 hq
            have oF0 : (F != 0) = true := bne_iff_ne.2 hq
            have dF0 : decide (F = 0) = false := decide_eq_false hq
            go_wp2
            go_meet
            exact ⟨by first | rfl | (simp [Stil.e19]; done) | (simp [Stil.e19]; omega), rfl⟩
        · have mkd8 : (kd == 8) = false := beq_eq_false_iff_ne.2 hq
          have okd8 : (kd != 8) = true := bne_iff_ne.2 hq
          have dkd8 : decide (kd = 8) = false := decide_eq_false hq
          go_wp2
          go_meet
          exact ⟨by first | rfl | (simp [Stil.e19]; done) | (simp [Stil.e19]; omega), rfl⟩
    case rest =>
    obtain ⟨rfl, rfl⟩ := hcut
    by_cases E19 : Stil.e19 kd F = true
    · rw [E19]
      as_aux_lemma =>
        go_wp2
        go_ret
        exact ⟨by rw [HR.out, HFP.out, E19]; simp, HFIN.out _ (by (repeat (first | with_reducible exact Below.refl _ _ | with_reducible assumption | with_reducible refine bl_set (by first | exact Nat.le_refl _ | (simp; done) | (simp; omega) | omega) ?_ _ | with_reducible refine bl_alloc ?_ _ | with_reducible refine bl_drewN ?_ _ | with_reducible refine bl_drew ?_ | with_reducible refine bl_grow ?_ _ _ | with_reducible refine bl_call ?_ (by assumption))))⟩
    have E19f : Stil.e19 kd F = false := by simpa using E19
    clear E19
    rw [E19f]
    go_upto_region 21 with fail
    go_cut [132] (fun s wc => s = .bool (Stil.e21 kd) ∧ W3 = wc)
    case first =>
      as_aux_lemma =>
        clear HR HSU HFP HPR HCO
        rcases Classical.em (kd = 8) with hq | hq
        · subst hq
          go_wp2
          go_meet
          exact ⟨by first | rfl | (simp [Stil.e21]; done) | (simp [Stil.e21]; omega), rfl⟩
        · have mkd8 : (kd == 8) = false := beq_eq_false_iff_ne.2 hq
          have okd8 : (kd != 8) = true := bne_iff_ne.2 hq
          have dkd8 : decide (kd = 8) = false := decide_eq_false hq
          rcases Classical.em (kd = 9) with hq | hq
          · subst hq
            go_wp2
            go_meet
            exact ⟨by first | rfl | (simp [Stil.e21]; done) | (simp [Stil.e21]; omega), rfl⟩
          · have mkd9 : (kd == 9) = false := beq_eq_false_iff_ne.2 hq
            have okd9 : (kd != 9) = true := bne_iff_ne.2 hq
            have dkd9 : decide (kd = 9) = false := decide_eq_false hq
            rcases Classical.em (kd = 11) with hq | hq
            · subst hq
              go_wp2
              go_meet
              exact ⟨by first | rfl | (simp [Stil.e21]; done) | (simp [Stil.e21]; omega), rfl⟩
            · have mkd11 : (kd == 11) = false := beq_eq_false_iff_ne.2 hq
              have okd11 : (kd != 11) = true := bne_iff_ne.2 hq
              have dkd11 : decide (kd = 11) = false := decide_eq_false hq
              go_wp2
              go_meet
              exact ⟨by first | rfl | (simp [Stil.e21]; done) | (simp [Stil.e21]; omega), rfl⟩
    case rest =>
    obtain ⟨rfl, rfl⟩ := hcut
    by_cases E21 : Stil.e21 kd = true
    · rw [E21]
      go_upto_region 22 with fail
      go_cut [143] (fun s wc => s = .bool (!kc) ∧ W3 = wc)
      case first =>
        as_aux_lemma =>
          clear HR HSU HFP HCO
          by_cases hj0 : j = 0
          · have hk := HK0.out hj0
            subst hj0
            go_wp2
            go_meet
            exact ⟨by rw [hk]; rfl, rfl⟩
          · obtain ⟨pc, hpc, hce⟩ := HPR.out (by omega)
            obtain ⟨b', o', e', hbl', u0⟩ := hce W3 hB3
            simp only [Option.some.injEq, Addr.mk.injEq, and_true] at e'
            obtain ⟨rfl, rfl⟩ := e'
            have HPC : Hid (kc = (pc == 10)) := hpc
            have hwj : IntKind.i64.wrap ((j : Int) - 1) = ((j - 1 : Nat) : Int) := by rw [IntKind.wrap_i64]; omega
            have hji : ((j : Int) == 0) = false := by rw [beq_eq_false_iff_ne]; omega
            clear hce hpc HPR
            rcases Classical.em (pc = 10) with rfl | hq
            · go_wp2
              go_meet
              exact ⟨by rw [HPC.out]; rfl, rfl⟩
            · have hq1 : (pc == 10) = false := beq_eq_false_iff_ne.2 hq
              have hq2 : (pc != 10) = true := bne_iff_ne.2 hq
              go_wp2
              go_meet
              exact ⟨by rw [HPC.out]; first | rfl | simp [hq1] | simp [hq1, hq2], rfl⟩
      case rest =>
      obtain ⟨rfl, rfl⟩ := hcut
      rcases Bool.eq_false_or_eq_true kc with hk | hk
      · have E21f : (Stil.e21 kd && !kc) = false := by rw [hk]; simp
        rw [hk]
        clear E21
        go_upto_region 24 with fail
        go_cut [155] (fun s wc => s = .bool (Stil.e24 kd (N1, N2)) ∧ W3 = wc)
        case first =>
          as_aux_lemma =>
            clear HR HSU HFP HPR HCO
            rcases Classical.em (kd = 11) with hq | hq
            · subst hq
              rcases Classical.em (N1 = 0) with hq | hq
              · subst hq
                rcases Classical.em (N2 = 0) with hq | hq
                · subst hq
                  go_wp2
                  go_meet
                  exact ⟨by first | rfl | (simp [Stil.e24]; done) | (simp [Stil.e24]; omega), rfl⟩
                · have mN20 : (N2 == 0) = false := beq_eq_false_iff_ne.2 hq
                  have oN20 : (N2 != 0) = true := bne_iff_ne.2 hq
                  have dN20 : decide (N2 = 0) = false := decide_eq_false hq
                  go_wp2
                  go_meet
                  exact ⟨by first | rfl | (simp [Stil.e24]; done) | (simp [Stil.e24]; omega), rfl⟩
              · have mN10 : (N1 == 0) = false := beq_eq_false_iff_ne.2 hq
                have oN10 : (N1 != 0) = true := bne_iff_ne.2 hq
                have dN10 : decide (N1 = 0) = false := decide_eq_false hq
                go_wp2
                go_meet
                exact ⟨by first | rfl | (simp [Stil.e24]; done) | (simp [Stil.e24]; omega), rfl⟩
            · have mkd11 : (kd == 11) = false := beq_eq_false_iff_ne.2 hq
              have okd11 : (kd != 11) = true := bne_iff_ne.2 hq
              have dkd11 : decide (kd = 11) = false := decide_eq_false hq
              go_wp2
              go_meet
              exact ⟨by first | rfl | (simp [Stil.e24]; done) | (simp [Stil.e24]; omega), rfl⟩
        case rest =>
        obtain ⟨rfl, rfl⟩ := hcut
        by_cases E24 : Stil.e24 kd (N1, N2) = true
        · rw [E24]
          as_aux_lemma =>
            go_wp2
            go_ret
            exact ⟨by rw [HR.out, HFP.out, E24]; simp, HFIN.out _ (by (repeat (first | with_reducible exact Below.refl _ _ | with_reducible assumption | with_reducible refine bl_set (by first | exact Nat.le_refl _ | (simp; done) | (simp; omega) | omega) ?_ _ | with_reducible refine bl_alloc ?_ _ | with_reducible refine bl_drewN ?_ _ | with_reducible refine bl_drew ?_ | with_reducible refine bl_grow ?_ _ _ | with_reducible refine bl_call ?_ (by assumption))))⟩
        have E24f : Stil.e24 kd (N1, N2) = false := by simpa using E24
        clear E24
        rw [E24f]
        go_upto_region 26 with fail
        go_cut [5] (fun s wc => s = .bool (Stil.e26 seen kd) ∧ W3 = wc)
        case first =>
          as_aux_lemma =>
            clear HR HSU HFP HPR HCO
            rcases Classical.em (kd = 11) with hq | hq
            · subst hq
              go_wp2
              go_meet
              exact ⟨by first | rfl | (simp [Stil.e26]; done) | (simp [Stil.e26]; omega), rfl⟩
            · have mkd11 : (kd == 11) = false := beq_eq_false_iff_ne.2 hq
              have okd11 : (kd != 11) = true := bne_iff_ne.2 hq
              have dkd11 : decide (kd = 11) = false := decide_eq_false hq
              cases seen
              · skip
                rcases Classical.em (kd = 10) with hq | hq
                · subst hq
                  go_wp2
                  go_meet
                  exact ⟨by first | rfl | (simp [Stil.e26]; done) | (simp [Stil.e26]; omega), rfl⟩
                · have mkd10 : (kd == 10) = false := beq_eq_false_iff_ne.2 hq
                  have okd10 : (kd != 10) = true := bne_iff_ne.2 hq
                  have dkd10 : decide (kd = 10) = false := decide_eq_false hq
                  rcases Classical.em (kd = 7) with hq | hq
                  · subst hq
                    go_wp2
                    go_meet
                    exact ⟨by first | rfl | (simp [Stil.e26]; done) | (simp [Stil.e26]; omega), rfl⟩
                  · have mkd7 : (kd == 7) = false := beq_eq_false_iff_ne.2 hq
                    have okd7 : (kd != 7) = true := bne_iff_ne.2 hq
                    have dkd7 : decide (kd = 7) = false := decide_eq_false hq
                    go_wp2
                    go_meet
                    exact ⟨by first | rfl | (simp [Stil.e26]; done) | (simp [Stil.e26]; omega), rfl⟩
              · skip
                go_wp2
                go_meet
                exact ⟨by first | rfl | (simp [Stil.e26]; done) | (simp [Stil.e26]; omega), rfl⟩
        case rest =>
        obtain ⟨rfl, rfl⟩ := hcut
        have HFN : Hid (R = Stil.holdsFrom (N1, N2) (Stil.e26 seen kd) (kd == 10) (l.drop (j + 1))) := by
          show _ = _
          rw [HR.out, HFP.out]
          simp [E11f, E13f, E15f, E17f, E19f, E21f, E24f]
        clear HR HFP HPR
        as_aux_lemma =>
          go_wp2
          refine ⟨⟨j + 1, Stil.e26 seen kd, hlt, by simp, rfl, ?_, ?_, ?_⟩, by simp [intOf]; omega⟩
          · rw [HSU.out]
            exact ⟨by simp; omega, (cell_set_off (by omega)).trans (cell_set_at b0), cell_set_at ((cell_set_off (by omega)).trans b1), frozen_set.trans (frozen_set.trans p0), frozen_set.trans (frozen_set.trans p1)⟩
          · exact bl_set hbx1 (bl_set hbx1 hB3 _) _
          · rw [HSU.out, HCO.out]
            exact HFN.out
      · rw [hk]
        as_aux_lemma =>
          go_wp2
          go_ret
          exact ⟨by rw [HR.out, HFP.out, E21, hk]; simp, HFIN.out _ (by (repeat (first | with_reducible exact Below.refl _ _ | with_reducible assumption | with_reducible refine bl_set (by first | exact Nat.le_refl _ | (simp; done) | (simp; omega) | omega) ?_ _ | with_reducible refine bl_alloc ?_ _ | with_reducible refine bl_drewN ?_ _ | with_reducible refine bl_drew ?_ | with_reducible refine bl_grow ?_ _ _ | with_reducible refine bl_call ?_ (by assumption))))⟩
    have E21g : Stil.e21 kd = false := by simpa using E21
    have E21f : (Stil.e21 kd && !kc) = false := by rw [E21g]; rfl
    rw [E21g]
    clear E21 E21g
    go_upto_region 24 with fail
    go_cut [155] (fun s wc => s = .bool (Stil.e24 kd (N1, N2)) ∧ W3 = wc)
    case first =>
      as_aux_lemma =>
        clear HR HSU HFP HPR HCO
        rcases Classical.em (kd = 11) with hq | hq
        · subst hq
          rcases Classical.em (N1 = 0) with hq | hq
          · subst hq
            rcases Classical.em (N2 = 0) with hq | hq
            · subst hq
              go_wp2
              go_meet
              exact ⟨by first | rfl | (simp [Stil.e24]; done) | (simp [Stil.e24]; omega), rfl⟩
            · have mN20 : (N2 == 0) = false := beq_eq_false_iff_ne.2 hq
              have oN20 : (N2 != 0) = true := bne_iff_ne.2 hq
              have dN20 : decide (N2 = 0) = false := decide_eq_false hq
              go_wp2
              go_meet
              exact ⟨by first | rfl | (simp [Stil.e24]; done) | (simp [Stil.e24]; omega), rfl⟩
          · have mN10 : (N1 == 0) = false := beq_eq_false_iff_ne.2 hq
            have oN10 : (N1 != 0) = true := bne_iff_ne.2 hq
            have dN10 : decide (N1 = 0) = false := decide_eq_false hq
            go_wp2
            go_meet
            exact ⟨by first | rfl | (simp [Stil.e24]; done) | (simp [Stil.e24]; omega), rfl⟩
        · have mkd11 : (kd == 11) = false := beq_eq_false_iff_ne.2 hq
          have okd11 : (kd != 11) = true := bne_iff_ne.2 hq
          have dkd11 : decide (kd = 11) = false := decide_eq_false hq
          go_wp2
          go_meet
          exact ⟨by first | rfl | (simp [Stil.e24]; done) | (simp [Stil.e24]; omega), rfl⟩
    case rest =>
    obtain ⟨rfl, rfl⟩ := hcut
    by_cases E24 : Stil.e24 kd (N1, N2) = true
    · rw [E24]
      as_aux_lemma =>
        go_wp2
        go_ret
        exact ⟨by rw [HR.out, HFP.out, E24]; simp, HFIN.out _ (by (repeat (first | with_reducible exact Below.refl _ _ | with_reducible assumption | with_reducible refine bl_set (by first | exact Nat.le_refl _ | (simp; done) | (simp; omega) | omega) ?_ _ | with_reducible refine bl_alloc ?_ _ | with_reducible refine bl_drewN ?_ _ | with_reducible refine bl_drew ?_ | with_reducible refine bl_grow ?_ _ _ | with_reducible refine bl_call ?_ (by assumption))))⟩
    have E24f : Stil.e24 kd (N1, N2) = false := by simpa using E24
    clear E24
    rw [E24f]
    go_upto_region 26 with fail
    go_cut [5] (fun s wc => s = .bool (Stil.e26 seen kd) ∧ W3 = wc)
    case first =>
      as_aux_lemma =>
        clear HR HSU HFP HPR HCO
        rcases Classical.em (kd = 11) with hq | hq
        · subst hq
          go_wp2
          go_meet
          exact ⟨by first | rfl | (simp [Stil.e26]; done) | (simp [Stil.e26]; omega), rfl⟩
        · have mkd11 : (kd == 11) = false := beq_eq_false_iff_ne.2 hq
          have okd11 : (kd != 11) = true := bne_iff_ne.2 hq
          have dkd11 : decide (kd = 11) = false := decide_eq_false hq
          cases seen
          · skip
            rcases Classical.em (kd = 10) with hq | hq
            · subst hq
              go_wp2
              go_meet
              exact ⟨by first | rfl | (simp [Stil.e26]; done) | (simp [Stil.e26]; omega), rfl⟩
            · have mkd10 : (kd == 10) = false := beq_eq_false_iff_ne.2 hq
              have okd10 : (kd != 10) = true := bne_iff_ne.2 hq
              have dkd10 : decide (kd = 10) = false := decide_eq_false hq
              rcases Classical.em (kd = 7) with hq | hq
              · subst hq
                go_wp2
                go_meet
                exact ⟨by first | rfl | (simp [Stil.e26]; done) | (simp [Stil.e26]; omega), rfl⟩
              · have mkd7 : (kd == 7) = false := beq_eq_false_iff_ne.2 hq
                have okd7 : (kd != 7) = true := bne_iff_ne.2 hq
                have dkd7 : decide (kd = 7) = false := decide_eq_false hq
                go_wp2
                go_meet
                exact ⟨by first | rfl | (simp [Stil.e26]; done) | (simp [Stil.e26]; omega), rfl⟩
          · skip
            go_wp2
            go_meet
            exact ⟨by first | rfl | (simp [Stil.e26]; done) | (simp [Stil.e26]; omega), rfl⟩
    case rest =>
    obtain ⟨rfl, rfl⟩ := hcut
    have HFN : Hid (R = Stil.holdsFrom (N1, N2) (Stil.e26 seen kd) (kd == 10) (l.drop (j + 1))) := by
      show _ = _
      rw [HR.out, HFP.out]
      simp [E11f, E13f, E15f, E17f, E19f, E21f, E24f]
    clear HR HFP HPR
    as_aux_lemma =>
      go_wp2
      refine ⟨⟨j + 1, Stil.e26 seen kd, hlt, by simp, rfl, ?_, ?_, ?_⟩, by simp [intOf]; omega⟩
      · rw [HSU.out]
        exact ⟨by simp; omega, (cell_set_off (by omega)).trans (cell_set_at b0), cell_set_at ((cell_set_off (by omega)).trans b1), frozen_set.trans (frozen_set.trans p0), frozen_set.trans (frozen_set.trans p1)⟩
      · exact bl_set hbx1 (bl_set hbx1 hB3 _) _
      · rw [HSU.out, HCO.out]
        exact HFN.out
end Go.Proofs.YtbfkfdbkjbgneaaGreatDoor
