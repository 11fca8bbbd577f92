/- The law on peaks: the walk. -/
import Derived.Test.YtbfkfdbkjbgneaaS10
import Derived.Test.YtbfkfdbkjbgneaaHn
import Derived.Test.YtbfkfdbkjbgneaaGc
import Derived.Test.YtbfkfdbkjbgneaaHm
namespace Go.Proofs.Ytbfkfdbkjbgneaa
open Go.RowKit Go.Sort Go.BigFrame
theorem ITame.fits {i : Stil.Inst} (h : ITame i) : i.fits := ⟨⟨by have := h.1.1; omega, by have := h.1.2; omega⟩, h.2.wf.1, by have := h.2.2.2; omega, h.2.wf.2.2⟩
theorem sts_of_spec {l : List Stil.Inst} {v : Value} {w : World} (hv : InstsAt w v l) (hl : l.length ≤ 1048576) : Calls Try.prog 6 #[v] w fun e w' => ∃ (a : Option Addr) (c : Nat), e = .returned (.slice a (Stil.sureTrace l).length c) ∧ StsAt w.heap.size w' (.slice a (Stil.sureTrace l).length c) (Stil.sureTrace l) ∧ Below w.heap.size w w' :=
  (s_sureTrace l v w hv hl).mono fun _ _ ⟨a, c, h1, h2, h3⟩ => ⟨a, c, h1, sts_of_own h2, h3⟩
set_option maxHeartbeats 4000000 in
set_option maxRecDepth 100000 in
theorem law_surePeak (u : Value) (w : World) (hu : BytesAt w u) :
    Calls Try.prog 3 #[u] w fun e w' => e = .returned (.bool true) ∧ Below w.heap.size w w' := by
  have HDU : Hid (∀ W, Below w.heap.size w W → Calls Try.prog 4 #[u] W fun e w' => HalfOut e W w') := fun W h => s_drawSurePeak u W (hu.below h)
  have hfw : ∀ (u0 u1 : Value) (w : World), (Instr.field 31 (.agg #[u0, u1]) 0).run Try.prog w = .ok u0 w := fun _ _ _ => by kernel_rfl
  obtain ⟨ua, ul, uc, rfl, -, -, -⟩ := hu
  by_cases hbig : 1048576 < ul
  · go_enter Try.func3, Try.ntmps3
    go_wp2
    go_ret
    exact ⟨rfl, by (repeat (first | with_reducible exact Below.refl _ _ | with_reducible assumption | with_reducible refine bl_set (by first | exact Nat.le_refl _ | (simp; done) | (simp; omega) | omega) ?_ _ | with_reducible refine bl_alloc ?_ _ | with_reducible refine bl_drewN ?_ _ | with_reducible refine bl_drew ?_ | with_reducible refine bl_grow ?_ _ _ | with_reducible refine bl_call ?_ (by assumption)))⟩
  go_enter Try.func3, Try.ntmps3
  go_upto_region 4 with (go_at_call 4; refine (HDU.out _ (by (repeat (first | with_reducible exact Below.refl _ _ | with_reducible assumption | with_reducible refine bl_set (by first | exact Nat.le_refl _ | (simp; done) | (simp; omega) | omega) ?_ _ | with_reducible refine bl_alloc ?_ _ | with_reducible refine bl_drewN ?_ _ | with_reducible refine bl_drew ?_ | with_reducible refine bl_grow ?_ _ _ | with_reducible refine bl_call ?_ (by assumption))))).mono ?_; rintro e w1 ⟨l, v1, rfl, hin1, ht1, hn1, hb1⟩)
  have HL : Hid (∀ W, Below w1.heap.size w1 W → InstsAt W v1 l) := fun W h => hin1.at.below h
  have HFT : Hid (∀ x ∈ l, x.fits) := fun x hx => (ht1 x hx).1.fits
  have HFIN : Hid (∀ W, Below w1.heap.size w1 W → Below w.heap.size w W) := fun W h => hb1.trans (h.mono hb1.size)
  have HGD : Hid ((Stil.sureCheck l).1 = 0 → (Stil.surePeak l).1 ≤ 16 ∧ (Stil.surePeak l).2 ≤ 8 ∧ (l.length = 0 ∨ 0 < (Stil.surePeak l).1)) := Stil.peak_good
  have HBD : Hid (0 ≤ (Stil.sureCheck l).1) := (Stil.check_bounds l).1
  have htl : (Stil.sureTrace l).length ≤ 1000 := by
    unfold Stil.sureTrace
    split
    · simp
    · rw [Stil.traceFrom_len]; omega
  have hl80 : l.length ≤ 80000 := hn1
  obtain ⟨a1, k1, rfl, -⟩ := id hin1
  have HPK : Hid (∀ W, Below w1.heap.size w1 W → Calls Try.prog 5 #[.slice a1 l.length k1] W fun e w' => e = .returned (.agg #[.int .i64 (Stil.surePeak l).1, .int .i64 (Stil.surePeak l).2]) ∧ Below W.heap.size W w') := fun W h => i_surePeak l _ W (HL.out W h) (by omega)
  have HTR : Hid (∀ W, Below w1.heap.size w1 W → Calls Try.prog 6 #[.slice a1 l.length k1] W fun e w' => ∃ (a : Option Addr) (c : Nat), e = .returned (.slice a (Stil.sureTrace l).length c) ∧ StsAt W.heap.size w' (.slice a (Stil.sureTrace l).length c) (Stil.sureTrace l) ∧ Below W.heap.size W w') := fun W h => sts_of_spec (HL.out W h) (by omega)
  have HCK : Hid (∀ W, Below w1.heap.size w1 W → Calls Try.prog 7 #[.slice a1 l.length k1] W fun e w' => e = .returned (.agg #[.int .i64 (Stil.sureCheck l).1, .int .i64 (Stil.sureCheck l).2]) ∧ Below W.heap.size W w') := fun W h => s_sureCheck l _ W (HL.out W h) (by omega) HFT.out
  have HPE : Hid (Stil.surePeak l = Stil.peakFrom (0, 0) (Stil.sureTrace l)) := rfl
  obtain ⟨t, ht⟩ : ∃ t, t = Stil.sureTrace l := ⟨_, rfl⟩
  rw [← ht] at HTR HPE htl
  obtain ⟨c1, hc1⟩ : ∃ c, c = (Stil.sureCheck l).1 := ⟨_, rfl⟩
  obtain ⟨c2, hc2⟩ : ∃ c, c = (Stil.sureCheck l).2 := ⟨_, rfl⟩
  rw [← hc1, ← hc2] at HCK
  rw [← hc1] at HGD HBD
  obtain ⟨⟨P1, P2⟩, hP⟩ : ∃ p, p = Stil.surePeak l := ⟨_, rfl⟩
  rw [← hP] at HPK HGD HPE
  clear ht hc1 hc2 hP hin1 ht1 hb1 HDU HL HFT
  go_upto_region 6 with (first | (go_at_call 5; refine (HPK.out _ (by (repeat (first | with_reducible exact Below.refl _ _ | with_reducible assumption | with_reducible refine bl_set (by first | exact Nat.le_refl _ | (simp; done) | (simp; omega) | omega) ?_ _ | with_reducible refine bl_alloc ?_ _ | with_reducible refine bl_drewN ?_ _ | with_reducible refine bl_drew ?_ | with_reducible refine bl_grow ?_ _ _ | with_reducible refine bl_call ?_ (by assumption))))).mono ?_; rintro e w2 ⟨rfl, hb2⟩) | (go_at_call 6; refine (HTR.out _ (by (repeat (first | with_reducible exact Below.refl _ _ | with_reducible assumption | with_reducible refine bl_set (by first | exact Nat.le_refl _ | (simp; done) | (simp; omega) | omega) ?_ _ | with_reducible refine bl_alloc ?_ _ | with_reducible refine bl_drewN ?_ _ | with_reducible refine bl_drew ?_ | with_reducible refine bl_grow ?_ _ _ | with_reducible refine bl_call ?_ (by assumption))))).mono ?_; rintro e w3 ⟨a3, k3, rfl, hst3, hb3⟩))
  have hB3 : Below w1.heap.size w1 w3 := by (repeat (first | with_reducible exact Below.refl _ _ | with_reducible assumption | with_reducible refine bl_set (by first | exact Nat.le_refl _ | (simp; done) | (simp; omega) | omega) ?_ _ | with_reducible refine bl_alloc ?_ _ | with_reducible refine bl_drewN ?_ _ | with_reducible refine bl_drew ?_ | with_reducible refine bl_grow ?_ _ _ | with_reducible refine bl_call ?_ (by assumption)))
  have hbx : w2.heap.size < w3.heap.size := by have := hb3.size; simp at this; omega
  have y0 : w3.cell? ⟨w2.heap.size, 0, none⟩ = some (.int .i64 P1) := (hb3.cell (p := ⟨w2.heap.size, 0, none⟩) (by simp)).trans (by simp [go_sem])
  have y1 : w3.cell? ⟨w2.heap.size, 1, none⟩ = some (.int .i64 P2) := (hb3.cell (p := ⟨w2.heap.size, 1, none⟩) (by simp)).trans (by simp [go_sem])
  obtain ⟨bx, hbxe⟩ : ∃ bx, bx = w2.heap.size := ⟨_, rfl⟩
  rw [← hbxe] at y0 y1 hbx ⊢
  have HST : Hid (StsAt (w2.alloc (Obj.cells #[Value.int IntKind.i64 P1, Value.int IntKind.i64 P2] 26)).heap.size w3 (.slice a3 t.length k3) t) := hst3
  clear hbxe hb2 hb3 hst3 HPK HTR
  go_wp2
  go_loopw [6, 7, 8] (fun b f i wr => wr = w3 ∧ ∃ j : Nat, j ≤ t.length ∧ i = .int .i64 (j : Int) ∧ b = .int .i64 (Stil.peakFrom (0, 0) (t.take j)).1 ∧ f = .int .i64 (Stil.peakFrom (0, 0) (t.take j)).2) (fun _ _ i _ => t.length - (intOf i).toNat)
  case atStart => exact ⟨rfl, 0, Nat.zero_le _, rfl, rfl, rfl⟩
  case round =>
    obtain ⟨rfl, j, hj, rfl, rfl, rfl⟩ := hrel
    by_cases hlt : j < t.length
    · have HTK : Hid (Stil.peakFrom (0, 0) (t.take (j + 1)) = Stil.peakUp (Stil.peakFrom (0, 0) (t.take j)) t[j]) := Stil.peak_take t j hlt
      obtain ⟨a', c', e', hat⟩ := HST.out
      cases e'
      obtain ⟨b, rfl, hb1, hb2, z0, z1⟩ := hat j hlt
      obtain ⟨⟨S1, S2⟩, hS⟩ : ∃ s, s = t[j] := ⟨_, rfl⟩
      obtain ⟨⟨Q1, Q2⟩, hQ⟩ : ∃ s, s = Stil.peakFrom (0, 0) (t.take j) := ⟨_, rfl⟩
      rw [← hS] at z0 z1 HTK
      rw [← hQ] at HTK ⊢
      simp only at z0 z1
      clear hS hQ hat
      by_cases h1 : Q1 < S1
      · by_cases h2 : Q2 < S2
        · go_wp2
          refine ⟨⟨by first | rfl | trivial, j + 1, hlt, by simp, ?_, ?_⟩, by simp [intOf]; omega⟩ <;> (rw [HTK.out]; simp [Stil.peakUp, h1, h2])
        · go_wp2
          refine ⟨⟨by first | rfl | trivial, j + 1, hlt, by simp, ?_, ?_⟩, by simp [intOf]; omega⟩ <;> (rw [HTK.out]; simp [Stil.peakUp, h1, h2])
      · by_cases h2 : Q2 < S2
        · go_wp2
          refine ⟨⟨by first | rfl | trivial, j + 1, hlt, by simp, ?_, ?_⟩, by simp [intOf]; omega⟩ <;> (rw [HTK.out]; simp [Stil.peakUp, h1, h2])
        · go_wp2
          refine ⟨⟨by first | rfl | trivial, j + 1, hlt, by simp, ?_, ?_⟩, by simp [intOf]; omega⟩ <;> (rw [HTK.out]; simp [Stil.peakUp, h1, h2])
    · obtain rfl : j = t.length := by omega
      have HE : Hid (Stil.peakFrom (0, 0) (t.take t.length) = (P1, P2)) := by show _ = _; rw [List.take_length]; exact HPE.out.symm
      rw [HE.out]
      have hgd := HGD.out
      have hbd := HBD.out
      clear HE HPE HGD HBD HST
      have HFI3 : Hid (∀ W, Below wr.heap.size wr W → Below w.heap.size w W) := fun W h => HFIN.out W (hB3.trans (h.mono hB3.size))
      by_cases h0 : 0 < c1
      · go_wp2_with (go_at_call 7; refine (HCK.out _ (by (repeat (first | with_reducible exact Below.refl _ _ | with_reducible assumption | with_reducible refine bl_set (by first | exact Nat.le_refl _ | (simp; done) | (simp; omega) | omega) ?_ _ | with_reducible refine bl_alloc ?_ _ | with_reducible refine bl_drewN ?_ _ | with_reducible refine bl_drew ?_ | with_reducible refine bl_grow ?_ _ _ | with_reducible refine bl_call ?_ (by assumption))))).mono ?_; rintro e w4 ⟨rfl, hb4⟩; have y2 := (hb4.cell (p := ⟨bx, 0, none⟩) hbx).trans y0; have y3 := (hb4.cell (p := ⟨bx, 1, none⟩) hbx).trans y1; clear y0 y1)
        go_ret
        exact ⟨by first | rfl | simp, HFI3.out _ (by (repeat (first | with_reducible exact Below.refl _ _ | with_reducible assumption | with_reducible refine bl_set (by first | exact Nat.le_refl _ | (simp; done) | (simp; omega) | omega) ?_ _ | with_reducible refine bl_alloc ?_ _ | with_reducible refine bl_drewN ?_ _ | with_reducible refine bl_drew ?_ | with_reducible refine bl_grow ?_ _ _ | with_reducible refine bl_call ?_ (by assumption))))⟩
      · obtain rfl : c1 = 0 := by omega
        obtain ⟨g1, g2, g3⟩ := hgd rfl
        by_cases hl0 : l.length = 0
        · have HL0 : Hid (l.length = 0) := hl0
          have hl1 : ((l.length : Int) == 0) = true := by rw [hl0]; rfl
          clear hl0
          go_wp2_with (go_at_call 7; refine (HCK.out _ (by (repeat (first | with_reducible exact Below.refl _ _ | with_reducible assumption | with_reducible refine bl_set (by first | exact Nat.le_refl _ | (simp; done) | (simp; omega) | omega) ?_ _ | with_reducible refine bl_alloc ?_ _ | with_reducible refine bl_drewN ?_ _ | with_reducible refine bl_drew ?_ | with_reducible refine bl_grow ?_ _ _ | with_reducible refine bl_call ?_ (by assumption))))).mono ?_; rintro e w4 ⟨rfl, hb4⟩; have y2 := (hb4.cell (p := ⟨bx, 0, none⟩) hbx).trans y0; have y3 := (hb4.cell (p := ⟨bx, 1, none⟩) hbx).trans y1; clear y0 y1)
          go_ret
          exact ⟨by first | rfl | simp, HFI3.out _ (by (repeat (first | with_reducible exact Below.refl _ _ | with_reducible assumption | with_reducible refine bl_set (by first | exact Nat.le_refl _ | (simp; done) | (simp; omega) | omega) ?_ _ | with_reducible refine bl_alloc ?_ _ | with_reducible refine bl_drewN ?_ _ | with_reducible refine bl_drew ?_ | with_reducible refine bl_grow ?_ _ _ | with_reducible refine bl_call ?_ (by assumption))))⟩
        · have hl1 : ((l.length : Int) == 0) = false := by rw [beq_eq_false_iff_ne]; omega
          have g4 : 0 < P1 := by omega
          go_wp2_with (go_at_call 7; refine (HCK.out _ (by (repeat (first | with_reducible exact Below.refl _ _ | with_reducible assumption | with_reducible refine bl_set (by first | exact Nat.le_refl _ | (simp; done) | (simp; omega) | omega) ?_ _ | with_reducible refine bl_alloc ?_ _ | with_reducible refine bl_drewN ?_ _ | with_reducible refine bl_drew ?_ | with_reducible refine bl_grow ?_ _ _ | with_reducible refine bl_call ?_ (by assumption))))).mono ?_; rintro e w4 ⟨rfl, hb4⟩; have y2 := (hb4.cell (p := ⟨bx, 0, none⟩) hbx).trans y0; have y3 := (hb4.cell (p := ⟨bx, 1, none⟩) hbx).trans y1; clear y0 y1)
          go_ret
          exact ⟨by first | rfl | simp, HFI3.out _ (by (repeat (first | with_reducible exact Below.refl _ _ | with_reducible assumption | with_reducible refine bl_set (by first | exact Nat.le_refl _ | (simp; done) | (simp; omega) | omega) ?_ _ | with_reducible refine bl_alloc ?_ _ | with_reducible refine bl_drewN ?_ _ | with_reducible refine bl_drew ?_ | with_reducible refine bl_grow ?_ _ _ | with_reducible refine bl_call ?_ (by assumption))))⟩
end Go.Proofs.Ytbfkfdbkjbgneaa
