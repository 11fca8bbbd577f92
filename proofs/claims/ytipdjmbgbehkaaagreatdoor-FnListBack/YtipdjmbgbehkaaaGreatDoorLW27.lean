/- The law on lists that are written and read: the walk. -/
import Derived.Test.YtipdjmbgbehkaaaGreatDoorHt
import Derived.Test.YtipdjmbgbehkaaaGreatDoorHx
import Derived.Test.YtipdjmbgbehkaaaGreatDoorHv
import Derived.Test.YtipdjmbgbehkaaaGreatDoorGh
namespace Stil
def okTo (l : List Inst) (j : Nat) : Bool := decide (l.length ≤ 1000) && (l.take j).all listOk
theorem okTo_next (l : List Inst) (j : Nat) (h : j < l.length) : okTo l (j + 1) = (okTo l j && listOk l[j]) := by
  unfold okTo
  rw [List.take_succ_eq_append_getElem h, List.all_append, Bool.and_assoc]
  simp
theorem okTo_all (l : List Inst) : okTo l l.length = (decide (l.length ≤ 1000) && l.all listOk) := by unfold okTo; rw [List.take_length]
theorem listText_no {l : List Inst} (h : okTo l l.length = false) : listText l = [] := by
  rw [okTo_all] at h
  unfold listText
  rw [if_pos]
  by_cases h1 : 1000 < l.length
  · exact .inl h1
  · right
    have h2 : l.all listOk = false := by
      rw [decide_eq_true (by omega), Bool.true_and] at h
      exact h
    rw [List.all_eq_false] at h2
    obtain ⟨i, hi, hk⟩ := h2
    exact ⟨i, hi, by simpa using hk⟩
theorem okTo_parts {l : List Inst} (h : okTo l l.length = true) : l.length ≤ 1000 ∧ ∀ i ∈ l, listOk i = true := by
  rw [okTo_all, Bool.and_eq_true] at h
  exact ⟨of_decide_eq_true h.1, fun i hi => List.all_eq_true.1 h.2 i hi⟩
end Stil
namespace Go.Proofs.YtipdjmbgbehkaaaGreatDoor
open Go.RowKit Go.Sort Go.BigFrame
theorem parse_at {R : List Stil.Inst × Int × Int} {e : Ending} {w w' : World} (h : ParseOut R e w w') : ∃ (a : Option Addr) (c : Nat), e = .returned (.tuple #[.slice a R.1.length c, .agg #[.int .i64 R.2.1, .int .i64 R.2.2]]) ∧ InstsAt w' (.slice a R.1.length c) R.1 ∧ Below w.heap.size w w' := by
  obtain ⟨rv, us, rfl, hbt, hb⟩ := h
  have hfr := (rung_from hbt.1).at
  obtain ⟨a, c, hv⟩ := slice_of_owns hbt.1.2.1
  subst hv
  exact ⟨a, c, rfl, hfr, hb⟩
set_option maxHeartbeats 4000000 in
set_option maxRecDepth 100000 in
theorem law_listBack (u : Value) (w : World) (henv : Env w) (hu : BytesAt w u) :
    Calls Tryz.prog 3 #[u] w fun e w' => e = .returned (.bool true) ∧ Below w.heap.size w w' := by
  have HEN : Hid (∀ W, Below w.heap.size w W → Env W) := fun W h => henv.below h
  have HDU : Hid (∀ W, Below w.heap.size w W → Calls Tryz.prog 7 #[u] W fun e w' => HalfOut e W w') := fun W h => s_drawListText u W (hu.below h)
  obtain ⟨ua, ul, uc, rfl, -, -, -⟩ := hu
  clear henv
  by_cases hbig : 1048576 < ul
  · go_enter Tryz.func3, Tryz.ntmps3
    go_wp2
    go_ret
    exact ⟨rfl, by (repeat (first | with_reducible exact Below.refl _ _ | with_reducible assumption | with_reducible refine bl_set (by first | exact Nat.le_refl _ | (simp; done) | (simp; omega) | omega) ?_ _ | with_reducible refine bl_alloc ?_ _ | with_reducible refine bl_drewN ?_ _ | with_reducible refine bl_drew ?_ | with_reducible refine bl_grow ?_ _ _ | with_reducible refine bl_call ?_ (by assumption)))⟩
  go_enter Tryz.func3, Tryz.ntmps3
  go_upto_region 4 with (go_at_call 7; refine (HDU.out _ (by (repeat (first | with_reducible exact Below.refl _ _ | with_reducible assumption | with_reducible refine bl_set (by first | exact Nat.le_refl _ | (simp; done) | (simp; omega) | omega) ?_ _ | with_reducible refine bl_alloc ?_ _ | with_reducible refine bl_drewN ?_ _ | with_reducible refine bl_drew ?_ | with_reducible refine bl_grow ?_ _ _ | with_reducible refine bl_call ?_ (by assumption))))).mono ?_; rintro e w1 ⟨l, v1, rfl, hin1, ht1, hn1, hb1⟩)
  have HAT : Hid (∀ W, Below w1.heap.size w1 W → InstsAt W v1 l) := fun W h => hin1.at.below h
  have HFT : Hid (∀ x ∈ l, x.fits) := fun x hx => (ht1 x hx).1.fits
  have hB1 : Below w.heap.size w w1 := by (repeat (first | with_reducible exact Below.refl _ _ | with_reducible assumption | with_reducible refine bl_set (by first | exact Nat.le_refl _ | (simp; done) | (simp; omega) | omega) ?_ _ | with_reducible refine bl_alloc ?_ _ | with_reducible refine bl_drewN ?_ _ | with_reducible refine bl_drew ?_ | with_reducible refine bl_grow ?_ _ _ | with_reducible refine bl_call ?_ (by assumption)))
  have HE1 : Hid (∀ W, Below w1.heap.size w1 W → Env W) := fun W h => HEN.out W (hB1.trans (h.mono hB1.size))
  have HIT : Hid (∀ W, Below w1.heap.size w1 W → Calls Tryz.prog 8 #[v1] W fun e w' => e = .returned (.string ⟨(Stil.listText l).toArray⟩) ∧ Below W.heap.size W w') := fun W h => i_listText l v1 W (HE1.out W h).1 (HE1.out W h).2.1 (HE1.out W h).2.2.1 (HE1.out W h).2.2.2.1 (HAT.out W h) (by omega) HFT.out
  have HST : Hid (∀ W, Below w1.heap.size w1 W → Calls Tryz.prog 9 #[v1] W fun e w' => e = .returned (.string ⟨(Stil.listText l).toArray⟩) ∧ Below W.heap.size W w') := fun W h => s_listText l v1 W (HAT.out W h) (by omega) HFT.out
  have HFIN : Hid (∀ W, Below w1.heap.size w1 W → Below w.heap.size w W) := fun W h => hB1.trans (h.mono hB1.size)
  obtain ⟨a1, c1, rfl, hcp, hc1⟩ := hin1
  have HC : Hid (∀ i (h : i < l.length), ∃ b o, a1 = some ⟨b, o, none⟩ ∧ b < w1.heap.size ∧ InstAt w1 b (o + i * 3) l[i]) := fun i hi => by
    obtain ⟨a', c', e, hx⟩ := HAT.out w1 (Below.refl _ _)
    cases e
    exact hx i hi
  have htl := Stil.listText_len l
  have HNO : Hid (Stil.okTo l l.length = false → Stil.listText l = []) := Stil.listText_no
  have HYE : Hid (Stil.okTo l l.length = true → Stil.listText l = Stil.linesText l ∧ Stil.listParse (Stil.linesText l) = (l, 0, 0)) := fun h => ⟨Stil.listText_ok (Stil.okTo_parts h).2 (Stil.okTo_parts h).1, Stil.list_back (Stil.okTo_parts h).2 (Stil.okTo_parts h).1⟩
  obtain ⟨T, hT⟩ : ∃ T, T = Stil.listText l := ⟨_, rfl⟩
  have HTL : Hid (T = Stil.listText l) := hT
  rw [← hT] at HIT HST HNO HYE htl
  obtain ⟨n, hn⟩ : ∃ n, n = l.length := ⟨_, rfl⟩
  have HN : Hid (n = l.length) := hn
  rw [← hn] at hn1 HIT HST HAT ⊢
  have HOK0 : Hid (Stil.okTo l 0 = decide ((n : Int) ≤ 1000)) := by
    show _ = _
    unfold Stil.okTo
    rw [hn]
    simp
    omega
  clear hT hn ht1 hb1 HEN HDU hc1 hcp
  go_upto_region 8 with (first | (go_at_call 8; refine (HIT.out _ (by (repeat (first | with_reducible exact Below.refl _ _ | with_reducible assumption | with_reducible refine bl_set (by first | exact Nat.le_refl _ | (simp; done) | (simp; omega) | omega) ?_ _ | with_reducible refine bl_alloc ?_ _ | with_reducible refine bl_drewN ?_ _ | with_reducible refine bl_drew ?_ | with_reducible refine bl_grow ?_ _ _ | with_reducible refine bl_call ?_ (by assumption))))).mono ?_; rintro e w2 ⟨rfl, hb2⟩) | (go_at_call 9; refine (HST.out _ (by (repeat (first | with_reducible exact Below.refl _ _ | with_reducible assumption | with_reducible refine bl_set (by first | exact Nat.le_refl _ | (simp; done) | (simp; omega) | omega) ?_ _ | with_reducible refine bl_alloc ?_ _ | with_reducible refine bl_drewN ?_ _ | with_reducible refine bl_drew ?_ | with_reducible refine bl_grow ?_ _ _ | with_reducible refine bl_call ?_ (by assumption))))).mono ?_; rintro e w3 ⟨rfl, hb3⟩))
  have hB3 : Below w1.heap.size w1 w3 := by (repeat (first | with_reducible exact Below.refl _ _ | with_reducible assumption | with_reducible refine bl_set (by first | exact Nat.le_refl _ | (simp; done) | (simp; omega) | omega) ?_ _ | with_reducible refine bl_alloc ?_ _ | with_reducible refine bl_drewN ?_ _ | with_reducible refine bl_drew ?_ | with_reducible refine bl_grow ?_ _ _ | with_reducible refine bl_call ?_ (by assumption)))
  clear hb2 hb3 HST
  go_wp2
  go_loopw [5, 6] (fun kv iv wr => ∃ j : Nat, j ≤ n ∧ iv = .int .i64 (j : Int) ∧ kv = .bool (Stil.okTo l j) ∧ Below w1.heap.size w1 wr) (fun _ iv _ => n - (intOf iv).toNat)
  case atStart => exact ⟨0, Nat.zero_le _, rfl, by rw [HOK0.out], hB3⟩
  case round =>
    obtain ⟨j, hj, rfl, rfl, hB⟩ := hrel
    by_cases hlt : j < n
    · have hlt' : j < l.length := by have := HN.out; omega
      have hnx := Stil.okTo_next l j hlt'
      obtain ⟨b, o, rfl, hbl, hn0⟩ := HC.out j hlt'
      obtain ⟨x0, x1, kav, x2, hav⟩ := hn0.below hB hbl
      have hfx := HFT.out _ (List.getElem_mem hlt')
      have HKI : Hid (∀ W, Below wr.heap.size wr W → Calls Tryz.prog 10 #[.agg #[.int .i64 l[j].code, .int .i64 l[j].one.op, kav]] W fun e w' => e = .returned (.bool (Stil.listOk l[j])) ∧ Below W.heap.size W w') := fun W h => s_listOk l[j] kav W (hav.below h) hfx
      obtain ⟨I, hI⟩ : ∃ I, I = l[j] := ⟨_, rfl⟩
      rw [← hI] at x0 x1 HKI hnx
      obtain ⟨t0, u0, rfl, _⟩ := hav
      obtain ⟨ok, hok⟩ : ∃ k, k = Stil.listOk I := ⟨_, rfl⟩
      rw [← hok] at HKI hnx
      obtain ⟨kj, hkj⟩ : ∃ k, k = Stil.okTo l j := ⟨_, rfl⟩
      rw [← hkj] at hnx ⊢
      have HNX : Hid (Stil.okTo l (j + 1) = (kj && ok)) := hnx
      have hbr : b < wr.heap.size := Nat.lt_of_lt_of_le hbl hB.size
      have hwj : IntKind.i64.wrap ((j : Int) + 1) = (j : Int) + 1 := by rw [IntKind.wrap_i64]; omega
      clear hI hok hkj hnx hn0 hfx
      cases kj
      · go_wp2
        exact ⟨⟨j + 1, by omega, by simp, by rw [HNX.out]; rfl, hB⟩, by simp [intOf]; omega⟩
      · go_wp2_with (go_at_call 10; refine (HKI.out _ (by (repeat (first | with_reducible exact Below.refl _ _ | with_reducible assumption | with_reducible refine bl_set (by first | exact Nat.le_refl _ | (simp; done) | (simp; omega) | omega) ?_ _ | with_reducible refine bl_alloc ?_ _ | with_reducible refine bl_drewN ?_ _ | with_reducible refine bl_drew ?_ | with_reducible refine bl_grow ?_ _ _ | with_reducible refine bl_call ?_ (by assumption))))).mono ?_; rintro e w5 ⟨rfl, hb5⟩)
        exact ⟨⟨j + 1, by omega, by simp, by rw [HNX.out]; rfl, bl_call hB hb5⟩, by simp [intOf]; omega⟩
    · obtain rfl : j = n := by omega
      have hfinal : j = l.length := HN.out
      cases hk : Stil.okTo l j
      · have HTE : Hid (T = []) := HNO.out (by rw [← hfinal]; exact hk)
        have hte := HTE.out
        subst hte
        go_wp2
        go_ret
        exact ⟨rfl, HFIN.out _ hB⟩
      · by_cases hz : j = 0
        · have HTE : Hid (T = []) := by
            show _ = _
            rw [(HYE.out (by rw [← hfinal]; exact hk)).1]
            have : l = [] := List.length_eq_zero_iff.1 (by omega)
            rw [this]; rfl
          have hte := HTE.out
          subst hte
          subst hz
          go_wp2
          go_ret
          exact ⟨rfl, HFIN.out _ hB⟩
        · obtain ⟨hy1, hy2⟩ := HYE.out (by rw [← hfinal]; exact hk)
          have HPR : Hid (∀ W, Below w1.heap.size w1 W → Calls Tryz.prog 11 #[.string ⟨T.toArray⟩] W fun e w' => ∃ (a : Option Addr) (c : Nat), e = .returned (.tuple #[.slice a j c, .agg #[.int .i64 0, .int .i64 0]]) ∧ InstsAt w' (.slice a j c) l ∧ Below W.heap.size W w') := fun W h => by
            refine (i_listParse T W (HE1.out W h) (by omega)).mono fun e w' ho => ?_
            rw [hy1, hy2] at ho
            have := parse_at ho
            rw [HN.out]
            exact this
          have hjz : ((j : Int) == 0) = false := by rw [beq_eq_false_iff_ne]; omega
          clear hy1 hy2 HNO HYE hfinal hk
          go_upto_region 15 with (go_at_call 11; refine (HPR.out _ (by (repeat (first | with_reducible exact Below.refl _ _ | with_reducible assumption | with_reducible refine bl_set (by first | exact Nat.le_refl _ | (simp; done) | (simp; omega) | omega) ?_ _ | with_reducible refine bl_alloc ?_ _ | with_reducible refine bl_drewN ?_ _ | with_reducible refine bl_drew ?_ | with_reducible refine bl_grow ?_ _ _ | with_reducible refine bl_call ?_ (by assumption))))).mono ?_; rintro e w7 ⟨a7, c7, rfl, hat7, hb7⟩)
          obtain ⟨V, hV⟩ : ∃ V, V = w7.alloc (.cells #[.int .i64 0, .int .i64 0] 33) := ⟨_, rfl⟩
          have h7V : Below w7.heap.size w7 V := by rw [hV]; exact below_alloc _ _
          have k0 : V.cell? ⟨w7.heap.size, 0, none⟩ = some (.int .i64 0) := by rw [hV]; simp [go_sem]
          have k1 : V.cell? ⟨w7.heap.size, 1, none⟩ = some (.int .i64 0) := by rw [hV]; simp [go_sem]
          have hBV : Below w1.heap.size w1 V := bl_call (bl_call hB hb7) h7V
          have HA7 : Hid (∀ W, Below V.heap.size V W → InstsAt W (.slice a7 j c7) l) := fun W h => (hat7.below h7V).below h
          have HSM : Hid (∀ W, Below V.heap.size V W → Calls Tryz.prog 12 #[.slice a7 j c7, .slice a1 j c1] W fun e w' => e = .returned (.bool true) ∧ Below W.heap.size W w') := fun W h => by
            have := i_listSame l l _ _ W (HA7.out W h) (HAT.out W (hBV.trans (h.mono hBV.size))) HFT.out HFT.out (by have := HN.out; omega) (by have := HN.out; omega)
            refine this.mono ?_
            rintro e w' ⟨rfl, hb⟩
            exact ⟨by simp, hb⟩
          have HTX : Hid (∀ W, Below V.heap.size V W → Calls Tryz.prog 8 #[.slice a7 j c7] W fun e w' => e = .returned (.string ⟨T.toArray⟩) ∧ Below W.heap.size W w') := fun W h => by
            have he := HE1.out W (hBV.trans (h.mono hBV.size))
            rw [HTL.out]
            exact i_listText l _ W he.1 he.2.1 he.2.2.1 he.2.2.2.1 (HA7.out W h) (by have := HN.out; omega) HFT.out
          rw [← hV]
          clear hV hat7 hb7 h7V
          go_wp2_with (first | (go_at_call 12; refine (HSM.out _ (by (repeat (first | with_reducible exact Below.refl _ _ | with_reducible assumption | with_reducible refine bl_set (by first | exact Nat.le_refl _ | (simp; done) | (simp; omega) | omega) ?_ _ | with_reducible refine bl_alloc ?_ _ | with_reducible refine bl_drewN ?_ _ | with_reducible refine bl_drew ?_ | with_reducible refine bl_grow ?_ _ _ | with_reducible refine bl_call ?_ (by assumption))))).mono ?_; rintro e w8 ⟨rfl, hb8⟩) | (go_at_call 8; refine (HTX.out _ (by (repeat (first | with_reducible exact Below.refl _ _ | with_reducible assumption | with_reducible refine bl_set (by first | exact Nat.le_refl _ | (simp; done) | (simp; omega) | omega) ?_ _ | with_reducible refine bl_alloc ?_ _ | with_reducible refine bl_drewN ?_ _ | with_reducible refine bl_drew ?_ | with_reducible refine bl_grow ?_ _ _ | with_reducible refine bl_call ?_ (by assumption))))).mono ?_; rintro e w9 ⟨rfl, hb9⟩))
          go_ret
          exact ⟨rfl, HFIN.out _ (by (repeat (first | with_reducible exact Below.refl _ _ | with_reducible assumption | with_reducible refine bl_set (by first | exact Nat.le_refl _ | (simp; done) | (simp; omega) | omega) ?_ _ | with_reducible refine bl_alloc ?_ _ | with_reducible refine bl_drewN ?_ _ | with_reducible refine bl_drew ?_ | with_reducible refine bl_grow ?_ _ _ | with_reducible refine bl_call ?_ (by assumption))))⟩
end Go.Proofs.YtipdjmbgbehkaaaGreatDoor
