/- The law on lines: the walk. -/
import Derived.Test.YtipdjmbgbehkaaaGreatDoorLW27
namespace Go.Proofs.YtipdjmbgbehkaaaGreatDoor
open Go.RowKit Go.Sort Go.BigFrame
/-- A slice of one of a list's instructions. -/
theorem insts_one {W : World} {b o cap : Nat} {i : Stil.Inst} (h : InstAt W b o i) (hb : b < W.heap.size) : InstsAt W (.slice (some ⟨b, o, none⟩) 1 cap) [i] :=
  ⟨some ⟨b, o, none⟩, cap, rfl, fun k hk => by
    have hk0 : k = 0 := by simp at hk; exact hk
    subst hk0
    exact ⟨b, o, rfl, hb, by simpa using h⟩⟩
set_option maxHeartbeats 4000000 in
set_option maxRecDepth 100000 in
theorem law_listLine (u : Value) (w : World) (henv : Env w) (hu : BytesAt w u) :
    Calls Tryz.prog 5 #[u] w fun e w' => e = .returned (.bool true) ∧ Below w.heap.size w w' := by
  have HEN : Hid (∀ W, Below w.heap.size w W → Env W) := fun W h => henv.below h
  have HDU : Hid (∀ W, Below w.heap.size w W → Calls Tryz.prog 18 #[u] W fun e w' => LineNew e W w') := fun W h => s_drawListLine u W (hu.below h)
  have HDS : Hid (∀ W, Below w.heap.size w W → Calls Tryz.prog 20 #[u] W fun e w' => PairNew e W w') := fun W h => s_drawListSame u W (hu.below h)
  obtain ⟨ua, ul, uc, rfl, -, -, -⟩ := hu
  clear henv
  by_cases hbig : 1048576 < ul
  · go_enter Tryz.func5, Tryz.ntmps5
    go_wp2
    go_ret
    exact ⟨rfl, by (repeat (first | with_reducible exact Below.refl _ _ | with_reducible assumption | with_reducible refine bl_set (by first | exact Nat.le_refl _ | (simp; done) | (simp; omega) | omega) ?_ _ | with_reducible refine bl_alloc ?_ _ | with_reducible refine bl_drewN ?_ _ | with_reducible refine bl_drew ?_ | with_reducible refine bl_grow ?_ _ _ | with_reducible refine bl_call ?_ (by assumption)))⟩
  go_enter Tryz.func5, Tryz.ntmps5
  go_upto_region 4 with (go_at_call 18; refine (HDU.out _ (by (repeat (first | with_reducible exact Below.refl _ _ | with_reducible assumption | with_reducible refine bl_set (by first | exact Nat.le_refl _ | (simp; done) | (simp; omega) | omega) ?_ _ | with_reducible refine bl_alloc ?_ _ | with_reducible refine bl_drewN ?_ _ | with_reducible refine bl_drew ?_ | with_reducible refine bl_grow ?_ _ _ | with_reducible refine bl_call ?_ (by assumption))))).mono ?_; rintro e w1 ⟨I, av, rfl, hav, hft, hb1⟩; have hav2 := hav; obtain ⟨at0, au0, hae, -⟩ := hav2; subst hae)
  have hB1 : Below w.heap.size w w1 := by (repeat (first | with_reducible exact Below.refl _ _ | with_reducible assumption | with_reducible refine bl_set (by first | exact Nat.le_refl _ | (simp; done) | (simp; omega) | omega) ?_ _ | with_reducible refine bl_alloc ?_ _ | with_reducible refine bl_drewN ?_ _ | with_reducible refine bl_drew ?_ | with_reducible refine bl_grow ?_ _ _ | with_reducible refine bl_call ?_ (by assumption)))
  obtain ⟨V1, hV1⟩ : ∃ V, V = w1.alloc (.cells #[.int .i64 I.code, .int .i64 I.one.op, (.slice at0 I.one.args.length au0)] 31) := ⟨_, rfl⟩
  have h1V : Below w1.heap.size w1 V1 := by rw [hV1]; exact below_alloc _ _
  have z0 : V1.cell? ⟨w1.heap.size, 0, none⟩ = some (.int .i64 I.code) := by rw [hV1]; simp [go_sem]
  have z1 : V1.cell? ⟨w1.heap.size, 1, none⟩ = some (.int .i64 I.one.op) := by rw [hV1]; simp [go_sem]
  have z2 : V1.cell? ⟨w1.heap.size, 2, none⟩ = some (.slice at0 I.one.args.length au0) := by rw [hV1]; simp [go_sem]
  have HZ : Hid (∀ W, Below V1.heap.size V1 W → W.cell? ⟨w1.heap.size, 0, none⟩ = some (.int .i64 I.code) ∧ W.cell? ⟨w1.heap.size, 1, none⟩ = some (.int .i64 I.one.op) ∧ W.cell? ⟨w1.heap.size, 2, none⟩ = some (.slice at0 I.one.args.length au0)) := fun W h => ⟨(h.cell (World.block_lt_of_cell? _ _ z0)).trans z0, (h.cell (World.block_lt_of_cell? _ _ z1)).trans z1, (h.cell (World.block_lt_of_cell? _ _ z2)).trans z2⟩
  have HAV : Hid (∀ W, Below V1.heap.size V1 W → DevsAt W (.slice at0 I.one.args.length au0) I.one.args) := fun W h => (hav.below h1V).below h
  have hBV : Below w.heap.size w V1 := bl_call hB1 h1V
  have HE1 : Hid (∀ W, Below V1.heap.size V1 W → Env W) := fun W h => HEN.out W (hBV.trans (h.mono hBV.size))
  have HFIN : Hid (∀ W, Below V1.heap.size V1 W → Below w.heap.size w W) := fun W h => hBV.trans (h.mono hBV.size)
  have HD1 : Hid (∀ W, Below V1.heap.size V1 W → Calls Tryz.prog 20 #[.slice ua ul uc] W fun e w' => PairNew e W w') := fun W h => HDS.out W (hBV.trans (h.mono hBV.size))
  have HIL : Hid (∀ W, Below V1.heap.size V1 W → Calls Tryz.prog 17 #[.agg #[.int .i64 I.code, .int .i64 I.one.op, (.slice at0 I.one.args.length au0)]] W fun e w' => e = .returned (.string ⟨(Stil.lineText I).toArray⟩) ∧ Below W.heap.size W w') := fun W h => by
    have he := HE1.out W h
    exact i_listLine I _ W he.1 he.2.1 he.2.2.1 he.2.2.2.1 (HAV.out W h) hft
  have HSL : Hid (∀ W, Below V1.heap.size V1 W → Calls Tryz.prog 19 #[.agg #[.int .i64 I.code, .int .i64 I.one.op, (.slice at0 I.one.args.length au0)]] W fun e w' => e = .returned (.string ⟨(Stil.lineText I).toArray⟩) ∧ Below W.heap.size W w') := fun W h => s_listLine I _ W (HAV.out W h) hft
  have HSO : Hid (∀ W, Below V1.heap.size V1 W → Calls Tryz.prog 10 #[.agg #[.int .i64 I.code, .int .i64 I.one.op, (.slice at0 I.one.args.length au0)]] W fun e w' => e = .returned (.bool (Stil.listOk I)) ∧ Below W.heap.size W w') := fun W h => s_listOk I _ W (HAV.out W h) hft
  have HBK : Hid (Stil.listOk I = true → Stil.listParse (Stil.lineText I) = ([I], 0, 0)) := Stil.line_back
  have HFI : Hid I.fits := hft
  have hse := Stil.line_empty I
  have hsl := Stil.line_short I
  obtain ⟨S, hS⟩ : ∃ S, S = Stil.lineText I := ⟨_, rfl⟩
  rw [← hS] at HIL HSL HBK hse hsl
  obtain ⟨ok, hok⟩ : ∃ k, k = Stil.listOk I := ⟨_, rfl⟩
  rw [← hok] at HSO HBK hse
  rw [← hV1]
  clear hS hok hV1 hB1 h1V hBV hb1 HEN HDU HDS
  go_upto_region 7 with (first | (go_at_call 17; refine (HIL.out _ (by (repeat (first | with_reducible exact Below.refl _ _ | with_reducible assumption | with_reducible refine bl_set (by first | exact Nat.le_refl _ | (simp; done) | (simp; omega) | omega) ?_ _ | with_reducible refine bl_alloc ?_ _ | with_reducible refine bl_drewN ?_ _ | with_reducible refine bl_drew ?_ | with_reducible refine bl_grow ?_ _ _ | with_reducible refine bl_call ?_ (by assumption))))).mono ?_; rintro e w4 ⟨rfl, hb4⟩; clear z0 z1 z2; obtain ⟨z0, z1, z2⟩ := HZ.out w4 (by (repeat (first | with_reducible exact Below.refl _ _ | with_reducible assumption | with_reducible refine bl_set (by first | exact Nat.le_refl _ | (simp; done) | (simp; omega) | omega) ?_ _ | with_reducible refine bl_alloc ?_ _ | with_reducible refine bl_drewN ?_ _ | with_reducible refine bl_drew ?_ | with_reducible refine bl_grow ?_ _ _ | with_reducible refine bl_call ?_ (by assumption))))) | (go_at_call 19; refine (HSL.out _ (by (repeat (first | with_reducible exact Below.refl _ _ | with_reducible assumption | with_reducible refine bl_set (by first | exact Nat.le_refl _ | (simp; done) | (simp; omega) | omega) ?_ _ | with_reducible refine bl_alloc ?_ _ | with_reducible refine bl_drewN ?_ _ | with_reducible refine bl_drew ?_ | with_reducible refine bl_grow ?_ _ _ | with_reducible refine bl_call ?_ (by assumption))))).mono ?_; rintro e w5 ⟨rfl, hb5⟩; clear z0 z1 z2; obtain ⟨z0, z1, z2⟩ := HZ.out w5 (by (repeat (first | with_reducible exact Below.refl _ _ | with_reducible assumption | with_reducible refine bl_set (by first | exact Nat.le_refl _ | (simp; done) | (simp; omega) | omega) ?_ _ | with_reducible refine bl_alloc ?_ _ | with_reducible refine bl_drewN ?_ _ | with_reducible refine bl_drew ?_ | with_reducible refine bl_grow ?_ _ _ | with_reducible refine bl_call ?_ (by assumption))))) | (go_at_call 10; refine (HSO.out _ (by (repeat (first | with_reducible exact Below.refl _ _ | with_reducible assumption | with_reducible refine bl_set (by first | exact Nat.le_refl _ | (simp; done) | (simp; omega) | omega) ?_ _ | with_reducible refine bl_alloc ?_ _ | with_reducible refine bl_drewN ?_ _ | with_reducible refine bl_drew ?_ | with_reducible refine bl_grow ?_ _ _ | with_reducible refine bl_call ?_ (by assumption))))).mono ?_; rintro e w6 ⟨rfl, hb6⟩))
  have hB6 : Below V1.heap.size V1 w6 := by (repeat (first | with_reducible exact Below.refl _ _ | with_reducible assumption | with_reducible refine bl_set (by first | exact Nat.le_refl _ | (simp; done) | (simp; omega) | omega) ?_ _ | with_reducible refine bl_alloc ?_ _ | with_reducible refine bl_drewN ?_ _ | with_reducible refine bl_drew ?_ | with_reducible refine bl_grow ?_ _ _ | with_reducible refine bl_call ?_ (by assumption)))
  clear hb4 hb5 hb6 HIL HSL HSO z0 z1 z2
  go_upto_region 8 with (go_at_call 20; refine (HD1.out _ (by (repeat (first | with_reducible exact Below.refl _ _ | with_reducible assumption | with_reducible refine bl_set (by first | exact Nat.le_refl _ | (simp; done) | (simp; omega) | omega) ?_ _ | with_reducible refine bl_alloc ?_ _ | with_reducible refine bl_drewN ?_ _ | with_reducible refine bl_drew ?_ | with_reducible refine bl_grow ?_ _ _ | with_reducible refine bl_call ?_ (by assumption))))).mono ?_; rintro e w7 ⟨la, lb, pa, pb, ca, cb, rfl, hia, hib, hfa, hfb, hla, hlb, hb7⟩)
  have hB7 : Below V1.heap.size V1 w7 := by (repeat (first | with_reducible exact Below.refl _ _ | with_reducible assumption | with_reducible refine bl_set (by first | exact Nat.le_refl _ | (simp; done) | (simp; omega) | omega) ?_ _ | with_reducible refine bl_alloc ?_ _ | with_reducible refine bl_drewN ?_ _ | with_reducible refine bl_drew ?_ | with_reducible refine bl_grow ?_ _ _ | with_reducible refine bl_call ?_ (by assumption)))
  have HFA : Hid (∀ x ∈ la, x.fits) := hfa
  have HFB : Hid (∀ x ∈ lb, x.fits) := hfb
  have HAA : Hid (∀ W, Below w7.heap.size w7 W → InstsAt W (.slice pa la.length ca) la) := fun W h => hia.at.below h
  have HAB : Hid (∀ W, Below w7.heap.size w7 W → InstsAt W (.slice pb lb.length cb) lb) := fun W h => hib.at.below h
  have hca : la.length ≤ ca := by
    obtain ⟨_, _, e, h, _⟩ := hia
    cases e
    exact h.1
  have hcb : lb.length ≤ cb := by
    obtain ⟨_, _, e, h, _⟩ := hib
    cases e
    exact h.1
  have HE7 : Hid (∀ W, Below w7.heap.size w7 W → Env W) := fun W h => HE1.out W (hB7.trans (h.mono hB7.size))
  have HCA : Hid (∀ W, Below w7.heap.size w7 W → ∀ i (h : i < la.length), ∃ b o, pa = some ⟨b, o, none⟩ ∧ b < W.heap.size ∧ InstAt W b (o + i * 3) la[i]) := fun W h i hi => by
    obtain ⟨a', c', e, hx⟩ := HAA.out W h
    cases e
    exact hx i hi
  have HCB : Hid (∀ W, Below w7.heap.size w7 W → ∀ i (h : i < lb.length), ∃ b o, pb = some ⟨b, o, none⟩ ∧ b < W.heap.size ∧ InstAt W b (o + i * 3) lb[i]) := fun W h i hi => by
    obtain ⟨a', c', e, hx⟩ := HAB.out W h
    cases e
    exact hx i hi
  have HZ7 : Hid (∀ W, Below w7.heap.size w7 W → Below V1.heap.size V1 W) := fun W h => hB7.trans (h.mono hB7.size)
  obtain ⟨na, hna⟩ : ∃ n, n = la.length := ⟨_, rfl⟩
  obtain ⟨nb, hnb⟩ : ∃ n, n = lb.length := ⟨_, rfl⟩
  have HNA : Hid (na = la.length) := hna
  have HNB : Hid (nb = lb.length) := hnb
  rw [← hna] at hla hca ⊢
  rw [← hnb] at hlb hcb ⊢
  clear hna hnb hia hib hfa hfb hb7 hB6 HD1 HE1 HAA HAB
  go_wp2
  go_loopw [7] (fun iv wr => ∃ j : Nat, (j ≤ na ∨ j ≤ nb) ∧ iv = .int .i64 (j : Int) ∧ Below w7.heap.size w7 wr) (fun iv _ => na + nb - (intOf iv).toNat)
  case atStart => exact ⟨0, .inl (Nat.zero_le _), rfl, Below.refl _ _⟩
  case round =>
    obtain ⟨j, hj, rfl, hB⟩ := hrel
    by_cases hlt : j < na ∧ j < nb
    · obtain ⟨ha, hb⟩ := hlt
      have ha' : j < la.length := by have := HNA.out; omega
      have hb' : j < lb.length := by have := HNB.out; omega
      obtain ⟨ba, oa, rfl, hba, hia⟩ := HCA.out wr hB j ha'
      obtain ⟨bb, ob, rfl, hbb, hib⟩ := HCB.out wr hB j hb'
      have hfa := HFA.out _ (List.getElem_mem ha')
      have hfb := HFB.out _ (List.getElem_mem hb')
      obtain ⟨A, hA⟩ : ∃ I, I = la[j] := ⟨_, rfl⟩
      obtain ⟨B, hBe⟩ : ∃ I, I = lb[j] := ⟨_, rfl⟩
      rw [← hA] at hia hfa
      rw [← hBe] at hib hfb
      clear hA hBe
      have HIA : Hid (∀ W, Below wr.heap.size wr W → InstAt W ba (oa + j * 3) A) := fun W h => hia.below h hba
      have HIB : Hid (∀ W, Below wr.heap.size wr W → InstAt W bb (ob + j * 3) B) := fun W h => hib.below h hbb
      obtain ⟨p0, p1, va, p2, hva⟩ := hia
      obtain ⟨q0, q1, vb, q2, hvb⟩ := hib
      have HLA : Hid (∀ W, Below wr.heap.size wr W → Calls Tryz.prog 17 #[.agg #[.int .i64 A.code, .int .i64 A.one.op, va]] W fun e w' => e = .returned (.string ⟨(Stil.lineText A).toArray⟩) ∧ Below W.heap.size W w') := fun W h => by
        have he := HE7.out W (hB.trans (h.mono hB.size))
        exact i_listLine A va W he.1 he.2.1 he.2.2.1 he.2.2.2.1 (hva.below h) hfa
      have HLB : Hid (∀ W, Below wr.heap.size wr W → Calls Tryz.prog 17 #[.agg #[.int .i64 B.code, .int .i64 B.one.op, vb]] W fun e w' => e = .returned (.string ⟨(Stil.lineText B).toArray⟩) ∧ Below W.heap.size W w') := fun W h => by
        have he := HE7.out W (hB.trans (h.mono hB.size))
        exact i_listLine B vb W he.1 he.2.1 he.2.2.1 he.2.2.2.1 (hvb.below h) hfb
      obtain ⟨D, hD⟩ : ∃ D : Bool, (D = true ↔ A = B) := by
        classical
        exact ⟨decide (A = B), by simp⟩
      have HSM : Hid (∀ W, Below wr.heap.size wr W → ∀ c c', Calls Tryz.prog 12 #[.slice (some ⟨ba, oa + j * 3, none⟩) 1 c, .slice (some ⟨bb, ob + j * 3, none⟩) 1 c'] W fun e w' => e = .returned (.bool D) ∧ Below W.heap.size W w') := fun W h c c' => by
        have := i_listSame [A] [B] _ _ W (insts_one (cap := c) (HIA.out W h) (Nat.lt_of_lt_of_le hba h.size)) (insts_one (cap := c') (HIB.out W h) (Nat.lt_of_lt_of_le hbb h.size)) (by simpa using hfa) (by simpa using hfb) (by simp) (by simp)
        refine this.mono ?_
        rintro e w' ⟨rfl, hb⟩
        refine ⟨?_, hb⟩
        congr 2
        rw [Bool.eq_iff_iff, hD]
        simp
      have HQ : Hid (∀ W, Below wr.heap.size wr W → W.cell? ⟨bb, ob + j * 3, none⟩ = some (.int .i64 B.code) ∧ W.cell? ⟨bb, ob + j * 3 + 1, none⟩ = some (.int .i64 B.one.op) ∧ W.cell? ⟨bb, ob + j * 3 + 2, none⟩ = some vb) := fun W h => ⟨(h.cell hbb).trans q0, (h.cell hbb).trans q1, (h.cell hbb).trans q2⟩
      have hwj : IntKind.i64.wrap ((j : Int) + 1) = ((j + 1 : Nat) : Int) := by rw [IntKind.wrap_i64]; omega
      have HIN : Hid (Stil.lineText A ≠ [] → (Stil.lineText A = Stil.lineText B ↔ A = B)) := Stil.line_inj
      obtain ⟨X, hX⟩ : ∃ X, X = Stil.lineText A := ⟨_, rfl⟩
      obtain ⟨Y, hY⟩ : ∃ X, X = Stil.lineText B := ⟨_, rfl⟩
      rw [← hX] at HLA HIN
      rw [← hY] at HLB HIN
      obtain ⟨ta, ua, rfl, _⟩ := hva
      obtain ⟨tb, ub, rfl, _⟩ := hvb
      clear hX hY hfa hfb HIA HIB
      go_upto_region 12 with (go_at_call 17; refine (HLA.out _ (by (repeat (first | with_reducible exact Below.refl _ _ | with_reducible assumption | with_reducible refine bl_set (by first | exact Nat.le_refl _ | (simp; done) | (simp; omega) | omega) ?_ _ | with_reducible refine bl_alloc ?_ _ | with_reducible refine bl_drewN ?_ _ | with_reducible refine bl_drew ?_ | with_reducible refine bl_grow ?_ _ _ | with_reducible refine bl_call ?_ (by assumption))))).mono ?_; rintro e w11 ⟨rfl, hb11⟩)
      clear p0 p1 p2 q0 q1 q2
      obtain ⟨q0, q1, q2⟩ := HQ.out w11 (by (repeat (first | with_reducible exact Below.refl _ _ | with_reducible assumption | with_reducible refine bl_set (by first | exact Nat.le_refl _ | (simp; done) | (simp; omega) | omega) ?_ _ | with_reducible refine bl_alloc ?_ _ | with_reducible refine bl_drewN ?_ _ | with_reducible refine bl_drew ?_ | with_reducible refine bl_grow ?_ _ _ | with_reducible refine bl_call ?_ (by assumption))))
      have HNX : Hid (∀ W, Below w11.heap.size w11 W → Below w7.heap.size w7 W) := fun W h => (bl_call hB hb11).trans (h.mono (bl_call hB hb11).size)
      by_cases hx : X = []
      · subst hx
        refine wp_region_quiet_below (by kernel_rfl) (by kernel_rfl) ?_
        repeat (go_big_quiet_step ((fail)))
        refine wpQuiet_nil ?_
        intro _ hw'
        obtain ⟨⟨dq, osq⟩, hw''⟩ := hw'
        subst hw''
        go_wp2
        exact ⟨⟨j + 1, .inl ha, by simp, HNX.out _ (by (repeat (first | with_reducible exact Below.refl _ _ | with_reducible assumption | with_reducible refine bl_set (by first | exact Nat.le_refl _ | (simp; done) | (simp; omega) | omega) ?_ _ | with_reducible refine bl_alloc ?_ _ | with_reducible refine bl_drewN ?_ _ | with_reducible refine bl_drew ?_ | with_reducible refine bl_grow ?_ _ _ | with_reducible refine bl_call ?_ (by assumption))))⟩, by simp [intOf]; omega⟩
      · have hne : X.isEmpty = false := by cases X with | nil => exact absurd rfl hx | cons a r => rfl
        have hin := HIN.out hx
        have hxy : (X == Y) = D := Bool.eq_iff_iff.2 (by rw [hD, beq_iff_eq]; exact hin)
        clear hx hin HIN hD
        have r0 := cell_regrown q0
        have r1 := cell_regrown q1
        have r2 := cell_regrown q2
        have hb11 : Below wr.heap.size wr w11 := by (repeat (first | with_reducible exact Below.refl _ _ | with_reducible assumption | with_reducible refine bl_set (by first | exact Nat.le_refl _ | (simp; done) | (simp; omega) | omega) ?_ _ | with_reducible refine bl_alloc ?_ _ | with_reducible refine bl_drewN ?_ _ | with_reducible refine bl_drew ?_ | with_reducible refine bl_grow ?_ _ _ | with_reducible refine bl_call ?_ (by assumption)))
        clear q0 q1 q2
        refine wp_region_quiet_below (by kernel_rfl) (by kernel_rfl) ?_
        repeat (go_big_quiet_step ((first | exact Calls.regrown_of (HLB.out _ (hb11.trans ((below_regrown _ _ _).mono hb11.size))) | exact Calls.regrown_of (HSM.out _ (hb11.trans ((below_regrown _ _ _).mono hb11.size)) _ _))))
        refine wpQuiet_nil ?_
        intro _ hw'
        obtain ⟨⟨dq, osq⟩, hw''⟩ := hw'
        subst hw''
        go_wp2
        exact ⟨⟨j + 1, .inl ha, by simp, HNX.out _ (by (repeat (first | with_reducible exact Below.refl _ _ | with_reducible assumption | with_reducible refine bl_set (by first | exact Nat.le_refl _ | (simp; done) | (simp; omega) | omega) ?_ _ | with_reducible refine bl_alloc ?_ _ | with_reducible refine bl_drewN ?_ _ | with_reducible refine bl_drew ?_ | with_reducible refine bl_grow ?_ _ _ | with_reducible refine bl_call ?_ (by assumption))))⟩, by simp [intOf]; omega⟩
    · have hg : (decide ((j : Int) < (na : Int)) && decide ((j : Int) < (nb : Int))) = false := by
        rw [← Bool.not_eq_true, Bool.and_eq_true, decide_eq_true_eq, decide_eq_true_eq]
        omega
      have HPR : Hid (∀ W, Below w7.heap.size w7 W → Calls Tryz.prog 11 #[.string ⟨S.toArray⟩] W fun e w' => ParseOut (Stil.listParse S) e W w') := fun W h => i_listParse S W (HE7.out W h) (by omega)
      clear HCA HCB HFA HFB HE7
      cases ok
      · have hs0 : S = [] := by
          cases S with
          | nil => rfl
          | cons _ _ => simp at hse
        subst hs0
        have HPE : Hid (∀ W, Below w7.heap.size w7 W → Calls Tryz.prog 11 #[.string ⟨#[]⟩] W fun e w' => ∃ (a : Option Addr) (n c : Nat) (x1 x2 : Int), e = .returned (.tuple #[.slice a n c, .agg #[.int .i64 x1, .int .i64 x2]]) ∧ Below W.heap.size W w') := fun W h => (HPR.out W h).mono fun e w' ho => by
          obtain ⟨a, c, he, _, hb⟩ := parse_at ho
          exact ⟨a, _, c, _, _, he, hb⟩
        by_cases hja : j < na
        · have hjb : ¬ j < nb := by omega
          go_wp2_with (go_at_call 11; refine (HPE.out _ (by (repeat (first | with_reducible exact Below.refl _ _ | with_reducible assumption | with_reducible refine bl_set (by first | exact Nat.le_refl _ | (simp; done) | (simp; omega) | omega) ?_ _ | with_reducible refine bl_alloc ?_ _ | with_reducible refine bl_drewN ?_ _ | with_reducible refine bl_drew ?_ | with_reducible refine bl_grow ?_ _ _ | with_reducible refine bl_call ?_ (by assumption))))).mono ?_; rintro e w9 ⟨a9, n9, c9, x1, x2, rfl, hb9⟩)
          go_ret
          exact ⟨rfl, HFIN.out _ (HZ7.out _ (by (repeat (first | with_reducible exact Below.refl _ _ | with_reducible assumption | with_reducible refine bl_set (by first | exact Nat.le_refl _ | (simp; done) | (simp; omega) | omega) ?_ _ | with_reducible refine bl_alloc ?_ _ | with_reducible refine bl_drewN ?_ _ | with_reducible refine bl_drew ?_ | with_reducible refine bl_grow ?_ _ _ | with_reducible refine bl_call ?_ (by assumption)))))⟩
        · go_wp2_with (go_at_call 11; refine (HPE.out _ (by (repeat (first | with_reducible exact Below.refl _ _ | with_reducible assumption | with_reducible refine bl_set (by first | exact Nat.le_refl _ | (simp; done) | (simp; omega) | omega) ?_ _ | with_reducible refine bl_alloc ?_ _ | with_reducible refine bl_drewN ?_ _ | with_reducible refine bl_drew ?_ | with_reducible refine bl_grow ?_ _ _ | with_reducible refine bl_call ?_ (by assumption))))).mono ?_; rintro e w9 ⟨a9, n9, c9, x1, x2, rfl, hb9⟩)
          go_ret
          exact ⟨rfl, HFIN.out _ (HZ7.out _ (by (repeat (first | with_reducible exact Below.refl _ _ | with_reducible assumption | with_reducible refine bl_set (by first | exact Nat.le_refl _ | (simp; done) | (simp; omega) | omega) ?_ _ | with_reducible refine bl_alloc ?_ _ | with_reducible refine bl_drewN ?_ _ | with_reducible refine bl_drew ?_ | with_reducible refine bl_grow ?_ _ _ | with_reducible refine bl_call ?_ (by assumption)))))⟩
      · have HPE : Hid (∀ W, Below w7.heap.size w7 W → Calls Tryz.prog 11 #[.string ⟨S.toArray⟩] W fun e w' => ∃ (a : Option Addr) (c : Nat), e = .returned (.tuple #[.slice a 1 c, .agg #[.int .i64 0, .int .i64 0]]) ∧ InstsAt w' (.slice a 1 c) [I] ∧ Below W.heap.size W w') := fun W h => (HPR.out W h).mono fun e w' ho => by
          rw [HBK.out rfl] at ho
          exact parse_at ho
        have HSM : Hid (∀ W (p : Option Addr) (c B : Nat), Below V1.heap.size V1 W → InstsAt W (.slice p 1 c) [I] → B < W.heap.size → W.cell? ⟨B, 0, none⟩ = some (.int .i64 I.code) → W.cell? ⟨B, 1, none⟩ = some (.int .i64 I.one.op) → W.cell? ⟨B, 2, none⟩ = some (.slice at0 I.one.args.length au0) → Calls Tryz.prog 12 #[.slice p 1 c, .slice (some ⟨B, 0, none⟩) 1 1] W fun e w' => e = .returned (.bool true) ∧ Below W.heap.size W w') := fun W p c B h hi hB k0 k1 k2 => by
          have := i_listSame [I] [I] _ _ W hi (insts_one (cap := 1) ⟨k0, k1, _, k2, HAV.out W h⟩ hB) (by simpa using HFI.out) (by simpa using HFI.out) (by simp) (by simp)
          refine this.mono ?_
          rintro e w' ⟨rfl, hb⟩
          exact ⟨by simp, hb⟩
        clear HPR HBK
        by_cases hja : j < na
        · have hjb : ¬ j < nb := by omega
          go_upto_region 15 with (go_at_call 11; refine (HPE.out _ (by (repeat (first | with_reducible exact Below.refl _ _ | with_reducible assumption | with_reducible refine bl_set (by first | exact Nat.le_refl _ | (simp; done) | (simp; omega) | omega) ?_ _ | with_reducible refine bl_alloc ?_ _ | with_reducible refine bl_drewN ?_ _ | with_reducible refine bl_drew ?_ | with_reducible refine bl_grow ?_ _ _ | with_reducible refine bl_call ?_ (by assumption))))).mono ?_; rintro e w9 ⟨a9, c9, rfl, hi9, hb9⟩)
          have hB9 : Below w7.heap.size w7 w9 := by (repeat (first | with_reducible exact Below.refl _ _ | with_reducible assumption | with_reducible refine bl_set (by first | exact Nat.le_refl _ | (simp; done) | (simp; omega) | omega) ?_ _ | with_reducible refine bl_alloc ?_ _ | with_reducible refine bl_drewN ?_ _ | with_reducible refine bl_drew ?_ | with_reducible refine bl_grow ?_ _ _ | with_reducible refine bl_call ?_ (by assumption)))
          obtain ⟨V9, hV9⟩ : ∃ V, V = w9.alloc (.cells #[.int .i64 0, .int .i64 0] 33) := ⟨_, rfl⟩
          have h9V : Below w9.heap.size w9 V9 := by rw [hV9]; exact below_alloc _ _
          have k1 : V9.cell? ⟨w9.heap.size, 1, none⟩ = some (.int .i64 0) := by rw [hV9]; simp [go_sem]
          have hBV9 : Below w7.heap.size w7 V9 := bl_call hB9 h9V
          have hi9V := hi9.below h9V
          have hV19 := HZ7.out V9 hBV9
          obtain ⟨z0, z1, z2⟩ := HZ.out V9 hV19
          have HSN : Hid (∀ o, Calls Tryz.prog 12 #[.slice a9 1 c9, .slice (some ⟨V9.heap.size, 0, none⟩) 1 1] (V9.alloc (.cells #[.int .i64 I.code, .int .i64 I.one.op, .slice at0 I.one.args.length au0] o)) fun e w' => e = .returned (.bool true) ∧ Below w7.heap.size w7 w') := fun o => by
            have hb : Below V9.heap.size V9 (V9.alloc (.cells #[.int .i64 I.code, .int .i64 I.one.op, .slice at0 I.one.args.length au0] o)) := below_alloc _ _
            refine (HSM.out _ a9 c9 V9.heap.size (bl_call hV19 hb) (hi9V.below hb) (by simp) (by simp [go_sem]) (by simp [go_sem]) (by simp [go_sem])).mono ?_
            rintro e w' ⟨rfl, h⟩
            exact ⟨rfl, bl_call (bl_call hBV9 hb) h⟩
          rw [← hV9]
          clear hV9 hB9 h9V hi9 hb9 HSM hi9V
          go_wp2_with (go_at_call 12; refine (HSN.out _).mono ?_; rintro e w10 ⟨rfl, hb10⟩)
          go_ret
          exact ⟨rfl, HFIN.out _ (HZ7.out _ hb10)⟩
        · skip
          go_upto_region 15 with (go_at_call 11; refine (HPE.out _ (by (repeat (first | with_reducible exact Below.refl _ _ | with_reducible assumption | with_reducible refine bl_set (by first | exact Nat.le_refl _ | (simp; done) | (simp; omega) | omega) ?_ _ | with_reducible refine bl_alloc ?_ _ | with_reducible refine bl_drewN ?_ _ | with_reducible refine bl_drew ?_ | with_reducible refine bl_grow ?_ _ _ | with_reducible refine bl_call ?_ (by assumption))))).mono ?_; rintro e w9 ⟨a9, c9, rfl, hi9, hb9⟩)
          have hB9 : Below w7.heap.size w7 w9 := by (repeat (first | with_reducible exact Below.refl _ _ | with_reducible assumption | with_reducible refine bl_set (by first | exact Nat.le_refl _ | (simp; done) | (simp; omega) | omega) ?_ _ | with_reducible refine bl_alloc ?_ _ | with_reducible refine bl_drewN ?_ _ | with_reducible refine bl_drew ?_ | with_reducible refine bl_grow ?_ _ _ | with_reducible refine bl_call ?_ (by assumption)))
          obtain ⟨V9, hV9⟩ : ∃ V, V = w9.alloc (.cells #[.int .i64 0, .int .i64 0] 33) := ⟨_, rfl⟩
          have h9V : Below w9.heap.size w9 V9 := by rw [hV9]; exact below_alloc _ _
          have k1 : V9.cell? ⟨w9.heap.size, 1, none⟩ = some (.int .i64 0) := by rw [hV9]; simp [go_sem]
          have hBV9 : Below w7.heap.size w7 V9 := bl_call hB9 h9V
          have hi9V := hi9.below h9V
          have hV19 := HZ7.out V9 hBV9
          obtain ⟨z0, z1, z2⟩ := HZ.out V9 hV19
          have HSN : Hid (∀ o, Calls Tryz.prog 12 #[.slice a9 1 c9, .slice (some ⟨V9.heap.size, 0, none⟩) 1 1] (V9.alloc (.cells #[.int .i64 I.code, .int .i64 I.one.op, .slice at0 I.one.args.length au0] o)) fun e w' => e = .returned (.bool true) ∧ Below w7.heap.size w7 w') := fun o => by
            have hb : Below V9.heap.size V9 (V9.alloc (.cells #[.int .i64 I.code, .int .i64 I.one.op, .slice at0 I.one.args.length au0] o)) := below_alloc _ _
            refine (HSM.out _ a9 c9 V9.heap.size (bl_call hV19 hb) (hi9V.below hb) (by simp) (by simp [go_sem]) (by simp [go_sem]) (by simp [go_sem])).mono ?_
            rintro e w' ⟨rfl, h⟩
            exact ⟨rfl, bl_call (bl_call hBV9 hb) h⟩
          rw [← hV9]
          clear hV9 hB9 h9V hi9 hb9 HSM hi9V
          go_wp2_with (go_at_call 12; refine (HSN.out _).mono ?_; rintro e w10 ⟨rfl, hb10⟩)
          go_ret
          exact ⟨rfl, HFIN.out _ (HZ7.out _ hb10)⟩
end Go.Proofs.YtipdjmbgbehkaaaGreatDoor
