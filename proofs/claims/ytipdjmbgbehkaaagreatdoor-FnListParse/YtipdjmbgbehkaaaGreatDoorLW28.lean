/- The law on texts that are read: the walk. -/
import Derived.Test.YtipdjmbgbehkaaaGreatDoorLW26
import Derived.Test.YtipdjmbgbehkaaaGreatDoorLW27
namespace Go.Proofs.YtipdjmbgbehkaaaGreatDoor
open Go.RowKit Go.Sort Go.BigFrame
theorem parse_codes : ∀ (ls : List (List UInt8)) (k : Nat) (cs : List Stil.Inst), 0 ≤ (Stil.parseFrom k cs ls).2.2 ∧ (Stil.parseFrom k cs ls).2.2 ≠ 1
 | [], k, cs => ⟨Int.le_refl _, by show (0 : Int) ≠ 1; decide⟩
 | l :: r, k, cs => by
  rw [Stil.parseFrom]
  split
  ·exact parse_codes r (k + 1) cs
  ·split
   ·exact ⟨by show (0 : Int) ≤ 2; decide, by show (2 : Int) ≠ 1; decide⟩
   ·split
    ·exact ⟨by show (0 : Int) ≤ 3; decide, by show (3 : Int) ≠ 1; decide⟩
    ·exact parse_codes r (k + 1) _
theorem fault_kinds (l : List UInt8) : ((Stil.listParse l).2.2 = 0 ∧ (Stil.listParse l).2.1 = 0) ∨ (0 < (Stil.listParse l).2.2 ∧ (Stil.listParse l).1.length = 0 ∧ 0 ≤ (Stil.listParse l).2.1 ∧ (Stil.listParse l).2.1 ≤ l.count 10 + 1 ∧ ∃ q : Bool, ((Stil.listParse l).2.1 == 0) = q ∧ ((Stil.listParse l).2.2 == 1) = q) := by
 unfold Stil.listParse
 split
 ·exact .inr ⟨by show (0 : Int) < 1; decide, rfl, by show (0 : Int) ≤ 0; decide, by simp only; omega, true, rfl, rfl⟩
 ·have hc := Stil.cut_length 10 l
  have h2 := parse_codes (Stil.cut 10 l) 0 []
  rcases parse_kinds (Stil.cut 10 l) 0 [] with h | ⟨a, b, c, d⟩
  ·exact .inl h
  ·exact .inr ⟨by omega, by rw [b]; rfl, by omega, by omega, false, by rw [beq_eq_false_iff_ne]; omega, by rw [beq_eq_false_iff_ne]; exact h2.2⟩
theorem count_next (T : List UInt8) (j : Nat) (h : j < T.length) : (T.take (j + 1)).count 10 = (T.take j).count 10 + if T[j] = 10 then 1 else 0 := by
 rw [List.take_succ_eq_append_getElem h, List.count_append, List.count_singleton]
 simp
set_option maxHeartbeats 4000000 in
set_option maxRecDepth 100000 in
theorem law_listRead (u : Value) (w : World) (henv : Env w) (hu : BytesAt w u) :
  Calls Tryz.prog 4 #[u] w fun e w' => e = .returned (.bool true) ∧ Below w.heap.size w w' := by
 have HEN : Hid (∀ W, Below w.heap.size w W → Env W) := fun W h => henv.below h
 have HDU : Hid (∀ W, Below w.heap.size w W → Calls Tryz.prog 13 #[u] W fun e w' => ∃ t : List UInt8, e = .returned (.string ⟨t.toArray⟩) ∧ t.length ≤ 400000 ∧ Below W.heap.size W w') := fun W h => s_drawListParse u W (hu.below h)
 obtain ⟨ua, ul, uc, rfl, -, -, -⟩ := hu
 clear henv
 by_cases hbig : 1048576 < ul
 ·go_enter Tryz.func4, Tryz.ntmps4
  go_wp2
  go_ret
  exact ⟨rfl, blA⟩
 go_enter Tryz.func4, Tryz.ntmps4
 go_upto_region 4 with (go_at_call 13; refine (HDU.out _ blA).mono ?_; rintro e w1 ⟨T, rfl, hT, hb1⟩)
 have hB1 : Below w.heap.size w w1 := blA
 have HE1 : Hid (∀ W, Below w1.heap.size w1 W → Env W) := fun W h => HEN.out W (hB1.trans (h.mono hB1.size))
 have HFIN : Hid (∀ W, Below w1.heap.size w1 W → Below w.heap.size w W) := fun W h => hB1.trans (h.mono hB1.size)
 have hsz : (⟨T.toArray⟩ : ByteArray).size = T.length := rfl
 have hlf := list_fits T
 have hko := Stil.list_oks T
 have hkk := fault_kinds T
 have HSP : Hid (∀ W, Below w1.heap.size w1 W → Calls Tryz.prog 14 #[.string ⟨T.toArray⟩] W fun e w' => ∃ (a : Option Addr) (c : Nat), e = .returned (.tuple #[.slice a (Stil.listParse T).1.length c, .agg #[.int .i64 (Stil.listParse T).2.1, .int .i64 (Stil.listParse T).2.2]]) ∧ InstsAt w' (.slice a (Stil.listParse T).1.length c) (Stil.listParse T).1 ∧ Below W.heap.size W w') := fun W _ => (s_listParse T W (by omega)).mono fun e w' h => parse_at h
 have HIM : Hid (∀ W, Below w1.heap.size w1 W → Calls Tryz.prog 11 #[.string ⟨T.toArray⟩] W fun e w' => ∃ (a : Option Addr) (c : Nat), e = .returned (.tuple #[.slice a (Stil.listParse T).1.length c, .agg #[.int .i64 (Stil.listParse T).2.1, .int .i64 (Stil.listParse T).2.2]]) ∧ InstsAt w' (.slice a (Stil.listParse T).1.length c) (Stil.listParse T).1 ∧ Below W.heap.size W w') := fun W h => (i_listParse T W (HE1.out W h) (by omega)).mono fun e w' h => parse_at h
 obtain ⟨R, hR⟩ : ∃ R, R = Stil.listParse T := ⟨_, rfl⟩
 rw [← hR] at HSP HIM hlf hko hkk
 clear hR
 obtain ⟨L, hL⟩ : ∃ L, L = R.1 := ⟨_, rfl⟩
 obtain ⟨x1, hx1⟩ : ∃ L, L = R.2.1 := ⟨_, rfl⟩
 obtain ⟨x2, hx2⟩ : ∃ L, L = R.2.2 := ⟨_, rfl⟩
 rw [← hL, ← hx1, ← hx2] at HSP HIM hkk
 rw [← hL] at hlf hko
 have HKK : Hid ((x2 = 0 ∧ x1 = 0) ∨ (0 < x2 ∧ L.length = 0 ∧ 0 ≤ x1 ∧ x1 ≤ T.count 10 + 1 ∧ ∃ q : Bool, (x1 == 0) = q ∧ (x2 == 1) = q)) := hkk
 have HFT : Hid (∀ x ∈ L, x.fits) := hlf.1
 have HOK : Hid (∀ x ∈ L, Stil.listOk x = true) := hko
 obtain ⟨n, hn⟩ : ∃ n, n = L.length := ⟨_, rfl⟩
 have HN : Hid (n = L.length) := hn
 have hn1 : n ≤ 1000 := by rw [hn]; exact hlf.2
 rw [← hn] at HSP HIM HKK
 clear hn hL hx1 hx2 hlf hko hkk HEN HDU hb1
 go_upto_region 5 with (go_at_call 11; refine (HIM.out _ blA).mono ?_; rintro e w5 ⟨a5, c5, rfl, g5, hb5⟩)
 obtain ⟨V5, hV5⟩ : ∃ V, V = w5.alloc (.cells #[.int .i64 x1, .int .i64 x2] 33) := ⟨_, rfl⟩
 have h5V : Below w5.heap.size w5 V5 := by rw [hV5]; exact below_alloc _ _
 have y0 : V5.cell? ⟨w5.heap.size, 0, none⟩ = some (.int .i64 x1) := by rw [hV5]; simp [go_sem]
 have y1 : V5.cell? ⟨w5.heap.size, 1, none⟩ = some (.int .i64 x2) := by rw [hV5]; simp [go_sem]
 have HG5 : Hid (∀ W, Below V5.heap.size V5 W → InstsAt W (.slice a5 n c5) L ∧ W.cell? ⟨w5.heap.size, 0, none⟩ = some (.int .i64 x1) ∧ W.cell? ⟨w5.heap.size, 1, none⟩ = some (.int .i64 x2)) := fun W h => ⟨(g5.below h5V).below h, (h.cell (World.block_lt_of_cell? _ _ y0)).trans y0, (h.cell (World.block_lt_of_cell? _ _ y1)).trans y1⟩
 have hb5V : Below w1.heap.size w1 V5 := bl_call blA h5V
 rw [← hV5]
 clear hV5 g5 hb5 h5V
 go_upto_region 6 with (go_at_call 14; refine (HSP.out _ blA).mono ?_; rintro e w6 ⟨a6, c6, rfl, g6, hb6⟩)
 have h56 : Below V5.heap.size V5 w6 := blA
 obtain ⟨V6, hV6⟩ : ∃ V, V = w6.alloc (.cells #[.int .i64 x1, .int .i64 x2] 33) := ⟨_, rfl⟩
 have h6V : Below w6.heap.size w6 V6 := by rw [hV6]; exact below_alloc _ _
 have z0 : V6.cell? ⟨w6.heap.size, 0, none⟩ = some (.int .i64 x1) := by rw [hV6]; simp [go_sem]
 have z1 : V6.cell? ⟨w6.heap.size, 1, none⟩ = some (.int .i64 x2) := by rw [hV6]; simp [go_sem]
 have h5V6 : Below V5.heap.size V5 V6 := bl_call h56 h6V
 have hB6 : Below w1.heap.size w1 V6 := hb5V.trans (h5V6.mono hb5V.size)
 have HG6 : Hid (∀ W, Below V6.heap.size V6 W → InstsAt W (.slice a6 n c6) L) := fun W h => (g6.below h6V).below h
 have HSM : Hid (∀ W, Below V6.heap.size V6 W → Calls Tryz.prog 15 #[.slice a5 n c5, .slice a6 n c6] W fun e w' => e = .returned (.bool true) ∧ Below W.heap.size W w') := fun W h => s_listSame L _ _ W (HG5.out W (h5V6.trans (h.mono h5V6.size))).1 (HG6.out W h) (by have := HN.out; omega) HFT.out
 rw [← hV6]
 clear hV6 g6 hb6 h56 h6V y0 y1
 obtain ⟨_, y0, y1⟩ := HG5.out V6 h5V6
 go_upto_region 8 with (go_at_call 15; refine (HSM.out _ blA).mono ?_; rintro e w8 ⟨rfl, hb8⟩)
 have hB8 : Below w1.heap.size w1 w8 := bl_call hB6 hb8
 have h58 : Below V5.heap.size V5 w8 := bl_call h5V6 hb8
 clear y0 y1 z0 z1 hb8 hB6 h5V6 HSM HG6 HSP
 obtain ⟨_, y0, y1⟩ := HG5.out w8 h58
 rcases HKK.out with ⟨rfl, rfl⟩ | ⟨hp, hn0, hq0, hq1, q, hq2, hq3⟩
 ·clear HKK HIM
  have HAT : Hid (∀ W, Below w8.heap.size w8 W → InstsAt W (.slice a5 n c5) L) := fun W h => (HG5.out W (h58.trans (h.mono h58.size))).1
  have HE8 : Hid (∀ W, Below w8.heap.size w8 W → Env W) := fun W h => HE1.out W (hB8.trans (h.mono hB8.size))
  have HF8 : Hid (∀ W, Below w8.heap.size w8 W → Below w.heap.size w W) := fun W h => HFIN.out W (hB8.trans (h.mono hB8.size))
  have HC : Hid (∀ W, Below w8.heap.size w8 W → ∀ i (h : i < L.length), ∃ b o, a5 = some ⟨b, o, none⟩ ∧ b < W.heap.size ∧ InstAt W b (o + i * 3) L[i]) := fun W h i hi => by
   obtain ⟨a', c', e, hx⟩ := HAT.out W h
   cases e
   exact hx i hi
  clear HE1 HFIN HG5 hb5V h58 hB8
  go_wp2
  go_loopw [10] (fun iv wr => ∃ j : Nat, j ≤ n ∧ iv = .int .i64 (j : Int) ∧ Below w8.heap.size w8 wr) (fun iv _ => n - (intOf iv).toNat)
  case atStart => exact ⟨0, Nat.zero_le _, rfl, Below.refl _ _⟩
  case round =>
   obtain ⟨j, hj, rfl, hB⟩ := hrel
   by_cases hlt : j < n
   ·have hlt' : j < L.length := by have := HN.out; omega
    obtain ⟨b, o, rfl, hbr, p0, p1, kav, p2, hav⟩ := HC.out wr hB j hlt'
    have hfx := HFT.out _ (List.getElem_mem hlt')
    have hkx := HOK.out _ (List.getElem_mem hlt')
    have HKI : Hid (∀ W, Below wr.heap.size wr W → Calls Tryz.prog 16 #[.agg #[.int .i64 L[j].code, .int .i64 L[j].one.op, kav]] W fun e w' => e = .returned (.bool true) ∧ Below W.heap.size W w') := fun W h => by
     have he := HE8.out W (hB.trans (h.mono hB.size))
     have := i_listOk L[j] kav W he.1 he.2.2.1 (hav.below h) hfx
     rw [hkx] at this
     exact this
    have HLI : Hid (∀ W, Below wr.heap.size wr W → Calls Tryz.prog 17 #[.agg #[.int .i64 L[j].code, .int .i64 L[j].one.op, kav]] W fun e w' => e = .returned (.string ⟨(Stil.lineText L[j]).toArray⟩) ∧ Below W.heap.size W w') := fun W h => by
     have he := HE8.out W (hB.trans (h.mono hB.size))
     exact i_listLine L[j] kav W he.1 he.2.1 he.2.2.1 he.2.2.2.1 (hav.below h) hfx
    have hne : (Stil.lineText L[j]).isEmpty = false := by rw [Stil.line_empty, hkx]; rfl
    obtain ⟨S, hS⟩ : ∃ S, S = Stil.lineText L[j] := ⟨_, rfl⟩
    rw [← hS] at HLI hne
    obtain ⟨I, hI⟩ : ∃ I, I = L[j] := ⟨_, rfl⟩
    rw [← hI] at p0 p1 HKI HLI
    obtain ⟨t0, u0, rfl, _⟩ := hav
    have hwj : IntKind.i64.wrap ((j : Int) + 1) = (j : Int) + 1 := by rw [IntKind.wrap_i64]; omega
    have PBK : Hid (∀ W, Below wr.heap.size wr W → W.cell? ⟨b, o + j * 3, none⟩ = some (.int .i64 I.code) ∧ W.cell? ⟨b, o + j * 3 + 1, none⟩ = some (.int .i64 I.one.op) ∧ W.cell? ⟨b, o + j * 3 + 2, none⟩ = some (.slice t0 L[j].one.args.length u0)) := fun W h => ⟨(h.cell hbr).trans p0, (h.cell hbr).trans p1, (h.cell hbr).trans p2⟩
    clear hI hS hkx hfx
    go_wp2_with (first | (go_at_call 16; refine (HKI.out _ blA).mono ?_; rintro e w5 ⟨rfl, hb5⟩; clear p0 p1 p2; obtain ⟨p0, p1, p2⟩ := PBK.out w5 blA) | (go_at_call 17; refine (HLI.out _ blA).mono ?_; rintro e w6 ⟨rfl, hb6⟩))
    exact ⟨⟨j + 1, by omega, by simp, blA⟩, by simp [intOf]; omega⟩
   ·obtain rfl : j = n := by omega
    have HPR : Hid (∀ W, Below w8.heap.size w8 W → Calls Tryz.prog 11 #[.string ⟨(Stil.listText L).toArray⟩] W fun e w' => ∃ (a : Option Addr) (c : Nat), e = .returned (.tuple #[.slice a j c, .agg #[.int .i64 0, .int .i64 0]]) ∧ InstsAt w' (.slice a j c) L ∧ Below W.heap.size W w') := fun W h => by
     have htl := Stil.listText_len L
     refine (i_listParse (Stil.listText L) W (HE8.out W h) (by omega)).mono fun e w' ho => ?_
     rw [Stil.listText_ok HOK.out (by have := HN.out; omega), Stil.list_back HOK.out (by have := HN.out; omega)] at ho
     have := parse_at ho
     rw [HN.out]
     exact this
    have HTX : Hid (∀ W, Below w8.heap.size w8 W → Calls Tryz.prog 8 #[.slice a5 j c5] W fun e w' => e = .returned (.string ⟨(Stil.listText L).toArray⟩) ∧ Below W.heap.size W w') := fun W h => by
     have he := HE8.out W h
     exact i_listText L _ W he.1 he.2.1 he.2.2.1 he.2.2.2.1 (HAT.out W h) (by have := HN.out; omega) HFT.out
    obtain ⟨S, hS⟩ : ∃ S, S = Stil.listText L := ⟨_, rfl⟩
    rw [← hS] at HPR HTX
    have hj1000 : (j : Int) ≤ 1000 := by omega
    clear hS
    go_upto_region 22 with (first | (go_at_call 8; refine (HTX.out _ blA).mono ?_; rintro e w6 ⟨rfl, hb6⟩) | (go_at_call 11; refine (HPR.out _ blA).mono ?_; rintro e w7 ⟨a7, c7, rfl, hat7, hb7⟩))
    have hB7 : Below w8.heap.size w8 w7 := blA
    obtain ⟨V, hV⟩ : ∃ V, V = w7.alloc (.cells #[.int .i64 0, .int .i64 0] 33) := ⟨_, rfl⟩
    have h7V : Below w7.heap.size w7 V := by rw [hV]; exact below_alloc _ _
    have k1 : V.cell? ⟨w7.heap.size, 1, none⟩ = some (.int .i64 0) := by rw [hV]; simp [go_sem]
    have hBV : Below w8.heap.size w8 V := bl_call hB7 h7V
    have HSM : Hid (∀ W, Below V.heap.size V W → Calls Tryz.prog 12 #[.slice a7 j c7, .slice a5 j c5] W fun e w' => e = .returned (.bool true) ∧ Below W.heap.size W w') := fun W h => by
     have := i_listSame L L _ _ W ((hat7.below h7V).below h) (HAT.out W (hBV.trans (h.mono hBV.size))) HFT.out HFT.out (by have := HN.out; omega) (by have := HN.out; omega)
     refine this.mono ?_
     rintro e w' ⟨rfl, hb⟩
     exact ⟨by simp, hb⟩
    rw [← hV]
    clear hV hat7 hb6 hb7 h7V hB7 HPR HTX
    go_wp2_with (go_at_call 12; refine (HSM.out _ blA).mono ?_; rintro e w9 ⟨rfl, hb9⟩)
    go_ret
    exact ⟨rfl, HF8.out _ blA⟩
 ·subst hn0
  clear HKK HIM
  have HQ1 : Hid (x1 ≤ T.count 10 + 1) := hq1
  clear hq1
  go_wp2
  go_loop [8, 9] (fun nv iv => ∃ j c : Nat, j ≤ T.length ∧ c = (T.take j).count 10 + 1 ∧ iv = .int .i64 (j : Int) ∧ nv = .int .i64 (c : Int)) (fun _ iv => T.length - (intOf iv).toNat)
  case atStart => exact ⟨0, 1, Nat.zero_le _, by simp, rfl, rfl⟩
  case round =>
   obtain ⟨j, c, hj, hc, rfl, rfl⟩ := hrel
   have hcl : c ≤ 400001 := by
    have h1 : (T.take j).count 10 ≤ (T.take j).length := List.count_le_length
    rw [List.length_take] at h1
    omega
   have HCC : Hid (c = (T.take j).count 10 + 1) := hc
   clear hc
   by_cases hlt : j < T.length
   ·have hnx := count_next T j hlt
    have hwj : IntKind.i64.wrap ((j : Int) + 1) = (j : Int) + 1 := by rw [IntKind.wrap_i64]; omega
    have hwc : IntKind.i64.wrap ((c : Int) + 1) = (c : Int) + 1 := by rw [IntKind.wrap_i64]; omega
    by_cases hx : T[j] = 10
    ·have hb : ((((⟨T.toArray⟩ : ByteArray)[j]).toNat : Int) == 10) = true := by rw [ba_get T j hlt, hx]; rfl
     rw [if_pos hx] at hnx
     have HC2 : Hid ((T.take (j + 1)).count 10 = (T.take j).count 10 + 1) := hnx
     clear hx hnx
     go_wp2
     exact ⟨⟨j + 1, c + 1, hlt, by rw [HC2.out, HCC.out], by simp, by simp⟩, by simp [intOf]; omega⟩
    ·have hb : ((((⟨T.toArray⟩ : ByteArray)[j]).toNat : Int) == 10) = false := by
      rw [ba_get T j hlt, beq_eq_false_iff_ne]; intro e; exact hx (UInt8.toNat_inj.1 (by show _ = 10; omega))
     rw [if_neg hx] at hnx
     have HC2 : Hid ((T.take (j + 1)).count 10 = (T.take j).count 10) := hnx
     clear hx hnx
     go_wp2
     exact ⟨⟨j + 1, c, hlt, by rw [HC2.out, HCC.out], by simp, rfl⟩, by simp [intOf]; omega⟩
   ·have hxc : x1 ≤ (c : Int) := by
     have h1 := HCC.out
     rw [List.take_of_length_le (by omega)] at h1
     have := HQ1.out
     omega
    go_wp2
    go_ret
    exact ⟨by simp, HFIN.out _ hB8⟩
end Go.Proofs.YtipdjmbgbehkaaaGreatDoor
