/- D42b, D44, D45: texts put together. -/
import Derived.Test.YtipdjmbgbehkaaaGreatDoorHu
import Derived.Test.YtipdjmbgbehkaaaGreatDoorGN
import Derived.Deep.RegionWith
set_option maxHeartbeats 4000000
set_option maxRecDepth 100000
/- Contracts of the specification's draws: a list spoilt somewhere, whatever the number of operands. -/
namespace Go.Proofs.YtipdjmbgbehkaaaGreatDoor
open Go.RowKit Go.Sort Go.BigFrame
theorem s_l5Any (g P : Nat) (w : World) (hr : RdAt w g P) (hP : P ≤ 100000) :
  Calls Tryz.prog 25 #[.pointer (some ⟨g, 0, none⟩)] w fun e w' => ListOut 4 e w w' g (P + 3700000) 80000 := by
 have HR : Hid (RdAt w g P) := hr
 have hg := rd_lt hr
 clear hr
 go_enter Tryz.func25, Tryz.ntmps25
 go_upto_region 2 with (go_at_call 55; refine (s_l5Sure g _ _ HR.out (by omega)).mono ?_; rintro e w3 ⟨l3, v3, rfl, hi3, ht3, hn3, hrd3, hb3⟩; obtain ⟨a3, c3, rfl, -⟩ := id hi3)
 have HI3 : Hid (InstsIn (fun b => g < b) w3 (.slice a3 l3.length c3) l3) := hi3
 have HT3 : Hid (∀ i ∈ l3, ITame i ∧ i.one.args.length ≤ 3) := ht3
 have HR3 : Hid (RdAt w3 g (P + 3600000)) := hrd3
 have HB3 : Hid (Below g w w3) := hb3
 have hz3 := hb3.size
 clear hi3 ht3 hrd3 hb3 HR
 obtain ⟨n3, hn⟩ : ∃ n, n = l3.length := ⟨_, rfl⟩
 have HN : Hid (n3 = l3.length) := hn
 rw [← hn] at HI3 hn3 ⊢
 clear hn
 go_upto_if 8 with (go_at_call 35; refine (s_pick g _ _ _ HR3.out (by omega) (by omega) (by omega)).mono ?_; rintro e w4 ⟨x, rfl, hx0, hx1, hrd4, hgr4⟩; have HR4 : Hid (RdAt w4 g (P + 3600000 + 1)) := hrd4; have HI4 : Hid (InstsIn (fun b => g < b) w4 (.slice a3 n3 c3) l3) := HI3.out.keep (KeepsIn.of_grown hgr4 fun b hb e => (by simp only [Option.some.injEq] at e; omega)); have HB4 : Hid (Below g w w4) := HB3.out.trans (below_grown_at hgr4 (by omega)); clear hrd4 hgr4)
 by_cases hx : x = 0
 ·subst hx
  go_wp2_with (go_at_call 51; refine (s_l5Spoil g _ _ l3 _ HR4.out HI4.out HT3.out (by have := HN.out; omega) (by omega)).mono ?_; rintro e w5 ⟨l5, v5, rfl, hi5, ht5, hn5, hrd5, hb5⟩; have HO : Hid (ListOut 4 (.returned v5) w w5 g (P + 3700000) 80000) := ⟨l5, v5, rfl, hi5, ht5, hn5, rd_mono hrd5 (by omega), HB4.out.trans hb5⟩; clear hi5 ht5 hn5 hrd5 hb5)
  go_ret
  exact HO.out
 ·have hxb : (x == 0) = false := beq_eq_false_iff_ne.2 hx
  go_wp2
  go_ret
  exact ⟨l3, _, rfl, HI4.out, fun i hi => ⟨(HT3.out i hi).1, by have := (HT3.out i hi).2; omega⟩, by have := HN.out; omega, rd_mono HR4.out (by omega), HB4.out⟩
theorem half_le (a m : Nat) : (a + a) * (m / 2) ≤ a * m := by
 have h : (a + a) * (m / 2) = a * (2 * (m / 2)) := by rw [← Nat.two_mul, Nat.mul_comm 2 a, Nat.mul_assoc]
 rw [h]
 exact Nat.mul_le_mul_left _ (by omega)
theorem half_odd (a m : Nat) (h1 : m % 2 = 1) : a + (a + a) * (m / 2) = a * m := by
 have h : (a + a) * (m / 2) = a * (2 * (m / 2)) := by rw [← Nat.two_mul, Nat.mul_comm 2 a, Nat.mul_assoc]
 have e : m = 2 * (m / 2) + 1 := by omega
 rw [h]
 conv => rhs; rw [e]
 rw [Nat.mul_add, Nat.mul_one]
 omega
theorem s_l9Many (s : List UInt8) (n : Nat) (w : World) (hs : s.length ≤ 4) (hn : n ≤ 60000) :
  Calls Tryz.prog 36 #[.string ⟨s.toArray⟩, .int .i64 n] w fun e w' => ∃ t : List UInt8, e = .returned (.string ⟨t.toArray⟩) ∧ t.length ≤ 240000 ∧ w' = w := by
 have hK : s.length * n ≤ 240000 := Nat.le_trans (Nat.mul_le_mul hs hn) (by omega)
 go_enter Tryz.func36, Tryz.ntmps36
 go_wp2
 go_loopw [0, 1, 5] (fun sv nv ov wr => ∃ (a o : List UInt8) (m : Nat), sv = .string ⟨a.toArray⟩ ∧ nv = .int .i64 (m : Int) ∧ ov = .string ⟨o.toArray⟩ ∧ o.length + a.length * m ≤ 240000 ∧ a.length ≤ 480000 ∧ m ≤ 60000 ∧ wr = w) (fun _ nv _ _ => (intOf nv).toNat)
 case atStart => exact ⟨s, [], n, rfl, rfl, rfl, by simpa using hK, by omega, hn, rfl⟩
 case round =>
  obtain ⟨a, o, m, rfl, rfl, rfl, hb, ha, hm, hw⟩ := hrel
  subst hw
  by_cases h0 : 0 < m
  ·have hl1 := half_le a.length m
   have hal : a.length ≤ 240000 := by
    have : a.length * 1 ≤ a.length * m := Nat.mul_le_mul_left _ h0
    omega
   have hol : o.length ≤ 240000 := by omega
   have hq : (m : Int).tdiv 2 = ((m / 2 : Nat) : Int) := by rw [Int.tdiv_eq_ediv_of_nonneg (by omega)]; omega
   have hpos : (0 : Int) < (m : Int) := by omega
   by_cases h1 : m % 2 = 1
   ·have hr : (m : Int).tmod 2 = 1 := by rw [Int.tmod_eq_emod_of_nonneg (by omega)]; omega
    have ho := half_odd a.length m h1
    have HO : Hid (o.length + a.length + (a.length + a.length) * (m / 2) ≤ 240000) := by show _ ≤ _; omega
    clear hl1 ho hb
    go_wp2
    refine ⟨⟨a ++ a, o ++ a, m / 2, by rw [ba_app], rfl, by rw [ba_app], by simp only [List.length_append]; exact HO.out, by simp only [List.length_append]; omega, by omega, by first | trivial | rfl⟩, by simp [intOf]; omega⟩
   ·have hr : (m : Int).tmod 2 = 0 := by rw [Int.tmod_eq_emod_of_nonneg (by omega)]; omega
    have HO : Hid (o.length + (a.length + a.length) * (m / 2) ≤ 240000) := by show _ ≤ _; omega
    clear hl1 hb
    go_wp2
    refine ⟨⟨a ++ a, o, m / 2, by rw [ba_app], rfl, rfl, by simp only [List.length_append]; exact HO.out, by simp only [List.length_append]; omega, by omega, by first | trivial | rfl⟩, by simp [intOf]; omega⟩
  ·obtain rfl : m = 0 := by omega
   have hol : o.length ≤ 240000 := by omega
   clear hb
   go_wp2
   go_ret
   exact ⟨o, rfl, hol, rfl⟩
theorem lits_drew {w : World} {b n : Nat} (h : LitsAt w b n) : LitsAt w.drew b n := h
theorem s_drawListParse (v : Value) (w : World) (hv : BytesAt w v) :
  Calls Tryz.prog 13 #[v] w fun e w' => ∃ t : List UInt8, e = .returned (.string ⟨t.toArray⟩) ∧ t.length ≤ 400000 ∧ Below w.heap.size w w' := by
 have HV : Hid (BytesAt w v) := hv
 obtain ⟨av, lv, cv, rfl, -⟩ := hv
 go_enter Tryz.func13, Tryz.ntmps13
 go_upto_region 3 with (first | (go_at_call 26; refine (s_l9Open _ _ HV.out).mono ?_; rintro e w1 ⟨rfl, hrd1, hb1⟩; have HB1 : Hid (Below w.heap.size w w1) := hb1; have HR1 : Hid (RdAt w1 w.heap.size 0) := hrd1; clear hrd1 hb1) | (go_at_call 25; refine (s_l5Any w.heap.size _ _ HR1.out (by omega)).mono ?_; rintro e w3 ⟨l3, v3, rfl, hi3, ht3, hn3, hrd3, hb3⟩; have HI3 : Hid (InstsIn (fun b => w.heap.size < b) w3 v3 l3) := hi3; have HT3 : Hid (∀ i ∈ l3, i.fits) := (fun i hi => (ht3 i hi).1.fits); have HR3 : Hid (RdAt w3 w.heap.size (0 + 3700000)) := hrd3; have HB3 : Hid (Below w.heap.size w w3) := HB1.out.trans hb3; have hg := rd_lt hrd3; clear hi3 ht3 hrd3 hb3) | (go_at_call 9; refine (s_listText l3 _ _ HI3.out.at (by omega) HT3.out).mono ?_; rintro e w4 ⟨rfl, hb4⟩; have HR4 : Hid (RdAt w4 w.heap.size (0 + 3700000)) := (rd_grown HR3.out (grown_below hb4 none) (by intro k h; cases h)); have HB4 : Hid (Below w.heap.size w w4) := bl_call HB3.out hb4; have hs4 := hb4.size; clear hb4))
 have htl := Stil.listText_len l3
 obtain ⟨T, hT⟩ : ∃ T, T = Stil.listText l3 := ⟨_, rfl⟩
 rw [← hT] at htl ⊢
 have hg4 : w.heap.size < w4.heap.size := by omega
 have hsz : (⟨T.toArray⟩ : ByteArray).size = T.length := rfl
 clear hT HV HB1 HR1 HI3 HT3 HR3 HB3 hn3 hs4 hg
 go_upto_region 4 with (go_at_call 35; refine (s_pick w.heap.size _ _ _ HR4.out (by omega) (by omega) (by omega)).mono ?_; rintro e w5 ⟨x, rfl, hx0, hx1, hrd5, hgr5⟩; have HR5 : Hid (RdAt w5 w.heap.size (0 + 3700000 + 1)) := hrd5; have HB5 : Hid (Below w.heap.size w w5) := HB4.out.trans (below_grown_at hgr5 (by omega)); have hs5 := hgr5.size; clear hrd5 hgr5)
 clear HR4 HB4
 have hxx : x = 0 ∨ x = 1 ∨ (x = 2 ∨ x = 3 ∨ x = 4) ∨ (x = 5 ∨ x = 6 ∨ x = 7) ∨ 8 ≤ x := by omega
 rcases hxx with rfl | rfl | hx | hx | hx
 ·go_wp2_with (first | (go_at_call 35; refine (s_pick w.heap.size _ _ _ HR5.out (by omega) (by omega) (by omega)).mono ?_; rintro e w6 ⟨y, rfl, hy0, hy1, hrd6, hgr6⟩; have HB6 : Hid (Below w.heap.size w w6) := HB5.out.trans (below_grown_at hgr6 (by omega)); obtain ⟨m, hm⟩ : ∃ m : Nat, (m : Int) = 50000 - (T.length : Int) + y := ⟨(50000 - (T.length : Int) + y).toNat, by omega⟩; have hm' : 50000 - (T.length : Int) + y = (m : Int) := hm.symm; have HMY : Hid (∀ W, Calls Tryz.prog 36 #[.string ⟨#[32]⟩, .int .i64 (m : Int)] W fun e w' => ∃ t : List UInt8, e = .returned (.string ⟨t.toArray⟩) ∧ t.length ≤ 240000 ∧ w' = W) := (fun W => s_l9Many [32] m W (by simp) (by omega)); clear hrd6 hgr6 hm) | (go_at_call 36; refine (HMY.out _).mono ?_; rintro e w7 ⟨t, rfl, htl2, hw7⟩; rw [hw7]; clear hw7 w7))
  go_ret
  exact ⟨T ++ t, ret_string (ba_app T t), by simp; omega, HB6.out⟩
 ·go_wp2_with (first | (go_at_call 37; refine (s_num w.heap.size _ _ _ [990, 999, 1000, 1001] _ (rd_alloc HR5.out _) (by omega) (ints_of_from (by simp [IntsFrom, go_sem])) (by simp) (by omega) (by simp) (by simp)).mono ?_; rintro e w6 ⟨y, rfl, hy, hrd6, hgr6⟩; have HB6 : Hid (Below w.heap.size w w6) := (bl_alloc HB5.out _).trans (below_grown_at hgr6 (by simp; omega)); have hy2 : 0 ≤ y ∧ y ≤ 1001 := (by simp at hy; omega); obtain ⟨m, hm⟩ := Int.eq_ofNat_of_zero_le hy2.1; subst hm; have HMY : Hid (∀ W, Calls Tryz.prog 36 #[.string ⟨#[105, 110, 118, 10]⟩, .int .i64 (m : Int)] W fun e w' => ∃ t : List UInt8, e = .returned (.string ⟨t.toArray⟩) ∧ t.length ≤ 240000 ∧ w' = W) := (fun W => s_l9Many [105, 110, 118, 10] m W (by simp) (by omega)); clear hrd6 hgr6 hy) | (go_at_call 36; refine (HMY.out _).mono ?_; rintro e w7 ⟨t, rfl, htl2, hw7⟩; rw [hw7]; clear hw7 w7))
  go_ret
  exact ⟨T ++ t, ret_string (ba_app T t), by simp; omega, HB6.out⟩
 ·rcases hx with rfl | rfl | rfl
  all_goals
   go_wp2_with (go_at_call 38; refine (s_of w.heap.size _ _ 18 _ _ (rd_alloc HR5.out _) (by omega) (lits_of _ _ _ (by decide)) (by simp) (by omega) (by omega) (by omega)).mono ?_; rintro e w6 ⟨t, rfl, ht, hrd6, hgr6⟩; have HB6 : Hid (Below w.heap.size w w6) := (bl_alloc HB5.out _).trans (below_grown_at hgr6 (by simp; omega)); clear hrd6 hgr6)
   go_ret
   exact ⟨t ++ [10] ++ T, ret_string (by rw [ba_app2, ba_app]), by simp; omega, HB6.out⟩
 ·have HTK : Hid (∀ k : Nat, k ≤ T.length → (⟨T.toArray⟩ : ByteArray).extract 0 k = ⟨(T.take k).toArray⟩ ∧ (⟨T.toArray⟩ : ByteArray).extract k T.length = ⟨(T.drop k).toArray⟩) := fun k _ => ⟨by rw [slice_mid, List.drop_zero], by rw [slice_mid, List.take_length]⟩
  have hwt : IntKind.i64.wrap ((T.length : Int) + 1) = ((T.length + 1 : Nat) : Int) := by rw [IntKind.wrap_i64]; omega
  rcases hx with rfl | rfl | rfl
  all_goals
   go_upto_region 16 with (go_at_call 35; refine (s_pick w.heap.size _ _ _ HR5.out (by omega) (by omega) (by omega)).mono ?_; rintro e w6 ⟨y, rfl, hy0, hy1, hrd6, hgr6⟩; have HB6 : Hid (Below w.heap.size w w6) := HB5.out.trans (below_grown_at hgr6 (by omega)); have hs6 := hgr6.size; clear hgr6)
   obtain ⟨k, hke⟩ := Int.eq_ofNat_of_zero_le hy0
   subst hke
   have hk : k ≤ T.length := by omega
   obtain ⟨hx1, hx2⟩ := HTK.out k hk
   have HX1 : Hid ((⟨T.toArray⟩ : ByteArray).extract 0 k = ⟨(T.take k).toArray⟩) := hx1
   have HX2 : Hid ((⟨T.toArray⟩ : ByteArray).extract k T.length = ⟨(T.drop k).toArray⟩) := hx2
   have k0 : (k : Int) ≤ (T.length : Int) := by omega
   have hg6 : w.heap.size < w6.heap.size := by omega
   have htk : (T.take k).length ≤ 50000 := by rw [List.length_take]; omega
   have htd : (T.drop k).length ≤ 50000 := by rw [List.length_drop]; omega
   clear hx1 hx2 HTK hy0 hy1
   go_region_with (go_at_call 38; refine (s_of w.heap.size _ _ 5 _ _ raA (by omega) (by (repeat (first | exact lits_of _ _ _ (by decide) | refine lits_drew ?_ | refine lits_drewN ?_ _))) (by simp) (by omega) (by omega) (by omega)).mono ?_; rintro e w7 ⟨t, rfl, ht, hrd7, hgr7⟩; have hbb := HB6.out; have HB7 : Hid (Below w.heap.size w w7) := Below.trans blA (below_grown_at hgr7 (by simp; omega)); clear hrd7 hgr7 hbb)
   all_goals go_wp2
   all_goals go_ret
   all_goals exact ⟨T.take k ++ t ++ T.drop k, ret_string (by rw [HX1.out, HX2.out, ba_app, ba_app]), by simp only [List.length_append]; omega, HB7.out⟩
 ·have e0 : (x == 0) = false := by rw [beq_eq_false_iff_ne]; omega
  have e1 : (x == 1) = false := by rw [beq_eq_false_iff_ne]; omega
  have e2 : (x == 2) = false := by rw [beq_eq_false_iff_ne]; omega
  have e3 : (x == 3) = false := by rw [beq_eq_false_iff_ne]; omega
  have e4 : (x == 4) = false := by rw [beq_eq_false_iff_ne]; omega
  have e5 : (x == 5) = false := by rw [beq_eq_false_iff_ne]; omega
  have e6 : (x == 6) = false := by rw [beq_eq_false_iff_ne]; omega
  have e7 : (x == 7) = false := by rw [beq_eq_false_iff_ne]; omega
  go_wp2
  go_ret
  exact ⟨T, rfl, by omega, HB5.out⟩
end Go.Proofs.YtipdjmbgbehkaaaGreatDoor
