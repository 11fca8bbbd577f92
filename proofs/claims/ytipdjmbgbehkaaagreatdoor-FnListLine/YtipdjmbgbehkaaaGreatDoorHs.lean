/- I13, I12: texts put together. -/
import Derived.Test.YtipdjmbgbehkaaaGreatDoorSH
import Derived.Test.YtipdjmbgbehkaaaGreatDoorHw
import Derived.Test.YtipdjmbgbehkaaaGreatDoorHq
import Derived.Lib.Walk
import Derived.Test.YtipdjmbgbehkaaaGreatDoorI8b
import Derived.Test.YtipdjmbgbehkaaaGreatDoorGK
/- Contracts of the program's chapter 5: listScan. -/
namespace Go.Proofs.YtipdjmbgbehkaaaGreatDoor
open Go.RowKit Go.Sort Go.BigFrame
theorem scan_parts {t : List UInt8} (h0 : t.head? ≠ some 32) (hm : (32 : UInt8) ∈ t) : ∃ a b : List UInt8, t = a ++ 32 :: b ∧ a ≠ [] ∧ (∀ x ∈ a, x ≠ 32) ∧ t.takeWhile (· != 32) = a := by
  obtain ⟨h1, h2⟩ := Stil.cut_parts hm
  refine ⟨_, _, h1, fun e => ?_, h2, rfl⟩
  rw [e] at h1
  rw [h1] at h0
  exact h0 rfl
theorem trim_first (r : List UInt8) : (Stil.trimSp r).head? ≠ some 32 := by
  cases h : Stil.trimSp r with
  | nil => simp
  | cons x q => intro e; simp only [List.head?_cons, Option.some.injEq] at e; exact Stil.trim_head h e
set_option maxHeartbeats 2000000 in
set_option maxRecDepth 100000 in
theorem i_listScan (l : List UInt8) (w : World) (hl : l.length ≤ 1000000) :
    Calls Tryz.prog 65 #[.string ⟨l.toArray⟩] w fun e w' => ∃ v, e = .returned v ∧ w'.ownsRow w.heap.size 9 1 v (Stil.wordsOf l).length ((Stil.wordsOf l).map strV) ∧ Below w.heap.size w w' := by
  obtain ⟨i0, hi, hz0, hz1, hz2⟩ := info_parts info_string
  have HT : Hid (∀ (r : List UInt8) W, Calls Tryz.prog 86 #[.string ⟨r.toArray⟩, .string ⟨#[32]⟩] W fun e w' => e = .returned (.string ⟨(Stil.trimSp r).toArray⟩) ∧ w' = W) := by
    intro r W
    have h := Tryz.strings_TrimLeft_one ⟨r.toArray⟩ 32 (by decide) W
    have e1 : (⟨r.toArray⟩ : ByteArray).data.toList = r := by simp
    rw [e1, Stil.trim_lib] at h
    exact h
  have HI : Hid (∀ (r : List UInt8) W, Calls Tryz.prog 87 #[.string ⟨r.toArray⟩, .int .u8 32] W fun e w' => e = .returned (.int .i64 (if 32 ∈ r then ((r.takeWhile (· != 32)).length : Int) else -1)) ∧ w' = W) := by
    intro r W
    have h := Tryz.strings_IndexByte ⟨r.toArray⟩ 32 W
    have e1 : (⟨r.toArray⟩ : ByteArray).data.toList = r := by simp
    have e2 : (32 : Int).toNat.toUInt8 = 32 := rfl
    rw [e1, e2, Stil.takeWhile_len] at h
    exact h
  go_enter Tryz.func65, Tryz.ntmps65
  go_wp2
  go_step3
  go_wp2
  go_step3
  go_wp2
  go_loopw [0, 3] (fun s v wr => ∃ (r : List UInt8) (ws : List (List UInt8)), s = .string ⟨r.toArray⟩ ∧ ws.length + r.length ≤ l.length ∧ Stil.wordsOf l = ws ++ Stil.wordsOf r ∧ wr.ownsRow w.heap.size 9 1 v ws.length (ws.map strV) ∧ Below w.heap.size w wr) (fun s _ _ => Lib.strSize s)
  case atStart => exact ⟨l, [], rfl, by simp, rfl, World.ownsRow_nil _ _ _ _, Below.refl _ _⟩
  case round =>
    obtain ⟨r, ws, rfl, hr2, hwo, hown, hB⟩ := hrel
    have htl := Stil.trim_len r
    have hwt := Stil.words_trim r
    have hth := trim_first r
    have HTR : Hid (∀ W, Calls Tryz.prog 86 #[.string ⟨r.toArray⟩, .string ⟨#[32]⟩] W fun e w' => e = .returned (.string ⟨(Stil.trimSp r).toArray⟩) ∧ w' = W) := HT.out r
    obtain ⟨t, ht⟩ : ∃ t, t = Stil.trimSp r := ⟨_, rfl⟩
    rw [← ht] at htl hwt hth HTR
    have HWO : Hid (Stil.wordsOf l = ws ++ Stil.wordsOf t) := by show _ = _; rw [hwo, hwt]
    have HOW : Hid (wr.ownsRow w.heap.size 9 1 u3 ws.length (ws.map strV)) := hown
    have hzr := hB.size
    clear hwo hwt ht hown HT
    by_cases h0 : t = []
    · subst h0
      have HE : Hid (Stil.wordsOf l = ws) := by show _ = _; rw [HWO.out, Stil.words_nil, List.append_nil]
      have HI0 : Hid (∀ W, Calls Tryz.prog 87 #[.string ⟨#[]⟩, .int .u8 32] W fun e w' => e = .returned (.int .i64 (-1)) ∧ w' = W) := HI.out []
      clear HWO HI hth htl
      go_wp2_with (first | (go_at_call 86; refine (HTR.out _).mono ?_; rintro e w1 ⟨rfl, hw1⟩; rw [hw1]; clear hw1 w1) | (go_at_call 87; refine (HI0.out _).mono ?_; rintro e w2 ⟨rfl, hw2⟩; rw [hw2]; clear hw2 w2))
      rw [Exit.noGoto_ret]
      go_ret
      exact ⟨_, rfl, by rw [HE.out]; exact HOW.out, hB⟩
    · have hte : t.isEmpty = false := by cases t with | nil => exact absurd rfl h0 | cons => rfl
      by_cases hm : (32 : UInt8) ∈ t
      · obtain ⟨a, b, hab, ha0, ha1, hta⟩ := scan_parts hth hm
        have HIT : Hid (∀ W, Calls Tryz.prog 87 #[.string ⟨t.toArray⟩, .int .u8 32] W fun e w' => e = .returned (.int .i64 (a.length : Int)) ∧ w' = W) := by
          intro W
          have := HI.out t W
          rw [if_pos hm, hta] at this
          exact this
        have HE : Hid (Stil.wordsOf l = (ws ++ [a]) ++ Stil.wordsOf (32 :: b)) := by show _ = _; rw [HWO.out, hab, Stil.words_more b ha1 ha0, Stil.words_space]; simp
        have HX1 : Hid ((⟨t.toArray⟩ : ByteArray).extract 0 a.length = ⟨a.toArray⟩) := by show _ = _; rw [slice_mid, hab]; simp
        have HX2 : Hid ((⟨t.toArray⟩ : ByteArray).extract a.length t.length = ⟨(32 :: b).toArray⟩) := by show _ = _; rw [slice_mid, List.take_length, hab]; simp
        have hal : 0 < a.length := List.length_pos_iff.2 ha0
        have hl2 : t.length = a.length + 1 + b.length := by rw [hab]; simp; omega
        obtain ⟨na, hna⟩ : ∃ n, n = a.length := ⟨_, rfl⟩
        obtain ⟨nt, hnt⟩ : ∃ n, n = t.length := ⟨_, rfl⟩
        have HNA : Hid (na = a.length) := hna
        have HNT : Hid (nt = t.length) := hnt
        rw [← hna] at HIT HX1 HX2 hal hl2
        rw [← hnt] at HX2 hl2 htl
        have k0 : (na : Int) ≤ (nt : Int) := by omega
        have k1 : na ≤ nt := by omega
        have k2 : ¬ (na : Int) < 0 := by omega
        have hsz : (⟨t.toArray⟩ : ByteArray).size = nt := by rw [hnt]; rfl
        clear HWO HI hth hta hab hm hna hnt h0
        go_wp2_with (first | (go_at_call 86; refine (HTR.out _).mono ?_; rintro e w1 ⟨rfl, hw1⟩; rw [hw1]; clear hw1 w1) | (go_at_call 87; refine (HIT.out _).mono ?_; rintro e w2 ⟨rfl, hw2⟩; rw [hw2]; clear hw2 w2) | (at_builtin; refine wpList_append_own _ rfl _ _ 68 rfl w.heap.size 9 i0 (.string ⟨#[]⟩) 1 16 Tryz.underlying68 hi hz0 hz1 hz2 rfl (by decide) _ _ _ rfl (HOW.out.alloc _) ⟨wr.heap.size, 0, none⟩ 1 1 [.string ((⟨t.toArray⟩ : ByteArray).extract 0 na)] rfl rfl (by exact cell_one_new _ _ _) (by intro u hu; simp at hu; subst hu; rfl) (by unfold maxLen; omega) (by omega) (by simp; omega) ?_; intro v' w6 hown6 hgr6 _))
        have hlt2 := HOW.out.lt
        have hB2 : Below w.heap.size w w6 := (bl_alloc hB _).grown hgr6 (by simp; omega) (fun k hk => (hlt2 k hk).1)
        have e2 : (⟨t.toArray⟩ : ByteArray).extract na (na + 1 + b.length) = ⟨(32 :: b).toArray⟩ := by rw [← hl2]; exact HX2.out
        rw [e2]
        rw [HX1.out] at hown6
        refine ⟨⟨32 :: b, ws ++ [a], rfl, by simp; omega, HE.out, by rw [List.map_append, List.length_append]; exact hown6, hB2⟩, ?_⟩
        rw [Lib.strSize_string, Lib.strSize_string]
        show (32 :: b).length < r.length
        simp
        omega
      · have HIT : Hid (∀ W, Calls Tryz.prog 87 #[.string ⟨t.toArray⟩, .int .u8 32] W fun e w' => e = .returned (.int .i64 (-1)) ∧ w' = W) := by
          intro W
          have := HI.out t W
          rw [if_neg hm] at this
          exact this
        have HE : Hid (Stil.wordsOf l = ws ++ [t]) := by show _ = _; rw [HWO.out, Stil.words_one (fun x hx e => hm (e ▸ hx)) h0]
        have h1 : 0 < t.length := List.length_pos_iff.2 h0
        clear HWO HI hth hm h0
        go_wp2_with (first | (go_at_call 86; refine (HTR.out _).mono ?_; rintro e w1 ⟨rfl, hw1⟩; rw [hw1]; clear hw1 w1) | (go_at_call 87; refine (HIT.out _).mono ?_; rintro e w2 ⟨rfl, hw2⟩; rw [hw2]; clear hw2 w2) | (at_builtin; refine wpList_append_own _ rfl _ _ 68 rfl w.heap.size 9 i0 (.string ⟨#[]⟩) 1 16 Tryz.underlying68 hi hz0 hz1 hz2 rfl (by decide) _ _ _ rfl (HOW.out.alloc _) ⟨wr.heap.size, 0, none⟩ 1 1 [.string ⟨t.toArray⟩] rfl rfl (by exact cell_one_new _ _ _) (by intro u hu; simp at hu; subst hu; rfl) (by unfold maxLen; omega) (by omega) (by simp; omega) ?_; intro v' w6 hown6 hgr6 _))
        rw [Exit.noGoto_ret]
        go_ret
        have hlt2 := HOW.out.lt
        have hB2 : Below w.heap.size w w6 := (bl_alloc hB _).grown hgr6 (by simp; omega) (fun k hk => (hlt2 k hk).1)
        refine ⟨_, rfl, ?_, hB2⟩
        rw [HE.out, List.map_append, List.length_append]
        exact hown6
end Go.Proofs.YtipdjmbgbehkaaaGreatDoor
/- Contracts of the program's chapter 5: listCode, ListLine. -/
namespace Stil
theorem lword_nat {k : Nat} (h1 : 1 ≤ k) (h2 : k ≤ 11) : lwordOf (k : Int) = listWords.getD k [] := by
  unfold lwordOf
  rw [if_neg (by omega)]
  rfl
theorem code_hit {k : Nat} (h1 : 1 ≤ k) (h2 : k ≤ 11) : codeOf (lwordOf (k : Int)) = k := by
  have hk : k = 1 ∨ k = 2 ∨ k = 3 ∨ k = 4 ∨ k = 5 ∨ k = 6 ∨ k = 7 ∨ k = 8 ∨ k = 9 ∨ k = 10 ∨ k = 11 := by omega
  rcases hk with rfl | rfl | rfl | rfl | rfl | rfl | rfl | rfl | rfl | rfl | rfl <;> decide
theorem code_miss {x : List UInt8} (h : ∀ k : Nat, 1 ≤ k → k ≤ 11 → x ≠ lwordOf (k : Int)) : codeOf x = 0 := by
  have e : ∀ k : Nat, 1 ≤ k → k ≤ 11 → ¬ x = lwordOf (k : Int) := h
  unfold codeOf
  rw [if_neg (show ¬ x = lwordOf 1 from e 1 (by omega) (by omega)), if_neg (show ¬ x = lwordOf 2 from e 2 (by omega) (by omega)), if_neg (show ¬ x = lwordOf 3 from e 3 (by omega) (by omega)), if_neg (show ¬ x = lwordOf 4 from e 4 (by omega) (by omega)), if_neg (show ¬ x = lwordOf 5 from e 5 (by omega) (by omega)), if_neg (show ¬ x = lwordOf 6 from e 6 (by omega) (by omega)), if_neg (show ¬ x = lwordOf 7 from e 7 (by omega) (by omega)), if_neg (show ¬ x = lwordOf 8 from e 8 (by omega) (by omega)), if_neg (show ¬ x = lwordOf 9 from e 9 (by omega) (by omega)), if_neg (show ¬ x = lwordOf 10 from e 10 (by omega) (by omega)), if_neg (show ¬ x = lwordOf 11 from e 11 (by omega) (by omega))]
theorem lword_short (c : Int) : (lwordOf c).length ≤ 4 := by
  unfold lwordOf
  split
  · simp
  · rename_i h
    have hc : c = 1 ∨ c = 2 ∨ c = 3 ∨ c = 4 ∨ c = 5 ∨ c = 6 ∨ c = 7 ∨ c = 8 ∨ c = 9 ∨ c = 10 ∨ c = 11 := by omega
    rcases hc with rfl | rfl | rfl | rfl | rfl | rfl | rfl | rfl | rfl | rfl | rfl <;> decide
end Stil
namespace Go.Proofs.YtipdjmbgbehkaaaGreatDoor
open Go.RowKit Go.Sort Go.BigFrame
set_option maxHeartbeats 1000000 in
set_option maxRecDepth 100000 in
theorem i_listCode (x : List UInt8) (w : World) (hw : LWordsAt w) :
    Calls Tryz.prog 88 #[.string ⟨x.toArray⟩] w fun e w' => e = .returned (.int .i64 (Stil.codeOf x)) ∧ w' = w := by
  have HL : Hid (∀ k : Nat, 1 ≤ k → k ≤ 11 → Calls Tryz.prog 44 #[.int .i64 k] w fun e w' => e = .returned (.string ⟨(Stil.lwordOf (k : Int)).toArray⟩) ∧ w' = w) := by
    intro k h1 h2
    rw [Stil.lword_nat h1 h2]
    exact i_listWord k w hw (by omega)
  clear hw
  go_enter Tryz.func88, Tryz.ntmps88
  go_wp2
  go_loopw [3] (fun k wr => ∃ m : Nat, m ≤ 11 ∧ k = .int .i64 ((m : Int) + 1) ∧ (∀ j : Nat, 1 ≤ j → j ≤ m → x ≠ Stil.lwordOf (j : Int)) ∧ wr = w) (fun k _ => 12 - (intOf k).toNat)
  case atStart => exact ⟨0, by omega, rfl, fun j h1 h2 => absurd h1 (by omega), rfl⟩
  case round =>
    obtain ⟨m, h2, rfl, hno, hwr⟩ := hrel
    subst hwr
    have HNO : Hid (∀ j : Nat, 1 ≤ j → j ≤ m → x ≠ Stil.lwordOf (j : Int)) := hno
    clear hno
    by_cases hlt : m < 11
    · have HLW : Hid (Calls Tryz.prog 44 #[.int .i64 ((m : Int) + 1)] wr fun e w' => e = .returned (.string ⟨(Stil.lwordOf ((m + 1 : Nat) : Int)).toArray⟩) ∧ w' = wr) := HL.out (m + 1) (by omega) (by omega)
      obtain ⟨y, hy⟩ : ∃ y, y = Stil.lwordOf ((m + 1 : Nat) : Int) := ⟨_, rfl⟩
      have HY : Hid (y = Stil.lwordOf ((m + 1 : Nat) : Int)) := hy
      rw [← hy] at HLW
      have hwm : IntKind.i64.wrap ((m : Int) + 1 + 1) = (m : Int) + 1 + 1 := by rw [IntKind.wrap_i64]; omega
      have hml : (m : Int) + 1 ≤ 11 := by omega
      clear hy HL
      by_cases hxy : y = x
      · have HU : Hid (Stil.codeOf x = (m : Int) + 1) := by show _ = _; rw [← hxy, HY.out, Stil.code_hit (by omega) (by omega)]; simp
        have hxb : (y == x) = true := by rw [hxy]; simp
        clear hxy
        go_wp2_with (go_at_call 44; refine HLW.out.mono ?_; rintro e w1 ⟨rfl, rfl⟩)
        go_ret
        exact ⟨ret_int HU.out.symm, rfl⟩
      · have hxb : (y == x) = false := beq_eq_false_iff_ne.2 hxy
        have HU : Hid (∀ j : Nat, 1 ≤ j → j ≤ m + 1 → x ≠ Stil.lwordOf (j : Int)) := by
          intro j h1 h2 e
          by_cases hj : j ≤ m
          · exact HNO.out j h1 hj e
          · obtain rfl : j = m + 1 := by omega
            exact hxy (by rw [HY.out, e])
        clear hxy
        go_wp2_with (go_at_call 44; refine HLW.out.mono ?_; rintro e w1 ⟨rfl, rfl⟩)
        exact ⟨⟨m + 1, by omega, by simp, HU.out, by first | trivial | rfl⟩, by simp [intOf]; omega⟩
    · obtain rfl : m = 11 := by omega
      have HU : Hid (Stil.codeOf x = 0) := Stil.code_miss HNO.out
      clear HL HNO
      go_wp2
      go_ret
      exact ⟨ret_int HU.out.symm, rfl⟩
set_option maxHeartbeats 2000000 in
set_option maxRecDepth 100000 in
theorem i_listLine (i : Stil.Inst) (av : Value) (w : World) (hr : RowsAt w) (hw : WordsAt w) (hlw : LWordsAt w) (hpw : PowAt w) (hav : DevsAt w av i.one.args) (hf : i.fits) :
    Calls Tryz.prog 17 #[.agg #[.int .i64 i.code, .int .i64 i.one.op, av]] w fun e w' => e = .returned (.string ⟨(Stil.lineText i).toArray⟩) ∧ Below w.heap.size w w' := by
  have HOK : Hid (∀ W, Below w.heap.size w W → Calls Tryz.prog 16 #[.agg #[.int .i64 i.code, .int .i64 i.one.op, av]] W fun e w' => e = .returned (.bool (Stil.listOk i)) ∧ Below W.heap.size W w') := fun W h => i_listOk i av W (hr.below h) (hlw.below h) (hav.below h) hf
  have HTX : Hid (∀ W, Below w.heap.size w W → Calls Tryz.prog 46 #[.agg #[.int .i64 i.one.op, av]] W fun e w' => e = .returned (.string ⟨i.one.text.toArray⟩) ∧ Below W.heap.size W w') := fun W h => i_elemText i.one.op av i.one.args W (hr.below h) (hw.below h) (hpw.below h) (hav.below h) hf.2.2.2 (by have := hf.2.2.1; omega)
  have hav2 := hav
  obtain ⟨p0, r0, hv, _⟩ := hav2
  have hln : i.one.args.length ≤ 1048576 := hf.2.2.1
  have HNO : Hid (∀ W, Calls Tryz.prog 45 #[.agg #[.int .i64 i.one.op, av]] W fun e w' => e = .returned (.bool (Stil.noElem i.one)) ∧ Below W.heap.size W w') := by
    intro W
    rw [hv]
    exact i_isNothing i.one.op p0 i.one.args.length r0 W (by omega)
  have HLT : Hid (Stil.lineText i = if Stil.listOk i then (if Stil.noElem i.one then Stil.lwordOf i.code else Stil.lwordOf i.code ++ 32 :: i.one.text) else []) := rfl
  have HCO : Hid (Stil.listOk i = true → ∀ W, Below w.heap.size w W → Calls Tryz.prog 44 #[.int .i64 i.code] W fun e w' => e = .returned (.string ⟨(Stil.lwordOf i.code).toArray⟩) ∧ Below W.heap.size W w') := by
    intro hok W h
    have hc := Stil.ok_code hok
    have e : ((i.code.toNat : Nat) : Int) = i.code := by omega
    have := i_listWord i.code.toNat W (hlw.below h) (by omega)
    rw [← Stil.lword_nat (k := i.code.toNat) (by omega) (by omega), e] at this
    refine this.mono ?_
    rintro e w' ⟨rfl, rfl⟩
    exact ⟨rfl, Below.refl _ _⟩
  have htl : i.one.text.length ≤ 100 := Stil.text_short i.one.op i.one.args
  have hwl := Stil.lword_short i.code
  obtain ⟨tx, htx⟩ : ∃ t, t = i.one.text := ⟨_, rfl⟩
  obtain ⟨lw, hlw2⟩ : ∃ t, t = Stil.lwordOf i.code := ⟨_, rfl⟩
  obtain ⟨R, hR⟩ : ∃ R, R = Stil.lineText i := ⟨_, rfl⟩
  rw [← htx] at HTX HLT htl
  rw [← hlw2] at HLT HCO hwl
  rw [← hR] at HLT ⊢
  obtain ⟨nn, hnn⟩ : ∃ t, t = Stil.noElem i.one := ⟨_, rfl⟩
  rw [← hnn] at HNO HLT
  obtain ⟨c, op, ds⟩ := i
  simp only at HOK HTX HNO HCO hln hv ⊢
  subst hv
  clear hr hw hlw hpw hav hf htx hlw2 hR hnn
  cases hok : Stil.listOk ⟨c, op, ds⟩
  · have HR : Hid (R = []) := by show _ = _; rw [HLT.out, hok]; rfl
    rw [hok] at HOK
    clear HLT HCO hok HNO HTX
    go_enter Tryz.func17, Tryz.ntmps17
    go_wp2_with (go_at_call 16; refine (HOK.out _ (by (repeat (first | with_reducible exact Below.refl _ _ | with_reducible assumption | with_reducible refine bl_set (by first | exact Nat.le_refl _ | (simp; done) | (simp; omega) | omega) ?_ _ | with_reducible refine bl_alloc ?_ _ | with_reducible refine bl_drewN ?_ _ | with_reducible refine bl_drew ?_ | with_reducible refine bl_grow ?_ _ _ | with_reducible refine bl_call ?_ (by assumption))))).mono ?_; rintro e w1 ⟨rfl, hb1⟩)
    go_ret
    exact ⟨ret_string (by rw [HR.out]), by (repeat (first | with_reducible exact Below.refl _ _ | with_reducible assumption | with_reducible refine bl_set (by first | exact Nat.le_refl _ | (simp; done) | (simp; omega) | omega) ?_ _ | with_reducible refine bl_alloc ?_ _ | with_reducible refine bl_drewN ?_ _ | with_reducible refine bl_drew ?_ | with_reducible refine bl_grow ?_ _ _ | with_reducible refine bl_call ?_ (by assumption)))⟩
  · have HCW := Hid.out HCO hok
    have HC2 : Hid (∀ W, Below w.heap.size w W → Calls Tryz.prog 44 #[.int .i64 c] W fun e w' => e = .returned (.string ⟨lw.toArray⟩) ∧ Below W.heap.size W w') := HCW
    rw [hok] at HOK
    cases nn
    · have HR : Hid (R = lw ++ 32 :: tx) := by show _ = _; rw [HLT.out, hok]; rfl
      clear HLT HCO hok HCW
      go_enter Tryz.func17, Tryz.ntmps17
      go_upto_region 5 with (first | (go_at_call 16; refine (HOK.out _ (by (repeat (first | with_reducible exact Below.refl _ _ | with_reducible assumption | with_reducible refine bl_set (by first | exact Nat.le_refl _ | (simp; done) | (simp; omega) | omega) ?_ _ | with_reducible refine bl_alloc ?_ _ | with_reducible refine bl_drewN ?_ _ | with_reducible refine bl_drew ?_ | with_reducible refine bl_grow ?_ _ _ | with_reducible refine bl_call ?_ (by assumption))))).mono ?_; rintro e w1 ⟨rfl, hb1⟩; obtain ⟨hc1, hf1⟩ := bcell hb1) | (go_at_call 45; refine (HNO.out _).mono ?_; rintro e w2 ⟨rfl, hb2⟩; obtain ⟨hc2, hf2⟩ := bcell hb2))
      have hz0 : w.heap.size < w1.heap.size := Nat.lt_of_lt_of_le (by simp) hb1.size
      have q0 : w2.cell? ⟨w.heap.size, 0, none⟩ = some (.int .i64 c) := by rw [hc2 _ _ hz0, hc1 _ _ (by simp)]; simp [go_sem]
      have q1 : w2.cell? ⟨w.heap.size, 1, none⟩ = some (.int .i64 op) := by rw [hc2 _ _ hz0, hc1 _ _ (by simp)]; simp [go_sem]
      have q2 : w2.cell? ⟨w.heap.size, 2, none⟩ = some (.slice p0 ds.length r0) := by rw [hc2 _ _ hz0, hc1 _ _ (by simp)]; simp [go_sem]
      have hbw : Below w.heap.size w w2 := by (repeat (first | with_reducible exact Below.refl _ _ | with_reducible assumption | with_reducible refine bl_set (by first | exact Nat.le_refl _ | (simp; done) | (simp; omega) | omega) ?_ _ | with_reducible refine bl_alloc ?_ _ | with_reducible refine bl_drewN ?_ _ | with_reducible refine bl_drew ?_ | with_reducible refine bl_grow ?_ _ _ | with_reducible refine bl_call ?_ (by assumption)))
      have r0 := cell_regrown q0
      have r1 := cell_regrown q1
      have r2 := cell_regrown q2
      clear hc1 hf1 hc2 hf2
      refine wp_region_quiet_below (by kernel_rfl) (by kernel_rfl) ?_
      repeat (go_big_quiet_step ((first | exact Calls.regrown_of (HC2.out _ (hbw.trans ((below_regrown _ _ _).mono hbw.size))) | exact Calls.regrown_of (HTX.out _ (hbw.trans ((below_regrown _ _ _).mono hbw.size))))))
      refine wpQuiet_nil ?_
      intro _ hw'
      obtain ⟨⟨dq, osq⟩, hw''⟩ := hw'
      subst hw''
      go_wp2
      go_ret
      exact ⟨ret_string (by rw [HR.out]; rw [ba_app2, ba_app]; simp), hbw.trans ((below_regrown _ _ _).mono hbw.size)⟩
    · have HR : Hid (R = lw) := by show _ = _; rw [HLT.out, hok]; rfl
      clear HLT HCO hok HTX HCW
      go_enter Tryz.func17, Tryz.ntmps17
      go_wp2_with (first | (go_at_call 16; refine (HOK.out _ (by (repeat (first | with_reducible exact Below.refl _ _ | with_reducible assumption | with_reducible refine bl_set (by first | exact Nat.le_refl _ | (simp; done) | (simp; omega) | omega) ?_ _ | with_reducible refine bl_alloc ?_ _ | with_reducible refine bl_drewN ?_ _ | with_reducible refine bl_drew ?_ | with_reducible refine bl_grow ?_ _ _ | with_reducible refine bl_call ?_ (by assumption))))).mono ?_; rintro e w1 ⟨rfl, hb1⟩; obtain ⟨hc1, hf1⟩ := bcell hb1; have hz0 : w.heap.size < w1.heap.size := Nat.lt_of_lt_of_le (by simp) hb1.size) | (go_at_call 45; refine (HNO.out _).mono ?_; rintro e w2 ⟨rfl, hb2⟩; obtain ⟨hc2, hf2⟩ := bcell hb2) | (go_at_call 44; refine (HC2.out _ (by (repeat (first | with_reducible exact Below.refl _ _ | with_reducible assumption | with_reducible refine bl_set (by first | exact Nat.le_refl _ | (simp; done) | (simp; omega) | omega) ?_ _ | with_reducible refine bl_alloc ?_ _ | with_reducible refine bl_drewN ?_ _ | with_reducible refine bl_drew ?_ | with_reducible refine bl_grow ?_ _ _ | with_reducible refine bl_call ?_ (by assumption))))).mono ?_; rintro e w3 ⟨rfl, hb3⟩))
      go_ret
      exact ⟨ret_string (by rw [HR.out]), by (repeat (first | with_reducible exact Below.refl _ _ | with_reducible assumption | with_reducible refine bl_set (by first | exact Nat.le_refl _ | (simp; done) | (simp; omega) | omega) ?_ _ | with_reducible refine bl_alloc ?_ _ | with_reducible refine bl_drewN ?_ _ | with_reducible refine bl_drew ?_ | with_reducible refine bl_grow ?_ _ _ | with_reducible refine bl_call ?_ (by assumption)))⟩
end Go.Proofs.YtipdjmbgbehkaaaGreatDoor
