/- M5, M5b: texts put together. -/
import Derived.Test.YtipdjmbgbehkaaaGreatDoorGM
import Derived.Lib.TrimUEq
import Derived.Lib.TrimU
import Derived.Lib.TrimAscii
import Derived.Lib.MapLaws
import Derived.Laws.RangeAny
import Derived.Shelf.GgClosure.StringsIndexFunc
import Derived.Shelf.GgClosure.StringsTrimFunc
import Derived.Lib.Split
import Derived.Lib.IndexMore
import Derived.Lib.IndexBytes
/- Plain facts: the first and the last sign of a text, by runes as the library looks. -/
namespace Stil
open Go Go.Lib
/-- A rune that is a sign. -/
def sgn (r : Nat) : Bool := r == 60 || r == 61 || r == 62
theorem sgn_byte (c : UInt8) : sgn c.toNat = isSign c := by
  unfold sgn isSign
  have e : ∀ k : UInt8, (c.toNat == k.toNat) = (c == k) := by
    intro k
    rw [Bool.eq_iff_iff]
    simp only [beq_iff_eq]
    exact UInt8.toNat_inj
  rw [← e 60, ← e 61, ← e 62]
  rfl
theorem sgn_high {r : Nat} (h : 128 ≤ r) : sgn r = false := by
  unfold sgn
  simp
  omega
theorem high_sign {c : UInt8} (h : 128 ≤ c.toNat) : isSign c = false := by rw [← sgn_byte]; exact sgn_high h
/-- All bytes of a rune whose first byte is great are great, and it is a great rune itself. -/
theorem decodeN_bytes (n b0 b1 b2 b3 : Nat) (h : 128 ≤ b0) : 128 ≤ (decodeN n b0 b1 b2 b3).1 ∧ ((decodeN n b0 b1 b2 b3).2 = 1 ∨ ((decodeN n b0 b1 b2 b3).2 = 2 ∧ 128 ≤ b1) ∨ ((decodeN n b0 b1 b2 b3).2 = 3 ∧ 128 ≤ b1 ∧ 128 ≤ b2) ∨ ((decodeN n b0 b1 b2 b3).2 = 4 ∧ 128 ≤ b1 ∧ 128 ≤ b2 ∧ 128 ≤ b3)) := by
  unfold decodeN
  have hn : ¬ b0 < 128 := by omega
  simp only [hn, if_false]
  repeat' split
  all_goals simp_all
  all_goals omega
theorem decodeL_bytes (l : List UInt8) (h : 128 ≤ (l.getD 0 0).toNat) : 128 ≤ (decodeL l).1 ∧ ∀ j, j < (decodeL l).2 → 128 ≤ (l.getD j 0).toNat := by
  rw [decodeL_N]
  obtain ⟨h1, h2⟩ := decodeN_bytes l.length _ (l.getD 1 0).toNat (l.getD 2 0).toNat (l.getD 3 0).toNat h
  refine ⟨h1, fun j hj => ?_⟩
  rcases h2 with e | ⟨e, q1⟩ | ⟨e, q1, q2⟩ | ⟨e, q1, q2, q3⟩
  · rw [e] at hj
    obtain rfl : j = 0 := by omega
    exact h
  · rw [e] at hj
    have : j = 0 ∨ j = 1 := by omega
    rcases this with rfl | rfl
    · exact h
    · exact q1
  · rw [e] at hj
    have : j = 0 ∨ j = 1 ∨ j = 2 := by omega
    rcases this with rfl | rfl | rfl
    · exact h
    · exact q1
    · exact q2
  · rw [e] at hj
    have : j = 0 ∨ j = 1 ∨ j = 2 ∨ j = 3 := by omega
    rcases this with rfl | rfl | rfl | rfl
    · exact h
    · exact q1
    · exact q2
    · exact q3
theorem findIdx_skip : ∀ (a b : List UInt8), (∀ x ∈ a, isSign x = false) → (a ++ b).findIdx isSign = a.length + b.findIdx isSign ∧ (a ++ b).any isSign = b.any isSign
  | [], b, _ => by simp
  | x :: a, b, h => by
    obtain ⟨h1, h2⟩ := findIdx_skip a b fun y hy => h y (by simp [hy])
    have hx := h x (by simp)
    constructor
    · rw [List.cons_append, List.findIdx_cons, hx, h1]
      simp
      omega
    · rw [List.cons_append, List.any_cons, hx, h2, Bool.false_or]
theorem take_high {l : List UInt8} {w : Nat} (hw : w ≤ l.length) (h : ∀ j, j < w → 128 ≤ (l.getD j 0).toNat) : ∀ x ∈ l.take w, isSign x = false := by
  intro x hx
  obtain ⟨j, hj, rfl⟩ := List.mem_iff_getElem.1 hx
  have hjw : j < w := by simp at hj; omega
  rw [List.getElem_take]
  have := h j hjw
  rw [List.getD_eq_getElem?_getD, List.getElem?_eq_getElem (by omega)] at this
  exact high_sign this
theorem idx_from (l : List UInt8) : ∀ f pos, l.length - pos ≤ f → idxFuncFrom sgn true ⟨l.toArray⟩ f pos = if (l.drop pos).any isSign then ((pos + (l.drop pos).findIdx isSign : Nat) : Int) else -1
  | 0, pos, h => by
    rw [idxFuncFrom, List.drop_eq_nil_of_le (by omega)]
    rfl
  | f + 1, pos, h => by
    rw [idxFuncFrom]
    have hsz : (⟨l.toArray⟩ : ByteArray).size = l.length := rfl
    by_cases hp : pos < l.length
    · rw [if_pos (by rw [hsz]; exact hp)]
      have hd : Utf8.decode ⟨l.toArray⟩ pos = decodeL (l.drop pos) := by rw [← decodeL_drop]
      rw [hd]
      have hdr := List.drop_eq_getElem_cons hp
      have hg : (l.drop pos).getD 0 0 = l[pos] := by rw [hdr]; rfl
      by_cases ha : l[pos].toNat < 128
      · have e : decodeL (l.drop pos) = (l[pos].toNat, 1) := by rw [hdr]; exact decodeL_ascii _ _ ha
        rw [e]
        simp only
        rw [sgn_byte, idx_from l f (pos + 1) (by omega), hdr]
        cases hs : isSign l[pos]
        · rw [if_neg (by decide), List.any_cons, hs, Bool.false_or, List.findIdx_cons, hs]
          split
          · congr 1
            simp
            omega
          · rfl
        · rw [if_pos rfl, List.any_cons, hs, Bool.true_or, if_pos rfl, List.findIdx_cons, hs]
          simp
      · obtain ⟨h1, h2⟩ := decodeL_bytes (l.drop pos) (by rw [hg]; omega)
        rw [sgn_high h1, if_neg (by decide)]
        have hw := decodeL_le (l.drop pos) (fun e => by rw [hdr] at e; cases e)
        have hw1 := decodeL_width (l.drop pos)
        rw [idx_from l f _ (by omega)]
        obtain ⟨q1, q2⟩ := findIdx_skip ((l.drop pos).take (decodeL (l.drop pos)).2) ((l.drop pos).drop (decodeL (l.drop pos)).2) (take_high hw h2)
        rw [List.take_append_drop] at q1 q2
        rw [q1, q2, List.drop_drop]
        split
        · congr 1
          rw [List.length_take]
          omega
        · rfl
    · rw [if_neg (by rw [hsz]; exact hp), List.drop_eq_nil_of_le (by omega)]
      rfl
/-- The first sign. -/
theorem idx_sign (l : List UInt8) : idxFunc sgn true ⟨l.toArray⟩ = if l.any isSign then (fromOf l : Int) else -1 := by
  unfold idxFunc
  rw [idx_from l _ 0 (by show l.length - 0 ≤ l.length; omega), List.drop_zero, Nat.zero_add]
  rfl
theorem lastL_high (l : List UInt8) (h0 : 0 < l.length) (h : 128 ≤ (l.getD (l.length - 1) 0).toNat) : 128 ≤ (decodeLastL l).1 ∧ 1 ≤ (decodeLastL l).2 ∧ (decodeLastL l).2 ≤ l.length ∧ ∀ j, l.length - (decodeLastL l).2 ≤ j → j < l.length → 128 ≤ (l.getD j 0).toNat := by
  obtain ⟨w1, w2⟩ := decodeLastL_width l h0
  refine ⟨?_, w1, w2, ?_⟩
  · unfold decodeLastL
    rw [if_neg (by intro e; rw [e] at h0; simp at h0), if_neg (by omega)]
    simp only
    split
    · rename_i hs
      have hst : lastStart l < l.length := by
        have := decodeL_width (l.drop (lastStart l))
        omega
      by_cases hb : 128 ≤ ((l.drop (lastStart l)).getD 0 0).toNat
      · exact (decodeL_bytes _ hb).1
      · exfalso
        have hdr := List.drop_eq_getElem_cons hst
        rw [hdr] at hb hs
        have hb' : l[lastStart l].toNat < 128 := by
          have : (l[lastStart l] :: List.drop (lastStart l + 1) l).getD 0 0 = l[lastStart l] := rfl
          rw [this] at hb
          omega
        rw [decodeL_ascii _ _ hb'] at hs
        simp only at hs
        have e : lastStart l = l.length - 1 := by omega
        rw [List.getD_eq_getElem?_getD, List.getElem?_eq_getElem (by omega)] at h
        simp only [Option.getD_some] at h
        have e2 : l[lastStart l] = l[l.length - 1] := by congr 1
        rw [e2] at hb'
        omega
    · decide
  · unfold decodeLastL
    rw [if_neg (by intro e; rw [e] at h0; simp at h0), if_neg (by omega)]
    simp only
    split
    · rename_i hs
      intro j h1 h2
      have hst : lastStart l < l.length := by
        have := decodeL_width (l.drop (lastStart l))
        omega
      by_cases hb : 128 ≤ ((l.drop (lastStart l)).getD 0 0).toNat
      · have := (decodeL_bytes _ hb).2 (j - lastStart l) (by omega)
        rw [getD_dropU] at this
        rw [show lastStart l + (j - lastStart l) = j from by omega] at this
        exact this
      · exfalso
        have hdr := List.drop_eq_getElem_cons hst
        rw [hdr] at hb hs
        have hb' : l[lastStart l].toNat < 128 := by
          have : (l[lastStart l] :: List.drop (lastStart l + 1) l).getD 0 0 = l[lastStart l] := rfl
          rw [this] at hb
          omega
        rw [decodeL_ascii _ _ hb'] at hs
        simp only at hs
        rw [List.getD_eq_getElem?_getD, List.getElem?_eq_getElem (by omega)] at h
        simp only [Option.getD_some] at h
        have e2 : l[lastStart l] = l[l.length - 1] := by congr 1; omega
        rw [e2] at hb'
        omega
    · intro j h1 h2
      have e : j = l.length - 1 := by simp only at h1; omega
      rw [e]
      exact h
/-- One behind the last sign of a text, 0 without one. -/
def lastOf (l : List UInt8) : Nat := l.length - l.reverse.findIdx isSign
theorem last_from (l : List UInt8) : ∀ f i, i ≤ l.length → i ≤ f → lastIdxFuncFrom sgn true ⟨l.toArray⟩ f i = if (l.take i).any isSign then (lastOf (l.take i) : Int) - 1 else -1
  | 0, i, _, h => by
    obtain rfl : i = 0 := by omega
    rw [lastIdxFuncFrom]
    rfl
  | f + 1, i, hi, h => by
    rw [lastIdxFuncFrom]
    by_cases h0 : 0 < i
    · rw [if_pos h0]
      have hl : (⟨l.toArray⟩ : ByteArray).data.toList = l := by simp
      rw [hl]
      have hlen : (l.take i).length = i := by simp; omega
      have hsn : l.take i = l.take (i - 1) ++ [l[i - 1]] := by
        have := List.take_append_getElem (l := l) (i := i - 1) (by omega)
        rw [this, show i - 1 + 1 = i from by omega]
      by_cases ha : l[i - 1].toNat < 128
      · have e : decodeLastL (l.take i) = (l[i - 1].toNat, 1) := by rw [hsn]; exact decodeLastL_ascii _ _ ha
        rw [e]
        simp only
        rw [sgn_byte, last_from l f (i - 1) (by omega) (by omega)]
        cases hs : isSign l[i - 1]
        · rw [if_neg (by decide), hsn, List.any_append]
          have : [l[i - 1]].any isSign = false := by simp [hs]
          rw [this, Bool.or_false]
          split
          · congr 2
            unfold lastOf
            rw [List.reverse_append]
            simp [List.findIdx_cons, hs]
            omega
          · rfl
        · rw [if_pos rfl, if_pos (by rw [hsn, List.any_append]; simp [hs])]
          unfold lastOf
          rw [hsn, List.reverse_append]
          simp [List.findIdx_cons, hs]
          omega
      · have hg : ((l.take i).getD ((l.take i).length - 1) 0) = l[i - 1] := by
          rw [hlen, List.getD_eq_getElem?_getD, List.getElem?_take, if_pos (by omega), List.getElem?_eq_getElem (by omega)]
          rfl
        obtain ⟨h1, h2, h3, h4⟩ := lastL_high (l.take i) (by omega) (by rw [hg]; omega)
        rw [hlen] at h3 h4
        rw [sgn_high h1, if_neg (by decide), last_from l f _ (by omega) (by omega)]
        obtain ⟨w, hw⟩ : ∃ w, w = (decodeLastL (l.take i)).2 := ⟨_, rfl⟩
        rw [← hw] at h2 h3 h4 ⊢
        have hsp : l.take i = l.take (i - w) ++ (l.take i).drop (i - w) := by
          have := (List.take_append_drop (i - w) (l.take i)).symm
          rw [List.take_take, show min (i - w) i = i - w from by omega] at this
          exact this
        have hno : ∀ x ∈ (l.take i).drop (i - w), isSign x = false := by
          intro x hx
          obtain ⟨j, hj, rfl⟩ := List.mem_iff_getElem.1 hx
          have hj2 : j < w := by simp at hj; omega
          have := h4 (i - w + j) (by omega) (by omega)
          rw [List.getD_eq_getElem?_getD, List.getElem?_eq_getElem (by rw [hlen]; omega)] at this
          rw [List.getElem_drop]
          exact high_sign this
        have hany : (l.take i).any isSign = (l.take (i - w)).any isSign := by
          rw [hsp, List.any_append, any_no hno, Bool.or_false]
        have hlast : (l.take (i - w)).any isSign = true → lastOf (l.take i) = lastOf (l.take (i - w)) := by
          intro _
          unfold lastOf
          have e : (l.take i).reverse = ((l.take i).drop (i - w)).reverse ++ (l.take (i - w)).reverse := by rw [← List.reverse_append, ← hsp]
          rw [e, (findIdx_skip _ _ fun x hx => hno x (List.mem_reverse.1 hx)).1]
          simp
          omega
        rw [hany]
        split
        · rename_i ht
          rw [hlast ht]
        · rfl
    · rw [if_neg h0]
      obtain rfl : i = 0 := by omega
      rfl
/-- The last sign. -/
theorem last_sign (l : List UInt8) : lastIdxFunc sgn true ⟨l.toArray⟩ = if l.any isSign then (pastOf l : Int) - 1 else -1 := by
  unfold lastIdxFunc
  have := last_from l l.length l.length (Nat.le_refl _) (Nat.le_refl _)
  rw [List.take_length] at this
  exact this
end Stil
/- Plain facts: a text cut at a byte, as the library cuts. -/
namespace Stil
open Go Go.Lib
theorem takeWhile_len (l : List UInt8) (c : UInt8) : indexByte l c = if c ∈ l then ((l.takeWhile (· != c)).length : Int) else -1 := by
  induction l with
  | nil => rfl
  | cons b l ih =>
    rw [indexByte]
    by_cases h : b = c
    · subst h
      simp
    · rw [if_neg (by simpa using h), ih]
      by_cases hm : c ∈ l
      · rw [if_pos hm, if_neg (by simp), if_pos (List.mem_cons_of_mem _ hm), List.takeWhile_cons_of_pos (by simpa using h)]
        simp
      · rw [if_neg hm, if_pos (by decide), if_neg]
        intro hc
        rcases List.mem_cons.1 hc with hc | hc
        · exact h hc.symm
        · exact hm hc
theorem take_takeWhile (l : List UInt8) (c : UInt8) : l.take (l.takeWhile (· != c)).length = l.takeWhile (· != c) ∧ l.drop (l.takeWhile (· != c)).length = l.dropWhile (· != c) := by
  have h := List.takeWhile_append_dropWhile (p := (· != c)) (l := l)
  constructor
  · conv => lhs; rw [← h]
    rw [List.takeWhile_append_dropWhile]
    conv => lhs; arg 2; rw [← h]
    exact List.take_left' rfl
  · have e : l.drop (l.takeWhile (· != c)).length = (l.takeWhile (· != c) ++ l.dropWhile (· != c)).drop (l.takeWhile (· != c)).length := by rw [h]
    rw [e]
    exact List.drop_left' rfl
theorem cut_byte (l : List UInt8) (c : UInt8) : Lib.cut l [c] = if c ∈ l then (l.takeWhile (· != c), (l.dropWhile (· != c)).drop 1, true) else (l, [], false) := by
  unfold Lib.cut
  rw [index_one, takeWhile_len]
  by_cases h : c ∈ l
  · rw [if_pos h, if_pos (by omega), if_pos h]
    obtain ⟨h1, h2⟩ := take_takeWhile l c
    have e : ((l.takeWhile (· != c)).length : Int).toNat = (l.takeWhile (· != c)).length := by omega
    rw [e, h1, ← List.drop_drop, h2]
    rfl
  · rw [if_neg h, if_neg (by decide), if_neg h]
theorem ba_cut (l : List UInt8) (a b : Nat) : (⟨l.toArray⟩ : ByteArray).extract a b = ⟨((l.take b).drop a).toArray⟩ := by
  apply ByteArray.ext
  simp [ByteArray.data_extract, List.extract_eq_take_drop, List.drop_take]
/-- The pieces of a text, as the library splits it. -/
theorem splitB_byte (c : UInt8) : ∀ (k : Nat) (l : List UInt8), Lib.splitB ⟨#[c]⟩ 0 k ⟨l.toArray⟩ = (splitK c k l).map fun x => ⟨x.toArray⟩
  | 0, l => rfl
  | k + 1, l => by
    have hi : Lib.indexB ⟨l.toArray⟩ ⟨#[c]⟩ = indexByte l c := by
      show Lib.index l [c] = _
      exact index_one l c
    rw [splitK]
    by_cases h : c ∈ l
    · rw [if_pos h]
      rw [takeWhile_len, if_pos h] at hi
      rw [Lib.splitB_hit _ _ _ _ _ hi, List.map_cons]
      obtain ⟨h1, h2⟩ := take_takeWhile l c
      have e1 : (⟨l.toArray⟩ : ByteArray).extract 0 ((l.takeWhile (· != c)).length + 0) = ⟨(l.takeWhile (· != c)).toArray⟩ := by
        rw [ba_cut, Nat.add_zero, h1, List.drop_zero]
      have e2 : (⟨l.toArray⟩ : ByteArray).extract ((l.takeWhile (· != c)).length + (⟨#[c]⟩ : ByteArray).size) (⟨l.toArray⟩ : ByteArray).size = ⟨((l.dropWhile (· != c)).drop 1).toArray⟩ := by
        have hs : (⟨l.toArray⟩ : ByteArray).size = l.length := rfl
        have hs1 : (⟨#[c]⟩ : ByteArray).size = 1 := rfl
        rw [ba_cut, hs, hs1, List.take_length, ← List.drop_drop, h2]
      rw [e1, e2, splitB_byte c k]
    · rw [if_neg h]
      rw [takeWhile_len, if_neg h] at hi
      rw [Lib.splitB_miss _ _ _ _ hi]
      rfl
end Stil
