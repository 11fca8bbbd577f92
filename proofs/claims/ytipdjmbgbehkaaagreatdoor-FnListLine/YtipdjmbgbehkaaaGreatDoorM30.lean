/- Plain facts on chapter 5: how long a line is, which bytes it holds; a line that is written is read as it. -/
import Derived.Test.YtipdjmbgbehkaaaGreatDoorHq
namespace Stil
open Go.Lib
theorem itoa_len9 (n : Int) (h1 : -999999999 ≤ n) (h2 : n ≤ 999999999) : (itoa n).length ≤ 10 := by
  unfold itoa
  split
  · have := decDigits_short 8 n.natAbs (by omega)
    simp
    omega
  · have := decDigits_short 8 n.toNat (by omega)
    omega
theorem text_len11 {d : Dev} (h : d.ok = true) : d.text.length ≤ 11 := by
  obtain ⟨k, n, p⟩ := d
  have h0 : devOkB k n p = true := h
  unfold Dev.text devText
  simp only
  rw [if_pos h0]
  unfold devOkB at h0
  split at h0
  · rename_i hk
    rw [if_pos hk]
    have h0 := of_decide_eq_true h0
    have := itoa_len9 n (by omega) (by omega)
    omega
  · rename_i hk
    rw [if_neg hk]
    split at h0
    · rename_i hk2
      rw [if_pos hk2]
      have h0 := of_decide_eq_true h0
      have one : ∀ u : Nat, u ≤ 999999999 → (decNat u p.toNat).length ≤ 10 := by
        intro u hu
        obtain ⟨a, b, e1, e2, _, _⟩ := decNat_parts u p.toNat (by omega)
        have e3 := congrArg List.length e2
        rw [padTo_len, List.length_append] at e3
        have := decDigits_short 8 u (by omega)
        rw [e1]
        simp
        omega
      unfold decText
      split
      · have := one n.natAbs (by omega)
        simp
        omega
      · have := one n.toNat (by omega)
        omega
    · rename_i hk2
      rw [if_neg hk2]
      split at h0
      · rename_i hk3
        rw [if_pos hk3]
        have h0 := of_decide_eq_true h0
        have hn : n = 0 ∨ n = 1 ∨ n = 2 ∨ n = 3 := by omega
        rcases hn with rfl | rfl | rfl | rfl <;> decide
      · rename_i hk3
        rw [if_neg hk3]
        have h0 := of_decide_eq_true h0
        have hz : devSize k ≤ 64 := by
          unfold devSize
          (repeat' split) <;> omega
        have := itoa_len9 n (by omega) (by omega)
        simp
        omega
/-- A byte that may stand in a line's words: no space and no new line. -/
def high (c : UInt8) : Prop := 43 ≤ c.toNat
theorem dig_high {c : UInt8} (h : isDig c) : high c := by unfold high; have := h.1; omega
theorem itoa_high (n : Int) : ∀ c ∈ itoa n, high c := by
  intro c hc
  unfold itoa at hc
  split at hc
  · rcases List.mem_cons.1 hc with rfl | hc
    · unfold high; decide
    · exact dig_high (decDigits_dig _ c hc)
  · exact dig_high (decDigits_dig _ c hc)
theorem decText_high (n p : Int) (hp : 1 ≤ p) : ∀ c ∈ decText n p, high c := by
  intro c hc
  unfold decText at hc
  have one : ∀ u, ∀ c ∈ decNat u p.toNat, high c := by
    intro u c hc
    rcases decNat_mem u p.toNat (by omega) c hc with h | rfl
    · exact dig_high h
    · unfold high; decide
  split at hc
  · rcases List.mem_cons.1 hc with rfl | hc
    · unfold high; decide
    · exact one _ c hc
  · exact one _ c hc
theorem dev_high {d : Dev} (h : d.ok = true) : ∀ c ∈ d.text, high c := by
  obtain ⟨k, n, p⟩ := d
  have h0 : devOkB k n p = true := h
  unfold Dev.text devText
  simp only
  rw [if_pos h0]
  unfold devOkB at h0
  split at h0
  · rename_i hk
    rw [if_pos hk]
    exact itoa_high n
  · rename_i hk
    rw [if_neg hk]
    split at h0
    · rename_i hk2
      rw [if_pos hk2]
      have h0 := of_decide_eq_true h0
      exact decText_high n p h0.2.2.1
    · rename_i hk2
      rw [if_neg hk2]
      split at h0
      · rename_i hk3
        rw [if_pos hk3]
        have h0 := of_decide_eq_true h0
        have hn : n = 0 ∨ n = 1 ∨ n = 2 ∨ n = 3 := by omega
        rcases hn with rfl | rfl | rfl | rfl <;> (unfold high; decide)
      · rename_i hk3
        rw [if_neg hk3]
        have h0 := of_decide_eq_true h0
        have hz : 1 ≤ k ∧ k ≤ 10 := by
          have h1 := h0.2.1
          unfold devSize at h1
          (repeat' split at h1) <;> omega
        intro c hc
        rcases List.mem_cons.1 hc with rfl | hc
        · have all : ∀ j : Fin 10, 43 ≤ (letters.getD j 0).toNat := by decide
          exact all ⟨k.toNat - 1, by omega⟩
        · exact itoa_high n c hc
theorem name_high {k : Nat} (h1 : 21 ≤ k) (h2 : k ≤ 37) : ∀ c ∈ elemName k, high c := by
  have all : ∀ j : Fin 17, ∀ c ∈ elemName ((j : Nat) + 21), 43 ≤ c.toNat := by decide
  have h := all ⟨k - 21, by omega⟩
  have e : (((k - 21 : Nat) : Int) + 21) = (k : Int) := by omega
  simp only [e] at h
  exact h
theorem sign_high {k : Nat} (h1 : 5 ≤ k) (h2 : k ≤ 10) : (sign k).length ≤ 2 ∧ ∀ c ∈ sign k, high c := by
  have all : ∀ j : Fin 6, (sign ((j : Nat) + 5)).length ≤ 2 ∧ ∀ c ∈ sign ((j : Nat) + 5), 43 ≤ c.toNat := by decide
  have h := all ⟨k - 5, by omega⟩
  have e : (((k - 5 : Nat) : Int) + 5) = (k : Int) := by omega
  simp only [e] at h
  exact h
theorem args_high : ∀ r : List Dev, (∀ x ∈ r, x.ok = true) → (argsText r).length ≤ r.length * 12 ∧ ∀ c ∈ argsText r, high c
  | [], _ => ⟨Nat.le_refl _, fun c hc => by cases hc⟩
  | d :: r, h => by
    obtain ⟨h1, h3⟩ := args_high r fun x hx => h x (by simp [hx])
    have h2 := text_len11 (h d (by simp))
    refine ⟨by simp [argsText]; omega, fun c hc => ?_⟩
    rw [argsText] at hc
    simp only [List.cons_append, List.mem_cons, List.mem_append] at hc
    rcases hc with rfl | hc | hc
    · unfold high; decide
    · exact dev_high (h d (by simp)) c hc
    · exact h3 c hc
theorem elem_high {op : Int} {ds : List Dev} (h : isContact op ds = true ∨ isCoil op ds = true) : (elemText op ds).length ≤ 41 ∧ ∀ c ∈ elemText op ds, high c := by
  rcases text_forms h with ⟨k, d, r, rfl, rfl, h1, h2, hd, hr, hl, e⟩ | ⟨a, rfl, rfl, ha, e⟩ | ⟨a, rfl, rfl, ha, e⟩ | ⟨a, b, rfl, rfl, ha, hb, e⟩ | ⟨a, b, rfl, rfl, ha, hb, e⟩ | ⟨k, a, b, rfl, rfl, h1, h2, ha, hb, e⟩
  · have q1 := (name_at h1 h2).2.1
    have q2 := text_len11 hd
    obtain ⟨q3, q4⟩ := args_high r hr
    rw [e]
    refine ⟨by simp; omega, fun c hc => ?_⟩
    simp only [List.append_assoc, List.cons_append, List.mem_append, List.mem_cons] at hc
    rcases hc with hc | rfl | hc | hc
    · exact name_high h1 h2 c hc
    · unfold high; decide
    · exact dev_high hd c hc
    · exact q4 c hc
  · have q1 := text_len11 (bit_ok ha)
    rw [e]
    exact ⟨by omega, dev_high (bit_ok ha)⟩
  · have q1 := text_len11 (bit_ok ha)
    rw [e]
    refine ⟨by simp; omega, fun c hc => ?_⟩
    rcases List.mem_cons.1 hc with rfl | hc
    · unfold high; decide
    · exact dev_high (bit_ok ha) c hc
  all_goals
    first
      | (have q1 := text_len11 (bit_ok ha)
         have q2 := text_len11 hb
         rw [e]
         refine ⟨by simp; omega, fun c hc => ?_⟩
         simp only [List.cons_append, List.mem_append, List.mem_cons] at hc
         rcases hc with rfl | hc | rfl | hc
         · unfold high; decide
         · exact dev_high (bit_ok ha) c hc
         · unfold high; decide
         · exact dev_high hb c hc)
      | (have q1 := text_len11 ha
         have q2 := text_len11 hb
         obtain ⟨q3, q4⟩ := sign_high h1 h2
         rw [e]
         refine ⟨by simp; omega, fun c hc => ?_⟩
         simp only [List.append_assoc, List.mem_append] at hc
         rcases hc with hc | hc | hc
         · exact dev_high ha c hc
         · exact q4 c hc
         · exact dev_high hb c hc)
theorem word_high (c : Int) : (lwordOf c).length ≤ 4 ∧ ∀ x ∈ lwordOf c, high x := by
  unfold lwordOf
  split
  · exact ⟨by simp, fun x hx => by cases hx⟩
  · rename_i h
    have hc : c = 1 ∨ c = 2 ∨ c = 3 ∨ c = 4 ∨ c = 5 ∨ c = 6 ∨ c = 7 ∨ c = 8 ∨ c = 9 ∨ c = 10 ∨ c = 11 := by omega
    have all : ∀ j : Fin 12, (listWords.getD j []).length ≤ 4 ∧ ∀ x ∈ listWords.getD j [], 43 ≤ x.toNat := by decide
    exact all ⟨c.toNat, by omega⟩
theorem word_some {c : Int} (h1 : 1 ≤ c) (h2 : c ≤ 11) : lwordOf c ≠ [] := by
  have hc : c = 1 ∨ c = 2 ∨ c = 3 ∨ c = 4 ∨ c = 5 ∨ c = 6 ∨ c = 7 ∨ c = 8 ∨ c = 9 ∨ c = 10 ∨ c = 11 := by omega
  rcases hc with rfl | rfl | rfl | rfl | rfl | rfl | rfl | rfl | rfl | rfl | rfl <;> decide
theorem code_word {c : Int} (h1 : 1 ≤ c) (h2 : c ≤ 11) : codeOf (lwordOf c) = c := by
  have hc : c = 1 ∨ c = 2 ∨ c = 3 ∨ c = 4 ∨ c = 5 ∨ c = 6 ∨ c = 7 ∨ c = 8 ∨ c = 9 ∨ c = 10 ∨ c = 11 := by omega
  rcases hc with rfl | rfl | rfl | rfl | rfl | rfl | rfl | rfl | rfl | rfl | rfl <;> decide
/-- The kinds of instructions: those with a contact or coil, and those without. -/
theorem ok_forms {i : Inst} (h : listOk i = true) : (noElem i.one = true ∧ ¬ i.code ≤ 3 ∧ i.code ≠ 10) ∨ (noElem i.one = false ∧ (isContact i.one.op i.one.args = true ∨ isCoil i.one.op i.one.args = true) ∧ (i.code ≤ 3 ∨ i.code = 10)) := by
  have hne : ∀ op ds, (isContact op ds = true ∨ isCoil op ds = true) → noElem ⟨op, ds⟩ = false := by
    intro op ds h
    unfold noElem
    rcases text_forms h with ⟨k, d, r, rfl, rfl, _⟩ | ⟨a, rfl, rfl, _⟩ | ⟨a, rfl, rfl, _⟩ | ⟨a, b, rfl, rfl, _⟩ | ⟨a, b, rfl, rfl, _⟩ | ⟨k, a, b, rfl, rfl, _⟩ <;> simp
  unfold listOk at h
  split at h
  · cases h
  · split at h
    · exact .inr ⟨hne _ _ (.inl h), .inl h, .inl (by assumption)⟩
    · split at h
      · exact .inr ⟨hne _ _ (.inr h), .inr h, .inr (by assumption)⟩
      · exact .inl ⟨h, by assumption, by assumption⟩
theorem high_space {c : UInt8} (h : high c) : c ≠ 32 ∧ c ≠ 10 := by
  unfold high at h
  constructor <;> (rintro rfl; revert h; decide)
/-- The words of an instruction. -/
def wordsIn (i : Inst) : List (List UInt8) := if noElem i.one then [lwordOf i.code] else [lwordOf i.code, i.one.text]
theorem elem_nil {e : Elem} (h : noElem e = true) : e = ⟨0, []⟩ := by
  unfold noElem at h
  simp only [Bool.and_eq_true, beq_iff_eq, List.length_eq_zero_iff] at h
  obtain ⟨op, ds⟩ := e
  simp only at h
  rw [h.1, h.2]
theorem line_ok {i : Inst} (h : listOk i = true) : wordsOf (lineText i) = wordsIn i ∧ instOf (wordsIn i) = i ∧ specOk (wordsIn i) = true ∧ (lineText i).length ≤ 49 ∧ lineText i ≠ [] ∧ ∀ c ∈ lineText i, c ≠ 10 := by
  have hc := ok_code h
  obtain ⟨hw4, hwh⟩ := word_high i.code
  have hws := word_some hc.1 hc.2
  have hcw := code_word hc.1 hc.2
  have hw32 : ∀ x ∈ lwordOf i.code, x ≠ 32 := fun x hx => (high_space (hwh x hx)).1
  rcases ok_forms h with ⟨hn, _, _⟩ | ⟨hn, hk, _⟩
  · have hl : lineText i = lwordOf i.code := by unfold lineText; rw [h, if_pos rfl, hn, if_pos rfl]
    have hws2 : wordsIn i = [lwordOf i.code] := by unfold wordsIn; rw [hn, if_pos rfl]
    have hi : instOf [lwordOf i.code] = i := by
      have e := elem_nil hn
      obtain ⟨c, el⟩ := i
      simp only at e hcw ⊢
      subst e
      show (⟨codeOf (lwordOf c), ⟨0, []⟩⟩ : Inst) = _
      rw [hcw]
    rw [hl, hws2]
    refine ⟨words_one hw32 hws, hi, ?_, by omega, hws, fun c hc => (high_space (hwh c hc)).2⟩
    show listOk (instOf [lwordOf i.code]) = true
    rw [hi]; exact h
  · have hl : lineText i = lwordOf i.code ++ 32 :: i.one.text := by unfold lineText; rw [h, if_pos rfl, hn]; rfl
    have hws2 : wordsIn i = [lwordOf i.code, i.one.text] := by unfold wordsIn; rw [hn]; rfl
    obtain ⟨ht41, hth⟩ := elem_high hk
    have htne : i.one.text ≠ [] := (elemText_len hk).2
    have hrb : elemReadB i.one.text = true := by
      have h1 := readB_text i.one.op i.one.args
      have h2 : (elemText i.one.op i.one.args).isEmpty = false := by
        cases hh : elemText i.one.op i.one.args with
        | nil => exact absurd hh htne
        | cons _ _ => rfl
      rw [h2] at h1
      exact h1
    have hi : instOf [lwordOf i.code, i.one.text] = i := by
      have e : elemRead i.one.text = i.one := read_text hrb
      obtain ⟨c, el⟩ := i
      simp only at e hcw ⊢
      show (⟨codeOf (lwordOf c), elemRead el.text⟩ : Inst) = _
      rw [hcw, e]
    rw [hl, hws2]
    refine ⟨?_, hi, ?_, by simp; show (lwordOf i.code).length + ((elemText i.one.op i.one.args).length + 1) ≤ 49; omega, by simp, fun c hc => ?_⟩
    · have h32 : ∀ x ∈ i.one.text, x ≠ 32 := fun x hx => (high_space (hth x hx)).1
      rw [words_more _ hw32 hws, words_one h32 htne]
    · show (elemReadB i.one.text && listOk (instOf [lwordOf i.code, i.one.text])) = true
      rw [hi, hrb, h]; rfl
    · rcases List.mem_append.1 hc with hc | hc
      · exact (high_space (hwh c hc)).2
      · rcases List.mem_cons.1 hc with rfl | hc
        · decide
        · exact (high_space (hth c hc)).2
theorem line_no {i : Inst} (h : listOk i = false) : lineText i = [] := by unfold lineText; rw [h]; rfl
theorem line_empty (i : Inst) : (lineText i).isEmpty = !listOk i := by
  cases h : listOk i
  · rw [line_no h]; rfl
  · have hn := (line_ok h).2.2.2.2.1
    cases hl : lineText i with
    | nil => exact absurd hl hn
    | cons _ _ => rfl
theorem line_short (i : Inst) : (lineText i).length ≤ 49 := by
  cases h : listOk i
  · rw [line_no h]; simp
  · exact (line_ok h).2.2.2.1
/-- Two instructions have one line only if they are one. -/
theorem line_inj {a b : Inst} (h : lineText a ≠ []) : lineText a = lineText b ↔ a = b := by
  constructor
  · intro e
    have ha : listOk a = true := by
      cases hk : listOk a
      · exact absurd (line_no hk) h
      · rfl
    have hb : listOk b = true := by
      cases hk : listOk b
      · rw [e] at h; exact absurd (line_no hk) h
      · rfl
    have h1 := line_ok ha
    have h2 := line_ok hb
    rw [← h1.2.1, ← h2.2.1, ← h1.1, ← h2.1, e]
  · intro e; rw [e]
/-- A list as it is written. -/
def linesText (l : List Inst) : List UInt8 := (l.map fun i => lineText i ++ [10]).flatten
def listText (l : List Inst) : List UInt8 := if 1000 < l.length ∨ ∃ i ∈ l, listOk i = false then [] else linesText l
theorem lines_len : ∀ l : List Inst, (linesText l).length ≤ l.length * 50
  | [] => by simp [linesText]
  | i :: r => by
    have h1 := line_short i
    have h2 := lines_len r
    unfold linesText at h2 ⊢
    simp only [List.map_cons, List.flatten_cons, List.length_append, List.length_cons, List.length_nil]
    omega
theorem cut_lines : ∀ (l : List Inst), (∀ i ∈ l, listOk i = true) → cut 10 (linesText l) = l.map lineText ++ [[]]
  | [], _ => rfl
  | i :: r, h => by
    have h1 := line_ok (h i (by simp))
    have ih := cut_lines r fun x hx => h x (by simp [hx])
    have e : linesText (i :: r) = lineText i ++ 10 :: linesText r := by unfold linesText; simp
    rw [e, cut_at 10 _ _ h1.2.2.2.2.2, ih]
    rfl
theorem parse_lines : ∀ (l : List Inst) (k : Nat) (cs : List Inst), (∀ i ∈ l, listOk i = true) → cs.length + l.length ≤ 1000 → parseFrom k cs (l.map lineText ++ [[]]) = (cs ++ l, 0, 0)
  | [], k, cs, _, _ => by
    show parseFrom k cs [[]] = _
    rw [parseFrom, if_pos words_nil, parseFrom, List.append_nil]
  | i :: r, k, cs, h, hl => by
    have h1 := line_ok (h i (by simp))
    simp only [List.length_cons] at hl
    have ih := parse_lines r (k + 1) (cs ++ [i]) (fun x hx => h x (by simp [hx])) (by simp; omega)
    rw [List.map_cons, List.cons_append, parseFrom, h1.1]
    have hne : wordsIn i ≠ [] := by unfold wordsIn; split <;> simp
    rw [if_neg hne, if_neg (by rw [h1.2.2.1]; decide), if_neg (by omega), h1.2.1, ih]
    simp
/-- A list that is written is read as it. -/
theorem list_back {l : List Inst} (h : ∀ i ∈ l, listOk i = true) (hl : l.length ≤ 1000) : listParse (linesText l) = (l, 0, 0) := by
  have h1 := lines_len l
  unfold listParse
  rw [if_neg (by omega), cut_lines l h, parse_lines l 0 [] h (by simpa using hl)]
  rfl
/-- A line alone is read as its instruction. -/
theorem line_back {i : Inst} (h : listOk i = true) : listParse (lineText i) = ([i], 0, 0) := by
  have h1 := line_ok h
  have h2 := line_short i
  unfold listParse
  rw [if_neg (by omega), cut_none 10 _ h1.2.2.2.2.2, parseFrom, h1.1]
  have hne : wordsIn i ≠ [] := by unfold wordsIn; split <;> simp
  rw [if_neg hne, if_neg (by rw [h1.2.2.1]; decide), if_neg (by simp), h1.2.1]
  rfl
theorem parse_oks : ∀ (ls : List (List UInt8)) (k : Nat) (cs : List Inst), (∀ i ∈ cs, listOk i = true) → ∀ i ∈ (parseFrom k cs ls).1, listOk i = true
  | [], _, _, h => h
  | l :: r, k, cs, h => by
    rw [parseFrom]
    split
    · exact parse_oks r (k + 1) cs h
    · split
      · exact fun i hi => by cases hi
      · rename_i hok
        split
        · exact fun i hi => by cases hi
        · refine parse_oks r (k + 1) _ fun i hi => ?_
          rcases List.mem_append.1 hi with hi | hi
          · exact h i hi
          · rw [List.mem_singleton.1 hi]
            have hs : specOk (wordsOf l) = true := by simpa using hok
            revert hs
            unfold specOk
            split
            · exact id
            · intro h; exact (Bool.and_eq_true _ _ ▸ h).2
            · intro h; cases h
theorem list_oks (l : List UInt8) : ∀ i ∈ (listParse l).1, listOk i = true := by
  unfold listParse
  split
  · exact fun i hi => by cases hi
  · exact parse_oks _ _ _ fun i hi => by cases hi
theorem listText_ok {l : List Inst} (h : ∀ i ∈ l, listOk i = true) (hl : l.length ≤ 1000) : listText l = linesText l := by
  unfold listText
  rw [if_neg]
  rintro (h1 | ⟨i, hi, h2⟩)
  · omega
  · rw [h i hi] at h2; cases h2
theorem listText_len (l : List Inst) : (listText l).length ≤ 50000 := by
  unfold listText
  split
  · simp
  · rename_i h
    have := lines_len l
    omega
end Stil
