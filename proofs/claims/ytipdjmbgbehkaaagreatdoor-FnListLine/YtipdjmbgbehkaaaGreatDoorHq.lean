/- M26, M27, M28, M29: texts put together. -/
import Derived.Test.YtipdjmbgbehkaaaGreatDoorGM
import Derived.Test.YtipdjmbgbehkaaaGreatDoorGZ
import Derived.Test.YtipdjmbgbehkaaaGreatDoorGW
import Derived.Lib.TrimByte
import Derived.Lib.Join
import Derived.Lib.SplitLaws
/- Plain models of chapter 5: the words of a line, and what they say. -/
namespace Stil
/-- The word of a code. -/
def lwordOf (c : Int) : List UInt8 := if c < 1 ∨ 11 < c then [] else listWords.getD c.toNat []
/-- The code with this word, and 0 if there is none. -/
def codeOf (w : List UInt8) : Int := if w = lwordOf 1 then 1 else if w = lwordOf 2 then 2 else if w = lwordOf 3 then 3 else if w = lwordOf 4 then 4 else if w = lwordOf 5 then 5 else if w = lwordOf 6 then 6 else if w = lwordOf 7 then 7 else if w = lwordOf 8 then 8 else if w = lwordOf 9 then 9 else if w = lwordOf 10 then 10 else if w = lwordOf 11 then 11 else 0
theorem codeOf_word {w : List UInt8} (h : codeOf w ≠ 0) : lwordOf (codeOf w) = w := by
  unfold codeOf at h ⊢
  repeat' split
  all_goals first | (rename_i e; exact e.symm) | (simp_all)
/-- A line of an instruction. -/
def lineText (i : Inst) : List UInt8 := if listOk i then (if noElem i.one then lwordOf i.code else lwordOf i.code ++ 32 :: i.one.text) else []
/-- Words with a space between. -/
def joinSp : List (List UInt8) → List UInt8
  | [] => []
  | [a] => a
  | a :: b :: r => a ++ 32 :: joinSp (b :: r)
/-- The instruction that words say, if they say one. -/
def instOf (ws : List (List UInt8)) : Inst := ⟨codeOf (ws.headD []), match ws with | _ :: b :: _ => elemRead b | _ => ⟨0, []⟩⟩
def specOk (ws : List (List UInt8)) : Bool := match ws with
  | [_] => listOk (instOf ws)
  | [_, b] => elemReadB b && listOk (instOf ws)
  | _ => false
def implOk (ws : List (List UInt8)) : Bool := lineText (instOf ws) == joinSp ws
theorem word_plain (c : Int) : ∀ x ∈ lwordOf c, x ≠ 32 := by
  unfold lwordOf
  split
  · intro x hx; cases hx
  · rename_i h
    have hc : c = 1 ∨ c = 2 ∨ c = 3 ∨ c = 4 ∨ c = 5 ∨ c = 6 ∨ c = 7 ∨ c = 8 ∨ c = 9 ∨ c = 10 ∨ c = 11 := by omega
    rcases hc with rfl | rfl | rfl | rfl | rfl | rfl | rfl | rfl | rfl | rfl | rfl <;> decide
theorem join_space {a b : List UInt8} {r : List (List UInt8)} : (32 : UInt8) ∈ joinSp (a :: b :: r) := by
  rw [joinSp]; simp
theorem join_longer (b : List UInt8) : ∀ (r : List (List UInt8)), b = joinSp (b :: r) → r = [] := by
  intro r h
  cases r with
  | nil => rfl
  | cons c q =>
    exfalso
    rw [joinSp] at h
    have := congrArg List.length h
    simp at this
theorem noElem_nil : noElem ⟨0, []⟩ = true := rfl
theorem read_some {b : List UInt8} (h : elemReadB b = true) : noElem (elemRead b) = false := by
  have ht := text_read h
  cases hn : noElem (elemRead b) with
  | false => rfl
  | true =>
    exfalso
    unfold noElem at hn
    simp only [Bool.and_eq_true, beq_iff_eq, List.length_eq_zero_iff] at hn
    rw [hn.1, hn.2] at ht
    have e : elemText 0 [] = [] := by decide
    rw [e] at ht
    exact readB_ne h ht.symm
theorem ok_word {i : Inst} (h : listOk i = true) : i.code ≠ 0 := by
  have := ok_code h
  omega
theorem lines_agree {ws : List (List UInt8)} (h0 : ws ≠ []) (h1 : ∀ w ∈ ws, w ≠ []) : specOk ws = implOk ws := by
  rw [Bool.eq_iff_iff]
  match ws, h0, h1 with
  | [a], _, h1 =>
    have ha : a ≠ [] := h1 a (by simp)
    show listOk (instOf [a]) = true ↔ (lineText (instOf [a]) == joinSp [a]) = true
    rw [beq_iff_eq]
    have hi : instOf [a] = ⟨codeOf a, ⟨0, []⟩⟩ := rfl
    rw [hi]
    constructor
    · intro h
      unfold lineText
      rw [h, if_pos rfl, noElem_nil, if_pos rfl]
      exact codeOf_word (ok_word h)
    · intro h
      unfold lineText at h
      cases hk : listOk ⟨codeOf a, ⟨0, []⟩⟩ with
      | true => rfl
      | false => rw [hk] at h; exact absurd h.symm ha
  | [a, b], _, h1 =>
    show (elemReadB b && listOk (instOf [a, b])) = true ↔ (lineText (instOf [a, b]) == joinSp [a, b]) = true
    rw [beq_iff_eq, Bool.and_eq_true]
    have hi : instOf [a, b] = ⟨codeOf a, elemRead b⟩ := rfl
    have hj : joinSp [a, b] = a ++ 32 :: b := rfl
    rw [hi, hj]
    constructor
    · rintro ⟨h2, h3⟩
      unfold lineText
      rw [h3, if_pos rfl, read_some h2]
      simp only [Bool.false_eq_true, if_false]
      rw [codeOf_word (ok_word h3)]
      show a ++ 32 :: elemText (elemRead b).op (elemRead b).args = _
      rw [text_read h2]
    · intro h
      unfold lineText at h
      cases hk : listOk ⟨codeOf a, elemRead b⟩ with
      | false => rw [hk] at h; simp at h
      | true =>
        refine ⟨?_, rfl⟩
        rw [hk, if_pos rfl] at h
        cases hb : elemReadB b with
        | true => rfl
        | false =>
          rw [read_no hb, noElem_nil, if_pos rfl] at h
          have : (32 : UInt8) ∈ lwordOf (codeOf a) := by rw [h]; simp
          exact absurd rfl (word_plain _ _ this)
  | a :: b :: c :: r, _, h1 =>
    show false = true ↔ _
    refine ⟨fun h => (by cases h), fun h => ?_⟩
    exfalso
    unfold implOk at h
    rw [beq_iff_eq] at h
    have hi : instOf (a :: b :: c :: r) = ⟨codeOf a, elemRead b⟩ := rfl
    rw [hi] at h
    have hs : (32 : UInt8) ∈ joinSp (a :: b :: c :: r) := join_space
    unfold lineText at h
    cases hk : listOk ⟨codeOf a, elemRead b⟩ with
    | false => rw [hk] at h; rw [← h] at hs; simp at hs
    | true =>
      rw [hk, if_pos rfl] at h
      cases hb : elemReadB b with
      | false =>
        rw [read_no hb, noElem_nil, if_pos rfl] at h
        rw [← h] at hs
        exact absurd rfl (word_plain _ _ hs)
      | true =>
        rw [read_some hb] at h
        simp only [Bool.false_eq_true, if_false] at h
        rw [codeOf_word (ok_word hk)] at h
        have e : (elemRead b).text = b := text_read hb
        rw [e, joinSp] at h
        have h2 := List.append_cancel_left h
        injection h2 with _ h3
        have := join_longer b (c :: r) h3
        cases this
end Stil
/- Plain models of chapter 5: a text is read. -/
namespace Stil
/-- The words of a line. -/
def wordsOf (l : List UInt8) : List (List UInt8) := (cut 32 l).filter fun x => !x.isEmpty
theorem words_ne (l : List UInt8) : ∀ w ∈ wordsOf l, w ≠ [] := by
  intro w hw
  have := (List.mem_filter.1 hw).2
  intro e
  rw [e] at this
  cases this
/-- Lines from the k-th on are read onto a list. -/
def parseFrom : Nat → List Inst → List (List UInt8) → List Inst × Int × Int
  | _, out, [] => (out, 0, 0)
  | k, out, l :: r => if wordsOf l = [] then parseFrom (k + 1) out r else if specOk (wordsOf l) = false then ([], k + 1, 2) else if out.length = 1000 then ([], k + 1, 3) else parseFrom (k + 1) (out ++ [instOf (wordsOf l)]) r
theorem words_nil : wordsOf [] = [] := rfl
theorem words_space (r : List UInt8) : wordsOf (32 :: r) = wordsOf r := by
  unfold wordsOf
  have e : cut 32 (32 :: r) = [] :: cut 32 r := by rw [cut, if_pos rfl]
  rw [e, List.filter_cons]
  rfl
theorem words_one {a : List UInt8} (h : ∀ x ∈ a, x ≠ 32) (hn : a ≠ []) : wordsOf a = [a] := by
  unfold wordsOf
  rw [cut_none 32 a h, List.filter_cons]
  cases a with
  | nil => exact absurd rfl hn
  | cons x r => rfl
theorem words_more {a : List UInt8} (r : List UInt8) (h : ∀ x ∈ a, x ≠ 32) (hn : a ≠ []) : wordsOf (a ++ 32 :: r) = a :: wordsOf r := by
  unfold wordsOf
  rw [cut_at 32 a r h, List.filter_cons]
  cases a with
  | nil => exact absurd rfl hn
  | cons x q => rfl
/-- A line without its leading spaces. -/
def trimSp : List UInt8 → List UInt8
  | [] => []
  | x :: r => if x = 32 then trimSp r else x :: r
theorem words_trim (l : List UInt8) : wordsOf (trimSp l) = wordsOf l := by
  induction l with
  | nil => rfl
  | cons x r ih =>
    rw [trimSp]
    split
    · rename_i h; subst h; rw [words_space, ih]
    · rfl
theorem trim_len (l : List UInt8) : (trimSp l).length ≤ l.length := by
  induction l with
  | nil => simp [trimSp]
  | cons x r ih => rw [trimSp]; split <;> simp <;> omega
theorem trim_head {l : List UInt8} {x : UInt8} {r : List UInt8} (h : trimSp l = x :: r) : x ≠ 32 := by
  induction l with
  | nil => cases h
  | cons y q ih =>
    rw [trimSp] at h
    split at h
    · exact ih h
    · rename_i hy
      injection h with h1 h2
      rw [← h1]; exact hy
end Stil
/- Plain facts on chapter 5: a text is read; what the library cuts. -/
namespace Stil
open Go
/-- ListParse: the list, the line and the code of what is wrong. -/
def listParse (l : List UInt8) : List Inst × Int × Int := if 50000 < l.length then ([], 0, 1) else parseFrom 0 [] (cut 10 l)
theorem trim_lib (l : List UInt8) : Lib.trimLeftB l 32 = trimSp l := by
  unfold Lib.trimLeftB
  induction l with
  | nil => rfl
  | cons x r ih =>
    rw [trimSp]
    by_cases h : x = 32
    · subst h; rw [List.dropWhile_cons_of_pos (by simp), ih, if_pos rfl]
    · rw [List.dropWhile_cons_of_neg (by simpa using h), if_neg h]
theorem join_lib : ∀ (ws : List (List UInt8)), Lib.join ws [32] = joinSp ws
  | [] => rfl
  | [a] => Lib.join_one a [32]
  | a :: b :: r => by
    have ih := join_lib (b :: r)
    have e : Lib.join (a :: b :: r) [32] = a ++ ([32] ++ Lib.join (b :: r) [32]) := by simp [Lib.join, List.intercalate]
    rw [e, ih, joinSp]
    rfl
theorem cut_parts {c : UInt8} {l : List UInt8} (h : c ∈ l) : l = l.takeWhile (· != c) ++ c :: (l.dropWhile (· != c)).drop 1 ∧ ∀ x ∈ l.takeWhile (· != c), x ≠ c := by
  induction l with
  | nil => cases h
  | cons x r ih =>
    by_cases hx : x = c
    · subst hx
      simp
    · have hr : c ∈ r := by
        rcases List.mem_cons.1 h with e | e
        · exact absurd e.symm hx
        · exact e
      obtain ⟨h1, h2⟩ := ih hr
      rw [List.takeWhile_cons_of_pos (by simpa using hx), List.dropWhile_cons_of_pos (by simpa using hx)]
      refine ⟨by rw [List.cons_append, ← h1], fun y hy => ?_⟩
      rcases List.mem_cons.1 hy with rfl | hy
      · exact hx
      · exact h2 y hy
theorem splitK_cut (c : UInt8) : ∀ (n : Nat) (l : List UInt8), l.count c ≤ n → splitK c n l = cut c l
  | 0, l, h => by
    rw [splitK]
    refine (cut_none c l fun x hx e => ?_).symm
    subst e
    have := List.count_pos_iff.2 hx
    omega
  | n + 1, l, h => by
    rw [splitK]
    by_cases hc : c ∈ l
    · rw [if_pos hc]
      obtain ⟨h1, h2⟩ := cut_parts hc
      have hn : ((l.dropWhile (· != c)).drop 1).count c ≤ n := by
        have e := congrArg (List.count c) h1
        rw [List.count_append, List.count_cons_self] at e
        omega
      rw [splitK_cut c n _ hn]
      conv => rhs; rw [h1]
      rw [cut_at c _ _ h2]
    · rw [if_neg hc]
      exact (cut_none c l fun x hx e => hc (e ▸ hx)).symm
theorem cons_len (x : UInt8) (l : List (List UInt8)) (h : l ≠ []) : (consHead x l).length = l.length := by
  cases l with
  | nil => exact absurd rfl h
  | cons a r => rfl
theorem cut_nonil (c : UInt8) (l : List UInt8) : cut c l ≠ [] := by
  cases l with
  | nil => simp [cut]
  | cons x r =>
    unfold cut
    split
    · simp
    · cases cut c r <;> simp [consHead]
theorem cut_length (c : UInt8) (l : List UInt8) : (cut c l).length = l.count c + 1 := by
  induction l with
  | nil => rfl
  | cons x r ih =>
    rw [cut]
    split
    · rename_i h; subst h; rw [List.count_cons_self, List.length_cons, ih]
    · rename_i h; rw [cons_len x _ (cut_nonil c r), ih, List.count_cons_of_ne h]
theorem split_lib (c : UInt8) (l : List UInt8) : (Lib.splitB ⟨#[c]⟩ 0 (Lib.countB ⟨l.toArray⟩ ⟨#[c]⟩) ⟨l.toArray⟩) = (cut c l).map (fun x => ⟨x.toArray⟩) ∧ Lib.countB ⟨l.toArray⟩ ⟨#[c]⟩ + 1 = (cut c l).length := by
  have e : Lib.countB ⟨l.toArray⟩ ⟨#[c]⟩ = l.count c := Lib.count_one c l
  rw [e, splitB_byte, splitK_cut c _ l (Nat.le_refl _), cut_length]
  exact ⟨rfl, rfl⟩
end Stil
/- Plain facts on chapter 5: how long words are that are put together again. -/
namespace Stil
def wsum (ws : List (List UInt8)) : Nat := (ws.map fun x => x.length + 1).sum
theorem join_len : ∀ ws : List (List UInt8), (joinSp ws).length ≤ wsum ws
  | [] => by simp [joinSp]
  | [a] => by simp [joinSp, wsum]
  | a :: b :: r => by
    have ih := join_len (b :: r)
    rw [joinSp]
    simp only [wsum, List.map_cons, List.sum_cons, List.length_append, List.length_cons] at ih ⊢
    omega
theorem filter_sum (p : List UInt8 → Bool) : ∀ ws : List (List UInt8), wsum (ws.filter p) ≤ wsum ws
  | [] => by simp
  | a :: r => by
    have ih := filter_sum p r
    rw [List.filter_cons]
    split
    · simp only [wsum, List.map_cons, List.sum_cons] at ih ⊢; omega
    · simp only [wsum, List.map_cons, List.sum_cons] at ih ⊢; omega
theorem cut_sum (c : UInt8) : ∀ l : List UInt8, wsum (cut c l) = l.length + 1
  | [] => rfl
  | x :: r => by
    have ih := cut_sum c r
    rw [cut]
    split
    · simp only [wsum, List.map_cons, List.sum_cons, List.length_nil, List.length_cons] at ih ⊢; omega
    · have hn := cut_nonil c r
      cases h : cut c r with
      | nil => exact absurd h hn
      | cons a q =>
        rw [h] at ih
        simp only [consHead, wsum, List.map_cons, List.sum_cons, List.length_cons] at ih ⊢
        omega
theorem words_join (l : List UInt8) : (joinSp (wordsOf l)).length ≤ l.length + 1 := by
  have h1 := join_len (wordsOf l)
  have h2 := filter_sum (fun x => !x.isEmpty) (cut 32 l)
  have h3 := cut_sum 32 l
  unfold wordsOf at h1 ⊢
  omega
theorem len_wsum : ∀ ws : List (List UInt8), ws.length ≤ wsum ws
  | [] => by simp [wsum]
  | a :: r => by
    have ih := len_wsum r
    simp only [wsum, List.map_cons, List.sum_cons, List.length_cons] at ih ⊢
    omega
theorem mem_wsum : ∀ (ws : List (List UInt8)) (x : List UInt8), x ∈ ws → x.length ≤ wsum ws
  | a :: r, x, h => by
    simp only [wsum, List.map_cons, List.sum_cons]
    rcases List.mem_cons.1 h with rfl | h
    · omega
    · have := mem_wsum r x h
      unfold wsum at this
      omega
theorem words_small (l : List UInt8) : (wordsOf l).length ≤ l.length + 1 ∧ ∀ x ∈ wordsOf l, x.length ≤ l.length + 1 := by
  have h2 := filter_sum (fun x => !x.isEmpty) (cut 32 l)
  have h3 := cut_sum 32 l
  have h4 := len_wsum (wordsOf l)
  unfold wordsOf at h4 ⊢
  refine ⟨by omega, fun x hx => ?_⟩
  have := mem_wsum _ x hx
  omega
end Stil
