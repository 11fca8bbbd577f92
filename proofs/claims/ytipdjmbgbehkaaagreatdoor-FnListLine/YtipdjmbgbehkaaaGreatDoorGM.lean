/- M1, M1b, M1c, M2, M2b, M2c, M2d, M2e, M2f, M2g, M4, M4b, M4c, M4d, M4e, M4f, M4g, M4h, M3, M3c, M3d, M3e, M6: texts put together. -/
import Derived.Lib.ItoaNum
/- Plain models of chapter 1: no Go. -/
namespace Stil
structure Dev where
  kind : Int
  n : Int
  p : Int
def devSize (k : Int) : Int :=
  if k = 1 ∨ k = 2 ∨ k = 5 ∨ k = 9 then 32 else if k = 3 then 64 else if k = 4 ∨ k = 7 ∨ k = 8 ∨ k = 10 then 16 else if k = 6 then 5 else 0
def devOkB (k n p : Int) : Bool :=
  if k = 11 then decide (-32768 ≤ n ∧ n ≤ 32767 ∧ p = 0)
  else if k = 12 then decide (-999999999 ≤ n ∧ n ≤ 999999999 ∧ 1 ≤ p ∧ p ≤ 6 ∧ (p = 1 ∨ n.tmod 10 ≠ 0))
  else if k = 13 then decide (0 ≤ n ∧ n ≤ 3 ∧ p = 0)
  else decide (0 ≤ n ∧ n < devSize k ∧ p = 0)
def devIsBitB (k n p : Int) : Bool := devOkB k n p && (decide (k ≤ 4) || k == 6 || k == 7 || k == 8)
def devIsWholeB (k n p : Int) : Bool := devOkB k n p && (k == 7 || k == 8 || k == 9 || k == 11)
def devIsRealB (k n p : Int) : Bool := devOkB k n p && (k == 10 || k == 12 || k == 13)
def letters : List UInt8 := [88, 89, 77, 83, 69, 71, 84, 67, 68, 82]
def devLetter (k : Int) : ByteArray := if 1 ≤ k ∧ k ≤ 10 then ⟨#[letters.getD (k.toNat - 1) 0]⟩ else ⟨#[]⟩
def padTo (p : Nat) (s : List UInt8) : List UInt8 := List.replicate (p + 1 - s.length) 48 ++ s
def decNat (n p : Nat) : List UInt8 := (padTo p (Go.Lib.decDigits n)).take ((padTo p (Go.Lib.decDigits n)).length - p) ++ 46 :: (padTo p (Go.Lib.decDigits n)).drop ((padTo p (Go.Lib.decDigits n)).length - p)
def decText (n p : Int) : List UInt8 := if n < 0 then 45 :: decNat n.natAbs p.toNat else decNat n.toNat p.toNat
def words : List (List UInt8) := [[110, 97, 110], [105, 110, 102], [45, 105, 110, 102], [45, 48, 46, 48]]
def devText (k n p : Int) : List UInt8 :=
  if devOkB k n p then
    if k = 11 then Go.Lib.itoa n else if k = 12 then decText n p else if k = 13 then words.getD n.toNat [] else letters.getD (k.toNat - 1) 0 :: Go.Lib.itoa n
  else []
def findFrom (c : UInt8) : List UInt8 → Nat → Int
  | [], _ => -1
  | x :: r, k => if x = c then k else findFrom c r (k + 1)
def find (c : UInt8) (l : List UInt8) : Int := findFrom c l 0
def digFold : Nat → List UInt8 → Option Nat
  | acc, [] => some acc
  | acc, c :: r => if 48 ≤ c.toNat ∧ c.toNat ≤ 57 then digFold (acc * 10 + (c.toNat - 48)) r else none
def optInt : Option Nat → Int
  | some n => n
  | none => -1
def digits (l : List UInt8) : Int := if l.length = 0 ∨ 17 < l.length then -1 else optInt (digFold 0 l)
end Stil
/- Plain models of chapter 1, second part: what a text would be. -/
namespace Stil
def isLetter (c : UInt8) : Bool := letters.any (· == c)
def signOf (l : List UInt8) : Int := if l.head? = some 45 then -1 else 1
def bare (l : List UInt8) : List UInt8 := if l.head? = some 45 then l.drop 1 else l
def guessNum (l : List UInt8) : Dev :=
  if find 46 (bare l) < 0 then ⟨11, signOf l * digits (bare l), 0⟩
  else ⟨12, signOf l * digits ((bare l).take (find 46 (bare l)).toNat ++ (bare l).drop ((find 46 (bare l)).toNat + 1)), (bare l).length - find 46 (bare l) - 1⟩
def letterAt (l : List UInt8) (k : Nat) : Bool := l.head? == some (letters.getD (k - 1) 0)
def guessFrom (l : List UInt8) : Nat → Nat → Dev
  | 0, _ => guessNum l
  | m + 1, k => if letterAt l k then ⟨k, digits (l.drop 1), 0⟩ else guessFrom l m (k + 1)
def wordFrom (l : List UInt8) : Nat → Nat → Dev
  | 0, _ => guessFrom l 10 1
  | m + 1, k => if l = words.getD k [] then ⟨13, k, 0⟩ else wordFrom l m (k + 1)
def guess (l : List UInt8) : Dev := wordFrom l 4 0
end Stil
/- Plain models of chapter 1, third part: DevRead. -/
namespace Stil
def Dev.text (d : Dev) : List UInt8 := devText d.kind d.n d.p
def devReadB (l : List UInt8) : Bool := !l.isEmpty && (guess l).text == l
def devRead (l : List UInt8) : Dev := if devReadB l then guess l else ⟨0, 0, 0⟩
end Stil
/- Plain models of chapter 2. -/
namespace Stil
def arity (op : Int) : Int :=
  if op = 1 ∨ op = 2 ∨ op = 21 ∨ op = 22 ∨ op = 23 ∨ op = 25 then 1
  else if 31 ≤ op ∧ op ≤ 35 then 3
  else if (1 ≤ op ∧ op ≤ 10) ∨ (21 ≤ op ∧ op ≤ 37) then 2 else 0
def names : List (List UInt8) := [[111, 117, 116], [115, 101, 116], [114, 101, 115, 101, 116], [112, 117, 108, 115, 101], [115, 116, 101, 112], [116, 105, 109, 101, 114], [104, 111, 108, 100], [108, 97, 116, 101], [99, 111, 117, 110, 116], [109, 111, 118, 101], [97, 100, 100], [115, 117, 98], [109, 117, 108], [100, 105, 118], [114, 101, 109], [114, 101, 97, 108], [119, 104, 111, 108, 101]]
def signs : List (List UInt8) := [[60], [60, 61], [61], [60, 62], [62, 61], [62]]
def elemName (op : Int) : List UInt8 := if 21 ≤ op ∧ op ≤ 37 then names.getD (op - 21).toNat [] else []
def sign (op : Int) : List UInt8 := if 5 ≤ op ∧ op ≤ 10 then signs.getD (op - 5).toNat [] else []
def Dev.ok (d : Dev) : Bool := devOkB d.kind d.n d.p
def Dev.isBit (d : Dev) : Bool := devIsBitB d.kind d.n d.p
def Dev.isWhole (d : Dev) : Bool := devIsWholeB d.kind d.n d.p
def Dev.isReal (d : Dev) : Bool := devIsRealB d.kind d.n d.p
def kindB (k n p a b : Int) : Bool := devOkB k n p && (k == a || k == b)
def Dev.kindIs (d : Dev) (a b : Int) : Bool := kindB d.kind d.n d.p a b
end Stil
/- Plain models of chapter 2, second part: contacts and coils. -/
namespace Stil
def Dev.fits (d : Dev) : Prop := (-9223372036854775808 ≤ d.kind ∧ d.kind ≤ 9223372036854775807) ∧ (-9223372036854775808 ≤ d.n ∧ d.n ≤ 9223372036854775807) ∧ (-9223372036854775808 ≤ d.p ∧ d.p ≤ 9223372036854775807)
def isContact (op : Int) (ds : List Dev) : Bool :=
  if op < 1 ∨ 10 < op then false
  else match ds with
    | [a] => decide (op ≤ 2) && a.isBit
    | [a, b] =>
      if op ≤ 2 then false
      else if op ≤ 4 then a.isBit && b.ok && b.kind == 5
      else a.isWhole && b.isWhole || a.isReal && b.isReal
    | _ => false
end Stil
/- Plain models of chapter 2, third part: coils. -/
namespace Stil
def calcRest (whole : Bool) (l : List Dev) : Bool := if whole then l.all Dev.isWhole else l.all Dev.isReal
def calcB (op : Int) : List Dev → Bool
  | [] => false
  | d :: r => d.kindIs 9 10 && calcRest (d.kind == 9) r && (d.kind == 9 || op != 35)
def isCoil (op : Int) (ds : List Dev) : Bool :=
  if op < 21 ∨ 37 < op ∨ (ds.length : Int) ≠ arity op then false
  else match ds with
    | [a] => if op = 21 then a.kindIs 2 3 else if op = 22 then a.kindIs 2 3 || a.kindIs 4 4 else if op = 23 then a.kindIs 2 3 || a.kindIs 4 7 || a.kindIs 8 8 else a.kindIs 4 4
    | [a, b] =>
      if op = 24 then a.kindIs 2 3 && b.kindIs 5 5
      else if op = 26 ∨ op = 27 ∨ op = 28 then a.kindIs 7 7 && b.kindIs 11 11 && decide (0 ≤ b.n)
      else if op = 29 then a.kindIs 8 8 && b.kindIs 11 11 && decide (0 ≤ b.n)
      else if op = 36 then a.kindIs 10 10 && b.isWhole
      else if op = 37 then a.kindIs 9 9 && b.isReal
      else calcB op ds
    | _ => calcB op ds
end Stil
/- Plain models of chapter 2, fourth part: ElemText. -/
namespace Stil
def argsText : List Dev → List UInt8
  | [] => []
  | d :: r => 44 :: d.text ++ argsText r
def elemText (op : Int) (ds : List Dev) : List UInt8 :=
  if isCoil op ds then
    match ds with
    | [] => []
    | d :: r => elemName op ++ 58 :: d.text ++ argsText r
  else if isContact op ds then
    match ds with
    | [a] => if op = 1 then a.text else 47 :: a.text
    | [a, b] => if op = 3 then 43 :: a.text ++ 58 :: b.text else if op = 4 then 45 :: a.text ++ 58 :: b.text else a.text ++ sign op ++ b.text
    | _ => []
  else []
end Stil
/- Plain models of chapter 2, fifth part: a text that is cut, operands that are read. -/
namespace Stil
def consHead (x : UInt8) : List (List UInt8) → List (List UInt8)
  | [] => [[x]]
  | h :: t => (x :: h) :: t
def cut (c : UInt8) : List UInt8 → List (List UInt8)
  | [] => [[]]
  | x :: r => if x = c then [] :: cut c r else consHead x (cut c r)
theorem cut_none (c : UInt8) : ∀ (a : List UInt8), (∀ x ∈ a, x ≠ c) → cut c a = [a]
  | [], _ => rfl
  | x :: r, h => by
    unfold cut
    rw [if_neg (h x (by simp)), cut_none c r (fun y hy => h y (by simp [hy]))]; rfl
theorem cut_at (c : UInt8) : ∀ (a r : List UInt8), (∀ x ∈ a, x ≠ c) → cut c (a ++ c :: r) = a :: cut c r
  | [], r, _ => by simp [cut]
  | x :: a, r, h => by
    have e : cut c (x :: (a ++ c :: r)) = if x = c then [] :: cut c (a ++ c :: r) else consHead x (cut c (a ++ c :: r)) := rfl
    rw [List.cons_append, e, if_neg (h x (by simp)), cut_at c a r (fun y hy => h y (by simp [hy]))]; rfl
def args (c : UInt8) (l : List UInt8) : List Dev := ((cut c l).map devRead).take 4
end Stil
/- Plain models of chapter 2, sixth part: what a text would be. -/
namespace Stil
structure Elem where
  op : Int
  args : List Dev
def isSign (c : UInt8) : Bool := c == 60 || c == 61 || c == 62
def signLen (l : List UInt8) (i : Nat) : Nat := if l[i + 1]? = some 61 ∨ l[i + 1]? = some 62 then 2 else 1
def signFrom (l : List UInt8) (i n : Nat) : Nat → Nat → Elem
  | 0, _ => ⟨0, []⟩
  | m + 1, k => if (l.take (i + n)).drop i = sign k then ⟨k, Stil.args 32 (l.take i) ++ Stil.args 32 (l.drop (i + n))⟩ else signFrom l i n m (k + 1)
def headIs (l : List UInt8) (c : UInt8) : Bool := l.head? == some c
def guessHead (l : List UInt8) : Elem :=
  if headIs l 47 then ⟨2, Stil.args 32 (l.drop 1)⟩ else if headIs l 43 then ⟨3, Stil.args 58 (l.drop 1)⟩ else if headIs l 45 then ⟨4, Stil.args 58 (l.drop 1)⟩ else ⟨1, Stil.args 32 l⟩
def nameAt (l : List UInt8) (k : Nat) : Bool := decide ((elemName k).length < l.length) && (l.take (elemName k).length == elemName k) && (l[(elemName k).length]? == some 58)
def guessName (l : List UInt8) : Nat → Nat → Elem
  | 0, _ => guessHead l
  | m + 1, k => if nameAt l k then ⟨k, Stil.args 44 (l.drop ((elemName k).length + 1))⟩ else guessName l m (k + 1)
def scan (l : List UInt8) : Nat → Nat → Elem
  | 0, _ => guessName l 17 21
  | m + 1, i => if isSign (l.getD i 0) then signFrom l i (signLen l i) 6 5 else scan l m (i + 1)
def eguess (l : List UInt8) : Elem := scan l l.length 0
end Stil
/- Plain models of chapter 2, seventh part: ElemRead. -/
namespace Stil
def Elem.text (e : Elem) : List UInt8 := elemText e.op e.args
def elemReadB (l : List UInt8) : Bool := !l.isEmpty && decide (l.length ≤ 100) && (eguess l).text == l
def elemRead (l : List UInt8) : Elem := if elemReadB l then eguess l else ⟨0, []⟩
end Stil
/- Plain facts on chapter 1: an operand that is written is read as it. -/
namespace Stil
open Go.Lib
/-- A digit's byte. -/
def isDig (c : UInt8) : Prop := 48 ≤ c.toNat ∧ c.toNat ≤ 57
theorem dig_of (d : Nat) (h : d < 10) : (UInt8.ofNat (48 + d)).toNat = 48 + d := by
  rw [UInt8.toNat_ofNat']; omega
theorem decDigits_snoc (u : Nat) (h : ¬ u < 10) : decDigits u = decDigits (u / 10) ++ [UInt8.ofNat (48 + u % 10)] := by
  rw [decDigits, dif_neg h]
theorem decDigits_dig (u : Nat) : ∀ c ∈ decDigits u, isDig c := by
  induction u using Nat.strongRecOn with
  | ind u ih =>
    by_cases h : u < 10
    · rw [decDigits_one h]
      intro c hc
      simp only [List.mem_singleton] at hc
      subst hc
      unfold isDig
      rw [dig_of u h]
      omega
    · rw [decDigits_snoc u h]
      intro c hc
      rcases List.mem_append.1 hc with hc | hc
      · exact ih (u / 10) (by omega) c hc
      · simp only [List.mem_singleton] at hc
        subst hc
        unfold isDig
        rw [dig_of (u % 10) (by omega)]
        omega
theorem digFold_append : ∀ (a b : List UInt8) (acc : Nat), digFold acc (a ++ b) = (digFold acc a).bind fun n => digFold n b
  | [], b, acc => rfl
  | c :: r, b, acc => by
    simp only [List.cons_append, digFold]
    split
    · exact digFold_append r b _
    · rfl
theorem digFold_one (acc d : Nat) (h : d < 10) : digFold acc [UInt8.ofNat (48 + d)] = some (acc * 10 + d) := by
  simp only [digFold]
  rw [dig_of d h, if_pos (by omega)]
  congr 1
  omega
theorem digFold_dec (u : Nat) : digFold 0 (decDigits u) = some u := by
  induction u using Nat.strongRecOn with
  | ind u ih =>
    by_cases h : u < 10
    · rw [decDigits_one h, digFold_one 0 u h]; simp
    · rw [decDigits_snoc u h, digFold_append, ih (u / 10) (by omega)]
      simp only [Option.bind_some]
      rw [digFold_one _ _ (by omega)]
      congr 1
      omega
theorem digFold_zeros : ∀ (m : Nat) (l : List UInt8), digFold 0 (List.replicate m 48 ++ l) = digFold 0 l
  | 0, l => rfl
  | m + 1, l => by
    rw [List.replicate_succ, List.cons_append]
    simp only [digFold]
    rw [if_pos (by decide)]
    exact digFold_zeros m l
theorem decDigits_pos (u : Nat) : 0 < (decDigits u).length := by
  by_cases h : u < 10
  · rw [decDigits_one h]; simp
  · rw [decDigits_snoc u h]; simp
theorem decDigits_short (k : Nat) : ∀ u, u < 10 ^ (k + 1) → (decDigits u).length ≤ k + 1 := by
  induction k with
  | zero => intro u h; rw [decDigits_one (by omega)]; simp
  | succ k ih =>
    intro u h
    by_cases h10 : u < 10
    · rw [decDigits_one h10]; simp
    · rw [decDigits_snoc u h10, List.length_append]
      have : u / 10 < 10 ^ (k + 1) := by
        rw [Nat.div_lt_iff_lt_mul (by omega)]
        rw [Nat.pow_succ] at h
        exact h
      have := ih (u / 10) this
      simp
      omega
theorem padTo_dig (p u : Nat) : ∀ c ∈ padTo p (decDigits u), isDig c := by
  intro c hc
  unfold padTo at hc
  rcases List.mem_append.1 hc with hc | hc
  · have := (List.mem_replicate.1 hc).2
    subst this
    exact ⟨by decide, by decide⟩
  · exact decDigits_dig u c hc
theorem padTo_fold (p u : Nat) : digFold 0 (padTo p (decDigits u)) = some u := by
  unfold padTo
  rw [digFold_zeros, digFold_dec]
theorem padTo_len (p : Nat) (s : List UInt8) : (padTo p s).length = max (p + 1) s.length := by
  unfold padTo
  simp
  omega
theorem findFrom_none (c : UInt8) : ∀ (l : List UInt8) (k : Nat), (∀ x ∈ l, x ≠ c) → findFrom c l k = -1
  | [], _, _ => rfl
  | x :: r, k, h => by
    rw [findFrom, if_neg (h x (by simp))]
    exact findFrom_none c r (k + 1) fun y hy => h y (by simp [hy])
theorem findFrom_at (c : UInt8) : ∀ (a r : List UInt8) (k : Nat), (∀ x ∈ a, x ≠ c) → findFrom c (a ++ c :: r) k = k + a.length
  | [], r, k, _ => by simp [findFrom]
  | x :: a, r, k, h => by
    rw [List.cons_append, findFrom, if_neg (h x (by simp)), findFrom_at c a r (k + 1) fun y hy => h y (by simp [hy])]
    simp
    omega
theorem dig_ne {c : UInt8} (h : isDig c) (x : UInt8) (hx : x.toNat < 48 ∨ 57 < x.toNat) : c ≠ x := by
  intro e
  subst e
  unfold isDig at h
  omega
/-- The two parts of a decimal number's text. -/
theorem decNat_parts (u p : Nat) (hp : 1 ≤ p) : ∃ a b : List UInt8, decNat u p = a ++ 46 :: b ∧ a ++ b = padTo p (decDigits u) ∧ b.length = p ∧ 0 < a.length := by
  have hl := padTo_len p (decDigits u)
  refine ⟨_, _, rfl, List.take_append_drop _ _, ?_, ?_⟩
  · rw [List.length_drop]; omega
  · rw [List.length_take]; omega
end Stil
/- Plain facts on chapter 1: what the specification's guess makes of an operand's text. -/
namespace Stil
open Go.Lib
theorem bare_neg (l : List UInt8) : bare (45 :: l) = l := if_pos rfl
theorem signOf_neg (l : List UInt8) : signOf (45 :: l) = -1 := if_pos rfl
theorem digits_of {l : List UInt8} {u : Nat} (h : digFold 0 l = some u) (h1 : 0 < l.length) (h2 : l.length ≤ 17) : digits l = u := by
  unfold digits
  rw [if_neg (by omega), h]
  rfl
theorem wordFrom_no {l : List UInt8} (h : ∀ k, k < 4 → l ≠ words.getD k []) : guess l = guessFrom l 10 1 := by
  unfold guess
  rw [wordFrom, if_neg (h 0 (by omega)), wordFrom, if_neg (h 1 (by omega)), wordFrom, if_neg (h 2 (by omega)), wordFrom, if_neg (h 3 (by omega)), wordFrom]
theorem not_letter {l : List UInt8} {c : UInt8} (hc : l.head? = some c) (h : isDig c ∨ c = 45) (k : Nat) (hk1 : 1 ≤ k) (hk2 : k ≤ 10) : letterAt l k = false := by
  unfold letterAt
  rw [hc]
  have hk : k = 1 ∨ k = 2 ∨ k = 3 ∨ k = 4 ∨ k = 5 ∨ k = 6 ∨ k = 7 ∨ k = 8 ∨ k = 9 ∨ k = 10 := by omega
  have hne : c ≠ letters.getD (k - 1) 0 := by
    rcases h with h | rfl
    · rcases hk with rfl | rfl | rfl | rfl | rfl | rfl | rfl | rfl | rfl | rfl <;> exact dig_ne h _ (Or.inr (by decide))
    · rcases hk with rfl | rfl | rfl | rfl | rfl | rfl | rfl | rfl | rfl | rfl <;> decide
  simpa using hne
theorem guessFrom_num {l : List UInt8} {c : UInt8} (hc : l.head? = some c) (h : isDig c ∨ c = 45) : ∀ m k, 1 ≤ k → k + m ≤ 11 → guessFrom l m k = guessNum l
  | 0, _, _, _ => rfl
  | m + 1, k, h1, h2 => by
    rw [guessFrom, not_letter hc h k h1 (by omega)]
    exact guessFrom_num hc h m (k + 1) (by omega) (by omega)
theorem head_dig {l : List UInt8} (h : ∀ c ∈ l, isDig c) (h0 : 0 < l.length) : ∃ c, l.head? = some c ∧ isDig c := by
  cases l with
  | nil => simp at h0
  | cons x r => exact ⟨x, rfl, h x (by simp)⟩
/-- A text of digits, a sign ahead or not, is no word. -/
theorem digs_no_word {l : List UInt8} (h : ∀ c ∈ l, isDig c ∨ c = 45) : ∀ k, k < 4 → l ≠ words.getD k [] := by
  intro k hk e
  have hk : k = 0 ∨ k = 1 ∨ k = 2 ∨ k = 3 := by omega
  rcases hk with rfl | rfl | rfl | rfl
  · rcases h 110 (by rw [e]; decide) with h | h
    · exact absurd h (by unfold isDig; decide)
    · cases h
  · rcases h 105 (by rw [e]; decide) with h | h
    · exact absurd h (by unfold isDig; decide)
    · cases h
  · rcases h 105 (by rw [e]; decide) with h | h
    · exact absurd h (by unfold isDig; decide)
    · cases h
  · rcases h 46 (by rw [e]; decide) with h | h
    · exact absurd h (by unfold isDig; decide)
    · cases h
theorem guessNum_pos {l : List UInt8} (h : ∀ c ∈ l, isDig c) (h0 : 0 < l.length) : guessNum l = ⟨11, digits l, 0⟩ := by
  obtain ⟨c, hc, hd⟩ := head_dig h h0
  have hn : ¬ l.head? = some 45 := by rw [hc]; intro e; cases e; exact absurd hd (by unfold isDig; decide)
  have hb : bare l = l := by unfold bare; rw [if_neg hn]
  have hs : signOf l = 1 := by unfold signOf; rw [if_neg hn]
  have hf : find 46 l = -1 := findFrom_none 46 l 0 fun x hx => dig_ne (h x hx) 46 (Or.inl (by decide))
  unfold guessNum
  rw [hb, hs, hf, if_pos (by omega), Int.one_mul]
theorem guessNum_neg {l : List UInt8} (h : ∀ c ∈ l, isDig c) : guessNum (45 :: l) = ⟨11, -digits l, 0⟩ := by
  have hb := bare_neg l
  have hs := signOf_neg l
  have hf : find 46 l = -1 := findFrom_none 46 l 0 fun x hx => dig_ne (h x hx) 46 (Or.inl (by decide))
  unfold guessNum
  rw [hb, hs, hf, if_pos (by omega), Int.neg_one_mul]
theorem guess_itoa (n : Int) (h1 : -32768 ≤ n) (h2 : n ≤ 32767) : guess (itoa n) = ⟨11, n, 0⟩ := by
  by_cases hn : n < 0
  · obtain ⟨u, rfl⟩ : ∃ u : Nat, n = -(u : Int) := ⟨n.natAbs, by omega⟩
    have e : itoa (-(u : Int)) = 45 :: decDigits u := by unfold itoa; rw [if_pos hn]; simp
    have hd := decDigits_dig u
    rw [e, wordFrom_no (digs_no_word (by intro c hc; rcases List.mem_cons.1 hc with rfl | hc; exact Or.inr rfl; exact Or.inl (hd c hc))), guessFrom_num (c := 45) rfl (Or.inr rfl) 10 1 (by omega) (by omega), guessNum_neg hd, digits_of (digFold_dec u) (decDigits_pos u) (by have := decDigits_short 5 u (by omega); omega)]
  · obtain ⟨u, rfl⟩ := Int.eq_ofNat_of_zero_le (show 0 ≤ n by omega)
    have e : itoa (u : Int) = decDigits u := by unfold itoa; rw [if_neg hn]; simp
    have hd := decDigits_dig u
    obtain ⟨c, hc, hdc⟩ := head_dig hd (decDigits_pos u)
    rw [e, wordFrom_no (digs_no_word fun c hc => Or.inl (hd c hc)), guessFrom_num hc (Or.inl hdc) 10 1 (by omega) (by omega), guessNum_pos hd (decDigits_pos u), digits_of (digFold_dec u) (decDigits_pos u) (by have := decDigits_short 5 u (by omega); omega)]
theorem cut_dot {a b : List UInt8} (ha : ∀ c ∈ a, isDig c) : find 46 (a ++ 46 :: b) = a.length := by
  unfold find
  rw [findFrom_at 46 a b 0 fun x hx => dig_ne (ha x hx) 46 (Or.inl (by decide))]
  omega
theorem guessNum_dec {l : List UInt8} {s : Int} {u p : Nat} (hp : 1 ≤ p) (hp6 : p ≤ 6) (hu : u ≤ 999999999) (hb : bare l = decNat u p) (hs : signOf l = s) : guessNum l = ⟨12, s * u, p⟩ := by
  obtain ⟨a, b, h1, h2, h3, h4⟩ := decNat_parts u p hp
  have hd := padTo_dig p u
  rw [← h2] at hd
  have hf : find 46 (bare l) = a.length := by rw [hb, h1]; exact cut_dot fun c hc => hd c (List.mem_append_left _ hc)
  have hl : (a ++ b).length ≤ 17 := by
    rw [h2, padTo_len]
    have := decDigits_short 9 u (by omega)
    omega
  unfold guessNum
  rw [hf, if_neg (by omega), hs, hb, h1]
  have e1 : ((a.length : Int)).toNat = a.length := by omega
  rw [e1]
  have e2 : (a ++ 46 :: b).take a.length ++ (a ++ 46 :: b).drop (a.length + 1) = a ++ b := by
    rw [List.take_left']
    · congr 1
      rw [show a ++ 46 :: b = (a ++ [46]) ++ b from by simp]
      rw [List.drop_left']
      simp
    · rfl
  have e3 : digits (a ++ b) = u := digits_of (by rw [h2]; exact padTo_fold p u) (by simp; omega) hl
  rw [e2, e3]
  have e4 : (((a ++ 46 :: b).length : Int)) - a.length - 1 = p := by simp; omega
  rw [e4]
theorem decNat_head (u p : Nat) (hp : 1 ≤ p) : ∃ c, (decNat u p).head? = some c ∧ isDig c := by
  obtain ⟨a, b, h1, h2, h3, h4⟩ := decNat_parts u p hp
  have hd := padTo_dig p u
  rw [← h2] at hd
  rw [h1]
  cases a with
  | nil => simp at h4
  | cons x r => exact ⟨x, rfl, hd x (by simp)⟩
theorem decNat_mem (u p : Nat) (hp : 1 ≤ p) : ∀ c ∈ decNat u p, isDig c ∨ c = 46 := by
  obtain ⟨a, b, h1, h2, h3, h4⟩ := decNat_parts u p hp
  have hd := padTo_dig p u
  rw [← h2] at hd
  intro c hc
  rw [h1] at hc
  rcases List.mem_append.1 hc with hc | hc
  · exact Or.inl (hd c (List.mem_append_left _ hc))
  · rcases List.mem_cons.1 hc with rfl | hc
    · exact Or.inr rfl
    · exact Or.inl (hd c (List.mem_append_right _ hc))
/-- The number of a decimal number's digits is not 0, where it is not. -/
theorem decNat_zero {u p : Nat} (hp : 1 ≤ p) (h : decNat u p = [48, 46, 48]) : u = 0 := by
  obtain ⟨a, b, h1, h2, h3, h4⟩ := decNat_parts u p hp
  have hd := padTo_dig p u
  rw [← h2] at hd
  rw [h] at h1
  have hf : find 46 (a ++ 46 :: b) = a.length := cut_dot fun c hc => hd c (List.mem_append_left _ hc)
  rw [← h1] at hf
  have ha : a.length = 1 := by
    have : find 46 [48, 46, 48] = 1 := by decide
    omega
  obtain ⟨x, rfl⟩ : ∃ x, a = [x] := by
    match a, ha with
    | [x], _ => exact ⟨x, rfl⟩
  simp at h1
  obtain ⟨rfl, rfl⟩ := h1
  have := padTo_fold p u
  rw [← h2] at this
  simp [digFold] at this
  exact this.symm
theorem guess_dec (n p : Int) (h1 : -999999999 ≤ n) (h2 : n ≤ 999999999) (hp1 : 1 ≤ p) (hp6 : p ≤ 6) : guess (decText n p) = ⟨12, n, p⟩ := by
  obtain ⟨q, rfl⟩ := Int.eq_ofNat_of_zero_le (show 0 ≤ p by omega)
  have hq1 : 1 ≤ q := by omega
  have e0 : ((q : Int)).toNat = q := by omega
  by_cases hn : n < 0
  · obtain ⟨u, rfl⟩ : ∃ u : Nat, n = -(u : Int) := ⟨n.natAbs, by omega⟩
    have e : decText (-(u : Int)) q = 45 :: decNat u q := by unfold decText; rw [if_pos hn, e0]; simp
    have hw : ∀ k, k < 4 → (45 :: decNat u q) ≠ words.getD k [] := by
      intro k hk e
      have hm : ∀ c ∈ (45 :: decNat u q : List UInt8), isDig c ∨ c = 46 ∨ c = 45 := by
        intro c hc
        rcases List.mem_cons.1 hc with rfl | hc
        · exact Or.inr (Or.inr rfl)
        · rcases decNat_mem u q hq1 c hc with h | h
          · exact Or.inl h
          · exact Or.inr (Or.inl h)
      rw [e] at hm
      have hk : k = 0 ∨ k = 1 ∨ k = 2 ∨ k = 3 := by omega
      rcases hk with rfl | rfl | rfl | rfl
      · rcases hm 110 (by decide) with h | h | h
        · exact absurd h (by unfold isDig; decide)
        · cases h
        · cases h
      · rcases hm 105 (by decide) with h | h | h
        · exact absurd h (by unfold isDig; decide)
        · cases h
        · cases h
      · rcases hm 105 (by decide) with h | h | h
        · exact absurd h (by unfold isDig; decide)
        · cases h
        · cases h
      · have e2 : decNat u q = [48, 46, 48] := by
          have : (45 :: decNat u q : List UInt8) = 45 :: [48, 46, 48] := e
          exact (List.cons.inj this).2
        have := decNat_zero hq1 e2
        omega
    rw [e, wordFrom_no hw, guessFrom_num (c := 45) rfl (Or.inr rfl) 10 1 (by omega) (by omega), guessNum_dec (s := -1) (u := u) (p := q) hq1 (by omega) (by omega) (bare_neg _) (signOf_neg _), Int.neg_one_mul]
  · obtain ⟨u, rfl⟩ := Int.eq_ofNat_of_zero_le (show 0 ≤ n by omega)
    have e : decText (u : Int) q = decNat u q := by unfold decText; rw [if_neg hn, e0]; simp
    obtain ⟨c, hc, hdc⟩ := decNat_head u q hq1
    have hne : ¬ (decNat u q).head? = some 45 := by rw [hc]; intro e; cases e; exact absurd hdc (by unfold isDig; decide)
    have hw : ∀ k, k < 4 → decNat u q ≠ words.getD k [] := by
      intro k hk e
      rw [e] at hc
      have hk : k = 0 ∨ k = 1 ∨ k = 2 ∨ k = 3 := by omega
      rcases hk with rfl | rfl | rfl | rfl <;> (cases hc; exact absurd hdc (by unfold isDig; decide))
    rw [e, wordFrom_no hw, guessFrom_num hc (Or.inl hdc) 10 1 (by omega) (by omega), guessNum_dec (s := 1) (u := u) (p := q) hq1 (by omega) (by omega) (by unfold bare; rw [if_neg hne]) (by unfold signOf; rw [if_neg hne]), Int.one_mul]
theorem guess_word (n : Int) (h1 : 0 ≤ n) (h2 : n ≤ 3) : guess (words.getD n.toNat []) = ⟨13, n, 0⟩ := by
  have h : n = 0 ∨ n = 1 ∨ n = 2 ∨ n = 3 := by omega
  rcases h with rfl | rfl | rfl | rfl <;> rfl
theorem guessFrom_hit (r : List UInt8) (k : Nat) (h1 : 1 ≤ k) (h2 : k ≤ 10) : guessFrom (letters.getD (k - 1) 0 :: r) 10 1 = ⟨k, digits r, 0⟩ := by
  have hk : k = 1 ∨ k = 2 ∨ k = 3 ∨ k = 4 ∨ k = 5 ∨ k = 6 ∨ k = 7 ∨ k = 8 ∨ k = 9 ∨ k = 10 := by omega
  rcases hk with rfl | rfl | rfl | rfl | rfl | rfl | rfl | rfl | rfl | rfl <;> rfl
theorem guess_dev (k : Nat) (n : Int) (hk1 : 1 ≤ k) (hk2 : k ≤ 10) (h1 : 0 ≤ n) (h2 : n < 64) : guess (letters.getD (k - 1) 0 :: itoa n) = ⟨k, n, 0⟩ := by
  obtain ⟨u, rfl⟩ := Int.eq_ofNat_of_zero_le h1
  have e : itoa (u : Int) = decDigits u := by unfold itoa; rw [if_neg (by omega)]; simp
  have hw : ∀ j, j < 4 → (letters.getD (k - 1) 0 :: itoa (u : Int)) ≠ words.getD j [] := by
    intro j hj e
    have hh := congrArg List.head? e
    rw [List.head?_cons] at hh
    have hk : k = 1 ∨ k = 2 ∨ k = 3 ∨ k = 4 ∨ k = 5 ∨ k = 6 ∨ k = 7 ∨ k = 8 ∨ k = 9 ∨ k = 10 := by omega
    have hj : j = 0 ∨ j = 1 ∨ j = 2 ∨ j = 3 := by omega
    rcases hk with rfl | rfl | rfl | rfl | rfl | rfl | rfl | rfl | rfl | rfl <;> rcases hj with rfl | rfl | rfl | rfl <;> exact absurd hh (by decide)
  rw [wordFrom_no hw, guessFrom_hit _ k hk1 hk2, e, digits_of (digFold_dec u) (decDigits_pos u) (by have := decDigits_short 1 u (by omega); omega)]
/-- What is written of an operand that is ok is guessed as it. -/
theorem guess_text (d : Dev) (h : devOkB d.kind d.n d.p = true) : guess d.text = d := by
  obtain ⟨k, n, p⟩ := d
  have h0 := h
  unfold Dev.text devText
  simp only at h ⊢
  rw [if_pos h]
  unfold devOkB at h
  split at h
  · rename_i hk
    rw [if_pos hk]
    have h := of_decide_eq_true h
    rw [guess_itoa n h.1 h.2.1, hk, h.2.2]
  · rename_i hk
    rw [if_neg hk]
    split at h
    · rename_i hk2
      rw [if_pos hk2]
      have h := of_decide_eq_true h
      rw [guess_dec n p h.1 h.2.1 h.2.2.1 h.2.2.2.1, hk2]
    · rename_i hk2
      rw [if_neg hk2]
      split at h
      · rename_i hk3
        rw [if_pos hk3]
        have h := of_decide_eq_true h
        rw [guess_word n h.1 h.2.1, hk3, h.2.2]
      · rename_i hk3
        rw [if_neg hk3]
        have h := of_decide_eq_true h
        have hz : 1 ≤ k ∧ k ≤ 10 ∧ devSize k ≤ 64 := by
          have := h.1
          have := h.2.1
          unfold devSize at *
          split at *
          · omega
          · split at *
            · omega
            · split at *
              · omega
              · split at *
                · omega
                · omega
        obtain ⟨m, rfl⟩ := Int.eq_ofNat_of_zero_le (show 0 ≤ k by omega)
        rw [show ((m : Int)).toNat = m from by omega, guess_dev m n (by omega) (by omega) h.1 (by omega), h.2.2]
end Stil
/- Plain models of chapter 1: how the program reads an operand; it reads as the specification. -/
namespace Stil
open Go.Lib
/-- The program's reading of a number, byte by byte: is it the first byte, the kind, the number, how many digits behind the point, the sign. -/
def numScan : Bool → Int → Nat → Nat → Int → List UInt8 → Option Dev
  | _, k, n, p, s, [] => some ⟨k, n * s, p⟩
  | f, k, n, p, s, c :: r =>
    if c = 45 ∧ f = true then numScan false k n p (-1) r
    else if c = 46 ∧ k = 11 then numScan false 12 n p s r
    else if c.toNat < 48 ∨ 57 < c.toNat ∨ 99999999 < n then none
    else numScan false k (n * 10 + (c.toNat - 48)) (if k = 12 then p + 1 else p) s r
def inum (l : List UInt8) : Option Dev := numScan true 11 0 0 1 l
def iletFrom (l : List UInt8) : Nat → Nat → Option Dev
  | 0, _ => inum l
  | m + 1, k => if letterAt l k then (inum (l.drop 1)).map fun d => ⟨k, d.n, d.p⟩ else iletFrom l m (k + 1)
def iwordFrom (l : List UInt8) : Nat → Nat → Option Dev
  | 0, _ => iletFrom l 10 1
  | m + 1, k => if l = words.getD k [] then some ⟨13, k, 0⟩ else iwordFrom l m (k + 1)
def iguess (l : List UInt8) : Option Dev := iwordFrom l 4 0
/-- Digits behind digits: the number that they come to, as long as it is not too great. -/
theorem numScan_digs (k : Int) (s : Int) : ∀ (l r : List UInt8) (n p m : Nat), (∀ c ∈ l, isDig c) → digFold n l = some m → m ≤ 999999999 → numScan false k n p s (l ++ r) = numScan false k m (if k = 12 then p + l.length else p) s r
  | [], r, n, p, m, _, hf, _ => by
    simp only [digFold, Option.some.injEq] at hf
    subst hf
    simp
  | c :: l, r, n, p, m, hd, hf, hm => by
    have hc := hd c (by simp)
    unfold isDig at hc
    simp only [digFold] at hf
    rw [if_pos hc] at hf
    have hge : ∀ (l : List UInt8) (a b : Nat), digFold a l = some b → a ≤ b := by
      intro l
      induction l with
      | nil => intro a b h; simp only [digFold, Option.some.injEq] at h; omega
      | cons x l ih =>
        intro a b h
        simp only [digFold] at h
        split at h
        · have := ih _ _ h; omega
        · cases h
    have hn := hge l _ _ hf
    rw [List.cons_append, numScan, if_neg (by intro h; exact absurd h.2 (by decide)), if_neg (by intro h; rw [h.1] at hc; exact absurd hc (by decide)), if_neg (by omega), numScan_digs k s l r _ _ m (fun x hx => hd x (by simp [hx])) hf hm]
    congr 1
    by_cases hk : k = 12
    · rw [if_pos hk, if_pos hk, if_pos hk, List.length_cons]; omega
    · rw [if_neg hk, if_neg hk, if_neg hk]
theorem numScan_first (k : Int) (n p : Nat) (s : Int) {l : List UInt8} {c : UInt8} (hc : l.head? = some c) (hd : isDig c) : numScan true k n p s l = numScan false k n p s l := by
  cases l with
  | nil => cases hc
  | cons x r =>
    simp only [List.head?_cons, Option.some.injEq] at hc
    subst hc
    have hne : ¬ x = 45 := by intro e; subst e; exact absurd hd (by unfold isDig; decide)
    have e1 : ∀ f : Bool, numScan f k n p s (x :: r) = if x = 46 ∧ k = 11 then numScan false 12 n p s r else if x.toNat < 48 ∨ 57 < x.toNat ∨ 99999999 < n then none else numScan false k (n * 10 + (x.toNat - 48)) (if k = 12 then p + 1 else p) s r := by
      intro f
      rw [numScan, if_neg (by intro h; exact hne h.1)]
    rw [e1, e1]
theorem numScan_neg (k : Int) (n p : Nat) (s : Int) (l : List UInt8) : numScan true k n p s (45 :: l) = numScan false k n p (-1) l := by
  rw [numScan, if_pos ⟨rfl, rfl⟩]
theorem numScan_dec (u p : Nat) (s : Int) (hp : 1 ≤ p) (hu : u ≤ 999999999) : numScan false 11 0 0 s (decNat u p) = some ⟨12, u * s, p⟩ := by
  obtain ⟨a, b, h1, h2, h3, h4⟩ := decNat_parts u p hp
  have hd := padTo_dig p u
  rw [← h2] at hd
  have hf := padTo_fold p u
  rw [← h2, digFold_append] at hf
  obtain ⟨m, hm1, hm2⟩ := Option.bind_eq_some_iff.1 hf
  have hle : m ≤ u := by
    have hge : ∀ (l : List UInt8) (a b : Nat), digFold a l = some b → a ≤ b := by
      intro l
      induction l with
      | nil => intro a b h; simp only [digFold, Option.some.injEq] at h; omega
      | cons x l ih =>
        intro a b h
        simp only [digFold] at h
        split at h
        · have := ih _ _ h; omega
        · cases h
    exact hge b m u hm2
  rw [h1, numScan_digs 11 s a (46 :: b) 0 0 m (fun c hc => hd c (List.mem_append_left _ hc)) hm1 (by omega), if_neg (by decide), numScan, if_neg (by intro h; exact absurd h.1 (by decide)), if_pos ⟨rfl, rfl⟩]
  have e := numScan_digs 12 s b [] m 0 u (fun c hc => hd c (List.mem_append_right _ hc)) hm2 (by omega)
  rw [List.append_nil] at e
  rw [e, if_pos rfl, numScan, Nat.zero_add, h3]
theorem inum_itoa (n : Int) (h1 : -999999999 ≤ n) (h2 : n ≤ 999999999) : inum (itoa n) = some ⟨11, n, 0⟩ := by
  unfold inum
  by_cases hn : n < 0
  · obtain ⟨u, rfl⟩ : ∃ u : Nat, n = -(u : Int) := ⟨n.natAbs, by omega⟩
    have e : itoa (-(u : Int)) = 45 :: decDigits u := by unfold itoa; rw [if_pos hn]; simp
    have e2 := numScan_digs 11 (-1) (decDigits u) [] 0 0 u (decDigits_dig u) (digFold_dec u) (by omega)
    rw [List.append_nil] at e2
    rw [e, numScan_neg, e2, if_neg (by decide), numScan, Int.mul_neg_one]; rfl
  · obtain ⟨u, rfl⟩ := Int.eq_ofNat_of_zero_le (show 0 ≤ n by omega)
    have e : itoa (u : Int) = decDigits u := by unfold itoa; rw [if_neg hn]; simp
    obtain ⟨c, hc, hdc⟩ := head_dig (decDigits_dig u) (decDigits_pos u)
    have e2 := numScan_digs 11 1 (decDigits u) [] 0 0 u (decDigits_dig u) (digFold_dec u) (by omega)
    rw [List.append_nil] at e2
    rw [e, numScan_first 11 0 0 1 hc hdc, e2, if_neg (by decide), numScan, Int.mul_one]; rfl
theorem inum_dec (n p : Int) (h1 : -999999999 ≤ n) (h2 : n ≤ 999999999) (hp : 1 ≤ p) : inum (decText n p) = some ⟨12, n, p⟩ := by
  unfold inum
  obtain ⟨q, rfl⟩ := Int.eq_ofNat_of_zero_le (show 0 ≤ p by omega)
  have e0 : ((q : Int)).toNat = q := by omega
  by_cases hn : n < 0
  · obtain ⟨u, rfl⟩ : ∃ u : Nat, n = -(u : Int) := ⟨n.natAbs, by omega⟩
    have e : decText (-(u : Int)) q = 45 :: decNat u q := by unfold decText; rw [if_pos hn, e0]; simp
    rw [e, numScan_neg, numScan_dec u q (-1) (by omega) (by omega), Int.mul_neg_one]
  · obtain ⟨u, rfl⟩ := Int.eq_ofNat_of_zero_le (show 0 ≤ n by omega)
    have e : decText (u : Int) q = decNat u q := by unfold decText; rw [if_neg hn, e0]; simp
    obtain ⟨c, hc, hdc⟩ := decNat_head u q (by omega)
    rw [e, numScan_first 11 0 0 1 hc hdc, numScan_dec u q 1 (by omega) (by omega), Int.mul_one]
theorem iwordFrom_no {l : List UInt8} (h : ∀ k, k < 4 → l ≠ words.getD k []) : iguess l = iletFrom l 10 1 := by
  unfold iguess
  rw [iwordFrom, if_neg (h 0 (by omega)), iwordFrom, if_neg (h 1 (by omega)), iwordFrom, if_neg (h 2 (by omega)), iwordFrom, if_neg (h 3 (by omega)), iwordFrom]
theorem iletFrom_num {l : List UInt8} {c : UInt8} (hc : l.head? = some c) (h : isDig c ∨ c = 45) : ∀ m k, 1 ≤ k → k + m ≤ 11 → iletFrom l m k = inum l
  | 0, _, _, _ => rfl
  | m + 1, k, h1, h2 => by
    rw [iletFrom, not_letter hc h k h1 (by omega)]
    exact iletFrom_num hc h m (k + 1) (by omega) (by omega)
theorem iletFrom_hit (r : List UInt8) (k : Nat) (h1 : 1 ≤ k) (h2 : k ≤ 10) : iletFrom (letters.getD (k - 1) 0 :: r) 10 1 = (inum r).map fun d => ⟨k, d.n, d.p⟩ := by
  have hk : k = 1 ∨ k = 2 ∨ k = 3 ∨ k = 4 ∨ k = 5 ∨ k = 6 ∨ k = 7 ∨ k = 8 ∨ k = 9 ∨ k = 10 := by omega
  rcases hk with rfl | rfl | rfl | rfl | rfl | rfl | rfl | rfl | rfl | rfl <;> rfl
/-- A text is a word, or none; of the latter both go on alike. -/
theorem word_or (l : List UInt8) : (∃ k, k < 4 ∧ l = words.getD k []) ∨ ∀ k, k < 4 → l ≠ words.getD k [] := by
  by_cases h : ∃ k, k < 4 ∧ l = words.getD k []
  · exact Or.inl h
  · exact Or.inr fun k hk e => h ⟨k, hk, e⟩
theorem iguess_num {l : List UInt8} {c : UInt8} {d : Dev} (hc : l.head? = some c) (h : isDig c ∨ c = 45) (hg : guess l = d) (hd : d.kind ≠ 13) (hi : inum l = some d) : iguess l = some d := by
  rcases word_or l with ⟨k, hk, e⟩ | hno
  · exfalso
    apply hd
    rw [← hg, e]
    have hk : k = 0 ∨ k = 1 ∨ k = 2 ∨ k = 3 := by omega
    rcases hk with rfl | rfl | rfl | rfl <;> rfl
  · rw [iwordFrom_no hno, iletFrom_num hc h 10 1 (by omega) (by omega), hi]
/-- What is written of an operand that is ok the program guesses as it. -/
theorem iguess_text (d : Dev) (h : devOkB d.kind d.n d.p = true) : iguess d.text = some d := by
  have hg := guess_text d h
  obtain ⟨k, n, p⟩ := d
  unfold Dev.text devText at hg ⊢
  simp only at h hg ⊢
  rw [if_pos h] at hg ⊢
  unfold devOkB at h
  split at h
  · rename_i hk
    rw [if_pos hk] at hg ⊢
    have h := of_decide_eq_true h
    obtain ⟨c, hc, hcd⟩ : ∃ c, (itoa n).head? = some c ∧ (isDig c ∨ c = 45) := by
      unfold itoa
      split
      · exact ⟨45, rfl, Or.inr rfl⟩
      · obtain ⟨c, hc, hd⟩ := head_dig (decDigits_dig n.toNat) (decDigits_pos _)
        exact ⟨c, hc, Or.inl hd⟩
    have hi := inum_itoa n (by omega) (by omega)
    rw [← hk, ← h.2.2] at hi
    exact iguess_num hc hcd hg (by rw [hk]; show (11 : Int) ≠ 13; decide) hi
  · rename_i hk
    rw [if_neg hk] at hg ⊢
    split at h
    · rename_i hk2
      rw [if_pos hk2] at hg ⊢
      have h := of_decide_eq_true h
      obtain ⟨c, hc, hcd⟩ : ∃ c, (decText n p).head? = some c ∧ (isDig c ∨ c = 45) := by
        unfold decText
        split
        · exact ⟨45, rfl, Or.inr rfl⟩
        · obtain ⟨c, hc, hd⟩ := decNat_head n.toNat p.toNat (by omega)
          exact ⟨c, hc, Or.inl hd⟩
      have hi := inum_dec n p h.1 h.2.1 h.2.2.1
      rw [← hk2] at hi
      exact iguess_num hc hcd hg (by rw [hk2]; show (12 : Int) ≠ 13; decide) hi
    · rename_i hk2
      rw [if_neg hk2] at hg ⊢
      split at h
      · rename_i hk3
        rw [if_pos hk3] at hg ⊢
        have h := of_decide_eq_true h
        have hn : n = 0 ∨ n = 1 ∨ n = 2 ∨ n = 3 := by omega
        rw [hk3, h.2.2]
        rcases hn with rfl | rfl | rfl | rfl <;> rfl
      · rename_i hk3
        rw [if_neg hk3] at hg ⊢
        have h := of_decide_eq_true h
        have hz : 1 ≤ k ∧ k ≤ 10 ∧ devSize k ≤ 64 := by
          have := h.1
          have := h.2.1
          unfold devSize at *
          split at *
          · omega
          · split at *
            · omega
            · split at *
              · omega
              · split at *
                · omega
                · omega
        obtain ⟨m, rfl⟩ := Int.eq_ofNat_of_zero_le (show 0 ≤ k by omega)
        have em : ((m : Int)).toNat = m := by omega
        rw [em] at hg ⊢
        rcases word_or (letters.getD (m - 1) 0 :: itoa n) with ⟨j, hj, e⟩ | hno
        · exfalso
          have hg2 := congrArg Dev.kind hg
          rw [e] at hg2
          have hj : j = 0 ∨ j = 1 ∨ j = 2 ∨ j = 3 := by omega
          rcases hj with rfl | rfl | rfl | rfl <;> (have h13 : (13 : Int) = m := hg2; omega)
        · rw [iwordFrom_no hno, iletFrom_hit _ m (by omega) (by omega), inum_itoa n (by omega) (by omega), h.2.2]
          rfl
/-- What the program reads of a text, or nothing. -/
def idevRead (l : List UInt8) : Option Dev := (iguess l).bind fun d => if devOkB d.kind d.n d.p && d.text == l then some d else none
theorem text_ok {d : Dev} (h : d.text ≠ []) : devOkB d.kind d.n d.p = true := by
  unfold Dev.text devText at h
  cases hb : devOkB d.kind d.n d.p
  · rw [hb] at h; exact absurd rfl h
  · rfl
theorem text_ne {d : Dev} (h : devOkB d.kind d.n d.p = true) : d.text ≠ [] := by
  intro e
  have hg := guess_text d h
  rw [e] at hg
  have hd : d = ⟨11, -1, 0⟩ := hg.symm
  subst hd
  unfold Dev.text devText at e
  rw [if_pos h, if_pos rfl] at e
  unfold itoa at e
  rw [if_pos (by decide)] at e
  cases e
/-- The program reads an operand as the specification does. -/
theorem idevRead_eq (l : List UInt8) : idevRead l = if devReadB l then some (devRead l) else none := by
  unfold idevRead
  cases hb : devReadB l
  · rw [if_neg (by decide)]
    cases hi : iguess l with
    | none => rfl
    | some d =>
      simp only [Option.bind_some]
      rw [if_neg]
      intro h
      simp only [Bool.and_eq_true, beq_iff_eq] at h
      have hg := guess_text d h.1
      rw [h.2] at hg
      have hne := text_ne h.1
      rw [h.2] at hne
      unfold devReadB at hb
      rw [hg] at hb
      cases l with
      | nil => exact hne rfl
      | cons x r => simp [h.2] at hb
  · rw [if_pos rfl]
    have h := hb
    unfold devReadB at h
    simp only [Bool.and_eq_true, beq_iff_eq, Bool.not_eq_true'] at h
    have hne : (guess l).text ≠ [] := by
      rw [h.2]
      intro e
      rw [e] at h
      exact absurd h.1 (by decide)
    have hok := text_ok hne
    have hi := iguess_text (guess l) hok
    rw [h.2] at hi
    rw [hi]
    simp only [Option.bind_some]
    have hr : devRead l = guess l := by unfold devRead; rw [hb]; rfl
    rw [hok, h.2, hr]
    simp
end Stil
/- Plain facts on chapter 2: what the specification's guess makes of a contact's or coil's text. -/
namespace Stil
open Go.Lib
/-- A byte that may stand in an operand's text. -/
def inDev (c : UInt8) : Bool := c != 44 && c != 58 && c != 32 && c != 60 && c != 61 && c != 62 && c != 47 && c != 43
theorem dig_inDev {c : UInt8} (h : isDig c) : inDev c = true := by
  unfold inDev
  have h1 := dig_ne h 44 (Or.inl (by decide))
  have h2 := dig_ne h 58 (Or.inr (by decide))
  have h3 := dig_ne h 32 (Or.inl (by decide))
  have h4 := dig_ne h 60 (Or.inr (by decide))
  have h5 := dig_ne h 61 (Or.inr (by decide))
  have h6 := dig_ne h 62 (Or.inr (by decide))
  have h7 := dig_ne h 47 (Or.inl (by decide))
  have h8 := dig_ne h 43 (Or.inl (by decide))
  simp [h1, h2, h3, h4, h5, h6, h7, h8]
theorem itoa_inDev (n : Int) : ∀ c ∈ itoa n, inDev c = true := by
  intro c hc
  unfold itoa at hc
  split at hc
  · rcases List.mem_cons.1 hc with rfl | hc
    · rfl
    · exact dig_inDev (decDigits_dig _ c hc)
  · exact dig_inDev (decDigits_dig _ c hc)
theorem decText_inDev (n p : Int) (hp : 1 ≤ p) : ∀ c ∈ decText n p, inDev c = true := by
  intro c hc
  unfold decText at hc
  have one : ∀ u, ∀ c ∈ decNat u p.toNat, inDev c = true := by
    intro u c hc
    rcases decNat_mem u p.toNat (by omega) c hc with h | rfl
    · exact dig_inDev h
    · rfl
  split at hc
  · rcases List.mem_cons.1 hc with rfl | hc
    · rfl
    · exact one _ c hc
  · exact one _ c hc
/-- The kinds of operands and their texts. -/
theorem text_mem {d : Dev} (h : d.ok = true) : ∀ c ∈ d.text, inDev c = true := by
  obtain ⟨k, n, p⟩ := d
  have h0 : devOkB k n p = true := h
  unfold Dev.text devText
  simp only
  rw [if_pos h0]
  unfold devOkB at h0
  split at h0
  · rename_i hk
    rw [if_pos hk]
    exact itoa_inDev n
  · rename_i hk
    rw [if_neg hk]
    split at h0
    · rename_i hk2
      rw [if_pos hk2]
      have h0 := of_decide_eq_true h0
      exact decText_inDev n p h0.2.2.1
    · rename_i hk2
      rw [if_neg hk2]
      split at h0
      · rename_i hk3
        rw [if_pos hk3]
        have h0 := of_decide_eq_true h0
        have hn : n = 0 ∨ n = 1 ∨ n = 2 ∨ n = 3 := by omega
        rcases hn with rfl | rfl | rfl | rfl <;> decide
      · rename_i hk3
        rw [if_neg hk3]
        intro c hc
        rcases List.mem_cons.1 hc with rfl | hc
        · have all : ∀ j : Fin 11, inDev (letters.getD j 0) = true := by decide
          by_cases hj : k.toNat - 1 < 11
          · exact all ⟨k.toNat - 1, hj⟩
          · rw [List.getD_eq_getElem?_getD, List.getElem?_eq_none (by simp [letters]; omega)]; decide
        · exact itoa_inDev n c hc
theorem devRead_text {d : Dev} (h : d.ok = true) : devRead d.text = d := by
  have hg := guess_text d h
  have hne := text_ne h
  have hb : devReadB d.text = true := by
    unfold devReadB
    rw [hg]
    cases he : d.text with
    | nil => exact absurd he hne
    | cons x r => simp
  unfold devRead
  rw [hb, hg]
  rfl
theorem ne_of_inDev {c x : UInt8} (h : inDev c = true) (hx : inDev x = false) : c ≠ x := by
  intro e; subst e; rw [h] at hx; cases hx
theorem args_one {d : Dev} (c : UInt8) (hc : inDev c = false) (h : d.ok = true) : args c d.text = [d] := by
  unfold args
  rw [cut_none c d.text fun x hx => ne_of_inDev (text_mem h x hx) hc]
  simp [devRead_text h]
theorem args_two {a b : Dev} (c : UInt8) (hc : inDev c = false) (ha : a.ok = true) (hb : b.ok = true) : args c (a.text ++ c :: b.text) = [a, b] := by
  unfold args
  rw [cut_at c a.text _ fun x hx => ne_of_inDev (text_mem ha x hx) hc, cut_none c b.text fun x hx => ne_of_inDev (text_mem hb x hx) hc]
  simp [devRead_text ha, devRead_text hb]
theorem cut_args : ∀ (d : Dev) (r : List Dev), d.ok = true → (∀ x ∈ r, x.ok = true) → cut 44 (d.text ++ argsText r) = (d :: r).map Dev.text
  | d, [], hd, _ => by
    rw [argsText, List.append_nil, cut_none 44 d.text fun x hx => ne_of_inDev (text_mem hd x hx) rfl]
    rfl
  | d, e :: r, hd, hr => by
    rw [argsText, List.cons_append, cut_at 44 d.text _ fun x hx => ne_of_inDev (text_mem hd x hx) rfl, cut_args e r (hr e (by simp)) fun x hx => hr x (by simp [hx])]
    rfl
theorem args_coil (d : Dev) (r : List Dev) (hd : d.ok = true) (hr : ∀ x ∈ r, x.ok = true) (hl : r.length ≤ 3) : args 44 (d.text ++ argsText r) = d :: r := by
  unfold args
  rw [cut_args d r hd hr, List.map_map]
  have e : ((d :: r).map (devRead ∘ Dev.text)) = d :: r := by
    have : ∀ l : List Dev, (∀ x ∈ l, x.ok = true) → l.map (devRead ∘ Dev.text) = l := by
      intro l
      induction l with
      | nil => intro _; rfl
      | cons x l ih =>
        intro h
        rw [List.map_cons, ih fun y hy => h y (by simp [hy])]
        show devRead x.text :: l = x :: l
        rw [devRead_text (h x (by simp))]
    exact this _ fun x hx => by rcases List.mem_cons.1 hx with rfl | hx; exact hd; exact hr x hx
  rw [e]
  exact List.take_of_length_le (by simp; omega)
/-- Without a sign the scan goes on to the names. -/
theorem scan_none (l : List UInt8) (h : ∀ c ∈ l, isSign c = false) : ∀ m i, scan l m i = guessName l 17 21
  | 0, _ => rfl
  | m + 1, i => by
    rw [scan, if_neg, scan_none l h m (i + 1)]
    rw [List.getD_eq_getElem?_getD]
    cases hi : l[i]? with
    | none => decide
    | some c => simpa using h c (List.mem_of_getElem? hi)
/-- The scan stands at the first sign. -/
theorem scan_at (a r : List UInt8) (c : UInt8) (ha : ∀ x ∈ a, isSign x = false) (hc : isSign c = true) : ∀ m i, i ≤ a.length → a.length - i < m → scan (a ++ c :: r) m i = signFrom (a ++ c :: r) a.length (signLen (a ++ c :: r) a.length) 6 5
  | 0, i, _, h => by omega
  | m + 1, i, hi, hm => by
    by_cases he : i = a.length
    · subst he
      rw [scan, if_pos]
      rw [List.getD_eq_getElem?_getD, List.getElem?_append_right (Nat.le_refl _)]
      simpa using hc
    · rw [scan, if_neg, scan_at a r c ha hc m (i + 1) (by omega) (by omega)]
      rw [List.getD_eq_getElem?_getD, List.getElem?_append_left (by omega), List.getElem?_eq_getElem (by omega)]
      simpa using ha a[i] (List.getElem_mem (by omega))
theorem inDev_sign {c : UInt8} (h : inDev c = true) : isSign c = false := by
  unfold inDev at h
  unfold isSign
  simp at h ⊢
  exact ⟨⟨h.1.1.1.1.2, h.1.1.1.2⟩, h.1.1.2⟩
theorem signFrom_hit (l : List UInt8) (i n : Nat) (op : Nat) (h5 : 5 ≤ op) (h10 : op ≤ 10) (h : (l.take (i + n)).drop i = sign op) : signFrom l i n 6 5 = ⟨op, args 32 (l.take i) ++ args 32 (l.drop (i + n))⟩ := by
  have hop : op = 5 ∨ op = 6 ∨ op = 7 ∨ op = 8 ∨ op = 9 ∨ op = 10 := by omega
  unfold signFrom signFrom signFrom signFrom signFrom signFrom
  rw [h]
  rcases hop with rfl | rfl | rfl | rfl | rfl | rfl <;> rfl
/-- A comparison's text is guessed as it. -/
theorem eguess_cmp (op : Nat) (a b : Dev) (h5 : 5 ≤ op) (h10 : op ≤ 10) (ha : a.ok = true) (hb : b.ok = true) : eguess (a.text ++ sign op ++ b.text) = ⟨op, [a, b]⟩ := by
  obtain ⟨x, hx⟩ : ∃ x, x = a.text := ⟨_, rfl⟩
  obtain ⟨y, hy⟩ : ∃ y, y = b.text := ⟨_, rfl⟩
  have hxm : ∀ c ∈ x, isSign c = false := fun c hc => inDev_sign (text_mem ha c (hx ▸ hc))
  have hym : ∀ c ∈ y, isSign c = false := fun c hc => inDev_sign (text_mem hb c (hy ▸ hc))
  have e1 : args 32 x = [a] := by rw [hx]; exact args_one 32 rfl ha
  have e2 : args 32 y = [b] := by rw [hy]; exact args_one 32 rfl hb
  have hyn : y ≠ [] := by rw [hy]; exact text_ne hb
  rw [← hx, ← hy]
  have hop : op = 5 ∨ op = 6 ∨ op = 7 ∨ op = 8 ∨ op = 9 ∨ op = 10 := by omega
  have one : ∀ c : UInt8, isSign c = true → sign op = [c] → eguess (x ++ sign op ++ y) = ⟨op, [a, b]⟩ := by
    intro c hc hs
    rw [hs, List.append_assoc, List.singleton_append]
    unfold eguess
    rw [scan_at x y c hxm hc _ 0 (by omega) (by simp)]
    have hsl : signLen (x ++ c :: y) x.length = 1 := by
      unfold signLen
      rw [if_neg]
      rw [List.getElem?_append_right (by omega), show x.length + 1 - x.length = 1 from by omega, List.getElem?_cons_succ]
      cases y with
      | nil => exact absurd rfl hyn
      | cons z r =>
        have := hym z (by simp)
        unfold isSign at this
        simp at this ⊢
        exact ⟨this.1.2, this.2⟩
    rw [hsl, signFrom_hit _ _ _ op h5 h10]
    · rw [List.take_left' rfl, show x ++ c :: y = (x ++ [c]) ++ y from by simp, List.drop_left' (by simp), e1, e2]
      rfl
    · rw [hs, show x ++ c :: y = (x ++ [c]) ++ y from by simp, List.take_left' (by simp), List.drop_left' rfl]
  have two : ∀ c e : UInt8, isSign c = true → (e = 61 ∨ e = 62) → sign op = [c, e] → eguess (x ++ sign op ++ y) = ⟨op, [a, b]⟩ := by
    intro c e hc he hs
    rw [hs, List.append_assoc, List.cons_append, List.singleton_append]
    unfold eguess
    rw [scan_at x (e :: y) c hxm hc _ 0 (by omega) (by simp)]
    have hsl : signLen (x ++ c :: e :: y) x.length = 2 := by
      unfold signLen
      rw [if_pos]
      rw [List.getElem?_append_right (by omega), show x.length + 1 - x.length = 1 from by omega, List.getElem?_cons_succ, List.getElem?_cons_zero]
      simpa using he
    rw [hsl, signFrom_hit _ _ _ op h5 h10]
    · rw [List.take_left' rfl, show x ++ c :: e :: y = (x ++ [c, e]) ++ y from by simp, List.drop_left' (by simp), e1, e2]
      rfl
    · rw [hs, show x ++ c :: e :: y = (x ++ [c, e]) ++ y from by simp, List.take_left' (by simp), List.drop_left' rfl]
  rcases hop with rfl | rfl | rfl | rfl | rfl | rfl
  · exact one 60 rfl rfl
  · exact two 60 61 rfl (Or.inl rfl) rfl
  · exact one 61 rfl rfl
  · exact two 60 62 rfl (Or.inr rfl) rfl
  · exact two 62 61 rfl (Or.inl rfl) rfl
  · exact one 62 rfl rfl
end Stil
/- Plain facts on chapter 2: a contact or coil that is written is guessed as it by the specification. -/
namespace Stil
open Go.Lib
theorem name_facts : ∀ j : Fin 17, 0 < (elemName ((j : Nat) + 21)).length ∧ (elemName ((j : Nat) + 21)).length ≤ 5 ∧ (∀ c ∈ elemName ((j : Nat) + 21), c ≠ 58 ∧ isSign c = false) ∧ (elemName ((j : Nat) + 21)).head? ≠ some 43 ∧ (elemName ((j : Nat) + 21)).head? ≠ some 45 ∧ (elemName ((j : Nat) + 21)).head? ≠ some 47 := by decide
theorem name_inj : ∀ i j : Fin 17, elemName ((i : Nat) + 21) = elemName ((j : Nat) + 21) → i = j := by decide
theorem name_at {k : Nat} (h1 : 21 ≤ k) (h2 : k ≤ 37) : 0 < (elemName k).length ∧ (elemName k).length ≤ 5 ∧ (∀ c ∈ elemName k, c ≠ 58 ∧ isSign c = false) ∧ (elemName k).head? ≠ some 43 ∧ (elemName k).head? ≠ some 45 ∧ (elemName k).head? ≠ some 47 := by
  have h := name_facts ⟨k - 21, by omega⟩
  have e : (((k - 21 : Nat) : Int) + 21) = (k : Int) := by omega
  simp only [e] at h
  exact h
theorem name_inj' {i j : Nat} (hi1 : 21 ≤ i) (hi2 : i ≤ 37) (hj1 : 21 ≤ j) (hj2 : j ≤ 37) (h : elemName i = elemName j) : i = j := by
  have e1 : (((i - 21 : Nat) : Int) + 21) = (i : Int) := by omega
  have e2 : (((j - 21 : Nat) : Int) + 21) = (j : Int) := by omega
  have := name_inj ⟨i - 21, by omega⟩ ⟨j - 21, by omega⟩ (by simp only [e1, e2]; exact h)
  simp only [Fin.mk.injEq] at this
  omega
theorem nameAt_hit {k : Nat} (r : List UInt8) : nameAt (elemName k ++ 58 :: r) k = true := by
  unfold nameAt
  rw [List.take_left' rfl, List.getElem?_append_right (Nat.le_refl _)]
  simp
theorem nameAt_miss {k j : Nat} (hk1 : 21 ≤ k) (hk2 : k ≤ 37) (hj1 : 21 ≤ j) (hj2 : j ≤ 37) (hne : j ≠ k) (r : List UInt8) : nameAt (elemName k ++ 58 :: r) j = false := by
  cases hn : nameAt (elemName k ++ 58 :: r) j
  · rfl
  · exfalso
    unfold nameAt at hn
    simp only [Bool.and_eq_true, beq_iff_eq, decide_eq_true_eq] at hn
    obtain ⟨⟨_, h2⟩, h3⟩ := hn
    have hk := name_at hk1 hk2
    have hj := name_at hj1 hj2
    have hle : (elemName j).length ≤ (elemName k).length := by
      by_cases h : (elemName j).length ≤ (elemName k).length
      · exact h
      · exfalso
        have hm : (58 : UInt8) ∈ (elemName k ++ 58 :: r).take (elemName j).length := by
          rw [List.mem_take_iff_getElem]
          refine ⟨(elemName k).length, by simp; omega, ?_⟩
          rw [List.getElem_append_right (Nat.le_refl _)]
          simp
        rw [h2] at hm
        exact (hj.2.2.1 58 hm).1 rfl
    have hge : (elemName k).length ≤ (elemName j).length := by
      by_cases h : (elemName k).length ≤ (elemName j).length
      · exact h
      · exfalso
        rw [List.getElem?_append_left (by omega)] at h3
        exact (hk.2.2.1 58 (List.mem_of_getElem? h3)).1 rfl
    have he : (elemName j).length = (elemName k).length := by omega
    rw [he, List.take_left' rfl] at h2
    exact hne (name_inj' hj1 hj2 hk1 hk2 h2.symm)
theorem guessName_hit {k : Nat} (hk1 : 21 ≤ k) (hk2 : k ≤ 37) (r : List UInt8) : ∀ m i, 21 ≤ i → i ≤ k → k < i + m → i + m ≤ 38 → guessName (elemName k ++ 58 :: r) m i = ⟨k, args 44 r⟩
  | 0, i, _, _, _, _ => by omega
  | m + 1, i, h1, h2, h3, h4 => by
    by_cases he : i = k
    · subst he
      rw [guessName, nameAt_hit, if_pos rfl, show elemName i ++ 58 :: r = (elemName i ++ [58]) ++ r from by simp, List.drop_left' (by simp)]
    · rw [guessName, nameAt_miss hk1 hk2 h1 (by omega) he r]
      exact guessName_hit hk1 hk2 r m (i + 1) (by omega) (by omega) (by omega) (by omega)
theorem guessName_none {l : List UInt8} (h : ∀ j : Nat, 21 ≤ j → j ≤ 37 → nameAt l j = false) : ∀ m i, 21 ≤ i → i + m ≤ 38 → guessName l m i = guessHead l
  | 0, _, _, _ => rfl
  | m + 1, i, h1, h2 => by
    rw [guessName, h i h1 (by omega)]
    exact guessName_none h m (i + 1) (by omega) (by omega)
theorem nameAt_no58 {l : List UInt8} (h : ∀ c ∈ l, c ≠ 58) (j : Nat) : nameAt l j = false := by
  cases hn : nameAt l j
  · rfl
  · exfalso
    unfold nameAt at hn
    simp only [Bool.and_eq_true, beq_iff_eq, decide_eq_true_eq] at hn
    exact h 58 (List.mem_of_getElem? hn.2) rfl
theorem nameAt_head {c : UInt8} {l : List UInt8} (hc : c = 43 ∨ c = 45 ∨ c = 47) (j : Nat) (h1 : 21 ≤ j) (h2 : j ≤ 37) : nameAt (c :: l) j = false := by
  cases hn : nameAt (c :: l) j
  · rfl
  · exfalso
    unfold nameAt at hn
    simp only [Bool.and_eq_true, beq_iff_eq, decide_eq_true_eq] at hn
    have hj := name_at h1 h2
    have hh := congrArg List.head? hn.1.2
    rw [List.head?_take, if_neg (by omega)] at hh
    simp only [List.head?_cons] at hh
    rcases hc with rfl | rfl | rfl
    · exact hj.2.2.2.1 hh.symm
    · exact hj.2.2.2.2.1 hh.symm
    · exact hj.2.2.2.2.2 hh.symm
/-- What is asked for a bit begins with a letter. -/
theorem bit_head {a : Dev} (h : a.isBit = true) : ∃ c r, a.text = c :: r ∧ c ≠ 47 ∧ c ≠ 43 ∧ c ≠ 45 := by
  obtain ⟨k, n, p⟩ := a
  have h0 : devOkB k n p = true ∧ (k ≤ 4 ∨ k = 6 ∨ k = 7 ∨ k = 8) := by
    simp [Dev.isBit, devIsBitB] at h
    refine ⟨h.1, ?_⟩
    omega
  have hk : 1 ≤ k ∧ k ≤ 8 := by
    have := h0.1
    unfold devOkB at this
    rw [if_neg (by omega), if_neg (by omega), if_neg (by omega)] at this
    have := of_decide_eq_true this
    have h1 := this.1
    have h2 := this.2.1
    unfold devSize at h2
    split at h2
    · omega
    · split at h2
      · omega
      · split at h2
        · omega
        · split at h2
          · omega
          · omega
  refine ⟨letters.getD (k.toNat - 1) 0, itoa n, ?_, ?_⟩
  · unfold Dev.text devText
    simp only
    rw [if_pos h0.1, if_neg (by omega), if_neg (by omega), if_neg (by omega)]
  · have hk' : k = 1 ∨ k = 2 ∨ k = 3 ∨ k = 4 ∨ k = 5 ∨ k = 6 ∨ k = 7 ∨ k = 8 := by omega
    rcases hk' with rfl | rfl | rfl | rfl | rfl | rfl | rfl | rfl <;> decide
theorem bit_ok {a : Dev} (h : a.isBit = true) : a.ok = true := by
  simp [Dev.isBit, devIsBitB] at h
  exact h.1
theorem eguess_open {a : Dev} (h : a.isBit = true) : eguess a.text = ⟨1, [a]⟩ := by
  have hok := bit_ok h
  have hm := text_mem hok
  obtain ⟨c, r, he, h1, h2, h3⟩ := bit_head h
  unfold eguess
  rw [scan_none _ (fun c hc => inDev_sign (hm c hc)), guessName_none (fun j _ _ => nameAt_no58 (fun c hc => ne_of_inDev (hm c hc) rfl) j) 17 21 (by omega) (by omega)]
  unfold guessHead headIs
  rw [he, List.head?_cons, ← he, args_one 32 rfl hok]
  simp [h1, h2, h3]
theorem eguess_shut {a : Dev} (h : a.isBit = true) : eguess (47 :: a.text) = ⟨2, [a]⟩ := by
  have hok := bit_ok h
  have hm := text_mem hok
  have hs : ∀ c ∈ (47 :: a.text : List UInt8), isSign c = false := by
    intro c hc
    rcases List.mem_cons.1 hc with rfl | hc
    · rfl
    · exact inDev_sign (hm c hc)
  unfold eguess
  rw [scan_none _ hs, guessName_none (fun j h1 h2 => nameAt_head (Or.inr (Or.inr rfl)) j h1 h2) 17 21 (by omega) (by omega)]
  unfold guessHead headIs
  rw [List.head?_cons, List.drop_one, List.tail_cons, args_one 32 rfl hok]
  rfl
theorem pair_sign {c : UInt8} {a b : Dev} (hc : isSign c = false) (ha : a.ok = true) (hb : b.ok = true) : ∀ x ∈ (c :: a.text ++ 58 :: b.text : List UInt8), isSign x = false := by
  intro x hx
  rcases List.mem_append.1 hx with hx | hx
  · rcases List.mem_cons.1 hx with rfl | hx
    · exact hc
    · exact inDev_sign (text_mem ha x hx)
  · rcases List.mem_cons.1 hx with rfl | hx
    · rfl
    · exact inDev_sign (text_mem hb x hx)
theorem eguess_up {a b : Dev} (ha : a.ok = true) (hb : b.ok = true) : eguess (43 :: a.text ++ 58 :: b.text) = ⟨3, [a, b]⟩ := by
  unfold eguess
  rw [scan_none _ (pair_sign rfl ha hb)]
  rw [List.cons_append, guessName_none (fun j h1 h2 => nameAt_head (Or.inl rfl) j h1 h2) 17 21 (by omega) (by omega)]
  unfold guessHead headIs
  rw [List.head?_cons, List.drop_one, List.tail_cons, args_two 58 rfl ha hb]
  rfl
theorem eguess_down {a b : Dev} (ha : a.ok = true) (hb : b.ok = true) : eguess (45 :: a.text ++ 58 :: b.text) = ⟨4, [a, b]⟩ := by
  unfold eguess
  rw [scan_none _ (pair_sign rfl ha hb)]
  rw [List.cons_append, guessName_none (fun j h1 h2 => nameAt_head (Or.inr (Or.inl rfl)) j h1 h2) 17 21 (by omega) (by omega)]
  unfold guessHead headIs
  rw [List.head?_cons, List.drop_one, List.tail_cons, args_two 58 rfl ha hb]
  rfl
theorem argsText_mem : ∀ (r : List Dev), (∀ x ∈ r, x.ok = true) → ∀ c ∈ argsText r, isSign c = false
  | [], _, c, hc => by simp [argsText] at hc
  | d :: r, h, c, hc => by
    rw [argsText] at hc
    rcases List.mem_append.1 hc with hc | hc
    · rcases List.mem_cons.1 hc with rfl | hc
      · rfl
      · exact inDev_sign (text_mem (h d (by simp)) c hc)
    · exact argsText_mem r (fun x hx => h x (by simp [hx])) c hc
theorem eguess_coil {op : Nat} (h1 : 21 ≤ op) (h2 : op ≤ 37) (d : Dev) (r : List Dev) (hd : d.ok = true) (hr : ∀ x ∈ r, x.ok = true) (hl : r.length ≤ 3) : eguess (elemName op ++ 58 :: d.text ++ argsText r) = ⟨op, d :: r⟩ := by
  have hn := name_at h1 h2
  have hs : ∀ c ∈ elemName op ++ 58 :: d.text ++ argsText r, isSign c = false := by
    intro c hc
    rcases List.mem_append.1 hc with hc | hc
    · rcases List.mem_append.1 hc with hc | hc
      · exact (hn.2.2.1 c hc).2
      · rcases List.mem_cons.1 hc with rfl | hc
        · rfl
        · exact inDev_sign (text_mem hd c hc)
    · exact argsText_mem r hr c hc
  unfold eguess
  rw [scan_none _ hs, List.append_assoc, List.cons_append, guessName_hit h1 h2 _ 17 21 (by omega) h1 (by omega) (by omega), args_coil d r hd hr hl]
end Stil
/- Plain facts on chapter 2: a contact or coil that is written is guessed as it by the specification and by the program. -/
namespace Stil
open Go.Lib
/-- What is a contact has as many operands as its arity says, each ok, and no name. -/
theorem contact_facts {op : Int} {ds : List Dev} (h : isContact op ds = true) : (ds.length : Int) = arity op ∧ (∀ d ∈ ds, d.ok = true) ∧ isCoil op ds = false ∧ elemName op = [] := by
  have hr : 1 ≤ op ∧ op ≤ 10 := by
    unfold isContact at h
    split at h
    · cases h
    · omega
  refine ⟨?_, ?_, ?_, ?_⟩
  · unfold isContact at h
    rw [if_neg (by omega)] at h
    unfold arity
    split at h
    · simp only [Bool.and_eq_true, decide_eq_true_eq] at h
      rw [if_pos (by omega)]; rfl
    · split at h
      · cases h
      · rw [if_neg (by omega), if_neg (by omega), if_pos (by omega)]; rfl
    · cases h
  · unfold isContact at h
    rw [if_neg (by omega)] at h
    split at h
    · intro d hd
      simp at hd
      subst hd
      simp [Dev.isBit, devIsBitB, Dev.ok] at h ⊢
      exact h.2.1
    · intro d hd
      simp at hd
      split at h
      · cases h
      · split at h
        · simp [Dev.isBit, devIsBitB, Dev.ok] at h ⊢
          rcases hd with rfl | rfl
          · exact h.1.1.1
          · exact h.1.2
        · simp [Dev.isWhole, devIsWholeB, Dev.isReal, devIsRealB, Dev.ok] at h ⊢
          rcases hd with rfl | rfl
          · rcases h with h | h
            · exact h.1.1
            · exact h.1.1
          · rcases h with h | h
            · exact h.2.1
            · exact h.2.1
    · cases h
  · unfold isCoil; rw [if_pos (by omega)]
  · unfold elemName; rw [if_neg (by omega)]
theorem kindIs_ok {d : Dev} {a b : Int} (h : d.kindIs a b = true) : d.ok = true := by
  simp [Dev.kindIs, kindB] at h
  exact h.1
theorem isWhole_ok {d : Dev} (h : d.isWhole = true) : d.ok = true := by
  simp [Dev.isWhole, devIsWholeB] at h
  exact h.1
theorem isReal_ok {d : Dev} (h : d.isReal = true) : d.ok = true := by
  simp [Dev.isReal, devIsRealB] at h
  exact h.1
theorem calc_ok {op : Int} {ds : List Dev} (h : calcB op ds = true) : ∀ d ∈ ds, d.ok = true := by
  cases ds with
  | nil => intro d hd; simp at hd
  | cons x r =>
    simp only [calcB, Bool.and_eq_true] at h
    intro d hd
    rcases List.mem_cons.1 hd with rfl | hd
    · exact kindIs_ok h.1.1
    · have h2 := h.1.2
      unfold calcRest at h2
      split at h2
      · exact isWhole_ok (List.all_eq_true.1 h2 d hd)
      · exact isReal_ok (List.all_eq_true.1 h2 d hd)
/-- What is a coil has as many operands as its arity says, each ok, and a name. -/
theorem coil_facts {op : Int} {ds : List Dev} (h : isCoil op ds = true) : (ds.length : Int) = arity op ∧ (∀ d ∈ ds, d.ok = true) ∧ isContact op ds = false ∧ elemName op ≠ [] := by
  have hr : 21 ≤ op ∧ op ≤ 37 ∧ (ds.length : Int) = arity op := by
    unfold isCoil at h
    split at h
    · cases h
    · omega
  refine ⟨hr.2.2, ?_, ?_, ?_⟩
  · unfold isCoil at h
    rw [if_neg (by omega)] at h
    split at h
    · intro d hd
      simp at hd
      subst hd
      split at h
      · exact kindIs_ok h
      · split at h
        · rcases Bool.or_eq_true_iff.1 h with h | h <;> exact kindIs_ok h
        · split at h
          · rcases Bool.or_eq_true_iff.1 h with h | h
            · rcases Bool.or_eq_true_iff.1 h with h | h <;> exact kindIs_ok h
            · exact kindIs_ok h
          · exact kindIs_ok h
    · intro d hd
      simp at hd
      split at h
      · simp only [Bool.and_eq_true] at h
        rcases hd with rfl | rfl
        · exact kindIs_ok h.1
        · exact kindIs_ok h.2
      · split at h
        · simp only [Bool.and_eq_true] at h
          rcases hd with rfl | rfl
          · exact kindIs_ok h.1.1
          · exact kindIs_ok h.1.2
        · split at h
          · simp only [Bool.and_eq_true] at h
            rcases hd with rfl | rfl
            · exact kindIs_ok h.1.1
            · exact kindIs_ok h.1.2
          · split at h
            · simp only [Bool.and_eq_true] at h
              rcases hd with rfl | rfl
              · exact kindIs_ok h.1
              · exact isWhole_ok h.2
            · split at h
              · simp only [Bool.and_eq_true] at h
                rcases hd with rfl | rfl
                · exact kindIs_ok h.1
                · exact isReal_ok h.2
              · exact calc_ok h d (by simpa using hd)
    · exact calc_ok h
  · unfold isContact; rw [if_pos (by omega)]
  · have h2 : op = 21 ∨ op = 22 ∨ op = 23 ∨ op = 24 ∨ op = 25 ∨ op = 26 ∨ op = 27 ∨ op = 28 ∨ op = 29 ∨ op = 30 ∨ op = 31 ∨ op = 32 ∨ op = 33 ∨ op = 34 ∨ op = 35 ∨ op = 36 ∨ op = 37 := by omega
    rcases h2 with rfl | rfl | rfl | rfl | rfl | rfl | rfl | rfl | rfl | rfl | rfl | rfl | rfl | rfl | rfl | rfl | rfl <;> decide

theorem coil_len {op : Int} {ds : List Dev} (h : isCoil op ds = true) : 21 ≤ op ∧ op ≤ 37 ∧ 0 < ds.length ∧ ds.length ≤ 3 := by
  unfold isCoil at h
  split at h
  · cases h
  · rename_i hn
    have ha : (1 : Int) ≤ arity op ∧ arity op ≤ 3 := by
      unfold arity
      split
      · omega
      · split
        · omega
        · rw [if_pos (by omega)]; omega
    omega
def contactText (op : Int) : List Dev → List UInt8
  | [a] => if op = 1 then a.text else 47 :: a.text
  | [a, b] => if op = 3 then 43 :: a.text ++ 58 :: b.text else if op = 4 then 45 :: a.text ++ 58 :: b.text else a.text ++ sign op ++ b.text
  | _ => []
theorem elemText_contact {op : Int} {ds : List Dev} (hco : isCoil op ds = false) (hct : isContact op ds = true) : elemText op ds = contactText op ds := by
  unfold elemText
  rw [hco, hct]
  match ds with
  | [] => rfl
  | [_] => rfl
  | [_, _] => rfl
  | _ :: _ :: _ :: _ => rfl
/-- The texts of contacts and coils, by their forms. -/
theorem text_forms {op : Int} {ds : List Dev} (h : isContact op ds = true ∨ isCoil op ds = true) :
    (∃ (k : Nat) (d : Dev) (r : List Dev), op = k ∧ ds = d :: r ∧ 21 ≤ k ∧ k ≤ 37 ∧ d.ok = true ∧ (∀ x ∈ r, x.ok = true) ∧ r.length ≤ 2 ∧ elemText op ds = elemName k ++ 58 :: d.text ++ argsText r) ∨
    (∃ a : Dev, op = 1 ∧ ds = [a] ∧ a.isBit = true ∧ elemText op ds = a.text) ∨ (∃ a : Dev, op = 2 ∧ ds = [a] ∧ a.isBit = true ∧ elemText op ds = 47 :: a.text) ∨
    (∃ a b : Dev, op = 3 ∧ ds = [a, b] ∧ a.isBit = true ∧ b.ok = true ∧ elemText op ds = 43 :: a.text ++ 58 :: b.text) ∨ (∃ a b : Dev, op = 4 ∧ ds = [a, b] ∧ a.isBit = true ∧ b.ok = true ∧ elemText op ds = 45 :: a.text ++ 58 :: b.text) ∨
    (∃ (k : Nat) (a b : Dev), op = k ∧ ds = [a, b] ∧ 5 ≤ k ∧ k ≤ 10 ∧ a.ok = true ∧ b.ok = true ∧ elemText op ds = a.text ++ sign k ++ b.text) := by
  cases hco : isCoil op ds
  · have hct : isContact op ds = true := by rcases h with h | h; exact h; rw [hco] at h; cases h
    right
    have hf := contact_facts hct
    have ht := elemText_contact hco hct
    have h2 := hct
    unfold isContact at h2
    split at h2
    · cases h2
    · rename_i hn
      split at h2
      · rename_i a
        simp only [Bool.and_eq_true, decide_eq_true_eq] at h2
        have hop : op = 1 ∨ op = 2 := by omega
        rcases hop with rfl | rfl
        · left; exact ⟨a, rfl, rfl, h2.2, by rw [ht]; rfl⟩
        · right; left; exact ⟨a, rfl, rfl, h2.2, by rw [ht]; rfl⟩
      · rename_i a b
        split at h2
        · cases h2
        · split at h2
          · simp only [Bool.and_eq_true, beq_iff_eq] at h2
            have hop : op = 3 ∨ op = 4 := by omega
            rcases hop with rfl | rfl
            · right; right; left; exact ⟨a, b, rfl, rfl, h2.1.1, h2.1.2, by rw [ht]; rfl⟩
            · right; right; right; left; exact ⟨a, b, rfl, rfl, h2.1.1, h2.1.2, by rw [ht]; rfl⟩
          · right; right; right; right
            obtain ⟨k, rfl⟩ := Int.eq_ofNat_of_zero_le (show 0 ≤ op by omega)
            refine ⟨k, a, b, rfl, rfl, by omega, by omega, hf.2.1 a (by simp), hf.2.1 b (by simp), ?_⟩
            rw [ht, contactText, if_neg (by omega), if_neg (by omega)]
      · cases h2
  · left
    have hf := coil_facts hco
    have hl := coil_len hco
    obtain ⟨k, rfl⟩ := Int.eq_ofNat_of_zero_le (show 0 ≤ op by omega)
    cases ds with
    | nil => simp at hl
    | cons d r =>
      refine ⟨k, d, r, rfl, rfl, by omega, by omega, hf.2.1 d (by simp), fun x hx => hf.2.1 x (by simp [hx]), ?_, ?_⟩
      · have := hl.2.2.2; simp at this; omega
      · unfold elemText; rw [hco]; rfl
/-- What is written of a contact or coil the specification guesses as it. -/
theorem eguess_text {op : Int} {ds : List Dev} (h : isContact op ds = true ∨ isCoil op ds = true) : eguess (elemText op ds) = ⟨op, ds⟩ := by
  rcases text_forms h with ⟨k, d, r, rfl, rfl, h1, h2, hd, hr, hl, e⟩ | ⟨a, rfl, rfl, ha, e⟩ | ⟨a, rfl, rfl, ha, e⟩ | ⟨a, b, rfl, rfl, ha, hb, e⟩ | ⟨a, b, rfl, rfl, ha, hb, e⟩ | ⟨k, a, b, rfl, rfl, h1, h2, ha, hb, e⟩
  · rw [e, eguess_coil h1 h2 d r hd hr (by omega)]
  · rw [e, eguess_open ha]
  · rw [e, eguess_shut ha]
  · rw [e, eguess_up (bit_ok ha) hb]
  · rw [e, eguess_down (bit_ok ha) hb]
  · rw [e, eguess_cmp k a b h1 h2 ha hb]
end Stil
/- Plain models of chapter 2: how the program reads a contact or coil; it reads as the specification. -/
namespace Stil
open Go.Lib
/-- The sign or name of an Op in the program's table. -/
def wordOf (k : Nat) : List UInt8 := if 21 ≤ k ∧ k ≤ 37 then elemName k else if 5 ≤ k ∧ k ≤ 10 then sign k else if k = 2 then [47] else if k = 3 then [43] else if k = 4 then [45] else []
/-- The first Op of a sort with a word, from k on; 0 without one. -/
def findOp (p : Nat → Bool) (w : List UInt8) : Nat → Nat → Nat
  | 0, _ => 0
  | m + 1, k => if p k && wordOf k == w then k else findOp p w m (k + 1)
def coilOp (k : Nat) : Bool := decide (21 ≤ k ∧ k ≤ 37)
def contactOp (k : Nat) : Bool := decide (1 ≤ k ∧ k ≤ 10)
def findCoil (w : List UInt8) : Nat := findOp coilOp w 38 0
def findContact (w : List UInt8) : Nat := findOp contactOp w 38 0
def ireadAll : List (List UInt8) → Option (List Dev)
  | [] => some []
  | t :: r => (idevRead t).bind fun d => (ireadAll r).map (d :: ·)
def iof (op : Nat) (ts : List (List UInt8)) : Option Elem := (ireadAll ts).map fun ds => ⟨op, ds⟩
/-- A text, split at a byte at most so many times. -/
def splitK (c : UInt8) : Nat → List UInt8 → List (List UInt8)
  | 0, l => [l]
  | k + 1, l => if c ∈ l then l.takeWhile (· != c) :: splitK c k ((l.dropWhile (· != c)).drop 1) else [l]
def split4 (c : UInt8) (l : List UInt8) : List (List UInt8) := splitK c (min 4 (l.length + 1) - 1) l
def fromOf (l : List UInt8) : Nat := l.findIdx isSign
def pastOf (l : List UInt8) : Nat := l.length - l.reverse.findIdx isSign
def ihead (l : List UInt8) : Option Elem :=
  if headIs l 47 then iof 2 [l.drop 1] else if headIs l 43 then iof 3 (split4 58 (l.drop 1)) else if headIs l 45 then iof 4 (split4 58 (l.drop 1)) else iof 1 [l]
def iother (l : List UInt8) : Option Elem :=
  if l.any isSign then iof (findContact ((l.take (pastOf l)).drop (fromOf l))) [l.take (fromOf l), l.drop (pastOf l)] else ihead l
def ieguess (l : List UInt8) : Option Elem :=
  if 58 ∈ l ∧ findCoil (l.takeWhile (· != 58)) ≠ 0 then iof (findCoil (l.takeWhile (· != 58))) (split4 44 ((l.dropWhile (· != 58)).drop 1)) else iother l
theorem idevRead_text {d : Dev} (h : d.ok = true) : idevRead d.text = some d := by
  have hi := iguess_text d h
  have h2 : devOkB d.kind d.n d.p = true := h
  unfold idevRead
  rw [hi]
  simp [h2]
theorem ireadAll_texts : ∀ ds : List Dev, (∀ d ∈ ds, d.ok = true) → ireadAll (ds.map Dev.text) = some ds
  | [], _ => rfl
  | d :: r, h => by
    rw [List.map_cons, ireadAll, idevRead_text (h d (by simp)), ireadAll_texts r fun x hx => h x (by simp [hx])]
    rfl
theorem takeW {c : UInt8} : ∀ (a r : List UInt8), (∀ x ∈ a, x ≠ c) → (a ++ c :: r).takeWhile (· != c) = a ∧ (a ++ c :: r).dropWhile (· != c) = c :: r
  | [], r, _ => by simp
  | x :: a, r, h => by
    have hx := h x (by simp)
    obtain ⟨h1, h2⟩ := takeW a r fun y hy => h y (by simp [hy])
    constructor
    · rw [List.cons_append, List.takeWhile_cons_of_pos (by simpa using hx), h1]
    · rw [List.cons_append, List.dropWhile_cons_of_pos (by simpa using hx), h2]
theorem splitK_none (c : UInt8) (k : Nat) (l : List UInt8) (h : ∀ x ∈ l, x ≠ c) : splitK c k l = [l] := by
  cases k with
  | zero => rfl
  | succ k => rw [splitK, if_neg fun hm => h c hm rfl]
theorem splitK_at (c : UInt8) (k : Nat) (a r : List UInt8) (h : ∀ x ∈ a, x ≠ c) : splitK c (k + 1) (a ++ c :: r) = a :: splitK c k r := by
  rw [splitK, if_pos (by simp)]
  obtain ⟨h1, h2⟩ := takeW a r h
  rw [h1, h2]
  rfl
theorem split_args : ∀ (d : Dev) (r : List Dev) (k : Nat), d.ok = true → (∀ x ∈ r, x.ok = true) → r.length ≤ k → splitK 44 k (d.text ++ argsText r) = (d :: r).map Dev.text
  | d, [], k, hd, _, _ => by
    rw [argsText, List.append_nil, splitK_none 44 k d.text fun x hx => ne_of_inDev (text_mem hd x hx) rfl]
    rfl
  | d, e :: r, k, hd, hr, hk => by
    obtain ⟨j, rfl⟩ : ∃ j, k = j + 1 := ⟨k - 1, by simp at hk; omega⟩
    rw [argsText, List.cons_append, splitK_at 44 j d.text _ fun x hx => ne_of_inDev (text_mem hd x hx) rfl, split_args e r j (hr e (by simp)) (fun x hx => hr x (by simp [hx])) (by simp at hk; omega)]
    rfl
theorem argsText_len : ∀ r : List Dev, r.length ≤ (argsText r).length
  | [] => Nat.le_refl _
  | d :: r => by
    have := argsText_len r
    simp [argsText]
    omega
theorem split4_coil (d : Dev) (r : List Dev) (hd : d.ok = true) (hr : ∀ x ∈ r, x.ok = true) (hl : r.length ≤ 3) : split4 44 (d.text ++ argsText r) = (d :: r).map Dev.text := by
  unfold split4
  refine split_args d r _ hd hr ?_
  have := argsText_len r
  simp
  omega
theorem split4_two {a b : Dev} (ha : a.ok = true) (hb : b.ok = true) : split4 58 (a.text ++ 58 :: b.text) = [a.text, b.text] := by
  unfold split4
  obtain ⟨j, hj⟩ : ∃ j, min 4 ((a.text ++ 58 :: b.text).length + 1) - 1 = j + 1 := ⟨min 4 ((a.text ++ 58 :: b.text).length + 1) - 1 - 1, by simp; omega⟩
  rw [hj, splitK_at 58 j a.text _ fun x hx => ne_of_inDev (text_mem ha x hx) rfl, splitK_none 58 j b.text fun x hx => ne_of_inDev (text_mem hb x hx) rfl]
theorem findCoil_name : ∀ j : Fin 17, findCoil (elemName ((j : Nat) + 21)) = j + 21 := by decide
theorem findContact_sign : ∀ j : Fin 6, findContact (sign ((j : Nat) + 5)) = j + 5 := by decide
theorem findCoil_at {k : Nat} (h1 : 21 ≤ k) (h2 : k ≤ 37) : findCoil (elemName k) = k := by
  have h := findCoil_name ⟨k - 21, by omega⟩
  have e : (((k - 21 : Nat) : Int) + 21) = (k : Int) := by omega
  simp only [e] at h
  omega
theorem findContact_at {k : Nat} (h1 : 5 ≤ k) (h2 : k ≤ 10) : findContact (sign k) = k := by
  have h := findContact_sign ⟨k - 5, by omega⟩
  have e : (((k - 5 : Nat) : Int) + 5) = (k : Int) := by omega
  simp only [e] at h
  omega
theorem findOp_mem (p : Nat → Bool) (w : List UInt8) : ∀ m k, findOp p w m k ≠ 0 → ∃ j, p j = true ∧ wordOf j = w ∧ findOp p w m k = j
  | 0, _, h => absurd rfl h
  | m + 1, k, h => by
    rw [findOp] at h ⊢
    by_cases hc : (p k && wordOf k == w) = true
    · rw [if_pos hc]
      simp only [Bool.and_eq_true, beq_iff_eq] at hc
      exact ⟨k, hc.1, hc.2, rfl⟩
    · rw [if_neg hc] at h ⊢
      exact findOp_mem p w m (k + 1) h
/-- A word that begins with a sign of its own is no coil's name. -/
theorem findCoil_head {c : UInt8} {r : List UInt8} (hc : c = 43 ∨ c = 45 ∨ c = 47) : findCoil (c :: r) = 0 := by
  by_cases h : findCoil (c :: r) = 0
  · exact h
  · exfalso
    obtain ⟨j, h1, h2, _⟩ := findOp_mem coilOp (c :: r) 38 0 h
    have hj : 21 ≤ j ∧ j ≤ 37 := of_decide_eq_true h1
    unfold wordOf at h2
    rw [if_pos hj] at h2
    have hn := name_at hj.1 hj.2
    rw [h2] at hn
    rcases hc with rfl | rfl | rfl
    · exact hn.2.2.2.1 rfl
    · exact hn.2.2.2.2.1 rfl
    · exact hn.2.2.2.2.2 rfl
theorem ieguess_coil {op : Nat} (h1 : 21 ≤ op) (h2 : op ≤ 37) (d : Dev) (r : List Dev) (hd : d.ok = true) (hr : ∀ x ∈ r, x.ok = true) (hl : r.length ≤ 3) : ieguess (elemName op ++ 58 :: d.text ++ argsText r) = some ⟨op, d :: r⟩ := by
  have hn := name_at h1 h2
  rw [List.append_assoc, List.cons_append]
  obtain ⟨e1, e2⟩ := takeW (c := 58) (elemName op) (d.text ++ argsText r) fun x hx => (hn.2.2.1 x hx).1
  unfold ieguess
  rw [e1, e2, findCoil_at h1 h2, if_pos ⟨by simp, by omega⟩]
  show iof op (split4 44 (d.text ++ argsText r)) = _
  rw [split4_coil d r hd hr hl]
  unfold iof
  rw [ireadAll_texts (d :: r) fun x hx => by rcases List.mem_cons.1 hx with rfl | hx; exact hd; exact hr x hx]
  rfl
theorem ieguess_no58 {l : List UInt8} (h : ∀ x ∈ l, x ≠ 58) : ieguess l = iother l := by
  unfold ieguess
  rw [if_neg fun hc => h 58 hc.1 rfl]
theorem any_no {l : List UInt8} (h : ∀ x ∈ l, isSign x = false) : l.any isSign = false := by
  rw [List.any_eq_false]
  intro x hx
  simp [h x hx]
theorem ieguess_open {a : Dev} (h : a.isBit = true) : ieguess a.text = some ⟨1, [a]⟩ := by
  have hok := bit_ok h
  have hm := text_mem hok
  obtain ⟨c, r, he, h1, h2, h3⟩ := bit_head h
  rw [ieguess_no58 fun x hx => ne_of_inDev (hm x hx) rfl]
  unfold iother
  rw [any_no fun x hx => inDev_sign (hm x hx)]
  rw [if_neg (by decide)]
  unfold ihead headIs
  have hr := ireadAll_texts [a] (by intro x hx; simp at hx; subst hx; exact hok)
  rw [List.map_cons, List.map_nil] at hr
  rw [show (a.text.head? == some 47) = false from by rw [he]; simpa using h1, show (a.text.head? == some 43) = false from by rw [he]; simpa using h2, show (a.text.head? == some 45) = false from by rw [he]; simpa using h3]
  simp only [Bool.false_eq_true, if_false]
  unfold iof
  rw [hr]
  rfl
theorem ieguess_shut {a : Dev} (h : a.isBit = true) : ieguess (47 :: a.text) = some ⟨2, [a]⟩ := by
  have hok := bit_ok h
  have hm := text_mem hok
  have hs : ∀ c ∈ (47 :: a.text : List UInt8), isSign c = false ∧ c ≠ 58 := by
    intro c hc
    rcases List.mem_cons.1 hc with rfl | hc
    · exact ⟨rfl, by decide⟩
    · exact ⟨inDev_sign (hm c hc), ne_of_inDev (hm c hc) rfl⟩
  rw [ieguess_no58 fun x hx => (hs x hx).2]
  unfold iother
  rw [any_no fun x hx => (hs x hx).1, if_neg (by decide)]
  have hr := ireadAll_texts [a] (by intro x hx; simp at hx; subst hx; exact hok)
  rw [List.map_cons, List.map_nil] at hr
  show iof 2 [a.text] = _
  unfold iof
  rw [hr]
  rfl
theorem ieguess_pair {c : UInt8} {a b : Dev} (op : Nat) (hc : c = 43 ∧ op = 3 ∨ c = 45 ∧ op = 4) (ha : a.ok = true) (hb : b.ok = true) : ieguess (c :: a.text ++ 58 :: b.text) = some ⟨op, [a, b]⟩ := by
  have hs := pair_sign (c := c) (by rcases hc with ⟨rfl, _⟩ | ⟨rfl, _⟩ <;> rfl) ha hb
  obtain ⟨e1, _⟩ := takeW (c := 58) (c :: a.text) b.text (by
    intro x hx
    rcases List.mem_cons.1 hx with rfl | hx
    · rcases hc with ⟨rfl, _⟩ | ⟨rfl, _⟩ <;> decide
    · exact ne_of_inDev (text_mem ha x hx) rfl)
  unfold ieguess
  rw [e1, findCoil_head (by rcases hc with ⟨rfl, _⟩ | ⟨rfl, _⟩; exact Or.inl rfl; exact Or.inr (Or.inl rfl)), if_neg fun h => h.2 rfl]
  unfold iother
  rw [any_no hs, if_neg (by decide)]
  have hr := ireadAll_texts [a, b] (by intro x hx; simp at hx; rcases hx with rfl | rfl; exact ha; exact hb)
  rw [List.map_cons, List.map_cons, List.map_nil] at hr
  rw [List.cons_append]
  rcases hc with ⟨rfl, rfl⟩ | ⟨rfl, rfl⟩
  · show iof 3 (split4 58 (a.text ++ 58 :: b.text)) = _
    rw [split4_two ha hb]
    unfold iof
    rw [hr]
    rfl
  · show iof 4 (split4 58 (a.text ++ 58 :: b.text)) = _
    rw [split4_two ha hb]
    unfold iof
    rw [hr]
    rfl
theorem findIdx_at (a r : List UInt8) (c : UInt8) (ha : ∀ x ∈ a, isSign x = false) (hc : isSign c = true) : (a ++ c :: r).findIdx isSign = a.length := by
  induction a with
  | nil => simp [List.findIdx_cons, hc]
  | cons x a ih =>
    rw [List.cons_append, List.findIdx_cons, ha x (by simp), ih fun y hy => ha y (by simp [hy])]
    simp
theorem ieguess_cmp (op : Nat) (a b : Dev) (h5 : 5 ≤ op) (h10 : op ≤ 10) (ha : a.ok = true) (hb : b.ok = true) : ieguess (a.text ++ sign op ++ b.text) = some ⟨op, [a, b]⟩ := by
  have hr := ireadAll_texts [a, b] (by intro x hx; simp at hx; rcases hx with rfl | rfl; exact ha; exact hb)
  rw [List.map_cons, List.map_cons, List.map_nil] at hr
  have hax : ∀ c ∈ a.text, isSign c = false := fun c hc => inDev_sign (text_mem ha c hc)
  have hbx : ∀ c ∈ b.text, isSign c = false := fun c hc => inDev_sign (text_mem hb c hc)
  have hsg : (∀ c ∈ sign op, isSign c = true) ∧ 0 < (sign op).length := by
    have all : ∀ j : Fin 6, (∀ c ∈ sign ((j : Nat) + 5), isSign c = true) ∧ 0 < (sign ((j : Nat) + 5)).length := by decide
    have h := all ⟨op - 5, by omega⟩
    have e : (((op - 5 : Nat) : Int) + 5) = (op : Int) := by omega
    simp only [e] at h
    exact h
  have h58 : ∀ x ∈ a.text ++ sign op ++ b.text, x ≠ 58 := by
    intro x hx e
    subst e
    rcases List.mem_append.1 hx with hx | hx
    · rcases List.mem_append.1 hx with hx | hx
      · exact absurd (text_mem ha 58 hx) (by decide)
      · exact absurd (hsg.1 58 hx) (by decide)
    · exact absurd (text_mem hb 58 hx) (by decide)
  rw [ieguess_no58 h58]
  have hfrom : fromOf (a.text ++ sign op ++ b.text) = a.text.length := by
    unfold fromOf
    obtain ⟨c, s, hs⟩ : ∃ c s, sign op = c :: s := by
      cases h : sign op with
      | nil => rw [h] at hsg; simp at hsg
      | cons c s => exact ⟨c, s, rfl⟩
    rw [hs, List.append_assoc, List.cons_append]
    exact findIdx_at _ _ c hax (hsg.1 c (by rw [hs]; simp))
  have hpast : pastOf (a.text ++ sign op ++ b.text) = a.text.length + (sign op).length := by
    unfold pastOf
    obtain ⟨s, c, hs⟩ : ∃ s c, sign op = s ++ [c] := ⟨(sign op).dropLast, (sign op).getLast (by intro h; rw [h] at hsg; simp at hsg), (List.dropLast_concat_getLast _).symm⟩
    have e : (a.text ++ sign op ++ b.text).reverse = b.text.reverse ++ c :: (s.reverse ++ a.text.reverse) := by rw [hs]; simp
    rw [e, findIdx_at _ _ c (fun x hx => hbx x (List.mem_reverse.1 hx)) (hsg.1 c (by rw [hs]; simp))]
    simp
    omega
  have hany : (a.text ++ sign op ++ b.text).any isSign = true := by
    rw [List.any_eq_true]
    cases h : sign op with
    | nil => rw [h] at hsg; simp at hsg
    | cons c s => exact ⟨c, by simp, hsg.1 c (by rw [h]; simp)⟩
  unfold iother
  rw [hany, if_pos rfl, hfrom, hpast]
  have e1 : (a.text ++ sign op ++ b.text).take a.text.length = a.text := by rw [List.append_assoc]; exact List.take_left' rfl
  have e2 : (a.text ++ sign op ++ b.text).drop (a.text.length + (sign op).length) = b.text := List.drop_left' (by simp)
  have e3 : ((a.text ++ sign op ++ b.text).take (a.text.length + (sign op).length)).drop a.text.length = sign op := by
    rw [List.take_left' (by simp)]
    exact List.drop_left' rfl
  rw [e1, e2, e3, findContact_at h5 h10]
  unfold iof
  rw [hr]
  rfl
/-- What is written of a contact or coil the program guesses as it. -/
theorem ieguess_text {op : Int} {ds : List Dev} (h : isContact op ds = true ∨ isCoil op ds = true) : ieguess (elemText op ds) = some ⟨op, ds⟩ := by
  rcases text_forms h with ⟨k, d, r, rfl, rfl, h1, h2, hd, hr, hl, e⟩ | ⟨a, rfl, rfl, ha, e⟩ | ⟨a, rfl, rfl, ha, e⟩ | ⟨a, b, rfl, rfl, ha, hb, e⟩ | ⟨a, b, rfl, rfl, ha, hb, e⟩ | ⟨k, a, b, rfl, rfl, h1, h2, ha, hb, e⟩
  · rw [e, ieguess_coil h1 h2 d r hd hr (by omega)]
  · rw [e, ieguess_open ha]
  · rw [e, ieguess_shut ha]
  · rw [e, ieguess_pair 3 (Or.inl ⟨rfl, rfl⟩) (bit_ok ha) hb]; rfl
  · rw [e, ieguess_pair 4 (Or.inr ⟨rfl, rfl⟩) (bit_ok ha) hb]; rfl
  · rw [e, ieguess_cmp k a b h1 h2 ha hb]
end Stil
/- Plain facts on chapter 2: the program reads a contact or coil just where the specification does, and as it. -/
namespace Stil
open Go.Lib
theorem itoa_len (n : Int) (h1 : -999999999 ≤ n) (h2 : n ≤ 999999999) : (itoa n).length ≤ 11 := by
  unfold itoa
  split
  · have := decDigits_short 9 n.natAbs (by omega)
    simp
    omega
  · have := decDigits_short 9 n.toNat (by omega)
    omega
theorem text_len {d : Dev} (h : d.ok = true) : d.text.length ≤ 20 := by
  obtain ⟨k, n, p⟩ := d
  have h0 : devOkB k n p = true := h
  unfold Dev.text devText
  simp only
  rw [if_pos h0]
  unfold devOkB at h0
  split at h0
  · rename_i hk
    rw [if_pos hk]
    have h0 := of_decide_eq_true h0
    have := itoa_len n (by omega) (by omega)
    omega
  · rename_i hk
    rw [if_neg hk]
    split at h0
    · rename_i hk2
      rw [if_pos hk2]
      have h0 := of_decide_eq_true h0
      have one : ∀ u : Nat, u ≤ 999999999 → (decNat u p.toNat).length ≤ 12 := by
        intro u hu
        obtain ⟨a, b, e1, e2, _, _⟩ := decNat_parts u p.toNat (by omega)
        have e3 := congrArg List.length e2
        rw [padTo_len, List.length_append] at e3
        have := decDigits_short 9 u (by omega)
        rw [e1]
        simp
        omega
      unfold decText
      split
      · have := one n.natAbs (by omega)
        simp
        omega
      · have := one n.toNat (by omega)
        omega
    · rename_i hk2
      rw [if_neg hk2]
      split at h0
      · rename_i hk3
        rw [if_pos hk3]
        have h0 := of_decide_eq_true h0
        have hn : n = 0 ∨ n = 1 ∨ n = 2 ∨ n = 3 := by omega
        rcases hn with rfl | rfl | rfl | rfl <;> decide
      · rename_i hk3
        rw [if_neg hk3]
        have h0 := of_decide_eq_true h0
        have hz : devSize k ≤ 64 := by
          unfold devSize
          split
          · omega
          · split
            · omega
            · split
              · omega
              · split <;> omega
        have := itoa_len n (by omega) (by omega)
        simp
        omega
theorem argsText_le : ∀ r : List Dev, (∀ x ∈ r, x.ok = true) → (argsText r).length ≤ r.length * 21
  | [], _ => Nat.le_refl _
  | d :: r, h => by
    have h1 := argsText_le r fun x hx => h x (by simp [hx])
    have h2 := text_len (h d (by simp))
    simp [argsText]
    omega
theorem elemText_len {op : Int} {ds : List Dev} (h : isContact op ds = true ∨ isCoil op ds = true) : (elemText op ds).length ≤ 100 ∧ elemText op ds ≠ [] := by
  rcases text_forms h with ⟨k, d, r, rfl, rfl, h1, h2, hd, hr, hl, e⟩ | ⟨a, rfl, rfl, ha, e⟩ | ⟨a, rfl, rfl, ha, e⟩ | ⟨a, b, rfl, rfl, ha, hb, e⟩ | ⟨a, b, rfl, rfl, ha, hb, e⟩ | ⟨k, a, b, rfl, rfl, h1, h2, ha, hb, e⟩
  · have q1 := (name_at h1 h2).2.1
    have q2 := text_len hd
    have q3 := argsText_le r hr
    rw [e]
    exact ⟨by simp; omega, by simp⟩
  · have q1 := text_len (bit_ok ha)
    rw [e]
    exact ⟨by omega, text_ne (bit_ok ha)⟩
  · have q1 := text_len (bit_ok ha)
    rw [e]
    exact ⟨by simp; omega, by simp⟩
  · have q1 := text_len (bit_ok ha)
    have q2 := text_len hb
    rw [e]
    exact ⟨by simp; omega, by simp⟩
  · have q1 := text_len (bit_ok ha)
    have q2 := text_len hb
    rw [e]
    exact ⟨by simp; omega, by simp⟩
  · have q1 := text_len ha
    have q2 := text_len hb
    have q3 : (sign k).length ≤ 2 := by
      have all : ∀ j : Fin 6, (sign ((j : Nat) + 5)).length ≤ 2 := by decide
      have h := all ⟨k - 5, by omega⟩
      have e : (((k - 5 : Nat) : Int) + 5) = (k : Int) := by omega
      simp only [e] at h
      exact h
    rw [e]
    refine ⟨by simp; omega, ?_⟩
    intro h0
    exact text_ne ha (by
      cases ht : a.text with
      | nil => rfl
      | cons x r => rw [ht] at h0; simp at h0)
theorem elemText_ok {op : Int} {ds : List Dev} (h : elemText op ds ≠ []) : isContact op ds = true ∨ isCoil op ds = true := by
  cases hco : isCoil op ds
  · cases hct : isContact op ds
    · exfalso
      apply h
      unfold elemText
      rw [hco, hct]
      rfl
    · exact Or.inl rfl
  · exact Or.inr rfl
/-- What the program reads of a text, or nothing. -/
def ielemRead (l : List UInt8) : Option Elem := (ieguess l).bind fun e => if elemText e.op e.args = l then some e else none
/-- The program's answers are the specification's, but of the empty text. -/
theorem ielemRead_eq (l : List UInt8) (hne : l ≠ []) : ielemRead l = if elemReadB l then some (elemRead l) else none := by
  unfold ielemRead
  cases hb : elemReadB l
  · rw [if_neg (by decide)]
    cases hi : ieguess l with
    | none => rfl
    | some e =>
      simp only [Option.bind_some]
      rw [if_neg]
      intro h
      have hok := elemText_ok (by rw [h]; exact hne)
      have hg := eguess_text hok
      have hl := (elemText_len hok).1
      rw [h] at hg hl
      unfold elemReadB at hb
      rw [hg] at hb
      cases l with
      | nil => exact hne rfl
      | cons x r =>
        simp only [List.isEmpty_cons, Bool.not_false, Bool.true_and, Elem.text] at hb
        rw [h] at hb
        simp at hb
        simp at hl
        omega
  · rw [if_pos rfl]
    have h := hb
    unfold elemReadB at h
    simp only [Bool.and_eq_true, beq_iff_eq, decide_eq_true_eq] at h
    have ht : elemText (eguess l).op (eguess l).args = l := h.2
    have hok := elemText_ok (by rw [ht]; exact hne)
    have hi := ieguess_text hok
    rw [ht] at hi
    rw [hi]
    simp only [Option.bind_some]
    rw [if_pos ht]
    have hr : elemRead l = eguess l := by unfold elemRead; rw [hb]; rfl
    rw [hr]
/-- Of the empty text the program reads nothing. -/
theorem ieguess_nil : ieguess [] = none := by
  have h : idevRead [] = none := by rw [idevRead_eq]; rfl
  have e : ieguess [] = iof 1 [[]] := by
    unfold ieguess
    rw [if_neg (by simp)]
    rfl
  rw [e]
  unfold iof
  rw [ireadAll, h]
  rfl
end Stil
/- Plain models of chapter 3: ladders. -/
namespace Stil
structure Net where
  kind : Int
  one : Elem
  kids : List Net
structure Arm where
  net : Net
  coils : List Elem
  kids : List Arm
theorem net_ind (P : Net → Prop) (h : ∀ k o kids, (∀ x ∈ kids, P x) → P ⟨k, o, kids⟩) : ∀ n, P n
  | ⟨k, o, kids⟩ => h k o kids (fun x _ => net_ind P h x)
theorem arm_ind (P : Arm → Prop) (h : ∀ n c kids, (∀ x ∈ kids, P x) → P ⟨n, c, kids⟩) : ∀ n, P n
  | ⟨k, o, kids⟩ => h k o kids (fun x _ => arm_ind P h x)
def netSize : Net → Nat
  | ⟨_, _, kids⟩ => 1 + (kids.map netSize).sum
theorem netSize_eq (k : Int) (o : Elem) (kids : List Net) : netSize ⟨k, o, kids⟩ = 1 + (kids.map netSize).sum := by rw [netSize]
def netNone (n : Net) : Bool := n.kind == 0 && n.one.op == 0 && n.one.args.length == 0 && n.kids.length == 0
def armSize : Arm → Nat
  | ⟨n, coils, kids⟩ => 1 + coils.length + (if netNone n then 0 else netSize n) + (kids.map armSize).sum
theorem armSize_eq (n : Net) (coils : List Elem) (kids : List Arm) : armSize ⟨n, coils, kids⟩ = 1 + coils.length + (if netNone n then 0 else netSize n) + (kids.map armSize).sum := by rw [armSize]
def treeSize (l : List Arm) : Nat := (l.map armSize).sum
def i64 (n : Int) : Prop := -9223372036854775808 ≤ n ∧ n ≤ 9223372036854775807
def Elem.fits (e : Elem) : Prop := i64 e.op ∧ e.args.length ≤ 1048576 ∧ ∀ d ∈ e.args, d.fits
theorem all_map {α : Type} (f : α → Prop) (l : List α) : (∀ p ∈ l.map f, p) ↔ ∀ x ∈ l, f x := by
  constructor
  · intro h x hx; exact h _ (List.mem_map.2 ⟨x, hx, rfl⟩)
  · intro h p hp; obtain ⟨x, hx, rfl⟩ := List.mem_map.1 hp; exact h x hx
def netFits : Net → Prop
  | ⟨k, e, kids⟩ => i64 k ∧ e.fits ∧ kids.length ≤ 1048576 ∧ ∀ p ∈ kids.map netFits, p
theorem netFits_eq (k : Int) (e : Elem) (kids : List Net) : netFits ⟨k, e, kids⟩ ↔ i64 k ∧ e.fits ∧ kids.length ≤ 1048576 ∧ ∀ x ∈ kids, netFits x := by rw [netFits, all_map]
def armFits : Arm → Prop
  | ⟨n, coils, kids⟩ => netFits n ∧ coils.length ≤ 1048576 ∧ (∀ c ∈ coils, c.fits) ∧ kids.length ≤ 1048576 ∧ ∀ p ∈ kids.map armFits, p
theorem armFits_eq (n : Net) (coils : List Elem) (kids : List Arm) : armFits ⟨n, coils, kids⟩ ↔ netFits n ∧ coils.length ≤ 1048576 ∧ (∀ c ∈ coils, c.fits) ∧ kids.length ≤ 1048576 ∧ ∀ x ∈ kids, armFits x := by rw [armFits, all_map]
theorem netFits_parts {n : Net} (h : netFits n) : i64 n.kind ∧ n.one.fits ∧ n.kids.length ≤ 1048576 ∧ ∀ x ∈ n.kids, netFits x := by obtain ⟨_, _, _⟩ := n; exact (netFits_eq _ _ _).1 h
theorem armFits_parts {n : Arm} (h : armFits n) : netFits n.net ∧ n.coils.length ≤ 1048576 ∧ (∀ c ∈ n.coils, c.fits) ∧ n.kids.length ≤ 1048576 ∧ ∀ x ∈ n.kids, armFits x := by obtain ⟨_, _, _⟩ := n; exact (armFits_eq _ _ _).1 h
end Stil
/- Plain models of chapter 3: what a ladder weighs, and what numbers a machine can hold. -/
namespace Stil
def netSz : Net → Nat
  | ⟨_, e, kids⟩ => e.args.length + (kids.length + (kids.map netSz).sum)
theorem netSz_eq (k : Int) (e : Elem) (kids : List Net) : netSz ⟨k, e, kids⟩ = e.args.length + (kids.length + (kids.map netSz).sum) := by rw [netSz]
def netsSz (l : List Net) : Nat := l.length + (l.map netSz).sum
def elemSz (e : Elem) : Nat := e.args.length
def elemsSz (l : List Elem) : Nat := l.length + (l.map elemSz).sum
def armSz : Arm → Nat
  | ⟨n, coils, kids⟩ => netSz n + (elemsSz coils + (kids.length + (kids.map armSz).sum))
theorem armSz_eq (n : Net) (coils : List Elem) (kids : List Arm) : armSz ⟨n, coils, kids⟩ = netSz n + (elemsSz coils + (kids.length + (kids.map armSz).sum)) := by rw [armSz]
def armsSz (l : List Arm) : Nat := l.length + (l.map armSz).sum
theorem netSz_parts (n : Net) : netSz n = elemSz n.one + netsSz n.kids := by obtain ⟨k, e, kids⟩ := n; rw [netSz_eq]; rfl
theorem armSz_parts (n : Arm) : armSz n = netSz n.net + (elemsSz n.coils + armsSz n.kids) := by obtain ⟨k, e, kids⟩ := n; rw [armSz_eq]; rfl
theorem mem_le_sum {α : Type} (f : α → Nat) : ∀ (l : List α) (x : α), x ∈ l → f x ≤ (l.map f).sum
  | y :: r, x, h => by
    rw [List.map_cons, List.sum_cons]
    rcases List.mem_cons.1 h with rfl | h
    · omega
    · have := mem_le_sum f r x h; omega
def Elem.wf (e : Elem) : Prop := i64 e.op ∧ e.args.length ≤ 9223372036854775807 ∧ ∀ d ∈ e.args, d.fits
def netWf : Net → Prop
  | ⟨k, e, kids⟩ => i64 k ∧ e.wf ∧ kids.length ≤ 9223372036854775807 ∧ ∀ p ∈ kids.map netWf, p
theorem netWf_eq (k : Int) (e : Elem) (kids : List Net) : netWf ⟨k, e, kids⟩ ↔ i64 k ∧ e.wf ∧ kids.length ≤ 9223372036854775807 ∧ ∀ x ∈ kids, netWf x := by rw [netWf, all_map]
def armWf : Arm → Prop
  | ⟨n, coils, kids⟩ => netWf n ∧ coils.length ≤ 9223372036854775807 ∧ (∀ c ∈ coils, c.wf) ∧ kids.length ≤ 9223372036854775807 ∧ ∀ p ∈ kids.map armWf, p
theorem armWf_eq (n : Net) (coils : List Elem) (kids : List Arm) : armWf ⟨n, coils, kids⟩ ↔ netWf n ∧ coils.length ≤ 9223372036854775807 ∧ (∀ c ∈ coils, c.wf) ∧ kids.length ≤ 9223372036854775807 ∧ ∀ x ∈ kids, armWf x := by rw [armWf, all_map]
theorem netWf_parts {n : Net} (h : netWf n) : i64 n.kind ∧ n.one.wf ∧ n.kids.length ≤ 9223372036854775807 ∧ ∀ x ∈ n.kids, netWf x := by obtain ⟨_, _, _⟩ := n; exact (netWf_eq _ _ _).1 h
theorem armWf_parts {n : Arm} (h : armWf n) : netWf n.net ∧ n.coils.length ≤ 9223372036854775807 ∧ (∀ c ∈ n.coils, c.wf) ∧ n.kids.length ≤ 9223372036854775807 ∧ ∀ x ∈ n.kids, armWf x := by obtain ⟨_, _, _⟩ := n; exact (armWf_eq _ _ _).1 h
theorem elemFits_of {e : Elem} (h : e.wf) (hs : elemSz e ≤ 1048576) : e.fits := ⟨h.1, hs, h.2.2⟩
theorem netFits_of (n : Net) : netWf n → netSz n ≤ 1048576 → netFits n := by
  induction n using net_ind with
  | h k e kids ih =>
    intro h hs
    obtain ⟨h1, h2, h3, h4⟩ := (netWf_eq _ _ _).1 h
    rw [netSz_eq] at hs
    refine (netFits_eq _ _ _).2 ⟨h1, elemFits_of h2 (by unfold elemSz; omega), by omega, fun x hx => ih x hx (h4 x hx) ?_⟩
    have := mem_le_sum netSz kids x hx
    omega
theorem armFits_of (n : Arm) : armWf n → armSz n ≤ 1048576 → armFits n := by
  induction n using arm_ind with
  | h n coils kids ih =>
    intro h hs
    obtain ⟨h1, h2, h3, h4, h5⟩ := (armWf_eq _ _ _).1 h
    rw [armSz_eq] at hs
    have he : elemsSz coils = coils.length + (coils.map elemSz).sum := rfl
    refine (armFits_eq _ _ _).2 ⟨netFits_of n h1 (by omega), by omega, fun c hc => elemFits_of (h3 c hc) ?_, by omega, fun x hx => ih x hx (h5 x hx) ?_⟩
    · have := mem_le_sum elemSz coils c hc
      omega
    · have := mem_le_sum armSz kids x hx
      omega
theorem netSize_le (n : Net) : netSize n ≤ 1 + netSz n := by
  induction n using net_ind with
  | h k e kids ih =>
    rw [netSize_eq, netSz_eq]
    have : ∀ l : List Net, (∀ x ∈ l, netSize x ≤ 1 + netSz x) → (l.map netSize).sum ≤ l.length + (l.map netSz).sum := by
      intro l
      induction l with
      | nil => intro _; simp
      | cons y r ih2 =>
        intro h
        have h1 := h y (by simp)
        have h2 := ih2 (fun x hx => h x (by simp [hx]))
        simp only [List.map_cons, List.sum_cons, List.length_cons]
        omega
    have := this kids ih
    omega
theorem armSize_le (n : Arm) : armSize n ≤ 2 + 2 * armSz n := by
  induction n using arm_ind with
  | h n coils kids ih =>
    rw [armSize_eq, armSz_eq]
    have : ∀ l : List Arm, (∀ x ∈ l, armSize x ≤ 2 + 2 * armSz x) → (l.map armSize).sum ≤ 2 * l.length + 2 * (l.map armSz).sum := by
      intro l
      induction l with
      | nil => intro _; simp
      | cons y r ih2 =>
        intro h
        have h1 := h y (by simp)
        have h2 := ih2 (fun x hx => h x (by simp [hx]))
        simp only [List.map_cons, List.sum_cons, List.length_cons]
        omega
    have h1 := this kids ih
    have h2 := netSize_le n
    have he : elemsSz coils = coils.length + (coils.map elemSz).sum := rfl
    split <;> omega
end Stil
/- Plain models of chapter 3: nets and arms in the order in which they are walked. -/
namespace Stil
def netPre : Net → List Net
  | ⟨k, e, kids⟩ => ⟨k, e, kids⟩ :: (kids.map netPre).flatten
theorem netPre_eq (n : Net) : netPre n = n :: (n.kids.map netPre).flatten := by obtain ⟨k, e, kids⟩ := n; rw [netPre]
def netsPre (l : List Net) : List Net := (l.map netPre).flatten
def armPre : Arm → List Arm
  | ⟨n, c, kids⟩ => ⟨n, c, kids⟩ :: (kids.map armPre).flatten
theorem armPre_eq (n : Arm) : armPre n = n :: (n.kids.map armPre).flatten := by obtain ⟨k, e, kids⟩ := n; rw [armPre]
def armsPre (l : List Arm) : List Arm := (l.map armPre).flatten
def armOwn (a : Arm) : Nat := 1 + a.coils.length + (if netNone a.net then 0 else netSize a.net)
theorem flatten_len {α β : Type} (f : α → List β) : ∀ l : List α, ((l.map f).flatten).length = (l.map (fun x => (f x).length)).sum
  | [] => rfl
  | x :: r => by simp [flatten_len f r]
theorem map_congr' {α β : Type} {f g : α → β} {l : List α} (h : ∀ x ∈ l, f x = g x) : l.map f = l.map g := List.map_congr_left h
theorem netPre_len (n : Net) : (netPre n).length = netSize n := by
  induction n using net_ind with
  | h k e kids ih =>
    rw [netPre_eq, netSize_eq, List.length_cons, flatten_len, map_congr' ih]
    omega
theorem flatten_sum {α β : Type} (f : α → List β) (g : β → Nat) : ∀ l : List α, (((l.map f).flatten).map g).sum = (l.map (fun x => ((f x).map g).sum)).sum
  | [] => rfl
  | x :: r => by rw [List.map_cons, List.flatten_cons, List.map_append, List.sum_append, flatten_sum f g r, List.map_cons, List.sum_cons]
theorem armPre_sum (n : Arm) : ((armPre n).map armOwn).sum = armSize n := by
  induction n using arm_ind with
  | h n c kids ih =>
    rw [armPre_eq, armSize_eq, List.map_cons, List.sum_cons, flatten_sum, map_congr' ih]
    simp only [armOwn]
theorem armsPre_sum (l : List Arm) : ((armsPre l).map armOwn).sum = treeSize l := by
  unfold armsPre treeSize
  rw [flatten_sum, map_congr' (fun x _ => armPre_sum x)]
theorem netsPre_one (n : Net) : netsPre [n] = netPre n := by simp [netsPre]
theorem netsPre_take (l : List Net) (j : Nat) (h : j < l.length) : netsPre (l.take (j + 1)) = netsPre (l.take j) ++ (l[j] :: netsPre l[j].kids) := by
  unfold netsPre
  rw [List.take_succ_eq_append_getElem h, List.map_append, List.flatten_append]
  simp only [List.map_cons, List.map_nil, List.flatten_cons, List.flatten_nil, List.append_nil]
  rw [netPre_eq l[j]]
theorem armsPre_take (l : List Arm) (j : Nat) (h : j < l.length) : armsPre (l.take (j + 1)) = armsPre (l.take j) ++ (l[j] :: armsPre l[j].kids) := by
  unfold armsPre
  rw [List.take_succ_eq_append_getElem h, List.map_append, List.flatten_append]
  simp only [List.map_cons, List.map_nil, List.flatten_cons, List.flatten_nil, List.append_nil]
  rw [armPre_eq l[j]]
theorem netsPre_pre (l : List Net) (j : Nat) : netsPre (l.take j) <+: netsPre l := by
  have h : netsPre l = netsPre (l.take j) ++ netsPre (l.drop j) := by
    unfold netsPre
    rw [← List.flatten_append, ← List.map_append, List.take_append_drop]
  rw [h]
  exact List.prefix_append _ _
theorem armsPre_pre (l : List Arm) (j : Nat) : armsPre (l.take j) <+: armsPre l := by
  have h : armsPre l = armsPre (l.take j) ++ armsPre (l.drop j) := by
    unfold armsPre
    rw [← List.flatten_append, ← List.map_append, List.take_append_drop]
  rw [h]
  exact List.prefix_append _ _
theorem prefix_sum {α : Type} (g : α → Nat) {a b : List α} (h : a <+: b) : (a.map g).sum ≤ (b.map g).sum := by
  obtain ⟨c, rfl⟩ := h
  rw [List.map_append, List.sum_append]
  omega
theorem netPre_kids (n : Net) : ∀ x ∈ netPre n, ∀ y ∈ x.kids, y ∈ netPre n := by
  induction n using net_ind with
  | h k e kids ih =>
    intro x hx y hy
    rw [netPre_eq] at hx ⊢
    rcases List.mem_cons.1 hx with rfl | hx
    · exact List.mem_cons.2 (.inr (List.mem_flatten.2 ⟨_, List.mem_map.2 ⟨y, hy, rfl⟩, by rw [netPre_eq]; exact List.mem_cons.2 (.inl rfl)⟩))
    · obtain ⟨l, hl, hxl⟩ := List.mem_flatten.1 hx
      obtain ⟨z, hz, rfl⟩ := List.mem_map.1 hl
      exact List.mem_cons.2 (.inr (List.mem_flatten.2 ⟨_, hl, ih z hz x hxl y hy⟩))
theorem netsPre_kids (l : List Net) : ∀ x ∈ netsPre l, ∀ y ∈ x.kids, y ∈ netsPre l := by
  intro x hx y hy
  obtain ⟨m, hm, hxm⟩ := List.mem_flatten.1 hx
  obtain ⟨z, hz, rfl⟩ := List.mem_map.1 hm
  exact List.mem_flatten.2 ⟨_, hm, netPre_kids z x hxm y hy⟩
theorem netsPre_mem (l : List Net) : ∀ x ∈ l, x ∈ netsPre l := by
  intro x hx
  exact List.mem_flatten.2 ⟨_, List.mem_map.2 ⟨x, hx, rfl⟩, by rw [netPre_eq]; exact List.mem_cons.2 (.inl rfl)⟩
theorem netPre_fits (n : Net) : netFits n → ∀ x ∈ netPre n, netFits x := by
  induction n using net_ind with
  | h k e kids ih =>
    intro hf x hx
    rw [netPre_eq] at hx
    rcases List.mem_cons.1 hx with rfl | hx
    · exact hf
    · obtain ⟨l, hl, hxl⟩ := List.mem_flatten.1 hx
      obtain ⟨z, hz, rfl⟩ := List.mem_map.1 hl
      exact ih z hz (((netFits_parts hf).2.2.2) z hz) x hxl
theorem netsPre_fits (l : List Net) (hf : ∀ x ∈ l, netFits x) : ∀ x ∈ netsPre l, netFits x := by
  intro x hx
  obtain ⟨m, hm, hxm⟩ := List.mem_flatten.1 hx
  obtain ⟨z, hz, rfl⟩ := List.mem_map.1 hm
  exact netPre_fits z (hf z hz) x hxm
theorem armPre_kids (n : Arm) : ∀ x ∈ armPre n, ∀ y ∈ x.kids, y ∈ armPre n := by
  induction n using arm_ind with
  | h n c kids ih =>
    intro x hx y hy
    rw [armPre_eq] at hx ⊢
    rcases List.mem_cons.1 hx with rfl | hx
    · exact List.mem_cons.2 (.inr (List.mem_flatten.2 ⟨_, List.mem_map.2 ⟨y, hy, rfl⟩, by rw [armPre_eq]; exact List.mem_cons.2 (.inl rfl)⟩))
    · obtain ⟨l, hl, hxl⟩ := List.mem_flatten.1 hx
      obtain ⟨z, hz, rfl⟩ := List.mem_map.1 hl
      exact List.mem_cons.2 (.inr (List.mem_flatten.2 ⟨_, hl, ih z hz x hxl y hy⟩))
theorem armsPre_kids (l : List Arm) : ∀ x ∈ armsPre l, ∀ y ∈ x.kids, y ∈ armsPre l := by
  intro x hx y hy
  obtain ⟨m, hm, hxm⟩ := List.mem_flatten.1 hx
  obtain ⟨z, hz, rfl⟩ := List.mem_map.1 hm
  exact List.mem_flatten.2 ⟨_, hm, armPre_kids z x hxm y hy⟩
theorem armsPre_mem (l : List Arm) : ∀ x ∈ l, x ∈ armsPre l := by
  intro x hx
  exact List.mem_flatten.2 ⟨_, List.mem_map.2 ⟨x, hx, rfl⟩, by rw [armPre_eq]; exact List.mem_cons.2 (.inl rfl)⟩
theorem armPre_fits (n : Arm) : armFits n → ∀ x ∈ armPre n, armFits x := by
  induction n using arm_ind with
  | h n c kids ih =>
    intro hf x hx
    rw [armPre_eq] at hx
    rcases List.mem_cons.1 hx with rfl | hx
    · exact hf
    · obtain ⟨l, hl, hxl⟩ := List.mem_flatten.1 hx
      obtain ⟨z, hz, rfl⟩ := List.mem_map.1 hl
      exact ih z hz (((armFits_parts hf).2.2.2.2) z hz) x hxl
theorem armsPre_fits (l : List Arm) (hf : ∀ x ∈ l, armFits x) : ∀ x ∈ armsPre l, armFits x := by
  intro x hx
  obtain ⟨m, hm, hxm⟩ := List.mem_flatten.1 hx
  obtain ⟨z, hz, rfl⟩ := List.mem_map.1 hm
  exact armPre_fits z (hf z hz) x hxm
theorem mem_sum_le {α : Type} (g : α → Nat) {l : List α} {x : α} (h : x ∈ l) : g x ≤ (l.map g).sum := mem_le_sum g l x h
end Stil
/- Plain models of chapter 3: how often an operand stands in a ladder. -/
namespace Stil
def devSame (x d : Dev) : Bool := x.kind == d.kind && x.n == d.n && x.p == d.p
def devsUses (d : Dev) (l : List Dev) : Nat := (l.map (fun x => if devSame x d then 1 else 0)).sum
def elemUses (d : Dev) (e : Elem) : Nat := devsUses d e.args
def netUses (d : Dev) : Net → Nat
  | ⟨_, e, kids⟩ => elemUses d e + (kids.map (netUses d)).sum
theorem netUses_eq (d : Dev) (n : Net) : netUses d n = elemUses d n.one + (n.kids.map (netUses d)).sum := by obtain ⟨k, e, kids⟩ := n; rw [netUses]
def coilsUses (d : Dev) (l : List Elem) : Nat := (l.map (elemUses d)).sum
def armUses (d : Dev) : Arm → Nat
  | ⟨n, coils, kids⟩ => netUses d n + coilsUses d coils + (kids.map (armUses d)).sum
theorem armUses_eq (d : Dev) (a : Arm) : armUses d a = netUses d a.net + coilsUses d a.coils + (a.kids.map (armUses d)).sum := by obtain ⟨k, e, kids⟩ := a; rw [armUses]
def treeUses (d : Dev) (l : List Arm) : Nat := (l.map (armUses d)).sum
def armOwnUses (d : Dev) (a : Arm) : Nat := netUses d a.net + coilsUses d a.coils
theorem netPre_uses (d : Dev) (n : Net) : ((netPre n).map (fun x => elemUses d x.one)).sum = netUses d n := by
  induction n using net_ind with
  | h k e kids ih =>
    rw [netPre_eq, netUses_eq, List.map_cons, List.sum_cons, flatten_sum, map_congr' ih]
theorem armPre_uses (d : Dev) (n : Arm) : ((armPre n).map (armOwnUses d)).sum = armUses d n := by
  induction n using arm_ind with
  | h n c kids ih =>
    rw [armPre_eq, armUses_eq, List.map_cons, List.sum_cons, flatten_sum, map_congr' ih]
    simp only [armOwnUses]
theorem armsPre_uses (d : Dev) (l : List Arm) : ((armsPre l).map (armOwnUses d)).sum = treeUses d l := by
  unfold armsPre treeUses
  rw [flatten_sum, map_congr' (fun x _ => armPre_uses d x)]
theorem sum_le_len {α : Type} (f : α → Nat) (hf : ∀ x, f x ≤ 1) : ∀ l : List α, (l.map f).sum ≤ l.length
  | [] => by simp
  | x :: r => by
    have := sum_le_len f hf r
    have := hf x
    simp only [List.map_cons, List.sum_cons, List.length_cons]
    omega
theorem devsUses_le (d : Dev) (l : List Dev) : devsUses d l ≤ l.length := sum_le_len _ (fun x => by split <;> omega) l
theorem sum_mono {α : Type} (f g : α → Nat) : ∀ l : List α, (∀ x ∈ l, f x ≤ g x) → (l.map f).sum ≤ (l.map g).sum
  | [], _ => by simp
  | x :: r, h => by
    have := sum_mono f g r (fun y hy => h y (by simp [hy]))
    have := h x (by simp)
    simp only [List.map_cons, List.sum_cons]
    omega
theorem netUses_le (d : Dev) (n : Net) : netUses d n ≤ netSz n := by
  induction n using net_ind with
  | h k e kids ih =>
    rw [netUses_eq, netSz_eq]
    have h1 := sum_mono _ _ kids ih
    have h2 := devsUses_le d e.args
    simp only [elemUses]
    omega
theorem armUses_le (d : Dev) (n : Arm) : armUses d n ≤ armSz n := by
  induction n using arm_ind with
  | h n coils kids ih =>
    rw [armUses_eq, armSz_eq]
    have h1 := sum_mono _ _ kids ih
    have h2 := netUses_le d n
    have h3 := sum_mono (elemUses d) elemSz coils (fun x _ => devsUses_le d x.args)
    have he : elemsSz coils = coils.length + (coils.map elemSz).sum := rfl
    simp only [coilsUses]
    omega
end Stil
/- Plain facts on chapter 2: what is written of a contact or coil is read as it, and nothing else is read. -/
namespace Stil
theorem text_any (op : Int) (ds : List Dev) : (elemText op ds).isEmpty = !(isContact op ds || isCoil op ds) := by
  cases h : (isContact op ds || isCoil op ds)
  · have : elemText op ds = [] := by
      apply Classical.byContradiction
      intro hn
      rcases elemText_ok hn with h1 | h1 <;> rw [h1] at h <;> simp at h
    rw [this]; rfl
  · have hn := (elemText_len (op := op) (ds := ds) (by simpa using h)).2
    cases ht : elemText op ds with
    | nil => exact absurd ht hn
    | cons _ _ => rfl
theorem readB_text (op : Int) (ds : List Dev) : elemReadB (elemText op ds) = !(elemText op ds).isEmpty := by
  cases h : (elemText op ds).isEmpty
  · have hn : elemText op ds ≠ [] := by intro e; rw [e] at h; cases h
    have hok := elemText_ok hn
    unfold elemReadB
    rw [eguess_text hok, h]
    have hl := (elemText_len hok).1
    simp [Elem.text, hl]
  · unfold elemReadB
    rw [h]
    rfl
theorem read_text {op : Int} {ds : List Dev} (h : elemReadB (elemText op ds) = true) : elemRead (elemText op ds) = ⟨op, ds⟩ := by
  have hn : elemText op ds ≠ [] := by intro e; rw [e] at h; cases h
  unfold elemRead
  rw [if_pos h, eguess_text (elemText_ok hn)]
theorem read_no {l : List UInt8} (h : elemReadB l = false) : elemRead l = ⟨0, []⟩ := by
  unfold elemRead
  rw [if_neg (by rw [h]; decide)]
theorem text_read {l : List UInt8} (h : elemReadB l = true) : elemText (elemRead l).op (elemRead l).args = l := by
  have hr : elemRead l = eguess l := by unfold elemRead; rw [if_pos h]
  unfold elemReadB at h
  simp only [Bool.and_eq_true, beq_iff_eq] at h
  rw [hr]
  exact h.2
theorem readB_ne {l : List UInt8} (h : elemReadB l = true) : l ≠ [] := by
  intro e
  rw [e] at h
  cases h
theorem read_ok {l : List UInt8} (h : elemReadB l = true) : ∀ d ∈ (elemRead l).args, d.ok = true := by
  have ht := text_read h
  rcases elemText_ok (by rw [ht]; exact readB_ne h) with h1 | h1
  · exact (contact_facts h1).2.1
  · exact (coil_facts h1).2.1
theorem read_len (l : List UInt8) : (elemRead l).args.length ≤ 10 := by
  cases h : elemReadB l
  · rw [read_no h]; simp
  · have ht := text_read h
    rcases elemText_ok (by rw [ht]; exact readB_ne h) with h1 | h1
    · have := (contact_facts h1).1
      have ha : arity (elemRead l).op ≤ 10 := by unfold arity; (repeat' split) <;> omega
      omega
    · have := (coil_len h1).2.2.2
      omega
theorem text_short (op : Int) (ds : List Dev) : (elemText op ds).length ≤ 100 := by
  by_cases h : elemText op ds = []
  · rw [h]; simp
  · exact (elemText_len (elemText_ok h)).1
end Stil
