/- M1, M1b, M1c, M2, M2b, M2c, M2d, M2e, M2f, M2g: texts put together. -/
import Derived.Lib.ItoaNum
/- Plain models of chapter 1: no Go. -/
namespace Stil
structure Dev where
  kind : Int
  n : Int
  p : Int
def devSize (k : Int) : Int :=
  if k = 1 ∨ k = 2 ∨ k = 5 ∨ k = 9 then 32 else if k = 3 then 64 else if k = 4 ∨ k = 7 ∨ k = 8 ∨ k = 10 then 16 else if k = 6 then 5 else 0
def devOkB (k n p : Int) : Bool :=
  if k = 11 then decide (-32768 ≤ n ∧ n ≤ 32767 ∧ p = 0)
  else if k = 12 then decide (-999999999 ≤ n ∧ n ≤ 999999999 ∧ 1 ≤ p ∧ p ≤ 6 ∧ (p = 1 ∨ n.tmod 10 ≠ 0))
  else if k = 13 then decide (0 ≤ n ∧ n ≤ 3 ∧ p = 0)
  else decide (0 ≤ n ∧ n < devSize k ∧ p = 0)
def devIsBitB (k n p : Int) : Bool := devOkB k n p && (decide (k ≤ 4) || k == 6 || k == 7 || k == 8)
def devIsWholeB (k n p : Int) : Bool := devOkB k n p && (k == 7 || k == 8 || k == 9 || k == 11)
def devIsRealB (k n p : Int) : Bool := devOkB k n p && (k == 10 || k == 12 || k == 13)
def letters : List UInt8 := [88, 89, 77, 83, 69, 71, 84, 67, 68, 82]
def devLetter (k : Int) : ByteArray := if 1 ≤ k ∧ k ≤ 10 then ⟨#[letters.getD (k.toNat - 1) 0]⟩ else ⟨#[]⟩
def padTo (p : Nat) (s : List UInt8) : List UInt8 := List.replicate (p + 1 - s.length) 48 ++ s
def decNat (n p : Nat) : List UInt8 := (padTo p (Go.Lib.decDigits n)).take ((padTo p (Go.Lib.decDigits n)).length - p) ++ 46 :: (padTo p (Go.Lib.decDigits n)).drop ((padTo p (Go.Lib.decDigits n)).length - p)
def decText (n p : Int) : List UInt8 := if n < 0 then 45 :: decNat n.natAbs p.toNat else decNat n.toNat p.toNat
def words : List (List UInt8) := [[110, 97, 110], [105, 110, 102], [45, 105, 110, 102], [45, 48, 46, 48]]
def devText (k n p : Int) : List UInt8 :=
  if devOkB k n p then
    if k = 11 then Go.Lib.itoa n else if k = 12 then decText n p else if k = 13 then words.getD n.toNat [] else letters.getD (k.toNat - 1) 0 :: Go.Lib.itoa n
  else []
def findFrom (c : UInt8) : List UInt8 → Nat → Int
  | [], _ => -1
  | x :: r, k => if x = c then k else findFrom c r (k + 1)
def find (c : UInt8) (l : List UInt8) : Int := findFrom c l 0
def digFold : Nat → List UInt8 → Option Nat
  | acc, [] => some acc
  | acc, c :: r => if 48 ≤ c.toNat ∧ c.toNat ≤ 57 then digFold (acc * 10 + (c.toNat - 48)) r else none
def optInt : Option Nat → Int
  | some n => n
  | none => -1
def digits (l : List UInt8) : Int := if l.length = 0 ∨ 17 < l.length then -1 else optInt (digFold 0 l)
end Stil
/- Plain models of chapter 1, second part: what a text would be. -/
namespace Stil
def isLetter (c : UInt8) : Bool := letters.any (· == c)
def signOf (l : List UInt8) : Int := if l.head? = some 45 then -1 else 1
def bare (l : List UInt8) : List UInt8 := if l.head? = some 45 then l.drop 1 else l
def guessNum (l : List UInt8) : Dev :=
  if find 46 (bare l) < 0 then ⟨11, signOf l * digits (bare l), 0⟩
  else ⟨12, signOf l * digits ((bare l).take (find 46 (bare l)).toNat ++ (bare l).drop ((find 46 (bare l)).toNat + 1)), (bare l).length - find 46 (bare l) - 1⟩
def letterAt (l : List UInt8) (k : Nat) : Bool := l.head? == some (letters.getD (k - 1) 0)
def guessFrom (l : List UInt8) : Nat → Nat → Dev
  | 0, _ => guessNum l
  | m + 1, k => if letterAt l k then ⟨k, digits (l.drop 1), 0⟩ else guessFrom l m (k + 1)
def wordFrom (l : List UInt8) : Nat → Nat → Dev
  | 0, _ => guessFrom l 10 1
  | m + 1, k => if l = words.getD k [] then ⟨13, k, 0⟩ else wordFrom l m (k + 1)
def guess (l : List UInt8) : Dev := wordFrom l 4 0
end Stil
/- Plain models of chapter 1, third part: DevRead. -/
namespace Stil
def Dev.text (d : Dev) : List UInt8 := devText d.kind d.n d.p
def devReadB (l : List UInt8) : Bool := !l.isEmpty && (guess l).text == l
def devRead (l : List UInt8) : Dev := if devReadB l then guess l else ⟨0, 0, 0⟩
end Stil
/- Plain models of chapter 2. -/
namespace Stil
def arity (op : Int) : Int :=
  if op = 1 ∨ op = 2 ∨ op = 21 ∨ op = 22 ∨ op = 23 ∨ op = 25 then 1
  else if 31 ≤ op ∧ op ≤ 35 then 3
  else if (1 ≤ op ∧ op ≤ 10) ∨ (21 ≤ op ∧ op ≤ 37) then 2 else 0
def names : List (List UInt8) := [[111, 117, 116], [115, 101, 116], [114, 101, 115, 101, 116], [112, 117, 108, 115, 101], [115, 116, 101, 112], [116, 105, 109, 101, 114], [104, 111, 108, 100], [108, 97, 116, 101], [99, 111, 117, 110, 116], [109, 111, 118, 101], [97, 100, 100], [115, 117, 98], [109, 117, 108], [100, 105, 118], [114, 101, 109], [114, 101, 97, 108], [119, 104, 111, 108, 101]]
def signs : List (List UInt8) := [[60], [60, 61], [61], [60, 62], [62, 61], [62]]
def elemName (op : Int) : List UInt8 := if 21 ≤ op ∧ op ≤ 37 then names.getD (op - 21).toNat [] else []
def sign (op : Int) : List UInt8 := if 5 ≤ op ∧ op ≤ 10 then signs.getD (op - 5).toNat [] else []
def Dev.ok (d : Dev) : Bool := devOkB d.kind d.n d.p
def Dev.isBit (d : Dev) : Bool := devIsBitB d.kind d.n d.p
def Dev.isWhole (d : Dev) : Bool := devIsWholeB d.kind d.n d.p
def Dev.isReal (d : Dev) : Bool := devIsRealB d.kind d.n d.p
def kindB (k n p a b : Int) : Bool := devOkB k n p && (k == a || k == b)
def Dev.kindIs (d : Dev) (a b : Int) : Bool := kindB d.kind d.n d.p a b
end Stil
/- Plain models of chapter 2, second part: contacts and coils. -/
namespace Stil
def Dev.fits (d : Dev) : Prop := (-9223372036854775808 ≤ d.kind ∧ d.kind ≤ 9223372036854775807) ∧ (-9223372036854775808 ≤ d.n ∧ d.n ≤ 9223372036854775807) ∧ (-9223372036854775808 ≤ d.p ∧ d.p ≤ 9223372036854775807)
def isContact (op : Int) (ds : List Dev) : Bool :=
  if op < 1 ∨ 10 < op then false
  else match ds with
    | [a] => decide (op ≤ 2) && a.isBit
    | [a, b] =>
      if op ≤ 2 then false
      else if op ≤ 4 then a.isBit && b.ok && b.kind == 5
      else a.isWhole && b.isWhole || a.isReal && b.isReal
    | _ => false
end Stil
/- Plain models of chapter 2, third part: coils. -/
namespace Stil
def calcRest (whole : Bool) (l : List Dev) : Bool := if whole then l.all Dev.isWhole else l.all Dev.isReal
def calcB (op : Int) : List Dev → Bool
  | [] => false
  | d :: r => d.kindIs 9 10 && calcRest (d.kind == 9) r && (d.kind == 9 || op != 35)
def isCoil (op : Int) (ds : List Dev) : Bool :=
  if op < 21 ∨ 37 < op ∨ (ds.length : Int) ≠ arity op then false
  else match ds with
    | [a] => if op = 21 then a.kindIs 2 3 else if op = 22 then a.kindIs 2 3 || a.kindIs 4 4 else if op = 23 then a.kindIs 2 3 || a.kindIs 4 7 || a.kindIs 8 8 else a.kindIs 4 4
    | [a, b] =>
      if op = 24 then a.kindIs 2 3 && b.kindIs 5 5
      else if op = 26 ∨ op = 27 ∨ op = 28 then a.kindIs 7 7 && b.kindIs 11 11 && decide (0 ≤ b.n)
      else if op = 29 then a.kindIs 8 8 && b.kindIs 11 11 && decide (0 ≤ b.n)
      else if op = 36 then a.kindIs 10 10 && b.isWhole
      else if op = 37 then a.kindIs 9 9 && b.isReal
      else calcB op ds
    | _ => calcB op ds
end Stil
/- Plain models of chapter 2, fourth part: ElemText. -/
namespace Stil
def argsText : List Dev → List UInt8
  | [] => []
  | d :: r => 44 :: d.text ++ argsText r
def elemText (op : Int) (ds : List Dev) : List UInt8 :=
  if isCoil op ds then
    match ds with
    | [] => []
    | d :: r => elemName op ++ 58 :: d.text ++ argsText r
  else if isContact op ds then
    match ds with
    | [a] => if op = 1 then a.text else 47 :: a.text
    | [a, b] => if op = 3 then 43 :: a.text ++ 58 :: b.text else if op = 4 then 45 :: a.text ++ 58 :: b.text else a.text ++ sign op ++ b.text
    | _ => []
  else []
end Stil
/- Plain models of chapter 2, fifth part: a text that is cut, operands that are read. -/
namespace Stil
def consHead (x : UInt8) : List (List UInt8) → List (List UInt8)
  | [] => [[x]]
  | h :: t => (x :: h) :: t
def cut (c : UInt8) : List UInt8 → List (List UInt8)
  | [] => [[]]
  | x :: r => if x = c then [] :: cut c r else consHead x (cut c r)
theorem cut_none (c : UInt8) : ∀ (a : List UInt8), (∀ x ∈ a, x ≠ c) → cut c a = [a]
  | [], _ => rfl
  | x :: r, h => by
    unfold cut
    rw [if_neg (h x (by simp)), cut_none c r (fun y hy => h y (by simp [hy]))]; rfl
theorem cut_at (c : UInt8) : ∀ (a r : List UInt8), (∀ x ∈ a, x ≠ c) → cut c (a ++ c :: r) = a :: cut c r
  | [], r, _ => by simp [cut]
  | x :: a, r, h => by
    have e : cut c (x :: (a ++ c :: r)) = if x = c then [] :: cut c (a ++ c :: r) else consHead x (cut c (a ++ c :: r)) := rfl
    rw [List.cons_append, e, if_neg (h x (by simp)), cut_at c a r (fun y hy => h y (by simp [hy]))]; rfl
def args (c : UInt8) (l : List UInt8) : List Dev := ((cut c l).map devRead).take 4
end Stil
/- Plain models of chapter 2, sixth part: what a text would be. -/
namespace Stil
structure Elem where
  op : Int
  args : List Dev
def isSign (c : UInt8) : Bool := c == 60 || c == 61 || c == 62
def signLen (l : List UInt8) (i : Nat) : Nat := if l[i + 1]? = some 61 ∨ l[i + 1]? = some 62 then 2 else 1
def signFrom (l : List UInt8) (i n : Nat) : Nat → Nat → Elem
  | 0, _ => ⟨0, []⟩
  | m + 1, k => if (l.take (i + n)).drop i = sign k then ⟨k, Stil.args 32 (l.take i) ++ Stil.args 32 (l.drop (i + n))⟩ else signFrom l i n m (k + 1)
def headIs (l : List UInt8) (c : UInt8) : Bool := l.head? == some c
def guessHead (l : List UInt8) : Elem :=
  if headIs l 47 then ⟨2, Stil.args 32 (l.drop 1)⟩ else if headIs l 43 then ⟨3, Stil.args 58 (l.drop 1)⟩ else if headIs l 45 then ⟨4, Stil.args 58 (l.drop 1)⟩ else ⟨1, Stil.args 32 l⟩
def nameAt (l : List UInt8) (k : Nat) : Bool := decide ((elemName k).length < l.length) && (l.take (elemName k).length == elemName k) && (l[(elemName k).length]? == some 58)
def guessName (l : List UInt8) : Nat → Nat → Elem
  | 0, _ => guessHead l
  | m + 1, k => if nameAt l k then ⟨k, Stil.args 44 (l.drop ((elemName k).length + 1))⟩ else guessName l m (k + 1)
def scan (l : List UInt8) : Nat → Nat → Elem
  | 0, _ => guessName l 17 21
  | m + 1, i => if isSign (l.getD i 0) then signFrom l i (signLen l i) 6 5 else scan l m (i + 1)
def eguess (l : List UInt8) : Elem := scan l l.length 0
end Stil
/- Plain models of chapter 2, seventh part: ElemRead. -/
namespace Stil
def Elem.text (e : Elem) : List UInt8 := elemText e.op e.args
def elemReadB (l : List UInt8) : Bool := !l.isEmpty && decide (l.length ≤ 100) && (eguess l).text == l
def elemRead (l : List UInt8) : Elem := if elemReadB l then eguess l else ⟨0, []⟩
end Stil
