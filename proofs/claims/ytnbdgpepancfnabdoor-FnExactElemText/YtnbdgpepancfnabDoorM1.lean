/- Plain models of chapter 1: no Go. -/
import Derived.Lib.ItoaNum
namespace Stil
structure Dev where
  kind : Int
  n : Int
  p : Int
deriving DecidableEq
def devSize (k : Int) : Int :=
  if k = 1 ∨ k = 2 ∨ k = 5 ∨ k = 9 then 32 else if k = 3 then 64 else if k = 4 ∨ k = 7 ∨ k = 8 ∨ k = 10 then 16 else if k = 6 then 5 else 0
def devOkB (k n p : Int) : Bool :=
  if k = 11 then decide (-32768 ≤ n ∧ n ≤ 32767 ∧ p = 0)
  else if k = 12 then decide (-999999999 ≤ n ∧ n ≤ 999999999 ∧ 1 ≤ p ∧ p ≤ 6 ∧ (p = 1 ∨ n.tmod 10 ≠ 0))
  else if k = 13 then decide (0 ≤ n ∧ n ≤ 3 ∧ p = 0)
  else decide (0 ≤ n ∧ n < devSize k ∧ p = 0)
def devIsBitB (k n p : Int) : Bool := devOkB k n p && (decide (k ≤ 4) || k == 6 || k == 7 || k == 8)
def devIsWholeB (k n p : Int) : Bool := devOkB k n p && (k == 7 || k == 8 || k == 9 || k == 11)
def devIsRealB (k n p : Int) : Bool := devOkB k n p && (k == 10 || k == 12 || k == 13)
def letters : List UInt8 := [88, 89, 77, 83, 69, 71, 84, 67, 68, 82]
def devLetter (k : Int) : ByteArray := if 1 ≤ k ∧ k ≤ 10 then ⟨#[letters.getD (k.toNat - 1) 0]⟩ else ⟨#[]⟩
def padTo (p : Nat) (s : List UInt8) : List UInt8 := List.replicate (p + 1 - s.length) 48 ++ s
def decNat (n p : Nat) : List UInt8 := (padTo p (Go.Lib.decDigits n)).take ((padTo p (Go.Lib.decDigits n)).length - p) ++ 46 :: (padTo p (Go.Lib.decDigits n)).drop ((padTo p (Go.Lib.decDigits n)).length - p)
def decText (n p : Int) : List UInt8 := if n < 0 then 45 :: decNat n.natAbs p.toNat else decNat n.toNat p.toNat
def words : List (List UInt8) := [[110, 97, 110], [105, 110, 102], [45, 105, 110, 102], [45, 48, 46, 48]]
def devText (k n p : Int) : List UInt8 :=
  if devOkB k n p then
    if k = 11 then Go.Lib.itoa n else if k = 12 then decText n p else if k = 13 then words.getD n.toNat [] else letters.getD (k.toNat - 1) 0 :: Go.Lib.itoa n
  else []
def findFrom (c : UInt8) : List UInt8 → Nat → Int
  | [], _ => -1
  | x :: r, k => if x = c then k else findFrom c r (k + 1)
def find (c : UInt8) (l : List UInt8) : Int := findFrom c l 0
def digFold : Nat → List UInt8 → Option Nat
  | acc, [] => some acc
  | acc, c :: r => if 48 ≤ c.toNat ∧ c.toNat ≤ 57 then digFold (acc * 10 + (c.toNat - 48)) r else none
def optInt : Option Nat → Int
  | some n => n
  | none => -1
def digits (l : List UInt8) : Int := if l.length = 0 ∨ 17 < l.length then -1 else optInt (digFold 0 l)
end Stil
