/- Plain models of chapter 1, second part: what a text would be. -/
import Derived.Test.YtnbdgpepancfnabDoorM1
namespace Stil
def isLetter (c : UInt8) : Bool := letters.any (· == c)
def signOf (l : List UInt8) : Int := if l.head? = some 45 then -1 else 1
def bare (l : List UInt8) : List UInt8 := if l.head? = some 45 then l.drop 1 else l
def guessNum (l : List UInt8) : Dev :=
  if find 46 (bare l) < 0 then ⟨11, signOf l * digits (bare l), 0⟩
  else ⟨12, signOf l * digits ((bare l).take (find 46 (bare l)).toNat ++ (bare l).drop ((find 46 (bare l)).toNat + 1)), (bare l).length - find 46 (bare l) - 1⟩
def letterAt (l : List UInt8) (k : Nat) : Bool := l.head? == some (letters.getD (k - 1) 0)
def guessFrom (l : List UInt8) : Nat → Nat → Dev
  | 0, _ => guessNum l
  | m + 1, k => if letterAt l k then ⟨k, digits (l.drop 1), 0⟩ else guessFrom l m (k + 1)
def wordFrom (l : List UInt8) : Nat → Nat → Dev
  | 0, _ => guessFrom l 10 1
  | m + 1, k => if l = words.getD k [] then ⟨13, k, 0⟩ else wordFrom l m (k + 1)
def guess (l : List UInt8) : Dev := wordFrom l 4 0
end Stil
