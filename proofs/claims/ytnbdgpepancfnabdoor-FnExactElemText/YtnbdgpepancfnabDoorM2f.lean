/- Plain models of chapter 2, sixth part: what a text would be. -/
import Derived.Test.YtnbdgpepancfnabDoorM2e
namespace Stil
structure Elem where
  op : Int
  args : List Dev
def isSign (c : UInt8) : Bool := c == 60 || c == 61 || c == 62
def signLen (l : List UInt8) (i : Nat) : Nat := if l[i + 1]? = some 61 ∨ l[i + 1]? = some 62 then 2 else 1
def signFrom (l : List UInt8) (i n : Nat) : Nat → Nat → Elem
  | 0, _ => ⟨0, []⟩
  | m + 1, k => if (l.take (i + n)).drop i = sign k then ⟨k, Stil.args 32 (l.take i) ++ Stil.args 32 (l.drop (i + n))⟩ else signFrom l i n m (k + 1)
def headIs (l : List UInt8) (c : UInt8) : Bool := l.head? == some c
def guessHead (l : List UInt8) : Elem :=
  if headIs l 47 then ⟨2, Stil.args 32 (l.drop 1)⟩ else if headIs l 43 then ⟨3, Stil.args 58 (l.drop 1)⟩ else if headIs l 45 then ⟨4, Stil.args 58 (l.drop 1)⟩ else ⟨1, Stil.args 32 l⟩
def nameAt (l : List UInt8) (k : Nat) : Bool := decide ((elemName k).length < l.length) && (l.take (elemName k).length == elemName k) && (l[(elemName k).length]? == some 58)
def guessName (l : List UInt8) : Nat → Nat → Elem
  | 0, _ => guessHead l
  | m + 1, k => if nameAt l k then ⟨k, Stil.args 44 (l.drop ((elemName k).length + 1))⟩ else guessName l m (k + 1)
def scan (l : List UInt8) : Nat → Nat → Elem
  | 0, _ => guessName l 17 21
  | m + 1, i => if isSign (l.getD i 0) then signFrom l i (signLen l i) 6 5 else scan l m (i + 1)
def eguess (l : List UInt8) : Elem := scan l l.length 0
end Stil
