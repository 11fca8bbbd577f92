/- Plain models of chapter 2. -/
import Derived.Test.YtnbdgpepancfnabDoorM1c
namespace Stil
def arity (op : Int) : Int :=
  if op = 1 ∨ op = 2 ∨ op = 21 ∨ op = 22 ∨ op = 23 ∨ op = 25 then 1
  else if 31 ≤ op ∧ op ≤ 35 then 3
  else if (1 ≤ op ∧ op ≤ 10) ∨ (21 ≤ op ∧ op ≤ 37) then 2 else 0
def names : List (List UInt8) := [[111, 117, 116], [115, 101, 116], [114, 101, 115, 101, 116], [112, 117, 108, 115, 101], [115, 116, 101, 112], [116, 105, 109, 101, 114], [104, 111, 108, 100], [108, 97, 116, 101], [99, 111, 117, 110, 116], [109, 111, 118, 101], [97, 100, 100], [115, 117, 98], [109, 117, 108], [100, 105, 118], [114, 101, 109], [114, 101, 97, 108], [119, 104, 111, 108, 101]]
def signs : List (List UInt8) := [[60], [60, 61], [61], [60, 62], [62, 61], [62]]
def elemName (op : Int) : List UInt8 := if 21 ≤ op ∧ op ≤ 37 then names.getD (op - 21).toNat [] else []
def sign (op : Int) : List UInt8 := if 5 ≤ op ∧ op ≤ 10 then signs.getD (op - 5).toNat [] else []
def Dev.ok (d : Dev) : Bool := devOkB d.kind d.n d.p
def Dev.isBit (d : Dev) : Bool := devIsBitB d.kind d.n d.p
def Dev.isWhole (d : Dev) : Bool := devIsWholeB d.kind d.n d.p
def Dev.isReal (d : Dev) : Bool := devIsRealB d.kind d.n d.p
def kindB (k n p a b : Int) : Bool := devOkB k n p && (k == a || k == b)
def Dev.kindIs (d : Dev) (a b : Int) : Bool := kindB d.kind d.n d.p a b
end Stil
