/- Plain models of chapter 2, third part: coils. -/
import Derived.Test.YtnbdgpepancfnabDoorM2b
namespace Stil
def calcRest (whole : Bool) (l : List Dev) : Bool := if whole then l.all Dev.isWhole else l.all Dev.isReal
def calcB (op : Int) : List Dev → Bool
  | [] => false
  | d :: r => d.kindIs 9 10 && calcRest (d.kind == 9) r && (d.kind == 9 || op != 35)
def isCoil (op : Int) (ds : List Dev) : Bool :=
  if op < 21 ∨ 37 < op ∨ (ds.length : Int) ≠ arity op then false
  else match ds with
    | [a] => if op = 21 then a.kindIs 2 3 else if op = 22 then a.kindIs 2 3 || a.kindIs 4 4 else if op = 23 then a.kindIs 2 3 || a.kindIs 4 7 || a.kindIs 8 8 else a.kindIs 4 4
    | [a, b] =>
      if op = 24 then a.kindIs 2 3 && b.kindIs 5 5
      else if op = 26 ∨ op = 27 ∨ op = 28 then a.kindIs 7 7 && b.kindIs 11 11 && decide (0 ≤ b.n)
      else if op = 29 then a.kindIs 8 8 && b.kindIs 11 11 && decide (0 ≤ b.n)
      else if op = 36 then a.kindIs 10 10 && b.isWhole
      else if op = 37 then a.kindIs 9 9 && b.isReal
      else calcB op ds
    | _ => calcB op ds
end Stil
