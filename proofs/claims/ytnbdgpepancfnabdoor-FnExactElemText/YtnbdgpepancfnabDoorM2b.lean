/- Plain models of chapter 2, second part: contacts and coils. -/
import Derived.Test.YtnbdgpepancfnabDoorM2
namespace Stil
def Dev.fits (d : Dev) : Prop := (-9223372036854775808 ≤ d.kind ∧ d.kind ≤ 9223372036854775807) ∧ (-9223372036854775808 ≤ d.n ∧ d.n ≤ 9223372036854775807) ∧ (-9223372036854775808 ≤ d.p ∧ d.p ≤ 9223372036854775807)
def isContact (op : Int) (ds : List Dev) : Bool :=
  if op < 1 ∨ 10 < op then false
  else match ds with
    | [a] => decide (op ≤ 2) && a.isBit
    | [a, b] =>
      if op ≤ 2 then false
      else if op ≤ 4 then a.isBit && b.ok && b.kind == 5
      else a.isWhole && b.isWhole || a.isReal && b.isReal
    | _ => false
end Stil
