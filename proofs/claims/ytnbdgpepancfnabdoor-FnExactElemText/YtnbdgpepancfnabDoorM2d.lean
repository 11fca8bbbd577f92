/- Plain models of chapter 2, fourth part: ElemText. -/
import Derived.Test.YtnbdgpepancfnabDoorM2c
namespace Stil
def argsText : List Dev → List UInt8
  | [] => []
  | d :: r => 44 :: d.text ++ argsText r
def elemText (op : Int) (ds : List Dev) : List UInt8 :=
  if isCoil op ds then
    match ds with
    | [] => []
    | d :: r => elemName op ++ 58 :: d.text ++ argsText r
  else if isContact op ds then
    match ds with
    | [a] => if op = 1 then a.text else 47 :: a.text
    | [a, b] => if op = 3 then 43 :: a.text ++ 58 :: b.text else if op = 4 then 45 :: a.text ++ 58 :: b.text else a.text ++ sign op ++ b.text
    | _ => []
  else []
end Stil
