/- Plain models of chapter 2, seventh part: ElemRead. -/
import Derived.Test.YtnbdgpepancfnabDoorM2f
namespace Stil
def Elem.text (e : Elem) : List UInt8 := elemText e.op e.args
def elemReadB (l : List UInt8) : Bool := !l.isEmpty && decide (l.length ≤ 100) && (eguess l).text == l
def elemRead (l : List UInt8) : Elem := if elemReadB l then eguess l else ⟨0, []⟩
end Stil
