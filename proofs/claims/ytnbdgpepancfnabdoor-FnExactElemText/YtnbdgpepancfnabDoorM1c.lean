/- Plain models of chapter 1, third part: DevRead. -/
import Derived.Test.YtnbdgpepancfnabDoorM1b
namespace Stil
def Dev.text (d : Dev) : List UInt8 := devText d.kind d.n d.p
def devReadB (l : List UInt8) : Bool := !l.isEmpty && (guess l).text == l
def devRead (l : List UInt8) : Dev := if devReadB l then guess l else ⟨0, 0, 0⟩
end Stil
