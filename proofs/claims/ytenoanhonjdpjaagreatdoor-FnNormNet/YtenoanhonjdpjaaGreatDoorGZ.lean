/- M7: texts put together. -/
import Derived.Test.YtenoanhonjdpjaaGreatDoorGM
/- Plain models of chapters 5 and 6: instructions; the verifier's run. -/
namespace Stil
structure Inst where
  code : Int
  one : Elem
def Inst.wf (i : Inst) : Prop := i64 i.code ∧ i.one.wf
def Inst.fits (i : Inst) : Prop := i64 i.code ∧ i.one.fits
def noElem (e : Elem) : Bool := e.op == 0 && e.args.length == 0
/-- Is this an instruction? -/
def listOk (i : Inst) : Bool := if i.code < 1 ∨ 11 < i.code then false else if i.code ≤ 3 then isContact i.one.op i.one.args else if i.code = 10 then isCoil i.one.op i.one.args else noElem i.one
/-- What is known ahead of an instruction. -/
structure Pt where
  bits : Int
  forks : Int
  seen : Bool
  coil : Bool
def needs (c : Int) : Int := if c = 1 then 0 else if c = 4 ∨ c = 5 then 2 else 1
def low (c : Int) : Int := if c = 5 then 2 else 1
def wrong (s : Pt) (i : Inst) : Int :=
  if listOk i = false then 2
  else if s.bits < needs i.code then 3
  else if i.code = 1 ∧ s.bits = 16 then 4
  else if 7 ≤ i.code ∧ 1 < s.bits then 5
  else if s.seen = true ∧ s.bits = low i.code ∧ (i.code = 3 ∨ i.code = 6 ∨ i.code = 5) then 6
  else if i.code = 7 ∧ s.forks = 8 then 7
  else if (i.code = 8 ∨ i.code = 9) ∧ s.forks = 0 then 7
  else if i.code = 11 ∧ 0 < s.forks then 7
  else if (i.code = 8 ∨ i.code = 9 ∨ i.code = 11) ∧ s.coil = false then 8
  else 0
/-- The program's point behind an instruction is the specification's, where nothing is wrong. -/
def behind (s : Pt) (c : Int) : Pt := ⟨if c = 1 then s.bits + 1 else if c = 4 ∨ c = 5 ∨ c = 11 then s.bits - 1 else s.bits, if c = 7 then s.forks + 1 else if c = 9 then s.forks - 1 else s.forks, decide (c ≠ 11) && (s.seen || c == 10 || c == 7), c == 10⟩
end Stil
