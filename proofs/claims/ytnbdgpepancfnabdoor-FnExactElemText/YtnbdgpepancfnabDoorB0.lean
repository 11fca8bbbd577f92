/- Small laws on 'Below'. -/
import Derived.Test.YtnbdgpepancfnabDoorS2
namespace Go.Proofs.YtnbdgpepancfnabDoor
open Go.RowKit Go.Sort Go.BigFrame
theorem bl_alloc {w a : World} (h : Below w.heap.size w a) (o : Obj) : Below w.heap.size w (a.alloc o) := h.alloc h.size o
theorem bl_drewN {w a : World} (h : Below w.heap.size w a) (n : Nat) : Below w.heap.size w (a.drewN n) := below_drewN h n
theorem bl_drew {w a : World} (h : Below w.heap.size w a) : Below w.heap.size w a.drew := h.drew
theorem bl_call {w a b : World} (h : Below w.heap.size w a) (k : Below a.heap.size a b) : Below w.heap.size w b := h.trans (k.mono h.size)
theorem bl_set {w a : World} {p : Addr} (hp : w.heap.size ≤ p.block) (h : Below w.heap.size w a) (v : Value) : Below w.heap.size w (a.setCell p v) := h.setCell hp v
theorem bl_grow {w a : World} (h : Below w.heap.size w a) (d : Nat) (os : Array Obj) : Below w.heap.size w (grow (redrawn a d) os) := bl_call h (below_regrown a d os)
theorem lt_below {w a : World} {b : Nat} (h : b < w.heap.size) (k : Below w.heap.size w a) : b < a.heap.size := Nat.lt_of_lt_of_le h k.size
end Go.Proofs.YtnbdgpepancfnabDoor
