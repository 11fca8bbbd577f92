/- X6, X6b, X8, X8b, X8c: texts put together. -/
import Derived.Test.YtpaljcoojkbhnaaGreatDoorGC
import Derived.LaidEql
import Derived.Stop.Asserts
import Derived.RowKitTokens
/- errors.As by its contracts, at the two targets of the program's chapter 3. -/
namespace Go.Proofs.YtpaljcoojkbhnaaGreatDoor
open Go.RowKit Go.Extern.Stop Go.Stop Go.Extern
theorem as_nil (t : Value) (w : World) : Calls Tryz.prog 26 #[.nilIface, t] w fun e w' => e = .returned (.bool false) ∧ w' = w := by
  go_enter Tryz.func26, Tryz.ntmps26
  go_wp2
  go_ret
  exact ⟨rfl, rfl⟩
end Go.Proofs.YtpaljcoojkbhnaaGreatDoor
/- What errors.As writes, at the interface treeWrong. -/
namespace Go.Proofs.YtpaljcoojkbhnaaGreatDoor
open Go.RowKit Go.Extern.Stop Go.Stop Go.Extern
theorem rl_mKind (h : Value) (w : World) : (Go.method 361 142 (.agg #[h]) "Kind").run Tryz.prog w = .ok (187, h) w := by kernel_rfl
theorem rl_mElem (h : Value) (w : World) : (Go.method 361 142 (.agg #[h]) "Elem").run Tryz.prog w = .ok (199, .agg #[h]) w := by kernel_rfl
theorem rl_mImpl (h : Value) (w : World) : (Go.method 361 142 (.agg #[h]) "Implements").run Tryz.prog w = .ok (200, .agg #[h]) w := by kernel_rfl
theorem rl_mAss (h : Value) (w : World) : (Go.method 361 142 (.agg #[h]) "AssignableTo").run Tryz.prog w = .ok (197, .agg #[h]) w := by kernel_rfl
theorem lt_of_cellA {W : World} {t : Addr} {v : Value} (h : W.cell? t = some v) : t.block < W.heap.size := by
  rcases Nat.lt_or_ge t.block W.heap.size with h' | h'
  · exact h'
  · simp [World.cell?, Array.getElem?_eq_none h'] at h
theorem cellA_alloc {W : World} {t : Addr} {v : Value} (ob : Obj) (h : W.cell? t = some v) : (W.alloc ob).cell? t = some v := ((below_alloc W ob).cell (lt_of_cellA h)).trans h
theorem frozenA_alloc {W : World} {t : Addr} {v : Value} (ob : Obj) (h : W.cell? t = some v) (hf : W.frozen? t = false) : (W.alloc ob).frozen? t = false := ((below_alloc W ob).frozen (lt_of_cellA h)).trans hf
end Go.Proofs.YtpaljcoojkbhnaaGreatDoor
/- errors.As at a code: the closed facts, and what is written. -/
namespace Go.Proofs.YtpaljcoojkbhnaaGreatDoor
open Go.RowKit Go.Extern.Stop Go.Stop Go.Extern
end Go.Proofs.YtpaljcoojkbhnaaGreatDoor
/- errors.As at a code. -/
namespace Go.Proofs.YtpaljcoojkbhnaaGreatDoor
open Go.RowKit Go.Extern.Stop Go.Stop Go.Extern
end Go.Proofs.YtpaljcoojkbhnaaGreatDoor
/- The handle of the type 'error'. -/
namespace Go.Proofs.YtpaljcoojkbhnaaGreatDoor
open Go.RowKit Go.Sort Go.BigFrame
/-- The handle of the type 'error' lies where the library keeps it. -/
def ErrTypeAt (w : World) : Prop := w.cell? ⟨0, 0, none⟩ = some (.iface 142 (.agg #[.pointer (some ⟨4, 58, none⟩)]))
theorem ErrTypeAt.below {w w' : World} (h : ErrTypeAt w) (hb : Below w.heap.size w w') : ErrTypeAt w' := (hb.cell (lt_of_cellA h)).trans h
end Go.Proofs.YtpaljcoojkbhnaaGreatDoor
