/- P1, P2, P3, P4, P5, P6: texts put together. -/
import Derived.Test.YtenoanhonjdpjaaGreatDoorGT
import Derived.Test.YtenoanhonjdpjaaGreatDoorGb
import Derived.Test.YtenoanhonjdpjaaGreatDoorGg
/- Marks: the whole numbers that a mark goes through, in their order, as places in memory; nothing is said of what they held. -/
namespace Go.Proofs.YtenoanhonjdpjaaGreatDoor
open Go.RowKit Go.Sort Go.BigFrame
/-- A place: block and offset. -/
abbrev Pl := Nat × Nat
def ad (p : Pl) : Addr := ⟨p.1, p.2, none⟩
/-- Whole numbers lie at these places and may be written. -/
def NumsAt (w : World) (ps : List Pl) : Prop := ∀ p ∈ ps, p.1 < w.heap.size ∧ (∃ n, w.cell? (ad p) = some (.int .i64 n)) ∧ w.frozen? (ad p) = false
/-- The places of a slice of operands. -/
def DevsSh (v : Value) (ps : List Pl) : Prop := ∃ a n cap, v = .slice a n cap ∧ ps.length = 3 * n ∧ ∀ j (h : j < ps.length), ∃ b o, a = some ⟨b, o, none⟩ ∧ ps[j] = (b, o + j)
end Go.Proofs.YtenoanhonjdpjaaGreatDoor
/- Contracts of the laws' helpers that mark and hold lists of instructions, over places. -/
namespace Go.Proofs.YtenoanhonjdpjaaGreatDoor
open Go.RowKit Go.Sort Go.BigFrame
end Go.Proofs.YtenoanhonjdpjaaGreatDoor
/- Lists of lists of instructions: how they lie; are two the same. -/
namespace Go.Proofs.YtenoanhonjdpjaaGreatDoor
open Go.RowKit Go.Sort Go.BigFrame
/-- The places of n operands in a block. -/
def blockPs (g n : Nat) : List Pl := (List.range (3 * n)).map fun j => (g, j)
theorem blockPs_len (g n : Nat) : (blockPs g n).length = 3 * n := by simp [blockPs]
theorem blockPs_mem {g n : Nat} {p : Pl} (h : p ∈ blockPs g n) : p.1 = g ∧ p.2 < 3 * n := by
  obtain ⟨j, hj, rfl⟩ := List.mem_map.1 h
  exact ⟨rfl, List.mem_range.1 hj⟩
theorem blockPs_nodup (g n : Nat) : (blockPs g n).Nodup := by
  unfold blockPs
  refine List.pairwise_map.2 (List.Pairwise.imp ?_ List.nodup_range)
  intro a b h e
  exact h (Prod.mk.inj e).2
end Go.Proofs.YtenoanhonjdpjaaGreatDoor
