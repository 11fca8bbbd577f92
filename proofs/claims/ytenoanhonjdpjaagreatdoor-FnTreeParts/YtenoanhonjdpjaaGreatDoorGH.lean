/- D10, D11: texts put together. -/
import Derived.Test.YtenoanhonjdpjaaGreatDoorD7c
import Derived.Test.YtenoanhonjdpjaaGreatDoorD8
import Derived.Test.YtenoanhonjdpjaaGreatDoorD9
/- Contracts of the specification's draws: l2Any, l9Open. -/
namespace Go.Proofs.YtenoanhonjdpjaaGreatDoor
open Go.RowKit Go.Sort Go.BigFrame
/-- A slice of bytes in memory. -/
def BytesAt (w : World) (v : Value) : Prop := ∃ (a : Option Addr) (len cap : Nat), v = .slice a len cap ∧ len ≤ cap ∧ cap ≤ 9223372036854775807 ∧ ∀ i, i < len → ∃ b o z, a = some ⟨b, o, none⟩ ∧ b < w.heap.size ∧ w.cell? ⟨b, o + i, none⟩ = some (.int .u8 z) ∧ 0 ≤ z ∧ z < 256
set_option maxHeartbeats 1000000 in
set_option maxRecDepth 100000 in
theorem s_l9Open (v : Value) (w : World) (hv : BytesAt w v) :
    Calls Tryz.prog 29 #[v] w fun e w' => e = .returned (.pointer (some ⟨w.heap.size, 0, none⟩)) ∧ RdAt w' w.heap.size 0 ∧ Below w.heap.size w w' := by
  obtain ⟨a, len, cap, rfl, hlc, hcap, hx⟩ := hv
  have HX : Hid (∀ i, i < len → ∃ b o z, a = some ⟨b, o, none⟩ ∧ b < w.heap.size ∧ w.cell? ⟨b, o + i, none⟩ = some (.int .u8 z) ∧ 0 ≤ z ∧ z < 256) := hx
  clear hx
  have done : ∀ n c : Nat, n ≤ len → n ≤ 2000 → RdAt (w.alloc (.cells #[.slice a n c, .int .i64 0] 94)) w.heap.size 0 := by
    intro n c h1 h2
    refine ⟨a, n, c, 0, by simp [go_sem], by simp [go_sem], by simp [go_sem], Nat.le_refl _, h2, fun i hi => ?_⟩
    obtain ⟨b, o, z, h3, h4, h5, h6, h7⟩ := HX.out i (by omega)
    exact ⟨b, o, z, h3, h4, by rw [(below_alloc w _).cell (p := ⟨b, o + i, none⟩) h4]; exact h5, h6, h7⟩
  by_cases hl : 2000 < len
  · cases a with
    | none => obtain ⟨b, o, z, h, _⟩ := HX.out 0 (by omega); cases h
    | some ad =>
      go_enter Tryz.func29, Tryz.ntmps29
      go_wp2
      go_ret
      exact ⟨rfl, done _ _ (by omega) (by omega), below_alloc _ _⟩
  · go_enter Tryz.func29, Tryz.ntmps29
    go_wp2
    go_ret
    exact ⟨rfl, done _ _ (by omega) (by omega), below_alloc _ _⟩
theorem BytesAt.below {w W : World} {u : Value} (hu : BytesAt w u) (h : Below w.heap.size w W) : BytesAt W u := by
  obtain ⟨a, len, cap, rfl, h1, h2, h3⟩ := hu
  refine ⟨a, len, cap, rfl, h1, h2, fun i hi => ?_⟩
  obtain ⟨b, o, z, e1, e2, e3, e4⟩ := h3 i hi
  exact ⟨b, o, z, e1, Nat.lt_of_lt_of_le e2 h.size, by rw [h.cell (p := ⟨b, o + i, none⟩) e2]; exact e3, e4⟩
end Go.Proofs.YtenoanhonjdpjaaGreatDoor
