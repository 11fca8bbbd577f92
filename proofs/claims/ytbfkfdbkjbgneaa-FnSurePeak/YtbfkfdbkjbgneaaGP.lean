/- FR4: texts put together. -/
import Derived.Test.YtbfkfdbkjbgneaaFR0
import Derived.Test.YtbfkfdbkjbgneaaGH
/- From what a row says of memory to what the walks ask: a slice of bytes. -/
namespace Go.Proofs.Ytbfkfdbkjbgneaa
open Go.ChangeShapes Go.WideShapes Go.ChangeAt Go.RowKit
theorem cU8 : Try.prog.cellsOf 5 = 1 := by kernel_rfl
theorem wf_u8 {n : Int} (h : (Lit.int .u8 n).wf = true) : 0 ≤ n ∧ n < 256 := by
  have := h
  simp [Lit.wf, IntKind.min, IntKind.max, IntKind.signed, IntKind.bits] at this
  omega
theorem bytes_of_trod {H : Type} {enc : TypeId × Value → H} {W : World} {fuel : Nat} {v : Value} {x : DataW H × List MemPlace} (h : DataW.trod enc Try.prog W 0 (fun _ => true) true fuel 22 [v] = some x) : BytesAt W v := by
  rcases Deep.open_slice Try.underlying22 h with ⟨hv, _⟩ | ⟨a, len, cap, m, n, D, Pl, hv, _, hlc, hcap, hm, _, hx⟩
  · obtain rfl : v = .slice none 0 0 := by simpa using hv
    exact ⟨none, 0, 0, rfl, Nat.le_refl _, by omega, fun i h => absurd h (by simp)⟩
  · obtain rfl : v = .slice (some a) len cap := by simpa using hv
    have hlm : len ≤ m := by rw [hm]; split <;> omega
    have each : ∀ i, i < len → ∃ z : Int, W.cell? (a.add (i * 1)) = some (.int .u8 z) ∧ 0 ≤ z ∧ z < 256 := by
      intro i hi
      obtain ⟨cs', h1, h2⟩ := hx i (by omega)
      rw [cU8] at h1
      obtain ⟨_, hlen, hcell⟩ := World.cells?_some h1
      obtain ⟨z, hz, _, hw⟩ := DataW.trod_int Try.underlying5 h2
      have e1 := hcell 0 (by omega)
      rw [Addr.add_add] at e1
      rw [hz] at e1
      refine ⟨z, by simpa using e1, wf_u8 hw⟩
    obtain ⟨b, o, sp⟩ := a
    refine ⟨_, len, cap, rfl, hlc, Nat.le_trans hcap (by decide), fun i hi => ?_⟩
    obtain ⟨z, hz, h1⟩ := each i hi
    have hsp : sp = none := by
      obtain ⟨y, hy, _⟩ := each 0 (by omega)
      simpa [Addr.add] using World.cell?_spot hy
    subst hsp
    rw [Addr.add_lit, Nat.mul_one] at hz
    exact ⟨b, o, z, rfl, lt_of_cell hz, hz, h1⟩
end Go.Proofs.Ytbfkfdbkjbgneaa
