/- From what a row says of memory to what the walks ask: a slice of operands. -/
import Derived.Test.YthhfnncehfkbfaaDoorGC
import Derived.ProofKit
import Derived.OpenShut
import Derived.OpenVars
import Derived.LaidMore
import Derived.Lay
import Derived.Deep.DeepHandedRow
import Derived.Lib.SmallJoins
namespace Go.Proofs.YthhfnncehfkbfaaDoor
open Go.ChangeShapes Go.WideShapes Go.ChangeAt Go.RowKit
theorem cInt : Tryd.prog.cellsOf 3 = 1 := by kernel_rfl
theorem lt_of_cell {W : World} {b o : Nat} {v : Value} (h : W.cell? ⟨b, o, none⟩ = some v) : b < W.heap.size := by
  unfold World.cell? at h
  cases hh : W.heap[b]? with
  | none => simp [hh] at h
  | some x => exact (Array.getElem?_eq_some_iff.1 hh).1
theorem cDev : Tryd.prog.cellsOf 71 = 3 := by kernel_rfl
theorem wf_i64 {n : Int} (h : (Lit.int .i64 n).wf = true) : -9223372036854775808 ≤ n ∧ n ≤ 9223372036854775807 := by
  simpa [Lit.wf, IntKind.min, IntKind.max, IntKind.signed, IntKind.bits] using h
theorem devs_of_trod {H : Type} {enc : TypeId × Value → H} {W : World} {fuel : Nat} {v : Value} {x : DataW H × List MemPlace} (h : DataW.trod enc Tryd.prog W 0 (fun _ => true) true fuel 22 [v] = some x) :
    ∃ ds : List Stil.Dev, DevsAt W v ds ∧ (∀ d ∈ ds, d.fits) ∧ ds.length ≤ maxLen := by
  rcases Deep.open_slice Tryd.underlying22 h with ⟨hv, _⟩ | ⟨a, len, cap, m, n, D, Pl, hv, _, hlc, hcap, hm, _, hx⟩
  · obtain rfl : v = .slice none 0 0 := by simpa using hv
    exact ⟨[], ⟨none, 0, rfl, fun i h => absurd h (by simp)⟩, by simp, by simp⟩
  · obtain rfl : v = .slice (some a) len cap := by simpa using hv
    have hlm : len ≤ m := by rw [hm]; split <;> omega
    have each : ∀ i, i < len → ∃ d : Stil.Dev, d.fits ∧ W.cell? (a.add (i * 3)) = some (.int .i64 d.kind) ∧ W.cell? (a.add (i * 3 + 1)) = some (.int .i64 d.n) ∧ W.cell? (a.add (i * 3 + 2)) = some (.int .i64 d.p) := by
      intro i hi
      obtain ⟨cs', h1, h2⟩ := hx i (by omega)
      rw [cDev] at h1
      obtain ⟨_, hlen, hcell⟩ := World.cells?_some h1
      obtain ⟨y0, y1, y2, k, _, _, t0, t1, t2⟩ := Deep.trod_struct3 Tryd.underlying71 h2
      dsimp only at t0 t1 t2
      rw [cInt] at t0 t1 t2
      obtain ⟨n0, a0, _, w0⟩ := DataW.trod_int Tryd.underlying3 t0
      obtain ⟨n1, a1, _, w1⟩ := DataW.trod_int Tryd.underlying3 t1
      obtain ⟨n2, a2, _, w2⟩ := DataW.trod_int Tryd.underlying3 t2
      have at' : ∀ (j : Nat) (z : Value), j < 3 → List.take 1 (List.drop j cs') = [z] → W.cell? (a.add (i * 3 + j)) = some z := by
        intro j z hj hz
        have e1 := hcell j hj
        rw [Addr.add_add] at e1
        rw [e1]
        have := congrArg (fun l => l[0]?) hz
        simpa [List.getElem?_take, List.getElem?_drop] using this
      exact ⟨⟨n0, n1, n2⟩, ⟨wf_i64 w0, wf_i64 w1, wf_i64 w2⟩, at' 0 _ (by omega) a0, at' 1 _ (by omega) a1, at' 2 _ (by omega) a2⟩
    haveI : Inhabited Stil.Dev := ⟨⟨0, 0, 0⟩⟩
    obtain ⟨f, hf⟩ := Deep.choose_lt each
    refine ⟨(List.range len).map f, ?_, ?_, ?_⟩
    · refine ⟨some a, cap, by simp, fun i hi => ?_⟩
      have hi' : i < len := by simpa using hi
      obtain ⟨_, c0, c1, c2⟩ := hf i hi'
      obtain ⟨b, o, sp⟩ := a
      have hsp : sp = none := by
        have hk : 0 < len := by omega
        have := (hf 0 hk).2.1
        simpa [Addr.add] using World.cell?_spot this
      subst hsp
      rw [Addr.add_lit] at c0 c1 c2
      refine ⟨b, o, rfl, lt_of_cell c0, ?_⟩
      simp only [List.getElem_map, List.getElem_range]
      exact ⟨c0, by rw [Nat.add_assoc]; exact c1, by rw [Nat.add_assoc]; exact c2⟩
    · intro d hd
      obtain ⟨i, hi, rfl⟩ := List.mem_map.1 hd
      exact (hf i (by simpa using hi)).1
    · simp; omega
end Go.Proofs.YthhfnncehfkbfaaDoor
