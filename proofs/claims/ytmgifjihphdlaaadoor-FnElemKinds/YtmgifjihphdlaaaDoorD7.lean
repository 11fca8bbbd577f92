/- Contracts of the specification's draws: boxes of operands and of contacts or coils; l2Contact. -/
import Derived.Test.YtmgifjihphdlaaaDoorD6
import Derived.Deep.DeepCutAuto
namespace Go.Proofs.YtmgifjihphdlaaaDoor
open Go.RowKit Go.Sort Go.BigFrame
/-- A variable of an operand. -/
def DevBox (w : World) (b : Nat) (d : Stil.Dev) : Prop := b < w.heap.size ∧ w.cell? ⟨b, 0, none⟩ = some (.int .i64 d.kind) ∧ w.cell? ⟨b, 1, none⟩ = some (.int .i64 d.n) ∧ w.cell? ⟨b, 2, none⟩ = some (.int .i64 d.p) ∧ w.frozen? ⟨b, 0, none⟩ = false ∧ w.frozen? ⟨b, 1, none⟩ = false ∧ w.frozen? ⟨b, 2, none⟩ = false
/-- A variable of a contact or coil. -/
def ElBox (w : World) (b : Nat) (op : Int) (v : Value) : Prop := b < w.heap.size ∧ w.cell? ⟨b, 0, none⟩ = some (.int .i64 op) ∧ w.cell? ⟨b, 1, none⟩ = some v ∧ w.frozen? ⟨b, 0, none⟩ = false ∧ w.frozen? ⟨b, 1, none⟩ = false
theorem DevBox.grown {w w' : World} {g b : Nat} {d : Stil.Dev} (h : DevBox w b d) (hg : w.grownBy w' (some g)) (hne : b ≠ g) : DevBox w' b d := by
  obtain ⟨h0, h1, h2, h3, h4, h5, h6⟩ := h
  refine ⟨Nat.lt_of_lt_of_le h0 hg.size, ?_, ?_, ?_, ?_, ?_, ?_⟩
  · rw [grown_cell hg h0 hne]; exact h1
  · rw [grown_cell hg h0 hne]; exact h2
  · rw [grown_cell hg h0 hne]; exact h3
  · rw [grown_frozen hg h0 hne]; exact h4
  · rw [grown_frozen hg h0 hne]; exact h5
  · rw [grown_frozen hg h0 hne]; exact h6
theorem ElBox.grown {w w' : World} {g b : Nat} {op : Int} {v : Value} (h : ElBox w b op v) (hg : w.grownBy w' (some g)) (hne : b ≠ g) : ElBox w' b op v := by
  obtain ⟨h0, h1, h2, h3, h4⟩ := h
  refine ⟨Nat.lt_of_lt_of_le h0 hg.size, ?_, ?_, ?_, ?_⟩
  · rw [grown_cell hg h0 hne]; exact h1
  · rw [grown_cell hg h0 hne]; exact h2
  · rw [grown_frozen hg h0 hne]; exact h3
  · rw [grown_frozen hg h0 hne]; exact h4
theorem ElArgs.setAt {w : World} {g r o b0 o0 n cap : Nat} {u : Value} {ds : List Stil.Dev} (hne : r ≠ b0) (h : ElArgs w g (.slice (some ⟨b0, o0, none⟩) n cap) ds) : ElArgs (w.setCell ⟨r, o, none⟩ u) g (.slice (some ⟨b0, o0, none⟩) n cap) ds := by
  obtain ⟨a, c, hv, hc, hx⟩ := h
  simp only [Value.slice.injEq] at hv
  obtain ⟨rfl, rfl, rfl⟩ := hv
  refine ⟨_, _, rfl, hc, fun i hi => ?_⟩
  obtain ⟨b, q, h1, h2, h3, h4, h5, h6⟩ := hx i hi
  have hb : b = b0 := by simp only [Option.some.injEq, Addr.mk.injEq] at h1; exact h1.1.symm
  subst hb
  refine ⟨b, q, h1, h2, by simpa using h3, ?_, ?_, ?_⟩
  · rw [cell_set_other (Ne.symm hne)]; exact h4
  · rw [cell_set_other (Ne.symm hne)]; exact h5
  · rw [cell_set_other (Ne.symm hne)]; exact h6
theorem el_lit2 {X we : World} {g lo b : Nat} (ds : List Stil.Dev) (cs : Array Value) (hgr : (X.alloc (.cells cs 31)).grownBy we (some g)) (hlo : g ≤ lo) (hb : b = X.heap.size) (hgb : lo < b) (hcs : cs.toList = devsCells ds) (hl : ds.length ≤ 100) : ElArgs we lo (.slice (some ⟨b, 0, none⟩) ds.length ds.length) ds :=
  (el_lit ds cs hb hgb hcs hl).grown hgr hlo
theorem el_take {w : World} {g n cap : Nat} {a : Option Addr} {ds : List Stil.Dev} (k : Nat) (h : ElArgs w g (.slice a n cap) ds) (hk : k ≤ ds.length) : ElArgs w g (.slice a k cap) (ds.take k) := by
  obtain ⟨a', c, hv, hc, hx⟩ := h
  simp only [Value.slice.injEq] at hv
  obtain ⟨rfl, rfl, rfl⟩ := hv
  have hl : (ds.take k).length = k := by simp; omega
  refine ⟨_, _, by rw [hl], ⟨by omega, hc.2⟩, fun i hi => ?_⟩
  obtain ⟨b, q, h1, h2, h3, h4⟩ := hx i (by omega)
  refine ⟨b, q, h1, h2, h3, ?_⟩
  rw [List.getElem_take]
  exact h4
end Go.Proofs.YtmgifjihphdlaaaDoor
