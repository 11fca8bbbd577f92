/- D6, D7: texts put together. -/
import Derived.Test.YtnnhbjgegkikoaaDoorGD
import Derived.Deep.DeepCutAuto
/- Contracts of the specification's draws: contacts. -/
namespace Go.Proofs.YtnnhbjgegkikoaaDoor
open Go.RowKit Go.Sort Go.BigFrame
/-- A slice of operands in memory behind the reader. -/
def ElArgs (w : World) (g : Nat) (v : Value) (ds : List Stil.Dev) : Prop := ∃ a cap, v = .slice a ds.length cap ∧ (ds.length ≤ cap ∧ (a = none → cap = 0)) ∧ ∀ i (h : i < ds.length), ∃ b o, a = some ⟨b, o, none⟩ ∧ g < b ∧ b < w.heap.size ∧ DevAt w b (o + i * 3) ds[i]
theorem ElArgs.devs {w : World} {g : Nat} {v : Value} {ds : List Stil.Dev} (h : ElArgs w g v ds) : DevsAt w v ds := by
  obtain ⟨a, cap, rfl, _, hx⟩ := h
  exact ⟨a, cap, rfl, fun i hi => by obtain ⟨b, o, h1, _, h2, h3⟩ := hx i hi; exact ⟨b, o, h1, h2, h3⟩⟩
theorem ElArgs.grown {w w' : World} {g lo : Nat} {v : Value} {ds : List Stil.Dev} (h : ElArgs w lo v ds) (hg : w.grownBy w' (some g)) (hlo : g ≤ lo) : ElArgs w' lo v ds := by
  obtain ⟨a, cap, rfl, hc, hx⟩ := h
  refine ⟨a, cap, rfl, hc, fun i hi => ?_⟩
  obtain ⟨b, o, h1, h2, h3, h4, h5, h6⟩ := hx i hi
  refine ⟨b, o, h1, h2, Nat.lt_of_lt_of_le h3 hg.size, ?_, ?_, ?_⟩
  · rw [grown_cell hg h3 (by omega)]; exact h4
  · rw [grown_cell hg h3 (by omega)]; exact h5
  · rw [grown_cell hg h3 (by omega)]; exact h6
theorem ElArgs.mono {w : World} {lo hi : Nat} {v : Value} {ds : List Stil.Dev} (h : ElArgs w hi v ds) (hl : lo ≤ hi) : ElArgs w lo v ds := by
  obtain ⟨a, cap, rfl, hc, hx⟩ := h
  refine ⟨a, cap, rfl, hc, fun i hi => ?_⟩
  obtain ⟨b, o, h1, h2, h3⟩ := hx i hi
  exact ⟨b, o, h1, by omega, h3⟩
theorem ElArgs.set {w : World} {lo r o : Nat} {v u : Value} {ds : List Stil.Dev} (hr : r ≤ lo) (h : ElArgs w lo v ds) : ElArgs (w.setCell ⟨r, o, none⟩ u) lo v ds := by
  obtain ⟨a, cap, rfl, hc, hx⟩ := h
  refine ⟨a, cap, rfl, hc, fun i hi => ?_⟩
  obtain ⟨b, q, h1, h2, h3, h4, h5, h6⟩ := hx i hi
  refine ⟨b, q, h1, h2, by simpa using h3, ?_, ?_, ?_⟩
  · rw [cell_set_other (by omega)]; exact h4
  · rw [cell_set_other (by omega)]; exact h5
  · rw [cell_set_other (by omega)]; exact h6
theorem ElArgs.alloc {w : World} {lo : Nat} {v : Value} {ds : List Stil.Dev} (h : ElArgs w lo v ds) (ob : Obj) : ElArgs (w.alloc ob) lo v ds := by
  obtain ⟨a, cap, rfl, hc, hx⟩ := h
  refine ⟨a, cap, rfl, hc, fun i hi => ?_⟩
  obtain ⟨b, q, h1, h2, h3, h4, h5, h6⟩ := hx i hi
  refine ⟨b, q, h1, h2, by simp; omega, ?_, ?_, ?_⟩
  · rw [cell_alloc_old h3]; exact h4
  · rw [cell_alloc_old h3]; exact h5
  · rw [cell_alloc_old h3]; exact h6
/-- What a draw of a contact or coil leaves. -/
def ElOut (e : Ending) (w w' : World) (g Q k : Nat) : Prop := ∃ (op : Int) (v : Value) (ds : List Stil.Dev), e = .returned (.agg #[.int .i64 op, v]) ∧ (-1000000 ≤ op ∧ op ≤ 1000000) ∧ ElArgs w' (w.heap.size - 1) v ds ∧ (∀ d ∈ ds, Small d) ∧ ds.length ≤ k ∧ RdAt w' g Q ∧ w.grownBy w' (some g)
theorem all1 {a : Stil.Dev} (ha : Small a) : ∀ d ∈ [a], Small d := by intro d hd; simp at hd; subst hd; exact ha
theorem all2 {a b : Stil.Dev} (ha : Small a) (hb : Small b) : ∀ d ∈ [a, b], Small d := by intro d hd; simp at hd; rcases hd with rfl | rfl; exact ha; exact hb
theorem all3 {a b c : Stil.Dev} (ha : Small a) (hb : Small b) (hc : Small c) : ∀ d ∈ [a, b, c], Small d := by intro d hd; simp at hd; rcases hd with rfl | rfl | rfl; exact ha; exact hb; exact hc
theorem el_lit {X : World} {g b : Nat} (ds : List Stil.Dev) (cs : Array Value) (hb : b = X.heap.size) (hgb : g < b) (hcs : cs.toList = devsCells ds) (hl : ds.length ≤ 100) : ElArgs (X.alloc (.cells cs 31)) g (.slice (some ⟨b, 0, none⟩) ds.length ds.length) ds := by
  subst hb
  have hsz : cs.size = ds.length * 3 := by
    have := congrArg List.length hcs
    rw [devsCells_length] at this
    simpa using this
  have h := World.ownsRow_lit (base := X.heap.size) (e := 31) (size := 3) X cs ds.length (Nat.le_refl _) (by unfold maxLen; omega) hsz
  rw [hcs] at h
  obtain ⟨a, cap, hv, hx⟩ := DevsAt.of_owns h
  simp only [Value.slice.injEq] at hv
  obtain ⟨rfl, _, rfl⟩ := hv
  refine ⟨_, _, rfl, ⟨Nat.le_refl _, fun h => by cases h⟩, fun i hi => ?_⟩
  obtain ⟨b, o, h1, h2, h3⟩ := hx i hi
  have hb' : b = X.heap.size := by simp only [Option.some.injEq, Addr.mk.injEq] at h1; exact h1.1.symm
  exact ⟨b, o, h1, by omega, h2, h3⟩
end Go.Proofs.YtnnhbjgegkikoaaDoor
/- Contracts of the specification's draws: boxes of operands and of contacts or coils; l2Contact. -/
namespace Go.Proofs.YtnnhbjgegkikoaaDoor
open Go.RowKit Go.Sort Go.BigFrame
/-- A variable of an operand. -/
def DevBox (w : World) (b : Nat) (d : Stil.Dev) : Prop := b < w.heap.size ∧ w.cell? ⟨b, 0, none⟩ = some (.int .i64 d.kind) ∧ w.cell? ⟨b, 1, none⟩ = some (.int .i64 d.n) ∧ w.cell? ⟨b, 2, none⟩ = some (.int .i64 d.p) ∧ w.frozen? ⟨b, 0, none⟩ = false ∧ w.frozen? ⟨b, 1, none⟩ = false ∧ w.frozen? ⟨b, 2, none⟩ = false
/-- A variable of a contact or coil. -/
def ElBox (w : World) (b : Nat) (op : Int) (v : Value) : Prop := b < w.heap.size ∧ w.cell? ⟨b, 0, none⟩ = some (.int .i64 op) ∧ w.cell? ⟨b, 1, none⟩ = some v ∧ w.frozen? ⟨b, 0, none⟩ = false ∧ w.frozen? ⟨b, 1, none⟩ = false
theorem DevBox.grown {w w' : World} {g b : Nat} {d : Stil.Dev} (h : DevBox w b d) (hg : w.grownBy w' (some g)) (hne : b ≠ g) : DevBox w' b d := by
  obtain ⟨h0, h1, h2, h3, h4, h5, h6⟩ := h
  refine ⟨Nat.lt_of_lt_of_le h0 hg.size, ?_, ?_, ?_, ?_, ?_, ?_⟩
  · rw [grown_cell hg h0 hne]; exact h1
  · rw [grown_cell hg h0 hne]; exact h2
  · rw [grown_cell hg h0 hne]; exact h3
  · rw [grown_frozen hg h0 hne]; exact h4
  · rw [grown_frozen hg h0 hne]; exact h5
  · rw [grown_frozen hg h0 hne]; exact h6
theorem ElBox.grown {w w' : World} {g b : Nat} {op : Int} {v : Value} (h : ElBox w b op v) (hg : w.grownBy w' (some g)) (hne : b ≠ g) : ElBox w' b op v := by
  obtain ⟨h0, h1, h2, h3, h4⟩ := h
  refine ⟨Nat.lt_of_lt_of_le h0 hg.size, ?_, ?_, ?_, ?_⟩
  · rw [grown_cell hg h0 hne]; exact h1
  · rw [grown_cell hg h0 hne]; exact h2
  · rw [grown_frozen hg h0 hne]; exact h3
  · rw [grown_frozen hg h0 hne]; exact h4
theorem ElArgs.setAt {w : World} {g r o b0 o0 n cap : Nat} {u : Value} {ds : List Stil.Dev} (hne : r ≠ b0) (h : ElArgs w g (.slice (some ⟨b0, o0, none⟩) n cap) ds) : ElArgs (w.setCell ⟨r, o, none⟩ u) g (.slice (some ⟨b0, o0, none⟩) n cap) ds := by
  obtain ⟨a, c, hv, hc, hx⟩ := h
  simp only [Value.slice.injEq] at hv
  obtain ⟨rfl, rfl, rfl⟩ := hv
  refine ⟨_, _, rfl, hc, fun i hi => ?_⟩
  obtain ⟨b, q, h1, h2, h3, h4, h5, h6⟩ := hx i hi
  have hb : b = b0 := by simp only [Option.some.injEq, Addr.mk.injEq] at h1; exact h1.1.symm
  subst hb
  refine ⟨b, q, h1, h2, by simpa using h3, ?_, ?_, ?_⟩
  · rw [cell_set_other (Ne.symm hne)]; exact h4
  · rw [cell_set_other (Ne.symm hne)]; exact h5
  · rw [cell_set_other (Ne.symm hne)]; exact h6
theorem el_lit2 {X we : World} {g lo b : Nat} (ds : List Stil.Dev) (cs : Array Value) (hgr : (X.alloc (.cells cs 31)).grownBy we (some g)) (hlo : g ≤ lo) (hb : b = X.heap.size) (hgb : lo < b) (hcs : cs.toList = devsCells ds) (hl : ds.length ≤ 100) : ElArgs we lo (.slice (some ⟨b, 0, none⟩) ds.length ds.length) ds :=
  (el_lit ds cs hb hgb hcs hl).grown hgr hlo
theorem el_take {w : World} {g n cap : Nat} {a : Option Addr} {ds : List Stil.Dev} (k : Nat) (h : ElArgs w g (.slice a n cap) ds) (hk : k ≤ ds.length) : ElArgs w g (.slice a k cap) (ds.take k) := by
  obtain ⟨a', c, hv, hc, hx⟩ := h
  simp only [Value.slice.injEq] at hv
  obtain ⟨rfl, rfl, rfl⟩ := hv
  have hl : (ds.take k).length = k := by simp; omega
  refine ⟨_, _, by rw [hl], ⟨by omega, hc.2⟩, fun i hi => ?_⟩
  obtain ⟨b, q, h1, h2, h3, h4⟩ := hx i (by omega)
  refine ⟨b, q, h1, h2, h3, ?_⟩
  rw [List.getElem_take]
  exact h4
end Go.Proofs.YtnnhbjgegkikoaaDoor
