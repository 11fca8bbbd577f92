/- FR: texts put together. -/
import Derived.Test.YthhfnncehfkbfaaDoorGJ
import Derived.Test.YthhfnncehfkbfaaDoorFR0
import Derived.ProofKit
import Derived.OpenShut
import Derived.OpenVars
import Derived.LaidMore
import Derived.Lay
import Derived.Deep.DeepHandedRow
import Derived.Lib.SmallJoins
/- From what a row says of memory to what the walks ask: the table of kinds, and a slice of operands. -/
namespace Go.Proofs.YthhfnncehfkbfaaDoor
open Go.ChangeShapes Go.WideShapes Go.ChangeAt Go.RowKit
theorem laid_at {P : Program} {W : World} : ∀ {l : List (String × DataW Unit)} {ps : List MemPlace}, DataW.LaidVars P W l ps → ∀ {n : String} {d : DataW Unit}, (n, d) ∈ l →
    ∃ g t cs fuel p, P.globalNamed n = some g ∧ (P.globals[g]?).map (·.type) = some t ∧ W.var? P n = some cs ∧ DataW.trod (fun _ => ()) P W 0 (fun _ => true) false fuel t cs.toList = some (d, p)
  | [], _, _, _, _, hm => absurd hm (by simp)
  | (n', d') :: r, ps, ⟨g, t, cs, fuel, p, q, h1, h2, h3, h4, hs, _⟩, n, d, hm => by
    rcases List.mem_cons.1 hm with e | hr
    · obtain ⟨rfl, rfl⟩ := Prod.mk.inj e
      exact ⟨g, t, cs, fuel, p, h1, h2, h3, h4⟩
    · exact laid_at hs hr
def rowLit (k : Nat) : DataW Unit := .agg [.lit (.string (Stil.devLetter k).data.toList), .lit (.int .i64 (Stil.devSize k)), .lit (.bool (rowBit k)), .lit (.bool (rowWhole k)), .lit (.bool (rowReal k))]
theorem gRows : Tryd.prog.globalNamed "loop.example/stilway/impl.devRows" = some 0 := by kernel_rfl
theorem gRowsType : (Tryd.prog.globals[0]?).map (·.type) = some 98 := by kernel_rfl
theorem cRow : Tryd.prog.cellsOf 92 = 5 := by kernel_rfl
theorem cBool : Tryd.prog.cellsOf 4 = 1 := by kernel_rfl
theorem cString : Tryd.prog.cellsOf 9 = 1 := by kernel_rfl
theorem bytes_of {s : ByteArray} {b : ByteArray} (h : s.data.toList = b.data.toList) : s = b := by
  cases s; cases b; simp at h; rw [h]
theorem rows_of_var {W : World} {cs : Array Value} {fuel : Nat} {p : List MemPlace} (hv : W.var? Tryd.prog "loop.example/stilway/impl.devRows" = some cs)
    (hd : DataW.trod (fun _ => ()) Tryd.prog W 0 (fun _ => true) false fuel 98 cs.toList = some (.agg ((List.range 14).map rowLit), p)) : RowsAt W := by
  have hcell := fun j => World.var?_cell gRows hv j
  obtain ⟨xs, m, _, ex, hlen, hl, hel⟩ := DataW.trod_array Tryd.underlying98 hd
  have e1 : (List.range 14).map rowLit = xs.map (·.1) := DataW.agg.inj (Prod.mk.inj ex).1
  have hall : ∀ k : Nat, k < 14 → W.cell? ⟨0, k * 5, none⟩ = some (.string (Stil.devLetter k)) ∧ W.cell? ⟨0, k * 5 + 1, none⟩ = some (.int .i64 (Stil.devSize k)) ∧ W.cell? ⟨0, k * 5 + 2, none⟩ = some (.bool (rowBit k)) ∧ W.cell? ⟨0, k * 5 + 3, none⟩ = some (.bool (rowWhole k)) ∧ W.cell? ⟨0, k * 5 + 4, none⟩ = some (.bool (rowReal k)) := by
    intro k hk
    have hxk : k < xs.length := by omega
    have hk1 := hel k hk
    rw [cRow, List.getElem?_eq_getElem hxk] at hk1
    have e2 : xs[k].1 = rowLit k := by
      have := congrArg (fun l => l[k]?) e1
      simp only [List.getElem?_map, List.getElem?_eq_getElem hxk, Option.map_some] at this
      rw [List.getElem?_eq_getElem (by simpa using hk)] at this
      simpa using (Option.some.inj this).symm
    obtain ⟨ys, n, _, ey, hlen2, hl2, hf⟩ := DataW.trod_struct Tryd.underlying92 hk1
    have e3 : ys.map (·.1) = [.lit (.string (Stil.devLetter k).data.toList), .lit (.int .i64 (Stil.devSize k)), .lit (.bool (rowBit k)), .lit (.bool (rowWhole k)), .lit (.bool (rowReal k))] := by
      have h5 := congrArg Prod.fst ey
      rw [e2, rowLit] at h5
      exact (DataW.agg.inj h5).symm
    obtain ⟨y0, y1, y2, y3, y4, rfl⟩ : ∃ y0 y1 y2 y3 y4, ys = [y0, y1, y2, y3, y4] := by
      match ys, hl2 with
      | [y0, y1, y2, y3, y4], _ => exact ⟨_, _, _, _, _, rfl⟩
    simp only [List.map_cons, List.map_nil, List.cons.injEq, and_true] at e3
    obtain ⟨z0, z1, z2, z3, z4⟩ := e3
    have g0 : DataW.trod (fun _ => ()) Tryd.prog W 0 (fun _ => true) false n 9 (List.take 1 (List.drop 0 (List.take 5 (List.drop (k * 5) cs.toList)))) = some y0 := by
      have h : DataW.trod (fun _ => ()) Tryd.prog W 0 (fun _ => true) false n 9 (List.take (Tryd.prog.cellsOf 9) (List.drop 0 (List.take 5 (List.drop (k * 5) cs.toList)))) = some y0 := hf 0 _ rfl
      rw [cString] at h
      exact h
    have g1 : DataW.trod (fun _ => ()) Tryd.prog W 0 (fun _ => true) false n 3 (List.take 1 (List.drop 1 (List.take 5 (List.drop (k * 5) cs.toList)))) = some y1 := by
      have h : DataW.trod (fun _ => ()) Tryd.prog W 0 (fun _ => true) false n 3 (List.take (Tryd.prog.cellsOf 3) (List.drop 1 (List.take 5 (List.drop (k * 5) cs.toList)))) = some y1 := hf 1 _ rfl
      rw [cInt] at h
      exact h
    have g2 : DataW.trod (fun _ => ()) Tryd.prog W 0 (fun _ => true) false n 4 (List.take 1 (List.drop 2 (List.take 5 (List.drop (k * 5) cs.toList)))) = some y2 := by
      have h : DataW.trod (fun _ => ()) Tryd.prog W 0 (fun _ => true) false n 4 (List.take (Tryd.prog.cellsOf 4) (List.drop 2 (List.take 5 (List.drop (k * 5) cs.toList)))) = some y2 := hf 2 _ rfl
      rw [cBool] at h
      exact h
    have g3 : DataW.trod (fun _ => ()) Tryd.prog W 0 (fun _ => true) false n 4 (List.take 1 (List.drop 3 (List.take 5 (List.drop (k * 5) cs.toList)))) = some y3 := by
      have h : DataW.trod (fun _ => ()) Tryd.prog W 0 (fun _ => true) false n 4 (List.take (Tryd.prog.cellsOf 4) (List.drop 3 (List.take 5 (List.drop (k * 5) cs.toList)))) = some y3 := hf 3 _ rfl
      rw [cBool] at h
      exact h
    have g4 : DataW.trod (fun _ => ()) Tryd.prog W 0 (fun _ => true) false n 4 (List.take 1 (List.drop 4 (List.take 5 (List.drop (k * 5) cs.toList)))) = some y4 := by
      have h : DataW.trod (fun _ => ()) Tryd.prog W 0 (fun _ => true) false n 4 (List.take (Tryd.prog.cellsOf 4) (List.drop 4 (List.take 5 (List.drop (k * 5) cs.toList)))) = some y4 := hf 4 _ rfl
      rw [cBool] at h
      exact h
    obtain ⟨s0, a0, b0, _⟩ := DataW.trod_string Tryd.underlying9 g0
    obtain ⟨s1, a1, b1, _⟩ := DataW.trod_int Tryd.underlying3 g1
    obtain ⟨s2, a2, b2⟩ := DataW.trod_bool Tryd.underlying4 g2
    obtain ⟨s3, a3, b3⟩ := DataW.trod_bool Tryd.underlying4 g3
    obtain ⟨s4, a4, b4⟩ := DataW.trod_bool Tryd.underlying4 g4
    subst b0 b1 b2 b3 b4
    simp only [DataW.lit.injEq, Lit.string.injEq, Lit.int.injEq, Lit.bool.injEq, true_and] at z0 z1 z2 z3 z4
    have z0' := bytes_of z0
    subst z0' z1 z2 z3 z4
    have at' : ∀ (j : Nat) (v : Value), j < 5 → List.take 1 (List.drop j (List.take 5 (List.drop (k * 5) cs.toList))) = [v] → W.cell? ⟨0, k * 5 + j, none⟩ = some v := by
      intro j v hj h
      rw [hcell]
      have := congrArg (fun l => l[0]?) h
      simpa [List.getElem?_take, List.getElem?_drop, hj] using this
    exact ⟨at' 0 _ (by omega) a0, at' 1 _ (by omega) a1, at' 2 _ (by omega) a2, at' 3 _ (by omega) a3, at' 4 _ (by omega) a4⟩
  refine ⟨?_, hall⟩
  have := (hall 0 (by omega)).1
  exact lt_of_cell this
theorem rows_of_laid {W : World} {l : List (String × DataW Unit)} (h : laidMet Tryd.prog l W) (hm : ("loop.example/stilway/impl.devRows", DataW.agg ((List.range 14).map rowLit)) ∈ l) : RowsAt W := by
  obtain ⟨ps, hl, _, _⟩ := h
  obtain ⟨g, t, cs, fuel, p, h1, h2, h3, h4⟩ := laid_at hl hm
  obtain rfl := Option.some.inj (gRows.symm.trans h1)
  obtain rfl := Option.some.inj (gRowsType.symm.trans h2)
  exact rows_of_var h3 h4
end Go.Proofs.YthhfnncehfkbfaaDoor
