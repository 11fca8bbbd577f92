/- From what a row says of memory to what the walks ask: lists of instructions and their words. -/
import Derived.Test.YtipdjmbgbehkaaaGreatDoorGP
import Derived.Test.YtipdjmbgbehkaaaGreatDoorFR3
import Derived.Test.YtipdjmbgbehkaaaGreatDoorGd
import Derived.Test.YtipdjmbgbehkaaaGreatDoorGb
namespace Go.Proofs.YtipdjmbgbehkaaaGreatDoor
open Go.ChangeShapes Go.WideShapes Go.ChangeAt Go.RowKit
theorem gLWords : Tryz.prog.globalNamed "loop.example/stilway/impl.listWords" = some 0 := by kernel_rfl
theorem gLWordsType : (Tryz.prog.globals[0]?).map (·.type) = some 98 := by kernel_rfl
theorem lwords_of_laid {W : World} {l : List (String × DataW Unit)} (h : laidMet Tryz.prog l W) (hm : ("loop.example/stilway/impl.listWords", DataW.agg (Stil.listWords.map fun x => DataW.lit (Lit.string x))) ∈ l) : LWordsAt W := by
  obtain ⟨ps, hl, _, _⟩ := h
  obtain ⟨g, t, cs, fuel, p, h1, h2, h3, h4⟩ := laid_at hl hm
  obtain rfl := Option.some.inj (gLWords.symm.trans h1)
  obtain rfl := Option.some.inj (gLWordsType.symm.trans h2)
  have hcell := fun j => World.var?_cell gLWords h3 j
  obtain ⟨xs, m, _, ex, hlen, hl, hel⟩ := DataW.trod_array Tryz.underlying98 h4
  have e1 : (Stil.listWords.map fun x => DataW.lit (H := Unit) (Lit.string x)) = xs.map (·.1) := DataW.agg.inj (Prod.mk.inj ex).1
  have hall : ∀ k : Nat, k < 12 → W.cell? ⟨0, k, none⟩ = some (.string ⟨(Stil.listWords.getD k []).toArray⟩) := by
    intro k hk
    have hxk : k < xs.length := by omega
    have hk1 := hel k hk
    rw [cString, List.getElem?_eq_getElem hxk, Nat.mul_one] at hk1
    obtain ⟨s, hc, hs, _⟩ := DataW.trod_string Tryz.underlying9 hk1
    have hkw : k < Stil.listWords.length := hk
    have e2 : xs[k].1 = .lit (.string (Stil.listWords.getD k [])) := by
      have := congrArg (fun l => l[k]?) e1
      simp only [List.getElem?_map, List.getElem?_eq_getElem hxk, Option.map_some] at this
      rw [List.getElem?_eq_getElem hkw] at this
      rw [← Option.some.inj this, List.getD, List.getElem?_eq_getElem hkw]; rfl
    rw [hs] at e2
    simp only [DataW.lit.injEq, Lit.string.injEq] at e2
    have hsb : s = ⟨(Stil.listWords.getD k []).toArray⟩ := bytes_of (by rw [e2])
    rw [hcell, ← hsb]
    have := congrArg (fun l => l[0]?) hc
    simpa [List.getElem?_take, List.getElem?_drop] using this
  exact ⟨lt_of_cell (hall 0 (by omega)), hall⟩
end Go.Proofs.YtipdjmbgbehkaaaGreatDoor
