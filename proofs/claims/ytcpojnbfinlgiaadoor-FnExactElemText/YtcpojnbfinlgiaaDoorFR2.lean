/- From what a row says of memory to what the walks ask: the words, and the library's powers of ten. -/
import Derived.Test.YtcpojnbfinlgiaaDoorFR
import Derived.Test.YtcpojnbfinlgiaaDoorGK
import Derived.Lib.LaidTab
namespace Go.Proofs.YtcpojnbfinlgiaaDoor
open Go.ChangeShapes Go.WideShapes Go.ChangeAt Go.RowKit
theorem gWords : Tryd.prog.globalNamed "loop.example/stilway/impl.devWords" = some 0 := by kernel_rfl
theorem gWordsType : (Tryd.prog.globals[0]?).map (·.type) = some 60 := by kernel_rfl
theorem gPowType : (Tryd.prog.globals[2]?).map (·.type) = some 103 := by kernel_rfl
theorem cPow : Tryd.prog.cellsOf 103 = 20 := by kernel_rfl
theorem cU64 : Tryd.prog.cellsOf 89 = 1 := by kernel_rfl
theorem words_of_laid {W : World} {l : List (String × DataW Unit)} (h : laidMet Tryd.prog l W) (hm : ("loop.example/stilway/impl.devWords", DataW.agg (Stil.words.map fun x => DataW.lit (Lit.string x))) ∈ l) : WordsAt W := by
  obtain ⟨ps, hl, _, _⟩ := h
  obtain ⟨g, t, cs, fuel, p, h1, h2, h3, h4⟩ := laid_at hl hm
  obtain rfl := Option.some.inj (gWords.symm.trans h1)
  obtain rfl := Option.some.inj (gWordsType.symm.trans h2)
  have hcell := fun j => World.var?_cell gWords h3 j
  obtain ⟨xs, m, _, ex, hlen, hl, hel⟩ := DataW.trod_array Tryd.underlying60 h4
  have e1 : (Stil.words.map fun x => DataW.lit (H := Unit) (Lit.string x)) = xs.map (·.1) := DataW.agg.inj (Prod.mk.inj ex).1
  have hall : ∀ k : Nat, k < 4 → W.cell? ⟨0, k, none⟩ = some (.string ⟨(Stil.words.getD k []).toArray⟩) := by
    intro k hk
    have hxk : k < xs.length := by omega
    have hk1 := hel k hk
    rw [cString, List.getElem?_eq_getElem hxk, Nat.mul_one] at hk1
    obtain ⟨s, hc, hs, _⟩ := DataW.trod_string Tryd.underlying9 hk1
    have hkw : k < Stil.words.length := hk
    have e2 : xs[k].1 = .lit (.string (Stil.words.getD k [])) := by
      have := congrArg (fun l => l[k]?) e1
      simp only [List.getElem?_map, List.getElem?_eq_getElem hxk, Option.map_some] at this
      rw [List.getElem?_eq_getElem hkw] at this
      rw [← Option.some.inj this, List.getD, List.getElem?_eq_getElem hkw]; rfl
    rw [hs] at e2
    simp only [DataW.lit.injEq, Lit.string.injEq] at e2
    have hsb : s = ⟨(Stil.words.getD k []).toArray⟩ := bytes_of (by rw [e2])
    rw [hcell, ← hsb]
    have := congrArg (fun l => l[0]?) hc
    simpa [List.getElem?_take, List.getElem?_drop] using this
  exact ⟨lt_of_cell (hall 0 (by omega)), hall⟩
theorem pow_of_laid {W : World} {l : List (String × DataW Unit)} (h : laidMet Tryd.prog l W) (hm : ("internal/strconv.uint64pow10", Lib.tabData .u64 Lib.pow10Tab) ∈ l) : PowAt W := by
  obtain ⟨ps, hl, _, _⟩ := h
  obtain ⟨g, t, cs, fuel, p, h1, h2, h3, h4⟩ := laid_at hl hm
  obtain rfl := Option.some.inj (gPow.symm.trans h1)
  obtain rfl := Option.some.inj (gPowType.symm.trans h2)
  unfold PowAt Lib.TabIs
  rw [h3, ← Lib.cells_of_tab Tryd.underlying103 Tryd.underlying89 cU64 cPow h4]
end Go.Proofs.YtcpojnbfinlgiaaDoor
