/- S3: texts put together. -/
import Derived.Test.YtipdjmbgbehkaaaGreatDoorGg
import Derived.Deep.DeepCutAuto
import Derived.Test.YtipdjmbgbehkaaaGreatDoorGM
import Derived.Test.YtipdjmbgbehkaaaGreatDoorGd
import Derived.Test.YtipdjmbgbehkaaaGreatDoorGP
/- Contracts of the specification's chapter 3, first part: sizes. -/
namespace Go.Proofs.YtipdjmbgbehkaaaGreatDoor
open Go.RowKit Go.Sort Go.BigFrame
end Go.Proofs.YtipdjmbgbehkaaaGreatDoor
/- L3a, L3b: texts put together. -/
/- Contracts of the laws' helpers for ladders: what they weigh. -/
namespace Go.Proofs.YtipdjmbgbehkaaaGreatDoor
open Go.RowKit Go.Sort Go.BigFrame
end Go.Proofs.YtipdjmbgbehkaaaGreatDoor
/- Contracts of the laws' helpers for ladders: copies. -/
namespace Go.Proofs.YtipdjmbgbehkaaaGreatDoor
open Go.RowKit Go.Sort Go.BigFrame
end Go.Proofs.YtipdjmbgbehkaaaGreatDoor
/- L7a, L7c, L7b: texts put together. -/
/- Contracts of the laws' helpers for lists of instructions: what they weigh. -/
namespace Go.Proofs.YtipdjmbgbehkaaaGreatDoor
open Go.RowKit Go.Sort Go.BigFrame
end Go.Proofs.YtipdjmbgbehkaaaGreatDoor
/- Contracts of the laws' helpers for lists of instructions: are two the same. -/
namespace Go.Proofs.YtipdjmbgbehkaaaGreatDoor
open Go.RowKit Go.Sort Go.BigFrame
end Go.Proofs.YtipdjmbgbehkaaaGreatDoor
/- Contracts of the laws' helpers for lists of instructions: copies. -/
namespace Go.Proofs.YtipdjmbgbehkaaaGreatDoor
open Go.RowKit Go.Sort Go.BigFrame
theorem info_Inst : (Tryz.prog.info? 31).map (fun i => (i.zero, i.size, i.bytes)) = some (some (.agg #[.int .i64 0, .int .i64 0, .slice none 0 0]), 3, 40) := by kernel_rfl
end Go.Proofs.YtipdjmbgbehkaaaGreatDoor
/- P1, P2, P3, P4, P5, P6, P7: texts put together. -/
/- Marks: the whole numbers that a mark goes through, in their order, as places in memory; nothing is said of what they held. -/
namespace Go.Proofs.YtipdjmbgbehkaaaGreatDoor
open Go.RowKit Go.Sort Go.BigFrame
/-- A place: block and offset. -/
abbrev Pl := Nat × Nat
def ad (p : Pl) : Addr := ⟨p.1, p.2, none⟩
end Go.Proofs.YtipdjmbgbehkaaaGreatDoor
/- Contracts of the laws' helpers that mark and hold operands, over places. -/
namespace Go.Proofs.YtipdjmbgbehkaaaGreatDoor
open Go.RowKit Go.Sort Go.BigFrame
end Go.Proofs.YtipdjmbgbehkaaaGreatDoor
/- Contracts of the laws' helpers that mark and hold lists of instructions, over places. -/
namespace Go.Proofs.YtipdjmbgbehkaaaGreatDoor
open Go.RowKit Go.Sort Go.BigFrame
end Go.Proofs.YtipdjmbgbehkaaaGreatDoor
/- Contracts of the laws' helpers that mark and hold lists of lists of instructions, over places. -/
namespace Go.Proofs.YtipdjmbgbehkaaaGreatDoor
open Go.RowKit Go.Sort Go.BigFrame
end Go.Proofs.YtipdjmbgbehkaaaGreatDoor
/- Lists of lists of instructions: how they lie; are two the same. -/
namespace Go.Proofs.YtipdjmbgbehkaaaGreatDoor
open Go.RowKit Go.Sort Go.BigFrame
end Go.Proofs.YtipdjmbgbehkaaaGreatDoor
/- Places of what a list of instructions owns. -/
namespace Go.Proofs.YtipdjmbgbehkaaaGreatDoor
open Go.RowKit Go.Sort Go.BigFrame
end Go.Proofs.YtipdjmbgbehkaaaGreatDoor
/- The laws' copy of a list of instructions: its places. -/
namespace Go.Proofs.YtipdjmbgbehkaaaGreatDoor
open Go.RowKit Go.Sort Go.BigFrame
end Go.Proofs.YtipdjmbgbehkaaaGreatDoor
/- From what a row says of memory to what the walks ask: lists of instructions and their words. -/
namespace Go.Proofs.YtipdjmbgbehkaaaGreatDoor
open Go.ChangeShapes Go.WideShapes Go.ChangeAt Go.RowKit
theorem gLWords : Tryz.prog.globalNamed "loop.example/stilway/impl.listWords" = some 0 := by kernel_rfl
theorem gLWordsType : (Tryz.prog.globals[0]?).map (·.type) = some 98 := by kernel_rfl
theorem lwords_of_laid {W : World} {l : List (String × DataW Unit)} (h : laidMet Tryz.prog l W) (hm : ("loop.example/stilway/impl.listWords", DataW.agg (Stil.listWords.map fun x => DataW.lit (Lit.string x))) ∈ l) : LWordsAt W := by
  obtain ⟨ps, hl, _, _⟩ := h
  obtain ⟨g, t, cs, fuel, p, h1, h2, h3, h4⟩ := laid_at hl hm
  obtain rfl := Option.some.inj (gLWords.symm.trans h1)
  obtain rfl := Option.some.inj (gLWordsType.symm.trans h2)
  have hcell := fun j => World.var?_cell gLWords h3 j
  obtain ⟨xs, m, _, ex, hlen, hl, hel⟩ := DataW.trod_array Tryz.underlying98 h4
  have e1 : (Stil.listWords.map fun x => DataW.lit (H := Unit) (Lit.string x)) = xs.map (·.1) := DataW.agg.inj (Prod.mk.inj ex).1
  have hall : ∀ k : Nat, k < 12 → W.cell? ⟨0, k, none⟩ = some (.string ⟨(Stil.listWords.getD k []).toArray⟩) := by
    intro k hk
    have hxk : k < xs.length := by omega
    have hk1 := hel k hk
    rw [cString, List.getElem?_eq_getElem hxk, Nat.mul_one] at hk1
    obtain ⟨s, hc, hs, _⟩ := DataW.trod_string Tryz.underlying9 hk1
    have hkw : k < Stil.listWords.length := hk
    have e2 : xs[k].1 = .lit (.string (Stil.listWords.getD k [])) := by
      have := congrArg (fun l => l[k]?) e1
      simp only [List.getElem?_map, List.getElem?_eq_getElem hxk, Option.map_some] at this
      rw [List.getElem?_eq_getElem hkw] at this
      rw [← Option.some.inj this, List.getD, List.getElem?_eq_getElem hkw]; rfl
    rw [hs] at e2
    simp only [DataW.lit.injEq, Lit.string.injEq] at e2
    have hsb : s = ⟨(Stil.listWords.getD k []).toArray⟩ := bytes_of (by rw [e2])
    rw [hcell, ← hsb]
    have := congrArg (fun l => l[0]?) hc
    simpa [List.getElem?_take, List.getElem?_drop] using this
  exact ⟨lt_of_cell (hall 0 (by omega)), hall⟩
end Go.Proofs.YtipdjmbgbehkaaaGreatDoor
