/- From what a row says of memory to what the walks ask: lists of instructions and their words. -/
import Derived.Test.YtpaljcoojkbhnaaGreatDoorGP
import Derived.Test.YtpaljcoojkbhnaaGreatDoorFR3
import Derived.Test.YtpaljcoojkbhnaaGreatDoorGd
import Derived.Test.YtpaljcoojkbhnaaGreatDoorGb
namespace Go.Proofs.YtpaljcoojkbhnaaGreatDoor
open Go.ChangeShapes Go.WideShapes Go.ChangeAt Go.RowKit
theorem gLWords : Tryz.prog.globalNamed "loop.example/stilway/impl.listWords" = some 1 := by kernel_rfl
theorem gLWordsType : (Tryz.prog.globals[1]?).map (·.type) = some 168 := by kernel_rfl
theorem lwords_of_laid {W : World} {l : List (String × DataW Unit)} (h : laidMet Tryz.prog l W) (hm : ("loop.example/stilway/impl.listWords", DataW.agg (Stil.listWords.map fun x => DataW.lit (Lit.string x))) ∈ l) : LWordsAt W := by
  obtain ⟨ps, hl, _, _⟩ := h
  obtain ⟨g, t, cs, fuel, p, h1, h2, h3, h4⟩ := laid_at hl hm
  obtain rfl := Option.some.inj (gLWords.symm.trans h1)
  obtain rfl := Option.some.inj (gLWordsType.symm.trans h2)
  have hcell := fun j => World.var?_cell gLWords h3 j
  obtain ⟨xs, m, _, ex, hlen, hl, hel⟩ := DataW.trod_array Tryz.underlying168 h4
  have e1 : (Stil.listWords.map fun x => DataW.lit (H := Unit) (Lit.string x)) = xs.map (·.1) := DataW.agg.inj (Prod.mk.inj ex).1
  have hall : ∀ k : Nat, k < 12 → W.cell? ⟨1, k, none⟩ = some (.string ⟨(Stil.listWords.getD k []).toArray⟩) := by
    intro k hk
    have hxk : k < xs.length := by omega
    have hk1 := hel k hk
    rw [cString, List.getElem?_eq_getElem hxk, Nat.mul_one] at hk1
    obtain ⟨s, hc, hs, _⟩ := DataW.trod_string Tryz.underlying9 hk1
    have hkw : k < Stil.listWords.length := hk
    have e2 : xs[k].1 = .lit (.string (Stil.listWords.getD k [])) := by
      have := congrArg (fun l => l[k]?) e1
      simp only [List.getElem?_map, List.getElem?_eq_getElem hxk, Option.map_some] at this
      rw [List.getElem?_eq_getElem hkw] at this
      rw [← Option.some.inj this, List.getD, List.getElem?_eq_getElem hkw]; rfl
    rw [hs] at e2
    simp only [DataW.lit.injEq, Lit.string.injEq] at e2
    have hsb : s = ⟨(Stil.listWords.getD k []).toArray⟩ := bytes_of (by rw [e2])
    rw [hcell, ← hsb]
    have := congrArg (fun l => l[0]?) hc
    simpa [List.getElem?_take, List.getElem?_drop] using this
  exact ⟨lt_of_cell (hall 0 (by omega)), hall⟩
theorem cInst : Tryz.prog.cellsOf 49 = 3 := by kernel_rfl
theorem insts_of_trod {H : Type} {enc : TypeId × Value → H} {W : World} {fuel : Nat} {v : Value} {x : DataW H × List MemPlace} (h : DataW.trod enc Tryz.prog W 0 (fun _ => true) true fuel 22 [v] = some x) :
    ∃ l : List Stil.Inst, InstsAt W v l ∧ (∀ i ∈ l, i.wf) ∧ l.length ≤ 9223372036854775807 := by
  haveI : Inhabited Stil.Inst := ⟨⟨0, ⟨0, []⟩⟩⟩
  obtain ⟨l, ⟨a, cap, hv, hl⟩, hlen⟩ := row_of_trod 3 (fun (z : Stil.Inst) b o => InstAt W b o z ∧ z.wf) Tryz.underlying22 cInst (by omega) (by
    intro n _ cs y hcs ht
    match cs, hcs with
    | [u0, u1, u2], _ =>
      obtain ⟨xs, n', _, _, _, hl, hf⟩ := DataW.trod_struct Tryz.underlying49 ht
      match xs, hl with
      | [y0, y1], _ =>
        have t0 : DataW.trod enc Tryz.prog W 0 (fun _ => true) true n' 3 (List.take (Tryz.prog.cellsOf 3) (List.drop 0 [u0, u1, u2])) = some y0 := hf 0 _ rfl
        have t1 : DataW.trod enc Tryz.prog W 0 (fun _ => true) true n' 47 (List.take (Tryz.prog.cellsOf 47) (List.drop 1 [u0, u1, u2])) = some y1 := hf 1 _ rfl
        rw [cInt] at t0
        rw [cElem] at t1
        obtain ⟨k, hk, _, hw⟩ := DataW.trod_int Tryz.underlying3 t0
        obtain rfl : u0 = .int .i64 k := by simpa using hk
        obtain ⟨e, he, hd, hef⟩ := elem_of_trod (u0 := u1) (u1 := u2) t1
        subst he
        exact ⟨⟨k, e⟩, fun b o hc => ⟨⟨hc 0 _ rfl, hc 1 _ rfl, u2, hc 2 u2 rfl, hd⟩, wf_i64 hw, hef⟩⟩) h
  refine ⟨l, ⟨a, cap, hv, fun i hi => ?_⟩, fun e he => ?_, Nat.le_trans hlen (by decide)⟩
  · obtain ⟨b, o, h1, h2, h3, _⟩ := hl i hi
    exact ⟨b, o, h1, h2, h3⟩
  · obtain ⟨i, hi, rfl⟩ := List.getElem_of_mem he
    obtain ⟨b, o, h1, h2, _, h3⟩ := hl i hi
    exact h3
end Go.Proofs.YtpaljcoojkbhnaaGreatDoor
