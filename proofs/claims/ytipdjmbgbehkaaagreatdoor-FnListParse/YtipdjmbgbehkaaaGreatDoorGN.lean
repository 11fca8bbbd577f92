/- S3: texts put together. -/
import Derived.Test.YtipdjmbgbehkaaaGreatDoorGg
import Derived.Deep.DeepCutAuto
import Derived.Test.YtipdjmbgbehkaaaGreatDoorS7
import Derived.WalkLawsBesides
import Derived.Deep.Light
import Derived.Test.YtipdjmbgbehkaaaGreatDoorI8b
import Derived.Defers
import Derived.Recover
import Derived.Test.YtipdjmbgbehkaaaGreatDoorHh
import Derived.Test.YtipdjmbgbehkaaaGreatDoorHm
import Derived.Test.YtipdjmbgbehkaaaGreatDoorGP
import Derived.Deep.RegionWith
import Derived.Shelf.Abstract
/- Contracts of the specification's chapter 3, first part: sizes. -/
namespace Go.Proofs.YtipdjmbgbehkaaaGreatDoor
open Go.RowKit Go.Sort Go.BigFrame
end Go.Proofs.YtipdjmbgbehkaaaGreatDoor
/- L3a, L3b: texts put together. -/
/- Contracts of the laws' helpers for ladders: what they weigh. -/
namespace Go.Proofs.YtipdjmbgbehkaaaGreatDoor
open Go.RowKit Go.Sort Go.BigFrame
end Go.Proofs.YtipdjmbgbehkaaaGreatDoor
/- L7a, L7b, L7c: texts put together. -/
/- Contracts of the laws' helpers for lists of instructions: what they weigh. -/
namespace Go.Proofs.YtipdjmbgbehkaaaGreatDoor
open Go.RowKit Go.Sort Go.BigFrame
theorem info_Inst : (Tryz.prog.info? 31).map (fun i => (i.zero, i.size, i.bytes)) = some (some (.agg #[.int .i64 0, .int .i64 0, .slice none 0 0]), 3, 40) := by kernel_rfl
end Go.Proofs.YtipdjmbgbehkaaaGreatDoor
/- P1, P2, P3, P4, P5, P6, P7: texts put together. -/
/- Marks: the whole numbers that a mark goes through, in their order, as places in memory; nothing is said of what they held. -/
namespace Go.Proofs.YtipdjmbgbehkaaaGreatDoor
open Go.RowKit Go.Sort Go.BigFrame
/-- A place: block and offset. -/
abbrev Pl := Nat × Nat
def ad (p : Pl) : Addr := ⟨p.1, p.2, none⟩
end Go.Proofs.YtipdjmbgbehkaaaGreatDoor
/- Contracts of the specification's chapter 6: what is wrong with an instruction, what is known behind it. -/
namespace Go.Proofs.YtipdjmbgbehkaaaGreatDoor
open Go.RowKit Go.Sort Go.BigFrame
end Go.Proofs.YtipdjmbgbehkaaaGreatDoor
/- S7c, S7d: texts put together. -/
/- Contracts of the specification's chapter 6: what is known behind an instruction; SureCheck. -/
namespace Go.Proofs.YtipdjmbgbehkaaaGreatDoor
open Go.RowKit Go.Sort Go.BigFrame
end Go.Proofs.YtipdjmbgbehkaaaGreatDoor
/- I8s: texts put together. -/
/- Contracts of the program's chapter 6: a step of the run. -/
namespace Go.Proofs.YtipdjmbgbehkaaaGreatDoor
open Go.RowKit Go.Sort Go.BigFrame
end Go.Proofs.YtipdjmbgbehkaaaGreatDoor
/- I8c, I8d, I8e: texts put together. -/
/- Contracts of the program's chapter 6: a step of the run, the table of rules, what a run was left with. -/
namespace Go.Proofs.YtipdjmbgbehkaaaGreatDoor
open Go.RowKit Go.Sort Go.BigFrame
end Go.Proofs.YtipdjmbgbehkaaaGreatDoor
/- The law on SureCheck: the walk. -/
namespace Go.Proofs.YtipdjmbgbehkaaaGreatDoor
open Go.RowKit Go.Sort Go.BigFrame
end Go.Proofs.YtipdjmbgbehkaaaGreatDoor
/- Lists that were drawn: the functions over them, in one form. -/
namespace Go.Proofs.YtipdjmbgbehkaaaGreatDoor
open Go.RowKit Go.Sort Go.BigFrame
theorem ITame.fits {i : Stil.Inst} (h : ITame i) : i.fits := ⟨⟨by have := h.1.1; omega, by have := h.1.2; omega⟩, h.2.wf.1, by have := h.2.2.2; omega, h.2.wf.2.2⟩
end Go.Proofs.YtipdjmbgbehkaaaGreatDoor
/- From what a row says of memory to what the walks ask: lists of instructions and their words. -/
namespace Go.Proofs.YtipdjmbgbehkaaaGreatDoor
open Go.ChangeShapes Go.WideShapes Go.ChangeAt Go.RowKit
theorem gLWords : Tryz.prog.globalNamed "loop.example/stilway/impl.listWords" = some 0 := by kernel_rfl
theorem gLWordsType : (Tryz.prog.globals[0]?).map (·.type) = some 98 := by kernel_rfl
theorem lwords_of_laid {W : World} {l : List (String × DataW Unit)} (h : laidMet Tryz.prog l W) (hm : ("loop.example/stilway/impl.listWords", DataW.agg (Stil.listWords.map fun x => DataW.lit (Lit.string x))) ∈ l) : LWordsAt W := by
 obtain ⟨ps, hl, _, _⟩ := h
 obtain ⟨g, t, cs, fuel, p, h1, h2, h3, h4⟩ := laid_at hl hm
 obtain rfl := Option.some.inj (gLWords.symm.trans h1)
 obtain rfl := Option.some.inj (gLWordsType.symm.trans h2)
 have hcell := fun j => World.var?_cell gLWords h3 j
 obtain ⟨xs, m, _, ex, hlen, hl, hel⟩ := DataW.trod_array Tryz.underlying98 h4
 have e1 : (Stil.listWords.map fun x => DataW.lit (H := Unit) (Lit.string x)) = xs.map (·.1) := DataW.agg.inj (Prod.mk.inj ex).1
 have hall : ∀ k : Nat, k < 12 → W.cell? ⟨0, k, none⟩ = some (.string ⟨(Stil.listWords.getD k []).toArray⟩) := by
  intro k hk
  have hxk : k < xs.length := by omega
  have hk1 := hel k hk
  rw [cString, List.getElem?_eq_getElem hxk, Nat.mul_one] at hk1
  obtain ⟨s, hc, hs, _⟩ := DataW.trod_string Tryz.underlying9 hk1
  have hkw : k < Stil.listWords.length := hk
  have e2 : xs[k].1 = .lit (.string (Stil.listWords.getD k [])) := by
   have := congrArg (fun l => l[k]?) e1
   simp only [List.getElem?_map, List.getElem?_eq_getElem hxk, Option.map_some] at this
   rw [List.getElem?_eq_getElem hkw] at this
   rw [← Option.some.inj this, List.getD, List.getElem?_eq_getElem hkw]; rfl
  rw [hs] at e2
  simp only [DataW.lit.injEq, Lit.string.injEq] at e2
  have hsb : s = ⟨(Stil.listWords.getD k []).toArray⟩ := bytes_of (by rw [e2])
  rw [hcell, ← hsb]
  have := congrArg (fun l => l[0]?) hc
  simpa [List.getElem?_take, List.getElem?_drop] using this
 exact ⟨lt_of_cell (hall 0 (by omega)), hall⟩
end Go.Proofs.YtipdjmbgbehkaaaGreatDoor
/- I6: texts put together. -/
set_option maxHeartbeats 4000000
set_option maxRecDepth 100000
/- Contracts of the program's chapter 3: slices.Equal over operands, two contacts or coils that are the same. -/
namespace Go.Proofs.YtipdjmbgbehkaaaGreatDoor
open Go.RowKit Go.Sort Go.BigFrame
open Classical in
theorem i_devsEqual (ds fs : List Stil.Dev) (av bv : Value) (w : World) (hat : DevsAt w av ds) (hau : DevsAt w bv fs) (hl : ds.length ≤ 1048576) (hk : fs.length ≤ 1048576) :
  Calls Tryz.prog 95 #[av, bv] w fun r w' => r = .returned (.bool (decide (ds = fs))) ∧ Below w.heap.size w w' := by
 obtain ⟨a, cap, rfl, hc1⟩ := hat
 obtain ⟨b, cap2, rfl, hc2⟩ := hau
 by_cases hlen : ds.length = fs.length
 ·have HA : Hid (∀ i (h : i < ds.length), ∃ b o, a = some ⟨b, o, none⟩ ∧ b < w.heap.size ∧ DevAt w b (o + i * 3) ds[i]) := hc1
  have HB : Hid (∀ i (h : i < fs.length), ∃ b' o, b = some ⟨b', o, none⟩ ∧ b' < w.heap.size ∧ DevAt w b' (o + i * 3) fs[i]) := hc2
  clear hc1 hc2
  have hlb : ((ds.length : Int) != (fs.length : Int)) = false := by rw [bne_eq_false_iff_eq]; omega
  have hl1 : ds.length ≤ fs.length := by omega
  have hl2 : fs.length ≤ ds.length := by omega
  clear hlen
  go_enter Tryz.func95, Tryz.ntmps95
  go_wp2
  go_loopw [13] (fun i wr => ∃ k : Nat, k ≤ ds.length ∧ i = .int .i64 k ∧ ds.take k = fs.take k ∧ Below w.heap.size w wr) (fun i _ => ds.length - (intOf i).toNat)
  case atStart => exact ⟨0, by omega, rfl, by simp, Below.refl _ _⟩
  case round =>
   obtain ⟨k, hk, rfl, heq, hbw⟩ := hrel
   have HE : Hid (ds.take k = fs.take k) := heq
   clear heq
   by_cases hlt : k < ds.length
   ·have hlt2 : k < fs.length := by omega
    obtain ⟨b1, o1, rfl, hbl1, hd1⟩ := HA.out k hlt
    obtain ⟨b2, o2, rfl, hbl2, hd2⟩ := HB.out k hlt2
    obtain ⟨x0, x1, x2⟩ := hd1.below hbw hbl1
    obtain ⟨y0, y1, y2⟩ := hd2.below hbw hbl2
    by_cases hxy : ds[k] = fs[k]
    ·have HXY : Hid (ds.take (k + 1) = fs.take (k + 1)) := by
      show _ = _
      rw [List.take_succ_eq_append_getElem hlt, List.take_succ_eq_append_getElem hlt2, HE.out, hxy]
     rw [← hxy] at y0 y1 y2
     obtain ⟨x, hx⟩ : ∃ x, x = ds[k] := ⟨_, rfl⟩
     rw [← hx] at x0 x1 x2 y0 y1 y2
     clear hx hxy hd1 hd2
     go_wp2
     go_region
     all_goals go_wp2
     exact ⟨⟨k + 1, by omega, by go_num, HXY.out, hbw.drew⟩, by simp [intOf]; omega⟩
    ·have HXY : Hid (¬ ds = fs) := by
      show ¬ _
      intro h; subst h; exact hxy rfl
     obtain ⟨x, hx⟩ : ∃ x, x = ds[k] := ⟨_, rfl⟩
     obtain ⟨y, hy⟩ : ∃ y, y = fs[k] := ⟨_, rfl⟩
     rw [← hx] at x0 x1 x2
     rw [← hy] at y0 y1 y2
     rw [← hx, ← hy] at hxy
     have hcase : (x.kind == y.kind) = false ∨ (x.kind = y.kind ∧ (x.n == y.n) = false) ∨ (x.kind = y.kind ∧ x.n = y.n ∧ (x.p == y.p) = false) := by
      simp only [beq_eq_false_iff_ne]
      by_cases h1 : x.kind = y.kind
      ·by_cases h2 : x.n = y.n
       ·exact .inr (.inr ⟨h1, h2, fun h3 => hxy ((dev_eta _ _).2 ⟨h1, h2, h3⟩)⟩)
       ·exact .inr (.inl ⟨h1, h2⟩)
      ·exact .inl h1
     clear hx hy hxy hd1 hd2
     rcases hcase with h1 | ⟨h1, h2⟩ | ⟨h1, h2, h3⟩
     ·go_wp2
      go_region
      all_goals go_wp2
      go_ret
      exact ⟨ret_bool (by rw [decide_eq_false HXY.out]), hbw.drew⟩
     ·rw [← h1] at y0
      clear h1
      go_wp2
      go_region
      all_goals go_wp2
      go_ret
      exact ⟨ret_bool (by rw [decide_eq_false HXY.out]), hbw.drew⟩
     ·rw [← h1] at y0
      rw [← h2] at y1
      clear h1 h2
      go_wp2
      go_region
      all_goals go_wp2
      go_ret
      exact ⟨ret_bool (by rw [decide_eq_false HXY.out]), hbw.drew⟩
   ·go_wp2
    go_ret
    have e : ds = fs := by
     have := HE.out
     rwa [List.take_of_length_le (by omega), List.take_of_length_le (by omega)] at this
    exact ⟨ret_bool (by rw [decide_eq_true e]), hbw⟩
 ·have hlb : ((ds.length : Int) != (fs.length : Int)) = true := by rw [bne_iff_ne]; omega
  have HN : Hid (¬ ds = fs) := by show ¬ _; intro h; exact hlen (by rw [h])
  clear hlen hc1 hc2
  go_enter Tryz.func95, Tryz.ntmps95
  go_wp2
  go_ret
  exact ⟨ret_bool (by rw [decide_eq_false HN.out]), blB⟩
open Classical in
theorem i_elemSame (x y : Stil.Elem) (hx : x.fits) (hy : y.fits) : ∀ (av avq : Value) (w : World), DevsAt w av x.args → DevsAt w avq y.args → Calls Tryz.prog 68 #[.agg #[.int .i64 x.op, av], .agg #[.int .i64 y.op, avq]] w fun e w' => e = .returned (.bool (decide (x = y))) ∧ Below w.heap.size w w' := by
 intro av avq w hav havq
 obtain ⟨op, ds⟩ := x
 obtain ⟨oq, fs⟩ := y
 simp only at hav havq
 have H1 : Hid (∀ W, Below w.heap.size w W → Calls Tryz.prog 95 #[av, avq] W fun r w' => r = .returned (.bool (decide (ds = fs))) ∧ Below W.heap.size W w') := fun W hW => i_devsEqual ds fs av avq W (hav.below hW) (havq.below hW) hx.2.1 hy.2.1
 obtain ⟨p0, r0, rfl, _⟩ := hav
 obtain ⟨p1, r1, rfl, _⟩ := havq
 clear hx hy
 by_cases ho : op = oq
 ·subst ho
  have HD : Hid (decide ((⟨op, ds⟩ : Stil.Elem) = ⟨op, fs⟩) = decide (ds = fs)) := by show _ = _; simp
  go_enter Tryz.func68, Tryz.ntmps68
  go_wp2_with (go_at_call 95; refine (H1.out _ blA).mono ?_; rintro e w1 ⟨rfl, hb⟩)
  go_ret
  exact ⟨ret_bool (by rw [HD.out]), blA⟩
 ·have hob : (op == oq) = false := by rw [beq_eq_false_iff_ne]; exact ho
  have HD : Hid (¬ (⟨op, ds⟩ : Stil.Elem) = ⟨oq, fs⟩) := by show ¬ _; intro h; exact ho (Stil.Elem.mk.inj h).1
  clear ho
  go_enter Tryz.func68, Tryz.ntmps68
  go_wp2
  go_ret
  exact ⟨ret_bool (by rw [decide_eq_false HD.out]), blA⟩
end Go.Proofs.YtipdjmbgbehkaaaGreatDoor
