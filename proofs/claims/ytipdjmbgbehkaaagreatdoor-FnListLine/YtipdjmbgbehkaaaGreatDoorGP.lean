/- FR4, FR, FR2, FR5: texts put together. -/
import Derived.Test.YtipdjmbgbehkaaaGreatDoorGg
import Derived.Test.YtipdjmbgbehkaaaGreatDoorGH
import Derived.Test.YtipdjmbgbehkaaaGreatDoorGJ
import Derived.ProofKit
import Derived.OpenShut
import Derived.OpenVars
import Derived.LaidMore
import Derived.Lay
import Derived.Deep.DeepHandedRow
import Derived.Lib.SmallJoins
import Derived.Test.YtipdjmbgbehkaaaGreatDoorGK
import Derived.Lib.LaidTab
import Derived.Test.YtipdjmbgbehkaaaGreatDoorGS
import Derived.Test.YtipdjmbgbehkaaaGreatDoorGY
import Derived.Lib.LaidU8T
import Derived.LaidHandle
/- From what a row says of memory to what the walks ask: a slice of bytes. -/
namespace Go.Proofs.YtipdjmbgbehkaaaGreatDoor
open Go.ChangeShapes Go.WideShapes Go.ChangeAt Go.RowKit
theorem cU8 : Tryz.prog.cellsOf 5 = 1 := by kernel_rfl
theorem wf_u8 {n : Int} (h : (Lit.int .u8 n).wf = true) : 0 ≤ n ∧ n < 256 := by
  have := h
  simp [Lit.wf, IntKind.min, IntKind.max, IntKind.signed, IntKind.bits] at this
  omega
theorem bytes_of_trod {H : Type} {enc : TypeId × Value → H} {W : World} {fuel : Nat} {v : Value} {x : DataW H × List MemPlace} (h : DataW.trod enc Tryz.prog W 0 (fun _ => true) true fuel 22 [v] = some x) : BytesAt W v := by
  rcases Deep.open_slice Tryz.underlying22 h with ⟨hv, _⟩ | ⟨a, len, cap, m, n, D, Pl, hv, _, hlc, hcap, hm, _, hx⟩
  · obtain rfl : v = .slice none 0 0 := by simpa using hv
    exact ⟨none, 0, 0, rfl, Nat.le_refl _, by omega, fun i h => absurd h (by simp)⟩
  · obtain rfl : v = .slice (some a) len cap := by simpa using hv
    have hlm : len ≤ m := by rw [hm]; split <;> omega
    have each : ∀ i, i < len → ∃ z : Int, W.cell? (a.add (i * 1)) = some (.int .u8 z) ∧ 0 ≤ z ∧ z < 256 := by
      intro i hi
      obtain ⟨cs', h1, h2⟩ := hx i (by omega)
      rw [cU8] at h1
      obtain ⟨_, hlen, hcell⟩ := World.cells?_some h1
      obtain ⟨z, hz, _, hw⟩ := DataW.trod_int Tryz.underlying5 h2
      have e1 := hcell 0 (by omega)
      rw [Addr.add_add] at e1
      rw [hz] at e1
      refine ⟨z, by simpa using e1, wf_u8 hw⟩
    obtain ⟨b, o, sp⟩ := a
    refine ⟨_, len, cap, rfl, hlc, Nat.le_trans hcap (by decide), fun i hi => ?_⟩
    obtain ⟨z, hz, h1⟩ := each i hi
    have hsp : sp = none := by
      obtain ⟨y, hy, _⟩ := each 0 (by omega)
      simpa [Addr.add] using World.cell?_spot hy
    subst hsp
    rw [Addr.add_lit, Nat.mul_one] at hz
    exact ⟨b, o, z, rfl, lt_of_cell hz, hz, h1⟩
end Go.Proofs.YtipdjmbgbehkaaaGreatDoor
/- From what a row says of memory to what the walks ask: the table of kinds, and a slice of operands. -/
namespace Go.Proofs.YtipdjmbgbehkaaaGreatDoor
open Go.ChangeShapes Go.WideShapes Go.ChangeAt Go.RowKit
theorem laid_at {P : Program} {W : World} : ∀ {l : List (String × DataW Unit)} {ps : List MemPlace}, DataW.LaidVars P W l ps → ∀ {n : String} {d : DataW Unit}, (n, d) ∈ l →
    ∃ g t cs fuel p, P.globalNamed n = some g ∧ (P.globals[g]?).map (·.type) = some t ∧ W.var? P n = some cs ∧ DataW.trod (fun _ => ()) P W 0 (fun _ => true) false fuel t cs.toList = some (d, p)
  | [], _, _, _, _, hm => absurd hm (by simp)
  | (n', d') :: r, ps, ⟨g, t, cs, fuel, p, q, h1, h2, h3, h4, hs, _⟩, n, d, hm => by
    rcases List.mem_cons.1 hm with e | hr
    · obtain ⟨rfl, rfl⟩ := Prod.mk.inj e
      exact ⟨g, t, cs, fuel, p, h1, h2, h3, h4⟩
    · exact laid_at hs hr
def rowLit (k : Nat) : DataW Unit := .agg [.lit (.string (Stil.devLetter k).data.toList), .lit (.int .i64 (Stil.devSize k)), .lit (.bool (rowBit k)), .lit (.bool (rowWhole k)), .lit (.bool (rowReal k))]
theorem gRows : Tryz.prog.globalNamed "loop.example/stilway/impl.devRows" = some 3 := by kernel_rfl
theorem gRowsType : (Tryz.prog.globals[3]?).map (·.type) = some 190 := by kernel_rfl
theorem cRow : Tryz.prog.cellsOf 175 = 5 := by kernel_rfl
theorem cBool : Tryz.prog.cellsOf 4 = 1 := by kernel_rfl
theorem cString : Tryz.prog.cellsOf 9 = 1 := by kernel_rfl
theorem bytes_of {s : ByteArray} {b : ByteArray} (h : s.data.toList = b.data.toList) : s = b := by
  cases s; cases b; simp at h; rw [h]
theorem rows_of_var {W : World} {cs : Array Value} {fuel : Nat} {p : List MemPlace} (hv : W.var? Tryz.prog "loop.example/stilway/impl.devRows" = some cs)
    (hd : DataW.trod (fun _ => ()) Tryz.prog W 0 (fun _ => true) false fuel 190 cs.toList = some (.agg ((List.range 14).map rowLit), p)) : RowsAt W := by
  have hcell := fun j => World.var?_cell gRows hv j
  obtain ⟨xs, m, _, ex, hlen, hl, hel⟩ := DataW.trod_array Tryz.underlying190 hd
  have e1 : (List.range 14).map rowLit = xs.map (·.1) := DataW.agg.inj (Prod.mk.inj ex).1
  have hall : ∀ k : Nat, k < 14 → W.cell? ⟨3, k * 5, none⟩ = some (.string (Stil.devLetter k)) ∧ W.cell? ⟨3, k * 5 + 1, none⟩ = some (.int .i64 (Stil.devSize k)) ∧ W.cell? ⟨3, k * 5 + 2, none⟩ = some (.bool (rowBit k)) ∧ W.cell? ⟨3, k * 5 + 3, none⟩ = some (.bool (rowWhole k)) ∧ W.cell? ⟨3, k * 5 + 4, none⟩ = some (.bool (rowReal k)) := by
    intro k hk
    have hxk : k < xs.length := by omega
    have hk1 := hel k hk
    rw [cRow, List.getElem?_eq_getElem hxk] at hk1
    have e2 : xs[k].1 = rowLit k := by
      have := congrArg (fun l => l[k]?) e1
      simp only [List.getElem?_map, List.getElem?_eq_getElem hxk, Option.map_some] at this
      rw [List.getElem?_eq_getElem (by simpa using hk)] at this
      simpa using (Option.some.inj this).symm
    obtain ⟨ys, n, _, ey, hlen2, hl2, hf⟩ := DataW.trod_struct Tryz.underlying175 hk1
    have e3 : ys.map (·.1) = [.lit (.string (Stil.devLetter k).data.toList), .lit (.int .i64 (Stil.devSize k)), .lit (.bool (rowBit k)), .lit (.bool (rowWhole k)), .lit (.bool (rowReal k))] := by
      have h5 := congrArg Prod.fst ey
      rw [e2, rowLit] at h5
      exact (DataW.agg.inj h5).symm
    obtain ⟨y0, y1, y2, y3, y4, rfl⟩ : ∃ y0 y1 y2 y3 y4, ys = [y0, y1, y2, y3, y4] := by
      match ys, hl2 with
      | [y0, y1, y2, y3, y4], _ => exact ⟨_, _, _, _, _, rfl⟩
    simp only [List.map_cons, List.map_nil, List.cons.injEq, and_true] at e3
    obtain ⟨z0, z1, z2, z3, z4⟩ := e3
    have g0 : DataW.trod (fun _ => ()) Tryz.prog W 0 (fun _ => true) false n 9 (List.take 1 (List.drop 0 (List.take 5 (List.drop (k * 5) cs.toList)))) = some y0 := by
      have h : DataW.trod (fun _ => ()) Tryz.prog W 0 (fun _ => true) false n 9 (List.take (Tryz.prog.cellsOf 9) (List.drop 0 (List.take 5 (List.drop (k * 5) cs.toList)))) = some y0 := hf 0 _ rfl
      rw [cString] at h
      exact h
    have g1 : DataW.trod (fun _ => ()) Tryz.prog W 0 (fun _ => true) false n 3 (List.take 1 (List.drop 1 (List.take 5 (List.drop (k * 5) cs.toList)))) = some y1 := by
      have h : DataW.trod (fun _ => ()) Tryz.prog W 0 (fun _ => true) false n 3 (List.take (Tryz.prog.cellsOf 3) (List.drop 1 (List.take 5 (List.drop (k * 5) cs.toList)))) = some y1 := hf 1 _ rfl
      rw [cInt] at h
      exact h
    have g2 : DataW.trod (fun _ => ()) Tryz.prog W 0 (fun _ => true) false n 4 (List.take 1 (List.drop 2 (List.take 5 (List.drop (k * 5) cs.toList)))) = some y2 := by
      have h : DataW.trod (fun _ => ()) Tryz.prog W 0 (fun _ => true) false n 4 (List.take (Tryz.prog.cellsOf 4) (List.drop 2 (List.take 5 (List.drop (k * 5) cs.toList)))) = some y2 := hf 2 _ rfl
      rw [cBool] at h
      exact h
    have g3 : DataW.trod (fun _ => ()) Tryz.prog W 0 (fun _ => true) false n 4 (List.take 1 (List.drop 3 (List.take 5 (List.drop (k * 5) cs.toList)))) = some y3 := by
      have h : DataW.trod (fun _ => ()) Tryz.prog W 0 (fun _ => true) false n 4 (List.take (Tryz.prog.cellsOf 4) (List.drop 3 (List.take 5 (List.drop (k * 5) cs.toList)))) = some y3 := hf 3 _ rfl
      rw [cBool] at h
      exact h
    have g4 : DataW.trod (fun _ => ()) Tryz.prog W 0 (fun _ => true) false n 4 (List.take 1 (List.drop 4 (List.take 5 (List.drop (k * 5) cs.toList)))) = some y4 := by
      have h : DataW.trod (fun _ => ()) Tryz.prog W 0 (fun _ => true) false n 4 (List.take (Tryz.prog.cellsOf 4) (List.drop 4 (List.take 5 (List.drop (k * 5) cs.toList)))) = some y4 := hf 4 _ rfl
      rw [cBool] at h
      exact h
    obtain ⟨s0, a0, b0, _⟩ := DataW.trod_string Tryz.underlying9 g0
    obtain ⟨s1, a1, b1, _⟩ := DataW.trod_int Tryz.underlying3 g1
    obtain ⟨s2, a2, b2⟩ := DataW.trod_bool Tryz.underlying4 g2
    obtain ⟨s3, a3, b3⟩ := DataW.trod_bool Tryz.underlying4 g3
    obtain ⟨s4, a4, b4⟩ := DataW.trod_bool Tryz.underlying4 g4
    subst b0 b1 b2 b3 b4
    simp only [DataW.lit.injEq, Lit.string.injEq, Lit.int.injEq, Lit.bool.injEq, true_and] at z0 z1 z2 z3 z4
    have z0' := bytes_of z0
    subst z0' z1 z2 z3 z4
    have at' : ∀ (j : Nat) (v : Value), j < 5 → List.take 1 (List.drop j (List.take 5 (List.drop (k * 5) cs.toList))) = [v] → W.cell? ⟨3, k * 5 + j, none⟩ = some v := by
      intro j v hj h
      rw [hcell]
      have := congrArg (fun l => l[0]?) h
      simpa [List.getElem?_take, List.getElem?_drop, hj] using this
    exact ⟨at' 0 _ (by omega) a0, at' 1 _ (by omega) a1, at' 2 _ (by omega) a2, at' 3 _ (by omega) a3, at' 4 _ (by omega) a4⟩
  refine ⟨?_, hall⟩
  have := (hall 0 (by omega)).1
  exact lt_of_cell this
theorem rows_of_laid {W : World} {l : List (String × DataW Unit)} (h : laidMet Tryz.prog l W) (hm : ("loop.example/stilway/impl.devRows", DataW.agg ((List.range 14).map rowLit)) ∈ l) : RowsAt W := by
  obtain ⟨ps, hl, _, _⟩ := h
  obtain ⟨g, t, cs, fuel, p, h1, h2, h3, h4⟩ := laid_at hl hm
  obtain rfl := Option.some.inj (gRows.symm.trans h1)
  obtain rfl := Option.some.inj (gRowsType.symm.trans h2)
  exact rows_of_var h3 h4
end Go.Proofs.YtipdjmbgbehkaaaGreatDoor
/- From what a row says of memory to what the walks ask: the words, and the library's powers of ten. -/
namespace Go.Proofs.YtipdjmbgbehkaaaGreatDoor
open Go.ChangeShapes Go.WideShapes Go.ChangeAt Go.RowKit
theorem gWords : Tryz.prog.globalNamed "loop.example/stilway/impl.devWords" = some 2 := by kernel_rfl
theorem gWordsType : (Tryz.prog.globals[2]?).map (·.type) = some 136 := by kernel_rfl
theorem gPowType : (Tryz.prog.globals[7]?).map (·.type) = some 221 := by kernel_rfl
theorem cPow : Tryz.prog.cellsOf 221 = 20 := by kernel_rfl
theorem cU64 : Tryz.prog.cellsOf 203 = 1 := by kernel_rfl
theorem words_of_laid {W : World} {l : List (String × DataW Unit)} (h : laidMet Tryz.prog l W) (hm : ("loop.example/stilway/impl.devWords", DataW.agg (Stil.words.map fun x => DataW.lit (Lit.string x))) ∈ l) : WordsAt W := by
  obtain ⟨ps, hl, _, _⟩ := h
  obtain ⟨g, t, cs, fuel, p, h1, h2, h3, h4⟩ := laid_at hl hm
  obtain rfl := Option.some.inj (gWords.symm.trans h1)
  obtain rfl := Option.some.inj (gWordsType.symm.trans h2)
  have hcell := fun j => World.var?_cell gWords h3 j
  obtain ⟨xs, m, _, ex, hlen, hl, hel⟩ := DataW.trod_array Tryz.underlying136 h4
  have e1 : (Stil.words.map fun x => DataW.lit (H := Unit) (Lit.string x)) = xs.map (·.1) := DataW.agg.inj (Prod.mk.inj ex).1
  have hall : ∀ k : Nat, k < 4 → W.cell? ⟨2, k, none⟩ = some (.string ⟨(Stil.words.getD k []).toArray⟩) := by
    intro k hk
    have hxk : k < xs.length := by omega
    have hk1 := hel k hk
    rw [cString, List.getElem?_eq_getElem hxk, Nat.mul_one] at hk1
    obtain ⟨s, hc, hs, _⟩ := DataW.trod_string Tryz.underlying9 hk1
    have hkw : k < Stil.words.length := hk
    have e2 : xs[k].1 = .lit (.string (Stil.words.getD k [])) := by
      have := congrArg (fun l => l[k]?) e1
      simp only [List.getElem?_map, List.getElem?_eq_getElem hxk, Option.map_some] at this
      rw [List.getElem?_eq_getElem hkw] at this
      rw [← Option.some.inj this, List.getD, List.getElem?_eq_getElem hkw]; rfl
    rw [hs] at e2
    simp only [DataW.lit.injEq, Lit.string.injEq] at e2
    have hsb : s = ⟨(Stil.words.getD k []).toArray⟩ := bytes_of (by rw [e2])
    rw [hcell, ← hsb]
    have := congrArg (fun l => l[0]?) hc
    simpa [List.getElem?_take, List.getElem?_drop] using this
  exact ⟨lt_of_cell (hall 0 (by omega)), hall⟩
theorem pow_of_laid {W : World} {l : List (String × DataW Unit)} (h : laidMet Tryz.prog l W) (hm : ("internal/strconv.uint64pow10", Lib.tabData .u64 Lib.pow10Tab) ∈ l) : PowAt W := by
  obtain ⟨ps, hl, _, _⟩ := h
  obtain ⟨g, t, cs, fuel, p, h1, h2, h3, h4⟩ := laid_at hl hm
  obtain rfl := Option.some.inj (gPow.symm.trans h1)
  obtain rfl := Option.some.inj (gPowType.symm.trans h2)
  unfold PowAt Lib.TabIs
  rw [h3, ← Lib.cells_of_tab Tryz.underlying221 Tryz.underlying203 cU64 cPow h4]
end Go.Proofs.YtipdjmbgbehkaaaGreatDoor
/- From what a row says of memory to what the walks ask: the library's tables of runes, the length that its search goes by, the handle of the type 'error'. -/
namespace Go.Proofs.YtipdjmbgbehkaaaGreatDoor
open Go.ChangeShapes Go.WideShapes Go.ChangeAt Go.RowKit Go.Shelf
def tabRen : Ren := ⟨fun x => x, fun x => if x = 5 then 5 else if x = 119 then 214 else if x = 138 then 216 else 217, fun x => if x = 3 then 5 else 6⟩
theorem tabTypes : U8Types Tryz.prog tabRen where
  t5 := Tryz.underlying5
  t119 := Tryz.underlying214
  t138 := Tryz.underlying216
  t139 := Tryz.underlying217
theorem tabExtra : U8Extra Tryz.prog tabRen where
  n3 := by kernel_rfl
  n4 := by kernel_rfl
  y3 := by kernel_rfl
  y4 := by kernel_rfl
  c5 := by kernel_rfl
  c119 := by kernel_rfl
  c138 := by kernel_rfl
theorem tabs_of_laid {W : World} {l : List (String × DataW Unit)} (h : laidMet Tryz.prog l W) (h1 : ("unicode/utf8.first", Lib.firstData) ∈ l) (h2 : ("unicode/utf8.acceptRanges", Lib.acceptData) ∈ l) : Lib.Utf8Tabs 5 6 W :=
  utf8Tabs_of_readsT tabTypes tabExtra (Lib.laidMet.reads h h1) (Lib.laidMet.reads h h2)
theorem int_of_shape {P : Program} {w : World} {g : Nat} {t : TypeId} {k : IntKind} {zero : Array Value} (h : w.ShapedOpen P) (hg : g < P.globals.size)
    (h0 : ((begin P (fun _ _ => 0) default).world.heap[g]?).bind Obj.row? = some (zero, t)) (hz : zero.size = 1)
    (hb : P.buildable t = true) (hc : P.cellTypes P.depth t = some [t]) (hu : P.underlying t = some (.int k)) : ∃ m, w.cell? ⟨g, 0, none⟩ = some (.int k m) := by
  obtain ⟨cs, hh, hs, hr⟩ := h.1 g zero t hg h0
  obtain ⟨ts, hts, _, hall⟩ := hr hb
  rw [hc] at hts
  cases hts
  have h1 : 0 < cs.size := by omega
  obtain ⟨u, hu', hok⟩ := hall 0 cs[0] (by simp [h1])
  have : u = t := by simpa using hu'.symm
  subst this
  have hcell : w.cell? ⟨g, 0, none⟩ = some cs[0] := by simp [World.cell?, hh, h1]
  rw [hcell]
  unfold Cell.ok at hok
  rw [hu] at hok
  cases hv : cs[0] <;> rw [hv] at hok <;> first | exact ⟨_, by rw [hok.1]⟩ | simp at hok
theorem max_of_shape {W : World} (h : W.ShapedOpen Tryz.prog) : ∃ m : Int, W.cell? ⟨4, 0, none⟩ = some (.int .i64 m) :=
  int_of_shape (t := 3) (zero := #[.int .i64 0]) h (of_decide_eq_true (by kernel_rfl)) (by kernel_rfl) rfl (by kernel_rfl) (by kernel_rfl) Tryz.underlying3
theorem lib_of_laid {W : World} {l : List (String × DataW Unit)} (h : laidMet Tryz.prog l W) (hs : W.ShapedOpen Tryz.prog) (h1 : ("unicode/utf8.first", Lib.firstData) ∈ l) (h2 : ("unicode/utf8.acceptRanges", Lib.acceptData) ∈ l) : LibAt W := by
  obtain ⟨m, hm⟩ := max_of_shape hs
  exact ⟨tabs_of_laid h h1 h2, lt_of_cell hm, m, hm⟩
theorem gErr : Tryz.prog.globalNamed "errors.errorType" = some 1 := by kernel_rfl
theorem rtRow : (Tryz.prog.cutTypes.find? (·.1 == "internal/reflectlite.rtype")).map (·.2) = some 158 := by kernel_rfl
theorem errRow : ((List.range Tryz.prog.types.size).filter fun t => Tryz.prog.rowNamed t [101, 114, 114, 111, 114]) = [53] := by kernel_rfl
theorem err_of_laid {W : World} (h : handlesMet Tryz.prog [("errors.errorType", DataW.iface "internal/reflectlite.rtype" (.agg [.ptr (.lit (.string [101, 114, 114, 111, 114]))]))] W) : ErrTypeAt W := by
  obtain ⟨name, u, ty, e1, e2, e3, e4, e5⟩ := h _ (List.mem_singleton.2 rfl)
  have en : name = [101, 114, 114, 111, 114] := (Option.some.inj e1).symm
  subst en
  obtain rfl := Option.some.inj (rtRow.symm.trans e2)
  have hm : ty ∈ (List.range Tryz.prog.types.size).filter fun t => Tryz.prog.rowNamed t [101, 114, 114, 111, 114] := List.mem_filter.2 ⟨List.mem_range.2 e3, e4⟩
  rw [errRow] at hm
  obtain rfl := List.mem_singleton.1 hm
  have hh : typeHandle Tryz.prog 53 = .pointer (some ⟨10, 53, none⟩) := by kernel_rfl
  rw [hh] at e5
  have hc := World.var?_cell gErr e5 0
  unfold ErrTypeAt
  simpa using hc
end Go.Proofs.YtipdjmbgbehkaaaGreatDoor
