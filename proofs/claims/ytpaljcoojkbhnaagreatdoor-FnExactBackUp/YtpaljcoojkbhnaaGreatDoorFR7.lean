/- From what a row says of memory to what the walks ask: a slice of operands. -/
import Derived.Test.YtpaljcoojkbhnaaGreatDoorGC
import Derived.ProofKit
import Derived.OpenShut
import Derived.OpenVars
import Derived.LaidMore
import Derived.Lay
import Derived.Deep.DeepHandedRow
import Derived.Lib.SmallJoins
import Derived.Test.YtpaljcoojkbhnaaGreatDoorGT
import Derived.Test.YtpaljcoojkbhnaaGreatDoorGJ
import Derived.Lib.LaidTab
import Derived.Test.YtpaljcoojkbhnaaGreatDoorGY
import Derived.LaidHandle
import Derived.Test.YtpaljcoojkbhnaaGreatDoorGO
import Derived.Test.YtpaljcoojkbhnaaGreatDoorGc
import Derived.Test.YtpaljcoojkbhnaaGreatDoorGb
namespace Go.Proofs.YtpaljcoojkbhnaaGreatDoor
open Go.ChangeShapes Go.WideShapes Go.ChangeAt Go.RowKit
theorem cInt : Tryz.prog.cellsOf 3 = 1 := by kernel_rfl
theorem lt_of_cell {W : World} {b o : Nat} {v : Value} (h : W.cell? ⟨b, o, none⟩ = some v) : b < W.heap.size := by
 unfold World.cell? at h
 cases hh : W.heap[b]? with
 | none => simp [hh] at h
 | some x => exact (Array.getElem?_eq_some_iff.1 hh).1
theorem cDev : Tryz.prog.cellsOf 167 = 3 := by kernel_rfl
theorem wf_i64 {n : Int} (h : (Lit.int .i64 n).wf = true) : -9223372036854775808 ≤ n ∧ n ≤ 9223372036854775807 := by
 simpa [Lit.wf, IntKind.min, IntKind.max, IntKind.signed, IntKind.bits] using h
theorem devs_of_trod {H : Type} {enc : TypeId × Value → H} {W : World} {fuel : Nat} {v : Value} {x : DataW H × List MemPlace} (h : DataW.trod enc Tryz.prog W 0 (fun _ => true) true fuel 45 [v] = some x) :
  ∃ ds : List Stil.Dev, DevsAt W v ds ∧ (∀ d ∈ ds, d.fits) ∧ ds.length ≤ maxLen := by
 rcases Deep.open_slice Tryz.underlying45 h with ⟨hv, _⟩ | ⟨a, len, cap, m, n, D, Pl, hv, _, hlc, hcap, hm, _, hx⟩
 ·obtain rfl : v = .slice none 0 0 := by simpa using hv
  exact ⟨[], ⟨none, 0, rfl, fun i h => absurd h (by simp)⟩, by simp, by simp⟩
 ·obtain rfl : v = .slice (some a) len cap := by simpa using hv
  have hlm : len ≤ m := by rw [hm]; split <;> omega
  have each : ∀ i, i < len → ∃ d : Stil.Dev, d.fits ∧ W.cell? (a.add (i * 3)) = some (.int .i64 d.kind) ∧ W.cell? (a.add (i * 3 + 1)) = some (.int .i64 d.n) ∧ W.cell? (a.add (i * 3 + 2)) = some (.int .i64 d.p) := by
   intro i hi
   obtain ⟨cs', h1, h2⟩ := hx i (by omega)
   rw [cDev] at h1
   obtain ⟨_, hlen, hcell⟩ := World.cells?_some h1
   obtain ⟨y0, y1, y2, k, _, _, t0, t1, t2⟩ := Deep.trod_struct3 Tryz.underlying167 h2
   dsimp only at t0 t1 t2
   rw [cInt] at t0 t1 t2
   obtain ⟨n0, a0, _, w0⟩ := DataW.trod_int Tryz.underlying3 t0
   obtain ⟨n1, a1, _, w1⟩ := DataW.trod_int Tryz.underlying3 t1
   obtain ⟨n2, a2, _, w2⟩ := DataW.trod_int Tryz.underlying3 t2
   have at' : ∀ (j : Nat) (z : Value), j < 3 → List.take 1 (List.drop j cs') = [z] → W.cell? (a.add (i * 3 + j)) = some z := by
    intro j z hj hz
    have e1 := hcell j hj
    rw [Addr.add_add] at e1
    rw [e1]
    have := congrArg (fun l => l[0]?) hz
    simpa [List.getElem?_take, List.getElem?_drop] using this
   exact ⟨⟨n0, n1, n2⟩, ⟨wf_i64 w0, wf_i64 w1, wf_i64 w2⟩, at' 0 _ (by omega) a0, at' 1 _ (by omega) a1, at' 2 _ (by omega) a2⟩
  haveI : Inhabited Stil.Dev := ⟨⟨0, 0, 0⟩⟩
  obtain ⟨f, hf⟩ := Deep.choose_lt each
  refine ⟨(List.range len).map f, ?_, ?_, ?_⟩
  ·refine ⟨some a, cap, by simp, fun i hi => ?_⟩
   have hi' : i < len := by simpa using hi
   obtain ⟨_, c0, c1, c2⟩ := hf i hi'
   obtain ⟨b, o, sp⟩ := a
   have hsp : sp = none := by
    have hk : 0 < len := by omega
    have := (hf 0 hk).2.1
    simpa [Addr.add] using World.cell?_spot this
   subst hsp
   rw [Addr.add_lit] at c0 c1 c2
   refine ⟨b, o, rfl, lt_of_cell c0, ?_⟩
   simp only [List.getElem_map, List.getElem_range]
   exact ⟨c0, by rw [Nat.add_assoc]; exact c1, by rw [Nat.add_assoc]; exact c2⟩
  ·intro d hd
   obtain ⟨i, hi, rfl⟩ := List.mem_map.1 hd
   exact (hf i (by simpa using hi)).1
  ·simp; omega
end Go.Proofs.YtpaljcoojkbhnaaGreatDoor
/- From what a row says of memory to what the walks ask: ladders. -/
namespace Go.Proofs.YtpaljcoojkbhnaaGreatDoor
open Go.ChangeShapes Go.WideShapes Go.ChangeAt Go.RowKit
theorem open_fuel {H : Type} {enc : TypeId × Value → H} {P : Program} {W : World} {base : Nat} {spare : Nat → Bool} {held : Bool} {t e : TypeId} {fuel : Nat} {cs : List Value} {x : DataW H × List MemPlace} (ht : P.underlying t = some (.slice e)) (h : DataW.trod enc P W base spare held fuel t cs = some x) :
  cs = [.slice none 0 0] ∨ ∃ (a : Addr) (len cap n : Nat), n < fuel ∧ cs = [.slice (some a) len cap] ∧ len ≤ maxLen ∧
   ∀ i, i < len → ∃ cs' y, W.cells? base (a.add (i * P.cellsOf e)) (P.cellsOf e) = some cs' ∧ DataW.trod enc P W base spare held n e cs' = some y := by
 rcases DataW.trod_slice ht h with h0 | ⟨a, len, cap, elems, rest, n, hn, hcs, _, _, hl, hm, hlen, hel, _, _⟩
 ·exact Or.inl h0.1
 ·refine Or.inr ⟨a, len, cap, n, by omega, hcs, by omega, fun i hi => ?_⟩
  have h1 := hel i hi
  rw [List.getElem?_eq_getElem (by omega)] at h1
  obtain ⟨cs', h2, h3⟩ := Option.bind_eq_some_iff.1 h1
  exact ⟨cs', _, h2, h3⟩
theorem row_of_trod {α : Type} [Inhabited α] {H : Type} {enc : TypeId × Value → H} {W : World} {fuel : Nat} {t e : TypeId} {v : Value} {x : DataW H × List MemPlace} (c : Nat) (Q : α → Nat → Nat → Prop) (ht : Tryz.prog.underlying t = some (.slice e)) (hc : Tryz.prog.cellsOf e = c) (hc0 : 0 < c)
  (each : ∀ n, n < fuel → ∀ cs y, cs.length = c → DataW.trod enc Tryz.prog W 0 (fun _ => true) true n e cs = some y → ∃ z : α, ∀ b o, (∀ j u, cs[j]? = some u → W.cell? ⟨b, o + j, none⟩ = some u) → Q z b o)
  (h : DataW.trod enc Tryz.prog W 0 (fun _ => true) true fuel t [v] = some x) :
  ∃ l : List α, (∃ a cap, v = .slice a l.length cap ∧ ∀ i (h : i < l.length), ∃ b o, a = some ⟨b, o, none⟩ ∧ b < W.heap.size ∧ Q l[i] b (o + i * c)) ∧ l.length ≤ maxLen := by
 rcases open_fuel ht h with hv | ⟨a, len, cap, n, hn, hv, hm, hx⟩
 ·obtain rfl : v = .slice none 0 0 := by simpa using hv
  exact ⟨[], ⟨none, 0, rfl, fun i h => absurd h (by simp)⟩, by simp⟩
 ·obtain rfl : v = .slice (some a) len cap := by simpa using hv
  have hspot : 0 < len → a.spot = none := by
   intro h0
   obtain ⟨cs', y, h1, h2⟩ := hx 0 h0
   rw [hc] at h1
   obtain ⟨_, hlen, hcell⟩ := World.cells?_some h1
   have h3 := hcell 0 hc0
   rw [List.getElem?_eq_getElem (by omega)] at h3
   have := World.cell?_spot h3
   simpa [Addr.add] using this
  have ea : ∀ i, i < len → ∃ z : α, a.block < W.heap.size ∧ Q z a.block (a.off + i * c) := by
   intro i hi
   obtain ⟨cs', y, h1, h2⟩ := hx i hi
   rw [hc] at h1
   obtain ⟨_, hlen, hcell⟩ := World.cells?_some h1
   obtain ⟨z, hz⟩ := each n hn cs' y hlen h2
   have h0 := hcell 0 hc0
   rw [List.getElem?_eq_getElem (by omega)] at h0
   have hsp := hspot (by omega)
   obtain ⟨b, o, sp⟩ := a
   simp only at hsp
   subst hsp
   rw [Addr.add_lit, Addr.add_lit] at h0
   refine ⟨z, lt_of_cell h0, hz _ _ (fun j u hu => ?_)⟩
   have hj : j < c := by
    have := (List.getElem?_eq_some_iff.1 hu).1
    omega
   have := hcell j hj
   rw [Addr.add_lit, Addr.add_lit] at this
   rw [this]; exact hu
  obtain ⟨f, hf⟩ := Deep.choose_lt ea
  refine ⟨(List.range len).map f, ⟨some a, cap, by simp, fun i hi => ?_⟩, by simpa using hm⟩
  have hi' : i < len := by simpa using hi
  obtain ⟨h2, h3⟩ := hf i hi'
  have h1 := hspot (by omega)
  obtain ⟨b, o, sp⟩ := a
  simp only at h1
  subst h1
  refine ⟨b, o, rfl, h2, ?_⟩
  simpa using h3
theorem cElem : Tryz.prog.cellsOf 47 = 2 := by kernel_rfl
theorem cDevs : Tryz.prog.cellsOf 45 = 1 := by kernel_rfl
theorem elem_of_trod {H : Type} {enc : TypeId × Value → H} {W : World} {fuel : Nat} {u0 u1 : Value} {x : DataW H × List MemPlace} (h : DataW.trod enc Tryz.prog W 0 (fun _ => true) true fuel 47 [u0, u1] = some x) :
  ∃ e : Stil.Elem, u0 = .int .i64 e.op ∧ DevsAt W u1 e.args ∧ e.wf := by
 obtain ⟨xs, n, _, _, _, hl, hf⟩ := DataW.trod_struct Tryz.underlying47 h
 match xs, hl with
 | [y0, y1], _ =>
  have t0 : DataW.trod enc Tryz.prog W 0 (fun _ => true) true n 3 (List.take (Tryz.prog.cellsOf 3) (List.drop 0 [u0, u1])) = some y0 := hf 0 _ rfl
  have t1 : DataW.trod enc Tryz.prog W 0 (fun _ => true) true n 45 (List.take (Tryz.prog.cellsOf 45) (List.drop 1 [u0, u1])) = some y1 := hf 1 _ rfl
  rw [cInt] at t0
  rw [cDevs] at t1
  obtain ⟨op, hop, _, hw⟩ := DataW.trod_int Tryz.underlying3 t0
  obtain rfl : u0 = .int .i64 op := by simpa using hop
  obtain ⟨ds, hd, hfit, hlen⟩ := devs_of_trod (v := u1) t1
  exact ⟨⟨op, ds⟩, rfl, hd, wf_i64 hw, Nat.le_trans hlen (by decide), hfit⟩
end Go.Proofs.YtpaljcoojkbhnaaGreatDoor
/- FR: texts put together. -/
/- From what a row says of memory to what the walks ask: the table of kinds, and a slice of operands. -/
namespace Go.Proofs.YtpaljcoojkbhnaaGreatDoor
open Go.ChangeShapes Go.WideShapes Go.ChangeAt Go.RowKit
theorem laid_at {P : Program} {W : World} : ∀ {l : List (String × DataW Unit)} {ps : List MemPlace}, DataW.LaidVars P W l ps → ∀ {n : String} {d : DataW Unit}, (n, d) ∈ l →
  ∃ g t cs fuel p, P.globalNamed n = some g ∧ (P.globals[g]?).map (·.type) = some t ∧ W.var? P n = some cs ∧ DataW.trod (fun _ => ()) P W 0 (fun _ => true) false fuel t cs.toList = some (d, p)
 | [], _, _, _, _, hm => absurd hm (by simp)
 | (n', d') :: r, ps, ⟨g, t, cs, fuel, p, q, h1, h2, h3, h4, hs, _⟩, n, d, hm => by
  rcases List.mem_cons.1 hm with e | hr
  ·obtain ⟨rfl, rfl⟩ := Prod.mk.inj e
   exact ⟨g, t, cs, fuel, p, h1, h2, h3, h4⟩
  ·exact laid_at hs hr
def rowLit (k : Nat) : DataW Unit := .agg [.lit (.string (Stil.devLetter k).data.toList), .lit (.int .i64 (Stil.devSize k)), .lit (.bool (rowBit k)), .lit (.bool (rowWhole k)), .lit (.bool (rowReal k))]
theorem gRows : Tryz.prog.globalNamed "loop.example/stilway/impl.devRows" = some 2 := by kernel_rfl
theorem gRowsType : (Tryz.prog.globals[2]?).map (·.type) = some 218 := by kernel_rfl
theorem cRow : Tryz.prog.cellsOf 212 = 5 := by kernel_rfl
theorem cBool : Tryz.prog.cellsOf 4 = 1 := by kernel_rfl
theorem cString : Tryz.prog.cellsOf 9 = 1 := by kernel_rfl
theorem bytes_of {s : ByteArray} {b : ByteArray} (h : s.data.toList = b.data.toList) : s = b := by
 cases s; cases b; simp at h; rw [h]
theorem rows_of_var {W : World} {cs : Array Value} {fuel : Nat} {p : List MemPlace} (hv : W.var? Tryz.prog "loop.example/stilway/impl.devRows" = some cs)
  (hd : DataW.trod (fun _ => ()) Tryz.prog W 0 (fun _ => true) false fuel 218 cs.toList = some (.agg ((List.range 14).map rowLit), p)) : RowsAt W := by
 have hcell := fun j => World.var?_cell gRows hv j
 obtain ⟨xs, m, _, ex, hlen, hl, hel⟩ := DataW.trod_array Tryz.underlying218 hd
 have e1 : (List.range 14).map rowLit = xs.map (·.1) := DataW.agg.inj (Prod.mk.inj ex).1
 have hall : ∀ k : Nat, k < 14 → W.cell? ⟨2, k * 5, none⟩ = some (.string (Stil.devLetter k)) ∧ W.cell? ⟨2, k * 5 + 1, none⟩ = some (.int .i64 (Stil.devSize k)) ∧ W.cell? ⟨2, k * 5 + 2, none⟩ = some (.bool (rowBit k)) ∧ W.cell? ⟨2, k * 5 + 3, none⟩ = some (.bool (rowWhole k)) ∧ W.cell? ⟨2, k * 5 + 4, none⟩ = some (.bool (rowReal k)) := by
  intro k hk
  have hxk : k < xs.length := by omega
  have hk1 := hel k hk
  rw [cRow, List.getElem?_eq_getElem hxk] at hk1
  have e2 : xs[k].1 = rowLit k := by
   have := congrArg (fun l => l[k]?) e1
   simp only [List.getElem?_map, List.getElem?_eq_getElem hxk, Option.map_some] at this
   rw [List.getElem?_eq_getElem (by simpa using hk)] at this
   simpa using (Option.some.inj this).symm
  obtain ⟨ys, n, _, ey, hlen2, hl2, hf⟩ := DataW.trod_struct Tryz.underlying212 hk1
  have e3 : ys.map (·.1) = [.lit (.string (Stil.devLetter k).data.toList), .lit (.int .i64 (Stil.devSize k)), .lit (.bool (rowBit k)), .lit (.bool (rowWhole k)), .lit (.bool (rowReal k))] := by
   have h5 := congrArg Prod.fst ey
   rw [e2, rowLit] at h5
   exact (DataW.agg.inj h5).symm
  obtain ⟨y0, y1, y2, y3, y4, rfl⟩ : ∃ y0 y1 y2 y3 y4, ys = [y0, y1, y2, y3, y4] := by
   match ys, hl2 with
   | [y0, y1, y2, y3, y4], _ => exact ⟨_, _, _, _, _, rfl⟩
  simp only [List.map_cons, List.map_nil, List.cons.injEq, and_true] at e3
  obtain ⟨z0, z1, z2, z3, z4⟩ := e3
  have g0 : DataW.trod (fun _ => ()) Tryz.prog W 0 (fun _ => true) false n 9 (List.take 1 (List.drop 0 (List.take 5 (List.drop (k * 5) cs.toList)))) = some y0 := by
   have h : DataW.trod (fun _ => ()) Tryz.prog W 0 (fun _ => true) false n 9 (List.take (Tryz.prog.cellsOf 9) (List.drop 0 (List.take 5 (List.drop (k * 5) cs.toList)))) = some y0 := hf 0 _ rfl
   rw [cString] at h
   exact h
  have g1 : DataW.trod (fun _ => ()) Tryz.prog W 0 (fun _ => true) false n 3 (List.take 1 (List.drop 1 (List.take 5 (List.drop (k * 5) cs.toList)))) = some y1 := by
   have h : DataW.trod (fun _ => ()) Tryz.prog W 0 (fun _ => true) false n 3 (List.take (Tryz.prog.cellsOf 3) (List.drop 1 (List.take 5 (List.drop (k * 5) cs.toList)))) = some y1 := hf 1 _ rfl
   rw [cInt] at h
   exact h
  have g2 : DataW.trod (fun _ => ()) Tryz.prog W 0 (fun _ => true) false n 4 (List.take 1 (List.drop 2 (List.take 5 (List.drop (k * 5) cs.toList)))) = some y2 := by
   have h : DataW.trod (fun _ => ()) Tryz.prog W 0 (fun _ => true) false n 4 (List.take (Tryz.prog.cellsOf 4) (List.drop 2 (List.take 5 (List.drop (k * 5) cs.toList)))) = some y2 := hf 2 _ rfl
   rw [cBool] at h
   exact h
  have g3 : DataW.trod (fun _ => ()) Tryz.prog W 0 (fun _ => true) false n 4 (List.take 1 (List.drop 3 (List.take 5 (List.drop (k * 5) cs.toList)))) = some y3 := by
   have h : DataW.trod (fun _ => ()) Tryz.prog W 0 (fun _ => true) false n 4 (List.take (Tryz.prog.cellsOf 4) (List.drop 3 (List.take 5 (List.drop (k * 5) cs.toList)))) = some y3 := hf 3 _ rfl
   rw [cBool] at h
   exact h
  have g4 : DataW.trod (fun _ => ()) Tryz.prog W 0 (fun _ => true) false n 4 (List.take 1 (List.drop 4 (List.take 5 (List.drop (k * 5) cs.toList)))) = some y4 := by
   have h : DataW.trod (fun _ => ()) Tryz.prog W 0 (fun _ => true) false n 4 (List.take (Tryz.prog.cellsOf 4) (List.drop 4 (List.take 5 (List.drop (k * 5) cs.toList)))) = some y4 := hf 4 _ rfl
   rw [cBool] at h
   exact h
  obtain ⟨s0, a0, b0, _⟩ := DataW.trod_string Tryz.underlying9 g0
  obtain ⟨s1, a1, b1, _⟩ := DataW.trod_int Tryz.underlying3 g1
  obtain ⟨s2, a2, b2⟩ := DataW.trod_bool Tryz.underlying4 g2
  obtain ⟨s3, a3, b3⟩ := DataW.trod_bool Tryz.underlying4 g3
  obtain ⟨s4, a4, b4⟩ := DataW.trod_bool Tryz.underlying4 g4
  subst b0 b1 b2 b3 b4
  simp only [DataW.lit.injEq, Lit.string.injEq, Lit.int.injEq, Lit.bool.injEq, true_and] at z0 z1 z2 z3 z4
  have z0' := bytes_of z0
  subst z0' z1 z2 z3 z4
  have at' : ∀ (j : Nat) (v : Value), j < 5 → List.take 1 (List.drop j (List.take 5 (List.drop (k * 5) cs.toList))) = [v] → W.cell? ⟨2, k * 5 + j, none⟩ = some v := by
   intro j v hj h
   rw [hcell]
   have := congrArg (fun l => l[0]?) h
   simpa [List.getElem?_take, List.getElem?_drop, hj] using this
  exact ⟨at' 0 _ (by omega) a0, at' 1 _ (by omega) a1, at' 2 _ (by omega) a2, at' 3 _ (by omega) a3, at' 4 _ (by omega) a4⟩
 refine ⟨?_, hall⟩
 have := (hall 0 (by omega)).1
 exact lt_of_cell this
theorem rows_of_laid {W : World} {l : List (String × DataW Unit)} (h : laidMet Tryz.prog l W) (hm : ("loop.example/stilway/impl.devRows", DataW.agg ((List.range 14).map rowLit)) ∈ l) : RowsAt W := by
 obtain ⟨ps, hl, _, _⟩ := h
 obtain ⟨g, t, cs, fuel, p, h1, h2, h3, h4⟩ := laid_at hl hm
 obtain rfl := Option.some.inj (gRows.symm.trans h1)
 obtain rfl := Option.some.inj (gRowsType.symm.trans h2)
 exact rows_of_var h3 h4
end Go.Proofs.YtpaljcoojkbhnaaGreatDoor
/- From what a row says of memory to what the walks ask: the handle of the type 'error'. -/
namespace Go.Proofs.YtpaljcoojkbhnaaGreatDoor
open Go.ChangeShapes Go.WideShapes Go.ChangeAt Go.RowKit Go.Shelf
theorem gErr : Tryz.prog.globalNamed "errors.errorType" = some 0 := by kernel_rfl
theorem rtRow : (Tryz.prog.cutTypes.find? (·.1 == "internal/reflectlite.rtype")).map (·.2) = some 142 := by kernel_rfl
theorem errRow : ((List.range Tryz.prog.types.size).filter fun t => Tryz.prog.rowNamed t [101, 114, 114, 111, 114]) = [58] := by kernel_rfl
theorem err_of_laid {W : World} (h : handlesMet Tryz.prog [("errors.errorType", DataW.iface "internal/reflectlite.rtype" (.agg [.ptr (.lit (.string [101, 114, 114, 111, 114]))]))] W) : ErrTypeAt W := by
 obtain ⟨name, u, ty, e1, e2, e3, e4, e5⟩ := h _ (List.mem_singleton.2 rfl)
 have en : name = [101, 114, 114, 111, 114] := (Option.some.inj e1).symm
 subst en
 obtain rfl := Option.some.inj (rtRow.symm.trans e2)
 have hm : ty ∈ (List.range Tryz.prog.types.size).filter fun t => Tryz.prog.rowNamed t [101, 114, 114, 111, 114] := List.mem_filter.2 ⟨List.mem_range.2 e3, e4⟩
 rw [errRow] at hm
 obtain rfl := List.mem_singleton.1 hm
 have hh : typeHandle Tryz.prog 58 = .pointer (some ⟨4, 58, none⟩) := by kernel_rfl
 rw [hh] at e5
 have hc := World.var?_cell gErr e5 0
 unfold ErrTypeAt
 simpa using hc
end Go.Proofs.YtpaljcoojkbhnaaGreatDoor
/- I8: texts put together. -/
set_option maxHeartbeats 4000000
set_option maxRecDepth 100000
/- Contracts of the program's chapter 5: ListWord, ListOk. -/
namespace Go.Proofs.YtpaljcoojkbhnaaGreatDoor
open Go.RowKit Go.Sort Go.BigFrame
/-- The words of the instructions lie where the program's text lays them. -/
def LWordsAt (w : World) : Prop := 1 < w.heap.size ∧ ∀ k : Nat, k < 12 → w.cell? ⟨1, k, none⟩ = some (.string ⟨(Stil.listWords.getD k []).toArray⟩)
theorem LWordsAt.below {w w' : World} (h : LWordsAt w) (hb : Below w.heap.size w w') : LWordsAt w' :=
 ⟨Nat.lt_of_lt_of_le h.1 hb.size, fun k hk => by rw [hb.cell (p := ⟨1, k, none⟩) h.1]; exact h.2 k hk⟩
theorem i_listWord_no (c : Int) (w : World) (h : c < 0 ∨ 12 ≤ c) :
  Calls Tryz.prog 85 #[.int .i64 c] w fun e w' => e = .returned (.string ⟨#[]⟩) ∧ w' = w := by
 go_enter Tryz.func85, Tryz.ntmps85
 go_wp2
 all_goals first | (exfalso; omega) | (go_ret; exact ⟨rfl, rfl⟩)
theorem i_listWord (k : Nat) (w : World) (hw : LWordsAt w) (h : k < 12) :
  Calls Tryz.prog 85 #[.int .i64 k] w fun e w' => e = .returned (.string ⟨(Stil.listWords.getD k []).toArray⟩) ∧ w' = w := by
 have hk := hw.2 k h
 obtain ⟨s, hs⟩ : ∃ s : ByteArray, s = ⟨(Stil.listWords.getD k []).toArray⟩ := ⟨_, rfl⟩
 rw [← hs] at hk ⊢
 clear hs hw
 go_enter Tryz.func85, Tryz.ntmps85
 go_wp2
 go_ret
 exact ⟨rfl, rfl⟩
end Go.Proofs.YtpaljcoojkbhnaaGreatDoor
/- From what a row says of memory to what the walks ask: lists of instructions and their words. -/
namespace Go.Proofs.YtpaljcoojkbhnaaGreatDoor
open Go.ChangeShapes Go.WideShapes Go.ChangeAt Go.RowKit
theorem gLWords : Tryz.prog.globalNamed "loop.example/stilway/impl.listWords" = some 1 := by kernel_rfl
theorem gLWordsType : (Tryz.prog.globals[1]?).map (·.type) = some 168 := by kernel_rfl
theorem lwords_of_laid {W : World} {l : List (String × DataW Unit)} (h : laidMet Tryz.prog l W) (hm : ("loop.example/stilway/impl.listWords", DataW.agg (Stil.listWords.map fun x => DataW.lit (Lit.string x))) ∈ l) : LWordsAt W := by
 obtain ⟨ps, hl, _, _⟩ := h
 obtain ⟨g, t, cs, fuel, p, h1, h2, h3, h4⟩ := laid_at hl hm
 obtain rfl := Option.some.inj (gLWords.symm.trans h1)
 obtain rfl := Option.some.inj (gLWordsType.symm.trans h2)
 have hcell := fun j => World.var?_cell gLWords h3 j
 obtain ⟨xs, m, _, ex, hlen, hl, hel⟩ := DataW.trod_array Tryz.underlying168 h4
 have e1 : (Stil.listWords.map fun x => DataW.lit (H := Unit) (Lit.string x)) = xs.map (·.1) := DataW.agg.inj (Prod.mk.inj ex).1
 have hall : ∀ k : Nat, k < 12 → W.cell? ⟨1, k, none⟩ = some (.string ⟨(Stil.listWords.getD k []).toArray⟩) := by
  intro k hk
  have hxk : k < xs.length := by omega
  have hk1 := hel k hk
  rw [cString, List.getElem?_eq_getElem hxk, Nat.mul_one] at hk1
  obtain ⟨s, hc, hs, _⟩ := DataW.trod_string Tryz.underlying9 hk1
  have hkw : k < Stil.listWords.length := hk
  have e2 : xs[k].1 = .lit (.string (Stil.listWords.getD k [])) := by
   have := congrArg (fun l => l[k]?) e1
   simp only [List.getElem?_map, List.getElem?_eq_getElem hxk, Option.map_some] at this
   rw [List.getElem?_eq_getElem hkw] at this
   rw [← Option.some.inj this, List.getD, List.getElem?_eq_getElem hkw]; rfl
  rw [hs] at e2
  simp only [DataW.lit.injEq, Lit.string.injEq] at e2
  have hsb : s = ⟨(Stil.listWords.getD k []).toArray⟩ := bytes_of (by rw [e2])
  rw [hcell, ← hsb]
  have := congrArg (fun l => l[0]?) hc
  simpa [List.getElem?_take, List.getElem?_drop] using this
 exact ⟨lt_of_cell (hall 0 (by omega)), hall⟩
theorem cInst : Tryz.prog.cellsOf 49 = 3 := by kernel_rfl
theorem insts_of_trod {H : Type} {enc : TypeId × Value → H} {W : World} {fuel : Nat} {v : Value} {x : DataW H × List MemPlace} (h : DataW.trod enc Tryz.prog W 0 (fun _ => true) true fuel 22 [v] = some x) :
  ∃ l : List Stil.Inst, InstsAt W v l ∧ (∀ i ∈ l, i.wf) ∧ l.length ≤ 9223372036854775807 := by
 haveI : Inhabited Stil.Inst := ⟨⟨0, ⟨0, []⟩⟩⟩
 obtain ⟨l, ⟨a, cap, hv, hl⟩, hlen⟩ := row_of_trod 3 (fun (z : Stil.Inst) b o => InstAt W b o z ∧ z.wf) Tryz.underlying22 cInst (by omega) (by
  intro n _ cs y hcs ht
  match cs, hcs with
  | [u0, u1, u2], _ =>
   obtain ⟨xs, n', _, _, _, hl, hf⟩ := DataW.trod_struct Tryz.underlying49 ht
   match xs, hl with
   | [y0, y1], _ =>
    have t0 : DataW.trod enc Tryz.prog W 0 (fun _ => true) true n' 3 (List.take (Tryz.prog.cellsOf 3) (List.drop 0 [u0, u1, u2])) = some y0 := hf 0 _ rfl
    have t1 : DataW.trod enc Tryz.prog W 0 (fun _ => true) true n' 47 (List.take (Tryz.prog.cellsOf 47) (List.drop 1 [u0, u1, u2])) = some y1 := hf 1 _ rfl
    rw [cInt] at t0
    rw [cElem] at t1
    obtain ⟨k, hk, _, hw⟩ := DataW.trod_int Tryz.underlying3 t0
    obtain rfl : u0 = .int .i64 k := by simpa using hk
    obtain ⟨e, he, hd, hef⟩ := elem_of_trod (u0 := u1) (u1 := u2) t1
    subst he
    exact ⟨⟨k, e⟩, fun b o hc => ⟨⟨hc 0 _ rfl, hc 1 _ rfl, u2, hc 2 u2 rfl, hd⟩, wf_i64 hw, hef⟩⟩) h
 refine ⟨l, ⟨a, cap, hv, fun i hi => ?_⟩, fun e he => ?_, Nat.le_trans hlen (by decide)⟩
 ·obtain ⟨b, o, h1, h2, h3, _⟩ := hl i hi
  exact ⟨b, o, h1, h2, h3⟩
 ·obtain ⟨i, hi, rfl⟩ := List.getElem_of_mem he
  obtain ⟨b, o, h1, h2, _, h3⟩ := hl i hi
  exact h3
end Go.Proofs.YtpaljcoojkbhnaaGreatDoor
