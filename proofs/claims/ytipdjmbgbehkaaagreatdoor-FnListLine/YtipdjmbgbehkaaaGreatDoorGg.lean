/- T3, T3b, T3c: texts put together. -/
import Derived.Test.YtipdjmbgbehkaaaGreatDoorGC
import Derived.Test.YtipdjmbgbehkaaaGreatDoorGM
import Derived.ProofKit
import Derived.OpenShut
import Derived.OpenVars
import Derived.LaidMore
import Derived.Lay
import Derived.Deep.DeepHandedRow
import Derived.Lib.SmallJoins
import Derived.Maps.AppendAt
import Derived.Deep.RegionLaw
/- How ladders lie in memory. -/
namespace Go.Proofs.YtipdjmbgbehkaaaGreatDoor
open Go.RowKit Go.Sort Go.BigFrame
end Go.Proofs.YtipdjmbgbehkaaaGreatDoor
/- Ladders in memory of their own: all their blocks at or beyond a place. -/
namespace Go.Proofs.YtipdjmbgbehkaaaGreatDoor
open Go.RowKit Go.Sort Go.BigFrame
def DevsFrom (lo : Nat) (w : World) (v : Value) (ds : List Stil.Dev) : Prop := ∃ a cap, v = .slice a ds.length cap ∧ ∀ i (h : i < ds.length), ∃ b o, a = some ⟨b, o, none⟩ ∧ lo ≤ b ∧ b < w.heap.size ∧ DevAt w b (o + i * 3) ds[i]
theorem DevsFrom.at {lo : Nat} {w : World} {v : Value} {ds : List Stil.Dev} (h : DevsFrom lo w v ds) : DevsAt w v ds := by
  obtain ⟨a, cap, hv, hc⟩ := h
  refine ⟨a, cap, hv, fun i hi => ?_⟩
  obtain ⟨b, o, ha, hl', hb, hd⟩ := hc i hi
  exact ⟨b, o, ha, hb, hd⟩
theorem DevsFrom.of_owns {w : World} {base : Nat} {v : Value} {ds : List Stil.Dev} (h : w.ownsRow base 74 3 v ds.length (devsCells ds)) : DevsFrom base w v ds := by
  by_cases hd : ds.length = 0
  · have hn : ds = [] := List.length_eq_zero_iff.1 hd
    subst hn
    rcases h.2 with ⟨h0, _⟩ | ⟨g, cap, cur, hv, _⟩
    · exact ⟨none, 0, h0, fun i hi => by simp at hi⟩
    · exact ⟨_, cap, hv, fun i hi => by simp at hi⟩
  · obtain ⟨g, cap, hv, hbase, hlt, _, hc⟩ := ownsRow_cells h (by omega)
    refine ⟨_, cap, hv, fun i hi => ⟨g, 0, rfl, hbase, hlt, ?_⟩⟩
    obtain ⟨a1, a2, a3⟩ := devsCells_get ds i hi
    unfold DevAt
    rw [Nat.zero_add]
    exact ⟨hc _ _ a1, hc _ _ a2, hc _ _ a3⟩
end Go.Proofs.YtipdjmbgbehkaaaGreatDoor
/- Ladders in memory of their own: what a store into their first row leaves. -/
namespace Go.Proofs.YtipdjmbgbehkaaaGreatDoor
open Go.RowKit Go.Sort Go.BigFrame
end Go.Proofs.YtipdjmbgbehkaaaGreatDoor
/- From what a row says of memory to what the walks ask: a slice of operands. -/
namespace Go.Proofs.YtipdjmbgbehkaaaGreatDoor
open Go.ChangeShapes Go.WideShapes Go.ChangeAt Go.RowKit
theorem cInt : Tryz.prog.cellsOf 3 = 1 := by kernel_rfl
theorem lt_of_cell {W : World} {b o : Nat} {v : Value} (h : W.cell? ⟨b, o, none⟩ = some v) : b < W.heap.size := by
  unfold World.cell? at h
  cases hh : W.heap[b]? with
  | none => simp [hh] at h
  | some x => exact (Array.getElem?_eq_some_iff.1 hh).1
end Go.Proofs.YtipdjmbgbehkaaaGreatDoor
/- From what a row says of memory to what the walks ask: ladders. -/
namespace Go.Proofs.YtipdjmbgbehkaaaGreatDoor
open Go.ChangeShapes Go.WideShapes Go.ChangeAt Go.RowKit
end Go.Proofs.YtipdjmbgbehkaaaGreatDoor
/- A0, N1: texts put together. -/
/- An append in a region, in place or anew. -/
namespace Go.Proofs.YtipdjmbgbehkaaaGreatDoor
open Go.RowKit Go.Sort Go.BigFrame
theorem step_append_at {P : Program} {ops : Array Oper} {o : Oper} {a : Act} {w : World} {K : Act → World → Prop} {Q : Exit → Act → World → Prop} {E : Prop}
    (hg : o.guard = none) (s x : Operand) (t : TypeId) (hop : o.op = .call { callee := .builtin .append, args := #[s, x], argTypes := #[t, t] })
    (base : Nat) (e : TypeId) (i : TypeInfo) (z : Value) (size bytes : Nat) (ht : P.underlying t = some (.slice e)) (hi : P.info? e = some i) (hz : i.zero = some z)
    (hsize : i.size = size) (hby : i.bytes = bytes) (hzs : z.cells.size = size) (hsz : 0 < size)
    (v : Value) (n : Nat) (xs : List Value) (hs : a.eval s = v) (hown : w.ownsRow base e size v n xs)
    (ad : Addr) (m c : Nat) (news : List Value) (hx : a.eval x = .slice (some ad) m c) (hl : news.length = m * size) (hnews : ∀ j u, news[j]? = some u → w.cell? (ad.add j) = some u) (h1 : ∀ u ∈ news, u.oneCell' = true)
    (h63 : n + m ≤ maxLen) (hbytes : (n + m) * bytes ≤ 140737488355328) (hbase : base ≤ w.heap.size)
    (hK : ∀ v' w', w'.ownsRow base e size v' (n + m) (xs ++ news) → w.grownBy w' v.ownBlock → (v'.ownBlock = v.ownBlock ∨ v'.ownBlock = some w.heap.size) → K (a.put o.dst v') w') :
    if Region.wanted o (yielded ops a.tmps) = true then Oper.wp P o a w K Q else E := by
  have hw : Region.wanted o (yielded ops a.tmps) = true := by simp [Region.wanted, hg]
  rw [if_pos hw]
  obtain ⟨v', w', hr, h2, h3, h4, h5⟩ := run_append_own_at (P := P) w base t o.type e i z size bytes ht hi hz hsize hby hzs hsz v n xs hown ad m c news hl hnews h1 h63 hbytes hbase
  unfold Oper.wp execOp
  simp only [hop, resolve, invoke, builtin, Sem.run_bind, Sem.run_pure, Result.andThen_ok, List.map_toArray, List.map_cons, List.map_nil, hs, hx, hr]
  exact hK v' w' h2 h3 h5
end Go.Proofs.YtipdjmbgbehkaaaGreatDoor
/- Contracts of the program's chapter 4: normElem, a copy in new memory. -/
namespace Go.Proofs.YtipdjmbgbehkaaaGreatDoor
open Go.RowKit Go.Sort Go.BigFrame
theorem slice_of_owns {w : World} {base s n : Nat} {e : TypeId} {v : Value} {xs : List Value} (h : w.ownsRow base e s v n xs) : ∃ a cap, v = .slice a n cap := by
  rcases h.2 with ⟨h0, h1⟩ | ⟨g, c, cur, h0, _⟩
  · exact ⟨none, 0, by rw [h0, h1]⟩
  · exact ⟨_, _, h0⟩
end Go.Proofs.YtipdjmbgbehkaaaGreatDoor
