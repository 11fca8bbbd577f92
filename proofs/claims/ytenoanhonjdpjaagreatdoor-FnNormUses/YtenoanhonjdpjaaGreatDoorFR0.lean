/- S2g, S2h, S2i, S2j, S2k, S2l, L1: texts put together. -/
import Derived.Test.YtenoanhonjdpjaaGreatDoorGB
import Derived.Lib.SmallJoins
import Derived.Deep.RegionLaw
import Derived.Deep.DeepCutAuto
import Derived.ProofKit
import Derived.OpenShut
import Derived.OpenVars
import Derived.LaidMore
import Derived.Lay
import Derived.Deep.DeepHandedRow
/- Contracts of the specification's chapter 2, seventh part: ElemText. -/
namespace Go.Proofs.YtenoanhonjdpjaaGreatDoor
open Go.RowKit Go.Sort Go.BigFrame
theorem info_dev : (Tryz.prog.info? 42).map (fun i => (i.zero, i.size, i.bytes)) = some (some (.agg #[.int .i64 0, .int .i64 0, .int .i64 0]), 3, 24) := by kernel_rfl
def devCells (d : Stil.Dev) : List Value := [.int .i64 d.kind, .int .i64 d.n, .int .i64 d.p]
def devsCells (ds : List Stil.Dev) : List Value := ds.flatMap devCells
theorem devsCells_length (ds : List Stil.Dev) : (devsCells ds).length = ds.length * 3 := by
 induction ds with
 | nil => rfl
 | cons d r ih => simp [devsCells, devCells] at ih ⊢; omega
theorem devsCells_snoc (ds : List Stil.Dev) (d : Stil.Dev) : devsCells (ds ++ [d]) = devsCells ds ++ devCells d := by simp [devsCells]
theorem devsCells_get (ds : List Stil.Dev) : ∀ (i : Nat) (h : i < ds.length), (devsCells ds)[i * 3]? = some (.int .i64 ds[i].kind) ∧ (devsCells ds)[i * 3 + 1]? = some (.int .i64 ds[i].n) ∧ (devsCells ds)[i * 3 + 2]? = some (.int .i64 ds[i].p) := by
 induction ds with
 | nil => intro i h; simp at h
 | cons d r ih =>
  intro i h
  have e : devsCells (d :: r) = .int .i64 d.kind :: .int .i64 d.n :: .int .i64 d.p :: devsCells r := rfl
  cases i with
  | zero => rw [e]; simp
  | succ i =>
   have h' : i < r.length := by simpa using h
   rw [e]
   have := ih i h'
   have e0 : (i + 1) * 3 = i * 3 + 3 := by omega
   rw [e0]
   simpa using this
theorem add_plain (g j : Nat) : (⟨g, 0, none⟩ : Addr).add j = ⟨g, j, none⟩ := by unfold Addr.add; split <;> simp_all
theorem ownsRow_cells {w : World} {base : Nat} {e : TypeId} {size : Nat} {v : Value} {n : Nat} {xs : List Value} (h : w.ownsRow base e size v n xs) (hn : 0 < n) : ∃ g cap, v = .slice (some ⟨g, 0, none⟩) n cap ∧ base ≤ g ∧ g < w.heap.size ∧ n ≤ cap ∧ ∀ j u, xs[j]? = some u → w.cell? ⟨g, j, none⟩ = some u := by
 have h2 := h.2
 rcases h2 with ⟨_, h0⟩ | ⟨g, cap, cur, hv, hg, _, hc, _⟩
 ·omega
 ·refine ⟨g, cap, hv, hg, (h.lt g (by rw [hv]; rfl)).2, hc, fun j u hu => ?_⟩
  have := h.cells (g := g) (by rw [hv]; rfl) j u hu
  rwa [add_plain] at this
theorem DevsAt.of_owns {w : World} {base : Nat} {v : Value} {ds : List Stil.Dev} (h : w.ownsRow base 42 3 v ds.length (devsCells ds)) : DevsAt w v ds := by
 by_cases hd : ds.length = 0
 ·have hn : ds = [] := List.length_eq_zero_iff.1 hd
  subst hn
  rcases h.2 with ⟨h0, _⟩ | ⟨g, cap, cur, hv, _⟩
  ·exact ⟨none, 0, h0, fun i hi => by simp at hi⟩
  ·exact ⟨_, cap, hv, fun i hi => by simp at hi⟩
 ·obtain ⟨g, cap, hv, _, hlt, _, hc⟩ := ownsRow_cells h (by omega)
  refine ⟨_, cap, hv, fun i hi => ⟨g, 0, rfl, hlt, ?_⟩⟩
  obtain ⟨a1, a2, a3⟩ := devsCells_get ds i hi
  unfold DevAt
  rw [Nat.zero_add]
  exact ⟨hc _ _ a1, hc _ _ a2, hc _ _ a3⟩
theorem ownsRow_below {w w' : World} {base : Nat} {e : TypeId} {size : Nat} {v : Value} {n : Nat} {xs : List Value} (h : w.ownsRow base e size v n xs) (hb : Below w.heap.size w w') : w'.ownsRow base e size v n xs := by
 refine ⟨h.1, ?_⟩
 rcases h.2 with h0 | ⟨g, cap, cur, hv, hg, hh, hr⟩
 ·exact Or.inl h0
 ·have := (h.lt g (by rw [hv]; rfl)).2
  exact Or.inr ⟨g, cap, cur, hv, hg, by rw [hb.block g this]; exact hh, hr⟩
theorem cells_new (W : World) (cs : List Value) (t : TypeId) (b : Nat) (hb : b = W.heap.size) : ∀ j u, cs[j]? = some u → (W.alloc (.cells cs.toArray t)).cell? ((⟨b, 0, none⟩ : Addr).add j) = some u := by
 subst hb
 intro j u hj
 rw [add_plain, World.cell?_alloc_at _ _ _ _ rfl]
 simpa using hj
theorem step_append_own {P : Program} {ops : Array Oper} {o : Oper} {a : Act} {w : World} {K : Act → World → Prop} {Q : Exit → Act → World → Prop} {E : Prop}
  (hg : o.guard = none) (s x : Operand) (t : TypeId) (hop : o.op = .call { callee := .builtin .append, args := #[s, x], argTypes := #[t, t] })
  (base : Nat) (e : TypeId) (i : TypeInfo) (z : Value) (size bytes : Nat) (ht : P.underlying t = some (.slice e)) (hi : P.info? e = some i) (hz : i.zero = some z)
  (hsize : i.size = size) (hby : i.bytes = bytes) (hzs : z.cells.size = size) (hsz : 0 < size)
  (v : Value) (n : Nat) (xs : List Value) (hs : a.eval s = v) (hown : w.ownsRow base e size v n xs)
  (ad : Addr) (m c : Nat) (news : List Value) (hx : a.eval x = .slice (some ad) m c) (hl : news.length = m * size) (hnews : ∀ j u, news[j]? = some u → w.cell? (ad.add j) = some u) (h1 : ∀ u ∈ news, u.oneCell' = true)
  (h63 : n + m ≤ maxLen) (hbytes : (n + m) * bytes ≤ 140737488355328) (hbase : base ≤ w.heap.size)
  (hK : ∀ v' w', w'.ownsRow base e size v' (n + m) (xs ++ news) → w.grownBy w' v.ownBlock → K (a.put o.dst v') w') :
  if Region.wanted o (yielded ops a.tmps) = true then Oper.wp P o a w K Q else E := by
 have hw : Region.wanted o (yielded ops a.tmps) = true := by simp [Region.wanted, hg]
 rw [if_pos hw]
 exact wp_append_own w s x t hop base e i z size bytes ht hi hz hsize hby hzs hsz v n xs hs hown ad m c news hx hl hnews h1 h63 hbytes hbase fun v' w' h2 h3 _ => hK v' w' h2 h3
theorem devsCells_one (ds : List Stil.Dev) : ∀ u ∈ devsCells ds, u.oneCell' = true := by
 intro u hu
 simp only [devsCells, List.mem_flatMap, devCells] at hu
 obtain ⟨d, _, hd⟩ := hu
 simp at hd
 rcases hd with rfl | rfl | rfl <;> rfl
theorem dev_eta (d e : Stil.Dev) : (d = e) ↔ (d.kind = e.kind ∧ d.n = e.n ∧ d.p = e.p) := by
 cases d; cases e; simp
end Go.Proofs.YtenoanhonjdpjaaGreatDoor
/- From what a row says of memory to what the walks ask: a slice of operands. -/
namespace Go.Proofs.YtenoanhonjdpjaaGreatDoor
open Go.ChangeShapes Go.WideShapes Go.ChangeAt Go.RowKit
theorem cInt : Tryz.prog.cellsOf 3 = 1 := by kernel_rfl
theorem lt_of_cell {W : World} {b o : Nat} {v : Value} (h : W.cell? ⟨b, o, none⟩ = some v) : b < W.heap.size := by
 unfold World.cell? at h
 cases hh : W.heap[b]? with
 | none => simp [hh] at h
 | some x => exact (Array.getElem?_eq_some_iff.1 hh).1
end Go.Proofs.YtenoanhonjdpjaaGreatDoor
