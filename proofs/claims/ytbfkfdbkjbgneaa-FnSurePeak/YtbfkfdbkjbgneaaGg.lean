/- A0, N1: texts put together. -/
import Derived.Test.YtbfkfdbkjbgneaaGT
import Derived.Maps.AppendAt
import Derived.Deep.RegionLaw
/- An append in a region, in place or anew. -/
namespace Go.Proofs.Ytbfkfdbkjbgneaa
open Go.RowKit Go.Sort Go.BigFrame
theorem step_append_at {P : Program} {ops : Array Oper} {o : Oper} {a : Act} {w : World} {K : Act → World → Prop} {Q : Exit → Act → World → Prop} {E : Prop}
    (hg : o.guard = none) (s x : Operand) (t : TypeId) (hop : o.op = .call { callee := .builtin .append, args := #[s, x], argTypes := #[t, t] })
    (base : Nat) (e : TypeId) (i : TypeInfo) (z : Value) (size bytes : Nat) (ht : P.underlying t = some (.slice e)) (hi : P.info? e = some i) (hz : i.zero = some z)
    (hsize : i.size = size) (hby : i.bytes = bytes) (hzs : z.cells.size = size) (hsz : 0 < size)
    (v : Value) (n : Nat) (xs : List Value) (hs : a.eval s = v) (hown : w.ownsRow base e size v n xs)
    (ad : Addr) (m c : Nat) (news : List Value) (hx : a.eval x = .slice (some ad) m c) (hl : news.length = m * size) (hnews : ∀ j u, news[j]? = some u → w.cell? (ad.add j) = some u) (h1 : ∀ u ∈ news, u.oneCell' = true)
    (h63 : n + m ≤ maxLen) (hbytes : (n + m) * bytes ≤ 140737488355328) (hbase : base ≤ w.heap.size)
    (hK : ∀ v' w', w'.ownsRow base e size v' (n + m) (xs ++ news) → w.grownBy w' v.ownBlock → (v'.ownBlock = v.ownBlock ∨ v'.ownBlock = some w.heap.size) → K (a.put o.dst v') w') :
    if Region.wanted o (yielded ops a.tmps) = true then Oper.wp P o a w K Q else E := by
  have hw : Region.wanted o (yielded ops a.tmps) = true := by simp [Region.wanted, hg]
  rw [if_pos hw]
  obtain ⟨v', w', hr, h2, h3, h4, h5⟩ := run_append_own_at (P := P) w base t o.type e i z size bytes ht hi hz hsize hby hzs hsz v n xs hown ad m c news hl hnews h1 h63 hbytes hbase
  unfold Oper.wp execOp
  simp only [hop, resolve, invoke, builtin, Sem.run_bind, Sem.run_pure, Result.andThen_ok, List.map_toArray, List.map_cons, List.map_nil, hs, hx, hr]
  exact hK v' w' h2 h3 h5
end Go.Proofs.Ytbfkfdbkjbgneaa
/- Contracts of the program's chapter 4: normElem, a copy in new memory. -/
namespace Go.Proofs.Ytbfkfdbkjbgneaa
open Go.RowKit Go.Sort Go.BigFrame
theorem devs_cells_at {w : World} {b o : Nat} {ds : List Stil.Dev} (h : ∀ i (h : i < ds.length), DevAt w b (o + i * 3) ds[i]) : ∀ j u, (devsCells ds)[j]? = some u → w.cell? ((⟨b, o, none⟩ : Addr).add j) = some u := by
  intro j u hu
  have hj : j < (devsCells ds).length := (List.getElem?_eq_some_iff.1 hu).1
  have hlen : (devsCells ds).length = ds.length * 3 := by
    clear hu hj h
    induction ds with
    | nil => rfl
    | cons d r ih => have e : devsCells (d :: r) = .int .i64 d.kind :: .int .i64 d.n :: .int .i64 d.p :: devsCells r := rfl; rw [e]; simp [ih]; omega
  have hi : j / 3 < ds.length := by omega
  obtain ⟨a1, a2, a3⟩ := devsCells_get ds (j / 3) hi
  obtain ⟨c1, c2, c3⟩ := h (j / 3) hi
  rw [Addr.add_lit]
  have hx : j = j / 3 * 3 ∨ j = j / 3 * 3 + 1 ∨ j = j / 3 * 3 + 2 := by omega
  rcases hx with e | e | e
  · rw [e] at hu
    rw [hu] at a1
    have e2 : o + j = o + j / 3 * 3 := by omega
    rw [e2, c1]; exact a1.symm
  · rw [e] at hu
    rw [hu] at a2
    have e2 : o + j = o + j / 3 * 3 + 1 := by omega
    rw [e2, c2]; exact a2.symm
  · rw [e] at hu
    rw [hu] at a3
    have e2 : o + j = o + j / 3 * 3 + 2 := by omega
    rw [e2, c3]; exact a3.symm
theorem grownO_cell {w w' : World} {r : Option Nat} {b o : Nat} (h : w.grownBy w' r) (hb : b < w.heap.size) (hne : r ≠ some b) : w'.cell? ⟨b, o, none⟩ = w.cell? ⟨b, o, none⟩ := by
  simp only [World.cell?, h.block b hb (fun e => hne e.symm)]
theorem grownO_frozen {w w' : World} {r : Option Nat} {b o : Nat} (h : w.grownBy w' r) (hb : b < w.heap.size) (hne : r ≠ some b) : w'.frozen? ⟨b, o, none⟩ = w.frozen? ⟨b, o, none⟩ := by
  simp only [World.frozen?, h.block b hb (fun e => hne e.symm)]
theorem slice_of_owns {w : World} {base s n : Nat} {e : TypeId} {v : Value} {xs : List Value} (h : w.ownsRow base e s v n xs) : ∃ a cap, v = .slice a n cap := by
  rcases h.2 with ⟨h0, h1⟩ | ⟨g, c, cur, h0, _⟩
  · exact ⟨none, 0, by rw [h0, h1]⟩
  · exact ⟨_, _, h0⟩
end Go.Proofs.Ytbfkfdbkjbgneaa
