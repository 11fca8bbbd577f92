/- Contracts of the specification's chapter 2, eleventh part: l2Guess. -/
import Derived.Test.YtnbdgpepancfnabDoorS2j
import Derived.Test.YtnbdgpepancfnabDoorM2f
import Derived.Deep.RegionLaw
import Derived.Deep.DeepCutAuto
namespace Go.Proofs.YtnbdgpepancfnabDoor
open Go.RowKit Go.Sort Go.BigFrame
theorem step_append_own {P : Program} {ops : Array Oper} {o : Oper} {a : Act} {w : World} {K : Act → World → Prop} {Q : Exit → Act → World → Prop} {E : Prop}
    (hg : o.guard = none) (s x : Operand) (t : TypeId) (hop : o.op = .call { callee := .builtin .append, args := #[s, x], argTypes := #[t, t] })
    (base : Nat) (e : TypeId) (i : TypeInfo) (z : Value) (size bytes : Nat) (ht : P.underlying t = some (.slice e)) (hi : P.info? e = some i) (hz : i.zero = some z)
    (hsize : i.size = size) (hby : i.bytes = bytes) (hzs : z.cells.size = size) (hsz : 0 < size)
    (v : Value) (n : Nat) (xs : List Value) (hs : a.eval s = v) (hown : w.ownsRow base e size v n xs)
    (ad : Addr) (m c : Nat) (news : List Value) (hx : a.eval x = .slice (some ad) m c) (hl : news.length = m * size) (hnews : ∀ j u, news[j]? = some u → w.cell? (ad.add j) = some u) (h1 : ∀ u ∈ news, u.oneCell' = true)
    (h63 : n + m ≤ maxLen) (hbytes : (n + m) * bytes ≤ 140737488355328) (hbase : base ≤ w.heap.size)
    (hK : ∀ v' w', w'.ownsRow base e size v' (n + m) (xs ++ news) → w.grownBy w' v.ownBlock → K (a.put o.dst v') w') :
    if Region.wanted o (yielded ops a.tmps) = true then Oper.wp P o a w K Q else E := by
  have hw : Region.wanted o (yielded ops a.tmps) = true := by simp [Region.wanted, hg]
  rw [if_pos hw]
  exact wp_append_own w s x t hop base e i z size bytes ht hi hz hsize hby hzs hsz v n xs hs hown ad m c news hx hl hnews h1 h63 hbytes hbase fun v' w' h2 h3 _ => hK v' w' h2 h3
theorem args_le (c : UInt8) (l : List UInt8) : (Stil.args c l).length ≤ 4 := by simp [Stil.args]; omega
theorem args_pos (c : UInt8) (l : List UInt8) : 0 < (Stil.args c l).length := by have := cut_ne c l; simp [Stil.args]; omega
theorem devsCells_append (a b : List Stil.Dev) : devsCells (a ++ b) = devsCells a ++ devsCells b := by simp [devsCells]
theorem devsCells_one (ds : List Stil.Dev) : ∀ u ∈ devsCells ds, u.oneCell' = true := by
  intro u hu
  simp only [devsCells, List.mem_flatMap, devCells] at hu
  obtain ⟨d, _, hd⟩ := hu
  simp at hd
  rcases hd with rfl | rfl | rfl <;> rfl
theorem ba_take (l : List UInt8) (k : Nat) : (⟨l.toArray⟩ : ByteArray).extract 0 k = ⟨(l.take k).toArray⟩ := by rw [ba_ext]; simp
/-- The result of two lists of operands, one behind the other, in memory of the call's own. -/
theorem app_done {w w2 w3 w4 w5 : World} {g cap : Nat} {a b : List Stil.Dev} {v' : Value}
    (hB : Below (w.heap.size + 1) (w.alloc (.cells #[.int .i64 0, .slice none 0 0] 29)) w2) (hb3 : Below w2.heap.size w2 w3) (hb4 : Below w3.heap.size w3 w4)
    (ho3 : w3.ownsRow w2.heap.size 37 3 (.slice (some ⟨g, 0, none⟩) a.length cap) a.length (devsCells a))
    (ho5 : w5.ownsRow w2.heap.size 37 3 v' (a.length + b.length) (devsCells a ++ devsCells b)) (hgr : w4.grownBy w5 (Value.ownBlock (.slice (some ⟨g, 0, none⟩) a.length cap))) (hp : 0 < a.length) :
    (∃ g' cap', v' = .slice (some ⟨g', 0, none⟩) (a.length + b.length) cap') ∧ Below (w.heap.size + 1) (w.alloc (.cells #[.int .i64 0, .slice none 0 0] 29)) w5 ∧ w5.ownsRow (w.heap.size + 1) 37 3 v' (a ++ b).length (devsCells (a ++ b)) := by
  obtain ⟨g', cap', hv, _⟩ := ownsRow_cells ho5 (by omega)
  have hz : w.heap.size + 1 ≤ w2.heap.size := by have := hB.size; simpa using this
  refine ⟨⟨g', cap', hv⟩, ?_, ?_⟩
  · have h1 := hB.trans ((hb3.trans (hb4.mono hb3.size)).mono hz)
    refine h1.grown hgr (by have := hb3.size; have := hb4.size; omega) (fun k hk => ?_)
    have := (ho3.lt k hk).1
    omega
  · rw [devsCells_append, List.length_append]
    exact Joins.ownsRow_le ho5 (by omega)
theorem res2 {w w5 : World} (hB : Below (w.heap.size + 1) (w.alloc (.cells #[.int .i64 0, .slice none 0 0] 29)) w5) :
    w5.cell? ⟨w.heap.size, 0, none⟩ = some (.int .i64 0) ∧ w5.frozen? ⟨w.heap.size, 0, none⟩ = false ∧ w5.cell? ⟨w.heap.size, 1, none⟩ = some (.slice none 0 0) ∧ w5.frozen? ⟨w.heap.size, 1, none⟩ = false ∧ w.heap.size < w5.heap.size := by
  have hz : w.heap.size < w5.heap.size := by have := hB.size; simp at this; omega
  have c0 : w5.cell? ⟨w.heap.size, 0, none⟩ = some (.int .i64 0) := by rw [hB.cell (p := ⟨w.heap.size, 0, none⟩) (by simp)]; simp [go_sem]
  have f0 : w5.frozen? ⟨w.heap.size, 0, none⟩ = false := by rw [hB.frozen (p := ⟨w.heap.size, 0, none⟩) (by simp)]; simp [go_sem]
  have c1 : w5.cell? ⟨w.heap.size, 1, none⟩ = some (.slice none 0 0) := by rw [hB.cell (p := ⟨w.heap.size, 1, none⟩) (by simp)]; simp [go_sem]
  have f1 : w5.frozen? ⟨w.heap.size, 1, none⟩ = false := by rw [hB.frozen (p := ⟨w.heap.size, 1, none⟩) (by simp)]; simp [go_sem]
  exact ⟨c0, f0, c1, f1, hz⟩
theorem owns_res {w w5 : World} {v : Value} {n : Nat} {xs : List Value} (h : w5.ownsRow (w.heap.size + 1) 37 3 v n xs) (a b : Value) :
    ((w5.setCell ⟨w.heap.size, 0, none⟩ a).setCell ⟨w.heap.size, 1, none⟩ b).ownsRow w.heap.size 37 3 v n xs :=
  Joins.ownsRow_le (ownsRow_setCell_below (ownsRow_setCell_below h (Nat.lt_succ_self _) a) (Nat.lt_succ_self _) b) (Nat.le_succ _)
theorem u8_beq (y c : UInt8) (n : Int) (h : (c.toNat : Int) = n) : (y == c) = ((y.toNat : Int) == n) := by
  rw [Bool.eq_iff_iff]; simp only [beq_iff_eq]
  constructor
  · intro e; subst e; exact h
  · intro e; exact UInt8.toNat_inj.1 (by omega)
end Go.Proofs.YtnbdgpepancfnabDoor
