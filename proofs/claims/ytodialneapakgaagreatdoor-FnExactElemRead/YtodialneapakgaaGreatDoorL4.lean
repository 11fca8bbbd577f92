/- Contracts of the laws' helpers that mark and hold operands. -/
import Derived.Test.YtodialneapakgaaGreatDoorGC
namespace Go.Proofs.YtodialneapakgaaGreatDoor
open Go.RowKit Go.Sort Go.BigFrame
theorem devsCells_put : ∀ (ds : List Stil.Dev) (k : Nat) (d : Stil.Dev), k < ds.length → (((devsCells ds).set (k * 3) (.int .i64 d.kind)).set (k * 3 + 1) (.int .i64 d.n)).set (k * 3 + 2) (.int .i64 d.p) = devsCells (ds.set k d)
  | [], k, d, h => by simp at h
  | c :: r, 0, d, _ => rfl
  | c :: r, k + 1, d, h => by
    have e : devsCells (c :: r) = .int .i64 c.kind :: .int .i64 c.n :: .int .i64 c.p :: devsCells r := rfl
    have e2 : devsCells ((c :: r).set (k + 1) d) = .int .i64 c.kind :: .int .i64 c.n :: .int .i64 c.p :: devsCells (r.set k d) := rfl
    have e3 : (k + 1) * 3 = k * 3 + 1 + 1 + 1 := by omega
    rw [e, e2, e3, ← devsCells_put r k d (by simpa using h)]
    rfl
theorem dev_put {w : World} {base b cap n k : Nat} {ds : List Stil.Dev} (h : w.ownsRow base 51 3 (.slice (some ⟨b, 0, none⟩) n cap) n (devsCells ds)) (d : Stil.Dev) (hk : k < ds.length) :
    (((w.setCell ⟨b, k * 3, none⟩ (.int .i64 d.kind)).setCell ⟨b, k * 3 + 1, none⟩ (.int .i64 d.n)).setCell ⟨b, k * 3 + 2, none⟩ (.int .i64 d.p)).ownsRow base 51 3 (.slice (some ⟨b, 0, none⟩) n cap) n (devsCells (ds.set k d)) := by
  rw [← devsCells_put ds k d hk]
  exact (((h.stored (k * 3) _).1.stored (k * 3 + 1) _).1.stored (k * 3 + 2) _).1
theorem dev_at {w : World} {base b cap k : Nat} {ds : List Stil.Dev} {n : Nat} (hn : ds.length = n) (h : w.ownsRow base 51 3 (.slice (some ⟨b, 0, none⟩) n cap) n (devsCells ds)) (hk : k < n) :
    w.cell? ⟨b, k * 3, none⟩ = some (.int .i64 (ds[k]'(by omega)).kind) ∧ w.cell? ⟨b, k * 3 + 1, none⟩ = some (.int .i64 (ds[k]'(by omega)).n) ∧ w.cell? ⟨b, k * 3 + 2, none⟩ = some (.int .i64 (ds[k]'(by omega)).p) ∧ w.frozen? ⟨b, k * 3, none⟩ = false ∧ w.frozen? ⟨b, k * 3 + 1, none⟩ = false ∧ w.frozen? ⟨b, k * 3 + 2, none⟩ = false := by
  subst hn
  obtain ⟨g, c, hv, _, _, _, hc⟩ := ownsRow_cells h (by omega)
  simp only [Value.slice.injEq, Option.some.injEq, Addr.mk.injEq] at hv
  obtain ⟨⟨rfl, _⟩, _⟩ := hv
  obtain ⟨a1, a2, a3⟩ := devsCells_get ds k hk
  exact ⟨hc _ _ a1, hc _ _ a2, hc _ _ a3, h.frozenAt _, h.frozenAt _, h.frozenAt _⟩
theorem gr_setb {w a : World} {b o : Nat} (h : w.grownBy a (some b)) (v : Value) : w.grownBy (a.setCell ⟨b, o, none⟩ v) (some b) :=
  ⟨h.os, h.tape, h.output, by simpa using h.size, fun k hk hn => by
    rw [← h.block k hk hn]
    simp only [World.setCell, Array.getElem?_modify]
    rw [if_neg (fun e => hn (by rw [e]))]⟩
/-- The marks. -/
def markOf (k : Int) (i : Nat) : Stil.Dev := ⟨k + 3 * i, k + 3 * i + 1, k + 3 * i + 2⟩
def marks (k : Int) (n : Nat) : List Stil.Dev := (List.range n).map (markOf k)
theorem marks_len (k : Int) (n : Nat) : (marks k n).length = n := by simp [marks]
theorem marks_get (k : Int) (n i : Nat) (h : i < n) : (marks k n)[i]'(by rw [marks_len]; exact h) = markOf k i := by simp [marks]
theorem marks_step (k : Int) (ds : List Stil.Dev) (j : Nat) (h : j < ds.length) : (marks k j ++ ds.drop j).set j (markOf k j) = marks k (j + 1) ++ ds.drop (j + 1) := by
  rw [List.set_append_right _ _ (by rw [marks_len]; exact Nat.le_refl _), marks_len, Nat.sub_self, List.drop_eq_getElem_cons h, List.set_cons_zero]
  simp [marks, List.range_succ]
set_option maxHeartbeats 1000000 in
set_option maxRecDepth 100000 in
theorem l_markDevs (v : Value) (ds : List Stil.Dev) (k : Int) (base : Nat) (w : World) (hown : w.ownsRow base 51 3 v ds.length (devsCells ds)) (hk0 : 0 ≤ k) (hk1 : k ≤ 1000000) (hl : ds.length ≤ 1000) :
    Calls Tryz.prog 42 #[v, .int .i64 k] w fun e w' => e = .returned (.int .i64 (k + 3 * ds.length)) ∧ w'.ownsRow base 51 3 v ds.length (devsCells (marks k ds.length)) ∧ w.grownBy w' v.ownBlock := by
  by_cases hd : ds.length = 0
  · obtain rfl : ds = [] := List.length_eq_zero_iff.1 hd
    obtain ⟨a, c, rfl⟩ : ∃ a c, v = .slice a 0 c := by
      rcases hown.2 with ⟨h0, _⟩ | ⟨g, c, cur, h0, _⟩
      · exact ⟨_, _, h0⟩
      · exact ⟨_, _, h0⟩
    go_enter Tryz.func42, Tryz.ntmps42
    go_wp2
    go_loopw [1, 5] (fun kv iv wr => kv = .int .i64 k ∧ iv = .int .i64 0 ∧ wr = w) (fun _ _ _ => 0)
    case atStart => exact ⟨rfl, rfl, rfl⟩
    case round =>
      obtain ⟨rfl, rfl, rfl⟩ := hrel
      go_wp2
      go_ret
      exact ⟨ret_int (by simp), hown, ⟨rfl, rfl, rfl, Nat.le_refl _, fun _ _ _ => rfl⟩⟩
  · obtain ⟨b, cap, rfl, _, hbs, _, _⟩ := ownsRow_cells hown (by omega)
    go_enter Tryz.func42, Tryz.ntmps42
    go_wp2
    go_loopw [1, 5] (fun kv iv wr => ∃ j : Nat, j ≤ ds.length ∧ kv = .int .i64 (k + 3 * j) ∧ iv = .int .i64 j ∧ wr.ownsRow base 51 3 (.slice (some ⟨b, 0, none⟩) ds.length cap) ds.length (devsCells (marks k j ++ ds.drop j)) ∧ w.grownBy wr (some b)) (fun _ iv _ => ds.length - (intOf iv).toNat)
    case atStart => exact ⟨0, by omega, by simp, rfl, hown, ⟨rfl, rfl, rfl, Nat.le_refl _, fun _ _ _ => rfl⟩⟩
    case round =>
      obtain ⟨j, hj, rfl, rfl, ho, hg⟩ := hrel
      by_cases hlt : j < ds.length
      · have hn : (marks k j ++ ds.drop j).length = ds.length := by simp [marks_len]; omega
        obtain ⟨c0, c1, c2, f0, f1, f2⟩ := dev_at hn ho hlt
        have hput := dev_put ho (markOf k j) (show j < (marks k j ++ ds.drop j).length by omega)
        rw [marks_step k ds j hlt] at hput
        have HP : Hid ((((wr.setCell ⟨b, j * 3, none⟩ (.int .i64 (k + 3 * j))).setCell ⟨b, j * 3 + 1, none⟩ (.int .i64 (k + 3 * j + 1))).setCell ⟨b, j * 3 + 2, none⟩ (.int .i64 (k + 3 * j + 2))).ownsRow base 51 3 (.slice (some ⟨b, 0, none⟩) ds.length cap) ds.length (devsCells (marks k (j + 1) ++ ds.drop (j + 1)))) := hput
        obtain ⟨x0, hx0⟩ : ∃ x0, x0 = ((marks k j ++ ds.drop j)[j]'(by omega)) := ⟨_, rfl⟩
        rw [← hx0] at c0 c1 c2
        clear hput hx0 hn ho
        have w1 : IntKind.i64.wrap (k + 3 * (j : Int) + 1) = k + 3 * j + 1 := by rw [IntKind.wrap_i64]; omega
        have w2 : IntKind.i64.wrap (k + 3 * (j : Int) + 1 + 1) = k + 3 * j + 2 := by rw [IntKind.wrap_i64]; omega
        have w3 : IntKind.i64.wrap (k + 3 * (j : Int) + 2 + 1) = k + 3 * j + 3 := by rw [IntKind.wrap_i64]; omega
        go_wp2
        exact ⟨⟨j + 1, by omega, by rw [show k + 3 * ((j + 1 : Nat) : Int) = k + 3 * j + 3 from by omega], by go_num, HP.out, gr_setb (gr_setb (gr_setb hg _) _) _⟩, by simp [intOf]; omega⟩
      · have hjl : j = ds.length := by omega
        subst hjl
        rw [List.drop_length, List.append_nil] at ho
        go_wp2
        go_ret
        exact ⟨rfl, ho, hg⟩
set_option maxHeartbeats 1000000 in
set_option maxRecDepth 100000 in
theorem l_heldDevs (v : Value) (n : Nat) (k : Int) (base : Nat) (w : World) (hown : w.ownsRow base 51 3 v n (devsCells (marks k n))) (hk0 : 0 ≤ k) (hk1 : k ≤ 1000000) (hl : n ≤ 1000) :
    Calls Tryz.prog 43 #[v, .int .i64 k] w fun e w' => e = .returned (.int .i64 (k + 3 * n)) ∧ w' = w := by
  obtain ⟨a, c, rfl⟩ : ∃ a c, v = .slice a n c := by
    rcases hown.2 with ⟨h0, h1⟩ | ⟨g, c, cur, h0, _⟩
    · exact ⟨none, 0, by rw [h0, h1]⟩
    · exact ⟨_, _, h0⟩
  have HO : Hid (∀ j, j < n → ∃ b, a = some ⟨b, 0, none⟩ ∧ w.cell? ⟨b, j * 3, none⟩ = some (.int .i64 (k + 3 * j)) ∧ w.cell? ⟨b, j * 3 + 1, none⟩ = some (.int .i64 (k + 3 * j + 1)) ∧ w.cell? ⟨b, j * 3 + 2, none⟩ = some (.int .i64 (k + 3 * j + 2))) := by
    intro j hj
    obtain ⟨b, cap, hv, _⟩ := ownsRow_cells hown (by omega)
    simp only [Value.slice.injEq] at hv
    obtain ⟨rfl, _, rfl⟩ := hv
    obtain ⟨c0, c1, c2, _⟩ := dev_at (marks_len k n) hown hj
    rw [marks_get k n j hj] at c0 c1 c2
    exact ⟨b, rfl, c0, c1, c2⟩
  clear hown
  go_enter Tryz.func43, Tryz.ntmps43
  go_wp2
  go_loopw [1, 5] (fun kv iv wr => ∃ j : Nat, j ≤ n ∧ kv = .int .i64 (k + 3 * j) ∧ iv = .int .i64 j ∧ wr = w) (fun _ iv _ => n - (intOf iv).toNat)
  case atStart => exact ⟨0, by omega, by simp, rfl, rfl⟩
  case round =>
    obtain ⟨j, hj, rfl, rfl, rfl⟩ := hrel
    by_cases hlt : j < n
    · obtain ⟨b, rfl, c0, c1, c2⟩ := HO.out j hlt
      have w1 : IntKind.i64.wrap (k + 3 * (j : Int) + 1) = k + 3 * j + 1 := by rw [IntKind.wrap_i64]; omega
      have w2 : IntKind.i64.wrap (k + 3 * (j : Int) + 1 + 1) = k + 3 * j + 2 := by rw [IntKind.wrap_i64]; omega
      have w3 : IntKind.i64.wrap (k + 3 * (j : Int) + 2 + 1) = k + 3 * j + 3 := by rw [IntKind.wrap_i64]; omega
      go_wp2
      exact ⟨⟨j + 1, by omega, by rw [show k + 3 * ((j + 1 : Nat) : Int) = k + 3 * j + 3 from by omega], by go_num, trivial⟩, by simp [intOf]; omega⟩
    · have hjl : j = n := by omega
      subst hjl
      go_wp2
      go_ret
      exact ⟨rfl, rfl⟩
set_option maxHeartbeats 1000000 in
set_option maxRecDepth 100000 in
theorem l_markElem (op : Int) (v : Value) (ds : List Stil.Dev) (k : Int) (base : Nat) (w : World) (hown : w.ownsRow base 51 3 v ds.length (devsCells ds)) (hk0 : 0 ≤ k) (hk1 : k ≤ 1000000) (hl : ds.length ≤ 1000) :
    Calls Tryz.prog 16 #[.agg #[.int .i64 op, v], .int .i64 k] w fun e w' => e = .returned (.int .i64 (k + 3 * ds.length)) ∧ w'.ownsRow base 51 3 v ds.length (devsCells (marks k ds.length)) ∧ w.grownBy w' v.ownBlock := by
  have HM : Hid (∀ W, Below w.heap.size w W → Calls Tryz.prog 42 #[v, .int .i64 k] W fun e w' => e = .returned (.int .i64 (k + 3 * ds.length)) ∧ w'.ownsRow base 51 3 v ds.length (devsCells (marks k ds.length)) ∧ W.grownBy w' v.ownBlock) := fun W h => l_markDevs v ds k base W (ownsRow_below hown h) hk0 hk1 hl
  obtain ⟨a, n, c, rfl⟩ : ∃ a n c, v = .slice a n c := by
    rcases hown.2 with ⟨h0, h1⟩ | ⟨g, c, cur, h0, _⟩
    · exact ⟨_, _, _, h0⟩
    · exact ⟨_, _, _, h0⟩
  clear hown
  go_enter Tryz.func16, Tryz.ntmps16
  go_wp2_with (go_at_call 42; refine (HM.out _ (by (repeat (first | exact Below.refl _ _ | assumption | refine bl_alloc ?_ _ | refine bl_drewN ?_ _ | refine bl_drew ?_ | refine bl_grow ?_ _ _ | refine bl_set (Nat.le_refl _) ?_ _ | refine bl_call ?_ (by assumption))))).mono ?_; rintro e w1 ⟨rfl, ho1, hg1⟩)
  go_ret
  refine ⟨rfl, ho1, ?_⟩
  have hb := below_alloc w (.cells #[.int .i64 op, .slice a n c] 25)
  exact ⟨hg1.os.trans hb.os, hg1.tape.trans hb.tape, hg1.output.trans hb.output, Nat.le_trans hb.size hg1.size, fun q hq hn => (hg1.block q (Nat.lt_of_lt_of_le hq hb.size) hn).trans (hb.block q hq)⟩
set_option maxHeartbeats 1000000 in
set_option maxRecDepth 100000 in
theorem l_heldElem (op : Int) (v : Value) (n : Nat) (k : Int) (base : Nat) (w : World) (hown : w.ownsRow base 51 3 v n (devsCells (marks k n))) (hk0 : 0 ≤ k) (hk1 : k ≤ 1000000) (hl : n ≤ 1000) :
    Calls Tryz.prog 17 #[.agg #[.int .i64 op, v], .int .i64 k] w fun e w' => e = .returned (.int .i64 (k + 3 * n)) ∧ Below w.heap.size w w' := by
  have HM : Hid (∀ W, Below w.heap.size w W → Calls Tryz.prog 43 #[v, .int .i64 k] W fun e w' => e = .returned (.int .i64 (k + 3 * n)) ∧ w' = W) := fun W h => l_heldDevs v n k base W (ownsRow_below hown h) hk0 hk1 hl
  obtain ⟨a, m, c, rfl⟩ : ∃ a m c, v = .slice a m c := by
    rcases hown.2 with ⟨h0, h1⟩ | ⟨g, c, cur, h0, _⟩
    · exact ⟨_, _, _, h0⟩
    · exact ⟨_, _, _, h0⟩
  clear hown
  have hneg : decide (k + 3 * (n : Int) < 0) = false := decide_eq_false (by omega)
  go_enter Tryz.func17, Tryz.ntmps17
  go_wp2_with (go_at_call 43; refine (HM.out _ (by (repeat (first | exact Below.refl _ _ | assumption | refine bl_alloc ?_ _ | refine bl_drewN ?_ _ | refine bl_drew ?_ | refine bl_grow ?_ _ _ | refine bl_set (Nat.le_refl _) ?_ _ | refine bl_call ?_ (by assumption))))).mono ?_; rintro e w1 ⟨rfl, rfl⟩)
  go_ret
  exact ⟨rfl, below_alloc _ _⟩
end Go.Proofs.YtodialneapakgaaGreatDoor
