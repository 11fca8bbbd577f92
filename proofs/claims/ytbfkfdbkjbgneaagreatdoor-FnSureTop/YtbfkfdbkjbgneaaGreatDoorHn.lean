/- I8s, I9, I10: texts put together. -/
import Derived.Test.YtbfkfdbkjbgneaaGreatDoorGa
import Derived.Test.YtbfkfdbkjbgneaaGreatDoorGB
import Derived.WalkLawsBesides
import Derived.Deep.Light
import Derived.Test.YtbfkfdbkjbgneaaGreatDoorHh
import Derived.Test.YtbfkfdbkjbgneaaGreatDoorGg
import Derived.Test.YtbfkfdbkjbgneaaGreatDoorG4
import Derived.Test.YtbfkfdbkjbgneaaGreatDoorGl
/- Contracts of the program's chapter 6: a step of the run. -/
namespace Go.Proofs.YtbfkfdbkjbgneaaGreatDoor
open Go.RowKit Go.Sort Go.BigFrame
set_option maxHeartbeats 2000000 in
set_option maxRecDepth 100000 in
theorem i_sureStep (b f : Int) (c : Int) (w : World) (hb0 : -1000 ≤ b) (hb1 : b ≤ 1000) (hf0 : -1000 ≤ f) (hf1 : f ≤ 1000) :
    Calls Tryz.prog 32 #[.agg #[.int .i64 b, .int .i64 f], .int .i64 c] w fun e w' => e = .returned (.agg #[.int .i64 (if c = 1 then b + 1 else if c = 4 ∨ c = 5 ∨ c = 11 then b - 1 else b), .int .i64 (if c = 7 then f + 1 else if c = 9 then f - 1 else f)]) ∧ Below w.heap.size w w' := by
  have k1 : IntKind.i64.wrap (b + 1) = b + 1 := by rw [IntKind.wrap_i64]; omega
  have k2 : IntKind.i64.wrap (b - 1) = b - 1 := by rw [IntKind.wrap_i64]; omega
  have k3 : IntKind.i64.wrap (f + 1) = f + 1 := by rw [IntKind.wrap_i64]; omega
  have k4 : IntKind.i64.wrap (f - 1) = f - 1 := by rw [IntKind.wrap_i64]; omega
  obtain ⟨x, hx⟩ : ∃ x : Int, x = if c = 1 then b + 1 else if c = 4 ∨ c = 5 ∨ c = 11 then b - 1 else b := ⟨_, rfl⟩
  obtain ⟨y, hy⟩ : ∃ y : Int, y = if c = 7 then f + 1 else if c = 9 then f - 1 else f := ⟨_, rfl⟩
  have HX : Hid (x = if c = 1 then b + 1 else if c = 4 ∨ c = 5 ∨ c = 11 then b - 1 else b) := hx
  have HY : Hid (y = if c = 7 then f + 1 else if c = 9 then f - 1 else f) := hy
  rw [← hx, ← hy]
  clear hx hy hb0 hb1 hf0 hf1
  go_enter Tryz.func32, Tryz.ntmps32
  go_wp2
  all_goals refine bodyPost_ret (by simp [results, Tryz.results32, go_sem]; rfl) rfl ⟨?_, by (repeat (first | with_reducible exact Below.refl _ _ | with_reducible assumption | with_reducible refine bl_set (by first | exact Nat.le_refl _ | (simp; done) | (simp; omega) | omega) ?_ _ | with_reducible refine bl_alloc ?_ _ | with_reducible refine bl_drewN ?_ _ | with_reducible refine bl_drew ?_ | with_reducible refine bl_grow ?_ _ _ | with_reducible refine bl_call ?_ (by assumption)))⟩
  all_goals (rw [HX.out, HY.out]; go_light; (try simp only [beq_iff_eq, beq_eq_false_iff_ne] at *); simp [*])
end Go.Proofs.YtbfkfdbkjbgneaaGreatDoor
/- The program's chapter 6: SureTrace. -/
namespace Go.Proofs.YtbfkfdbkjbgneaaGreatDoor
open Go.RowKit Go.Sort Go.BigFrame
/-- The cells of heights. -/
def stCells (l : List (Int × Int)) : List Value := l.flatMap fun s => [.int .i64 s.1, .int .i64 s.2]
theorem info_state : (Tryz.prog.info? 48).map (fun i => (i.zero, i.size, i.bytes)) = some (some (.agg #[.int .i64 0, .int .i64 0]), 2, 16) := by kernel_rfl
/-- Heights in a variable. -/
def StBox (w : World) (b : Nat) (s : Int × Int) : Prop := b < w.heap.size ∧ w.cell? ⟨b, 0, none⟩ = some (.int .i64 s.1) ∧ w.cell? ⟨b, 1, none⟩ = some (.int .i64 s.2) ∧ w.frozen? ⟨b, 0, none⟩ = false ∧ w.frozen? ⟨b, 1, none⟩ = false
theorem StBox.grown {w w' : World} {b : Nat} {s : Int × Int} {r : Option Nat} (h : StBox w b s) (hg : w.grownBy w' r) (hr : r ≠ some b) : StBox w' b s := by
  obtain ⟨h0, h1⟩ := h
  have e : w'.heap[b]? = w.heap[b]? := hg.block b h0 (fun x => hr x.symm)
  have hc : ∀ o, w'.cell? ⟨b, o, none⟩ = w.cell? ⟨b, o, none⟩ := fun o => by unfold World.cell?; rw [e]
  have hf : ∀ o, w'.frozen? ⟨b, o, none⟩ = w.frozen? ⟨b, o, none⟩ := fun o => by unfold World.frozen?; rw [e]
  refine ⟨Nat.lt_of_lt_of_le h0 hg.size, ?_⟩
  rw [hc, hc, hf, hf]
  exact h1
theorem stCells_snoc (l : List (Int × Int)) (s : Int × Int) : stCells (l ++ [s]) = stCells l ++ [.int .i64 s.1, .int .i64 s.2] := by simp [stCells]
set_option maxHeartbeats 2000000 in
set_option maxRecDepth 100000 in
theorem i_sureTrace (l : List Stil.Inst) (v : Value) (w : World) (hv : InstsAt w v l) (hl : l.length ≤ 1048576) :
    Calls Tryz.prog 18 #[v] w fun e w' => ∃ (a : Option Addr) (c : Nat), e = .returned (.slice a (Stil.sureTrace l).length c) ∧ w'.ownsRow w.heap.size 48 2 (.slice a (Stil.sureTrace l).length c) (Stil.sureTrace l).length (stCells (Stil.sureTrace l)) ∧ Below w.heap.size w w' := by
  obtain ⟨i0, hi, hy0, hy1, hy2⟩ := info_parts info_state
  have HV : Hid (∀ W, Below w.heap.size w W → InstsAt W v l) := fun W h => hv.below h
  obtain ⟨a0, c0, rfl, -⟩ := hv
  by_cases hbig : 1000 < l.length
  · have HT : Hid (Stil.sureTrace l = []) := if_pos hbig
    rw [HT.out]
    clear HT
    go_enter Tryz.func18, Tryz.ntmps18
    go_wp2
    go_ret
    exact ⟨none, 0, rfl, World.ownsRow_nil _ _ _ _, Below.refl _ _⟩
  have HT : Hid (Stil.sureTrace l = Stil.traceFrom (0, 0) l) := if_neg hbig
  rw [HT.out]
  have hlen := Stil.traceFrom_len l (0, 0)
  have HLEN : Hid ((Stil.traceFrom (0, 0) l).length = l.length) := hlen
  rw [hlen]
  clear HT hlen
  go_enter Tryz.func18, Tryz.ntmps18
  go_wp2
  go_loopw [3, 12] (fun tr i wr => ∃ (j : Nat) (a : Option Addr) (c : Nat), j ≤ l.length ∧ i = .int .i64 j ∧ tr = .slice a j c ∧ wr.ownsRow (w.heap.size + 1) 48 2 (.slice a j c) j (stCells ((Stil.traceFrom (0, 0) l).take j)) ∧ StBox wr w.heap.size (Stil.stFrom (0, 0) l j) ∧ Below w.heap.size w wr) (fun _ i _ => l.length - (intOf i).toNat)
  case atStart =>
    refine ⟨0, none, 0, by omega, rfl, rfl, World.ownsRow_nil _ _ _ _, ?_, by (repeat (first | with_reducible exact Below.refl _ _ | with_reducible assumption | with_reducible refine bl_set (by first | exact Nat.le_refl _ | (simp; done) | (simp; omega) | omega) ?_ _ | with_reducible refine bl_alloc ?_ _ | with_reducible refine bl_drewN ?_ _ | with_reducible refine bl_drew ?_ | with_reducible refine bl_grow ?_ _ _ | with_reducible refine bl_call ?_ (by assumption)))⟩
    rw [Stil.stFrom_zero]
    exact ⟨by simp, by simp [go_sem], by simp [go_sem], by simp [go_sem], by simp [go_sem]⟩
  case round =>
    obtain ⟨j, a, c, hj, rfl, rfl, hown, hbox, hB⟩ := hrel
    by_cases hlt : j < l.length
    · have HOW : Hid (wr.ownsRow (w.heap.size + 1) 48 2 (.slice a j c) j (stCells ((Stil.traceFrom (0, 0) l).take j))) := hown
      have HBX : Hid (StBox wr w.heap.size (Stil.stFrom (0, 0) l j)) := hbox
      obtain ⟨a', c', e', hat⟩ := HV.out wr hB
      cases e'
      obtain ⟨b, o, rfl, hbl, x0, x1, av, x2, hav⟩ := hat j hlt
      obtain ⟨q1, q2, rfl, -⟩ := hav
      have hbd := Stil.st_bound l (0, 0) j
      simp only at hbd
      have HSN : Hid ((Stil.traceFrom (0, 0) l).take (j + 1) = (Stil.traceFrom (0, 0) l).take j ++ [Stil.step (Stil.stFrom (0, 0) l j) l[j].code]) := Stil.trace_snoc l j hlt
      have HSU : Hid (Stil.stFrom (0, 0) l (j + 1) = Stil.step (Stil.stFrom (0, 0) l j) l[j].code) := Stil.stFrom_succ l (0, 0) j hlt
      obtain ⟨⟨B, F⟩, hs⟩ : ∃ s, s = Stil.stFrom (0, 0) l j := ⟨_, rfl⟩
      rw [← hs] at HSN HSU HBX hbd hbox
      obtain ⟨x, hx⟩ : ∃ x, x = l[j] := ⟨_, rfl⟩
      rw [← hx] at HSN HSU x0 x1 x2
      obtain ⟨hz, b0, b1, p0, p1⟩ := hbox
      simp only at b0 b1 hbd
      have hst : ∀ W, Calls Tryz.prog 32 #[.agg #[.int .i64 B, .int .i64 F], .int .i64 x.code] W fun e w' => e = .returned (.agg #[.int .i64 (Stil.step (B, F) x.code).1, .int .i64 (Stil.step (B, F) x.code).2]) ∧ Below W.heap.size W w' := fun W => i_sureStep B F x.code W (by omega) (by omega) (by omega) (by omega)
      have HST : Hid (∀ W, Calls Tryz.prog 32 #[.agg #[.int .i64 B, .int .i64 F], .int .i64 x.code] W fun e w' => e = .returned (.agg #[.int .i64 (Stil.step (B, F) x.code).1, .int .i64 (Stil.step (B, F) x.code).2]) ∧ Below W.heap.size W w') := hst
      obtain ⟨S, hS⟩ : ∃ S, S = Stil.step (B, F) x.code := ⟨_, rfl⟩
      rw [← hS] at HST HSN HSU
      clear hs hx hS hst hat hown
      go_upto_region 9 with (go_at_call 32; refine (HST.out _).mono ?_; rintro e w3 ⟨rfl, hb3⟩; obtain ⟨hz3, b0, b1, p0, p1⟩ := StBox.grown (r := none) (HBX.out.grown (r := none) (grown_below (below_alloc _ _) _) (by simp)) (grown_below hb3 _) (by simp))
      have hC3 : Below wr.heap.size wr w3 := by (repeat (first | with_reducible exact Below.refl _ _ | with_reducible assumption | with_reducible refine bl_set (by first | exact Nat.le_refl _ | (simp; done) | (simp; omega) | omega) ?_ _ | with_reducible refine bl_alloc ?_ _ | with_reducible refine bl_drewN ?_ _ | with_reducible refine bl_drew ?_ | with_reducible refine bl_grow ?_ _ _ | with_reducible refine bl_call ?_ (by assumption)))
      have hBw3 : Below w.heap.size w w3 := hB.trans (hC3.mono hB.size)
      obtain ⟨W4, hW4⟩ : ∃ W4, W4 = (w3.setCell ⟨w.heap.size, 0, none⟩ (.int .i64 S.1)).setCell ⟨w.heap.size, 1, none⟩ (.int .i64 S.2) := ⟨_, rfl⟩
      have hbox4 : StBox W4 w.heap.size S := by
        rw [hW4]
        exact ⟨by simp; omega, (cell_set_off (by omega)).trans (cell_set_at b0), cell_set_at ((cell_set_off (by omega)).trans b1), frozen_set.trans (frozen_set.trans p0), frozen_set.trans (frozen_set.trans p1)⟩
      have hB4 : Below w.heap.size w W4 := by rw [hW4]; exact bl_set (Nat.le_refl _) (bl_set (Nat.le_refl _) hBw3 _) _
      have HOW4 : Hid (W4.ownsRow (w.heap.size + 1) 48 2 (.slice a j c) j (stCells ((Stil.traceFrom (0, 0) l).take j))) := by
        rw [hW4]
        exact ownsRow_setCell_below (ownsRow_setCell_below (ownsRow_below HOW.out hC3) (by show w.heap.size < _; omega) _) (by show w.heap.size < _; omega) _
      have HBX4 : Hid (StBox W4 w.heap.size S) := hbox4
      rw [← hW4]
      obtain ⟨hz4, b0, b1, -, -⟩ := hbox4
      clear hW4 HOW HBX hb3 p0 p1 hz3
      go_wp2_with (at_builtin; refine wpList_append_own_at _ rfl _ _ 45 rfl (w.heap.size + 1) 48 i0 (.agg #[.int .i64 0, .int .i64 0]) 2 16 Tryz.underlying45 hi hy0 hy1 hy2 rfl (by decide) _ _ _ rfl (HOW4.out.alloc _) _ _ _ [.int .i64 S.1, .int .i64 S.2] rfl rfl (by exact cells_new _ _ _ _ (by simp)) (by intro u hu; simp at hu; rcases hu with rfl | rfl <;> rfl) (by unfold maxLen; omega) (by omega) (by rw [World.size_alloc]; omega) ?_; intro v' w6 hown6 hgr6 hnil6 hat6; obtain ⟨av6, vc6, hv6, _⟩ := own_open hown6; subst hv6)
      have hlo : ∀ k, (Value.slice a j c).ownBlock = some k → w.heap.size + 1 ≤ k := fun k hk => (HOW4.out.lt k hk).1
      refine ⟨⟨j + 1, av6, vc6, by omega, by go_num, rfl, ?_, ?_, ?_⟩, by simp [intOf]; omega⟩
      · rw [HSN.out, stCells_snoc]; exact hown6
      · rw [HSU.out]
        exact (HBX4.out.grown (r := none) (grown_below (below_alloc _ _) _) (by simp)).grown hgr6 (fun e => by have := hlo _ e; omega)
      · have h1 : w.grownBy w6 none := gr_own (grown_below (bl_alloc hB4 _) none) hgr6 (fun k hk => by have := hlo k hk; omega)
        exact ⟨h1.os, h1.tape, h1.output, h1.size, fun k hk => h1.block k hk (by simp)⟩
    · obtain rfl : j = l.length := by omega
      have HE : Hid ((Stil.traceFrom (0, 0) l).take l.length = Stil.traceFrom (0, 0) l) := List.take_of_length_le (by rw [HLEN.out]; exact Nat.le_refl _)
      rw [HE.out] at hown
      have HOW : Hid (wr.ownsRow (w.heap.size + 1) 48 2 (.slice a l.length c) l.length (stCells (Stil.traceFrom (0, 0) l))) := hown
      clear hown hbox
      go_wp2
      go_ret
      exact ⟨a, c, rfl, Joins.ownsRow_le HOW.out (by omega), hB⟩
end Go.Proofs.YtbfkfdbkjbgneaaGreatDoor
/- The program's chapter 6: SurePeak. -/
namespace Go.Proofs.YtbfkfdbkjbgneaaGreatDoor
open Go.RowKit Go.Sort Go.BigFrame
/-- Heights in a row, in a block from lo on. -/
def StsAt (lo : Nat) (W : World) (v : Value) (t : List (Int × Int)) : Prop := ∃ a c, v = .slice a t.length c ∧ ∀ i (h : i < t.length), ∃ b, a = some ⟨b, 0, none⟩ ∧ lo ≤ b ∧ b < W.heap.size ∧ W.cell? ⟨b, i * 2, none⟩ = some (.int .i64 t[i].1) ∧ W.cell? ⟨b, i * 2 + 1, none⟩ = some (.int .i64 t[i].2)
theorem StsAt.grown {lo : Nat} {W W' : World} {v : Value} {t : List (Int × Int)} {r : Option Nat} (h : StsAt lo W v t) (hg : W.grownBy W' r) (hr : ∀ k, r = some k → k < lo) : StsAt lo W' v t := by
  obtain ⟨a, c, hv, hc⟩ := h
  refine ⟨a, c, hv, fun i hi => ?_⟩
  obtain ⟨b, h1, h2, h3, h4, h5⟩ := hc i hi
  have e : W'.heap[b]? = W.heap[b]? := hg.block b h3 (fun e => by have := hr b e.symm; omega)
  have hcl : ∀ o, W'.cell? ⟨b, o, none⟩ = W.cell? ⟨b, o, none⟩ := fun o => by unfold World.cell?; rw [e]
  exact ⟨b, h1, h2, Nat.lt_of_lt_of_le h3 hg.size, (hcl _).trans h4, (hcl _).trans h5⟩
theorem StsAt.below {lo : Nat} {W W' : World} {v : Value} {t : List (Int × Int)} (h : StsAt lo W v t) (hb : Below W.heap.size W W') : StsAt lo W' v t := h.grown (grown_below hb none) (fun _ h => by cases h)
theorem stCells_at (t : List (Int × Int)) : ∀ i (h : i < t.length), (stCells t)[i * 2]? = some (.int .i64 t[i].1) ∧ (stCells t)[i * 2 + 1]? = some (.int .i64 t[i].2) := by
  induction t with
  | nil => intro i h; simp at h
  | cons s r ih =>
    intro i h
    have e : stCells (s :: r) = [.int .i64 s.1, .int .i64 s.2] ++ stCells r := rfl
    cases i with
    | zero => rw [e]; exact ⟨rfl, rfl⟩
    | succ i =>
      have := ih i (by simpa using h)
      rw [e, List.getElem?_append_right (by simp; omega), List.getElem?_append_right (by simp; omega)]
      have e1 : (i + 1) * 2 - 2 = i * 2 := by omega
      have e2 : (i + 1) * 2 + 1 - 2 = i * 2 + 1 := by omega
      simp only [List.length_cons, List.length_nil, Nat.zero_add, Nat.reduceAdd, List.getElem_cons_succ]
      rw [e1, e2]
      exact this
theorem stCells_len (t : List (Int × Int)) : (stCells t).length = t.length * 2 := by
  induction t with
  | nil => rfl
  | cons s r ih =>
    have e : stCells (s :: r) = [.int .i64 s.1, .int .i64 s.2] ++ stCells r := rfl
    rw [e, List.length_append, ih]
    simp only [List.length_cons, List.length_nil]
    omega
theorem sts_of_own {W : World} {base : Nat} {a : Option Addr} {c : Nat} {t : List (Int × Int)} (h : W.ownsRow base 48 2 (.slice a t.length c) t.length (stCells t)) : StsAt base W (.slice a t.length c) t := by
  refine ⟨a, c, rfl, fun i hi => ?_⟩
  obtain ⟨b, c', hv, hb1, hb2, _, _⟩ := ownsRow_cells h (by omega)
  injection hv with e1 e2 e3
  subst e1 e3
  have hl := stCells_len t
  exact ⟨b, rfl, hb1, hb2, (h.cellAt (i * 2) (by rw [← h.1]; omega)).trans (stCells_at t i hi).1, (h.cellAt (i * 2 + 1) (by rw [← h.1]; omega)).trans (stCells_at t i hi).2⟩
theorem max_eq (a b : Int) : (if a < b then b else a) = max a b := by
  rw [Int.max_def]
  split <;> split <;> omega
end Go.Proofs.YtbfkfdbkjbgneaaGreatDoor
