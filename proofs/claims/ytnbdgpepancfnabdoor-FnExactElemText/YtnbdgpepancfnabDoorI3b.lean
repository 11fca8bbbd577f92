/- Contracts of the program's chapter 2, third part: a row of the table. -/
import Derived.Test.YtnbdgpepancfnabDoorI3
namespace Go.Proofs.YtnbdgpepancfnabDoor
open Go.RowKit Go.Sort Go.BigFrame
theorem rows_len : rowsList.length = 304 := by kernel_rfl
theorem flat8 : ∀ (l : List (List UInt8 × Nat × List Nat × List Nat)) (m j : Nat), j < 8 → (l.flatMap rowCells)[m * 8 + j]? = (l[m]?).bind (fun r => (rowCells r)[j]?)
  | [], m, j, _ => by simp
  | r :: l, m, j, hj => by
    rw [List.flatMap_cons]
    cases m with
    | zero => rw [List.getElem?_append_left (by simp [rowCells]; omega)]; simp
    | succ k =>
      rw [List.getElem?_append_right (by simp [rowCells]; omega)]
      have := flat8 l k j hj
      rw [show (k + 1) * 8 + j - (rowCells r).length = k * 8 + j from by simp [rowCells]; omega]
      simpa using this
def rowOf (op : Int) : List UInt8 × Nat × List Nat × List Nat := if 0 ≤ op ∧ op < 38 then elemTab.getD op.toNat ([], 0, [], []) else ([], 0, [], [])
theorem rows_cell (W : World) (t : TypeId) (m j : Nat) (hm : m < 38) (hj : j < 8) : (W.alloc (.cells rowsList.toArray t)).cell? ⟨W.heap.size, m * 8 + j, none⟩ = (rowCells (rowOf m))[j]? := by
  have h1 : (W.alloc (.cells rowsList.toArray t)).cell? ⟨W.heap.size, m * 8 + j, none⟩ = rowsList[m * 8 + j]? := by
    rw [cell_of_row _ _ _ _ _ _ (heap_alloc_last W _)]; simp
  have hl : elemTab.length = 38 := by kernel_rfl
  rw [h1, rowsList, flat8 _ _ _ hj, rowOf, if_pos (by omega)]
  simp [List.getElem?_eq_getElem (show m < elemTab.length by omega)]
theorem run_store_fnv (n : Nat) (P : Program) (w : World) (a : Addr) (m : Mode) : (store a (fnv n) m).run P w = stored P w a (fnv n) m := run_store P w a _ m (by unfold fnv; split <;> rfl)
def rowVal (r : List UInt8 × Nat × List Nat × List Nat) : Value := .agg #[.string ⟨r.1.toArray⟩, fnv r.2.1, fnv (r.2.2.1.getD 0 0), fnv (r.2.2.1.getD 1 0), fnv (r.2.2.1.getD 2 0), fnv (r.2.2.2.getD 0 0), fnv (r.2.2.2.getD 1 0), fnv (r.2.2.2.getD 2 0)]
set_option maxHeartbeats 1000000 in
set_option maxRecDepth 100000 in
theorem i_rowOf (op : Int) (w : World) :
    Calls Tryd.prog 28 #[.int .i64 op] w fun e w' => e = .returned (rowVal (rowOf op)) ∧ Below w.heap.size w w' := by
  have hlen := rows_len
  by_cases h : 0 ≤ op ∧ op < 38
  · obtain ⟨m, rfl⟩ := Int.eq_ofNat_of_zero_le h.1
    have hm : m < 38 := by omega
    have hst := run_store_fnv
    obtain ⟨r, hr⟩ : ∃ r, r = rowOf (m : Int) := ⟨_, rfl⟩
    obtain ⟨s, hs⟩ : ∃ s, s = r.1 := ⟨_, rfl⟩
    obtain ⟨n0, h0⟩ : ∃ n, n = r.2.1 := ⟨_, rfl⟩
    obtain ⟨n1, h1⟩ : ∃ n, n = r.2.2.1.getD 0 0 := ⟨_, rfl⟩
    obtain ⟨n2, h2⟩ : ∃ n, n = r.2.2.1.getD 1 0 := ⟨_, rfl⟩
    obtain ⟨n3, h3⟩ : ∃ n, n = r.2.2.1.getD 2 0 := ⟨_, rfl⟩
    obtain ⟨n4, h4⟩ : ∃ n, n = r.2.2.2.getD 0 0 := ⟨_, rfl⟩
    obtain ⟨n5, h5⟩ : ∃ n, n = r.2.2.2.getD 1 0 := ⟨_, rfl⟩
    obtain ⟨n6, h6⟩ : ∃ n, n = r.2.2.2.getD 2 0 := ⟨_, rfl⟩
    have hv : rowVal r = .agg #[.string ⟨s.toArray⟩, fnv n0, fnv n1, fnv n2, fnv n3, fnv n4, fnv n5, fnv n6] := by rw [rowVal, hs, h0, h1, h2, h3, h4, h5, h6]
    have hcells : rowCells r = [.string ⟨s.toArray⟩, fnv n0, fnv n1, fnv n2, fnv n3, fnv n4, fnv n5, fnv n6] := by rw [rowCells, hs, h0, h1, h2, h3, h4, h5, h6]
    have hc := fun W t j (hj : j < 8) => rows_cell W t m j hm hj
    rw [← hr] at hc ⊢
    rw [hcells] at hc
    rw [hv]
    have c0 := fun W t => hc W t 0 (by omega)
    have c1 := fun W t => hc W t 1 (by omega)
    have c2 := fun W t => hc W t 2 (by omega)
    have c3 := fun W t => hc W t 3 (by omega)
    have c4 := fun W t => hc W t 4 (by omega)
    have c5 := fun W t => hc W t 5 (by omega)
    have c6 := fun W t => hc W t 6 (by omega)
    have c7 := fun W t => hc W t 7 (by omega)
    simp only [List.getElem?_cons_zero, List.getElem?_cons_succ, Nat.add_zero] at c0 c1 c2 c3 c4 c5 c6 c7
    clear hc; clear hcells hv hs h0 h1 h2 h3 h4 h5 h6 hr h
    go_enter Tryd.func28, Tryd.ntmps28
    go_wp2_with (go_at_call 43; refine (i_rows _).mono ?_; rintro e w1 ⟨rfl, hb⟩; obtain ⟨hc, hf⟩ := bcell hb; have hz := below_lt hb)
    rw [store_step (tgt := rowsList) (cur := Tryd.zeroCells61) (t := 61)]
    case hvs => rfl
    case hl => kernel_rfl
    case h1 => kernel_rfl
    case hg => exact heap_alloc_last _ _
    rw [World.setRow_alloc_new, Oper.upon_skip]
    go_wp2
    have hbw : Below w.heap.size w w1 := by (repeat (first | exact Below.refl _ _ | assumption | refine bl_alloc ?_ _ | refine bl_drewN ?_ _ | refine bl_drew ?_ | refine bl_grow ?_ _ _ | refine bl_set (Nat.le_refl _) ?_ _ | refine bl_call ?_ (by assumption)))
    refine bodyPost_ret (v := .agg #[.string ⟨s.toArray⟩, fnv n0, fnv n1, fnv n2, fnv n3, fnv n4, fnv n5, fnv n6]) (by simp [results, Tryd.results28, go_sem, hc, hz]) rfl ⟨rfl, ?_⟩
    refine bl_alloc ?_ _
    iterate 8 refine bl_set (Nat.le_refl _) ?_ _
    exact hbw
  · have hzz : rowOf op = ([], 0, [], []) := by unfold rowOf; rw [if_neg h]
    rw [hzz]
    go_enter Tryd.func28, Tryd.ntmps28
    go_wp2_with (go_at_call 43; refine (i_rows _).mono ?_; rintro e w1 ⟨rfl, hb⟩; obtain ⟨hc, hf⟩ := bcell hb; have hz := below_lt hb)
    rw [store_step (tgt := rowsList) (cur := Tryd.zeroCells61) (t := 61)]
    case hvs => rfl
    case hl => kernel_rfl
    case h1 => kernel_rfl
    case hg => exact heap_alloc_last _ _
    rw [World.setRow_alloc_new, Oper.upon_skip]
    have hbw : Below w.heap.size w w1 := by (repeat (first | exact Below.refl _ _ | assumption | refine bl_alloc ?_ _ | refine bl_drewN ?_ _ | refine bl_drew ?_ | refine bl_grow ?_ _ _ | refine bl_set (Nat.le_refl _) ?_ _ | refine bl_call ?_ (by assumption)))
    go_wp2
    all_goals refine bodyPost_ret (v := .agg #[.string ⟨#[]⟩, .nilFunc, .nilFunc, .nilFunc, .nilFunc, .nilFunc, .nilFunc, .nilFunc]) (by simp [results, Tryd.results28, go_sem, hc, hz]) rfl ⟨rfl, ?_⟩
    all_goals
      refine bl_alloc ?_ _
      iterate 8 refine bl_set (Nat.le_refl _) ?_ _
      exact hbw
end Go.Proofs.YtnbdgpepancfnabDoor
