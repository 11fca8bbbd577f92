/- I3b, I3c, I3d, I3e, I3f, I3g: texts put together. -/
import Derived.Test.YthhfnncehfkbfaaDoorI3
import Derived.LoopN
import Derived.Test.YthhfnncehfkbfaaDoorGB
import Derived.Shelf.Abstract
import Derived.Test.YthhfnncehfkbfaaDoorGI
import Derived.Test.YthhfnncehfkbfaaDoorGM
/- Contracts of the program's chapter 2, third part: a row of the table. -/
namespace Go.Proofs.YthhfnncehfkbfaaDoor
open Go.RowKit Go.Sort Go.BigFrame
theorem rows_len : rowsList.length = 304 := by kernel_rfl
theorem flat8 : ∀ (l : List (List UInt8 × Nat × List Nat × List Nat)) (m j : Nat), j < 8 → (l.flatMap rowCells)[m * 8 + j]? = (l[m]?).bind (fun r => (rowCells r)[j]?)
  | [], m, j, _ => by simp
  | r :: l, m, j, hj => by
    rw [List.flatMap_cons]
    cases m with
    | zero => rw [List.getElem?_append_left (by simp [rowCells]; omega)]; simp
    | succ k =>
      rw [List.getElem?_append_right (by simp [rowCells]; omega)]
      have := flat8 l k j hj
      rw [show (k + 1) * 8 + j - (rowCells r).length = k * 8 + j from by simp [rowCells]; omega]
      simpa using this
def rowOf (op : Int) : List UInt8 × Nat × List Nat × List Nat := if 0 ≤ op ∧ op < 38 then elemTab.getD op.toNat ([], 0, [], []) else ([], 0, [], [])
theorem rows_cell (W : World) (t : TypeId) (m j : Nat) (hm : m < 38) (hj : j < 8) : (W.alloc (.cells rowsList.toArray t)).cell? ⟨W.heap.size, m * 8 + j, none⟩ = (rowCells (rowOf m))[j]? := by
  have h1 : (W.alloc (.cells rowsList.toArray t)).cell? ⟨W.heap.size, m * 8 + j, none⟩ = rowsList[m * 8 + j]? := by
    rw [cell_of_row _ _ _ _ _ _ (heap_alloc_last W _)]; simp
  have hl : elemTab.length = 38 := by kernel_rfl
  rw [h1, rowsList, flat8 _ _ _ hj, rowOf, if_pos (by omega)]
  simp [List.getElem?_eq_getElem (show m < elemTab.length by omega)]
theorem run_store_fnv (n : Nat) (P : Program) (w : World) (a : Addr) (m : Mode) : (store a (fnv n) m).run P w = stored P w a (fnv n) m := run_store P w a _ m (by unfold fnv; split <;> rfl)
def rowVal (r : List UInt8 × Nat × List Nat × List Nat) : Value := .agg #[.string ⟨r.1.toArray⟩, fnv r.2.1, fnv (r.2.2.1.getD 0 0), fnv (r.2.2.1.getD 1 0), fnv (r.2.2.1.getD 2 0), fnv (r.2.2.2.getD 0 0), fnv (r.2.2.2.getD 1 0), fnv (r.2.2.2.getD 2 0)]
set_option maxHeartbeats 1000000 in
set_option maxRecDepth 100000 in
theorem i_rowOf (op : Int) (w : World) :
    Calls Tryd.prog 58 #[.int .i64 op] w fun e w' => e = .returned (rowVal (rowOf op)) ∧ Below w.heap.size w w' := by
  have hlen := rows_len
  by_cases h : 0 ≤ op ∧ op < 38
  · obtain ⟨m, rfl⟩ := Int.eq_ofNat_of_zero_le h.1
    have hm : m < 38 := by omega
    have hst := run_store_fnv
    obtain ⟨r, hr⟩ : ∃ r, r = rowOf (m : Int) := ⟨_, rfl⟩
    obtain ⟨s, hs⟩ : ∃ s, s = r.1 := ⟨_, rfl⟩
    obtain ⟨n0, h0⟩ : ∃ n, n = r.2.1 := ⟨_, rfl⟩
    obtain ⟨n1, h1⟩ : ∃ n, n = r.2.2.1.getD 0 0 := ⟨_, rfl⟩
    obtain ⟨n2, h2⟩ : ∃ n, n = r.2.2.1.getD 1 0 := ⟨_, rfl⟩
    obtain ⟨n3, h3⟩ : ∃ n, n = r.2.2.1.getD 2 0 := ⟨_, rfl⟩
    obtain ⟨n4, h4⟩ : ∃ n, n = r.2.2.2.getD 0 0 := ⟨_, rfl⟩
    obtain ⟨n5, h5⟩ : ∃ n, n = r.2.2.2.getD 1 0 := ⟨_, rfl⟩
    obtain ⟨n6, h6⟩ : ∃ n, n = r.2.2.2.getD 2 0 := ⟨_, rfl⟩
    have hv : rowVal r = .agg #[.string ⟨s.toArray⟩, fnv n0, fnv n1, fnv n2, fnv n3, fnv n4, fnv n5, fnv n6] := by rw [rowVal, hs, h0, h1, h2, h3, h4, h5, h6]
    have hcells : rowCells r = [.string ⟨s.toArray⟩, fnv n0, fnv n1, fnv n2, fnv n3, fnv n4, fnv n5, fnv n6] := by rw [rowCells, hs, h0, h1, h2, h3, h4, h5, h6]
    have hc := fun W t j (hj : j < 8) => rows_cell W t m j hm hj
    rw [← hr] at hc ⊢
    rw [hcells] at hc
    rw [hv]
    have c0 := fun W t => hc W t 0 (by omega)
    have c1 := fun W t => hc W t 1 (by omega)
    have c2 := fun W t => hc W t 2 (by omega)
    have c3 := fun W t => hc W t 3 (by omega)
    have c4 := fun W t => hc W t 4 (by omega)
    have c5 := fun W t => hc W t 5 (by omega)
    have c6 := fun W t => hc W t 6 (by omega)
    have c7 := fun W t => hc W t 7 (by omega)
    simp only [List.getElem?_cons_zero, List.getElem?_cons_succ, Nat.add_zero] at c0 c1 c2 c3 c4 c5 c6 c7
    clear hc; clear hcells hv hs h0 h1 h2 h3 h4 h5 h6 hr h
    go_enter Tryd.func58, Tryd.ntmps58
    go_wp2_with (go_at_call 60; refine (i_rows _).mono ?_; rintro e w1 ⟨rfl, hb⟩; obtain ⟨hc, hf⟩ := bcell hb; have hz := below_lt hb)
    rw [store_step (tgt := rowsList) (cur := Tryd.zeroCells88) (t := 88)]
    case hvs => rfl
    case hl => kernel_rfl
    case h1 => kernel_rfl
    case hg => exact heap_alloc_last _ _
    rw [World.setRow_alloc_new, Oper.upon_skip]
    go_wp2
    have hbw : Below w.heap.size w w1 := by (repeat (first | exact Below.refl _ _ | assumption | refine bl_alloc ?_ _ | refine bl_drewN ?_ _ | refine bl_drew ?_ | refine bl_grow ?_ _ _ | refine bl_set (Nat.le_refl _) ?_ _ | refine bl_call ?_ (by assumption)))
    refine bodyPost_ret (v := .agg #[.string ⟨s.toArray⟩, fnv n0, fnv n1, fnv n2, fnv n3, fnv n4, fnv n5, fnv n6]) (by simp [results, Tryd.results58, go_sem, hc, hz]) rfl ⟨rfl, ?_⟩
    refine bl_alloc ?_ _
    iterate 8 refine bl_set (Nat.le_refl _) ?_ _
    exact hbw
  · have hzz : rowOf op = ([], 0, [], []) := by unfold rowOf; rw [if_neg h]
    rw [hzz]
    go_enter Tryd.func58, Tryd.ntmps58
    go_wp2_with (go_at_call 60; refine (i_rows _).mono ?_; rintro e w1 ⟨rfl, hb⟩; obtain ⟨hc, hf⟩ := bcell hb; have hz := below_lt hb)
    rw [store_step (tgt := rowsList) (cur := Tryd.zeroCells88) (t := 88)]
    case hvs => rfl
    case hl => kernel_rfl
    case h1 => kernel_rfl
    case hg => exact heap_alloc_last _ _
    rw [World.setRow_alloc_new, Oper.upon_skip]
    have hbw : Below w.heap.size w w1 := by (repeat (first | exact Below.refl _ _ | assumption | refine bl_alloc ?_ _ | refine bl_drewN ?_ _ | refine bl_drew ?_ | refine bl_grow ?_ _ _ | refine bl_set (Nat.le_refl _) ?_ _ | refine bl_call ?_ (by assumption)))
    go_wp2
    all_goals refine bodyPost_ret (v := .agg #[.string ⟨#[]⟩, .nilFunc, .nilFunc, .nilFunc, .nilFunc, .nilFunc, .nilFunc, .nilFunc]) (by simp [results, Tryd.results58, go_sem, hc, hz]) rfl ⟨rfl, ?_⟩
    all_goals
      refine bl_alloc ?_ _
      iterate 8 refine bl_set (Nat.le_refl _) ?_ _
      exact hbw
end Go.Proofs.YthhfnncehfkbfaaDoor
/- Contracts of the program's chapter 2, fourth part: how many operands a way takes. -/
namespace Go.Proofs.YthhfnncehfkbfaaDoor
open Go.RowKit Go.Sort Go.BigFrame
def wayVal (l : List Nat) : Value := .agg #[fnv (l.getD 0 0), fnv (l.getD 1 0), fnv (l.getD 2 0)]
theorem ne_nil (w : World) : Sem.run Tryd.prog (binOp BinOp.neq 80 .nilFunc .nilFunc) w = .ok (.bool false) w := by kernel_rfl
theorem ne_fn (a : Nat) (w : World) : Sem.run Tryd.prog (binOp BinOp.neq 80 (.func (.func a) #[] #[]) .nilFunc) w = .ok (.bool true) w := by kernel_rfl
theorem fnv_pos {n : Nat} (h : n ≠ 0) : fnv n = .func (.func n) #[] #[] := by unfold fnv; rw [if_neg h]
theorem fnv_zero : fnv 0 = .nilFunc := rfl
set_option maxHeartbeats 1000000 in
set_option maxRecDepth 100000 in
theorem i_places0 (w : World) :
    Calls Tryd.prog 61 #[.agg #[.nilFunc, .nilFunc, .nilFunc]] w fun e w' => e = .returned (.int .i64 0) ∧ Below w.heap.size w w' := by
  have h1 := ne_nil
  have h2 := ne_fn
  go_enter Tryd.func61, Tryd.ntmps61
  go_wp2
  refine wp_loop_rounds 1 ?_
  rw [rounds_succ]
  go_wp2
  go_ret
  exact ⟨rfl, by (repeat (first | exact Below.refl _ _ | assumption | refine bl_alloc ?_ _ | refine bl_drewN ?_ _ | refine bl_drew ?_ | refine bl_grow ?_ _ _ | refine bl_set (Nat.le_refl _) ?_ _ | refine bl_call ?_ (by assumption)))⟩
set_option maxHeartbeats 1000000 in
set_option maxRecDepth 100000 in
theorem i_places1 (a : Nat) (w : World) :
    Calls Tryd.prog 61 #[.agg #[.func (.func a) #[] #[], .nilFunc, .nilFunc]] w fun e w' => e = .returned (.int .i64 1) ∧ Below w.heap.size w w' := by
  have h1 := ne_nil
  have h2 := ne_fn
  go_enter Tryd.func61, Tryd.ntmps61
  go_wp2
  refine wp_loop_rounds 2 ?_
  rw [rounds_succ]
  go_wp2
  rw [rounds_succ]
  go_wp2
  go_ret
  exact ⟨rfl, by (repeat (first | exact Below.refl _ _ | assumption | refine bl_alloc ?_ _ | refine bl_drewN ?_ _ | refine bl_drew ?_ | refine bl_grow ?_ _ _ | refine bl_set (Nat.le_refl _) ?_ _ | refine bl_call ?_ (by assumption)))⟩
set_option maxHeartbeats 1000000 in
set_option maxRecDepth 100000 in
theorem i_places2 (a b : Nat) (w : World) :
    Calls Tryd.prog 61 #[.agg #[.func (.func a) #[] #[], .func (.func b) #[] #[], .nilFunc]] w fun e w' => e = .returned (.int .i64 2) ∧ Below w.heap.size w w' := by
  have h1 := ne_nil
  have h2 := ne_fn
  go_enter Tryd.func61, Tryd.ntmps61
  go_wp2
  refine wp_loop_rounds 3 ?_
  rw [rounds_succ]
  go_wp2
  rw [rounds_succ]
  go_wp2
  rw [rounds_succ]
  go_wp2
  go_ret
  exact ⟨rfl, by (repeat (first | exact Below.refl _ _ | assumption | refine bl_alloc ?_ _ | refine bl_drewN ?_ _ | refine bl_drew ?_ | refine bl_grow ?_ _ _ | refine bl_set (Nat.le_refl _) ?_ _ | refine bl_call ?_ (by assumption)))⟩
set_option maxHeartbeats 1000000 in
set_option maxRecDepth 100000 in
theorem i_places3 (a b c : Nat) (w : World) :
    Calls Tryd.prog 61 #[.agg #[.func (.func a) #[] #[], .func (.func b) #[] #[], .func (.func c) #[] #[]]] w fun e w' => e = .returned (.int .i64 3) ∧ Below w.heap.size w w' := by
  have h1 := ne_nil
  have h2 := ne_fn
  go_enter Tryd.func61, Tryd.ntmps61
  go_wp2
  refine wp_loop_rounds 4 ?_
  rw [rounds_succ]
  go_wp2
  rw [rounds_succ]
  go_wp2
  rw [rounds_succ]
  go_wp2
  rw [rounds_succ]
  go_wp2
  go_ret
  exact ⟨rfl, by (repeat (first | exact Below.refl _ _ | assumption | refine bl_alloc ?_ _ | refine bl_drewN ?_ _ | refine bl_drew ?_ | refine bl_grow ?_ _ _ | refine bl_set (Nat.le_refl _) ?_ _ | refine bl_call ?_ (by assumption)))⟩
theorem i_places (l : List Nat) (w : World) (hl : l.length ≤ 3) (hn : ∀ x ∈ l, x ≠ 0) :
    Calls Tryd.prog 61 #[wayVal l] w fun e w' => e = .returned (.int .i64 l.length) ∧ Below w.heap.size w w' := by
  match l, hl, hn with
  | [], _, _ => exact i_places0 w
  | [a], _, hn => simp only [wayVal, List.getD, List.getElem?_cons_zero, List.getElem?_cons_succ, List.getElem?_nil, Option.getD, fnv_pos (hn a (by simp)), fnv_zero]; exact i_places1 a w
  | [a, b], _, hn => simp only [wayVal, List.getD, List.getElem?_cons_zero, List.getElem?_cons_succ, List.getElem?_nil, Option.getD, fnv_pos (hn a (by simp)), fnv_pos (hn b (by simp)), fnv_zero]; exact i_places2 a b w
  | [a, b, c], _, hn => simp only [wayVal, List.getD, List.getElem?_cons_zero, List.getElem?_cons_succ, Option.getD, fnv_pos (hn a (by simp)), fnv_pos (hn b (by simp)), fnv_pos (hn c (by simp))]; exact i_places3 a b c w
  | _ :: _ :: _ :: _ :: _, hl, _ => simp at hl
end Go.Proofs.YthhfnncehfkbfaaDoor
/- Contracts of the program's chapter 2, fifth part: whether a way takes operands. -/
namespace Go.Proofs.YthhfnncehfkbfaaDoor
open Go.RowKit Go.Sort Go.BigFrame
def PlaceFn (n : Nat) (p : Stil.Dev → Bool) : Prop := (∀ args w, (callFunc n args).run Tryd.prog w = .ok (.enter n args) w) ∧ ∀ (d : Stil.Dev) (w : World), RowsAt w → d.fits → Calls Tryd.prog n #[.agg #[.int .i64 d.kind, .int .i64 d.n, .int .i64 d.p]] w fun e w' => e = .returned (.bool (p d)) ∧ Below w.heap.size w w'
def placesB : List (Stil.Dev → Bool) → List Stil.Dev → Bool
  | [], [] => true
  | p :: ps, d :: ds => p d && placesB ps ds
  | _, _ => false
def takesB (ps : List (Stil.Dev → Bool)) (ds : List Stil.Dev) : Bool := !ds.isEmpty && placesB ps ds
theorem places_len : ∀ (ps : List (Stil.Dev → Bool)) (ds : List Stil.Dev), ds.length ≠ ps.length → placesB ps ds = false
  | [], [], h => absurd rfl h
  | [], _ :: _, _ => rfl
  | _ :: _, [], _ => rfl
  | p :: ps, d :: ds, h => by
    have := places_len ps ds (by simpa using h)
    simp [placesB, this]
theorem places_drop : ∀ (ps : List (Stil.Dev → Bool)) (ds : List Stil.Dev) (k : Nat) (h1 : k < ps.length) (h2 : k < ds.length), placesB (ps.drop k) (ds.drop k) = (ps[k] ds[k] && placesB (ps.drop (k + 1)) (ds.drop (k + 1)))
  | p :: ps, d :: ds, 0, _, _ => rfl
  | p :: ps, d :: ds, k + 1, h1, h2 => by
    have := places_drop ps ds k (by simpa using h1) (by simpa using h2)
    simpa using this
set_option maxHeartbeats 1000000 in
set_option maxRecDepth 100000 in
theorem i_takes_go (l : List Nat) (ps : List (Stil.Dev → Bool)) (a : Option Addr) (cap : Nat) (ds : List Stil.Dev) (w : World) (hr : RowsAt w) (hl : l.length = ps.length) (hd : ds.length = ps.length) (h3 : l.length ≤ 3) (hp : ∀ i (h1 : i < l.length) (h2 : i < ps.length), l[i] ≠ 0 ∧ PlaceFn l[i] ps[i]) (h0 : 0 < ds.length)
    (hat : ∀ i (h : i < ds.length), ∃ b o, a = some ⟨b, o, none⟩ ∧ b < w.heap.size ∧ DevAt w b (o + i * 3) ds[i]) (hf : ∀ x ∈ ds, x.fits) :
    Calls Tryd.prog 59 #[wayVal l, .slice a ds.length cap] w fun e w' => e = .returned (.bool (placesB ps ds)) ∧ Below w.heap.size w w' := by
  have hst := run_store_fnv
  obtain ⟨f0, hf0⟩ : ∃ f, f = l.getD 0 0 := ⟨_, rfl⟩
  obtain ⟨f1, hf1⟩ : ∃ f, f = l.getD 1 0 := ⟨_, rfl⟩
  obtain ⟨f2, hf2⟩ : ∃ f, f = l.getD 2 0 := ⟨_, rfl⟩
  have HW : Hid (wayVal l = .agg #[fnv f0, fnv f1, fnv f2]) := by show _ = _; rw [wayVal, hf0, hf1, hf2]
  have HP : Hid (∀ W, Calls Tryd.prog 61 #[.agg #[fnv f0, fnv f1, fnv f2]] W fun e w' => e = .returned (.int .i64 ds.length) ∧ Below W.heap.size W w') := by
    intro W
    have := i_places l W h3 (fun x hx => by
      obtain ⟨i, hi, rfl⟩ := List.getElem_of_mem hx
      exact (hp i hi (by omega)).1)
    rw [HW.out] at this
    rw [hd, ← hl]; exact this
  have HC : Hid (∀ k (h : k < ds.length), (w.alloc (.cells #[fnv f0, fnv f1, fnv f2] 82)).cell? ⟨w.heap.size, k, none⟩ = some (.func (.func (l.getD k 0)) #[] #[])) := by
    intro k hk
    have hnz : l.getD k 0 ≠ 0 := by
      have hk' : k < l.length := by omega
      have := (hp k hk' (by omega)).1
      simpa [List.getD, List.getElem?_eq_getElem hk'] using this
    rw [← fnv_pos hnz]
    have hkk : k = 0 ∨ k = 1 ∨ k = 2 := by omega
    rcases hkk with rfl | rfl | rfl <;> simp [go_sem, hf0, hf1, hf2]
  have HF : Hid (∀ k (h : k < ds.length) (h2 : k < ps.length), PlaceFn (l.getD k 0) ps[k]) := by
    intro k hk hk2
    have hk' : k < l.length := by omega
    have := (hp k hk' (by omega)).2
    simpa [List.getD, List.getElem?_eq_getElem hk'] using this
  have HA : Hid (∀ i (h : i < ds.length), ∃ b o, a = some ⟨b, o, none⟩ ∧ b < w.heap.size ∧ DevAt w b (o + i * 3) ds[i]) := hat
  have HR : Hid (∀ W, Below w.heap.size w W → RowsAt W) := fun W h => hr.below h
  have HFit : Hid (∀ x ∈ ds, x.fits) := hf
  have hn3 : ds.length ≤ 3 := by omega
  have HL : Hid (ds.length = ps.length) := hd
  have hnil : ¬ ds = [] := by intro h; rw [h] at h0; simp at h0
  rw [HW.out]
  clear hf0 hf1 hf2 hl hd h3 hp hat hr HW hf
  go_enter Tryd.func59, Tryd.ntmps59
  go_wp2_with (go_at_call 61; refine (HP.out _).mono ?_; rintro e w1 ⟨rfl, hb⟩; obtain ⟨hc, hfz⟩ := bcell hb; have hz := below_lt hb)
  go_loopw [19] (fun i wr => ∃ k : Nat, k ≤ ds.length ∧ i = .int .i64 k ∧ placesB ps ds = placesB (ps.drop k) (ds.drop k) ∧ Below (w.heap.size + 1) (w.alloc (.cells #[fnv f0, fnv f1, fnv f2] 82)) wr) (fun i _ => ds.length - (intOf i).toNat)
  case atStart => exact ⟨0, by omega, rfl, rfl, by simpa using hb⟩
  case round =>
    clear hb hc hfz hz
    obtain ⟨k, hk, rfl, hg, hb⟩ := hrel
    have HG : Hid (placesB ps ds = placesB (ps.drop k) (ds.drop k)) := hg
    clear hg
    have hbw : Below w.heap.size w wr := (below_alloc _ _).trans (hb.mono (by omega))
    have hzr : w.heap.size < wr.heap.size := by have := hb.size; simp at this; omega
    by_cases hlt : k < ds.length
    · obtain ⟨b, o, rfl, hbl, hdv⟩ := HA.out k hlt
      have hkp : k < ps.length := by have := HL.out; omega
      have HF' := HF.out k hlt hkp
      have hfit := HFit.out ds[k] (List.getElem_mem hlt)
      have HS : Hid (placesB (ps.drop k) (ds.drop k) = (ps[k] ds[k] && placesB (ps.drop (k + 1)) (ds.drop (k + 1)))) := places_drop ps ds k hkp hlt
      obtain ⟨x0, x1, x2⟩ := hdv.below hbw hbl
      have hbl' : b < wr.heap.size := Nat.lt_of_lt_of_le hbl hbw.size
      have hwc : wr.cell? ⟨w.heap.size, k, none⟩ = some (.func (.func (l.getD k 0)) #[] #[]) := by
        rw [hb.cell (p := ⟨w.heap.size, k, none⟩) (by simp)]; exact HC.out k hlt
      obtain ⟨p, hpe⟩ : ∃ p, p = ps[k] := ⟨_, rfl⟩
      obtain ⟨x, hx⟩ : ∃ x, x = ds[k] := ⟨_, rfl⟩
      obtain ⟨n, hne⟩ : ∃ n, n = l.getD k 0 := ⟨_, rfl⟩
      rw [← hx] at x0 x1 x2 hfit
      rw [← hpe, ← hx] at HS
      rw [← hne] at hwc
      rw [← hne, ← hpe] at HF'
      obtain ⟨hent, HF'⟩ := HF'
      have HQ : Hid (∀ (d : Stil.Dev) (w : World), RowsAt w → d.fits → Calls Tryd.prog n #[.agg #[.int .i64 d.kind, .int .i64 d.n, .int .i64 d.p]] w fun e w' => e = .returned (.bool (p d)) ∧ Below w.heap.size w w') := HF'
      have HFX : Hid (x.fits) := hfit
      clear hne hx hpe hdv HF' hfit
      have q0 : (wr.alloc (.cells #[.int .i64 x.kind, .int .i64 x.n, .int .i64 x.p] 69)).cell? ⟨w.heap.size, k, none⟩ = some (.func (.func n) #[] #[]) := by rw [World.cell?_alloc_some _ _ _ (by rw [hwc]; rfl)]; exact hwc
      have q1 : (wr.alloc (.cells #[.int .i64 x.kind, .int .i64 x.n, .int .i64 x.p] 69)).cell? ⟨wr.heap.size, 0, none⟩ = some (.int .i64 x.kind) := by simp [go_sem]
      have q2 : (wr.alloc (.cells #[.int .i64 x.kind, .int .i64 x.n, .int .i64 x.p] 69)).cell? ⟨wr.heap.size, 1, none⟩ = some (.int .i64 x.n) := by simp [go_sem]
      have q3 : (wr.alloc (.cells #[.int .i64 x.kind, .int .i64 x.n, .int .i64 x.p] 69)).cell? ⟨wr.heap.size, 2, none⟩ = some (.int .i64 x.p) := by simp [go_sem]
      have r0 := cell_regrown q0
      have r1 := cell_regrown q1
      have r2 := cell_regrown q2
      have r3 := cell_regrown q3
      clear q0 q1 q2 q3
      cases hpx : p x
      · go_wp2
        refine wp_region_quiet_below (by kernel_rfl) (by kernel_rfl) ?_
        repeat (go_big_quiet_step ((exact Calls.regrown_of (HQ.out _ _ (HR.out _ (by (repeat (first | exact Below.refl _ _ | assumption | refine bl_alloc ?_ _ | refine bl_drewN ?_ _ | refine bl_drew ?_ | refine bl_grow ?_ _ _ | refine bl_set (Nat.le_refl _) ?_ _ | refine bl_call ?_ (by assumption))))) HFX.out))))
        refine wpQuiet_nil ?_
        intro _ hw'
        obtain ⟨⟨dq, osq⟩, hw''⟩ := hw'
        subst hw''
        go_wp2
        go_ret
        exact ⟨ret_bool (by rw [HG.out, HS.out, hpx]; rfl), by (repeat (first | exact Below.refl _ _ | assumption | refine bl_alloc ?_ _ | refine bl_drewN ?_ _ | refine bl_drew ?_ | refine bl_grow ?_ _ _ | refine bl_set (Nat.le_refl _) ?_ _ | refine bl_call ?_ (by assumption)))⟩
      · have HS' : Hid (placesB ps ds = placesB (ps.drop (k + 1)) (ds.drop (k + 1))) := by show _ = _; rw [HG.out, HS.out, hpx]; rfl
        clear HS HG
        go_wp2
        refine wp_region_quiet_below (by kernel_rfl) (by kernel_rfl) ?_
        repeat (go_big_quiet_step ((exact Calls.regrown_of (HQ.out _ _ (HR.out _ (by (repeat (first | exact Below.refl _ _ | assumption | refine bl_alloc ?_ _ | refine bl_drewN ?_ _ | refine bl_drew ?_ | refine bl_grow ?_ _ _ | refine bl_set (Nat.le_refl _) ?_ _ | refine bl_call ?_ (by assumption))))) HFX.out))))
        refine wpQuiet_nil ?_
        intro _ hw'
        obtain ⟨⟨dq, osq⟩, hw''⟩ := hw'
        subst hw''
        go_wp2
        refine ⟨⟨k + 1, by omega, by go_num, HS'.out, ?_⟩, by simp [intOf]; omega⟩
        exact (hb.alloc (by omega) _).trans ((below_regrown _ dq osq).mono (by simp; omega))
    · have HE : Hid (placesB ps ds = true) := by
        show _ = _
        have := HL.out
        rw [HG.out, List.drop_of_length_le (by omega), List.drop_of_length_le (by omega)]; rfl
      go_wp2
      go_ret
      exact ⟨ret_bool HE.out.symm, by (repeat (first | exact Below.refl _ _ | assumption | refine bl_alloc ?_ _ | refine bl_drewN ?_ _ | refine bl_drew ?_ | refine bl_grow ?_ _ _ | refine bl_set (Nat.le_refl _) ?_ _ | refine bl_call ?_ (by assumption)))⟩
set_option maxHeartbeats 1000000 in
set_option maxRecDepth 100000 in
theorem i_takes (l : List Nat) (ps : List (Stil.Dev → Bool)) (v : Value) (ds : List Stil.Dev) (w : World) (hr : RowsAt w) (hl : l.length = ps.length) (h3 : l.length ≤ 3) (hp : ∀ i (h1 : i < l.length) (h2 : i < ps.length), l[i] ≠ 0 ∧ PlaceFn l[i] ps[i])
    (hat : DevsAt w v ds) (hf : ∀ x ∈ ds, x.fits) (hlen : ds.length ≤ 9223372036854775807) :
    Calls Tryd.prog 59 #[wayVal l, v] w fun e w' => e = .returned (.bool (takesB ps ds)) ∧ Below w.heap.size w w' := by
  obtain ⟨a, cap, rfl, hat⟩ := hat
  by_cases hnil : ds = []
  · subst hnil
    have hst := run_store_fnv
    have HT : Hid (takesB ps [] = false) := rfl
    unfold wayVal
    clear hp hat hf hr
    go_enter Tryd.func59, Tryd.ntmps59
    go_wp2
    go_ret
    exact ⟨ret_bool HT.out.symm, by (repeat (first | exact Below.refl _ _ | assumption | refine bl_alloc ?_ _ | refine bl_drewN ?_ _ | refine bl_drew ?_ | refine bl_grow ?_ _ _ | refine bl_set (Nat.le_refl _) ?_ _ | refine bl_call ?_ (by assumption)))⟩
  · have h0 : 0 < ds.length := List.length_pos_iff.2 hnil
    by_cases hd : ds.length = ps.length
    · have HT : takesB ps ds = placesB ps ds := by
        have : ds.isEmpty = false := by simpa using hnil
        rw [takesB, this]; rfl
      rw [HT]
      exact i_takes_go l ps a cap ds w hr hl hd h3 hp h0 hat hf
    · have HT : Hid (takesB ps ds = false) := by show _ = _; rw [takesB, places_len ps ds hd, Bool.and_false]
      have hst := run_store_fnv
      have HP : Hid (∀ W, Calls Tryd.prog 61 #[wayVal l] W fun e w' => e = .returned (.int .i64 l.length) ∧ Below W.heap.size W w') := fun W => i_places l W h3 (fun x hx => by
        obtain ⟨i, hi, rfl⟩ := List.getElem_of_mem hx
        exact (hp i hi (by omega)).1)
      have hne : ((ds.length : Int) != (l.length : Int)) = true := by rw [bne_iff_ne]; omega
      clear hp hat hf hr hd hl
      unfold wayVal at HP ⊢
      go_enter Tryd.func59, Tryd.ntmps59
      go_wp2_with (go_at_call 61; refine (HP.out _).mono ?_; rintro e w1 ⟨rfl, hb⟩; obtain ⟨hc, hfz⟩ := bcell hb; have hz := below_lt hb)
      go_ret
      exact ⟨ret_bool HT.out.symm, by (repeat (first | exact Below.refl _ _ | assumption | refine bl_alloc ?_ _ | refine bl_drewN ?_ _ | refine bl_drew ?_ | refine bl_grow ?_ _ _ | refine bl_set (Nat.le_refl _) ?_ _ | refine bl_call ?_ (by assumption)))⟩
end Go.Proofs.YthhfnncehfkbfaaDoor
/- Contracts of the program's chapter 2, sixth part: whether the operands fit. -/
namespace Go.Proofs.YthhfnncehfkbfaaDoor
open Go.RowKit Go.Sort Go.BigFrame
theorem row_word (x0 x1 x2 x3 x4 x5 x6 x7 : Value) (w : World) : (Instr.field 85 (.agg #[x0, x1, x2, x3, x4, x5, x6, x7]) 0).run Tryd.prog w = .ok x0 w := by kernel_rfl
theorem row_write (x0 x1 x2 x3 x4 x5 x6 x7 : Value) (w : World) : (Instr.field 85 (.agg #[x0, x1, x2, x3, x4, x5, x6, x7]) 1).run Tryd.prog w = .ok x1 w := by kernel_rfl
theorem row_ways (x0 x1 x2 x3 x4 x5 x6 x7 : Value) (w : World) : (Instr.field 85 (.agg #[x0, x1, x2, x3, x4, x5, x6, x7]) 2).run Tryd.prog w = .ok (.agg #[x2, x3, x4, x5, x6, x7]) w := by kernel_rfl
theorem way_ix0 (x2 x3 x4 x5 x6 x7 : Value) (w : World) : (Instr.index 83 (.agg #[x2, x3, x4, x5, x6, x7]) (.int .i64 0)).run Tryd.prog w = .ok (.agg #[x2, x3, x4]) w := by kernel_rfl
theorem way_ix1 (x2 x3 x4 x5 x6 x7 : Value) (w : World) : (Instr.index 83 (.agg #[x2, x3, x4, x5, x6, x7]) (.int .i64 1)).run Tryd.prog w = .ok (.agg #[x5, x6, x7]) w := by kernel_rfl
def WayFn (l : List Nat) (ps : List (Stil.Dev → Bool)) : Prop := l.length = ps.length ∧ l.length ≤ 3 ∧ ∀ i (h1 : i < l.length) (h2 : i < ps.length), l[i] ≠ 0 ∧ PlaceFn l[i] ps[i]
set_option maxHeartbeats 1000000 in
set_option maxRecDepth 100000 in
theorem i_fits (op : Int) (p0 p1 : List (Stil.Dev → Bool)) (v : Value) (ds : List Stil.Dev) (w : World) (hr : RowsAt w) (h0 : WayFn (rowOf op).2.2.1 p0) (h1 : WayFn (rowOf op).2.2.2 p1)
    (hat : DevsAt w v ds) (hf : ∀ x ∈ ds, x.fits) (hlen : ds.length ≤ 9223372036854775807) :
    Calls Tryd.prog 50 #[.agg #[.int .i64 op, v]] w fun e w' => e = .returned (.bool (takesB p0 ds || takesB p1 ds)) ∧ Below w.heap.size w w' := by
  obtain ⟨r, hr'⟩ : ∃ r, r = rowOf op := ⟨_, rfl⟩
  rw [← hr'] at h0 h1
  have HRow : Hid (∀ W, Calls Tryd.prog 58 #[.int .i64 op] W fun e w' => e = .returned (rowVal r) ∧ Below W.heap.size W w') := by intro W; rw [hr']; exact i_rowOf op W
  have HA : Hid (∀ W, Below w.heap.size w W → DevsAt W v ds) := fun W h => hat.below h
  have HR : Hid (∀ W, Below w.heap.size w W → RowsAt W) := fun W h => hr.below h
  have H0 : Hid (∀ W, Below w.heap.size w W → Calls Tryd.prog 59 #[wayVal r.2.2.1, v] W fun e w' => e = .returned (.bool (takesB p0 ds)) ∧ Below W.heap.size W w') := fun W h => i_takes _ _ v ds W (HR.out W h) h0.1 h0.2.1 h0.2.2 (HA.out W h) hf hlen
  have H1 : Hid (∀ W, Below w.heap.size w W → Calls Tryd.prog 59 #[wayVal r.2.2.2, v] W fun e w' => e = .returned (.bool (takesB p1 ds)) ∧ Below W.heap.size W w') := fun W h => i_takes _ _ v ds W (HR.out W h) h1.1 h1.2.1 h1.2.2 (HA.out W h) hf hlen
  obtain ⟨a, cap, rfl, _⟩ := hat
  obtain ⟨s, hs⟩ : ∃ s, s = r.1 := ⟨_, rfl⟩
  obtain ⟨n0, e0⟩ : ∃ n, n = r.2.1 := ⟨_, rfl⟩
  obtain ⟨n1, e1⟩ : ∃ n, n = r.2.2.1.getD 0 0 := ⟨_, rfl⟩
  obtain ⟨n2, e2⟩ : ∃ n, n = r.2.2.1.getD 1 0 := ⟨_, rfl⟩
  obtain ⟨n3, e3⟩ : ∃ n, n = r.2.2.1.getD 2 0 := ⟨_, rfl⟩
  obtain ⟨n4, e4⟩ : ∃ n, n = r.2.2.2.getD 0 0 := ⟨_, rfl⟩
  obtain ⟨n5, e5⟩ : ∃ n, n = r.2.2.2.getD 1 0 := ⟨_, rfl⟩
  obtain ⟨n6, e6⟩ : ∃ n, n = r.2.2.2.getD 2 0 := ⟨_, rfl⟩
  have hw0 : wayVal r.2.2.1 = .agg #[fnv n1, fnv n2, fnv n3] := by rw [wayVal, e1, e2, e3]
  have hw1 : wayVal r.2.2.2 = .agg #[fnv n4, fnv n5, fnv n6] := by rw [wayVal, e4, e5, e6]
  have hrv : rowVal r = .agg #[.string ⟨s.toArray⟩, fnv n0, fnv n1, fnv n2, fnv n3, fnv n4, fnv n5, fnv n6] := by rw [rowVal, hs, e0, e1, e2, e3, e4, e5, e6]
  rw [hw0] at H0
  rw [hw1] at H1
  rw [hrv] at HRow
  clear h0 h1 hr hr' hs e0 e1 e2 e3 e4 e5 e6 hw0 hw1 hrv HA
  have hst := run_store_fnv
  have hfd := row_ways
  have hix0 := way_ix0
  have hix1 := way_ix1
  generalize takesB p0 ds = t0 at H0 ⊢
  generalize takesB p1 ds = t1 at H1 ⊢
  go_enter Tryd.func50, Tryd.ntmps50
  go_wp2_with (go_at_call 58; refine (HRow.out _).mono ?_; rintro e w1 ⟨rfl, hb⟩; obtain ⟨hc, hfz⟩ := bcell hb; have hz := below_lt hb; have hbw1 : Below w.heap.size w w1 := below_two hb)
  cases t0
  · cases t1
    · refine wp_loop_rounds 3 ?_
      rw [rounds_succ]
      go_wp2_with (go_at_call 59; refine (H0.out _ (bl_alloc hbw1 _)).mono ?_; rintro e w2 ⟨rfl, hb2⟩; obtain ⟨hc2, hfz2⟩ := bcell hb2; have hz2 : w.heap.size < w2.heap.size := Nat.lt_of_lt_of_le hz (Nat.le_trans (by simp) hb2.size); have hbw2 : Below w.heap.size w w2 := bl_call (bl_alloc hbw1 _) hb2)
      rw [rounds_succ]
      go_wp2_with (go_at_call 59; refine (H1.out _ (bl_alloc hbw2 _)).mono ?_; rintro e w3 ⟨rfl, hb3⟩; have hbw3 : Below w.heap.size w w3 := bl_call (bl_alloc hbw2 _) hb3)
      rw [rounds_succ]
      go_wp2
      go_ret
      exact ⟨rfl, hbw3⟩
    · refine wp_loop_rounds 2 ?_
      rw [rounds_succ]
      go_wp2_with (go_at_call 59; refine (H0.out _ (bl_alloc hbw1 _)).mono ?_; rintro e w2 ⟨rfl, hb2⟩; obtain ⟨hc2, hfz2⟩ := bcell hb2; have hz2 : w.heap.size < w2.heap.size := Nat.lt_of_lt_of_le hz (Nat.le_trans (by simp) hb2.size); have hbw2 : Below w.heap.size w w2 := bl_call (bl_alloc hbw1 _) hb2)
      rw [rounds_succ]
      go_wp2_with (go_at_call 59; refine (H1.out _ (bl_alloc hbw2 _)).mono ?_; rintro e w3 ⟨rfl, hb3⟩; have hbw3 : Below w.heap.size w w3 := bl_call (bl_alloc hbw2 _) hb3)
      go_ret
      exact ⟨rfl, hbw3⟩
  · refine wp_loop_rounds 1 ?_
    rw [rounds_succ]
    go_wp2_with (go_at_call 59; refine (H0.out _ (bl_alloc hbw1 _)).mono ?_; rintro e w2 ⟨rfl, hb2⟩; obtain ⟨hc2, hfz2⟩ := bcell hb2; have hz2 : w.heap.size < w2.heap.size := Nat.lt_of_lt_of_le hz (Nat.le_trans (by simp) hb2.size); have hbw2 : Below w.heap.size w w2 := bl_call (bl_alloc hbw1 _) hb2)
    go_ret
    exact ⟨rfl, hbw2⟩
end Go.Proofs.YthhfnncehfkbfaaDoor
/- The ways of the table, in plain words: what each place asks. -/
namespace Go.Proofs.YthhfnncehfkbfaaDoor
open Go.RowKit Go.Sort Go.BigFrame
def pl (l : List Int) (d : Stil.Dev) : Bool := d.ok && decide (d.kind ∈ l)
def plPreset (d : Stil.Dev) : Bool := d.ok && decide (d.kind ∈ ([11] : List Int)) && decide (0 ≤ d.n)
theorem pf_E : PlaceFn 70 (pl [5]) := ⟨enters_of Tryd.func70 (by kernel_rfl) rfl, fun d w hr hf => i_isE d w hr hf.2.1.1 hf.2.1.2⟩
theorem pf_S : PlaceFn 76 (pl [4]) := ⟨enters_of Tryd.func76 (by kernel_rfl) rfl, fun d w hr hf => i_isS d w hr hf.2.1.1 hf.2.1.2⟩
theorem pf_T : PlaceFn 64 (pl [7]) := ⟨enters_of Tryd.func64 (by kernel_rfl) rfl, fun d w hr hf => i_isT d w hr hf.2.1.1 hf.2.1.2⟩
theorem pf_C : PlaceFn 77 (pl [8]) := ⟨enters_of Tryd.func77 (by kernel_rfl) rfl, fun d w hr hf => i_isC d w hr hf.2.1.1 hf.2.1.2⟩
theorem pf_D : PlaceFn 66 (pl [9]) := ⟨enters_of Tryd.func66 (by kernel_rfl) rfl, fun d w hr hf => i_isD d w hr hf.2.1.1 hf.2.1.2⟩
theorem pf_R : PlaceFn 67 (pl [10]) := ⟨enters_of Tryd.func67 (by kernel_rfl) rfl, fun d w hr hf => i_isR d w hr hf.2.1.1 hf.2.1.2⟩
theorem pf_YM : PlaceFn 73 (pl [2, 3]) := ⟨enters_of Tryd.func73 (by kernel_rfl) rfl, fun d w hr hf => i_isYM d w hr hf.2.1.1 hf.2.1.2⟩
theorem pf_YMS : PlaceFn 74 (pl [2, 3, 4]) := ⟨enters_of Tryd.func74 (by kernel_rfl) rfl, fun d w hr hf => i_isYMS d w hr hf.2.1.1 hf.2.1.2⟩
theorem pf_YMSTC : PlaceFn 75 (pl [2, 3, 4, 7, 8]) := ⟨enters_of Tryd.func75 (by kernel_rfl) rfl, fun d w hr hf => i_isYMSTC d w hr hf.2.1.1 hf.2.1.2⟩
theorem pf_Preset : PlaceFn 65 plPreset := ⟨enters_of Tryd.func65 (by kernel_rfl) rfl, fun d w hr hf => i_isPreset d w hr hf.2.1.1 hf.2.1.2⟩
theorem pf_Bit : PlaceFn 69 Stil.Dev.isBit := ⟨enters_of Tryd.func69 (by kernel_rfl) rfl, fun d w hr hf => i_devIsBit d.kind d.n d.p w hr hf.2.1.1 hf.2.1.2⟩
theorem pf_Whole : PlaceFn 62 Stil.Dev.isWhole := ⟨enters_of Tryd.func62 (by kernel_rfl) rfl, fun d w hr hf => i_devIsWhole d.kind d.n d.p w hr hf.2.1.1 hf.2.1.2⟩
theorem pf_Real : PlaceFn 63 Stil.Dev.isReal := ⟨enters_of Tryd.func63 (by kernel_rfl) rfl, fun d w hr hf => i_devIsReal d.kind d.n d.p w hr hf.2.1.1 hf.2.1.2⟩
theorem way0 : WayFn [] [] := ⟨rfl, by simp, fun i h => absurd h (by simp)⟩
theorem way1 {a : Nat} {p : Stil.Dev → Bool} (ha : a ≠ 0) (h : PlaceFn a p) : WayFn [a] [p] := ⟨rfl, by simp, fun i h1 h2 => by
  have : i = 0 := by simp at h1; omega
  subst this; exact ⟨ha, h⟩⟩
theorem way2 {a b : Nat} {p q : Stil.Dev → Bool} (ha : a ≠ 0) (h : PlaceFn a p) (hb : b ≠ 0) (k : PlaceFn b q) : WayFn [a, b] [p, q] := ⟨rfl, by simp, fun i h1 h2 => by
  have : i = 0 ∨ i = 1 := by simp at h1; omega
  rcases this with rfl | rfl
  · exact ⟨ha, h⟩
  · exact ⟨hb, k⟩⟩
theorem way3 {a b c : Nat} {p q r : Stil.Dev → Bool} (ha : a ≠ 0) (h : PlaceFn a p) (hb : b ≠ 0) (k : PlaceFn b q) (hc : c ≠ 0) (m : PlaceFn c r) : WayFn [a, b, c] [p, q, r] := ⟨rfl, by simp, fun i h1 h2 => by
  have : i = 0 ∨ i = 1 ∨ i = 2 := by simp at h1; omega
  rcases this with rfl | rfl | rfl
  · exact ⟨ha, h⟩
  · exact ⟨hb, k⟩
  · exact ⟨hc, m⟩⟩
/-- What the two ways of an Op ask. -/
def opWays (op : Int) : List (Stil.Dev → Bool) × List (Stil.Dev → Bool) :=
  if op = 1 then ([Stil.Dev.isBit], []) else
  if op = 2 then ([Stil.Dev.isBit], []) else
  if op = 3 then ([Stil.Dev.isBit, pl [5]], []) else
  if op = 4 then ([Stil.Dev.isBit, pl [5]], []) else
  if op = 5 then ([Stil.Dev.isWhole, Stil.Dev.isWhole], [Stil.Dev.isReal, Stil.Dev.isReal]) else
  if op = 6 then ([Stil.Dev.isWhole, Stil.Dev.isWhole], [Stil.Dev.isReal, Stil.Dev.isReal]) else
  if op = 7 then ([Stil.Dev.isWhole, Stil.Dev.isWhole], [Stil.Dev.isReal, Stil.Dev.isReal]) else
  if op = 8 then ([Stil.Dev.isWhole, Stil.Dev.isWhole], [Stil.Dev.isReal, Stil.Dev.isReal]) else
  if op = 9 then ([Stil.Dev.isWhole, Stil.Dev.isWhole], [Stil.Dev.isReal, Stil.Dev.isReal]) else
  if op = 10 then ([Stil.Dev.isWhole, Stil.Dev.isWhole], [Stil.Dev.isReal, Stil.Dev.isReal]) else
  if op = 21 then ([pl [2, 3]], []) else
  if op = 22 then ([pl [2, 3, 4]], []) else
  if op = 23 then ([pl [2, 3, 4, 7, 8]], []) else
  if op = 24 then ([pl [2, 3], pl [5]], []) else
  if op = 25 then ([pl [4]], []) else
  if op = 26 then ([pl [7], plPreset], []) else
  if op = 27 then ([pl [7], plPreset], []) else
  if op = 28 then ([pl [7], plPreset], []) else
  if op = 29 then ([pl [8], plPreset], []) else
  if op = 30 then ([pl [9], Stil.Dev.isWhole], [pl [10], Stil.Dev.isReal]) else
  if op = 31 then ([pl [9], Stil.Dev.isWhole, Stil.Dev.isWhole], [pl [10], Stil.Dev.isReal, Stil.Dev.isReal]) else
  if op = 32 then ([pl [9], Stil.Dev.isWhole, Stil.Dev.isWhole], [pl [10], Stil.Dev.isReal, Stil.Dev.isReal]) else
  if op = 33 then ([pl [9], Stil.Dev.isWhole, Stil.Dev.isWhole], [pl [10], Stil.Dev.isReal, Stil.Dev.isReal]) else
  if op = 34 then ([pl [9], Stil.Dev.isWhole, Stil.Dev.isWhole], [pl [10], Stil.Dev.isReal, Stil.Dev.isReal]) else
  if op = 35 then ([pl [9], Stil.Dev.isWhole, Stil.Dev.isWhole], []) else
  if op = 36 then ([pl [10], Stil.Dev.isWhole], []) else
  if op = 37 then ([pl [9], Stil.Dev.isReal], []) else
  ([], [])
theorem ways_1 : WayFn (rowOf 1).2.2.1 (opWays 1).1 ∧ WayFn (rowOf 1).2.2.2 (opWays 1).2 := ⟨way1 (by decide) pf_Bit, way0⟩
theorem ways_2 : WayFn (rowOf 2).2.2.1 (opWays 2).1 ∧ WayFn (rowOf 2).2.2.2 (opWays 2).2 := ⟨way1 (by decide) pf_Bit, way0⟩
theorem ways_3 : WayFn (rowOf 3).2.2.1 (opWays 3).1 ∧ WayFn (rowOf 3).2.2.2 (opWays 3).2 := ⟨way2 (by decide) pf_Bit (by decide) pf_E, way0⟩
theorem ways_4 : WayFn (rowOf 4).2.2.1 (opWays 4).1 ∧ WayFn (rowOf 4).2.2.2 (opWays 4).2 := ⟨way2 (by decide) pf_Bit (by decide) pf_E, way0⟩
theorem ways_5 : WayFn (rowOf 5).2.2.1 (opWays 5).1 ∧ WayFn (rowOf 5).2.2.2 (opWays 5).2 := ⟨way2 (by decide) pf_Whole (by decide) pf_Whole, way2 (by decide) pf_Real (by decide) pf_Real⟩
theorem ways_6 : WayFn (rowOf 6).2.2.1 (opWays 6).1 ∧ WayFn (rowOf 6).2.2.2 (opWays 6).2 := ⟨way2 (by decide) pf_Whole (by decide) pf_Whole, way2 (by decide) pf_Real (by decide) pf_Real⟩
theorem ways_7 : WayFn (rowOf 7).2.2.1 (opWays 7).1 ∧ WayFn (rowOf 7).2.2.2 (opWays 7).2 := ⟨way2 (by decide) pf_Whole (by decide) pf_Whole, way2 (by decide) pf_Real (by decide) pf_Real⟩
theorem ways_8 : WayFn (rowOf 8).2.2.1 (opWays 8).1 ∧ WayFn (rowOf 8).2.2.2 (opWays 8).2 := ⟨way2 (by decide) pf_Whole (by decide) pf_Whole, way2 (by decide) pf_Real (by decide) pf_Real⟩
theorem ways_9 : WayFn (rowOf 9).2.2.1 (opWays 9).1 ∧ WayFn (rowOf 9).2.2.2 (opWays 9).2 := ⟨way2 (by decide) pf_Whole (by decide) pf_Whole, way2 (by decide) pf_Real (by decide) pf_Real⟩
theorem ways_10 : WayFn (rowOf 10).2.2.1 (opWays 10).1 ∧ WayFn (rowOf 10).2.2.2 (opWays 10).2 := ⟨way2 (by decide) pf_Whole (by decide) pf_Whole, way2 (by decide) pf_Real (by decide) pf_Real⟩
theorem ways_21 : WayFn (rowOf 21).2.2.1 (opWays 21).1 ∧ WayFn (rowOf 21).2.2.2 (opWays 21).2 := ⟨way1 (by decide) pf_YM, way0⟩
theorem ways_22 : WayFn (rowOf 22).2.2.1 (opWays 22).1 ∧ WayFn (rowOf 22).2.2.2 (opWays 22).2 := ⟨way1 (by decide) pf_YMS, way0⟩
theorem ways_23 : WayFn (rowOf 23).2.2.1 (opWays 23).1 ∧ WayFn (rowOf 23).2.2.2 (opWays 23).2 := ⟨way1 (by decide) pf_YMSTC, way0⟩
theorem ways_24 : WayFn (rowOf 24).2.2.1 (opWays 24).1 ∧ WayFn (rowOf 24).2.2.2 (opWays 24).2 := ⟨way2 (by decide) pf_YM (by decide) pf_E, way0⟩
theorem ways_25 : WayFn (rowOf 25).2.2.1 (opWays 25).1 ∧ WayFn (rowOf 25).2.2.2 (opWays 25).2 := ⟨way1 (by decide) pf_S, way0⟩
theorem ways_26 : WayFn (rowOf 26).2.2.1 (opWays 26).1 ∧ WayFn (rowOf 26).2.2.2 (opWays 26).2 := ⟨way2 (by decide) pf_T (by decide) pf_Preset, way0⟩
theorem ways_27 : WayFn (rowOf 27).2.2.1 (opWays 27).1 ∧ WayFn (rowOf 27).2.2.2 (opWays 27).2 := ⟨way2 (by decide) pf_T (by decide) pf_Preset, way0⟩
theorem ways_28 : WayFn (rowOf 28).2.2.1 (opWays 28).1 ∧ WayFn (rowOf 28).2.2.2 (opWays 28).2 := ⟨way2 (by decide) pf_T (by decide) pf_Preset, way0⟩
theorem ways_29 : WayFn (rowOf 29).2.2.1 (opWays 29).1 ∧ WayFn (rowOf 29).2.2.2 (opWays 29).2 := ⟨way2 (by decide) pf_C (by decide) pf_Preset, way0⟩
theorem ways_30 : WayFn (rowOf 30).2.2.1 (opWays 30).1 ∧ WayFn (rowOf 30).2.2.2 (opWays 30).2 := ⟨way2 (by decide) pf_D (by decide) pf_Whole, way2 (by decide) pf_R (by decide) pf_Real⟩
theorem ways_31 : WayFn (rowOf 31).2.2.1 (opWays 31).1 ∧ WayFn (rowOf 31).2.2.2 (opWays 31).2 := ⟨way3 (by decide) pf_D (by decide) pf_Whole (by decide) pf_Whole, way3 (by decide) pf_R (by decide) pf_Real (by decide) pf_Real⟩
theorem ways_32 : WayFn (rowOf 32).2.2.1 (opWays 32).1 ∧ WayFn (rowOf 32).2.2.2 (opWays 32).2 := ⟨way3 (by decide) pf_D (by decide) pf_Whole (by decide) pf_Whole, way3 (by decide) pf_R (by decide) pf_Real (by decide) pf_Real⟩
theorem ways_33 : WayFn (rowOf 33).2.2.1 (opWays 33).1 ∧ WayFn (rowOf 33).2.2.2 (opWays 33).2 := ⟨way3 (by decide) pf_D (by decide) pf_Whole (by decide) pf_Whole, way3 (by decide) pf_R (by decide) pf_Real (by decide) pf_Real⟩
theorem ways_34 : WayFn (rowOf 34).2.2.1 (opWays 34).1 ∧ WayFn (rowOf 34).2.2.2 (opWays 34).2 := ⟨way3 (by decide) pf_D (by decide) pf_Whole (by decide) pf_Whole, way3 (by decide) pf_R (by decide) pf_Real (by decide) pf_Real⟩
theorem ways_35 : WayFn (rowOf 35).2.2.1 (opWays 35).1 ∧ WayFn (rowOf 35).2.2.2 (opWays 35).2 := ⟨way3 (by decide) pf_D (by decide) pf_Whole (by decide) pf_Whole, way0⟩
theorem ways_36 : WayFn (rowOf 36).2.2.1 (opWays 36).1 ∧ WayFn (rowOf 36).2.2.2 (opWays 36).2 := ⟨way2 (by decide) pf_R (by decide) pf_Whole, way0⟩
theorem ways_37 : WayFn (rowOf 37).2.2.1 (opWays 37).1 ∧ WayFn (rowOf 37).2.2.2 (opWays 37).2 := ⟨way2 (by decide) pf_D (by decide) pf_Real, way0⟩
theorem contact_eq_1 (ds : List Stil.Dev) : (takesB (opWays 1).1 ds || takesB (opWays 1).2 ds) = Stil.isContact 1 ds := by
  rw [show opWays 1 = ([Stil.Dev.isBit], []) from rfl]
  match ds with
  | [] => simp [takesB, Stil.isContact]
  | [a] => (simp [takesB, placesB, Stil.isContact, Stil.Dev.isBit]; try grind)
  | [a, b] => (simp [takesB, placesB, Stil.isContact, Stil.Dev.isBit]; try grind)
  | [a, b, c] => (simp [takesB, placesB, Stil.isContact, Stil.Dev.isBit]; try grind)
  | a :: b :: c :: d :: r => simp [takesB, placesB, Stil.isContact]; try omega
theorem contact_eq_2 (ds : List Stil.Dev) : (takesB (opWays 2).1 ds || takesB (opWays 2).2 ds) = Stil.isContact 2 ds := by
  rw [show opWays 2 = ([Stil.Dev.isBit], []) from rfl]
  match ds with
  | [] => simp [takesB, Stil.isContact]
  | [a] => (simp [takesB, placesB, Stil.isContact, Stil.Dev.isBit]; try grind)
  | [a, b] => (simp [takesB, placesB, Stil.isContact, Stil.Dev.isBit]; try grind)
  | [a, b, c] => (simp [takesB, placesB, Stil.isContact, Stil.Dev.isBit]; try grind)
  | a :: b :: c :: d :: r => simp [takesB, placesB, Stil.isContact]; try omega
theorem contact_eq_3 (ds : List Stil.Dev) : (takesB (opWays 3).1 ds || takesB (opWays 3).2 ds) = Stil.isContact 3 ds := by
  rw [show opWays 3 = ([Stil.Dev.isBit, pl [5]], []) from rfl]
  match ds with
  | [] => simp [takesB, Stil.isContact]
  | [a] => (simp [takesB, placesB, Stil.isContact, Stil.Dev.isBit]; try grind)
  | [a, b] => (simp [takesB, placesB, Stil.isContact, pl, Stil.Dev.ok, Stil.Dev.isBit]; try grind)
  | [a, b, c] => (simp [takesB, placesB, Stil.isContact, pl, Stil.Dev.ok, Stil.Dev.isBit]; try grind)
  | a :: b :: c :: d :: r => simp [takesB, placesB, Stil.isContact]; try omega
theorem contact_eq_4 (ds : List Stil.Dev) : (takesB (opWays 4).1 ds || takesB (opWays 4).2 ds) = Stil.isContact 4 ds := by
  rw [show opWays 4 = ([Stil.Dev.isBit, pl [5]], []) from rfl]
  match ds with
  | [] => simp [takesB, Stil.isContact]
  | [a] => (simp [takesB, placesB, Stil.isContact, Stil.Dev.isBit]; try grind)
  | [a, b] => (simp [takesB, placesB, Stil.isContact, pl, Stil.Dev.ok, Stil.Dev.isBit]; try grind)
  | [a, b, c] => (simp [takesB, placesB, Stil.isContact, pl, Stil.Dev.ok, Stil.Dev.isBit]; try grind)
  | a :: b :: c :: d :: r => simp [takesB, placesB, Stil.isContact]; try omega
theorem contact_eq_5 (ds : List Stil.Dev) : (takesB (opWays 5).1 ds || takesB (opWays 5).2 ds) = Stil.isContact 5 ds := by
  rw [show opWays 5 = ([Stil.Dev.isWhole, Stil.Dev.isWhole], [Stil.Dev.isReal, Stil.Dev.isReal]) from rfl]
  match ds with
  | [] => simp [takesB, Stil.isContact]
  | [a] => (simp [takesB, placesB, Stil.isContact, Stil.Dev.isBit, Stil.Dev.isWhole, Stil.Dev.isReal]; try grind)
  | [a, b] => (simp [takesB, placesB, Stil.isContact, Stil.Dev.isWhole, Stil.Dev.isReal]; try grind)
  | [a, b, c] => (simp [takesB, placesB, Stil.isContact, Stil.Dev.isWhole, Stil.Dev.isReal]; try grind)
  | a :: b :: c :: d :: r => simp [takesB, placesB, Stil.isContact]; try omega
theorem contact_eq_6 (ds : List Stil.Dev) : (takesB (opWays 6).1 ds || takesB (opWays 6).2 ds) = Stil.isContact 6 ds := by
  rw [show opWays 6 = ([Stil.Dev.isWhole, Stil.Dev.isWhole], [Stil.Dev.isReal, Stil.Dev.isReal]) from rfl]
  match ds with
  | [] => simp [takesB, Stil.isContact]
  | [a] => (simp [takesB, placesB, Stil.isContact, Stil.Dev.isBit, Stil.Dev.isWhole, Stil.Dev.isReal]; try grind)
  | [a, b] => (simp [takesB, placesB, Stil.isContact, Stil.Dev.isWhole, Stil.Dev.isReal]; try grind)
  | [a, b, c] => (simp [takesB, placesB, Stil.isContact, Stil.Dev.isWhole, Stil.Dev.isReal]; try grind)
  | a :: b :: c :: d :: r => simp [takesB, placesB, Stil.isContact]; try omega
theorem contact_eq_7 (ds : List Stil.Dev) : (takesB (opWays 7).1 ds || takesB (opWays 7).2 ds) = Stil.isContact 7 ds := by
  rw [show opWays 7 = ([Stil.Dev.isWhole, Stil.Dev.isWhole], [Stil.Dev.isReal, Stil.Dev.isReal]) from rfl]
  match ds with
  | [] => simp [takesB, Stil.isContact]
  | [a] => (simp [takesB, placesB, Stil.isContact, Stil.Dev.isBit, Stil.Dev.isWhole, Stil.Dev.isReal]; try grind)
  | [a, b] => (simp [takesB, placesB, Stil.isContact, Stil.Dev.isWhole, Stil.Dev.isReal]; try grind)
  | [a, b, c] => (simp [takesB, placesB, Stil.isContact, Stil.Dev.isWhole, Stil.Dev.isReal]; try grind)
  | a :: b :: c :: d :: r => simp [takesB, placesB, Stil.isContact]; try omega
theorem contact_eq_8 (ds : List Stil.Dev) : (takesB (opWays 8).1 ds || takesB (opWays 8).2 ds) = Stil.isContact 8 ds := by
  rw [show opWays 8 = ([Stil.Dev.isWhole, Stil.Dev.isWhole], [Stil.Dev.isReal, Stil.Dev.isReal]) from rfl]
  match ds with
  | [] => simp [takesB, Stil.isContact]
  | [a] => (simp [takesB, placesB, Stil.isContact, Stil.Dev.isBit, Stil.Dev.isWhole, Stil.Dev.isReal]; try grind)
  | [a, b] => (simp [takesB, placesB, Stil.isContact, Stil.Dev.isWhole, Stil.Dev.isReal]; try grind)
  | [a, b, c] => (simp [takesB, placesB, Stil.isContact, Stil.Dev.isWhole, Stil.Dev.isReal]; try grind)
  | a :: b :: c :: d :: r => simp [takesB, placesB, Stil.isContact]; try omega
theorem contact_eq_9 (ds : List Stil.Dev) : (takesB (opWays 9).1 ds || takesB (opWays 9).2 ds) = Stil.isContact 9 ds := by
  rw [show opWays 9 = ([Stil.Dev.isWhole, Stil.Dev.isWhole], [Stil.Dev.isReal, Stil.Dev.isReal]) from rfl]
  match ds with
  | [] => simp [takesB, Stil.isContact]
  | [a] => (simp [takesB, placesB, Stil.isContact, Stil.Dev.isBit, Stil.Dev.isWhole, Stil.Dev.isReal]; try grind)
  | [a, b] => (simp [takesB, placesB, Stil.isContact, Stil.Dev.isWhole, Stil.Dev.isReal]; try grind)
  | [a, b, c] => (simp [takesB, placesB, Stil.isContact, Stil.Dev.isWhole, Stil.Dev.isReal]; try grind)
  | a :: b :: c :: d :: r => simp [takesB, placesB, Stil.isContact]; try omega
theorem contact_eq_10 (ds : List Stil.Dev) : (takesB (opWays 10).1 ds || takesB (opWays 10).2 ds) = Stil.isContact 10 ds := by
  rw [show opWays 10 = ([Stil.Dev.isWhole, Stil.Dev.isWhole], [Stil.Dev.isReal, Stil.Dev.isReal]) from rfl]
  match ds with
  | [] => simp [takesB, Stil.isContact]
  | [a] => (simp [takesB, placesB, Stil.isContact, Stil.Dev.isBit, Stil.Dev.isWhole, Stil.Dev.isReal]; try grind)
  | [a, b] => (simp [takesB, placesB, Stil.isContact, Stil.Dev.isWhole, Stil.Dev.isReal]; try grind)
  | [a, b, c] => (simp [takesB, placesB, Stil.isContact, Stil.Dev.isWhole, Stil.Dev.isReal]; try grind)
  | a :: b :: c :: d :: r => simp [takesB, placesB, Stil.isContact]; try omega
theorem coil_eq_21 (ds : List Stil.Dev) : (takesB (opWays 21).1 ds || takesB (opWays 21).2 ds) = Stil.isCoil 21 ds := by
  rw [show opWays 21 = ([pl [2, 3]], []) from rfl]
  match ds with
  | [] => simp [takesB, Stil.isCoil, Stil.arity]
  | [a] => (simp [takesB, placesB, Stil.isCoil, Stil.arity, pl, Stil.Dev.kindIs, Stil.kindB, Stil.Dev.ok]; try grind)
  | [a, b] => (simp [takesB, placesB, Stil.isCoil, Stil.arity, pl, Stil.Dev.ok]; try grind)
  | [a, b, c] => (simp [takesB, placesB, Stil.isCoil, Stil.arity, pl, Stil.Dev.ok]; try grind)
  | a :: b :: c :: d :: r => simp [takesB, placesB, Stil.isCoil, Stil.arity]; try omega
theorem coil_eq_22 (ds : List Stil.Dev) : (takesB (opWays 22).1 ds || takesB (opWays 22).2 ds) = Stil.isCoil 22 ds := by
  rw [show opWays 22 = ([pl [2, 3, 4]], []) from rfl]
  match ds with
  | [] => simp [takesB, Stil.isCoil, Stil.arity]
  | [a] => (simp [takesB, placesB, Stil.isCoil, Stil.arity, pl, Stil.Dev.kindIs, Stil.kindB, Stil.Dev.ok]; try grind)
  | [a, b] => (simp [takesB, placesB, Stil.isCoil, Stil.arity, pl, Stil.Dev.ok]; try grind)
  | [a, b, c] => (simp [takesB, placesB, Stil.isCoil, Stil.arity, pl, Stil.Dev.ok]; try grind)
  | a :: b :: c :: d :: r => simp [takesB, placesB, Stil.isCoil, Stil.arity]; try omega
theorem coil_eq_23 (ds : List Stil.Dev) : (takesB (opWays 23).1 ds || takesB (opWays 23).2 ds) = Stil.isCoil 23 ds := by
  rw [show opWays 23 = ([pl [2, 3, 4, 7, 8]], []) from rfl]
  match ds with
  | [] => simp [takesB, Stil.isCoil, Stil.arity]
  | [a] => (simp [takesB, placesB, Stil.isCoil, Stil.arity, pl, Stil.Dev.kindIs, Stil.kindB, Stil.Dev.ok]; try grind)
  | [a, b] => (simp [takesB, placesB, Stil.isCoil, Stil.arity, pl, Stil.Dev.ok]; try grind)
  | [a, b, c] => (simp [takesB, placesB, Stil.isCoil, Stil.arity, pl, Stil.Dev.ok]; try grind)
  | a :: b :: c :: d :: r => simp [takesB, placesB, Stil.isCoil, Stil.arity]; try omega
theorem coil_eq_24 (ds : List Stil.Dev) : (takesB (opWays 24).1 ds || takesB (opWays 24).2 ds) = Stil.isCoil 24 ds := by
  rw [show opWays 24 = ([pl [2, 3], pl [5]], []) from rfl]
  match ds with
  | [] => simp [takesB, Stil.isCoil, Stil.arity]
  | [a] => (simp [takesB, placesB, Stil.isCoil, Stil.arity, pl, Stil.Dev.ok]; try grind)
  | [a, b] => (simp [takesB, placesB, Stil.isCoil, Stil.arity, pl, Stil.Dev.kindIs, Stil.kindB, Stil.Dev.ok]; try grind)
  | [a, b, c] => (simp [takesB, placesB, Stil.isCoil, Stil.arity, pl, Stil.Dev.ok]; try grind)
  | a :: b :: c :: d :: r => simp [takesB, placesB, Stil.isCoil, Stil.arity]; try omega
theorem coil_eq_25 (ds : List Stil.Dev) : (takesB (opWays 25).1 ds || takesB (opWays 25).2 ds) = Stil.isCoil 25 ds := by
  rw [show opWays 25 = ([pl [4]], []) from rfl]
  match ds with
  | [] => simp [takesB, Stil.isCoil, Stil.arity]
  | [a] => (simp [takesB, placesB, Stil.isCoil, Stil.arity, pl, Stil.Dev.kindIs, Stil.kindB, Stil.Dev.ok]; try grind)
  | [a, b] => (simp [takesB, placesB, Stil.isCoil, Stil.arity, pl, Stil.Dev.ok]; try grind)
  | [a, b, c] => (simp [takesB, placesB, Stil.isCoil, Stil.arity, pl, Stil.Dev.ok]; try grind)
  | a :: b :: c :: d :: r => simp [takesB, placesB, Stil.isCoil, Stil.arity]; try omega
theorem coil_eq_26 (ds : List Stil.Dev) : (takesB (opWays 26).1 ds || takesB (opWays 26).2 ds) = Stil.isCoil 26 ds := by
  rw [show opWays 26 = ([pl [7], plPreset], []) from rfl]
  match ds with
  | [] => simp [takesB, Stil.isCoil, Stil.arity]
  | [a] => (simp [takesB, placesB, Stil.isCoil, Stil.arity, pl, Stil.Dev.ok]; try grind)
  | [a, b] => (simp [takesB, placesB, Stil.isCoil, Stil.arity, pl, plPreset, Stil.Dev.kindIs, Stil.kindB, Stil.Dev.ok]; try grind)
  | [a, b, c] => (simp [takesB, placesB, Stil.isCoil, Stil.arity, pl, plPreset, Stil.Dev.ok]; try grind)
  | a :: b :: c :: d :: r => simp [takesB, placesB, Stil.isCoil, Stil.arity]; try omega
theorem coil_eq_27 (ds : List Stil.Dev) : (takesB (opWays 27).1 ds || takesB (opWays 27).2 ds) = Stil.isCoil 27 ds := by
  rw [show opWays 27 = ([pl [7], plPreset], []) from rfl]
  match ds with
  | [] => simp [takesB, Stil.isCoil, Stil.arity]
  | [a] => (simp [takesB, placesB, Stil.isCoil, Stil.arity, pl, Stil.Dev.ok]; try grind)
  | [a, b] => (simp [takesB, placesB, Stil.isCoil, Stil.arity, pl, plPreset, Stil.Dev.kindIs, Stil.kindB, Stil.Dev.ok]; try grind)
  | [a, b, c] => (simp [takesB, placesB, Stil.isCoil, Stil.arity, pl, plPreset, Stil.Dev.ok]; try grind)
  | a :: b :: c :: d :: r => simp [takesB, placesB, Stil.isCoil, Stil.arity]; try omega
theorem coil_eq_28 (ds : List Stil.Dev) : (takesB (opWays 28).1 ds || takesB (opWays 28).2 ds) = Stil.isCoil 28 ds := by
  rw [show opWays 28 = ([pl [7], plPreset], []) from rfl]
  match ds with
  | [] => simp [takesB, Stil.isCoil, Stil.arity]
  | [a] => (simp [takesB, placesB, Stil.isCoil, Stil.arity, pl, Stil.Dev.ok]; try grind)
  | [a, b] => (simp [takesB, placesB, Stil.isCoil, Stil.arity, pl, plPreset, Stil.Dev.kindIs, Stil.kindB, Stil.Dev.ok]; try grind)
  | [a, b, c] => (simp [takesB, placesB, Stil.isCoil, Stil.arity, pl, plPreset, Stil.Dev.ok]; try grind)
  | a :: b :: c :: d :: r => simp [takesB, placesB, Stil.isCoil, Stil.arity]; try omega
theorem coil_eq_29 (ds : List Stil.Dev) : (takesB (opWays 29).1 ds || takesB (opWays 29).2 ds) = Stil.isCoil 29 ds := by
  rw [show opWays 29 = ([pl [8], plPreset], []) from rfl]
  match ds with
  | [] => simp [takesB, Stil.isCoil, Stil.arity]
  | [a] => (simp [takesB, placesB, Stil.isCoil, Stil.arity, pl, Stil.Dev.ok]; try grind)
  | [a, b] => (simp [takesB, placesB, Stil.isCoil, Stil.arity, pl, plPreset, Stil.Dev.kindIs, Stil.kindB, Stil.Dev.ok]; try grind)
  | [a, b, c] => (simp [takesB, placesB, Stil.isCoil, Stil.arity, pl, plPreset, Stil.Dev.ok]; try grind)
  | a :: b :: c :: d :: r => simp [takesB, placesB, Stil.isCoil, Stil.arity]; try omega
theorem coil_eq_30 (ds : List Stil.Dev) : (takesB (opWays 30).1 ds || takesB (opWays 30).2 ds) = Stil.isCoil 30 ds := by
  rw [show opWays 30 = ([pl [9], Stil.Dev.isWhole], [pl [10], Stil.Dev.isReal]) from rfl]
  match ds with
  | [] => simp [takesB, Stil.isCoil, Stil.arity]
  | [a] => (simp [takesB, placesB, Stil.isCoil, Stil.arity, pl, Stil.Dev.ok]; try grind)
  | [a, b] => (simp [takesB, placesB, Stil.isCoil, Stil.arity, Stil.calcB, Stil.calcRest, pl, Stil.Dev.kindIs, Stil.kindB, Stil.Dev.ok, Stil.Dev.isWhole, Stil.Dev.isReal]; try grind)
  | [a, b, c] => (simp [takesB, placesB, Stil.isCoil, Stil.arity, pl, Stil.Dev.ok, Stil.Dev.isWhole, Stil.Dev.isReal]; try grind)
  | a :: b :: c :: d :: r => simp [takesB, placesB, Stil.isCoil, Stil.arity]; try omega
theorem coil_eq_31 (ds : List Stil.Dev) : (takesB (opWays 31).1 ds || takesB (opWays 31).2 ds) = Stil.isCoil 31 ds := by
  rw [show opWays 31 = ([pl [9], Stil.Dev.isWhole, Stil.Dev.isWhole], [pl [10], Stil.Dev.isReal, Stil.Dev.isReal]) from rfl]
  match ds with
  | [] => simp [takesB, Stil.isCoil, Stil.arity]
  | [a] => (simp [takesB, placesB, Stil.isCoil, Stil.arity, pl, Stil.Dev.ok]; try grind)
  | [a, b] => (simp [takesB, placesB, Stil.isCoil, Stil.arity, pl, Stil.Dev.ok, Stil.Dev.isWhole, Stil.Dev.isReal]; try grind)
  | [a, b, c] => (simp [takesB, placesB, Stil.isCoil, Stil.arity, Stil.calcB, Stil.calcRest, pl, Stil.Dev.kindIs, Stil.kindB, Stil.Dev.ok, Stil.Dev.isWhole, Stil.Dev.isReal]; try grind)
  | a :: b :: c :: d :: r => simp [takesB, placesB, Stil.isCoil, Stil.arity]; try omega
theorem coil_eq_32 (ds : List Stil.Dev) : (takesB (opWays 32).1 ds || takesB (opWays 32).2 ds) = Stil.isCoil 32 ds := by
  rw [show opWays 32 = ([pl [9], Stil.Dev.isWhole, Stil.Dev.isWhole], [pl [10], Stil.Dev.isReal, Stil.Dev.isReal]) from rfl]
  match ds with
  | [] => simp [takesB, Stil.isCoil, Stil.arity]
  | [a] => (simp [takesB, placesB, Stil.isCoil, Stil.arity, pl, Stil.Dev.ok]; try grind)
  | [a, b] => (simp [takesB, placesB, Stil.isCoil, Stil.arity, pl, Stil.Dev.ok, Stil.Dev.isWhole, Stil.Dev.isReal]; try grind)
  | [a, b, c] => (simp [takesB, placesB, Stil.isCoil, Stil.arity, Stil.calcB, Stil.calcRest, pl, Stil.Dev.kindIs, Stil.kindB, Stil.Dev.ok, Stil.Dev.isWhole, Stil.Dev.isReal]; try grind)
  | a :: b :: c :: d :: r => simp [takesB, placesB, Stil.isCoil, Stil.arity]; try omega
theorem coil_eq_33 (ds : List Stil.Dev) : (takesB (opWays 33).1 ds || takesB (opWays 33).2 ds) = Stil.isCoil 33 ds := by
  rw [show opWays 33 = ([pl [9], Stil.Dev.isWhole, Stil.Dev.isWhole], [pl [10], Stil.Dev.isReal, Stil.Dev.isReal]) from rfl]
  match ds with
  | [] => simp [takesB, Stil.isCoil, Stil.arity]
  | [a] => (simp [takesB, placesB, Stil.isCoil, Stil.arity, pl, Stil.Dev.ok]; try grind)
  | [a, b] => (simp [takesB, placesB, Stil.isCoil, Stil.arity, pl, Stil.Dev.ok, Stil.Dev.isWhole, Stil.Dev.isReal]; try grind)
  | [a, b, c] => (simp [takesB, placesB, Stil.isCoil, Stil.arity, Stil.calcB, Stil.calcRest, pl, Stil.Dev.kindIs, Stil.kindB, Stil.Dev.ok, Stil.Dev.isWhole, Stil.Dev.isReal]; try grind)
  | a :: b :: c :: d :: r => simp [takesB, placesB, Stil.isCoil, Stil.arity]; try omega
theorem coil_eq_34 (ds : List Stil.Dev) : (takesB (opWays 34).1 ds || takesB (opWays 34).2 ds) = Stil.isCoil 34 ds := by
  rw [show opWays 34 = ([pl [9], Stil.Dev.isWhole, Stil.Dev.isWhole], [pl [10], Stil.Dev.isReal, Stil.Dev.isReal]) from rfl]
  match ds with
  | [] => simp [takesB, Stil.isCoil, Stil.arity]
  | [a] => (simp [takesB, placesB, Stil.isCoil, Stil.arity, pl, Stil.Dev.ok]; try grind)
  | [a, b] => (simp [takesB, placesB, Stil.isCoil, Stil.arity, pl, Stil.Dev.ok, Stil.Dev.isWhole, Stil.Dev.isReal]; try grind)
  | [a, b, c] => (simp [takesB, placesB, Stil.isCoil, Stil.arity, Stil.calcB, Stil.calcRest, pl, Stil.Dev.kindIs, Stil.kindB, Stil.Dev.ok, Stil.Dev.isWhole, Stil.Dev.isReal]; try grind)
  | a :: b :: c :: d :: r => simp [takesB, placesB, Stil.isCoil, Stil.arity]; try omega
theorem coil_eq_35 (ds : List Stil.Dev) : (takesB (opWays 35).1 ds || takesB (opWays 35).2 ds) = Stil.isCoil 35 ds := by
  rw [show opWays 35 = ([pl [9], Stil.Dev.isWhole, Stil.Dev.isWhole], []) from rfl]
  match ds with
  | [] => simp [takesB, Stil.isCoil, Stil.arity]
  | [a] => (simp [takesB, placesB, Stil.isCoil, Stil.arity, pl, Stil.Dev.ok]; try grind)
  | [a, b] => (simp [takesB, placesB, Stil.isCoil, Stil.arity, pl, Stil.Dev.ok, Stil.Dev.isWhole]; try grind)
  | [a, b, c] => (simp [takesB, placesB, Stil.isCoil, Stil.arity, Stil.calcB, Stil.calcRest, pl, Stil.Dev.kindIs, Stil.kindB, Stil.Dev.ok, Stil.Dev.isWhole, Stil.Dev.isReal]; try grind)
  | a :: b :: c :: d :: r => simp [takesB, placesB, Stil.isCoil, Stil.arity]; try omega
theorem coil_eq_36 (ds : List Stil.Dev) : (takesB (opWays 36).1 ds || takesB (opWays 36).2 ds) = Stil.isCoil 36 ds := by
  rw [show opWays 36 = ([pl [10], Stil.Dev.isWhole], []) from rfl]
  match ds with
  | [] => simp [takesB, Stil.isCoil, Stil.arity]
  | [a] => (simp [takesB, placesB, Stil.isCoil, Stil.arity, pl, Stil.Dev.ok]; try grind)
  | [a, b] => (simp [takesB, placesB, Stil.isCoil, Stil.arity, pl, Stil.Dev.kindIs, Stil.kindB, Stil.Dev.ok, Stil.Dev.isWhole]; try grind)
  | [a, b, c] => (simp [takesB, placesB, Stil.isCoil, Stil.arity, pl, Stil.Dev.ok, Stil.Dev.isWhole]; try grind)
  | a :: b :: c :: d :: r => simp [takesB, placesB, Stil.isCoil, Stil.arity]; try omega
theorem coil_eq_37 (ds : List Stil.Dev) : (takesB (opWays 37).1 ds || takesB (opWays 37).2 ds) = Stil.isCoil 37 ds := by
  rw [show opWays 37 = ([pl [9], Stil.Dev.isReal], []) from rfl]
  match ds with
  | [] => simp [takesB, Stil.isCoil, Stil.arity]
  | [a] => (simp [takesB, placesB, Stil.isCoil, Stil.arity, pl, Stil.Dev.ok]; try grind)
  | [a, b] => (simp [takesB, placesB, Stil.isCoil, Stil.arity, pl, Stil.Dev.kindIs, Stil.kindB, Stil.Dev.ok, Stil.Dev.isReal]; try grind)
  | [a, b, c] => (simp [takesB, placesB, Stil.isCoil, Stil.arity, pl, Stil.Dev.ok, Stil.Dev.isReal]; try grind)
  | a :: b :: c :: d :: r => simp [takesB, placesB, Stil.isCoil, Stil.arity]; try omega
theorem contact_ways (op : Int) (h1 : 1 ≤ op) (h2 : op ≤ 10) : WayFn (rowOf op).2.2.1 (opWays op).1 ∧ WayFn (rowOf op).2.2.2 (opWays op).2 ∧ ∀ ds, (takesB (opWays op).1 ds || takesB (opWays op).2 ds) = Stil.isContact op ds := by
  have h : op = 1 ∨ op = 2 ∨ op = 3 ∨ op = 4 ∨ op = 5 ∨ op = 6 ∨ op = 7 ∨ op = 8 ∨ op = 9 ∨ op = 10 := by omega
  rcases h with rfl | rfl | rfl | rfl | rfl | rfl | rfl | rfl | rfl | rfl
  · exact ⟨ways_1.1, ways_1.2, contact_eq_1⟩
  · exact ⟨ways_2.1, ways_2.2, contact_eq_2⟩
  · exact ⟨ways_3.1, ways_3.2, contact_eq_3⟩
  · exact ⟨ways_4.1, ways_4.2, contact_eq_4⟩
  · exact ⟨ways_5.1, ways_5.2, contact_eq_5⟩
  · exact ⟨ways_6.1, ways_6.2, contact_eq_6⟩
  · exact ⟨ways_7.1, ways_7.2, contact_eq_7⟩
  · exact ⟨ways_8.1, ways_8.2, contact_eq_8⟩
  · exact ⟨ways_9.1, ways_9.2, contact_eq_9⟩
  · exact ⟨ways_10.1, ways_10.2, contact_eq_10⟩
theorem coil_ways (op : Int) (h1 : 21 ≤ op) (h2 : op ≤ 37) : WayFn (rowOf op).2.2.1 (opWays op).1 ∧ WayFn (rowOf op).2.2.2 (opWays op).2 ∧ ∀ ds, (takesB (opWays op).1 ds || takesB (opWays op).2 ds) = Stil.isCoil op ds := by
  have h : op = 21 ∨ op = 22 ∨ op = 23 ∨ op = 24 ∨ op = 25 ∨ op = 26 ∨ op = 27 ∨ op = 28 ∨ op = 29 ∨ op = 30 ∨ op = 31 ∨ op = 32 ∨ op = 33 ∨ op = 34 ∨ op = 35 ∨ op = 36 ∨ op = 37 := by omega
  rcases h with rfl | rfl | rfl | rfl | rfl | rfl | rfl | rfl | rfl | rfl | rfl | rfl | rfl | rfl | rfl | rfl | rfl
  · exact ⟨ways_21.1, ways_21.2, coil_eq_21⟩
  · exact ⟨ways_22.1, ways_22.2, coil_eq_22⟩
  · exact ⟨ways_23.1, ways_23.2, coil_eq_23⟩
  · exact ⟨ways_24.1, ways_24.2, coil_eq_24⟩
  · exact ⟨ways_25.1, ways_25.2, coil_eq_25⟩
  · exact ⟨ways_26.1, ways_26.2, coil_eq_26⟩
  · exact ⟨ways_27.1, ways_27.2, coil_eq_27⟩
  · exact ⟨ways_28.1, ways_28.2, coil_eq_28⟩
  · exact ⟨ways_29.1, ways_29.2, coil_eq_29⟩
  · exact ⟨ways_30.1, ways_30.2, coil_eq_30⟩
  · exact ⟨ways_31.1, ways_31.2, coil_eq_31⟩
  · exact ⟨ways_32.1, ways_32.2, coil_eq_32⟩
  · exact ⟨ways_33.1, ways_33.2, coil_eq_33⟩
  · exact ⟨ways_34.1, ways_34.2, coil_eq_34⟩
  · exact ⟨ways_35.1, ways_35.2, coil_eq_35⟩
  · exact ⟨ways_36.1, ways_36.2, coil_eq_36⟩
  · exact ⟨ways_37.1, ways_37.2, coil_eq_37⟩
end Go.Proofs.YthhfnncehfkbfaaDoor
/- Contracts of the program's chapter 2, seventh part: ElemIsContact and ElemIsCoil. -/
namespace Go.Proofs.YthhfnncehfkbfaaDoor
open Go.RowKit Go.Sort Go.BigFrame
set_option maxHeartbeats 400000 in
set_option maxRecDepth 100000 in
theorem i_isContactOp (op : Int) (w : World) :
    Calls Tryd.prog 49 #[.int .i64 op] w fun e w' => e = .returned (.bool (decide (1 ≤ op ∧ op ≤ 10))) ∧ w' = w := by
  by_cases h1 : 1 ≤ op
  · by_cases h2 : op ≤ 10
    · have h2' : decide (op ≤ 10) = true := by simpa using h2
      go_enter Tryd.func49, Tryd.ntmps49
      go_wp2
      all_goals go_ret
      all_goals exact ⟨ret_bool (by first | (simp; done) | (simp; omega)), rfl⟩
    · have h2' : decide (op ≤ 10) = false := by simpa using h2
      go_enter Tryd.func49, Tryd.ntmps49
      go_wp2
      all_goals go_ret
      all_goals exact ⟨ret_bool (by first | (simp; done) | (simp; omega)), rfl⟩
  · have h1' : decide (1 ≤ op) = false := by simpa using h1
    go_enter Tryd.func49, Tryd.ntmps49
    go_wp2
    all_goals go_ret
    all_goals exact ⟨ret_bool (by first | (simp; done) | (simp; omega)), rfl⟩
theorem no_contact {op : Int} {ds : List Stil.Dev} (h : ¬ (1 ≤ op ∧ op ≤ 10)) : Stil.isContact op ds = false := by unfold Stil.isContact; rw [if_pos (by omega)]
set_option maxHeartbeats 400000 in
set_option maxRecDepth 100000 in
theorem i_isContact (op : Int) (v : Value) (ds : List Stil.Dev) (w : World) (hr : RowsAt w) (hat : DevsAt w v ds) (hfit : ∀ d ∈ ds, d.fits) (hl : ds.length ≤ 9223372036854775807) :
    Calls Tryd.prog 33 #[.agg #[.int .i64 op, v]] w fun e w' => e = .returned (.bool (Stil.isContact op ds)) ∧ Below w.heap.size w w' := by
  by_cases h : 1 ≤ op ∧ op ≤ 10
  · obtain ⟨q0, q1, q2⟩ := contact_ways op h.1 h.2
    have HF : Hid (∀ W, Below w.heap.size w W → Calls Tryd.prog 50 #[.agg #[.int .i64 op, v]] W fun e w' => e = .returned (.bool (Stil.isContact op ds)) ∧ Below W.heap.size W w') := by
      intro W hW
      rw [← q2]
      exact i_fits op _ _ v ds W (hr.below hW) q0 q1 (hat.below hW) hfit hl
    obtain ⟨a, cap, rfl, _⟩ := hat
    have hd : decide (1 ≤ op ∧ op ≤ 10) = true := by simpa using h
    clear q0 q1 q2 hr h
    go_enter Tryd.func33, Tryd.ntmps33
    go_wp2_with (first | (go_at_call 49; refine (i_isContactOp _ _).mono ?_; rw [hd]; rintro e w1 ⟨rfl, rfl⟩) | (go_at_call 50; refine (HF.out _ (below_alloc _ _)).mono ?_; rintro e w2 ⟨rfl, hb⟩))
    go_ret
    exact ⟨rfl, below_two hb⟩
  · have HN : Hid (Stil.isContact op ds = false) := no_contact h
    obtain ⟨a, cap, rfl, _⟩ := hat
    have hd : decide (1 ≤ op ∧ op ≤ 10) = false := by simpa using h
    clear hr h
    go_enter Tryd.func33, Tryd.ntmps33
    go_wp2_with (go_at_call 49; refine (i_isContactOp _ _).mono ?_; rw [hd]; rintro e w1 ⟨rfl, rfl⟩)
    go_ret
    exact ⟨ret_bool HN.out.symm, below_alloc _ _⟩
theorem no_coil {op : Int} {ds : List Stil.Dev} (h : ¬ (21 ≤ op ∧ op ≤ 37)) : Stil.isCoil op ds = false := by unfold Stil.isCoil; rw [if_pos (by omega)]
end Go.Proofs.YthhfnncehfkbfaaDoor
