/- T8, D30: texts put together. -/
import Derived.Test.YtipdjmbgbehkaaaGreatDoorG4
import Derived.Test.YtipdjmbgbehkaaaGreatDoorGd
import Derived.Test.YtipdjmbgbehkaaaGreatDoorGg
import Derived.Test.YtipdjmbgbehkaaaGreatDoorGH
/- Lists of instructions in memory that is told: rows, what is appended, copies. -/
namespace Go.Proofs.YtipdjmbgbehkaaaGreatDoor
open Go.RowKit Go.Sort Go.BigFrame
theorem info_inst : (Tryz.prog.info? 31).map (fun i => (i.zero, i.size, i.bytes)) = some (some (.agg #[.int .i64 0, .int .i64 0, .slice none 0 0]), 3, 40) := by kernel_rfl
def InstIn (P : Nat → Prop) (w : World) (b o : Nat) (e : Stil.Inst) : Prop := w.cell? ⟨b, o, none⟩ = some (.int .i64 e.code) ∧ w.cell? ⟨b, o + 1, none⟩ = some (.int .i64 e.one.op) ∧ ∃ av, w.cell? ⟨b, o + 2, none⟩ = some av ∧ DevsIn P w av e.one.args
def InstsIn (P : Nat → Prop) (w : World) (v : Value) (es : List Stil.Inst) : Prop := ∃ a cap, v = .slice a es.length cap ∧ CapOk a es.length cap ∧ ∀ i (h : i < es.length), ∃ b o, a = some ⟨b, o, none⟩ ∧ P b ∧ b < w.heap.size ∧ InstIn P w b (o + i * 3) es[i]
theorem InstIn.keep {P : Nat → Prop} {w w' : World} {b o : Nat} {e : Stil.Inst} (h : InstIn P w b o e) (hk : KeepsIn P w w') (hl : P b) (hb : b < w.heap.size) : InstIn P w' b o e := by
  obtain ⟨h0, h1, av, h2, h3⟩ := h
  exact ⟨by rw [hk.2 _ _ hl hb]; exact h0, by rw [hk.2 _ _ hl hb]; exact h1, av, by rw [hk.2 _ _ hl hb]; exact h2, h3.keep hk⟩
theorem InstsIn.keep {P : Nat → Prop} {w w' : World} {v : Value} {es : List Stil.Inst} (h : InstsIn P w v es) (hk : KeepsIn P w w') : InstsIn P w' v es := by
  obtain ⟨a, cap, hv, hq, hc⟩ := h
  refine ⟨a, cap, hv, hq, fun i hi => ?_⟩
  obtain ⟨b, o, ha, hl, hb, hd⟩ := hc i hi
  exact ⟨b, o, ha, hl, Nat.lt_of_lt_of_le hb hk.1, hd.keep hk hl hb⟩
theorem InstsIn.mono {P Q : Nat → Prop} {w : World} {v : Value} {es : List Stil.Inst} (h : InstsIn Q w v es) (hl : ∀ b, b < w.heap.size → Q b → P b) : InstsIn P w v es := by
  obtain ⟨a, cap, hv, hq, hc⟩ := h
  refine ⟨a, cap, hv, hq, fun i hi => ?_⟩
  obtain ⟨b, o, ha, hl', hb, h0, h1, av, h2, h3⟩ := hc i hi
  exact ⟨b, o, ha, hl _ hb hl', hb, h0, h1, av, h2, h3.mono hl⟩
theorem InstsIn.at {P : Nat → Prop} {w : World} {v : Value} {es : List Stil.Inst} (h : InstsIn P w v es) : InstsAt w v es := by
  obtain ⟨a, cap, hv, hq, hc⟩ := h
  refine ⟨a, cap, hv, fun i hi => ?_⟩
  obtain ⟨b, o, ha, hl', hb, h0, h1, av, h2, h3⟩ := hc i hi
  exact ⟨b, o, ha, hb, h0, h1, av, h2, h3.at⟩
def InstC (P : Nat → Prop) (w : World) (cs : List Value) (e : Stil.Inst) : Prop := ∃ av, cs = [.int .i64 e.code, .int .i64 e.one.op, av] ∧ DevsIn P w av e.one.args
theorem InstC.keep {P : Nat → Prop} {w w' : World} {cs : List Value} {e : Stil.Inst} (h : InstC P w cs e) (hk : KeepsIn P w w') : InstC P w' cs e := by
  obtain ⟨av, h1, h2⟩ := h
  exact ⟨av, h1, h2.keep hk⟩
theorem InstC.mono {P Q : Nat → Prop} {w : World} {cs : List Value} {e : Stil.Inst} (h : InstC Q w cs e) (hl : ∀ b, b < w.heap.size → Q b → P b) : InstC P w cs e := by
  obtain ⟨av, h1, h2⟩ := h
  exact ⟨av, h1, h2.mono hl⟩
theorem instsIn_of_row {P : Nat → Prop} {w : World} {base : Nat} {v : Value} {xs : List Value} {es : List Stil.Inst} (h : w.ownsRow base 31 3 v es.length xs) (hr : RowOf 3 (InstC P w) xs es) (hp : ∀ b, v.ownBlock = some b → P b) : InstsIn P w v es := by
  obtain ⟨a, cap, hv, hq, ha, hn⟩ := own_open h
  refine ⟨a, cap, hv, hq, fun i hi => ?_⟩
  obtain ⟨⟨b, o, sp⟩, hab⟩ : ∃ ad, a = some ad := by
    cases a with
    | none => exact absurd rfl (hn (by omega))
    | some ad => exact ⟨ad, rfl⟩
  obtain ⟨rfl, rfl, hob, h1, h2, h3⟩ := ha b o sp hab
  obtain ⟨av, e1, e2⟩ := hr.2 i hi
  have hx := row_at hr hi e1
  refine ⟨b, 0, hab, hp b hob, h2, ?_, ?_, av, ?_, e2⟩
  · rw [Nat.zero_add]; exact h3 _ _ (hx 0 _ rfl)
  · rw [Nat.zero_add]; exact h3 _ _ (hx 1 _ rfl)
  · rw [Nat.zero_add]; exact h3 _ _ (hx 2 _ rfl)
theorem row_of_insts {P : Nat → Prop} {w : World} {v : Value} {es : List Stil.Inst} (h : InstsIn P w v es) : RowIn 3 (InstC P w) w v es := by
  obtain ⟨a, cap, rfl, hq, hc⟩ := h
  refine rowIn_mk (by decide) hq fun i hi => ?_
  obtain ⟨b, o, ha, _, _, h0, h1, av, h2, h3⟩ := hc i hi
  refine ⟨b, o, ha, [.int .i64 es[i].code, .int .i64 es[i].one.op, av], rfl, ⟨av, rfl, h3⟩, fun j u hj => ?_⟩
  match j, hj with
  | 0, hj => obtain rfl := Option.some.inj hj; exact h0
  | 1, hj => obtain rfl := Option.some.inj hj; exact h1
  | 2, hj => obtain rfl := Option.some.inj hj; exact h2
theorem insts_append {B : Nat} {v v' : Value} {w w' : World} {xs cs : List Value} {es : List Stil.Inst} {e : Stil.Inst} (h : RowOf 3 (InstC (Off B v) w) xs es) (hc : InstC (Off B v) w cs e) (hl : cs.length = 3) (hg : w.grownBy w' v.ownBlock) (ha : v'.ownBlock = v.ownBlock ∨ v'.ownBlock = some w.heap.size) : RowOf 3 (InstC (Off B v') w') (xs ++ cs) (es ++ [e]) := by
  have hk : ∀ cs e, InstC (Off B v) w cs e → InstC (Off B v') w' cs e := fun cs e h => by
    have h1 : InstC (fun b => Off B v b ∧ Off B v' b) w cs e := h.mono fun b hb hp => ⟨hp, off_mono ha b hb hp⟩
    exact (h1.keep (keep_mono (off_keep (B := B) hg) fun b _ hp => hp.1)).mono fun b _ hp => hp.2
  exact (h.imp fun cs e _ => hk cs e).append (RowOf.one hl (hk _ _ hc))
/-- An instruction of small numbers. -/
def ITame (i : Stil.Inst) : Prop := (-1000000 ≤ i.code ∧ i.code ≤ 1000000) ∧ ETame i.one
set_option maxRecDepth 100000 in
/-- A list of instructions is copied. -/
theorem step_copy_insts {ops : Array Oper} {o : Oper} {a : Act} {w : World} {K : Act → World → Prop} {Q : Exit → Act → World → Prop} {E : Prop}
    (hg : o.guard = none) (s x : Operand) (hop : o.op = .call { callee := .builtin .append, args := #[s, x], argTypes := #[23, 23] })
    (R : Nat → Prop) (W : World) (ns : List Stil.Inst) (kv : Value) (hs : a.eval s = .slice (some ⟨W.heap.size, 0, none⟩) 0 0) (hx : a.eval x = kv) (hw : w = W.alloc (.cells #[] 31))
    (hk : InstsIn R W kv ns) (hl : ns.length ≤ 100000)
    (hK : ∀ bb c w' xs, w'.ownsRow W.heap.size 31 3 (.slice (some ⟨bb, 0, none⟩) ns.length c) ns.length xs → RowOf 3 (InstC (fun b => R b ∧ b < W.heap.size) w') xs ns → W.heap.size ≤ bb → bb < w'.heap.size → w.grownBy w' (some W.heap.size) → K (a.put o.dst (.slice (some ⟨bb, 0, none⟩) ns.length c)) w') :
    if Region.wanted o (yielded ops a.tmps) = true then Oper.wp Tryz.prog o a w K Q else E := by
  obtain ⟨i0, hi, hz0, hz1, hz2⟩ := info_parts info_inst
  have hk2 : InstsIn (fun b => R b ∧ b < W.heap.size) w kv ns := by
    rw [hw]
    exact (hk.mono fun b hb h => ⟨h, hb⟩).keep (KeepsIn.of_below (below_alloc _ _))
  have hsz : w.heap.size = W.heap.size + 1 := by rw [hw]; simp
  have ho : w.ownsRow W.heap.size 31 3 (.slice (some ⟨W.heap.size, 0, none⟩) 0 0) 0 [] := by
    rw [hw]
    have := World.ownsRow_lit (base := W.heap.size) (e := 31) (size := 3) W #[] 0 (by omega) (by unfold maxLen; omega) rfl
    simpa using this
  obtain ⟨ad, cap, hv, hq, xs, hrow, hcell⟩ := row_of_insts hk2
  subst hv
  by_cases hd : ns.length = 0
  · have hn : ns = [] := List.length_eq_zero_iff.1 hd
    subst hn
    have hwt : Region.wanted o (yielded ops a.tmps) = true := by simp [Region.wanted, hg]
    rw [if_pos hwt]
    have hx0 : xs = [] := by have := hrow.1; simpa using this
    subst hx0
    have hk3 := hK W.heap.size 0 w [] ho (RowOf.nil _ _) (Nat.le_refl _) (by omega) (grown_refl _ _)
    simp only [List.length_nil] at hk3 hx
    unfold Oper.wp execOp
    cases ad
    · have e : Sem.run Tryz.prog (Builtin.append_ #[23, 23] o.type #[.slice (some ⟨W.heap.size, 0, none⟩) 0 0, .slice none 0 cap]) w = .ok (.slice (some ⟨W.heap.size, 0, none⟩) 0 0) w := by simp [Builtin.append_, go_sem]
      simp only [hop, resolve, invoke, builtin, Sem.run_bind, Sem.run_pure, Result.andThen_ok, List.map_toArray, List.map_cons, List.map_nil, hs, hx, e]
      exact hk3
    · rename_i t1
      have e : Sem.run Tryz.prog (Builtin.append_ #[23, 23] o.type #[.slice (some ⟨W.heap.size, 0, none⟩) 0 0, .slice (some t1) 0 cap]) w = .ok (.slice (some ⟨W.heap.size, 0, none⟩) 0 0) w := by simp [Builtin.append_, go_sem]
      simp only [hop, resolve, invoke, builtin, Sem.run_bind, Sem.run_pure, Result.andThen_ok, List.map_toArray, List.map_cons, List.map_nil, hs, hx, e]
      exact hk3
  · obtain ⟨p, rfl⟩ : ∃ p, ad = some p := by
      cases ad with
      | none => exact absurd (hq.2 rfl) (by have := hq.1; omega)
      | some p => exact ⟨p, rfl⟩
    refine step_append_at hg s x _ hop W.heap.size 31 i0 _ 3 40 Tryz.underlying23 hi hz0 hz1 hz2 rfl (by decide) _ _ [] hs ho _ _ _ xs hx hrow.1 (hcell _ rfl) ?_ (by unfold maxLen; omega) (by omega) (by omega) ?_
    · intro u hu
      obtain ⟨j, hj⟩ := List.getElem?_of_mem hu
      have hjl : j < ns.length * 3 := by rw [← hrow.1]; exact (List.getElem?_eq_some_iff.1 hj).1
      obtain ⟨av, he, hav⟩ := hrow.2 (j / 3) (by omega)
      have hm : xs[j]? = ((xs.drop (j / 3 * 3)).take 3)[j % 3]? := by
        rw [List.getElem?_take, if_pos (by omega), List.getElem?_drop, Nat.mul_comm, Nat.div_add_mod]
      rw [hm, he] at hj
      obtain ⟨p1, c1, rfl, _⟩ := hav
      have : u ∈ [Value.int .i64 ns[j / 3].code, .int .i64 ns[j / 3].one.op, .slice p1 ns[j / 3].one.args.length c1] := List.mem_of_getElem? hj
      simp only [List.mem_cons, List.not_mem_nil, or_false] at this
      rcases this with rfl | rfl | rfl <;> rfl
    · intro v' w' h1 h2 h3
      simp only [Nat.zero_add, List.nil_append] at h1
      obtain ⟨bb, c, rfl, hb1, hb2, _, _⟩ := ownsRow_cells h1 (by omega)
      have h4 : w.grownBy w' (some W.heap.size) := h2
      exact hK bb c w' xs h1 (hrow.imp fun _ _ _ h => h.keep (KeepsIn.of_grown h4 (fun b hb e => by simp only [Option.some.injEq] at e; exact absurd hb.2 (by omega)))) hb1 hb2 h4
theorem wpList_copy_insts {ops : Array Oper} {rest : List Oper} {o : Oper} {a : Act} {w : World} {Q : Exit → Act → World → Prop}
    (hg : o.guard = none) (s x : Operand) (hop : o.op = .call { callee := .builtin .append, args := #[s, x], argTypes := #[23, 23] })
    (R : Nat → Prop) (W : World) (ns : List Stil.Inst) (kv : Value) (hs : a.eval s = .slice (some ⟨W.heap.size, 0, none⟩) 0 0) (hx : a.eval x = kv) (hw : w = W.alloc (.cells #[] 31))
    (hk : InstsIn R W kv ns) (hl : ns.length ≤ 100000)
    (h : ∀ bb c w' xs, w'.ownsRow W.heap.size 31 3 (.slice (some ⟨bb, 0, none⟩) ns.length c) ns.length xs → RowOf 3 (InstC (fun b => R b ∧ b < W.heap.size) w') xs ns → W.heap.size ≤ bb → bb < w'.heap.size → w.grownBy w' (some W.heap.size) → wpList Tryz.prog ops Q rest (a.put o.dst (.slice (some ⟨bb, 0, none⟩) ns.length c)) w') :
    wpList Tryz.prog ops Q (o :: rest) a w := by
  refine wpList_plain hg fun K hK => ?_
  have hw' : Region.wanted o (yielded #[] a.tmps) = true := by simp [Region.wanted, hg]
  have := step_copy_insts (ops := #[]) (K := K) (Q := Q) (E := True) hg s x hop R W ns kv hs hx hw hk hl (fun bb c w' xs h1 h2 h3 h4 h5 => hK _ _ (h bb c w' xs h1 h2 h3 h4 h5))
  rwa [if_pos hw'] at this
end Go.Proofs.YtipdjmbgbehkaaaGreatDoor
/- Contracts of the specification's draws: an instruction. -/
namespace Go.Proofs.YtipdjmbgbehkaaaGreatDoor
open Go.RowKit Go.Sort Go.BigFrame
/-- What a draw of an instruction leaves: one of small numbers, in new memory. -/
def InstOut (e : Ending) (w w' : World) (g P : Nat) : Prop := ∃ (i : Stil.Inst) (av : Value), e = .returned (.agg #[.int .i64 i.code, .int .i64 i.one.op, av]) ∧ DevsIn (fun b => w.heap.size ≤ b) w' av i.one.args ∧ ITame i ∧ i.one.args.length ≤ 3 ∧ RdAt w' g P ∧ w.grownBy w' (some g)
set_option maxHeartbeats 2000000 in
set_option maxRecDepth 100000 in
theorem s_l5Inst (g P : Nat) (w : World) (hr : RdAt w g P) (hP : P ≤ 90000000) :
    Calls Tryz.prog 47 #[.pointer (some ⟨g, 0, none⟩)] w fun e w' => InstOut e w w' g (P + 100) := by
  have hg := rd_lt hr
  go_enter Tryz.func47, Tryz.ntmps47
  go_upto_region 2 with (go_at_call_of 37 (18 : Nat); refine (s_num g _ _ _ [1, 1, 1, 2, 2, 2, 3, 3, 4, 5, 6, 7, 8, 9, 10, 10, 10, 11] _ (by (repeat (first | with_reducible assumption | with_reducible apply rd_alloc | with_reducible apply rd_drewN | with_reducible apply rd_drew | (with_reducible apply rd_set'; first | omega | (simp; omega))))) (by omega) (ints_of_from (by simp [IntsFrom, go_sem])) (by simp) (by first | (simp; omega) | omega) (by simp) (by simp)).mono ?_; rintro e wa ⟨x, rfl, hx, hrda, hga⟩; simp only [List.mem_cons, List.not_mem_nil, or_false] at hx; have hz0 : w.heap.size < wa.heap.size := Nat.lt_of_lt_of_le (by first | with_reducible assumption | (simp; done) | (simp; omega)) hga.size; obtain ⟨q0, p0, q1, p1, q2, p2⟩ : wa.cell? ⟨w.heap.size, 0, none⟩ = some (.int .i64 0) ∧ wa.frozen? ⟨w.heap.size, 0, none⟩ = false ∧ wa.cell? ⟨w.heap.size, 1, none⟩ = some (.int .i64 0) ∧ wa.frozen? ⟨w.heap.size, 1, none⟩ = false ∧ wa.cell? ⟨w.heap.size, 2, none⟩ = some (.slice none 0 0) ∧ wa.frozen? ⟨w.heap.size, 2, none⟩ = false := (by refine ⟨?_, ?_, ?_, ?_, ?_, ?_⟩ <;> first | (refine (grown_cell hga (by first | with_reducible assumption | (simp; done) | (simp; omega)) (by omega)).trans ?_; (repeat (first | with_reducible assumption | with_reducible refine cell_drew.trans ?_ | with_reducible refine (cell_set_other (by omega)).trans ?_ | with_reducible refine (cell_set_off (by omega)).trans ?_ | with_reducible refine (cell_alloc_old (by first | with_reducible assumption | (simp; done) | (simp; omega))).trans ?_ | with_reducible apply cell_set_at | (simp [go_sem]; done)))) | (refine (grown_frozen hga (by first | with_reducible assumption | (simp; done) | (simp; omega)) (by omega)).trans ?_; (repeat (first | with_reducible assumption | with_reducible refine frozen_drew.trans ?_ | with_reducible refine frozen_set.trans ?_ | with_reducible refine (frozen_alloc_old (by first | with_reducible assumption | (simp; done) | (simp; omega))).trans ?_ | (simp [go_sem]; done))))))
  have hzw : w.heap.size < wa.heap.size := by have := hga.size; simp at this; omega
  have hga2 : w.grownBy wa (some g) := by (repeat (first | with_reducible exact grown_refl _ _ | with_reducible assumption | with_reducible refine gr_set (by first | exact Nat.le_refl _ | (simp; done) | (simp; omega) | omega) ?_ _ | with_reducible refine gr_alloc ?_ _ | with_reducible refine gr_drewN ?_ _ | with_reducible refine gr_drew ?_ | with_reducible refine gr_call ?_ (by with_reducible assumption)))
  have hx1 : 1 ≤ x ∧ x ≤ 11 := by omega
  clear hx hga hr
  by_cases hc : x ≤ 3
  · go_wp2_with (go_at_call 75; refine (s_l2Contact g _ _ (by (repeat (first | with_reducible assumption | with_reducible apply rd_alloc | with_reducible apply rd_drewN | with_reducible apply rd_drew | (with_reducible apply rd_set'; first | omega | (simp; omega))))) (by omega)).mono ?_; rintro e wb ⟨op, av, ds, rfl, hop, hav, hsd, hdl, hrdb, hgb⟩; have HAV : Hid (DevsIn (fun b => wa.heap.size - 1 < b) wb av ds) := devs_of_el hav; obtain ⟨b1, c1, rfl, -⟩ := hav; have hz0 : w.heap.size < wb.heap.size := Nat.lt_of_lt_of_le (by first | with_reducible assumption | (simp; done) | (simp; omega)) hgb.size; obtain ⟨q0, p0, q1, p1, q2, p2⟩ : wb.cell? ⟨w.heap.size, 0, none⟩ = some (.int .i64 0) ∧ wb.frozen? ⟨w.heap.size, 0, none⟩ = false ∧ wb.cell? ⟨w.heap.size, 1, none⟩ = some (.int .i64 0) ∧ wb.frozen? ⟨w.heap.size, 1, none⟩ = false ∧ wb.cell? ⟨w.heap.size, 2, none⟩ = some (.slice none 0 0) ∧ wb.frozen? ⟨w.heap.size, 2, none⟩ = false := (by refine ⟨?_, ?_, ?_, ?_, ?_, ?_⟩ <;> first | (refine (grown_cell hgb (by first | with_reducible assumption | (simp; done) | (simp; omega)) (by omega)).trans ?_; (repeat (first | with_reducible assumption | with_reducible refine cell_drew.trans ?_ | with_reducible refine (cell_set_other (by omega)).trans ?_ | with_reducible refine (cell_set_off (by omega)).trans ?_ | with_reducible refine (cell_alloc_old (by first | with_reducible assumption | (simp; done) | (simp; omega))).trans ?_ | with_reducible apply cell_set_at | (simp [go_sem]; done)))) | (refine (grown_frozen hgb (by first | with_reducible assumption | (simp; done) | (simp; omega)) (by omega)).trans ?_; (repeat (first | with_reducible assumption | with_reducible refine frozen_drew.trans ?_ | with_reducible refine frozen_set.trans ?_ | with_reducible refine (frozen_alloc_old (by first | with_reducible assumption | (simp; done) | (simp; omega))).trans ?_ | (simp [go_sem]; done))))))
    have hK : ∀ W : World, KeepsIn (fun b => wa.heap.size - 1 < b) W (((W.setCell ⟨w.heap.size, 0, none⟩ (.int .i64 x)).setCell ⟨w.heap.size, 1, none⟩ (.int .i64 op)).setCell ⟨w.heap.size, 2, none⟩ (.slice b1 ds.length c1)) := fun W => ((KeepsIn.set (by omega) _).trans (KeepsIn.set (by omega) _)).trans (KeepsIn.set (by omega) _)
    refine bodyPost_ret (v := .agg #[.int .i64 x, .int .i64 op, .slice b1 ds.length c1]) (by simp [results, Tryz.results47, go_sem, q0, q1, q2]) rfl ?_
    exact ⟨⟨x, ⟨op, ds⟩⟩, _, rfl, (HAV.out.keep (hK _)).mono (fun b _ hb => (by omega)), ⟨by simp only; omega, ⟨hop, hsd, by simp only; omega⟩⟩, hdl, by (repeat (first | with_reducible assumption | with_reducible refine rd_set ?_ (by first | omega | (simp; omega)) _ | with_reducible refine rd_alloc ?_ _ | with_reducible refine rd_drewN ?_ _ | with_reducible refine rd_drew ?_ | exact rd_mono (by with_reducible assumption) (by omega))), by (repeat (first | with_reducible exact grown_refl _ _ | with_reducible assumption | with_reducible refine gr_set (by first | exact Nat.le_refl _ | (simp; done) | (simp; omega) | omega) ?_ _ | with_reducible refine gr_alloc ?_ _ | with_reducible refine gr_drewN ?_ _ | with_reducible refine gr_drew ?_ | with_reducible refine gr_call ?_ (by with_reducible assumption)))⟩
  · by_cases hd : x = 10
    · subst hd
      go_wp2_with (go_at_call 76; refine (s_l2Coil g _ _ (by (repeat (first | with_reducible assumption | with_reducible apply rd_alloc | with_reducible apply rd_drewN | with_reducible apply rd_drew | (with_reducible apply rd_set'; first | omega | (simp; omega))))) (by omega)).mono ?_; rintro e wb ⟨op, av, ds, rfl, hop, hav, hsd, hdl, hrdb, hgb⟩; have HAV : Hid (DevsIn (fun b => wa.heap.size - 1 < b) wb av ds) := devs_of_el hav; obtain ⟨b1, c1, rfl, -⟩ := hav; have hz0 : w.heap.size < wb.heap.size := Nat.lt_of_lt_of_le (by first | with_reducible assumption | (simp; done) | (simp; omega)) hgb.size; obtain ⟨q0, p0, q1, p1, q2, p2⟩ : wb.cell? ⟨w.heap.size, 0, none⟩ = some (.int .i64 0) ∧ wb.frozen? ⟨w.heap.size, 0, none⟩ = false ∧ wb.cell? ⟨w.heap.size, 1, none⟩ = some (.int .i64 0) ∧ wb.frozen? ⟨w.heap.size, 1, none⟩ = false ∧ wb.cell? ⟨w.heap.size, 2, none⟩ = some (.slice none 0 0) ∧ wb.frozen? ⟨w.heap.size, 2, none⟩ = false := (by refine ⟨?_, ?_, ?_, ?_, ?_, ?_⟩ <;> first | (refine (grown_cell hgb (by first | with_reducible assumption | (simp; done) | (simp; omega)) (by omega)).trans ?_; (repeat (first | with_reducible assumption | with_reducible refine cell_drew.trans ?_ | with_reducible refine (cell_set_other (by omega)).trans ?_ | with_reducible refine (cell_set_off (by omega)).trans ?_ | with_reducible refine (cell_alloc_old (by first | with_reducible assumption | (simp; done) | (simp; omega))).trans ?_ | with_reducible apply cell_set_at | (simp [go_sem]; done)))) | (refine (grown_frozen hgb (by first | with_reducible assumption | (simp; done) | (simp; omega)) (by omega)).trans ?_; (repeat (first | with_reducible assumption | with_reducible refine frozen_drew.trans ?_ | with_reducible refine frozen_set.trans ?_ | with_reducible refine (frozen_alloc_old (by first | with_reducible assumption | (simp; done) | (simp; omega))).trans ?_ | (simp [go_sem]; done))))))
      have hK : ∀ W : World, KeepsIn (fun b => wa.heap.size - 1 < b) W (((W.setCell ⟨w.heap.size, 0, none⟩ (.int .i64 10)).setCell ⟨w.heap.size, 1, none⟩ (.int .i64 op)).setCell ⟨w.heap.size, 2, none⟩ (.slice b1 ds.length c1)) := fun W => ((KeepsIn.set (by omega) _).trans (KeepsIn.set (by omega) _)).trans (KeepsIn.set (by omega) _)
      refine bodyPost_ret (v := .agg #[.int .i64 10, .int .i64 op, .slice b1 ds.length c1]) (by simp [results, Tryz.results47, go_sem, q0, q1, q2]) rfl ?_
      exact ⟨⟨10, ⟨op, ds⟩⟩, _, rfl, (HAV.out.keep (hK _)).mono (fun b _ hb => (by omega)), ⟨by simp only; omega, ⟨hop, hsd, by simp only; omega⟩⟩, hdl, by (repeat (first | with_reducible assumption | with_reducible refine rd_set ?_ (by first | omega | (simp; omega)) _ | with_reducible refine rd_alloc ?_ _ | with_reducible refine rd_drewN ?_ _ | with_reducible refine rd_drew ?_ | exact rd_mono (by with_reducible assumption) (by omega))), by (repeat (first | with_reducible exact grown_refl _ _ | with_reducible assumption | with_reducible refine gr_set (by first | exact Nat.le_refl _ | (simp; done) | (simp; omega) | omega) ?_ _ | with_reducible refine gr_alloc ?_ _ | with_reducible refine gr_drewN ?_ _ | with_reducible refine gr_drew ?_ | with_reducible refine gr_call ?_ (by with_reducible assumption)))⟩
    · go_wp2
      refine bodyPost_ret (v := .agg #[.int .i64 x, .int .i64 0, .slice none 0 0]) (by simp [results, Tryz.results47, go_sem, q0, q1, q2]) rfl ?_
      exact ⟨⟨x, ⟨0, []⟩⟩, _, rfl, devs_nil _ _, ⟨by simp only; omega, ⟨by simp, fun _ h => (by cases h), by simp⟩⟩, by simp, by (repeat (first | with_reducible assumption | with_reducible refine rd_set ?_ (by first | omega | (simp; omega)) _ | with_reducible refine rd_alloc ?_ _ | with_reducible refine rd_drewN ?_ _ | with_reducible refine rd_drew ?_ | exact rd_mono (by with_reducible assumption) (by omega))), by (repeat (first | with_reducible exact grown_refl _ _ | with_reducible assumption | with_reducible refine gr_set (by first | exact Nat.le_refl _ | (simp; done) | (simp; omega) | omega) ?_ _ | with_reducible refine gr_alloc ?_ _ | with_reducible refine gr_drewN ?_ _ | with_reducible refine gr_drew ?_ | with_reducible refine gr_call ?_ (by with_reducible assumption)))⟩
end Go.Proofs.YtipdjmbgbehkaaaGreatDoor
