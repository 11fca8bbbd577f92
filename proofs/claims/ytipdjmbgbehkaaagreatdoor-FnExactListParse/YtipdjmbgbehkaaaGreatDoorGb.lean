/- L7a, L7b, L7c: texts put together. -/
import Derived.Test.YtipdjmbgbehkaaaGreatDoorGL
import Derived.Test.YtipdjmbgbehkaaaGreatDoorGa
/- Contracts of the laws' helpers for lists of instructions: what they weigh. -/
namespace Go.Proofs.YtipdjmbgbehkaaaGreatDoor
open Go.RowKit Go.Sort Go.BigFrame
end Go.Proofs.YtipdjmbgbehkaaaGreatDoor
/- Contracts of the laws' helpers for lists of instructions: copies. -/
namespace Go.Proofs.YtipdjmbgbehkaaaGreatDoor
open Go.RowKit Go.Sort Go.BigFrame
theorem info_Inst : (Tryz.prog.info? 31).map (fun i => (i.zero, i.size, i.bytes)) = some (some (.agg #[.int .i64 0, .int .i64 0, .slice none 0 0]), 3, 40) := by kernel_rfl
end Go.Proofs.YtipdjmbgbehkaaaGreatDoor
/- Contracts of the laws' helpers for lists of instructions: are two the same. -/
namespace Go.Proofs.YtipdjmbgbehkaaaGreatDoor
open Go.RowKit Go.Sort Go.BigFrame
theorem l_eqElemI (x : Stil.Elem) (hx : x.fits) : ∀ (av avq : Value) (w : World), DevsAt w av x.args → DevsAt w avq x.args → Calls Tryz.prog 81 #[.agg #[.int .i64 x.op, av], .agg #[.int .i64 x.op, avq]] w fun e w' => e = .returned (.bool true) ∧ Below w.heap.size w w' := by
  intro av avq w hav havq
  refine (l_eqElem x.op x.op av avq x.args x.args w hav havq hx.2.1 hx.2.1).mono ?_
  rintro e w1 ⟨rfl, hb⟩
  exact ⟨ret_bool (by simp), hb⟩
set_option maxHeartbeats 1000000 in
set_option maxRecDepth 100000 in
theorem l_eqInst (x : Stil.Inst) (hx : x.fits) : ∀ (av avq : Value) (w : World), DevsAt w av x.one.args → DevsAt w avq x.one.args → Calls Tryz.prog 52 #[.agg #[.int .i64 x.code, .int .i64 x.one.op, av], .agg #[.int .i64 x.code, .int .i64 x.one.op, avq]] w fun e w' => e = .returned (.bool true) ∧ Below w.heap.size w w' := by
  intro av avq w hav havq
  have H1 : Hid (∀ W, Below w.heap.size w W → Calls Tryz.prog 81 #[.agg #[.int .i64 x.one.op, av], .agg #[.int .i64 x.one.op, avq]] W fun e' w' => e' = .returned (.bool true) ∧ Below W.heap.size W w') := fun W hW => l_eqElemI x.one hx.2 av avq W (hav.below hW) (havq.below hW)
  obtain ⟨p0, r0, rfl, _⟩ := hav
  obtain ⟨p2, r2, rfl, _⟩ := havq
  clear hx
  go_enter Tryz.func52, Tryz.ntmps52
  go_wp2_with (go_at_call 81; refine (H1.out _ (by (repeat (first | with_reducible exact Below.refl _ _ | with_reducible assumption | with_reducible refine bl_set (by first | exact Nat.le_refl _ | (simp; done) | (simp; omega) | omega) ?_ _ | with_reducible refine bl_alloc ?_ _ | with_reducible refine bl_drewN ?_ _ | with_reducible refine bl_drew ?_ | with_reducible refine bl_grow ?_ _ _ | with_reducible refine bl_call ?_ (by assumption))))).mono ?_; rintro e w1 ⟨rfl, hb⟩)
  go_ret
  exact ⟨rfl, by (repeat (first | with_reducible exact Below.refl _ _ | with_reducible assumption | with_reducible refine bl_set (by first | exact Nat.le_refl _ | (simp; done) | (simp; omega) | omega) ?_ _ | with_reducible refine bl_alloc ?_ _ | with_reducible refine bl_drewN ?_ _ | with_reducible refine bl_drew ?_ | with_reducible refine bl_grow ?_ _ _ | with_reducible refine bl_call ?_ (by assumption)))⟩
set_option maxHeartbeats 1000000 in
set_option maxRecDepth 100000 in
theorem l_eqInsts (es : List Stil.Inst) (ih : ∀ x ∈ es, ∀ (av avq : Value) (w : World), DevsAt w av x.one.args → DevsAt w avq x.one.args → Calls Tryz.prog 52 #[.agg #[.int .i64 x.code, .int .i64 x.one.op, av], .agg #[.int .i64 x.code, .int .i64 x.one.op, avq]] w fun e w' => e = .returned (.bool true) ∧ Below w.heap.size w w') (v u : Value) (w : World) (hat : InstsAt w v es) (hau : InstsAt w u es) (hl : es.length ≤ 1048576) :
    Calls Tryz.prog 21 #[v, u] w fun e w' => e = .returned (.bool true) ∧ Below w.heap.size w w' := by
  obtain ⟨a, cap, rfl, hc⟩ := hat
  obtain ⟨a2, cap2, rfl, hc2⟩ := hau
  have HA : Hid (∀ i (h : i < es.length), ∃ b o, a = some ⟨b, o, none⟩ ∧ b < w.heap.size ∧ InstAt w b (o + i * 3) es[i]) := hc
  have HB : Hid (∀ i (h : i < es.length), ∃ b o, a2 = some ⟨b, o, none⟩ ∧ b < w.heap.size ∧ InstAt w b (o + i * 3) es[i]) := hc2
  have IH : Hid (∀ x ∈ es, ∀ (av avq : Value) (w : World), DevsAt w av x.one.args → DevsAt w avq x.one.args → Calls Tryz.prog 52 #[.agg #[.int .i64 x.code, .int .i64 x.one.op, av], .agg #[.int .i64 x.code, .int .i64 x.one.op, avq]] w fun e w' => e = .returned (.bool true) ∧ Below w.heap.size w w') := ih
  clear hc hc2 ih
  go_enter Tryz.func21, Tryz.ntmps21
  go_wp2
  go_loopw [5] (fun i wr => ∃ k : Nat, k ≤ es.length ∧ i = .int .i64 k ∧ Below w.heap.size w wr) (fun i _ => es.length - (intOf i).toNat)
  case atStart => exact ⟨0, by omega, rfl, Below.refl _ _⟩
  case round =>
    obtain ⟨k, hk, rfl, hb⟩ := hrel
    by_cases hlt : k < es.length
    · obtain ⟨b, o, rfl, hbl, hn⟩ := HA.out k hlt
      have hn2 := (hn.below hb hbl)
      obtain ⟨b2, o2, rfl, hbl2, hm⟩ := HB.out k hlt
      have hm2 := (hm.below hb hbl2)
      obtain ⟨x0, x1, av, x2, hav⟩ := id hn2
      obtain ⟨y0, y1, avq, y2, havq⟩ := id hm2
      have HI : Hid (∀ W, Below wr.heap.size wr W → Calls Tryz.prog 52 #[.agg #[.int .i64 es[k].code, .int .i64 es[k].one.op, av], .agg #[.int .i64 es[k].code, .int .i64 es[k].one.op, avq]] W fun e w' => e = .returned (.bool true) ∧ Below W.heap.size W w') := fun W hW => IH.out es[k] (List.getElem_mem hlt) _ _ W (hav.below hW) (havq.below hW)
      obtain ⟨x, hx⟩ : ∃ x, x = es[k] := ⟨_, rfl⟩
      rw [← hx] at HI x0 x1 y0 y1
      obtain ⟨p0, r0, rfl, _⟩ := hav
      obtain ⟨pq0, rq0, rfl, _⟩ := havq
      clear hx hn hn2 hm hm2
      have rx0 := cell_regrown x0
      have ry0 := cell_regrown y0
      have rx1 := cell_regrown x1
      have ry1 := cell_regrown y1
      have rx2 := cell_regrown x2
      have ry2 := cell_regrown y2
      go_wp2
      refine wp_region_quiet_below (by kernel_rfl) (by kernel_rfl) ?_
      repeat (go_big_quiet_step ((exact Calls.regrown_of (HI.out _ (by (repeat (first | exact Below.refl _ _ | assumption | refine bl_alloc ?_ _ | refine bl_drewN ?_ _ | refine bl_drew ?_ | refine bl_grow ?_ _ _ | refine bl_set (Nat.le_refl _) ?_ _ | refine bl_call ?_ (by assumption))))))))
      refine wpQuiet_nil ?_
      intro _ hw'
      obtain ⟨⟨dq, osq⟩, hw''⟩ := hw'
      subst hw''
      go_wp2
      exact ⟨⟨k + 1, by omega, by go_num, bl_grow hb _ _⟩, by simp [intOf]; omega⟩
    · go_wp2
      go_ret
      exact ⟨rfl, hb⟩
end Go.Proofs.YtipdjmbgbehkaaaGreatDoor
