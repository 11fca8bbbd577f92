/- I11: texts put together. -/
import Derived.Test.YtipdjmbgbehkaaaGreatDoorGN
import Derived.Test.YtipdjmbgbehkaaaGreatDoorGd
/- Contracts of the program's chapter 5: two lists, the same or not. -/
namespace Go.Proofs.YtipdjmbgbehkaaaGreatDoor
open Go.RowKit Go.Sort Go.BigFrame
open Classical in
set_option maxHeartbeats 1000000 in
set_option maxRecDepth 100000 in
theorem i_instSame (x y : Stil.Inst) (hx : x.fits) (hy : y.fits) : ∀ (av avq : Value) (w : World), DevsAt w av x.one.args → DevsAt w avq y.one.args → Calls Tryz.prog 34 #[.agg #[.int .i64 x.code, .int .i64 x.one.op, av], .agg #[.int .i64 y.code, .int .i64 y.one.op, avq]] w fun e w' => e = .returned (.bool (decide (x = y))) ∧ Below w.heap.size w w' := by
  intro av avq w hav havq
  obtain ⟨cx, ex⟩ := x
  obtain ⟨cy, ey⟩ := y
  simp only at hav havq
  have H1 : Hid (∀ W, Below w.heap.size w W → Calls Tryz.prog 68 #[.agg #[.int .i64 ex.op, av], .agg #[.int .i64 ey.op, avq]] W fun r w' => r = .returned (.bool (decide (ex = ey))) ∧ Below W.heap.size W w') := fun W hW => i_elemSame ex ey hx.2 hy.2 av avq W (hav.below hW) (havq.below hW)
  obtain ⟨p0, r0, rfl, _⟩ := hav
  obtain ⟨p1, r1, rfl, _⟩ := havq
  clear hx hy
  by_cases ho : cx = cy
  · subst ho
    have HD : Hid (decide ((⟨cx, ex⟩ : Stil.Inst) = ⟨cx, ey⟩) = decide (ex = ey)) := by show _ = _; simp
    go_enter Tryz.func34, Tryz.ntmps34
    go_wp2_with (go_at_call 68; refine (H1.out _ (by (repeat (first | with_reducible exact Below.refl _ _ | with_reducible assumption | with_reducible refine bl_set (by first | exact Nat.le_refl _ | (simp; done) | (simp; omega) | omega) ?_ _ | with_reducible refine bl_alloc ?_ _ | with_reducible refine bl_drewN ?_ _ | with_reducible refine bl_drew ?_ | with_reducible refine bl_grow ?_ _ _ | with_reducible refine bl_call ?_ (by assumption))))).mono ?_; rintro e w1 ⟨rfl, hb⟩)
    go_ret
    exact ⟨ret_bool (by rw [HD.out]), by (repeat (first | with_reducible exact Below.refl _ _ | with_reducible assumption | with_reducible refine bl_set (by first | exact Nat.le_refl _ | (simp; done) | (simp; omega) | omega) ?_ _ | with_reducible refine bl_alloc ?_ _ | with_reducible refine bl_drewN ?_ _ | with_reducible refine bl_drew ?_ | with_reducible refine bl_grow ?_ _ _ | with_reducible refine bl_call ?_ (by assumption)))⟩
  · have hob : (cx == cy) = false := by rw [beq_eq_false_iff_ne]; exact ho
    have HD : Hid (¬ (⟨cx, ex⟩ : Stil.Inst) = ⟨cy, ey⟩) := by show ¬ _; intro h; exact ho (Stil.Inst.mk.inj h).1
    clear ho
    go_enter Tryz.func34, Tryz.ntmps34
    go_wp2
    go_ret
    exact ⟨ret_bool (by rw [decide_eq_false HD.out]), by (repeat (first | with_reducible exact Below.refl _ _ | with_reducible assumption | with_reducible refine bl_set (by first | exact Nat.le_refl _ | (simp; done) | (simp; omega) | omega) ?_ _ | with_reducible refine bl_alloc ?_ _ | with_reducible refine bl_drewN ?_ _ | with_reducible refine bl_drew ?_ | with_reducible refine bl_grow ?_ _ _ | with_reducible refine bl_call ?_ (by assumption)))⟩
theorem cellAllocOld {W : World} {ob : Obj} {c p : Nat} (h : c < W.heap.size) : (W.alloc ob).cell? ⟨c, p, none⟩ = W.cell? ⟨c, p, none⟩ := (below_alloc W ob).cell (p := ⟨c, p, none⟩) h
open Classical in
set_option maxHeartbeats 1000000 in
set_option maxRecDepth 100000 in
theorem i_eqfInsts  (es fs : List Stil.Inst) (ih : ∀ x ∈ es, ∀ y ∈ fs, ∀ (av avq : Value) (w : World), DevsAt w av x.one.args → DevsAt w avq y.one.args → Calls Tryz.prog 34 #[.agg #[.int .i64 x.code, .int .i64 x.one.op, av], .agg #[.int .i64 y.code, .int .i64 y.one.op, avq] ] w fun e w' => e = .returned (.bool (decide (x = y))) ∧ Below w.heap.size w w') (v u : Value) (w : World) (hat : InstsAt w v es) (hau : InstsAt w u fs) (hl : es.length ≤ 1048576) (hm : fs.length ≤ 1048576) :
    Calls Tryz.prog 33 #[v, u, .func (.func 34) #[] #[]] w fun e w' => e = .returned (.bool (decide (es = fs))) ∧ Below w.heap.size w w' := by
  obtain ⟨a, cap, rfl, hc⟩ := hat
  obtain ⟨a2, cap2, rfl, hc2⟩ := hau
  by_cases hlen : es.length = fs.length
  · have HA : Hid (∀ i (h : i < es.length), ∃ b o, a = some ⟨b, o, none⟩ ∧ b < w.heap.size ∧ InstAt w b (o + i * 3) es[i]) := hc
    have HB : Hid (∀ i (h : i < fs.length), ∃ b o, a2 = some ⟨b, o, none⟩ ∧ b < w.heap.size ∧ InstAt w b (o + i * 3) fs[i]) := hc2
    have IH : Hid (∀ x ∈ es, ∀ y ∈ fs, ∀ (av avq : Value) (w : World), DevsAt w av x.one.args → DevsAt w avq y.one.args → Calls Tryz.prog 34 #[.agg #[.int .i64 x.code, .int .i64 x.one.op, av], .agg #[.int .i64 y.code, .int .i64 y.one.op, avq] ] w fun e w' => e = .returned (.bool (decide (x = y))) ∧ Below w.heap.size w w') := ih
    clear hc hc2 ih
    have hlb : ((es.length : Int) != (fs.length : Int)) = false := by rw [bne_eq_false_iff_eq]; omega
    have hl1 : es.length ≤ fs.length := by omega
    have hl2 : fs.length ≤ es.length := by omega
    clear hlen
    go_enter Tryz.func33, Tryz.ntmps33
    go_wp2
    go_loopw [17] (fun i wr => ∃ k : Nat, k ≤ es.length ∧ i = .int .i64 k ∧ es.take k = fs.take k ∧ Below w.heap.size w wr) (fun i _ => es.length - (intOf i).toNat)
    case atStart => exact ⟨0, by omega, rfl, by simp, Below.refl _ _⟩
    case round =>
      obtain ⟨k, hk, rfl, heq, hb⟩ := hrel
      have HE : Hid (es.take k = fs.take k) := heq
      clear heq
      by_cases hlt : k < es.length
      · have hlt2 : k < fs.length := by omega
        obtain ⟨b, o, rfl, hbl, hn⟩ := HA.out k hlt
        have hn2 := (hn.below hb hbl)
        obtain ⟨b2, o2, rfl, hbl2, hm1⟩ := HB.out k hlt2
        have hm2 := (hm1.below hb hbl2)
        obtain ⟨x0, x1, av, x2, hav⟩ := id hn2
        obtain ⟨y0, y1, avq, y2, havq⟩ := id hm2
        obtain ⟨bb, hbb⟩ : ∃ bb, decide (es[k] = fs[k]) = bb := ⟨_, rfl⟩
        have HI : Hid (∀ W, Below wr.heap.size wr W → Calls Tryz.prog 34 #[.agg #[.int .i64 es[k].code, .int .i64 es[k].one.op, av], .agg #[.int .i64 fs[k].code, .int .i64 fs[k].one.op, avq] ] W fun e w' => e = .returned (.bool (decide (es[k] = fs[k]))) ∧ Below W.heap.size W w') := fun W hW => IH.out es[k] (List.getElem_mem hlt) fs[k] (List.getElem_mem hlt2) _ _ W (hav.below hW) (havq.below hW)
        have HT : Hid (bb = true → es.take (k + 1) = fs.take (k + 1)) := by
          show _ → _
          intro h
          rw [h, decide_eq_true_iff] at hbb
          rw [List.take_succ_eq_append_getElem hlt, List.take_succ_eq_append_getElem hlt2, HE.out, hbb]
        have HF : Hid (bb = false → ¬ es = fs) := by
          show _ → _
          intro h he
          rw [h, decide_eq_false_iff_not] at hbb
          subst he
          exact hbb rfl
        rw [hbb] at HI
        obtain ⟨x, hx⟩ : ∃ x, x = es[k] := ⟨_, rfl⟩
        obtain ⟨y, hy⟩ : ∃ y, y = fs[k] := ⟨_, rfl⟩
        rw [← hx] at HI x0 x1
        rw [← hy] at HI y0 y1
        clear hx hy hbb hn hn2 hm1 hm2 HE
        · obtain ⟨p0, r0, rfl, _⟩ := hav
          obtain ⟨pq0, rq0, rfl, _⟩ := havq
          have hsz := hb.size
          have hw1 : b < wr.heap.size := Nat.lt_of_lt_of_le hbl hb.size
          have hw2 : b2 < wr.heap.size := Nat.lt_of_lt_of_le hbl2 hb.size
          have ya0 := fun ob => (cellAllocOld (ob := ob) hw2).trans y0
          have ya1 := fun ob => (cellAllocOld (ob := ob) hw2).trans y1
          have ya2 := fun ob => (cellAllocOld (ob := ob) hw2).trans y2
          cases bb
          · have HF2 : Hid (¬ es = fs) := HF.out rfl
            clear HF HT
            go_wp2_with (go_at_call 34; refine (HI.out _ (by (repeat (first | with_reducible exact Below.refl _ _ | with_reducible assumption | with_reducible refine bl_set (by first | exact Nat.le_refl _ | (simp; done) | (simp; omega) | omega) ?_ _ | with_reducible refine bl_alloc ?_ _ | with_reducible refine bl_drewN ?_ _ | with_reducible refine bl_drew ?_ | with_reducible refine bl_grow ?_ _ _ | with_reducible refine bl_call ?_ (by assumption))))).mono ?_; rintro e w2 ⟨rfl, hb2⟩)
            go_ret
            exact ⟨ret_bool (by rw [decide_eq_false HF2.out]), bl_call hb (by (repeat (first | with_reducible exact Below.refl _ _ | with_reducible assumption | with_reducible refine bl_set (by first | exact Nat.le_refl _ | (simp; done) | (simp; omega) | omega) ?_ _ | with_reducible refine bl_alloc ?_ _ | with_reducible refine bl_drewN ?_ _ | with_reducible refine bl_drew ?_ | with_reducible refine bl_grow ?_ _ _ | with_reducible refine bl_call ?_ (by assumption))))⟩
          · have HT2 : Hid (es.take (k + 1) = fs.take (k + 1)) := HT.out rfl
            clear HF HT
            go_wp2_with (go_at_call 34; refine (HI.out _ (by (repeat (first | with_reducible exact Below.refl _ _ | with_reducible assumption | with_reducible refine bl_set (by first | exact Nat.le_refl _ | (simp; done) | (simp; omega) | omega) ?_ _ | with_reducible refine bl_alloc ?_ _ | with_reducible refine bl_drewN ?_ _ | with_reducible refine bl_drew ?_ | with_reducible refine bl_grow ?_ _ _ | with_reducible refine bl_call ?_ (by assumption))))).mono ?_; rintro e w2 ⟨rfl, hb2⟩)
            exact ⟨⟨k + 1, by omega, by go_num, HT2.out, bl_call hb (by (repeat (first | with_reducible exact Below.refl _ _ | with_reducible assumption | with_reducible refine bl_set (by first | exact Nat.le_refl _ | (simp; done) | (simp; omega) | omega) ?_ _ | with_reducible refine bl_alloc ?_ _ | with_reducible refine bl_drewN ?_ _ | with_reducible refine bl_drew ?_ | with_reducible refine bl_grow ?_ _ _ | with_reducible refine bl_call ?_ (by assumption))))⟩, by simp [intOf]; omega⟩
      · go_wp2
        go_ret
        have e : es = fs := by
          have := HE.out
          rwa [List.take_of_length_le (by omega), List.take_of_length_le (by omega)] at this
        exact ⟨ret_bool (by rw [decide_eq_true e]), hb⟩
  · have hlb : ((es.length : Int) != (fs.length : Int)) = true := by rw [bne_iff_ne]; omega
    have HN : Hid (¬ es = fs) := by show ¬ _; intro h; exact hlen (by rw [h])
    clear hlen hc hc2 ih
    go_enter Tryz.func33, Tryz.ntmps33
    go_wp2
    go_ret
    exact ⟨ret_bool (by rw [decide_eq_false HN.out]), Below.refl _ _⟩
end Go.Proofs.YtipdjmbgbehkaaaGreatDoor
