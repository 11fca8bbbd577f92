/- L3a, L3b, L3b1, L3b2, L3b4, L3b3, L3b5, L3a1, L3a2, L3a3, L3a4, L3a5, L3c1, L3c2, L3c3, L3c4, LWT: texts put together. -/
import Derived.Test.YtpaljcoojkbhnaaGreatDoorGU
set_option maxHeartbeats 4000000
set_option maxRecDepth 100000
/- Contracts of the laws' helpers for ladders: what they weigh. -/
namespace Go.Proofs.YtpaljcoojkbhnaaGreatDoor
open Go.RowKit Go.Sort Go.BigFrame
theorem szL_neg {left : Int} {n : Nat} (h : left - n < 0) : szL left n = -1 := by unfold szL; rw [if_pos h]
theorem szL_nn {left : Int} {n : Nat} (h : ¬ left - n < 0) : szL left n = left - n := by unfold szL; rw [if_neg h]
theorem l_szElem' (x : Stil.Elem) (hx : x.wf) : ∀ (av : Value) (q : Int) (w : World), DevsAt w av x.args → 0 ≤ q → q ≤ 1048576 → Calls Tryz.prog 45 #[.agg #[.int .i64 x.op, av], .int .i64 q] w fun e w' => e = .returned (.int .i64 (szL q (Stil.elemSz x))) ∧ Below w.heap.size w w' := by
 intro av q w hav h1 h2
 obtain ⟨a, cap, rfl, _⟩ := hav
 exact l_szElem x.op a _ cap q w h1 h2 hx.2.1
theorem info_Elem : (Tryz.prog.info? 26).map (fun i => (i.zero, i.size, i.bytes)) = some (some (.agg #[.int .i64 0, .slice none 0 0]), 2, 32) := by kernel_rfl
theorem info_Net : (Tryz.prog.info? 29).map (fun i => (i.zero, i.size, i.bytes)) = some (some (.agg #[.int .i64 0, .int .i64 0, .slice none 0 0, .slice none 0 0]), 4, 64) := by kernel_rfl
theorem info_Arm : (Tryz.prog.info? 80).map (fun i => (i.zero, i.size, i.bytes)) = some (some (.agg #[.int .i64 0, .int .i64 0, .slice none 0 0, .slice none 0 0, .slice none 0 0, .slice none 0 0]), 6, 112) := by kernel_rfl
theorem l_eqElems (es : List Stil.Elem) (ih : ∀ x ∈ es, ∀ (av avq : Value) (w : World), DevsAt w av x.args → DevsAt w avq x.args → Calls Tryz.prog 27 #[.agg #[.int .i64 x.op, av], .agg #[.int .i64 x.op, avq]] w fun e w' => e = .returned (.bool true) ∧ Below w.heap.size w w') (v u : Value) (w : World) (hat : ElemsAt w v es) (hau : ElemsAt w u es) (hl : es.length ≤ 1048576) :
  Calls Tryz.prog 72 #[v, u] w fun e w' => e = .returned (.bool true) ∧ Below w.heap.size w w' := by
 obtain ⟨a, cap, rfl, hc⟩ := hat
 obtain ⟨a2, cap2, rfl, hc2⟩ := hau
 have HA : Hid (∀ i (h : i < es.length), ∃ b o, a = some ⟨b, o, none⟩ ∧ b < w.heap.size ∧ ElemAt w b (o + i * 2) es[i]) := hc
 have HB : Hid (∀ i (h : i < es.length), ∃ b o, a2 = some ⟨b, o, none⟩ ∧ b < w.heap.size ∧ ElemAt w b (o + i * 2) es[i]) := hc2
 have IH : Hid (∀ x ∈ es, ∀ (av avq : Value) (w : World), DevsAt w av x.args → DevsAt w avq x.args → Calls Tryz.prog 27 #[.agg #[.int .i64 x.op, av], .agg #[.int .i64 x.op, avq]] w fun e w' => e = .returned (.bool true) ∧ Below w.heap.size w w') := ih
 clear hc hc2 ih
 go_enter Tryz.func72, Tryz.ntmps72
 go_wp2
 go_loopw [5] (fun i wr => ∃ k : Nat, k ≤ es.length ∧ i = .int .i64 k ∧ Below w.heap.size w wr) (fun i _ => es.length - (intOf i).toNat)
 case atStart => exact ⟨0, by omega, rfl, Below.refl _ _⟩
 case round =>
  obtain ⟨k, hk, rfl, hb⟩ := hrel
  by_cases hlt : k < es.length
  ·obtain ⟨b, o, rfl, hbl, hn⟩ := HA.out k hlt
   have hn2 := (hn.below hb hbl)
   obtain ⟨b2, o2, rfl, hbl2, hm⟩ := HB.out k hlt
   have hm2 := (hm.below hb hbl2)
   obtain ⟨x0, av, x1, hav⟩ := id hn2
   obtain ⟨y0, avq, y1, havq⟩ := id hm2
   have HI : Hid (∀ W, Below wr.heap.size wr W → Calls Tryz.prog 27 #[.agg #[.int .i64 es[k].op, av], .agg #[.int .i64 es[k].op, avq]] W fun e w' => e = .returned (.bool true) ∧ Below W.heap.size W w') := fun W hW => IH.out es[k] (List.getElem_mem hlt) _ _ W (hav.below hW) (havq.below hW)
   obtain ⟨x, hx⟩ : ∃ x, x = es[k] := ⟨_, rfl⟩
   rw [← hx] at HI x0 y0
   obtain ⟨p0, r0, rfl, _⟩ := hav
   obtain ⟨pq0, rq0, rfl, _⟩ := havq
   clear hx hn hn2 hm hm2
   have rx0 := cell_regrown x0
   have ry0 := cell_regrown y0
   have rx1 := cell_regrown x1
   have ry1 := cell_regrown y1
   go_wp2
   refine wp_region_quiet_below (by kernel_rfl) (by kernel_rfl) ?_
   repeat (go_big_quiet_step ((exact Calls.regrown_of (HI.out _ blB))))
   refine wpQuiet_nil ?_
   intro _ hw'
   obtain ⟨⟨dq, osq⟩, hw''⟩ := hw'
   subst hw''
   go_wp2
   exact ⟨⟨k + 1, by omega, by go_num, bl_grow hb _ _⟩, by simp [intOf]; omega⟩
  ·go_wp2
   go_ret
   exact ⟨rfl, hb⟩
theorem l_eqNets (es : List Stil.Net) (ih : ∀ x ∈ es, ∀ (av kv avq kvq : Value) (w : World), DevsAt w av x.one.args → NetsAt w kv x.kids → DevsAt w avq x.one.args → NetsAt w kvq x.kids → Calls Tryz.prog 9 #[.agg #[.int .i64 x.kind, .int .i64 x.one.op, av, kv], .agg #[.int .i64 x.kind, .int .i64 x.one.op, avq, kvq]] w fun e w' => e = .returned (.bool true) ∧ Below w.heap.size w w') (v u : Value) (w : World) (hat : NetsAt w v es) (hau : NetsAt w u es) (hl : es.length ≤ 1048576) :
  Calls Tryz.prog 28 #[v, u] w fun e w' => e = .returned (.bool true) ∧ Below w.heap.size w w' := by
 obtain ⟨a, cap, rfl, hc⟩ := hat
 obtain ⟨a2, cap2, rfl, hc2⟩ := hau
 have HA : Hid (∀ i (h : i < es.length), ∃ b o, a = some ⟨b, o, none⟩ ∧ b < w.heap.size ∧ NetAt w b (o + i * 4) es[i]) := hc
 have HB : Hid (∀ i (h : i < es.length), ∃ b o, a2 = some ⟨b, o, none⟩ ∧ b < w.heap.size ∧ NetAt w b (o + i * 4) es[i]) := hc2
 have IH : Hid (∀ x ∈ es, ∀ (av kv avq kvq : Value) (w : World), DevsAt w av x.one.args → NetsAt w kv x.kids → DevsAt w avq x.one.args → NetsAt w kvq x.kids → Calls Tryz.prog 9 #[.agg #[.int .i64 x.kind, .int .i64 x.one.op, av, kv], .agg #[.int .i64 x.kind, .int .i64 x.one.op, avq, kvq]] w fun e w' => e = .returned (.bool true) ∧ Below w.heap.size w w') := ih
 clear hc hc2 ih
 go_enter Tryz.func28, Tryz.ntmps28
 go_wp2
 go_loopw [5] (fun i wr => ∃ k : Nat, k ≤ es.length ∧ i = .int .i64 k ∧ Below w.heap.size w wr) (fun i _ => es.length - (intOf i).toNat)
 case atStart => exact ⟨0, by omega, rfl, Below.refl _ _⟩
 case round =>
  obtain ⟨k, hk, rfl, hb⟩ := hrel
  by_cases hlt : k < es.length
  ·obtain ⟨b, o, rfl, hbl, hn⟩ := HA.out k hlt
   have hn2 := (NetAt.below hb _ _ _ hn hbl)
   obtain ⟨b2, o2, rfl, hbl2, hm⟩ := HB.out k hlt
   have hm2 := (NetAt.below hb _ _ _ hm hbl2)
   obtain ⟨x0, x1, av, kv, x2, x3, hav, hkv⟩ := (hn2).open
   obtain ⟨y0, y1, avq, kvq, y2, y3, havq, hkvq⟩ := (hm2).open
   have HI : Hid (∀ W, Below wr.heap.size wr W → Calls Tryz.prog 9 #[.agg #[.int .i64 es[k].kind, .int .i64 es[k].one.op, av, kv], .agg #[.int .i64 es[k].kind, .int .i64 es[k].one.op, avq, kvq]] W fun e w' => e = .returned (.bool true) ∧ Below W.heap.size W w') := fun W hW => IH.out es[k] (List.getElem_mem hlt) _ _ _ _ W (hav.below hW) (hkv.below hW) (havq.below hW) (hkvq.below hW)
   obtain ⟨x, hx⟩ : ∃ x, x = es[k] := ⟨_, rfl⟩
   rw [← hx] at HI x0 x1 y0 y1
   obtain ⟨p0, r0, rfl, _⟩ := hav
   obtain ⟨pq0, rq0, rfl, _⟩ := havq
   obtain ⟨p1, r1, rfl, _⟩ := hkv
   obtain ⟨pq1, rq1, rfl, _⟩ := hkvq
   clear hx hn hn2 hm hm2
   have rx0 := cell_regrown x0
   have ry0 := cell_regrown y0
   have rx1 := cell_regrown x1
   have ry1 := cell_regrown y1
   have rx2 := cell_regrown x2
   have ry2 := cell_regrown y2
   have rx3 := cell_regrown x3
   have ry3 := cell_regrown y3
   go_wp2
   refine wp_region_quiet_below (by kernel_rfl) (by kernel_rfl) ?_
   repeat (go_big_quiet_step ((exact Calls.regrown_of (HI.out _ blB))))
   refine wpQuiet_nil ?_
   intro _ hw'
   obtain ⟨⟨dq, osq⟩, hw''⟩ := hw'
   subst hw''
   go_wp2
   exact ⟨⟨k + 1, by omega, by go_num, bl_grow hb _ _⟩, by simp [intOf]; omega⟩
  ·go_wp2
   go_ret
   exact ⟨rfl, hb⟩
theorem l_eqArms (es : List Stil.Arm) (ih : ∀ x ∈ es, ∀ (av nv cv kv avq nvq cvq kvq : Value) (w : World), DevsAt w av x.net.one.args → NetsAt w nv x.net.kids → ElemsAt w cv x.coils → ArmsAt w kv x.kids → DevsAt w avq x.net.one.args → NetsAt w nvq x.net.kids → ElemsAt w cvq x.coils → ArmsAt w kvq x.kids → Calls Tryz.prog 41 #[.agg #[.int .i64 x.net.kind, .int .i64 x.net.one.op, av, nv, cv, kv], .agg #[.int .i64 x.net.kind, .int .i64 x.net.one.op, avq, nvq, cvq, kvq]] w fun e w' => e = .returned (.bool true) ∧ Below w.heap.size w w') (v u : Value) (w : World) (hat : ArmsAt w v es) (hau : ArmsAt w u es) (hl : es.length ≤ 1048576) :
  Calls Tryz.prog 16 #[v, u] w fun e w' => e = .returned (.bool true) ∧ Below w.heap.size w w' := by
 obtain ⟨a, cap, rfl, hc⟩ := hat
 obtain ⟨a2, cap2, rfl, hc2⟩ := hau
 have HA : Hid (∀ i (h : i < es.length), ∃ b o, a = some ⟨b, o, none⟩ ∧ b < w.heap.size ∧ ArmAt w b (o + i * 6) es[i]) := hc
 have HB : Hid (∀ i (h : i < es.length), ∃ b o, a2 = some ⟨b, o, none⟩ ∧ b < w.heap.size ∧ ArmAt w b (o + i * 6) es[i]) := hc2
 have IH : Hid (∀ x ∈ es, ∀ (av nv cv kv avq nvq cvq kvq : Value) (w : World), DevsAt w av x.net.one.args → NetsAt w nv x.net.kids → ElemsAt w cv x.coils → ArmsAt w kv x.kids → DevsAt w avq x.net.one.args → NetsAt w nvq x.net.kids → ElemsAt w cvq x.coils → ArmsAt w kvq x.kids → Calls Tryz.prog 41 #[.agg #[.int .i64 x.net.kind, .int .i64 x.net.one.op, av, nv, cv, kv], .agg #[.int .i64 x.net.kind, .int .i64 x.net.one.op, avq, nvq, cvq, kvq]] w fun e w' => e = .returned (.bool true) ∧ Below w.heap.size w w') := ih
 clear hc hc2 ih
 go_enter Tryz.func16, Tryz.ntmps16
 go_wp2
 go_loopw [5] (fun i wr => ∃ k : Nat, k ≤ es.length ∧ i = .int .i64 k ∧ Below w.heap.size w wr) (fun i _ => es.length - (intOf i).toNat)
 case atStart => exact ⟨0, by omega, rfl, Below.refl _ _⟩
 case round =>
  obtain ⟨k, hk, rfl, hb⟩ := hrel
  by_cases hlt : k < es.length
  ·obtain ⟨b, o, rfl, hbl, hn⟩ := HA.out k hlt
   have hn2 := (ArmAt.below hb _ _ _ hn hbl)
   obtain ⟨b2, o2, rfl, hbl2, hm⟩ := HB.out k hlt
   have hm2 := (ArmAt.below hb _ _ _ hm hbl2)
   obtain ⟨hna, cv, kv, x4, x5, hcv, hkv⟩ := (hn2).open
   obtain ⟨x0, x1, av, nv, x2, x3, hav, hnv⟩ := hna.open
   obtain ⟨hnaq, cvq, kvq, y4, y5, hcvq, hkvq⟩ := (hm2).open
   obtain ⟨y0, y1, avq, nvq, y2, y3, havq, hnvq⟩ := hnaq.open
   have HI : Hid (∀ W, Below wr.heap.size wr W → Calls Tryz.prog 41 #[.agg #[.int .i64 es[k].net.kind, .int .i64 es[k].net.one.op, av, nv, cv, kv], .agg #[.int .i64 es[k].net.kind, .int .i64 es[k].net.one.op, avq, nvq, cvq, kvq]] W fun e w' => e = .returned (.bool true) ∧ Below W.heap.size W w') := fun W hW => IH.out es[k] (List.getElem_mem hlt) _ _ _ _ _ _ _ _ W (hav.below hW) (hnv.below hW) (hcv.below hW) (hkv.below hW) (havq.below hW) (hnvq.below hW) (hcvq.below hW) (hkvq.below hW)
   obtain ⟨x, hx⟩ : ∃ x, x = es[k] := ⟨_, rfl⟩
   rw [← hx] at HI x0 x1 y0 y1
   obtain ⟨p0, r0, rfl, _⟩ := hav
   obtain ⟨pq0, rq0, rfl, _⟩ := havq
   obtain ⟨p1, r1, rfl, _⟩ := hnv
   obtain ⟨pq1, rq1, rfl, _⟩ := hnvq
   obtain ⟨p2, r2, rfl, _⟩ := hcv
   obtain ⟨pq2, rq2, rfl, _⟩ := hcvq
   obtain ⟨p3, r3, rfl, _⟩ := hkv
   obtain ⟨pq3, rq3, rfl, _⟩ := hkvq
   clear hx hn hn2 hm hm2
   have rx0 := cell_regrown x0
   have ry0 := cell_regrown y0
   have rx1 := cell_regrown x1
   have ry1 := cell_regrown y1
   have rx2 := cell_regrown x2
   have ry2 := cell_regrown y2
   have rx3 := cell_regrown x3
   have ry3 := cell_regrown y3
   have rx4 := cell_regrown x4
   have ry4 := cell_regrown y4
   have rx5 := cell_regrown x5
   have ry5 := cell_regrown y5
   go_wp2
   refine wp_region_quiet_below (by kernel_rfl) (by kernel_rfl) ?_
   repeat (go_big_quiet_step ((exact Calls.regrown_of (HI.out _ blB))))
   refine wpQuiet_nil ?_
   intro _ hw'
   obtain ⟨⟨dq, osq⟩, hw''⟩ := hw'
   subst hw''
   go_wp2
   exact ⟨⟨k + 1, by omega, by go_num, bl_grow hb _ _⟩, by simp [intOf]; omega⟩
  ·go_wp2
   go_ret
   exact ⟨rfl, hb⟩
theorem l_eqElem' (x : Stil.Elem) (hx : x.fits) : ∀ (av avq : Value) (w : World), DevsAt w av x.args → DevsAt w avq x.args → Calls Tryz.prog 27 #[.agg #[.int .i64 x.op, av], .agg #[.int .i64 x.op, avq]] w fun e w' => e = .returned (.bool true) ∧ Below w.heap.size w w' := by
 intro av avq w hav havq
 refine (l_eqElem x.op x.op av avq x.args x.args w hav havq hx.2.1 hx.2.1).mono ?_
 rintro e w1 ⟨rfl, hb⟩
 exact ⟨ret_bool (by simp), hb⟩
theorem l_eqNet (n : Stil.Net) : Stil.netFits n → ∀ (av kv avq kvq : Value) (w : World), DevsAt w av n.one.args → NetsAt w kv n.kids → DevsAt w avq n.one.args → NetsAt w kvq n.kids → Calls Tryz.prog 9 #[.agg #[.int .i64 n.kind, .int .i64 n.one.op, av, kv], .agg #[.int .i64 n.kind, .int .i64 n.one.op, avq, kvq]] w fun e w' => e = .returned (.bool true) ∧ Below w.heap.size w w' := by
 induction n using Stil.net_ind with
 | h k e kids ih =>
  intro hft av kv avq kvq w hav hkv havq hkvq
  obtain ⟨_, he, hl, hk⟩ := (Stil.netFits_eq _ _ _).1 hft
  simp only at hav hkv havq hkvq
  have H1 : Hid (∀ W, Below w.heap.size w W → Calls Tryz.prog 27 #[.agg #[.int .i64 e.op, av], .agg #[.int .i64 e.op, avq]] W fun e' w' => e' = .returned (.bool true) ∧ Below W.heap.size W w') := fun W hW => l_eqElem' e he av avq W (hav.below hW) (havq.below hW)
  have H2 : Hid (∀ W, Below w.heap.size w W → Calls Tryz.prog 28 #[kv, kvq] W fun e w' => e = .returned (.bool true) ∧ Below W.heap.size W w') := fun W hW => l_eqNets kids (fun x hx => ih x hx (hk x hx)) kv kvq W (hkv.below hW) (hkvq.below hW) hl
  obtain ⟨p0, r0, rfl, _⟩ := hav
  obtain ⟨p1, r1, rfl, _⟩ := hkv
  obtain ⟨p2, r2, rfl, _⟩ := havq
  obtain ⟨p3, r3, rfl, _⟩ := hkvq
  clear ih hft he hl hk
  go_enter Tryz.func9, Tryz.ntmps9
  go_wp2_with (first | (go_at_call 27; refine (H1.out _ blA).mono ?_; rintro e w1 ⟨rfl, hb⟩; obtain ⟨hc, hf⟩ := bcell hb) | (go_at_call 28; refine (H2.out _ blA).mono ?_; rintro e w2 ⟨rfl, hb2⟩))
  go_ret
  exact ⟨rfl, blA⟩
theorem l_eqArm (n : Stil.Arm) : Stil.armFits n → ∀ (av nv cv kv avq nvq cvq kvq : Value) (w : World), DevsAt w av n.net.one.args → NetsAt w nv n.net.kids → ElemsAt w cv n.coils → ArmsAt w kv n.kids → DevsAt w avq n.net.one.args → NetsAt w nvq n.net.kids → ElemsAt w cvq n.coils → ArmsAt w kvq n.kids → Calls Tryz.prog 41 #[.agg #[.int .i64 n.net.kind, .int .i64 n.net.one.op, av, nv, cv, kv], .agg #[.int .i64 n.net.kind, .int .i64 n.net.one.op, avq, nvq, cvq, kvq]] w fun e w' => e = .returned (.bool true) ∧ Below w.heap.size w w' := by
 induction n using Stil.arm_ind with
 | h n coils kids ih =>
  intro hft av nv cv kv avq nvq cvq kvq w hav hnv hcv hkv havq hnvq hcvq hkvq
  obtain ⟨hn, hl1, hcw, hl, hk⟩ := (Stil.armFits_eq _ _ _).1 hft
  simp only at hav hnv hcv hkv havq hnvq hcvq hkvq
  have H1 : Hid (∀ W, Below w.heap.size w W → Calls Tryz.prog 9 #[.agg #[.int .i64 n.kind, .int .i64 n.one.op, av, nv], .agg #[.int .i64 n.kind, .int .i64 n.one.op, avq, nvq]] W fun e' w' => e' = .returned (.bool true) ∧ Below W.heap.size W w') := fun W hW => l_eqNet n hn av nv avq nvq W (hav.below hW) (hnv.below hW) (havq.below hW) (hnvq.below hW)
  have H2 : Hid (∀ W, Below w.heap.size w W → Calls Tryz.prog 72 #[cv, cvq] W fun e w' => e = .returned (.bool true) ∧ Below W.heap.size W w') := fun W hW => l_eqElems coils (fun x hx => l_eqElem' x (hcw x hx)) cv cvq W (hcv.below hW) (hcvq.below hW) hl1
  have H3 : Hid (∀ W, Below w.heap.size w W → Calls Tryz.prog 16 #[kv, kvq] W fun e w' => e = .returned (.bool true) ∧ Below W.heap.size W w') := fun W hW => l_eqArms kids (fun x hx => ih x hx (hk x hx)) kv kvq W (hkv.below hW) (hkvq.below hW) hl
  obtain ⟨p0, r0, rfl, _⟩ := hav
  obtain ⟨p1, r1, rfl, _⟩ := hnv
  obtain ⟨p2, r2, rfl, _⟩ := hcv
  obtain ⟨p3, r3, rfl, _⟩ := hkv
  obtain ⟨p4, r4, rfl, _⟩ := havq
  obtain ⟨p5, r5, rfl, _⟩ := hnvq
  obtain ⟨p6, r6, rfl, _⟩ := hcvq
  obtain ⟨p7, r7, rfl, _⟩ := hkvq
  clear ih hft hn hl1 hcw hl hk
  go_enter Tryz.func41, Tryz.ntmps41
  go_wp2_with (first | (go_at_call 9; refine (H1.out _ blA).mono ?_; rintro e w1 ⟨rfl, hb⟩; obtain ⟨hc, hf⟩ := bcell hb; have hz0 : w.heap.size < w1.heap.size := Nat.lt_of_lt_of_le (by simp; omega) hb.size; have hz1 : w.heap.size + 1 < w1.heap.size := Nat.lt_of_lt_of_le (by simp) hb.size) | (go_at_call 72; refine (H2.out _ blA).mono ?_; rintro e w2 ⟨rfl, hb2⟩; obtain ⟨hc2, hf2⟩ := bcell hb2) | (go_at_call 16; refine (H3.out _ blA).mono ?_; rintro e w3 ⟨rfl, hb3⟩))
  go_ret
  exact ⟨rfl, blA⟩
theorem l_eqLadder (l : List Stil.Arm) (hf : ∀ x ∈ l, Stil.armFits x) (hl : l.length ≤ 1048576) (v u : Value) (W : World) (hat : ArmsAt W v l) (hau : ArmsAt W u l) :
  Calls Tryz.prog 16 #[v, u] W fun e w' => e = .returned (.bool true) ∧ Below W.heap.size W w' :=
 l_eqArms l (fun x hx => l_eqArm x (hf x hx)) v u W hat hau hl
end Go.Proofs.YtpaljcoojkbhnaaGreatDoor
