/- L7a, L7b, L7c: texts put together. -/
import Derived.Test.YtpaljcoojkbhnaaGreatDoorGL
import Derived.Test.YtpaljcoojkbhnaaGreatDoorGc
set_option maxHeartbeats 4000000
set_option maxRecDepth 100000
/- Contracts of the laws' helpers for lists of instructions: what they weigh. -/
namespace Go.Proofs.YtpaljcoojkbhnaaGreatDoor
open Go.RowKit Go.Sort Go.BigFrame
theorem l_szInst (x : Stil.Inst) (hx : x.wf) : ∀ (av : Value) (q : Int) (w : World), DevsAt w av x.one.args → 0 ≤ q → q ≤ 1048576 → Calls Tryz.prog 19 #[.agg #[.int .i64 x.code, .int .i64 x.one.op, av], .int .i64 q] w fun e w' => e = .returned (.int .i64 (szL q (Stil.instSz x))) ∧ Below w.heap.size w w' := by
 intro av q w hav h1 h2
 have H1 : Hid (∀ W, Below w.heap.size w W → Calls Tryz.prog 45 #[.agg #[.int .i64 x.one.op, av], .int .i64 q] W fun e' w' => e' = .returned (.int .i64 (szL q (Stil.elemSz x.one))) ∧ Below W.heap.size W w') := fun W hW => l_szElem' x.one hx.2 av q W (hav.below hW) h1 h2
 have HS : Hid (Stil.instSz x = Stil.elemSz x.one) := rfl
 obtain ⟨s1, hs1⟩ : ∃ s1, s1 = Stil.elemSz x.one := ⟨_, rfl⟩
 rw [← hs1] at H1 HS
 obtain ⟨p0, r0, rfl, _⟩ := hav
 clear hs1
 by_cases hn1 : q - s1 < 0
 ·have HZ : Hid (szL q s1 = -1) := szL_neg hn1
  clear hn1
  go_enter Tryz.func19, Tryz.ntmps19
  go_wp2_with (go_at_call 45; refine (H1.out _ blB).mono ?_; rw [HZ.out]; rintro e w1 ⟨rfl, hb⟩)
  go_ret
  exact ⟨ret_int (by rw [HS.out, HZ.out]), blB⟩
 ·obtain ⟨q1, hq1⟩ : ∃ q1 : Int, q1 = q - s1 := ⟨_, rfl⟩
  have hq10 : 0 ≤ q1 := by omega
  have HZ : Hid (szL q s1 = q1) := by show _ = _; rw [szL_nn hn1, hq1]
  clear hn1 hq1
  go_enter Tryz.func19, Tryz.ntmps19
  go_wp2_with (go_at_call 45; refine (H1.out _ blB).mono ?_; rw [HZ.out]; rintro e w1 ⟨rfl, hb⟩)
  go_ret
  exact ⟨ret_int (by rw [HS.out, HZ.out]), blB⟩
theorem l_szInsts (es : List Stil.Inst) (ih : ∀ x ∈ es, ∀ (av : Value) (q : Int) (w : World), DevsAt w av x.one.args → 0 ≤ q → q ≤ 1048576 → Calls Tryz.prog 19 #[.agg #[.int .i64 x.code, .int .i64 x.one.op, av], .int .i64 q] w fun e w' => e = .returned (.int .i64 (szL q (Stil.instSz x))) ∧ Below w.heap.size w w') (v : Value) (left : Int) (w : World) (hat : InstsAt w v es) (h1 : 0 ≤ left) (h2 : left ≤ 1048576) (hl : es.length ≤ 9223372036854775807) :
  Calls Tryz.prog 5 #[v, .int .i64 left] w fun e w' => e = .returned (.int .i64 (szL left (Stil.instsSz es))) ∧ Below w.heap.size w w' := by
 obtain ⟨a, cap, rfl, hc⟩ := hat
 have HC : Hid (∀ i (h : i < es.length), ∃ b o, a = some ⟨b, o, none⟩ ∧ b < w.heap.size ∧ InstAt w b (o + i * 3) es[i]) := hc
 have IH : Hid (∀ x ∈ es, ∀ (av : Value) (q : Int) (w : World), DevsAt w av x.one.args → 0 ≤ q → q ≤ 1048576 → Calls Tryz.prog 19 #[.agg #[.int .i64 x.code, .int .i64 x.one.op, av], .int .i64 q] w fun e w' => e = .returned (.int .i64 (szL q (Stil.instSz x))) ∧ Below w.heap.size w w') := ih
 obtain ⟨T, hT⟩ : ∃ T, T = (es.map Stil.instSz).sum := ⟨_, rfl⟩
 have HS : Hid (Stil.instsSz es = es.length + T) := by show _ = _; rw [hT]; rfl
 clear hc ih
 by_cases h : left - es.length < 0
 ·have HQ : Hid (szL left (Stil.instsSz es) = -1) := by show _ = _; unfold szL; rw [if_pos (by have := HS.out; omega)]
  clear hT
  go_enter Tryz.func5, Tryz.ntmps5
  go_wp2
  go_ret
  exact ⟨ret_int (by rw [HQ.out]), Below.refl _ _⟩
 have hl2 : es.length ≤ 1048576 := by omega
 go_enter Tryz.func5, Tryz.ntmps5
 go_wp2
 go_loopw [1, 5] (fun lf i wr => ∃ j A : Nat, j ≤ es.length ∧ i = .int .i64 j ∧ A = ((es.map Stil.instSz).take j).sum ∧ 0 ≤ left - es.length - A ∧ lf = .int .i64 (left - es.length - A) ∧ Below w.heap.size w wr) (fun _ i _ => es.length - (intOf i).toNat)
 case atStart => exact ⟨0, 0, by omega, rfl, by simp, by omega, by simp, Below.refl _ _⟩
 case round =>
  obtain ⟨j, A, hj, rfl, hA, hge, rfl, hB⟩ := hrel
  by_cases hlt : j < es.length
  ·obtain ⟨b, o, rfl, hbl, hn⟩ := HC.out j hlt
   have hn2 := (hn.below hB hbl)
   obtain ⟨x0, x1, av, x2, hav⟩ := id hn2
   have hsucc := sum_take_succ (es.map Stil.instSz) j (by simpa using hlt)
   have hle2 := sum_take_le (es.map Stil.instSz) (j + 1)
   rw [List.getElem_map] at hsucc
   have HI : Hid (∀ W, Below wr.heap.size wr W → ∀ q, 0 ≤ q → q ≤ 1048576 → Calls Tryz.prog 19 #[.agg #[.int .i64 es[j].code, .int .i64 es[j].one.op, av], .int .i64 q] W fun e w' => e = .returned (.int .i64 (szL q (Stil.instSz es[j]))) ∧ Below W.heap.size W w') := fun W hW q => IH.out es[j] (List.getElem_mem hlt) _ q W (hav.below hW)
   obtain ⟨s, hs⟩ : ∃ s, s = Stil.instSz es[j] := ⟨_, rfl⟩
   obtain ⟨x, hx⟩ : ∃ x, x = es[j] := ⟨_, rfl⟩
   rw [← hs] at HI hsucc
   rw [← hx] at HI x0 x1
   obtain ⟨p0, r0, rfl, _⟩ := hav
   obtain ⟨q, hq⟩ : ∃ q, q = left - es.length - A := ⟨_, rfl⟩
   have hq0 : 0 ≤ q := by omega
   have hq1 : q ≤ 1048576 := by omega
   rw [← hA] at hsucc
   have HN : Hid (((es.map Stil.instSz).take (j + 1)).sum = A + s) := hsucc
   have HT : Hid (A + s ≤ T) := by show _ ≤ _; rw [hT]; omega
   have hq2 : left - es.length - A = q := hq.symm
   rw [hq2]
   have HQ2 : Hid (q = left - es.length - A) := hq
   clear hs hx hn hn2 hsucc hle2 hT hA hq hq2 hge
   by_cases hneg : q - s < 0
   ·have HZ : Hid (szL q s = -1) := by show _ = _; unfold szL; rw [if_pos hneg]
    have HE : Hid (szL left (Stil.instsSz es) = -1) := by show _ = _; unfold szL; rw [if_pos (by have := HS.out; have := HT.out; have := HQ2.out; omega)]
    clear hneg
    go_wp2_with (go_at_call 19; refine (HI.out _ blB _ hq0 hq1).mono ?_; rw [HZ.out]; rintro e w2 ⟨rfl, hb2⟩)
    go_ret
    exact ⟨ret_int (by rw [HE.out]), bl_call hB (by first | exact hb2 | exact below_two hb2)⟩
   ·obtain ⟨q', hq'⟩ : ∃ q' : Int, q' = q - s := ⟨_, rfl⟩
    have hq'0 : 0 ≤ q' := by omega
    have HZ : Hid (szL q s = q') := by show _ = _; unfold szL; rw [if_neg hneg, hq']
    have HQ3 : Hid (q' = q - s) := hq'
    clear hneg hq'
    go_wp2_with (go_at_call 19; refine (HI.out _ blB _ hq0 hq1).mono ?_; rw [HZ.out]; rintro e w2 ⟨rfl, hb2⟩)
    refine ⟨⟨j + 1, A + s, by omega, by go_num, HN.out.symm, ?_, ?_, bl_call hB (by first | exact hb2 | exact below_two hb2)⟩, by simp [intOf]; omega⟩
    ·have := HQ2.out; have := HQ3.out; omega
    ·have := HQ2.out; have := HQ3.out; congr 1; omega
  ·go_wp2
   go_ret
   refine ⟨ret_int ?_, hB⟩
   have hA2 : A = T := by rw [hA, List.take_of_length_le (by simp; omega), hT]
   rw [HS.out]
   unfold szL
   rw [if_neg (by omega)]
   omega
theorem rowN3 {w : World} {base g cap n : Nat} {e : TypeId} {xs : List Value} (h : w.ownsRow base e 3 (.slice (some ⟨g, 0, none⟩) n cap) n xs) (k : Nat) (hk : k < n) :
  (∃ u, w.cell? ⟨g, k * 3, none⟩ = some u) ∧ (∃ u, w.cell? ⟨g, k * 3 + 1, none⟩ = some u) ∧ (∃ u, w.cell? ⟨g, k * 3 + 2, none⟩ = some u) := by
 have hl := h.1
 refine ⟨?_, ?_, ?_⟩
 ·rw [h.cellAt (k * 3) (by omega), List.getElem?_eq_getElem (by omega)]; exact ⟨_, rfl⟩
 ·rw [h.cellAt (k * 3 + 1) (by omega), List.getElem?_eq_getElem (by omega)]; exact ⟨_, rfl⟩
 ·rw [h.cellAt (k * 3 + 2) (by omega), List.getElem?_eq_getElem (by omega)]; exact ⟨_, rfl⟩
theorem frozN3 {w : World} {base g cap n : Nat} {e : TypeId} {xs : List Value} (h : w.ownsRow base e 3 (.slice (some ⟨g, 0, none⟩) n cap) n xs) (k : Nat) :
  w.frozen? ⟨g, k * 3, none⟩ = false ∧ w.frozen? ⟨g, k * 3 + 1, none⟩ = false ∧ w.frozen? ⟨g, k * 3 + 2, none⟩ = false := ⟨h.frozenAt _, h.frozenAt _, h.frozenAt _⟩
theorem l_toElemI (x : Stil.Elem) (hx : x.fits) : ∀ (av : Value) (w : World), DevsAt w av x.args → Calls Tryz.prog 50 #[.agg #[.int .i64 x.op, av]] w fun e w' => ∃ avp, e = .returned (.agg #[.int .i64 x.op, avp]) ∧ DevsFrom w.heap.size w' avp x.args ∧ Below w.heap.size w w' := by
 intro av w hav
 refine (l_toElem x.op av x.args w hav hx.2.1).mono ?_
 rintro e w1 ⟨u, rfl, hown, hb⟩
 exact ⟨u, rfl, DevsFrom.of_owns hown, hb⟩
theorem l_toInst (x : Stil.Inst) (hx : x.fits) : ∀ (av : Value) (w : World), DevsAt w av x.one.args → Calls Tryz.prog 24 #[.agg #[.int .i64 x.code, .int .i64 x.one.op, av]] w fun e w' => ∃ avp, e = .returned (.agg #[.int .i64 x.code, .int .i64 x.one.op, avp]) ∧ DevsFrom w.heap.size w' avp x.one.args ∧ Below w.heap.size w w' := by
 intro av w hav
 have H1 : Hid (∀ W, Below w.heap.size w W → Calls Tryz.prog 50 #[.agg #[.int .i64 x.one.op, av]] W fun e' w' => ∃ avp, e' = .returned (.agg #[.int .i64 x.one.op, avp]) ∧ DevsFrom W.heap.size w' avp x.one.args ∧ Below W.heap.size W w') := fun W hW => l_toElemI x.one hx.2 av W (hav.below hW)
 obtain ⟨p0, r0, rfl, _⟩ := hav
 clear hx
 go_enter Tryz.func24, Tryz.ntmps24
 go_wp2_with (go_at_call 50; refine (H1.out _ blA).mono ?_; rintro e w1 ⟨u, rfl, g1, hb⟩; have k1 := g1; obtain ⟨s0, t0, rfl, _⟩ := k1; obtain ⟨hc, hf⟩ := bcell hb; have hza : w.heap.size < w1.heap.size := Nat.lt_of_lt_of_le (by simp; omega) hb.size; have hzb : w.heap.size + 1 < w1.heap.size := Nat.lt_of_lt_of_le (by simp) hb.size)
 have b0 : w1.cell? ⟨w.heap.size + 1, 0, none⟩ = some (.int .i64 0) := by rw [hc _ _ (by simp)]; simp [go_sem]
 have b1 : w1.cell? ⟨w.heap.size + 1, 1, none⟩ = some (.int .i64 0) := by rw [hc _ _ (by simp)]; simp [go_sem]
 have b2 : w1.cell? ⟨w.heap.size + 1, 2, none⟩ = some (.slice none 0 0) := by rw [hc _ _ (by simp)]; simp [go_sem]
 refine bodyPost_ret (v := .agg #[.int .i64 x.code, .int .i64 x.one.op, .slice s0 x.one.args.length t0]) (by simp [results, Tryz.results24, go_sem, b0, b1, b2]) rfl ⟨_, rfl, ?_, ?_⟩
 ·refine ((g1.mono (lo := w.heap.size + 3) (by simp)).keep ?_).mono (by omega)
  (repeat (first | with_reducible exact KeepsUp.refl _ _ | with_reducible refine KeepsUp.set ?_ (by first | omega | (simp; omega) | simp) _ | with_reducible exact KeepsUp.of_below (by assumption) | with_reducible refine KeepsUp.trans ?_ (KeepsUp.of_below (by assumption))))
 ·(repeat (first | with_reducible exact Below.refl _ _ | with_reducible assumption | with_reducible refine bl_set (by first | exact Nat.le_refl _ | (simp; done) | (simp; omega) | omega) ?_ _ | with_reducible refine bl_alloc ?_ _ | with_reducible refine bl_drewN ?_ _ | with_reducible refine bl_drew ?_ | with_reducible refine bl_grow ?_ _ _ | with_reducible refine bl_call ?_ (by assumption)))
theorem info_Inst : (Tryz.prog.info? 51).map (fun i => (i.zero, i.size, i.bytes)) = some (some (.agg #[.int .i64 0, .int .i64 0, .slice none 0 0]), 3, 40) := by kernel_rfl
theorem l_toInsts (es : List Stil.Inst) (ih : ∀ x ∈ es, ∀ (av : Value) (w : World), DevsAt w av x.one.args → Calls Tryz.prog 24 #[.agg #[.int .i64 x.code, .int .i64 x.one.op, av]] w fun e w' => ∃ avp, e = .returned (.agg #[.int .i64 x.code, .int .i64 x.one.op, avp]) ∧ DevsFrom w.heap.size w' avp x.one.args ∧ Below w.heap.size w w') (v : Value) (w : World) (hat : InstsAt w v es) (hl : es.length ≤ 1048576) :
  Calls Tryz.prog 7 #[v] w fun e w' => e = .returned (.slice (some ⟨w.heap.size, 0, none⟩) es.length es.length) ∧ InstsFrom w.heap.size w' (.slice (some ⟨w.heap.size, 0, none⟩) es.length es.length) es ∧ Below w.heap.size w w' := by
 obtain ⟨i0, hi, hz0, hz1, hz2⟩ := info_parts info_Inst
 obtain ⟨a, cap, rfl, hc⟩ := hat
 have HA : Hid (∀ i (h : i < es.length), ∃ b o, a = some ⟨b, o, none⟩ ∧ b < w.heap.size ∧ InstAt w b (o + i * 3) es[i]) := hc
 have IH : Hid (∀ x ∈ es, ∀ (av : Value) (w : World), DevsAt w av x.one.args → Calls Tryz.prog 24 #[.agg #[.int .i64 x.code, .int .i64 x.one.op, av]] w fun e w' => ∃ avp, e = .returned (.agg #[.int .i64 x.code, .int .i64 x.one.op, avp]) ∧ DevsFrom w.heap.size w' avp x.one.args ∧ Below w.heap.size w w') := ih
 clear hc ih
 go_enter Tryz.func7, Tryz.ntmps7
 go_wp2_with (at_make; refine wpList_make_full _ rfl _ _ 32 rfl w.heap.size 51 i0 (.agg #[.int .i64 0, .int .i64 0, .slice none 0 0]) 3 Tryz.underlying32 hi hz0 hz1 _ _ _ _ es.length rfl rfl rfl rfl ?c1 ?c2 (Nat.le_refl _) ?_)
 case c1 => rw [hz2]; omega
 case c2 => unfold maxLen; omega
 intro w1 hown1 hgr1
 have hb1 : Below w.heap.size w w1 := (Below.refl _ _).grown hgr1 (Nat.le_refl _) (fun _ h => by cases h)
 have hs1 : w.heap.size < w1.heap.size := (hown1.lt w.heap.size rfl).2
 go_wp2
 go_loopw [4] (fun i wr => ∃ (k : Nat) (xs : List Value), k ≤ es.length ∧ i = .int .i64 k ∧ wr.ownsRow w.heap.size 51 3 (.slice (some ⟨w.heap.size, 0, none⟩) es.length es.length) es.length xs ∧ w.heap.size < wr.heap.size ∧ (∀ i (h : i < es.length), i < k → InstFrom (w.heap.size + 1) wr w.heap.size (i * 3) es[i]) ∧ Below w.heap.size w wr) (fun i _ => es.length - (intOf i).toNat)
 case atStart => exact ⟨0, _, by omega, rfl, hown1, hs1, fun i h h0 => absurd h0 (by omega), hb1⟩
 case round =>
  clear hown1 hgr1 hb1 hs1
  obtain ⟨k, xs, hk, rfl, hown, hsz, hdone, hb⟩ := hrel
  have HD : Hid (∀ i (h : i < es.length), i < k → InstFrom (w.heap.size + 1) wr w.heap.size (i * 3) es[i]) := hdone
  clear hdone
  by_cases hlt : k < es.length
  ·obtain ⟨b, o, rfl, hbl, hn⟩ := HA.out k hlt
   have hn2 := (hn.below hb hbl)
   obtain ⟨x0, x1, av, x2, hav⟩ := id hn2
   have HI : Hid (∀ W, Below wr.heap.size wr W → Calls Tryz.prog 24 #[.agg #[.int .i64 es[k].code, .int .i64 es[k].one.op, av]] W fun e w' => ∃ avp, e = .returned (.agg #[.int .i64 es[k].code, .int .i64 es[k].one.op, avp]) ∧ DevsFrom W.heap.size w' avp es[k].one.args ∧ Below W.heap.size W w') := fun W hW => IH.out es[k] (List.getElem_mem hlt) _ W (hav.below hW)
   obtain ⟨x, hx⟩ : ∃ x, x = es[k] := ⟨_, rfl⟩
   rw [← hx] at HI x0 x1
   have HX : Hid (x = es[k]) := hx
   obtain ⟨p0, r0, rfl, _⟩ := hav
   clear hx hn hn2
   go_wp2_with (go_at_call 24; refine (HI.out _ blB).mono ?_; rintro e w2 ⟨avp, rfl, g0, hb2⟩; have k0 := g0; obtain ⟨s0, t0, rfl, _⟩ := k0; have hown2 := ownsRow_below hown hb2; obtain ⟨⟨v0, q0⟩, ⟨v1, q1⟩, ⟨v2, q2⟩⟩ := rowN3 hown2 k hlt; obtain ⟨f0, f1, f2⟩ := frozN3 hown2 k)
   have m0 := (hown2.stored (k * 3) (.int .i64 x.code)).1
   have m1 := (m0.stored (k * 3 + 1) (.int .i64 x.one.op)).1
   have m2 := (m1.stored (k * 3 + 2) (.slice s0 x.one.args.length t0)).1
   refine ⟨⟨k + 1, _, by omega, by go_num, m2, ?_, fun i hi hik => ?_, (bl_set (Nat.le_refl _) (bl_set (Nat.le_refl _) (bl_set (Nat.le_refl _) (bl_call hb hb2) _) _) _)⟩, by simp [intOf]; omega⟩
   ·exact Nat.lt_of_lt_of_le (Nat.lt_of_lt_of_le (Nat.lt_of_lt_of_le (Nat.lt_of_lt_of_le hsz hb2.size) (sizeSet _ _ _)) (sizeSet _ _ _)) (sizeSet _ _ _)
   ·by_cases hki : i = k
    ·subst hki
     rw [← HX.out]
     exact inst_stored (Nat.lt_succ_self _) q0 q1 q2 (g0.mono hsz)
    ·exact (((((HD.out i hi (by omega)).keepTop (KeepsUp.of_below hb2) (fun q => hb2.cell (p := ⟨w.heap.size, q, none⟩) hsz)).set (Nat.lt_succ_self _) (by omega) _).set (Nat.lt_succ_self _) (by omega) _).set (Nat.lt_succ_self _) (by omega) _)
  ·go_wp2
   go_ret
   refine ⟨rfl, ⟨_, _, rfl, fun i hi => ⟨w.heap.size, 0, rfl, Nat.le_refl _, hsz, ?_⟩⟩, hb⟩
   rw [Nat.zero_add]
   exact (HD.out i hi (by omega)).upTo
theorem l_eqElemI (x : Stil.Elem) (hx : x.fits) : ∀ (av avq : Value) (w : World), DevsAt w av x.args → DevsAt w avq x.args → Calls Tryz.prog 27 #[.agg #[.int .i64 x.op, av], .agg #[.int .i64 x.op, avq]] w fun e w' => e = .returned (.bool true) ∧ Below w.heap.size w w' := by
 intro av avq w hav havq
 refine (l_eqElem x.op x.op av avq x.args x.args w hav havq hx.2.1 hx.2.1).mono ?_
 rintro e w1 ⟨rfl, hb⟩
 exact ⟨ret_bool (by simp), hb⟩
theorem l_eqInst (x : Stil.Inst) (hx : x.fits) : ∀ (av avq : Value) (w : World), DevsAt w av x.one.args → DevsAt w avq x.one.args → Calls Tryz.prog 29 #[.agg #[.int .i64 x.code, .int .i64 x.one.op, av], .agg #[.int .i64 x.code, .int .i64 x.one.op, avq]] w fun e w' => e = .returned (.bool true) ∧ Below w.heap.size w w' := by
 intro av avq w hav havq
 have H1 : Hid (∀ W, Below w.heap.size w W → Calls Tryz.prog 27 #[.agg #[.int .i64 x.one.op, av], .agg #[.int .i64 x.one.op, avq]] W fun e' w' => e' = .returned (.bool true) ∧ Below W.heap.size W w') := fun W hW => l_eqElemI x.one hx.2 av avq W (hav.below hW) (havq.below hW)
 obtain ⟨p0, r0, rfl, _⟩ := hav
 obtain ⟨p2, r2, rfl, _⟩ := havq
 clear hx
 go_enter Tryz.func29, Tryz.ntmps29
 go_wp2_with (go_at_call 27; refine (H1.out _ blA).mono ?_; rintro e w1 ⟨rfl, hb⟩)
 go_ret
 exact ⟨rfl, blA⟩
theorem l_eqInsts (es : List Stil.Inst) (ih : ∀ x ∈ es, ∀ (av avq : Value) (w : World), DevsAt w av x.one.args → DevsAt w avq x.one.args → Calls Tryz.prog 29 #[.agg #[.int .i64 x.code, .int .i64 x.one.op, av], .agg #[.int .i64 x.code, .int .i64 x.one.op, avq]] w fun e w' => e = .returned (.bool true) ∧ Below w.heap.size w w') (v u : Value) (w : World) (hat : InstsAt w v es) (hau : InstsAt w u es) (hl : es.length ≤ 1048576) :
  Calls Tryz.prog 10 #[v, u] w fun e w' => e = .returned (.bool true) ∧ Below w.heap.size w w' := by
 obtain ⟨a, cap, rfl, hc⟩ := hat
 obtain ⟨a2, cap2, rfl, hc2⟩ := hau
 have HA : Hid (∀ i (h : i < es.length), ∃ b o, a = some ⟨b, o, none⟩ ∧ b < w.heap.size ∧ InstAt w b (o + i * 3) es[i]) := hc
 have HB : Hid (∀ i (h : i < es.length), ∃ b o, a2 = some ⟨b, o, none⟩ ∧ b < w.heap.size ∧ InstAt w b (o + i * 3) es[i]) := hc2
 have IH : Hid (∀ x ∈ es, ∀ (av avq : Value) (w : World), DevsAt w av x.one.args → DevsAt w avq x.one.args → Calls Tryz.prog 29 #[.agg #[.int .i64 x.code, .int .i64 x.one.op, av], .agg #[.int .i64 x.code, .int .i64 x.one.op, avq]] w fun e w' => e = .returned (.bool true) ∧ Below w.heap.size w w') := ih
 clear hc hc2 ih
 go_enter Tryz.func10, Tryz.ntmps10
 go_wp2
 go_loopw [5] (fun i wr => ∃ k : Nat, k ≤ es.length ∧ i = .int .i64 k ∧ Below w.heap.size w wr) (fun i _ => es.length - (intOf i).toNat)
 case atStart => exact ⟨0, by omega, rfl, Below.refl _ _⟩
 case round =>
  obtain ⟨k, hk, rfl, hb⟩ := hrel
  by_cases hlt : k < es.length
  ·obtain ⟨b, o, rfl, hbl, hn⟩ := HA.out k hlt
   have hn2 := (hn.below hb hbl)
   obtain ⟨b2, o2, rfl, hbl2, hm⟩ := HB.out k hlt
   have hm2 := (hm.below hb hbl2)
   obtain ⟨x0, x1, av, x2, hav⟩ := id hn2
   obtain ⟨y0, y1, avq, y2, havq⟩ := id hm2
   have HI : Hid (∀ W, Below wr.heap.size wr W → Calls Tryz.prog 29 #[.agg #[.int .i64 es[k].code, .int .i64 es[k].one.op, av], .agg #[.int .i64 es[k].code, .int .i64 es[k].one.op, avq]] W fun e w' => e = .returned (.bool true) ∧ Below W.heap.size W w') := fun W hW => IH.out es[k] (List.getElem_mem hlt) _ _ W (hav.below hW) (havq.below hW)
   obtain ⟨x, hx⟩ : ∃ x, x = es[k] := ⟨_, rfl⟩
   rw [← hx] at HI x0 x1 y0 y1
   obtain ⟨p0, r0, rfl, _⟩ := hav
   obtain ⟨pq0, rq0, rfl, _⟩ := havq
   clear hx hn hn2 hm hm2
   have rx0 := cell_regrown x0
   have ry0 := cell_regrown y0
   have rx1 := cell_regrown x1
   have ry1 := cell_regrown y1
   have rx2 := cell_regrown x2
   have ry2 := cell_regrown y2
   go_wp2
   refine wp_region_quiet_below (by kernel_rfl) (by kernel_rfl) ?_
   repeat (go_big_quiet_step ((exact Calls.regrown_of (HI.out _ blB))))
   refine wpQuiet_nil ?_
   intro _ hw'
   obtain ⟨⟨dq, osq⟩, hw''⟩ := hw'
   subst hw''
   go_wp2
   exact ⟨⟨k + 1, by omega, by go_num, bl_grow hb _ _⟩, by simp [intOf]; omega⟩
  ·go_wp2
   go_ret
   exact ⟨rfl, hb⟩
end Go.Proofs.YtpaljcoojkbhnaaGreatDoor
