/- L3b, L3b1, L3b2, L3b4, L3a, L3a1, L3a2, L3a3, L3a4, L3c1, L3c2, L3c3, L3c4: texts put together. -/
import Derived.Test.YthhfnncehfkbfaaDoorGT
import Derived.Test.YthhfnncehfkbfaaDoorGU
import Derived.Test.YthhfnncehfkbfaaDoorGM
/- Contracts of the laws' helpers for ladders: copies. -/
namespace Go.Proofs.YthhfnncehfkbfaaDoor
open Go.RowKit Go.Sort Go.BigFrame
theorem rowN2 {w : World} {base g cap n : Nat} {e : TypeId} {xs : List Value} (h : w.ownsRow base e 2 (.slice (some ⟨g, 0, none⟩) n cap) n xs) (k : Nat) (hk : k < n) :
    (∃ u, w.cell? ⟨g, k * 2, none⟩ = some u) ∧ (∃ u, w.cell? ⟨g, k * 2 + 1, none⟩ = some u) := by
  have hl := h.1
  refine ⟨?_, ?_⟩
  · rw [h.cellAt (k * 2) (by omega), List.getElem?_eq_getElem (by omega)]; exact ⟨_, rfl⟩
  · rw [h.cellAt (k * 2 + 1) (by omega), List.getElem?_eq_getElem (by omega)]; exact ⟨_, rfl⟩
theorem frozN2 {w : World} {base g cap n : Nat} {e : TypeId} {xs : List Value} (h : w.ownsRow base e 2 (.slice (some ⟨g, 0, none⟩) n cap) n xs) (k : Nat) :
    w.frozen? ⟨g, k * 2, none⟩ = false ∧ w.frozen? ⟨g, k * 2 + 1, none⟩ = false := ⟨h.frozenAt _, h.frozenAt _⟩
theorem rowN4 {w : World} {base g cap n : Nat} {e : TypeId} {xs : List Value} (h : w.ownsRow base e 4 (.slice (some ⟨g, 0, none⟩) n cap) n xs) (k : Nat) (hk : k < n) :
    (∃ u, w.cell? ⟨g, k * 4, none⟩ = some u) ∧ (∃ u, w.cell? ⟨g, k * 4 + 1, none⟩ = some u) ∧ (∃ u, w.cell? ⟨g, k * 4 + 2, none⟩ = some u) ∧ (∃ u, w.cell? ⟨g, k * 4 + 3, none⟩ = some u) := by
  have hl := h.1
  refine ⟨?_, ?_, ?_, ?_⟩
  · rw [h.cellAt (k * 4) (by omega), List.getElem?_eq_getElem (by omega)]; exact ⟨_, rfl⟩
  · rw [h.cellAt (k * 4 + 1) (by omega), List.getElem?_eq_getElem (by omega)]; exact ⟨_, rfl⟩
  · rw [h.cellAt (k * 4 + 2) (by omega), List.getElem?_eq_getElem (by omega)]; exact ⟨_, rfl⟩
  · rw [h.cellAt (k * 4 + 3) (by omega), List.getElem?_eq_getElem (by omega)]; exact ⟨_, rfl⟩
theorem frozN4 {w : World} {base g cap n : Nat} {e : TypeId} {xs : List Value} (h : w.ownsRow base e 4 (.slice (some ⟨g, 0, none⟩) n cap) n xs) (k : Nat) :
    w.frozen? ⟨g, k * 4, none⟩ = false ∧ w.frozen? ⟨g, k * 4 + 1, none⟩ = false ∧ w.frozen? ⟨g, k * 4 + 2, none⟩ = false ∧ w.frozen? ⟨g, k * 4 + 3, none⟩ = false := ⟨h.frozenAt _, h.frozenAt _, h.frozenAt _, h.frozenAt _⟩
theorem rowN6 {w : World} {base g cap n : Nat} {e : TypeId} {xs : List Value} (h : w.ownsRow base e 6 (.slice (some ⟨g, 0, none⟩) n cap) n xs) (k : Nat) (hk : k < n) :
    (∃ u, w.cell? ⟨g, k * 6, none⟩ = some u) ∧ (∃ u, w.cell? ⟨g, k * 6 + 1, none⟩ = some u) ∧ (∃ u, w.cell? ⟨g, k * 6 + 2, none⟩ = some u) ∧ (∃ u, w.cell? ⟨g, k * 6 + 3, none⟩ = some u) ∧ (∃ u, w.cell? ⟨g, k * 6 + 4, none⟩ = some u) ∧ (∃ u, w.cell? ⟨g, k * 6 + 5, none⟩ = some u) := by
  have hl := h.1
  refine ⟨?_, ?_, ?_, ?_, ?_, ?_⟩
  · rw [h.cellAt (k * 6) (by omega), List.getElem?_eq_getElem (by omega)]; exact ⟨_, rfl⟩
  · rw [h.cellAt (k * 6 + 1) (by omega), List.getElem?_eq_getElem (by omega)]; exact ⟨_, rfl⟩
  · rw [h.cellAt (k * 6 + 2) (by omega), List.getElem?_eq_getElem (by omega)]; exact ⟨_, rfl⟩
  · rw [h.cellAt (k * 6 + 3) (by omega), List.getElem?_eq_getElem (by omega)]; exact ⟨_, rfl⟩
  · rw [h.cellAt (k * 6 + 4) (by omega), List.getElem?_eq_getElem (by omega)]; exact ⟨_, rfl⟩
  · rw [h.cellAt (k * 6 + 5) (by omega), List.getElem?_eq_getElem (by omega)]; exact ⟨_, rfl⟩
theorem frozN6 {w : World} {base g cap n : Nat} {e : TypeId} {xs : List Value} (h : w.ownsRow base e 6 (.slice (some ⟨g, 0, none⟩) n cap) n xs) (k : Nat) :
    w.frozen? ⟨g, k * 6, none⟩ = false ∧ w.frozen? ⟨g, k * 6 + 1, none⟩ = false ∧ w.frozen? ⟨g, k * 6 + 2, none⟩ = false ∧ w.frozen? ⟨g, k * 6 + 3, none⟩ = false ∧ w.frozen? ⟨g, k * 6 + 4, none⟩ = false ∧ w.frozen? ⟨g, k * 6 + 5, none⟩ = false := ⟨h.frozenAt _, h.frozenAt _, h.frozenAt _, h.frozenAt _, h.frozenAt _, h.frozenAt _⟩
end Go.Proofs.YthhfnncehfkbfaaDoor
/- Contracts of the laws' helpers for ladders: copies. -/
namespace Go.Proofs.YthhfnncehfkbfaaDoor
open Go.RowKit Go.Sort Go.BigFrame
theorem info_Elem : (Tryd.prog.info? 31).map (fun i => (i.zero, i.size, i.bytes)) = some (some (.agg #[.int .i64 0, .slice none 0 0]), 2, 32) := by kernel_rfl
end Go.Proofs.YthhfnncehfkbfaaDoor
/- Contracts of the laws' helpers for ladders: copies. -/
namespace Go.Proofs.YthhfnncehfkbfaaDoor
open Go.RowKit Go.Sort Go.BigFrame
theorem info_Net : (Tryd.prog.info? 34).map (fun i => (i.zero, i.size, i.bytes)) = some (some (.agg #[.int .i64 0, .int .i64 0, .slice none 0 0, .slice none 0 0]), 4, 64) := by kernel_rfl
set_option maxHeartbeats 1000000 in
set_option maxRecDepth 100000 in
theorem l_toNets (es : List Stil.Net) (ih : ∀ x ∈ es, ∀ (av kv : Value) (w : World), DevsAt w av x.one.args → NetsAt w kv x.kids → Calls Tryd.prog 6 #[.agg #[.int .i64 x.kind, .int .i64 x.one.op, av, kv]] w fun e w' => ∃ avp kvp, e = .returned (.agg #[.int .i64 x.kind, .int .i64 x.one.op, avp, kvp]) ∧ DevsFrom w.heap.size w' avp x.one.args ∧ NetsFrom w.heap.size w' kvp x.kids ∧ Below w.heap.size w w') (v : Value) (w : World) (hat : NetsAt w v es) (hl : es.length ≤ 1048576) :
    Calls Tryd.prog 17 #[v] w fun e w' => e = .returned (.slice (some ⟨w.heap.size, 0, none⟩) es.length es.length) ∧ NetsFrom w.heap.size w' (.slice (some ⟨w.heap.size, 0, none⟩) es.length es.length) es ∧ Below w.heap.size w w' := by
  obtain ⟨i0, hi, hz0, hz1, hz2⟩ := info_parts info_Net
  obtain ⟨a, cap, rfl, hc⟩ := hat
  have HA : Hid (∀ i (h : i < es.length), ∃ b o, a = some ⟨b, o, none⟩ ∧ b < w.heap.size ∧ NetAt w b (o + i * 4) es[i]) := hc
  have IH : Hid (∀ x ∈ es, ∀ (av kv : Value) (w : World), DevsAt w av x.one.args → NetsAt w kv x.kids → Calls Tryd.prog 6 #[.agg #[.int .i64 x.kind, .int .i64 x.one.op, av, kv]] w fun e w' => ∃ avp kvp, e = .returned (.agg #[.int .i64 x.kind, .int .i64 x.one.op, avp, kvp]) ∧ DevsFrom w.heap.size w' avp x.one.args ∧ NetsFrom w.heap.size w' kvp x.kids ∧ Below w.heap.size w w') := ih
  clear hc ih
  go_enter Tryd.func17, Tryd.ntmps17
  go_wp2_with (at_make; refine wpList_make_full _ rfl _ _ 32 rfl w.heap.size 34 i0 (.agg #[.int .i64 0, .int .i64 0, .slice none 0 0, .slice none 0 0]) 4 Tryd.underlying32 hi hz0 hz1 _ _ _ _ es.length rfl rfl rfl rfl ?c1 ?c2 (Nat.le_refl _) ?_)
  case c1 => rw [hz2]; omega
  case c2 => unfold maxLen; omega
  intro w1 hown1 hgr1
  have hb1 : Below w.heap.size w w1 := (Below.refl _ _).grown hgr1 (Nat.le_refl _) (fun _ h => by cases h)
  have hs1 : w.heap.size < w1.heap.size := (hown1.lt w.heap.size rfl).2
  go_wp2
  go_loopw [4] (fun i wr => ∃ (k : Nat) (xs : List Value), k ≤ es.length ∧ i = .int .i64 k ∧ wr.ownsRow w.heap.size 34 4 (.slice (some ⟨w.heap.size, 0, none⟩) es.length es.length) es.length xs ∧ w.heap.size < wr.heap.size ∧ (∀ i (h : i < es.length), i < k → NetFrom (w.heap.size + 1) wr w.heap.size (i * 4) es[i]) ∧ Below w.heap.size w wr) (fun i _ => es.length - (intOf i).toNat)
  case atStart => exact ⟨0, _, by omega, rfl, hown1, hs1, fun i h h0 => absurd h0 (by omega), hb1⟩
  case round =>
    clear hown1 hgr1 hb1 hs1
    obtain ⟨k, xs, hk, rfl, hown, hsz, hdone, hb⟩ := hrel
    have HD : Hid (∀ i (h : i < es.length), i < k → NetFrom (w.heap.size + 1) wr w.heap.size (i * 4) es[i]) := hdone
    clear hdone
    by_cases hlt : k < es.length
    · obtain ⟨b, o, rfl, hbl, hn⟩ := HA.out k hlt
      have hn2 := (NetAt.below hb _ _ _ hn hbl)
      obtain ⟨x0, x1, av, kv, x2, x3, hav, hkv⟩ := (hn2).open
      have HI : Hid (∀ W, Below wr.heap.size wr W → Calls Tryd.prog 6 #[.agg #[.int .i64 es[k].kind, .int .i64 es[k].one.op, av, kv]] W fun e w' => ∃ avp kvp, e = .returned (.agg #[.int .i64 es[k].kind, .int .i64 es[k].one.op, avp, kvp]) ∧ DevsFrom W.heap.size w' avp es[k].one.args ∧ NetsFrom W.heap.size w' kvp es[k].kids ∧ Below W.heap.size W w') := fun W hW => IH.out es[k] (List.getElem_mem hlt) _ _ W (hav.below hW) (hkv.below hW)
      obtain ⟨x, hx⟩ : ∃ x, x = es[k] := ⟨_, rfl⟩
      rw [← hx] at HI x0 x1
      have HX : Hid (x = es[k]) := hx
      obtain ⟨p0, r0, rfl, _⟩ := hav
      obtain ⟨p1, r1, rfl, _⟩ := hkv
      clear hx hn hn2
      go_wp2_with (go_at_call 6; refine (HI.out _ (by (repeat (first | exact Below.refl _ _ | assumption | refine bl_alloc ?_ _ | refine bl_drewN ?_ _ | refine bl_drew ?_ | refine bl_grow ?_ _ _ | refine bl_set (Nat.le_refl _) ?_ _ | refine bl_call ?_ (by assumption))))).mono ?_; rintro e w2 ⟨avp, kvp, rfl, g0, g1, hb2⟩; have k0 := g0; obtain ⟨s0, t0, rfl, _⟩ := k0; have k1 := g1; obtain ⟨s1, t1, rfl, _⟩ := k1; have hown2 := ownsRow_below hown hb2; obtain ⟨⟨v0, q0⟩, ⟨v1, q1⟩, ⟨v2, q2⟩, ⟨v3, q3⟩⟩ := rowN4 hown2 k hlt; obtain ⟨f0, f1, f2, f3⟩ := frozN4 hown2 k)
      have m0 := (hown2.stored (k * 4) (.int .i64 x.kind)).1
      have m1 := (m0.stored (k * 4 + 1) (.int .i64 x.one.op)).1
      have m2 := (m1.stored (k * 4 + 2) (.slice s0 x.one.args.length t0)).1
      have m3 := (m2.stored (k * 4 + 3) (.slice s1 x.kids.length t1)).1
      refine ⟨⟨k + 1, _, by omega, by go_num, m3, ?_, fun i hi hik => ?_, (bl_set (Nat.le_refl _) (bl_set (Nat.le_refl _) (bl_set (Nat.le_refl _) (bl_set (Nat.le_refl _) (bl_call hb hb2) _) _) _) _)⟩, by simp [intOf]; omega⟩
      · exact Nat.lt_of_lt_of_le (Nat.lt_of_lt_of_le (Nat.lt_of_lt_of_le (Nat.lt_of_lt_of_le (Nat.lt_of_lt_of_le hsz hb2.size) (sizeSet _ _ _)) (sizeSet _ _ _)) (sizeSet _ _ _)) (sizeSet _ _ _)
      · by_cases hki : i = k
        · subst hki
          rw [← HX.out]
          exact net_stored (Nat.lt_succ_self _) q0 q1 q2 q3 (g0.mono hsz) (g1.mono hsz)
        · exact ((((((HD.out i hi (by omega)).keepTop (KeepsUp.of_below hb2) (fun q => hb2.cell (p := ⟨w.heap.size, q, none⟩) hsz)).set (Nat.lt_succ_self _) (by omega) _).set (Nat.lt_succ_self _) (by omega) _).set (Nat.lt_succ_self _) (by omega) _).set (Nat.lt_succ_self _) (by omega) _)
    · go_wp2
      go_ret
      refine ⟨rfl, ⟨_, _, rfl, fun i hi => ⟨w.heap.size, 0, rfl, Nat.le_refl _, hsz, ?_⟩⟩, hb⟩
      rw [Nat.zero_add]
      exact (HD.out i hi (by omega)).upTo
end Go.Proofs.YthhfnncehfkbfaaDoor
/- Contracts of the laws' helpers for ladders: copies of nets. -/
namespace Go.Proofs.YthhfnncehfkbfaaDoor
open Go.RowKit Go.Sort Go.BigFrame
theorem l_toElem' (x : Stil.Elem) (hx : x.fits) : ∀ (av : Value) (w : World), DevsAt w av x.args → Calls Tryd.prog 16 #[.agg #[.int .i64 x.op, av]] w fun e w' => ∃ avp, e = .returned (.agg #[.int .i64 x.op, avp]) ∧ DevsFrom w.heap.size w' avp x.args ∧ Below w.heap.size w w' := by
  intro av w hav
  refine (l_toElem x.op av x.args w hav hx.2.1).mono ?_
  rintro e w1 ⟨u, rfl, hown, hb⟩
  exact ⟨u, rfl, DevsFrom.of_owns hown, hb⟩
set_option maxHeartbeats 1000000 in
set_option maxRecDepth 100000 in
theorem l_toNet (n : Stil.Net) : Stil.netFits n → ∀ (av kv : Value) (w : World), DevsAt w av n.one.args → NetsAt w kv n.kids → Calls Tryd.prog 6 #[.agg #[.int .i64 n.kind, .int .i64 n.one.op, av, kv]] w fun e w' => ∃ avp kvp, e = .returned (.agg #[.int .i64 n.kind, .int .i64 n.one.op, avp, kvp]) ∧ DevsFrom w.heap.size w' avp n.one.args ∧ NetsFrom w.heap.size w' kvp n.kids ∧ Below w.heap.size w w' := by
  induction n using Stil.net_ind with
  | h k e kids ih =>
    intro hft av kv w hav hkv
    obtain ⟨_, he, hl, hk⟩ := (Stil.netFits_eq _ _ _).1 hft
    simp only at hav hkv
    have H1 : Hid (∀ W, Below w.heap.size w W → Calls Tryd.prog 16 #[.agg #[.int .i64 e.op, av]] W fun e' w' => ∃ avp, e' = .returned (.agg #[.int .i64 e.op, avp]) ∧ DevsFrom W.heap.size w' avp e.args ∧ Below W.heap.size W w') := fun W hW => l_toElem' e he av W (hav.below hW)
    have H2 : Hid (∀ W, Below w.heap.size w W → Calls Tryd.prog 17 #[kv] W fun e w' => e = .returned (.slice (some ⟨W.heap.size, 0, none⟩) kids.length kids.length) ∧ NetsFrom W.heap.size w' (.slice (some ⟨W.heap.size, 0, none⟩) kids.length kids.length) kids ∧ Below W.heap.size W w') := fun W hW => l_toNets kids (fun x hx => ih x hx (hk x hx)) kv W (hkv.below hW) hl
    obtain ⟨p0, r0, rfl, _⟩ := hav
    obtain ⟨p1, r1, rfl, _⟩ := hkv
    clear ih hft he hl hk
    go_enter Tryd.func6, Tryd.ntmps6
    go_wp2_with (first | (go_at_call 16; refine (H1.out _ (by (repeat (first | with_reducible exact Below.refl _ _ | with_reducible assumption | with_reducible refine bl_set (by first | exact Nat.le_refl _ | (simp; done) | (simp; omega) | omega) ?_ _ | with_reducible refine bl_alloc ?_ _ | with_reducible refine bl_drewN ?_ _ | with_reducible refine bl_drew ?_ | with_reducible refine bl_grow ?_ _ _ | with_reducible refine bl_call ?_ (by assumption))))).mono ?_; rintro e w1 ⟨u, rfl, g1, hb⟩; have k1 := g1; obtain ⟨s0, t0, rfl, _⟩ := k1; obtain ⟨hc, hf⟩ := bcell hb; have hza : w.heap.size < w1.heap.size := Nat.lt_of_lt_of_le (by simp; omega) hb.size; have hzb : w.heap.size + 1 < w1.heap.size := Nat.lt_of_lt_of_le (by simp) hb.size; have hzc : w.heap.size + 1 + 1 < w1.heap.size := Nat.lt_of_lt_of_le (by simp) hb.size) | (go_at_call 17; refine (H2.out _ (by (repeat (first | with_reducible exact Below.refl _ _ | with_reducible assumption | with_reducible refine bl_set (by first | exact Nat.le_refl _ | (simp; done) | (simp; omega) | omega) ?_ _ | with_reducible refine bl_alloc ?_ _ | with_reducible refine bl_drewN ?_ _ | with_reducible refine bl_drew ?_ | with_reducible refine bl_grow ?_ _ _ | with_reducible refine bl_call ?_ (by assumption))))).mono ?_; rintro e w2 ⟨rfl, g2, hb2⟩; obtain ⟨hc2, hf2⟩ := bcell hb2))
    have b0 : w2.cell? ⟨w.heap.size + 1, 0, none⟩ = some (.int .i64 0) := by rw [hc2 _ _ (by simp; omega)]; simp [go_sem, hc]
    have b1 : w2.cell? ⟨w.heap.size + 1, 1, none⟩ = some (.int .i64 0) := by rw [hc2 _ _ (by simp; omega)]; simp [go_sem, hc]
    have b2 : w2.cell? ⟨w.heap.size + 1, 2, none⟩ = some (.slice none 0 0) := by rw [hc2 _ _ (by simp; omega)]; simp [go_sem, hc]
    have b3 : w2.cell? ⟨w.heap.size + 1, 3, none⟩ = some (.slice none 0 0) := by rw [hc2 _ _ (by simp; omega)]; simp [go_sem, hc]
    refine bodyPost_ret (v := .agg #[.int .i64 k, .int .i64 e.op, .slice s0 e.args.length t0, .slice (some ⟨w1.heap.size, 0, none⟩) kids.length kids.length]) (by simp [results, Tryd.results6, go_sem, b0, b1, b2, b3]) rfl ⟨_, _, rfl, ?_, ?_, ?_⟩
    · refine ((g1.mono (lo := w.heap.size + 3) (by simp)).keep ?_).mono (by omega)
      (repeat (first | with_reducible exact KeepsUp.refl _ _ | with_reducible refine KeepsUp.set ?_ (by first | omega | (simp; omega) | simp) _ | with_reducible exact KeepsUp.of_below (by assumption) | with_reducible refine KeepsUp.trans ?_ (KeepsUp.of_below (by assumption))))
    · have h2 := (g2.mono (lo := w.heap.size + 3) (by simp; omega))
      simp only [World.size_setCell] at h2
      refine (h2.keep ?_).mono (by omega)
      (repeat (first | with_reducible exact KeepsUp.refl _ _ | with_reducible refine KeepsUp.set ?_ (by first | omega | (simp; omega) | simp) _ | with_reducible exact KeepsUp.of_below (by assumption) | with_reducible refine KeepsUp.trans ?_ (KeepsUp.of_below (by assumption))))
    · (repeat (first | with_reducible exact Below.refl _ _ | with_reducible assumption | with_reducible refine bl_set (by first | exact Nat.le_refl _ | (simp; done) | (simp; omega) | omega) ?_ _ | with_reducible refine bl_alloc ?_ _ | with_reducible refine bl_drewN ?_ _ | with_reducible refine bl_drew ?_ | with_reducible refine bl_grow ?_ _ _ | with_reducible refine bl_call ?_ (by assumption)))
end Go.Proofs.YthhfnncehfkbfaaDoor
/- Contracts of the laws' helpers for ladders: what they weigh. -/
namespace Go.Proofs.YthhfnncehfkbfaaDoor
open Go.RowKit Go.Sort Go.BigFrame
theorem szL_neg {left : Int} {n : Nat} (h : left - n < 0) : szL left n = -1 := by unfold szL; rw [if_pos h]
theorem szL_nn {left : Int} {n : Nat} (h : ¬ left - n < 0) : szL left n = left - n := by unfold szL; rw [if_neg h]
theorem l_szElem' (x : Stil.Elem) (hx : x.wf) : ∀ (av : Value) (q : Int) (w : World), DevsAt w av x.args → 0 ≤ q → q ≤ 1048576 → Calls Tryd.prog 11 #[.agg #[.int .i64 x.op, av], .int .i64 q] w fun e w' => e = .returned (.int .i64 (szL q (Stil.elemSz x))) ∧ Below w.heap.size w w' := by
  intro av q w hav h1 h2
  obtain ⟨a, cap, rfl, _⟩ := hav
  exact l_szElem x.op a _ cap q w h1 h2 hx.2.1
end Go.Proofs.YthhfnncehfkbfaaDoor
/- Contracts of the laws' helpers for ladders: what they weigh. -/
namespace Go.Proofs.YthhfnncehfkbfaaDoor
open Go.RowKit Go.Sort Go.BigFrame
end Go.Proofs.YthhfnncehfkbfaaDoor
/- Contracts of the laws' helpers for ladders: what they weigh. -/
namespace Go.Proofs.YthhfnncehfkbfaaDoor
open Go.RowKit Go.Sort Go.BigFrame
set_option maxHeartbeats 1000000 in
set_option maxRecDepth 100000 in
theorem l_szNets (es : List Stil.Net) (ih : ∀ x ∈ es, ∀ (av kv : Value) (q : Int) (w : World), DevsAt w av x.one.args → NetsAt w kv x.kids → 0 ≤ q → q ≤ 1048576 → Calls Tryd.prog 4 #[.agg #[.int .i64 x.kind, .int .i64 x.one.op, av, kv], .int .i64 q] w fun e w' => e = .returned (.int .i64 (szL q (Stil.netSz x))) ∧ Below w.heap.size w w') (v : Value) (left : Int) (w : World) (hat : NetsAt w v es) (h1 : 0 ≤ left) (h2 : left ≤ 1048576) (hl : es.length ≤ 9223372036854775807) :
    Calls Tryd.prog 12 #[v, .int .i64 left] w fun e w' => e = .returned (.int .i64 (szL left (Stil.netsSz es))) ∧ Below w.heap.size w w' := by
  obtain ⟨a, cap, rfl, hc⟩ := hat
  have HC : Hid (∀ i (h : i < es.length), ∃ b o, a = some ⟨b, o, none⟩ ∧ b < w.heap.size ∧ NetAt w b (o + i * 4) es[i]) := hc
  have IH : Hid (∀ x ∈ es, ∀ (av kv : Value) (q : Int) (w : World), DevsAt w av x.one.args → NetsAt w kv x.kids → 0 ≤ q → q ≤ 1048576 → Calls Tryd.prog 4 #[.agg #[.int .i64 x.kind, .int .i64 x.one.op, av, kv], .int .i64 q] w fun e w' => e = .returned (.int .i64 (szL q (Stil.netSz x))) ∧ Below w.heap.size w w') := ih
  obtain ⟨T, hT⟩ : ∃ T, T = (es.map Stil.netSz).sum := ⟨_, rfl⟩
  have HS : Hid (Stil.netsSz es = es.length + T) := by show _ = _; rw [hT]; rfl
  clear hc ih
  by_cases h : left - es.length < 0
  · have HQ : Hid (szL left (Stil.netsSz es) = -1) := by show _ = _; unfold szL; rw [if_pos (by have := HS.out; omega)]
    clear hT
    go_enter Tryd.func12, Tryd.ntmps12
    go_wp2
    go_ret
    exact ⟨ret_int (by rw [HQ.out]), Below.refl _ _⟩
  have hl2 : es.length ≤ 1048576 := by omega
  go_enter Tryd.func12, Tryd.ntmps12
  go_wp2
  go_loopw [1, 5] (fun lf i wr => ∃ j A : Nat, j ≤ es.length ∧ i = .int .i64 j ∧ A = ((es.map Stil.netSz).take j).sum ∧ 0 ≤ left - es.length - A ∧ lf = .int .i64 (left - es.length - A) ∧ Below w.heap.size w wr) (fun _ i _ => es.length - (intOf i).toNat)
  case atStart => exact ⟨0, 0, by omega, rfl, by simp, by omega, by simp, Below.refl _ _⟩
  case round =>
    obtain ⟨j, A, hj, rfl, hA, hge, rfl, hB⟩ := hrel
    by_cases hlt : j < es.length
    · obtain ⟨b, o, rfl, hbl, hn⟩ := HC.out j hlt
      have hn2 := (NetAt.below hB _ _ _ hn hbl)
      obtain ⟨x0, x1, av, kv, x2, x3, hav, hkv⟩ := (hn2).open
      have hsucc := sum_take_succ (es.map Stil.netSz) j (by simpa using hlt)
      have hle2 := sum_take_le (es.map Stil.netSz) (j + 1)
      rw [List.getElem_map] at hsucc
      have HI : Hid (∀ W, Below wr.heap.size wr W → ∀ q, 0 ≤ q → q ≤ 1048576 → Calls Tryd.prog 4 #[.agg #[.int .i64 es[j].kind, .int .i64 es[j].one.op, av, kv], .int .i64 q] W fun e w' => e = .returned (.int .i64 (szL q (Stil.netSz es[j]))) ∧ Below W.heap.size W w') := fun W hW q => IH.out es[j] (List.getElem_mem hlt) _ _ q W (hav.below hW) (hkv.below hW)
      obtain ⟨s, hs⟩ : ∃ s, s = Stil.netSz es[j] := ⟨_, rfl⟩
      obtain ⟨x, hx⟩ : ∃ x, x = es[j] := ⟨_, rfl⟩
      rw [← hs] at HI hsucc
      rw [← hx] at HI x0 x1
      obtain ⟨p0, r0, rfl, _⟩ := hav
      obtain ⟨p1, r1, rfl, _⟩ := hkv
      obtain ⟨q, hq⟩ : ∃ q, q = left - es.length - A := ⟨_, rfl⟩
      have hq0 : 0 ≤ q := by omega
      have hq1 : q ≤ 1048576 := by omega
      rw [← hA] at hsucc
      have HN : Hid (((es.map Stil.netSz).take (j + 1)).sum = A + s) := hsucc
      have HT : Hid (A + s ≤ T) := by show _ ≤ _; rw [hT]; omega
      have hq2 : left - es.length - A = q := hq.symm
      rw [hq2]
      have HQ2 : Hid (q = left - es.length - A) := hq
      clear hs hx hn hn2 hsucc hle2 hT hA hq hq2 hge
      by_cases hneg : q - s < 0
      · have HZ : Hid (szL q s = -1) := by show _ = _; unfold szL; rw [if_pos hneg]
        have HE : Hid (szL left (Stil.netsSz es) = -1) := by show _ = _; unfold szL; rw [if_pos (by have := HS.out; have := HT.out; have := HQ2.out; omega)]
        clear hneg
        go_wp2_with (go_at_call 4; refine (HI.out _ (by (repeat (first | exact Below.refl _ _ | assumption | refine bl_alloc ?_ _ | refine bl_drewN ?_ _ | refine bl_drew ?_ | refine bl_grow ?_ _ _ | refine bl_set (Nat.le_refl _) ?_ _ | refine bl_call ?_ (by assumption)))) _ hq0 hq1).mono ?_; rw [HZ.out]; rintro e w2 ⟨rfl, hb2⟩)
        go_ret
        exact ⟨ret_int (by rw [HE.out]), bl_call hB (by first | exact hb2 | exact below_two hb2)⟩
      · obtain ⟨q', hq'⟩ : ∃ q' : Int, q' = q - s := ⟨_, rfl⟩
        have hq'0 : 0 ≤ q' := by omega
        have HZ : Hid (szL q s = q') := by show _ = _; unfold szL; rw [if_neg hneg, hq']
        have HQ3 : Hid (q' = q - s) := hq'
        clear hneg hq'
        go_wp2_with (go_at_call 4; refine (HI.out _ (by (repeat (first | exact Below.refl _ _ | assumption | refine bl_alloc ?_ _ | refine bl_drewN ?_ _ | refine bl_drew ?_ | refine bl_grow ?_ _ _ | refine bl_set (Nat.le_refl _) ?_ _ | refine bl_call ?_ (by assumption)))) _ hq0 hq1).mono ?_; rw [HZ.out]; rintro e w2 ⟨rfl, hb2⟩)
        refine ⟨⟨j + 1, A + s, by omega, by go_num, HN.out.symm, ?_, ?_, bl_call hB (by first | exact hb2 | exact below_two hb2)⟩, by simp [intOf]; omega⟩
        · have := HQ2.out; have := HQ3.out; omega
        · have := HQ2.out; have := HQ3.out; congr 1; omega
    · go_wp2
      go_ret
      refine ⟨ret_int ?_, hB⟩
      have hA2 : A = T := by rw [hA, List.take_of_length_le (by simp; omega), hT]
      rw [HS.out]
      unfold szL
      rw [if_neg (by omega)]
      omega
end Go.Proofs.YthhfnncehfkbfaaDoor
/- Contracts of the laws' helpers for ladders: what they weigh. -/
namespace Go.Proofs.YthhfnncehfkbfaaDoor
open Go.RowKit Go.Sort Go.BigFrame
end Go.Proofs.YthhfnncehfkbfaaDoor
/- Contracts of the laws' helpers for ladders: what they weigh. -/
namespace Go.Proofs.YthhfnncehfkbfaaDoor
open Go.RowKit Go.Sort Go.BigFrame
set_option maxHeartbeats 1000000 in
set_option maxRecDepth 100000 in
theorem l_szNet (n : Stil.Net) : Stil.netWf n → ∀ (av kv : Value) (q : Int) (w : World), DevsAt w av n.one.args → NetsAt w kv n.kids → 0 ≤ q → q ≤ 1048576 → Calls Tryd.prog 4 #[.agg #[.int .i64 n.kind, .int .i64 n.one.op, av, kv], .int .i64 q] w fun e w' => e = .returned (.int .i64 (szL q (Stil.netSz n))) ∧ Below w.heap.size w w' := by
  induction n using Stil.net_ind with
  | h k e kids ih =>
    intro hwf av kv q w hav hkv h1 h2
    obtain ⟨_, he, hl, hk⟩ := (Stil.netWf_eq _ _ _).1 hwf
    simp only at hav hkv
    have H1 : Hid (∀ W, Below w.heap.size w W → Calls Tryd.prog 11 #[.agg #[.int .i64 e.op, av], .int .i64 q] W fun e' w' => e' = .returned (.int .i64 (szL q (Stil.elemSz e))) ∧ Below W.heap.size W w') := fun W hW => l_szElem' e he av q W (hav.below hW) h1 h2
    have H2 : Hid (∀ W, Below w.heap.size w W → ∀ q', 0 ≤ q' → q' ≤ 1048576 → Calls Tryd.prog 12 #[kv, .int .i64 q'] W fun e' w' => e' = .returned (.int .i64 (szL q' (Stil.netsSz kids))) ∧ Below W.heap.size W w') := fun W hW q' hq hq2 => l_szNets kids (fun x hx => ih x hx (hk x hx)) kv q' W (hkv.below hW) hq hq2 hl
    have HS : Hid (Stil.netSz ⟨k, e, kids⟩ = Stil.elemSz e + Stil.netsSz kids) := Stil.netSz_parts _
    obtain ⟨s1, hs1⟩ : ∃ s1, s1 = Stil.elemSz e := ⟨_, rfl⟩
    obtain ⟨s2, hs2⟩ : ∃ s2, s2 = Stil.netsSz kids := ⟨_, rfl⟩
    rw [← hs1] at H1 HS
    rw [← hs2] at H2 HS
    obtain ⟨p0, r0, rfl, _⟩ := hav
    obtain ⟨p1, r1, rfl, _⟩ := hkv
    clear ih hwf he hl hk hs1 hs2
    by_cases hn1 : q - s1 < 0
    · have HZ : Hid (szL q s1 = -1) := szL_neg hn1
      have HE : Hid (szL q (Stil.netSz ⟨k, e, kids⟩) = -1) := szL_neg (by have := HS.out; omega)
      clear hn1
      go_enter Tryd.func4, Tryd.ntmps4
      go_wp2_with (go_at_call 11; refine (H1.out _ (by (repeat (first | exact Below.refl _ _ | assumption | refine bl_alloc ?_ _ | refine bl_drewN ?_ _ | refine bl_drew ?_ | refine bl_grow ?_ _ _ | refine bl_set (Nat.le_refl _) ?_ _ | refine bl_call ?_ (by assumption))))).mono ?_; rw [HZ.out]; rintro e w1 ⟨rfl, hb⟩)
      go_ret
      exact ⟨ret_int (by rw [HE.out]), by (repeat (first | exact Below.refl _ _ | assumption | refine bl_alloc ?_ _ | refine bl_drewN ?_ _ | refine bl_drew ?_ | refine bl_grow ?_ _ _ | refine bl_set (Nat.le_refl _) ?_ _ | refine bl_call ?_ (by assumption)))⟩
    · obtain ⟨q1, hq1⟩ : ∃ q1 : Int, q1 = q - s1 := ⟨_, rfl⟩
      have hq10 : 0 ≤ q1 := by omega
      have hq11 : q1 ≤ 1048576 := by omega
      have HZ : Hid (szL q s1 = q1) := by show _ = _; rw [szL_nn hn1, hq1]
      by_cases hn2 : q1 - s2 < 0
      · have HZ2 : Hid (szL q1 s2 = -1) := szL_neg hn2
        have HE : Hid (szL q (Stil.netSz ⟨k, e, kids⟩) = -1) := szL_neg (by have := HS.out; omega)
        clear hn1 hn2 hq1
        go_enter Tryd.func4, Tryd.ntmps4
        go_wp2_with (first | (go_at_call 11; refine (H1.out _ (by (repeat (first | exact Below.refl _ _ | assumption | refine bl_alloc ?_ _ | refine bl_drewN ?_ _ | refine bl_drew ?_ | refine bl_grow ?_ _ _ | refine bl_set (Nat.le_refl _) ?_ _ | refine bl_call ?_ (by assumption))))).mono ?_; rw [HZ.out]; rintro e w1 ⟨rfl, hb⟩; obtain ⟨hc, hf⟩ := bcell hb) | (go_at_call 12; refine (H2.out _ (by (repeat (first | exact Below.refl _ _ | assumption | refine bl_alloc ?_ _ | refine bl_drewN ?_ _ | refine bl_drew ?_ | refine bl_grow ?_ _ _ | refine bl_set (Nat.le_refl _) ?_ _ | refine bl_call ?_ (by assumption)))) _ hq10 hq11).mono ?_; rw [HZ2.out]; rintro e w2 ⟨rfl, hb2⟩))
        go_ret
        exact ⟨ret_int (by rw [HE.out]), by (repeat (first | exact Below.refl _ _ | assumption | refine bl_alloc ?_ _ | refine bl_drewN ?_ _ | refine bl_drew ?_ | refine bl_grow ?_ _ _ | refine bl_set (Nat.le_refl _) ?_ _ | refine bl_call ?_ (by assumption)))⟩
      · obtain ⟨q2, hq2⟩ : ∃ q2 : Int, q2 = q1 - s2 := ⟨_, rfl⟩
        have hq20 : 0 ≤ q2 := by omega
        have HZ2 : Hid (szL q1 s2 = q2) := by show _ = _; rw [szL_nn hn2, hq2]
        have HE : Hid (szL q (Stil.netSz ⟨k, e, kids⟩) = q2) := by show _ = _; rw [szL_nn (by have := HS.out; omega)]; have := HS.out; omega
        clear hn1 hn2 hq1 hq2
        go_enter Tryd.func4, Tryd.ntmps4
        go_wp2_with (first | (go_at_call 11; refine (H1.out _ (by (repeat (first | exact Below.refl _ _ | assumption | refine bl_alloc ?_ _ | refine bl_drewN ?_ _ | refine bl_drew ?_ | refine bl_grow ?_ _ _ | refine bl_set (Nat.le_refl _) ?_ _ | refine bl_call ?_ (by assumption))))).mono ?_; rw [HZ.out]; rintro e w1 ⟨rfl, hb⟩; obtain ⟨hc, hf⟩ := bcell hb) | (go_at_call 12; refine (H2.out _ (by (repeat (first | exact Below.refl _ _ | assumption | refine bl_alloc ?_ _ | refine bl_drewN ?_ _ | refine bl_drew ?_ | refine bl_grow ?_ _ _ | refine bl_set (Nat.le_refl _) ?_ _ | refine bl_call ?_ (by assumption)))) _ hq10 hq11).mono ?_; rw [HZ2.out]; rintro e w2 ⟨rfl, hb2⟩))
        go_ret
        exact ⟨ret_int (by rw [HE.out]), by (repeat (first | exact Below.refl _ _ | assumption | refine bl_alloc ?_ _ | refine bl_drewN ?_ _ | refine bl_drew ?_ | refine bl_grow ?_ _ _ | refine bl_set (Nat.le_refl _) ?_ _ | refine bl_call ?_ (by assumption)))⟩
end Go.Proofs.YthhfnncehfkbfaaDoor
/- Contracts of the laws' helpers for ladders: are two the same. -/
namespace Go.Proofs.YthhfnncehfkbfaaDoor
open Go.RowKit Go.Sort Go.BigFrame
end Go.Proofs.YthhfnncehfkbfaaDoor
/- Contracts of the laws' helpers for ladders: are two the same. -/
namespace Go.Proofs.YthhfnncehfkbfaaDoor
open Go.RowKit Go.Sort Go.BigFrame
set_option maxHeartbeats 1000000 in
set_option maxRecDepth 100000 in
theorem l_eqNets (es : List Stil.Net) (ih : ∀ x ∈ es, ∀ (av kv avq kvq : Value) (w : World), DevsAt w av x.one.args → NetsAt w kv x.kids → DevsAt w avq x.one.args → NetsAt w kvq x.kids → Calls Tryd.prog 8 #[.agg #[.int .i64 x.kind, .int .i64 x.one.op, av, kv], .agg #[.int .i64 x.kind, .int .i64 x.one.op, avq, kvq]] w fun e w' => e = .returned (.bool true) ∧ Below w.heap.size w w') (v u : Value) (w : World) (hat : NetsAt w v es) (hau : NetsAt w u es) (hl : es.length ≤ 1048576) :
    Calls Tryd.prog 22 #[v, u] w fun e w' => e = .returned (.bool true) ∧ Below w.heap.size w w' := by
  obtain ⟨a, cap, rfl, hc⟩ := hat
  obtain ⟨a2, cap2, rfl, hc2⟩ := hau
  have HA : Hid (∀ i (h : i < es.length), ∃ b o, a = some ⟨b, o, none⟩ ∧ b < w.heap.size ∧ NetAt w b (o + i * 4) es[i]) := hc
  have HB : Hid (∀ i (h : i < es.length), ∃ b o, a2 = some ⟨b, o, none⟩ ∧ b < w.heap.size ∧ NetAt w b (o + i * 4) es[i]) := hc2
  have IH : Hid (∀ x ∈ es, ∀ (av kv avq kvq : Value) (w : World), DevsAt w av x.one.args → NetsAt w kv x.kids → DevsAt w avq x.one.args → NetsAt w kvq x.kids → Calls Tryd.prog 8 #[.agg #[.int .i64 x.kind, .int .i64 x.one.op, av, kv], .agg #[.int .i64 x.kind, .int .i64 x.one.op, avq, kvq]] w fun e w' => e = .returned (.bool true) ∧ Below w.heap.size w w') := ih
  clear hc hc2 ih
  go_enter Tryd.func22, Tryd.ntmps22
  go_wp2
  go_loopw [5] (fun i wr => ∃ k : Nat, k ≤ es.length ∧ i = .int .i64 k ∧ Below w.heap.size w wr) (fun i _ => es.length - (intOf i).toNat)
  case atStart => exact ⟨0, by omega, rfl, Below.refl _ _⟩
  case round =>
    obtain ⟨k, hk, rfl, hb⟩ := hrel
    by_cases hlt : k < es.length
    · obtain ⟨b, o, rfl, hbl, hn⟩ := HA.out k hlt
      have hn2 := (NetAt.below hb _ _ _ hn hbl)
      obtain ⟨b2, o2, rfl, hbl2, hm⟩ := HB.out k hlt
      have hm2 := (NetAt.below hb _ _ _ hm hbl2)
      obtain ⟨x0, x1, av, kv, x2, x3, hav, hkv⟩ := (hn2).open
      obtain ⟨y0, y1, avq, kvq, y2, y3, havq, hkvq⟩ := (hm2).open
      have HI : Hid (∀ W, Below wr.heap.size wr W → Calls Tryd.prog 8 #[.agg #[.int .i64 es[k].kind, .int .i64 es[k].one.op, av, kv], .agg #[.int .i64 es[k].kind, .int .i64 es[k].one.op, avq, kvq]] W fun e w' => e = .returned (.bool true) ∧ Below W.heap.size W w') := fun W hW => IH.out es[k] (List.getElem_mem hlt) _ _ _ _ W (hav.below hW) (hkv.below hW) (havq.below hW) (hkvq.below hW)
      obtain ⟨x, hx⟩ : ∃ x, x = es[k] := ⟨_, rfl⟩
      rw [← hx] at HI x0 x1 y0 y1
      obtain ⟨p0, r0, rfl, _⟩ := hav
      obtain ⟨pq0, rq0, rfl, _⟩ := havq
      obtain ⟨p1, r1, rfl, _⟩ := hkv
      obtain ⟨pq1, rq1, rfl, _⟩ := hkvq
      clear hx hn hn2 hm hm2
      have rx0 := cell_regrown x0
      have ry0 := cell_regrown y0
      have rx1 := cell_regrown x1
      have ry1 := cell_regrown y1
      have rx2 := cell_regrown x2
      have ry2 := cell_regrown y2
      have rx3 := cell_regrown x3
      have ry3 := cell_regrown y3
      go_wp2
      refine wp_region_quiet_below (by kernel_rfl) (by kernel_rfl) ?_
      repeat (go_big_quiet_step ((exact Calls.regrown_of (HI.out _ (by (repeat (first | exact Below.refl _ _ | assumption | refine bl_alloc ?_ _ | refine bl_drewN ?_ _ | refine bl_drew ?_ | refine bl_grow ?_ _ _ | refine bl_set (Nat.le_refl _) ?_ _ | refine bl_call ?_ (by assumption))))))))
      refine wpQuiet_nil ?_
      intro _ hw'
      obtain ⟨⟨dq, osq⟩, hw''⟩ := hw'
      subst hw''
      go_wp2
      exact ⟨⟨k + 1, by omega, by go_num, bl_grow hb _ _⟩, by simp [intOf]; omega⟩
    · go_wp2
      go_ret
      exact ⟨rfl, hb⟩
end Go.Proofs.YthhfnncehfkbfaaDoor
/- Contracts of the laws' helpers for ladders: are two the same. -/
namespace Go.Proofs.YthhfnncehfkbfaaDoor
open Go.RowKit Go.Sort Go.BigFrame
end Go.Proofs.YthhfnncehfkbfaaDoor
/- Contracts of the laws' helpers for ladders: are two nets, two arms the same. -/
namespace Go.Proofs.YthhfnncehfkbfaaDoor
open Go.RowKit Go.Sort Go.BigFrame
theorem l_eqElem' (x : Stil.Elem) (hx : x.fits) : ∀ (av avq : Value) (w : World), DevsAt w av x.args → DevsAt w avq x.args → Calls Tryd.prog 21 #[.agg #[.int .i64 x.op, av], .agg #[.int .i64 x.op, avq]] w fun e w' => e = .returned (.bool true) ∧ Below w.heap.size w w' := by
  intro av avq w hav havq
  refine (l_eqElem x.op x.op av avq x.args x.args w hav havq hx.2.1 hx.2.1).mono ?_
  rintro e w1 ⟨rfl, hb⟩
  exact ⟨ret_bool (by simp), hb⟩
set_option maxHeartbeats 1000000 in
set_option maxRecDepth 100000 in
theorem l_eqNet (n : Stil.Net) : Stil.netFits n → ∀ (av kv avq kvq : Value) (w : World), DevsAt w av n.one.args → NetsAt w kv n.kids → DevsAt w avq n.one.args → NetsAt w kvq n.kids → Calls Tryd.prog 8 #[.agg #[.int .i64 n.kind, .int .i64 n.one.op, av, kv], .agg #[.int .i64 n.kind, .int .i64 n.one.op, avq, kvq]] w fun e w' => e = .returned (.bool true) ∧ Below w.heap.size w w' := by
  induction n using Stil.net_ind with
  | h k e kids ih =>
    intro hft av kv avq kvq w hav hkv havq hkvq
    obtain ⟨_, he, hl, hk⟩ := (Stil.netFits_eq _ _ _).1 hft
    simp only at hav hkv havq hkvq
    have H1 : Hid (∀ W, Below w.heap.size w W → Calls Tryd.prog 21 #[.agg #[.int .i64 e.op, av], .agg #[.int .i64 e.op, avq]] W fun e' w' => e' = .returned (.bool true) ∧ Below W.heap.size W w') := fun W hW => l_eqElem' e he av avq W (hav.below hW) (havq.below hW)
    have H2 : Hid (∀ W, Below w.heap.size w W → Calls Tryd.prog 22 #[kv, kvq] W fun e w' => e = .returned (.bool true) ∧ Below W.heap.size W w') := fun W hW => l_eqNets kids (fun x hx => ih x hx (hk x hx)) kv kvq W (hkv.below hW) (hkvq.below hW) hl
    obtain ⟨p0, r0, rfl, _⟩ := hav
    obtain ⟨p1, r1, rfl, _⟩ := hkv
    obtain ⟨p2, r2, rfl, _⟩ := havq
    obtain ⟨p3, r3, rfl, _⟩ := hkvq
    clear ih hft he hl hk
    go_enter Tryd.func8, Tryd.ntmps8
    go_wp2_with (first | (go_at_call 21; refine (H1.out _ (by (repeat (first | with_reducible exact Below.refl _ _ | with_reducible assumption | with_reducible refine bl_set (by first | exact Nat.le_refl _ | (simp; done) | (simp; omega) | omega) ?_ _ | with_reducible refine bl_alloc ?_ _ | with_reducible refine bl_drewN ?_ _ | with_reducible refine bl_drew ?_ | with_reducible refine bl_grow ?_ _ _ | with_reducible refine bl_call ?_ (by assumption))))).mono ?_; rintro e w1 ⟨rfl, hb⟩; obtain ⟨hc, hf⟩ := bcell hb) | (go_at_call 22; refine (H2.out _ (by (repeat (first | with_reducible exact Below.refl _ _ | with_reducible assumption | with_reducible refine bl_set (by first | exact Nat.le_refl _ | (simp; done) | (simp; omega) | omega) ?_ _ | with_reducible refine bl_alloc ?_ _ | with_reducible refine bl_drewN ?_ _ | with_reducible refine bl_drew ?_ | with_reducible refine bl_grow ?_ _ _ | with_reducible refine bl_call ?_ (by assumption))))).mono ?_; rintro e w2 ⟨rfl, hb2⟩))
    go_ret
    exact ⟨rfl, by (repeat (first | with_reducible exact Below.refl _ _ | with_reducible assumption | with_reducible refine bl_set (by first | exact Nat.le_refl _ | (simp; done) | (simp; omega) | omega) ?_ _ | with_reducible refine bl_alloc ?_ _ | with_reducible refine bl_drewN ?_ _ | with_reducible refine bl_drew ?_ | with_reducible refine bl_grow ?_ _ _ | with_reducible refine bl_call ?_ (by assumption)))⟩
end Go.Proofs.YthhfnncehfkbfaaDoor
