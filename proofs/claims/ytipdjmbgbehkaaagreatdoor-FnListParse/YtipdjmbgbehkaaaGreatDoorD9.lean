/- Contracts of the specification's draws: l2Spoil. -/
import Derived.Test.YtipdjmbgbehkaaaGreatDoorGE
namespace Go.Proofs.YtipdjmbgbehkaaaGreatDoor
open Go.RowKit Go.Sort Go.BigFrame
theorem rd_grown {w w' : World} {g P : Nat} {r : Option Nat} (h : RdAt w g P) (hg : w.grownBy w' r) (hr : ∀ k, r = some k → g < k) : RdAt w' g P := by
 have hlt := rd_lt h
 obtain ⟨a, len, cap, p, c0, c1, f1, hp, hlen, hx⟩ := h
 have hb : ∀ b, b ≤ g → w'.heap[b]? = w.heap[b]? := fun b hb => hg.block b (by omega) (fun e => by have := hr b e.symm; omega)
 have hc : ∀ b o, b ≤ g → w'.cell? ⟨b, o, none⟩ = w.cell? ⟨b, o, none⟩ := fun b o h => by unfold World.cell?; rw [hb b h]
 refine ⟨a, len, cap, p, by rw [hc _ _ (Nat.le_refl _)]; exact c0, by rw [hc _ _ (Nat.le_refl _)]; exact c1, by unfold World.frozen? at f1 ⊢; rw [hb g (Nat.le_refl _)]; exact f1, hp, hlen, fun i hi => ?_⟩
 obtain ⟨b, q, z, ha, hbg, hz, k1, k2⟩ := hx i hi
 exact ⟨b, q, z, ha, hbg, by rw [hc _ _ (by omega)]; exact hz, k1, k2⟩
theorem gr_own {w a b : World} {r s : Option Nat} (h : w.grownBy a r) (k : a.grownBy b s) (hs : ∀ j, s = some j → w.heap.size ≤ j) : w.grownBy b r :=
 ⟨k.os.trans h.os, k.tape.trans h.tape, k.output.trans h.output, Nat.le_trans h.size k.size, fun j hj hn => (k.block j (Nat.lt_of_lt_of_le hj h.size) (fun e => by have := hs j e.symm; omega)).trans (h.block j hj hn)⟩
theorem el_owns {w : World} {g base : Nat} {v : Value} {ds : List Stil.Dev} (h : w.ownsRow base 74 3 v ds.length (devsCells ds)) (hg : g < base) : ElArgs w g v ds := by
 have hd := DevsAt.of_owns h
 rcases h.2 with ⟨h0, h1⟩ | ⟨b, cap, cur, hv, hb, hh, hc, _⟩
 ·obtain ⟨a, c, hv, hx⟩ := hd
  rw [h0] at hv
  simp only [Value.slice.injEq] at hv
  obtain ⟨rfl, hn, rfl⟩ := hv
  exact ⟨none, 0, by rw [h0, hn], ⟨by omega, fun _ => rfl⟩, fun i hi => absurd hi (by omega)⟩
 ·obtain ⟨a, c, hv', hx⟩ := hd
  have e := hv.symm.trans hv'
  simp only [Value.slice.injEq] at e
  obtain ⟨rfl, _, rfl⟩ := e
  refine ⟨_, cap, hv, ⟨hc, fun h => by cases h⟩, fun i hi => ?_⟩
  obtain ⟨b', o, e1, e2, e3⟩ := hx i hi
  have : b' = b := by simp only [Option.some.injEq, Addr.mk.injEq] at e1; exact e1.1.symm
  exact ⟨b', o, e1, by omega, e2, e3⟩
theorem el_ownsN {w : World} {g base n : Nat} {v : Value} {ds : List Stil.Dev} (hn : ds.length = n) (h : w.ownsRow base 74 3 v n (devsCells ds)) (hg : g < base) : ElArgs w g v ds := by
 subst hn
 exact el_owns h hg
theorem el_news {w : World} {g b o n cap : Nat} {ds : List Stil.Dev} (h : ElArgs w g (.slice (some ⟨b, o, none⟩) n cap) ds) : ∀ j u, (devsCells ds)[j]? = some u → w.cell? ((⟨b, o, none⟩ : Addr).add j) = some u := by
 intro j u hj
 obtain ⟨a, c, hv, _, hx⟩ := h
 simp only [Value.slice.injEq] at hv
 obtain ⟨rfl, rfl, rfl⟩ := hv
 have hjl : j < ds.length * 3 := by rw [← devsCells_length]; exact (List.getElem?_eq_some_iff.1 hj).1
 obtain ⟨b', o', e1, _, _, e2, e3, e4⟩ := hx (j / 3) (by omega)
 simp only [Option.some.injEq, Addr.mk.injEq, and_true] at e1
 obtain ⟨rfl, rfl⟩ := e1
 obtain ⟨a1, a2, a3⟩ := devsCells_get ds (j / 3) (by omega)
 rw [Addr.add_lit]
 have hm : j % 3 = 0 ∨ j % 3 = 1 ∨ j % 3 = 2 := by omega
 rcases hm with hm | hm | hm
 ·have e : j = j / 3 * 3 := by omega
  have e5 : o + j = o + j / 3 * 3 := by omega
  rw [e5, e2, ← a1, ← e]; exact hj
 ·have e : j = j / 3 * 3 + 1 := by omega
  have e5 : o + j = o + j / 3 * 3 + 1 := by omega
  rw [e5, e3, ← a2, ← e]; exact hj
 ·have e : j = j / 3 * 3 + 2 := by omega
  have e5 : o + j = o + j / 3 * 3 + 2 := by omega
  rw [e5, e4, ← a3, ← e]; exact hj
theorem own_grown {w w' : World} {g base : Nat} {e : TypeId} {size : Nat} {v : Value} {n : Nat} {xs : List Value} (h : w.ownsRow base e size v n xs) (hg : w.grownBy w' (some g)) (hb : g < base) : w'.ownsRow base e size v n xs := by
 refine ⟨h.1, ?_⟩
 rcases h.2 with h0 | ⟨k, cap, cur, hv, hk, hh, hr⟩
 ·exact Or.inl h0
 ·have := (h.lt k (by rw [hv]; rfl)).2
  exact Or.inr ⟨k, cap, cur, hv, hk, by rw [hg.block k this (by intro e; cases e; omega)]; exact hh, hr⟩
theorem devsCells_set : ∀ (ds : List Stil.Dev) (k : Nat) (d : Stil.Dev), k < ds.length → (((devsCells ds).set (k * 3) (.int .i64 d.kind)).set (k * 3 + 1) (.int .i64 d.n)).set (k * 3 + 2) (.int .i64 d.p) = devsCells (ds.set k d)
 | [], k, d, h => by simp at h
 | c :: r, 0, d, _ => rfl
 | c :: r, k + 1, d, h => by
  have e : devsCells (c :: r) = .int .i64 c.kind :: .int .i64 c.n :: .int .i64 c.p :: devsCells r := rfl
  have e2 : devsCells ((c :: r).set (k + 1) d) = .int .i64 c.kind :: .int .i64 c.n :: .int .i64 c.p :: devsCells (r.set k d) := rfl
  have e3 : (k + 1) * 3 = k * 3 + 1 + 1 + 1 := by omega
  rw [e, e2, e3, ← devsCells_set r k d (by simpa using h)]
  rfl
theorem dev_stored {w : World} {base b cap n k : Nat} {ds : List Stil.Dev} (h : w.ownsRow base 74 3 (.slice (some ⟨b, 0, none⟩) n cap) n (devsCells ds)) (d : Stil.Dev) (hk : k < ds.length) :
  (((w.setCell ⟨b, k * 3, none⟩ (.int .i64 d.kind)).setCell ⟨b, k * 3 + 1, none⟩ (.int .i64 d.n)).setCell ⟨b, k * 3 + 2, none⟩ (.int .i64 d.p)).ownsRow base 74 3 (.slice (some ⟨b, 0, none⟩) n cap) n (devsCells (ds.set k d)) := by
 rw [← devsCells_set ds k d hk]
 exact (((h.stored (k * 3) _).1.stored (k * 3 + 1) _).1.stored (k * 3 + 2) _).1
theorem dev_row {w : World} {base b cap k : Nat} {ds : List Stil.Dev} (h : w.ownsRow base 74 3 (.slice (some ⟨b, 0, none⟩) ds.length cap) ds.length (devsCells ds)) (hk : k < ds.length) :
  w.cell? ⟨b, k * 3, none⟩ = some (.int .i64 ds[k].kind) ∧ w.cell? ⟨b, k * 3 + 1, none⟩ = some (.int .i64 ds[k].n) ∧ w.cell? ⟨b, k * 3 + 2, none⟩ = some (.int .i64 ds[k].p) ∧ w.frozen? ⟨b, k * 3, none⟩ = false ∧ w.frozen? ⟨b, k * 3 + 1, none⟩ = false ∧ w.frozen? ⟨b, k * 3 + 2, none⟩ = false := by
 obtain ⟨g, c, hv, _, _, _, hc⟩ := ownsRow_cells h (by omega)
 simp only [Value.slice.injEq, Option.some.injEq, Addr.mk.injEq] at hv
 obtain ⟨⟨rfl, _⟩, _⟩ := hv
 obtain ⟨a1, a2, a3⟩ := devsCells_get ds k hk
 exact ⟨hc _ _ a1, hc _ _ a2, hc _ _ a3, h.frozenAt _, h.frozenAt _, h.frozenAt _⟩
theorem el_nil (w : World) (g : Nat) : ElArgs w g (.slice none 0 0) [] := ⟨none, 0, rfl, ⟨Nat.le_refl _, fun _ => rfl⟩, fun i hi => by simp at hi⟩
theorem small_set {ds : List Stil.Dev} (h : ∀ d ∈ ds, Small d) (k : Nat) (d : Stil.Dev) (hd : Small d) : ∀ x ∈ ds.set k d, Small x := fun x hx => by
 rcases List.mem_or_eq_of_mem_set hx with h1 | rfl
 ·exact h x h1
 ·exact hd
set_option maxHeartbeats 2000000 in
set_option maxRecDepth 100000 in
theorem s_l2Spoil (g P : Nat) (op : Int) (v : Value) (ds : List Stil.Dev) (w : World) (hr : RdAt w g P) (hP : P ≤ 1000000000) (hob : -1000000 ≤ op ∧ op ≤ 1000000) (hv : ElArgs w g v ds) (hs : ∀ d ∈ ds, Small d) (hl : ds.length ≤ 50000) :
  Calls Tryz.prog 77 #[.pointer (some ⟨g, 0, none⟩), .agg #[.int .i64 op, v]] w fun e w' => ElOut e w w' g (P + 20) (ds.length + 1) := by
 obtain ⟨i0, hi, hz0, hz1, hz2⟩ := info_parts info_dev
 have hg := rd_lt hr
 have HV : Hid (∀ W, w.grownBy W (some g) → ElArgs W g v ds) := fun W h => hv.grown h (Nat.le_refl _)
 have HS : Hid (∀ d ∈ ds, Small d) := hs
 obtain ⟨a, cap, rfl, ⟨hcap, hnone⟩, hx⟩ := hv
 have HX : Hid (∀ i (h : i < ds.length), ∃ b o, a = some ⟨b, o, none⟩ ∧ g < b ∧ b < w.heap.size ∧ DevAt w b (o + i * 3) ds[i]) := hx
 clear hx hs
 go_enter Tryz.func77, Tryz.ntmps77
 go_upto_region 1 with fail
 go_cut [5] (fun s5 wc => ∃ b cap2, s5 = .slice (some ⟨b, 0, none⟩) ds.length cap2 ∧ wc.ownsRow (w.heap.size + 2) 74 3 (.slice (some ⟨b, 0, none⟩) ds.length cap2) ds.length (devsCells ds) ∧ RdAt wc g P ∧ w.grownBy wc (some g) ∧ ElBox wc w.heap.size op (.slice a ds.length cap) ∧ ElBox wc (w.heap.size + 1) 0 (.slice none 0 0))
 case first =>
  cases a with
  | none =>
   obtain rfl : ds = [] := by
    cases ds with
    | nil => rfl
    | cons d r => obtain ⟨b, o, h, _⟩ := HX.out 0 (by simp); cases h
   obtain rfl := hnone rfl
   go_wp2
   go_meet
   have ho := World.ownsRow_lit (base := w.heap.size + 2) (e := 74) (size := 3) ((w.alloc (.cells #[.int .i64 op, .slice none 0 0] 29)).alloc (.cells #[.int .i64 0, .slice none 0 0] 29)) #[] 0 (by simp) (by unfold maxLen; omega) rfl
   exact ⟨w.heap.size + 1 + 1, 0, rfl, by simpa [devsCells] using ho, rlA, glA, ebA, ebA⟩
  | some ad =>
   have HN : Hid (∀ W, w.grownBy W (some g) → ∀ j u, (devsCells ds)[j]? = some u → W.cell? (ad.add j) = some u) := by
    intro W hW j u hj
    by_cases hd : ds = []
    ·subst hd; simp [devsCells] at hj
    ·obtain ⟨b, o, h, _⟩ := HX.out 0 (by cases ds with | nil => exact absurd rfl hd | cons d r => simp)
     cases h
     exact el_news (HV.out W hW) j u hj
   have ho := World.ownsRow_lit (base := w.heap.size + 2) (e := 74) (size := 3) ((w.alloc (.cells #[.int .i64 op, .slice (some ad) ds.length cap] 29)).alloc (.cells #[.int .i64 0, .slice none 0 0] 29)) #[] 0 (by simp) (by unfold maxLen; omega) rfl
   have ho2 : ((((w.alloc (.cells #[.int .i64 op, .slice (some ad) ds.length cap] 29)).alloc (.cells #[.int .i64 0, .slice none 0 0] 29)).alloc (.cells #[] 74))).ownsRow (w.heap.size + 2) 74 3 (.slice (some ⟨w.heap.size + 1 + 1, 0, none⟩) 0 0) 0 [] := by simpa using ho
   clear ho
   go_wp2_with (at_builtin; refine wpList_append_own _ rfl _ _ 27 rfl (w.heap.size + 2) 74 i0 (.agg #[.int .i64 0, .int .i64 0, .int .i64 0]) 3 24 Tryz.underlying27 hi hz0 hz1 hz2 rfl (by decide) _ _ _ rfl ho2 ad ds.length cap (devsCells ds) rfl (devsCells_length _) (HN.out _ glA) (devsCells_one _) (by unfold maxLen; omega) (by omega) (by simp) ?_)
   intro v' w3 hown' hgrow hnil
   have hgrow' : ((((w.alloc (.cells #[.int .i64 op, .slice (some ad) ds.length cap] 29)).alloc (.cells #[.int .i64 0, .slice none 0 0] 29)).alloc (.cells #[] 74))).grownBy w3 (some (w.heap.size + 1 + 1)) := hgrow
   obtain ⟨b, cap2, rfl⟩ : ∃ b cap2, v' = .slice (some ⟨b, 0, none⟩) ds.length cap2 := by
    rcases hown'.2 with ⟨h0, h1⟩ | ⟨b, cap2, cur, h0, _⟩
    ·exact absurd h0 hnil
    ·exact ⟨b, cap2, h0⟩
   clear hgrow hnil
   go_wp2
   go_meet
   refine ⟨b, cap2, rfl, hown', rd_grown (rd_alloc (rd_alloc (rd_alloc hr _) _) _) hgrow' (by intro k hk; cases hk; omega), gr_own (gr_alloc (gr_alloc (gr_alloc (grown_refl _ _) _) _) _) hgrow' (by intro k hk; cases hk; omega), ElBox.grown ?_ hgrow' (by omega), ElBox.grown ?_ hgrow' (by omega)⟩
   ·exact ebA
   ·exact ebA
 case rest =>
  obtain ⟨b, cap2, rfl, hown, hrd, hgc, ⟨hy0, q0, q1, p0, p1⟩, ⟨hy1, q2, q3, p2, p3⟩⟩ := hcut
  clear HV HX
  have hbb : w.heap.size + 2 ≤ b ∧ b < wc.heap.size := hown.lt b rfl
  obtain ⟨hb1, hb2⟩ := hbb
  go_upto_if 37 with (first | (go_at_call_of 35 (Value.int IntKind.i64 6); refine (s_pick g _ _ _ raA (by omega) (by omega) (by omega)).mono ?_; rintro e w3 ⟨x, rfl, hx0, hx1, hrd, hgr3⟩; have hz0 : w.heap.size < w3.heap.size := Nat.lt_of_lt_of_le ltA hgr3.size; have hz1 : (w.heap.size + 1) < w3.heap.size := Nat.lt_of_lt_of_le ltA hgr3.size; obtain ⟨q0, p0, q1, p1, q2, p2, q3, p3⟩ : w3.cell? ⟨w.heap.size, 0, none⟩ = some (.int .i64 op) ∧ w3.frozen? ⟨w.heap.size, 0, none⟩ = false ∧ w3.cell? ⟨w.heap.size, 1, none⟩ = some (.slice a ds.length cap) ∧ w3.frozen? ⟨w.heap.size, 1, none⟩ = false ∧ w3.cell? ⟨(w.heap.size + 1), 0, none⟩ = some (.int .i64 0) ∧ w3.frozen? ⟨(w.heap.size + 1), 0, none⟩ = false ∧ w3.cell? ⟨(w.heap.size + 1), 1, none⟩ = some (.slice none 0 0) ∧ w3.frozen? ⟨(w.heap.size + 1), 1, none⟩ = false := ⟨gcA hgr3, gfA hgr3, gcA hgr3, gfA hgr3, gcA hgr3, gfA hgr3, gcA hgr3, gfA hgr3⟩) | (go_at_call_of 37 (10 : Nat); refine (s_num g _ _ _ [-1, 0, 1, 5, 11, 20, 21, 26, 37, 38] _ raA (by omega) (ints_of_from (by simp [IntsFrom, go_sem])) (by simp) (by first | (simp; omega) | omega) (by simp) (by simp)).mono ?_; rintro e w4 ⟨y, rfl, hy, hrd, hgr4⟩; simp only [List.mem_cons, List.not_mem_nil, or_false] at hy; have hz0 : w.heap.size < w4.heap.size := Nat.lt_of_lt_of_le ltA hgr4.size; have hz1 : (w.heap.size + 1) < w4.heap.size := Nat.lt_of_lt_of_le ltA hgr4.size; obtain ⟨q0, p0, q1, p1, q2, p2, q3, p3⟩ : w4.cell? ⟨w.heap.size, 0, none⟩ = some (.int .i64 op) ∧ w4.frozen? ⟨w.heap.size, 0, none⟩ = false ∧ w4.cell? ⟨w.heap.size, 1, none⟩ = some (.slice a ds.length cap) ∧ w4.frozen? ⟨w.heap.size, 1, none⟩ = false ∧ w4.cell? ⟨(w.heap.size + 1), 0, none⟩ = some (.int .i64 0) ∧ w4.frozen? ⟨(w.heap.size + 1), 0, none⟩ = false ∧ w4.cell? ⟨(w.heap.size + 1), 1, none⟩ = some (.slice none 0 0) ∧ w4.frozen? ⟨(w.heap.size + 1), 1, none⟩ = false := ⟨gcA hgr4, gfA hgr4, gcA hgr4, gfA hgr4, gcA hgr4, gfA hgr4, gcA hgr4, gfA hgr4⟩))
  ·have ho := own_grown ((own_grown hown hgr3 (by omega)).alloc _) hgr4 (by omega)
   refine bodyPost_ret (by simp [results, Tryz.results77, go_sem, q2, q3]; rfl) rfl ?_
   exact ⟨_, _, ds, rfl, by omega, el_owns (ownsRow_setCell_below (ownsRow_setCell_below ho (Nat.lt_succ_self _) _) (Nat.lt_succ_self _) _) (by omega), HS.out, by omega, rlA, glA⟩
  ·have ho := own_grown hown hgr3 (by omega)
   go_region_law (first | (refine step_append_own rfl _ _ 27 rfl (w.heap.size + 2) 74 i0 (.agg #[.int .i64 0, .int .i64 0, .int .i64 0]) 3 24 Tryz.underlying27 hi (by assumption) (by assumption) hz2 rfl (by decide) _ _ _ rfl ((own_grown ho ⟨hgr5.os, hgr5.tape, hgr5.output, hgr5.size, hgr5.block⟩ (by omega)).alloc _) _ _ _ (devCells d) rfl rfl (cells_new _ (devCells d) _ _ (by simp)) (by intro u hu; simp [devCells] at hu; rcases hu with rfl | rfl | rfl <;> rfl) (by unfold maxLen; omega) (by omega) (by rw [World.size_alloc]; omega) ?_; intro v' w6 hown6 hgr6; obtain ⟨b6, cap6, rfl, hb6, hb7, _, _⟩ := ownsRow_cells hown6 (by omega); have hg6 : (w5.alloc (.cells #[.int .i64 d.kind, .int .i64 d.n, .int .i64 d.p] 74)).grownBy w6 (some b) := hgr6; have hz0 : w.heap.size < w6.heap.size := Nat.lt_of_lt_of_le ltA hg6.size; have hz1 : (w.heap.size + 1) < w6.heap.size := Nat.lt_of_lt_of_le ltA hg6.size; obtain ⟨q0, p0, q1, p1, q2, p2, q3, p3⟩ : w6.cell? ⟨w.heap.size, 0, none⟩ = some (.int .i64 op) ∧ w6.frozen? ⟨w.heap.size, 0, none⟩ = false ∧ w6.cell? ⟨w.heap.size, 1, none⟩ = some (.slice a ds.length cap) ∧ w6.frozen? ⟨w.heap.size, 1, none⟩ = false ∧ w6.cell? ⟨(w.heap.size + 1), 0, none⟩ = some (.int .i64 0) ∧ w6.frozen? ⟨(w.heap.size + 1), 0, none⟩ = false ∧ w6.cell? ⟨(w.heap.size + 1), 1, none⟩ = some (.slice none 0 0) ∧ w6.frozen? ⟨(w.heap.size + 1), 1, none⟩ = false := ⟨gcA hg6, gfA hg6, gcA hg6, gfA hg6, gcA hg6, gfA hg6, gcA hg6, gfA hg6⟩) | (go_simp; go_at_call 107; refine (s_l1Any g _ _ raA (by omega)).mono ?_; rintro e w5 ⟨d, rfl, hd, hrd, hgr5⟩; have hs5 : w3.heap.size ≤ w5.heap.size := hgr5.size; have hz0 : w.heap.size < w5.heap.size := Nat.lt_of_lt_of_le ltA hgr5.size; have hz1 : (w.heap.size + 1) < w5.heap.size := Nat.lt_of_lt_of_le ltA hgr5.size; obtain ⟨q0, p0, q1, p1, q2, p2, q3, p3⟩ : w5.cell? ⟨w.heap.size, 0, none⟩ = some (.int .i64 op) ∧ w5.frozen? ⟨w.heap.size, 0, none⟩ = false ∧ w5.cell? ⟨w.heap.size, 1, none⟩ = some (.slice a ds.length cap) ∧ w5.frozen? ⟨w.heap.size, 1, none⟩ = false ∧ w5.cell? ⟨(w.heap.size + 1), 0, none⟩ = some (.int .i64 0) ∧ w5.frozen? ⟨(w.heap.size + 1), 0, none⟩ = false ∧ w5.cell? ⟨(w.heap.size + 1), 1, none⟩ = some (.slice none 0 0) ∧ w5.frozen? ⟨(w.heap.size + 1), 1, none⟩ = false := ⟨gcA hgr5, gfA hgr5, gcA hgr5, gfA hgr5, gcA hgr5, gfA hgr5, gcA hgr5, gfA hgr5⟩))
   all_goals go_wp2
   all_goals
    have hrd6 := rd_grown (rd_alloc hrd _) hg6 (by intro k hk; cases hk; omega)
    have hgw6 : w.grownBy w6 (some g) := gr_own (gr_alloc (gr_call (gr_call hgc hgr3) ⟨hgr5.os, hgr5.tape, hgr5.output, hgr5.size, hgr5.block⟩) _) hg6 (by intro k hk; cases hk; omega)
    have hown7 : w6.ownsRow (w.heap.size + 2) 74 3 (.slice (some ⟨b6, 0, none⟩) (ds.length + 1) cap6) (ds.length + 1) (devsCells (ds ++ [d])) := by rw [devsCells_snoc]; exact hown6
    refine bodyPost_ret (by simp [results, Tryz.results77, go_sem, q2, q3]; rfl) rfl ?_
    refine ⟨_, _, ds ++ [d], rfl, hob, el_ownsN (n := ds.length + 1) (by simp) (ownsRow_setCell_below (ownsRow_setCell_below hown7 (Nat.lt_succ_self _) _) (Nat.lt_succ_self _) _) (by omega), ?_, by simp, rlA, glA⟩
    intro y hy
    rcases List.mem_append.1 hy with hy | hy
    ·exact HS.out y hy
    ·simp at hy; subst hy; exact hd
  ·refine bodyPost_ret (by simp [results, Tryz.results77, go_sem, q2, q3]; rfl) rfl ?_
   exact ⟨_, _, [], rfl, hob, el_nil _ _, by simp, by simp, rlA, glA⟩
  ·have ho := own_grown hown hgr3 (by omega)
   have e0 : (x == 0) = false := by assumption
   have e1 : (x == 1) = false := by assumption
   have e2 : (x == 2) = false := by assumption
   rw [e0, e1, e2]
   go_cut [6] (fun _ wc => ∃ ds2 : List Stil.Dev, ds2.length = ds.length ∧ (∀ d ∈ ds2, Small d) ∧ wc.ownsRow (w.heap.size + 2) 74 3 (.slice (some ⟨b, 0, none⟩) ds.length cap2) ds.length (devsCells ds2) ∧ RdAt wc g (P + 19) ∧ w.grownBy wc (some g) ∧ ElBox wc w.heap.size op (.slice a ds.length cap) ∧ ElBox wc (w.heap.size + 1) 0 (.slice none 0 0))
   case first =>
    by_cases hd0 : ds.length = 0
    ·go_wp2
     go_meet
     exact ⟨ds, rfl, HS.out, ho, rlA, glA, ebA, ebA⟩
    ·go_upto_if 53 with (first | (go_at_call_of 35 (ds.length : Nat); refine (s_pick g _ _ _ raA (by omega) (by omega) (by omega)).mono ?_; rintro e w5 ⟨y, rfl, hy0, hy1, hrd, hgr5⟩; have hz0 : w.heap.size < w5.heap.size := Nat.lt_of_lt_of_le ltA hgr5.size; have hz1 : (w.heap.size + 1) < w5.heap.size := Nat.lt_of_lt_of_le ltA hgr5.size; obtain ⟨q0, p0, q1, p1, q2, p2, q3, p3⟩ : w5.cell? ⟨w.heap.size, 0, none⟩ = some (.int .i64 op) ∧ w5.frozen? ⟨w.heap.size, 0, none⟩ = false ∧ w5.cell? ⟨w.heap.size, 1, none⟩ = some (.slice a ds.length cap) ∧ w5.frozen? ⟨w.heap.size, 1, none⟩ = false ∧ w5.cell? ⟨(w.heap.size + 1), 0, none⟩ = some (.int .i64 0) ∧ w5.frozen? ⟨(w.heap.size + 1), 0, none⟩ = false ∧ w5.cell? ⟨(w.heap.size + 1), 1, none⟩ = some (.slice none 0 0) ∧ w5.frozen? ⟨(w.heap.size + 1), 1, none⟩ = false := ⟨gcA hgr5, gfA hgr5, gcA hgr5, gfA hgr5, gcA hgr5, gfA hgr5, gcA hgr5, gfA hgr5⟩; obtain ⟨j, rfl⟩ := Int.eq_ofNat_of_zero_le hy0; have hj : j < ds.length := (by omega); have ho5 := own_grown ho hgr5 (by omega); obtain ⟨r0, r1, r2, s0, s1, s2⟩ := dev_row ho5 hj) | (go_at_call 108; refine (s_l1Spoilt g _ ds[j] _ raA (by omega) (HS.out _ (List.getElem_mem hj))).mono ?_; rintro e w6 ⟨d, rfl, hd, hrd, hgr6⟩; have ho6 := own_grown ho5 hgr6 (by omega); obtain ⟨r0, r1, r2, s0, s1, s2⟩ := dev_row ho6 hj; have hz0 : w.heap.size < w6.heap.size := Nat.lt_of_lt_of_le ltA hgr6.size; have hz1 : (w.heap.size + 1) < w6.heap.size := Nat.lt_of_lt_of_le ltA hgr6.size; obtain ⟨q0, p0, q1, p1, q2, p2, q3, p3⟩ : w6.cell? ⟨w.heap.size, 0, none⟩ = some (.int .i64 op) ∧ w6.frozen? ⟨w.heap.size, 0, none⟩ = false ∧ w6.cell? ⟨w.heap.size, 1, none⟩ = some (.slice a ds.length cap) ∧ w6.frozen? ⟨w.heap.size, 1, none⟩ = false ∧ w6.cell? ⟨(w.heap.size + 1), 0, none⟩ = some (.int .i64 0) ∧ w6.frozen? ⟨(w.heap.size + 1), 0, none⟩ = false ∧ w6.cell? ⟨(w.heap.size + 1), 1, none⟩ = some (.slice none 0 0) ∧ w6.frozen? ⟨(w.heap.size + 1), 1, none⟩ = false := ⟨gcA hgr6, gfA hgr6, gcA hgr6, gfA hgr6, gcA hgr6, gfA hgr6, gcA hgr6, gfA hgr6⟩) | (go_at_call_of 35 (Value.int IntKind.i64 2); refine (s_pick g _ _ _ raA (by omega) (by omega) (by omega)).mono ?_; rintro e w7 ⟨x, rfl, hx0, hx1, hrd, hgr7⟩; have ho7 := own_grown (dev_stored ho6 d hj) hgr7 (by omega); have hj7 : j < (ds.set j d).length := (by simpa using hj); obtain ⟨r0, r1, r2, s0, s1, s2⟩ := dev_row (by simpa using ho7) hj7; have hz0 : w.heap.size < w7.heap.size := Nat.lt_of_lt_of_le ltA hgr7.size; have hz1 : (w.heap.size + 1) < w7.heap.size := Nat.lt_of_lt_of_le ltA hgr7.size; obtain ⟨q0, p0, q1, p1, q2, p2, q3, p3⟩ : w7.cell? ⟨w.heap.size, 0, none⟩ = some (.int .i64 op) ∧ w7.frozen? ⟨w.heap.size, 0, none⟩ = false ∧ w7.cell? ⟨w.heap.size, 1, none⟩ = some (.slice a ds.length cap) ∧ w7.frozen? ⟨w.heap.size, 1, none⟩ = false ∧ w7.cell? ⟨(w.heap.size + 1), 0, none⟩ = some (.int .i64 0) ∧ w7.frozen? ⟨(w.heap.size + 1), 0, none⟩ = false ∧ w7.cell? ⟨(w.heap.size + 1), 1, none⟩ = some (.slice none 0 0) ∧ w7.frozen? ⟨(w.heap.size + 1), 1, none⟩ = false := ⟨gcA hgr7, gfA hgr7, gcA hgr7, gfA hgr7, gcA hgr7, gfA hgr7, gcA hgr7, gfA hgr7⟩))
     go_wp2_with ((go_at_call 107; refine (s_l1Any g _ _ raA (by omega)).mono ?_; rintro e w8 ⟨f, rfl, hf, hrd, hgr8⟩; have ho8 := own_grown ho7 hgr8 (by omega); obtain ⟨r0, r1, r2, s0, s1, s2⟩ := dev_row (by simpa using ho8) hj7; have hz0 : w.heap.size < w8.heap.size := Nat.lt_of_lt_of_le ltA hgr8.size; have hz1 : (w.heap.size + 1) < w8.heap.size := Nat.lt_of_lt_of_le ltA hgr8.size; obtain ⟨q0, p0, q1, p1, q2, p2, q3, p3⟩ : w8.cell? ⟨w.heap.size, 0, none⟩ = some (.int .i64 op) ∧ w8.frozen? ⟨w.heap.size, 0, none⟩ = false ∧ w8.cell? ⟨w.heap.size, 1, none⟩ = some (.slice a ds.length cap) ∧ w8.frozen? ⟨w.heap.size, 1, none⟩ = false ∧ w8.cell? ⟨(w.heap.size + 1), 0, none⟩ = some (.int .i64 0) ∧ w8.frozen? ⟨(w.heap.size + 1), 0, none⟩ = false ∧ w8.cell? ⟨(w.heap.size + 1), 1, none⟩ = some (.slice none 0 0) ∧ w8.frozen? ⟨(w.heap.size + 1), 1, none⟩ = false := ⟨gcA hgr8, gfA hgr8, gcA hgr8, gfA hgr8, gcA hgr8, gfA hgr8, gcA hgr8, gfA hgr8⟩))
     ·go_meet
      exact ⟨(ds.set j d).set j f, by simp, small_set (small_set HS.out _ _ hd) _ _ hf, dev_stored ho8 f hj7, rlA, glA, ebA, ebA⟩
     ·go_meet
      exact ⟨ds.set j d, by simp, small_set HS.out _ _ hd, ho7, rlA, glA, ebA, ebA⟩
   case rest =>
    clear hrd q0 q1 q2 q3 p0 p1 p2 p3
    obtain ⟨ds2, hdl, hs2, ho, hrd, hgc, ⟨hz0, q0, q1, p0, p1⟩, ⟨hz1, q2, q3, p2, p3⟩⟩ := hcut
    go_wp2
    refine bodyPost_ret (by simp [results, Tryz.results77, go_sem, q2, q3]; rfl) rfl ?_
    exact ⟨_, _, ds2, rfl, hob, el_ownsN hdl (ownsRow_setCell_below (ownsRow_setCell_below ho (Nat.lt_succ_self _) _) (Nat.lt_succ_self _) _) (by omega), hs2, by omega, rlA, glA⟩
end Go.Proofs.YtipdjmbgbehkaaaGreatDoor
