/- I6: texts put together. -/
import Derived.Test.YtipdjmbgbehkaaaGreatDoorGg
import Derived.Test.YtipdjmbgbehkaaaGreatDoorFR7
import Derived.Deep.RegionWith
import Derived.Shelf.Abstract
/- Contracts of the program's chapter 3: slices.Equal over operands, two contacts or coils that are the same. -/
namespace Go.Proofs.YtipdjmbgbehkaaaGreatDoor
open Go.RowKit Go.Sort Go.BigFrame
open Classical in
set_option maxHeartbeats 1000000 in
set_option maxRecDepth 100000 in
theorem i_devsEqual (ds fs : List Stil.Dev) (av bv : Value) (w : World) (hat : DevsAt w av ds) (hau : DevsAt w bv fs) (hl : ds.length ≤ 1048576) (hk : fs.length ≤ 1048576) :
    Calls Tryz.prog 95 #[av, bv] w fun r w' => r = .returned (.bool (decide (ds = fs))) ∧ Below w.heap.size w w' := by
  obtain ⟨a, cap, rfl, hc1⟩ := hat
  obtain ⟨b, cap2, rfl, hc2⟩ := hau
  by_cases hlen : ds.length = fs.length
  · have HA : Hid (∀ i (h : i < ds.length), ∃ b o, a = some ⟨b, o, none⟩ ∧ b < w.heap.size ∧ DevAt w b (o + i * 3) ds[i]) := hc1
    have HB : Hid (∀ i (h : i < fs.length), ∃ b' o, b = some ⟨b', o, none⟩ ∧ b' < w.heap.size ∧ DevAt w b' (o + i * 3) fs[i]) := hc2
    clear hc1 hc2
    have hlb : ((ds.length : Int) != (fs.length : Int)) = false := by rw [bne_eq_false_iff_eq]; omega
    have hl1 : ds.length ≤ fs.length := by omega
    have hl2 : fs.length ≤ ds.length := by omega
    clear hlen
    go_enter Tryz.func95, Tryz.ntmps95
    go_wp2
    go_loopw [13] (fun i wr => ∃ k : Nat, k ≤ ds.length ∧ i = .int .i64 k ∧ ds.take k = fs.take k ∧ Below w.heap.size w wr) (fun i _ => ds.length - (intOf i).toNat)
    case atStart => exact ⟨0, by omega, rfl, by simp, Below.refl _ _⟩
    case round =>
      obtain ⟨k, hk, rfl, heq, hbw⟩ := hrel
      have HE : Hid (ds.take k = fs.take k) := heq
      clear heq
      by_cases hlt : k < ds.length
      · have hlt2 : k < fs.length := by omega
        obtain ⟨b1, o1, rfl, hbl1, hd1⟩ := HA.out k hlt
        obtain ⟨b2, o2, rfl, hbl2, hd2⟩ := HB.out k hlt2
        obtain ⟨x0, x1, x2⟩ := hd1.below hbw hbl1
        obtain ⟨y0, y1, y2⟩ := hd2.below hbw hbl2
        by_cases hxy : ds[k] = fs[k]
        · have HXY : Hid (ds.take (k + 1) = fs.take (k + 1)) := by
            show _ = _
            rw [List.take_succ_eq_append_getElem hlt, List.take_succ_eq_append_getElem hlt2, HE.out, hxy]
          rw [← hxy] at y0 y1 y2
          obtain ⟨x, hx⟩ : ∃ x, x = ds[k] := ⟨_, rfl⟩
          rw [← hx] at x0 x1 x2 y0 y1 y2
          clear hx hxy hd1 hd2
          go_wp2
          go_region
          all_goals go_wp2
          exact ⟨⟨k + 1, by omega, by go_num, HXY.out, hbw.drew⟩, by simp [intOf]; omega⟩
        · have HXY : Hid (¬ ds = fs) := by
            show ¬ _
            intro h; subst h; exact hxy rfl
          obtain ⟨x, hx⟩ : ∃ x, x = ds[k] := ⟨_, rfl⟩
          obtain ⟨y, hy⟩ : ∃ y, y = fs[k] := ⟨_, rfl⟩
          rw [← hx] at x0 x1 x2
          rw [← hy] at y0 y1 y2
          rw [← hx, ← hy] at hxy
          have hcase : (x.kind == y.kind) = false ∨ (x.kind = y.kind ∧ (x.n == y.n) = false) ∨ (x.kind = y.kind ∧ x.n = y.n ∧ (x.p == y.p) = false) := by
            simp only [beq_eq_false_iff_ne]
            by_cases h1 : x.kind = y.kind
            · by_cases h2 : x.n = y.n
              · exact .inr (.inr ⟨h1, h2, fun h3 => hxy ((dev_eta _ _).2 ⟨h1, h2, h3⟩)⟩)
              · exact .inr (.inl ⟨h1, h2⟩)
            · exact .inl h1
          clear hx hy hxy hd1 hd2
          rcases hcase with h1 | ⟨h1, h2⟩ | ⟨h1, h2, h3⟩
          · go_wp2
            go_region
            all_goals go_wp2
            go_ret
            exact ⟨ret_bool (by rw [decide_eq_false HXY.out]), hbw.drew⟩
          · rw [← h1] at y0
            clear h1
            go_wp2
            go_region
            all_goals go_wp2
            go_ret
            exact ⟨ret_bool (by rw [decide_eq_false HXY.out]), hbw.drew⟩
          · rw [← h1] at y0
            rw [← h2] at y1
            clear h1 h2
            go_wp2
            go_region
            all_goals go_wp2
            go_ret
            exact ⟨ret_bool (by rw [decide_eq_false HXY.out]), hbw.drew⟩
      · go_wp2
        go_ret
        have e : ds = fs := by
          have := HE.out
          rwa [List.take_of_length_le (by omega), List.take_of_length_le (by omega)] at this
        exact ⟨ret_bool (by rw [decide_eq_true e]), hbw⟩
  · have hlb : ((ds.length : Int) != (fs.length : Int)) = true := by rw [bne_iff_ne]; omega
    have HN : Hid (¬ ds = fs) := by show ¬ _; intro h; exact hlen (by rw [h])
    clear hlen hc1 hc2
    go_enter Tryz.func95, Tryz.ntmps95
    go_wp2
    go_ret
    exact ⟨ret_bool (by rw [decide_eq_false HN.out]), by (repeat (first | exact Below.refl _ _ | assumption | refine bl_alloc ?_ _ | refine bl_drewN ?_ _ | refine bl_drew ?_ | refine bl_grow ?_ _ _ | refine bl_set (Nat.le_refl _) ?_ _ | refine bl_call ?_ (by assumption)))⟩
open Classical in
set_option maxHeartbeats 1000000 in
set_option maxRecDepth 100000 in
theorem i_elemSame (x y : Stil.Elem) (hx : x.fits) (hy : y.fits) : ∀ (av avq : Value) (w : World), DevsAt w av x.args → DevsAt w avq y.args → Calls Tryz.prog 68 #[.agg #[.int .i64 x.op, av], .agg #[.int .i64 y.op, avq]] w fun e w' => e = .returned (.bool (decide (x = y))) ∧ Below w.heap.size w w' := by
  intro av avq w hav havq
  obtain ⟨op, ds⟩ := x
  obtain ⟨oq, fs⟩ := y
  simp only at hav havq
  have H1 : Hid (∀ W, Below w.heap.size w W → Calls Tryz.prog 95 #[av, avq] W fun r w' => r = .returned (.bool (decide (ds = fs))) ∧ Below W.heap.size W w') := fun W hW => i_devsEqual ds fs av avq W (hav.below hW) (havq.below hW) hx.2.1 hy.2.1
  obtain ⟨p0, r0, rfl, _⟩ := hav
  obtain ⟨p1, r1, rfl, _⟩ := havq
  clear hx hy
  by_cases ho : op = oq
  · subst ho
    have HD : Hid (decide ((⟨op, ds⟩ : Stil.Elem) = ⟨op, fs⟩) = decide (ds = fs)) := by show _ = _; simp
    go_enter Tryz.func68, Tryz.ntmps68
    go_wp2_with (go_at_call 95; refine (H1.out _ (by (repeat (first | with_reducible exact Below.refl _ _ | with_reducible assumption | with_reducible refine bl_set (by first | exact Nat.le_refl _ | (simp; done) | (simp; omega) | omega) ?_ _ | with_reducible refine bl_alloc ?_ _ | with_reducible refine bl_drewN ?_ _ | with_reducible refine bl_drew ?_ | with_reducible refine bl_grow ?_ _ _ | with_reducible refine bl_call ?_ (by assumption))))).mono ?_; rintro e w1 ⟨rfl, hb⟩)
    go_ret
    exact ⟨ret_bool (by rw [HD.out]), by (repeat (first | with_reducible exact Below.refl _ _ | with_reducible assumption | with_reducible refine bl_set (by first | exact Nat.le_refl _ | (simp; done) | (simp; omega) | omega) ?_ _ | with_reducible refine bl_alloc ?_ _ | with_reducible refine bl_drewN ?_ _ | with_reducible refine bl_drew ?_ | with_reducible refine bl_grow ?_ _ _ | with_reducible refine bl_call ?_ (by assumption)))⟩
  · have hob : (op == oq) = false := by rw [beq_eq_false_iff_ne]; exact ho
    have HD : Hid (¬ (⟨op, ds⟩ : Stil.Elem) = ⟨oq, fs⟩) := by show ¬ _; intro h; exact ho (Stil.Elem.mk.inj h).1
    clear ho
    go_enter Tryz.func68, Tryz.ntmps68
    go_wp2
    go_ret
    exact ⟨ret_bool (by rw [decide_eq_false HD.out]), by (repeat (first | with_reducible exact Below.refl _ _ | with_reducible assumption | with_reducible refine bl_set (by first | exact Nat.le_refl _ | (simp; done) | (simp; omega) | omega) ?_ _ | with_reducible refine bl_alloc ?_ _ | with_reducible refine bl_drewN ?_ _ | with_reducible refine bl_drew ?_ | with_reducible refine bl_grow ?_ _ _ | with_reducible refine bl_call ?_ (by assumption)))⟩
end Go.Proofs.YtipdjmbgbehkaaaGreatDoor
