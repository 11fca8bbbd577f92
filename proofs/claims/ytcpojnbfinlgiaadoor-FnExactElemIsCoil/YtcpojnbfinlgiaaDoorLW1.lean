/- The law on ElemIsCoil: the walk. -/
import Derived.Test.YtcpojnbfinlgiaaDoorGJ
import Derived.Test.YtcpojnbfinlgiaaDoorGC
import Derived.Deep.RegionWith
namespace Go.Proofs.YtcpojnbfinlgiaaDoor
open Go.RowKit Go.Sort Go.BigFrame
open Classical in
set_option maxHeartbeats 1000000 in
set_option maxRecDepth 100000 in
theorem law_isCoil (op : Int) (v : Value) (ds : List Stil.Dev) (w : World) (hr : RowsAt w) (hat : DevsAt w v ds) (hfit : ∀ d ∈ ds, d.fits) (hl : ds.length ≤ 9223372036854775807) :
    Calls Tryd.prog 3 #[.agg #[.int .i64 op, v]] w fun e w' => e = .returned (.bool true) ∧ Below w.heap.size w w' := by
  have HA : Hid (∀ W, Below w.heap.size w W → DevsAt W v ds) := fun W h => hat.below h
  have HR : Hid (∀ W, Below w.heap.size w W → RowsAt W) := fun W h => hr.below h
  obtain ⟨a, cap, rfl, _⟩ := hat
  by_cases hs : (1048576 : Int) - ds.length < 0
  · have HS : Hid (szL 1048576 ds.length = -1) := by show _ = _; unfold szL; rw [if_pos hs]
    clear hs hr
    go_enter Tryd.func3, Tryd.ntmps3
    go_wp2_with (go_at_call 5; refine (l_szElem _ _ _ _ _ _ (by omega) (by omega) hl).mono ?_; rw [HS.out]; rintro e w1 ⟨rfl, hb⟩)
    go_ret
    exact ⟨rfl, by (repeat (first | exact Below.refl _ _ | assumption | refine bl_alloc ?_ _ | refine bl_drewN ?_ _ | refine bl_drew ?_ | refine bl_grow ?_ _ _ | refine bl_set (Nat.le_refl _) ?_ _ | refine bl_call ?_ (by assumption)))⟩
  · obtain ⟨q, hq⟩ : ∃ q, q = (1048576 : Int) - ds.length := ⟨_, rfl⟩
    have hq0 : 0 ≤ q := by omega
    have HS : Hid (szL 1048576 ds.length = q) := by show _ = _; unfold szL; rw [if_neg hs, hq]
    have hlen : ds.length ≤ 1048576 := by omega
    have HFit : Hid (∀ d ∈ ds, d.fits) := hfit
    clear hs hr hq hfit
    go_enter Tryd.func3, Tryd.ntmps3
    go_wp2_with (go_at_call 5; refine (l_szElem _ _ _ _ _ _ (by omega) (by omega) hl).mono ?_; rw [HS.out]; rintro e w1 ⟨rfl, hb1⟩; obtain ⟨hc, hf⟩ := bcell hb1; have hz := below_lt hb1; have hbw1 : Below w.heap.size w w1 := below_two hb1)
    go_wp2_with (go_at_call 7; refine (l_toElem op _ ds _ (HA.out _ (by (repeat (first | exact Below.refl _ _ | assumption | refine bl_alloc ?_ _ | refine bl_drewN ?_ _ | refine bl_drew ?_ | refine bl_grow ?_ _ _ | refine bl_set (Nat.le_refl _) ?_ _ | refine bl_call ?_ (by assumption))))) hlen).mono ?_; rintro e w2 ⟨u2, rfl, hown2, hb2⟩; obtain ⟨hc2, hf2⟩ := bcell hb2; have hbw2 : Below w.heap.size w w2 := (by (repeat (first | exact Below.refl _ _ | assumption | refine bl_alloc ?_ _ | refine bl_drewN ?_ _ | refine bl_drew ?_ | refine bl_grow ?_ _ _ | refine bl_set (Nat.le_refl _) ?_ _ | refine bl_call ?_ (by assumption)))); have hz2 : w.heap.size < w2.heap.size := Nat.lt_of_lt_of_le (by first | assumption | (simp; done) | (simp; omega)) hb2.size; have HD2 : Hid (∀ W, Below w2.heap.size w2 W → DevsAt W u2 ds) := (fun W h => (DevsAt.of_owns hown2).below h); obtain ⟨a2, cap2, rfl, _⟩ := DevsAt.of_owns hown2; clear hown2)
    go_wp2_with (go_at_call 6; refine (s_isCoil op _ ds _ (HD2.out _ (by (repeat (first | exact Below.refl _ _ | assumption | refine bl_alloc ?_ _ | refine bl_drewN ?_ _ | refine bl_drew ?_ | refine bl_grow ?_ _ _ | refine bl_set (Nat.le_refl _) ?_ _ | refine bl_call ?_ (by assumption))))) HFit.out hl).mono ?_; rintro e w3 ⟨rfl, hb3⟩; obtain ⟨hc3, hf3⟩ := bcell hb3; have hbw3 : Below w.heap.size w w3 := (by (repeat (first | exact Below.refl _ _ | assumption | refine bl_alloc ?_ _ | refine bl_drewN ?_ _ | refine bl_drew ?_ | refine bl_grow ?_ _ _ | refine bl_set (Nat.le_refl _) ?_ _ | refine bl_call ?_ (by assumption)))); have hz3 : w.heap.size < w3.heap.size := Nat.lt_of_lt_of_le (by first | assumption | (simp; done) | (simp; omega)) hb3.size)
    go_wp2_with (go_at_call 7; refine (l_toElem op _ ds _ (HA.out _ (by (repeat (first | exact Below.refl _ _ | assumption | refine bl_alloc ?_ _ | refine bl_drewN ?_ _ | refine bl_drew ?_ | refine bl_grow ?_ _ _ | refine bl_set (Nat.le_refl _) ?_ _ | refine bl_call ?_ (by assumption))))) hlen).mono ?_; rintro e w4 ⟨u4, rfl, hown4, hb4⟩; obtain ⟨hc4, hf4⟩ := bcell hb4; have hbw4 : Below w.heap.size w w4 := (by (repeat (first | exact Below.refl _ _ | assumption | refine bl_alloc ?_ _ | refine bl_drewN ?_ _ | refine bl_drew ?_ | refine bl_grow ?_ _ _ | refine bl_set (Nat.le_refl _) ?_ _ | refine bl_call ?_ (by assumption)))); have hz4 : w.heap.size < w4.heap.size := Nat.lt_of_lt_of_le (by first | assumption | (simp; done) | (simp; omega)) hb4.size; have HD4 : Hid (∀ W, Below w4.heap.size w4 W → DevsAt W u4 ds) := (fun W h => (DevsAt.of_owns hown4).below h); obtain ⟨a4, cap4, rfl, _⟩ := DevsAt.of_owns hown4; clear hown4)
    go_wp2_with (go_at_call 8; refine (i_isCoil op _ ds _ (HR.out _ (by (repeat (first | exact Below.refl _ _ | assumption | refine bl_alloc ?_ _ | refine bl_drewN ?_ _ | refine bl_drew ?_ | refine bl_grow ?_ _ _ | refine bl_set (Nat.le_refl _) ?_ _ | refine bl_call ?_ (by assumption))))) (HD4.out _ (below_alloc _ _)) HFit.out hl).mono ?_; rintro e w5 ⟨rfl, hb5⟩; obtain ⟨hc5, hf5⟩ := bcell hb5; have hbw5 : Below w.heap.size w w5 := (by (repeat (first | exact Below.refl _ _ | assumption | refine bl_alloc ?_ _ | refine bl_drewN ?_ _ | refine bl_drew ?_ | refine bl_grow ?_ _ _ | refine bl_set (Nat.le_refl _) ?_ _ | refine bl_call ?_ (by assumption)))); have hz5 : w.heap.size < w5.heap.size := Nat.lt_of_lt_of_le (by first | assumption | (simp; done) | (simp; omega)) hb5.size; have hy5 : w4.heap.size < w5.heap.size := Nat.lt_of_lt_of_le (by first | assumption | (simp; done) | (simp; omega)) hb5.size)
    have HD5 : Hid (∀ W, Below w5.heap.size w5 W → DevsAt W (Value.slice a4 ds.length cap4) ds) := fun W h => HD4.out W (bl_call (bl_call (below_alloc _ _) hb5) h)
    have hzz : w.heap.size < w4.heap.size + 1 := by omega
    have g0 : w5.cell? ⟨w.heap.size, 0, none⟩ = some (.int .i64 op) := by rw [hc5 _ _ (by simp; omega)]; simp [go_sem, hc4, hc3, hc2, hc, hz, hz2, hz3, hz4]
    have g1 : w5.cell? ⟨w.heap.size, 1, none⟩ = some (.slice a ds.length cap) := by rw [hc5 _ _ (by simp; omega)]; simp [go_sem, hc4, hc3, hc2, hc, hz, hz2, hz3, hz4]
    have g2 : w5.cell? ⟨w4.heap.size, 0, none⟩ = some (.int .i64 op) := by rw [hc5 _ _ (by simp)]; simp [go_sem]
    have g3 : w5.cell? ⟨w4.heap.size, 1, none⟩ = some (.slice a4 ds.length cap4) := by rw [hc5 _ _ (by simp)]; simp [go_sem]
    clear hc hc2 hc3 hc4 hc5 hf hf2 hf3 hf4 hf5
    go_region_with (first | (go_at_call 7; refine (l_toElem op _ ds _ (HA.out _ (by (repeat (first | exact Below.refl _ _ | assumption | refine bl_alloc ?_ _ | refine bl_drewN ?_ _ | refine bl_drew ?_ | refine bl_grow ?_ _ _ | refine bl_set (Nat.le_refl _) ?_ _ | refine bl_call ?_ (by assumption))))) hlen).mono ?_; rintro e w6 ⟨u6, rfl, hown6, hb6⟩; obtain ⟨hc6, hf6⟩ := bcell hb6; have hbw6 : Below w.heap.size w w6 := (by (repeat (first | exact Below.refl _ _ | assumption | refine bl_alloc ?_ _ | refine bl_drewN ?_ _ | refine bl_drew ?_ | refine bl_grow ?_ _ _ | refine bl_set (Nat.le_refl _) ?_ _ | refine bl_call ?_ (by assumption)))); have hz6 : w.heap.size < w6.heap.size := Nat.lt_of_lt_of_le (by first | assumption | (simp; done) | (simp; omega)) hb6.size; have hy6 : w4.heap.size < w6.heap.size := Nat.lt_of_lt_of_le (by first | assumption | (simp; done) | (simp; omega)) hb6.size; have HD6 : Hid (∀ W, Below w6.heap.size w6 W → DevsAt W u6 ds) := (fun W h => (DevsAt.of_owns hown6).below h); obtain ⟨a6, cap6, rfl, _⟩ := DevsAt.of_owns hown6; clear hown6; have k0 : w6.cell? ⟨w4.heap.size, 0, none⟩ = some (.int .i64 op) := (by rw [hc6 _ _ (by simpa using hy5)]; simpa [go_sem] using g2); have k1 : w6.cell? ⟨w4.heap.size, 1, none⟩ = some (.slice a4 ds.length cap4) := (by rw [hc6 _ _ (by simpa using hy5)]; simpa [go_sem] using g3); clear hc6 hf6) | (go_at_call 9; refine (l_eqElem op op _ _ ds ds _ (HD5.out _ (by first | exact hb6 | exact Below.trans hb6 (by (repeat (first | exact Below.refl _ _ | assumption | refine bl_alloc ?_ _ | refine bl_drewN ?_ _ | refine bl_drew ?_ | refine bl_grow ?_ _ _ | refine bl_set (Nat.le_refl _) ?_ _ | refine bl_call ?_ (by assumption)))) | exact bl_drewN hb6 _ | exact bl_drew hb6 | exact bl_call (bl_drew (Below.refl _ _)) hb6 | exact bl_call (bl_drewN (Below.refl _ _) _) hb6)) (HD6.out _ (by (repeat (first | exact Below.refl _ _ | assumption | refine bl_alloc ?_ _ | refine bl_drewN ?_ _ | refine bl_drew ?_ | refine bl_grow ?_ _ _ | refine bl_set (Nat.le_refl _) ?_ _ | refine bl_call ?_ (by assumption))))) hlen hlen).mono ?_; rw [decide_eq_true (show op = op ∧ ds = ds from ⟨rfl, rfl⟩)]; rintro e w7 ⟨rfl, hb7⟩; have hbw7 : Below w.heap.size w w7 := (by (repeat (first | exact Below.refl _ _ | assumption | refine bl_alloc ?_ _ | refine bl_drewN ?_ _ | refine bl_drew ?_ | refine bl_grow ?_ _ _ | refine bl_set (Nat.le_refl _) ?_ _ | refine bl_call ?_ (by assumption))))))
    all_goals go_wp2
    all_goals go_ret
    all_goals exact ⟨rfl, hbw7⟩
end Go.Proofs.YtcpojnbfinlgiaaDoor
