/- The law on what is verified: the walk. -/
import Derived.Test.YtbfkfdbkjbgneaaGreatDoorHm
import Derived.Test.YtbfkfdbkjbgneaaGreatDoorL10
import Derived.Deep.RegionWith
import Derived.Lib.QuietBelow
namespace Go.Proofs.YtbfkfdbkjbgneaaGreatDoor
open Go.RowKit Go.Sort Go.BigFrame
set_option maxHeartbeats 4000000 in
set_option maxRecDepth 100000 in
theorem law_sureTop (u : Value) (w : World) (hrow : RowsAt w) (hlw : LWordsAt w) (hu : BytesAt w u) :
    Calls Tryz.prog 3 #[u] w fun e w' => e = .returned (.bool true) ∧ Below w.heap.size w w' := by
  have HR : Hid (∀ W, Below w.heap.size w W → RowsAt W ∧ LWordsAt W) := fun W h => ⟨hrow.below h, hlw.below h⟩
  have HDU : Hid (∀ W, Below w.heap.size w W → Calls Tryz.prog 5 #[u] W fun e w' => HalfOut e W w') := fun W h => s_drawSureCheck u W (hu.below h)
  obtain ⟨ua, ul, uc, rfl, -, -, -⟩ := hu
  clear hrow hlw
  by_cases hbig : 1048576 < ul
  · go_enter Tryz.func3, Tryz.ntmps3
    go_wp2
    go_ret
    exact ⟨rfl, by (repeat (first | with_reducible exact Below.refl _ _ | with_reducible assumption | with_reducible refine bl_set (by first | exact Nat.le_refl _ | (simp; done) | (simp; omega) | omega) ?_ _ | with_reducible refine bl_alloc ?_ _ | with_reducible refine bl_drewN ?_ _ | with_reducible refine bl_drew ?_ | with_reducible refine bl_grow ?_ _ _ | with_reducible refine bl_call ?_ (by assumption)))⟩
  go_enter Tryz.func3, Tryz.ntmps3
  go_upto_region 4 with (go_at_call 5; refine (HDU.out _ (by (repeat (first | with_reducible exact Below.refl _ _ | with_reducible assumption | with_reducible refine bl_set (by first | exact Nat.le_refl _ | (simp; done) | (simp; omega) | omega) ?_ _ | with_reducible refine bl_alloc ?_ _ | with_reducible refine bl_drewN ?_ _ | with_reducible refine bl_drew ?_ | with_reducible refine bl_grow ?_ _ _ | with_reducible refine bl_call ?_ (by assumption))))).mono ?_; rintro e w1 ⟨l, v1, rfl, hin1, ht1, hn1, hb1⟩)
  have HL : Hid (LstF w1 v1 l) := lstF (lst_of hin1 ht1 hn1 (by omega))
  have HR1 : Hid (∀ W, Below w1.heap.size w1 W → RowsAt W ∧ LWordsAt W) := fun W h => HR.out W (hb1.trans (h.mono hb1.size))
  have HFIN : Hid (∀ W, Below w1.heap.size w1 W → Below w.heap.size w W) := fun W h => hb1.trans (h.mono hb1.size)
  have HHD : Hid (Stil.wsHolds l = decide ((Stil.sureCheck l).1 = 0)) := Stil.holds_iff l
  have hbd := (Stil.check_bounds l).2.2
  obtain ⟨a1, k1, rfl, -⟩ := id hin1
  have HSC : Hid (∀ W, Below w1.heap.size w1 W → Calls Tryz.prog 7 #[.slice a1 l.length k1] W fun e w' => e = .returned (.agg #[.int .i64 (Stil.sureCheck l).1, .int .i64 (Stil.sureCheck l).2]) ∧ Below W.heap.size W w') := fun W h => s_checkL HL.out h
  have HIC : Hid (∀ W, Below w1.heap.size w1 W → Calls Tryz.prog 6 #[.slice a1 l.length k1] W fun e w' => e = .returned (.agg #[.int .i64 (Stil.sureCheck l).1, .int .i64 (Stil.sureCheck l).2]) ∧ Below W.heap.size W w') := fun W h => i_checkL HR1.out HL.out h
  have HWS : Hid (∀ W, Below w1.heap.size w1 W → Calls Tryz.prog 8 #[.slice a1 l.length k1] W fun e w' => e = .returned (.bool (decide ((Stil.sureCheck l).1 = 0))) ∧ Below W.heap.size W w') := fun W h => by
    have h2 := HL.out W h
    have := l_wsHolds l _ W h2.1 h2.2.2 h2.2.1
    rw [HHD.out] at this
    exact this
  obtain ⟨c1, hc1⟩ : ∃ c, c = (Stil.sureCheck l).1 := ⟨_, rfl⟩
  obtain ⟨c2, hc2⟩ : ∃ c, c = (Stil.sureCheck l).2 := ⟨_, rfl⟩
  rw [← hc1, ← hc2] at HSC HIC
  rw [← hc1] at HWS
  rw [← hc2] at hbd
  clear hc1 hc2 hin1 ht1 hb1 HR HR1 HDU HHD HL
  go_upto_region 5 with (go_at_call 6; refine (HIC.out _ (by (repeat (first | with_reducible exact Below.refl _ _ | with_reducible assumption | with_reducible refine bl_set (by first | exact Nat.le_refl _ | (simp; done) | (simp; omega) | omega) ?_ _ | with_reducible refine bl_alloc ?_ _ | with_reducible refine bl_drewN ?_ _ | with_reducible refine bl_drew ?_ | with_reducible refine bl_grow ?_ _ _ | with_reducible refine bl_call ?_ (by assumption))))).mono ?_; rintro e w2 ⟨rfl, hb2⟩)
  obtain ⟨W3, hW3⟩ : ∃ W3, W3 = w2.alloc (Obj.cells #[Value.int IntKind.i64 c1, Value.int IntKind.i64 (c2 : Int)] 26) := ⟨_, rfl⟩
  have hb3 : Below w1.heap.size w1 W3 := by rw [hW3]; (repeat (first | with_reducible exact Below.refl _ _ | with_reducible assumption | with_reducible refine bl_set (by first | exact Nat.le_refl _ | (simp; done) | (simp; omega) | omega) ?_ _ | with_reducible refine bl_alloc ?_ _ | with_reducible refine bl_drewN ?_ _ | with_reducible refine bl_drew ?_ | with_reducible refine bl_grow ?_ _ _ | with_reducible refine bl_call ?_ (by assumption)))
  have x0 : W3.cell? ⟨w2.heap.size, 0, none⟩ = some (.int .i64 c1) := by rw [hW3]; simp [go_sem]
  have x1 : W3.cell? ⟨w2.heap.size, 1, none⟩ = some (.int .i64 c2) := by rw [hW3]; simp [go_sem]
  rw [← hW3]
  have r0 := cell_regrown x0
  have r1 := cell_regrown x1
  have HSC3 : Hid (∀ W, Below W3.heap.size W3 W → Calls Tryz.prog 7 #[.slice a1 l.length k1] W fun e w' => e = .returned (.agg #[.int .i64 c1, .int .i64 c2]) ∧ Below W.heap.size W w') := fun W h => HSC.out W (hb3.trans (h.mono hb3.size))
  have HWS3 : Hid (∀ W, Below W3.heap.size W3 W → Calls Tryz.prog 8 #[.slice a1 l.length k1] W fun e w' => e = .returned (.bool (decide (c1 = 0))) ∧ Below W.heap.size W w') := fun W h => HWS.out W (hb3.trans (h.mono hb3.size))
  have HFIN3 : Hid (∀ W, Below W3.heap.size W3 W → Below w.heap.size w W) := fun W h => HFIN.out W (hb3.trans (h.mono hb3.size))
  have hg : decide ((c2 : Int) ≤ (l.length : Int)) = true := by simp; exact hbd
  clear x0 x1 hW3 hb2 HSC HIC HWS HFIN hb3
  by_cases h0 : c1 = 0
  · subst h0
    refine wp_region_quiet_below (by kernel_rfl) (by kernel_rfl) ?_
    repeat (go_big_quiet_step ((first | exact Calls.regrown_of (HSC3.out _ (by (repeat (first | exact Below.refl _ _ | assumption | refine bl_alloc ?_ _ | refine bl_drewN ?_ _ | refine bl_drew ?_ | refine bl_grow ?_ _ _ | refine bl_set (Nat.le_refl _) ?_ _ | refine bl_call ?_ (by assumption))))) | exact Calls.regrown_of (HWS3.out _ (by (repeat (first | exact Below.refl _ _ | assumption | refine bl_alloc ?_ _ | refine bl_drewN ?_ _ | refine bl_drew ?_ | refine bl_grow ?_ _ _ | refine bl_set (Nat.le_refl _) ?_ _ | refine bl_call ?_ (by assumption))))))))
    refine wpQuiet_nil ?_
    intro _ hw'
    obtain ⟨⟨dq, osq⟩, hw''⟩ := hw'
    subst hw''
    go_wp2
    go_ret
    exact ⟨by first | rfl | simp, HFIN3.out _ (below_regrown _ _ _)⟩
  · have e0 : (c1 == 0) = false := beq_eq_false_iff_ne.2 h0
    have e1 : decide (c1 = 0) = false := decide_eq_false h0
    rw [e1] at HWS3
    refine wp_region_quiet_below (by kernel_rfl) (by kernel_rfl) ?_
    repeat (go_big_quiet_step ((first | exact Calls.regrown_of (HSC3.out _ (by (repeat (first | exact Below.refl _ _ | assumption | refine bl_alloc ?_ _ | refine bl_drewN ?_ _ | refine bl_drew ?_ | refine bl_grow ?_ _ _ | refine bl_set (Nat.le_refl _) ?_ _ | refine bl_call ?_ (by assumption))))) | exact Calls.regrown_of (HWS3.out _ (by (repeat (first | exact Below.refl _ _ | assumption | refine bl_alloc ?_ _ | refine bl_drewN ?_ _ | refine bl_drew ?_ | refine bl_grow ?_ _ _ | refine bl_set (Nat.le_refl _) ?_ _ | refine bl_call ?_ (by assumption))))))))
    refine wpQuiet_nil ?_
    intro _ hw'
    obtain ⟨⟨dq, osq⟩, hw''⟩ := hw'
    subst hw''
    go_wp2
    go_ret
    exact ⟨by first | rfl | simp, HFIN3.out _ (below_regrown _ _ _)⟩
end Go.Proofs.YtbfkfdbkjbgneaaGreatDoor
