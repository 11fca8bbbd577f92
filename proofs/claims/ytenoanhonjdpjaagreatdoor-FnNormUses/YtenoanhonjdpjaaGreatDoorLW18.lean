/- The law on the operands of a normal form: the walk. -/
import Derived.Test.YtenoanhonjdpjaaGreatDoorLWN
import Derived.Deep.RegionWith
import Derived.Deep.RegionLaw
import Derived.Deep.RegionHeld3
import Derived.Lib.QuietBelow
namespace Go.Proofs.YtenoanhonjdpjaaGreatDoor
open Go.RowKit Go.Sort Go.BigFrame
def LadX2 (N k : Nat) (w : World) (e : Ending) (w' : World) : Prop := ∃ (l : List Stil.Arm) (v : Value), e = .returned v ∧ ArmsAt w' v l ∧ (∀ a ∈ l, ATame a ∧ Stil.armSz a ≤ N) ∧ l.length ≤ k ∧ Below w.heap.size w w'
def LadDev2 (w : World) (e : Ending) (w' : World) : Prop := ∃ (l : List Stil.Arm) (v : Value) (d : Stil.Dev), e = .returned (.tuple #[v, .agg #[.int .i64 d.kind, .int .i64 d.n, .int .i64 d.p]]) ∧ Small d ∧ ArmsAt w' v l ∧ Below w.heap.size w w'
set_option maxHeartbeats 4000000 in
set_option maxRecDepth 100000 in
theorem law_normUses (HD : ∀ u w, BytesAt w u → Calls Tryz.prog 18 #[u] w (LadX2 6000 104 w)) (HE : ∀ u w, BytesAt w u → Calls Tryz.prog 14 #[u] w (LadDev2 w)) (u t : Value) (w : World) (hrow : RowsAt w) (herr : ErrTypeAt w) (hu : BytesAt w u) (ht : BytesAt w t) :
  Calls Tryz.prog 7 #[u, t] w fun e w' => e = .returned (.bool true) ∧ Below w.heap.size w w' := by
 have HR0 : Hid (∀ W, Below w.heap.size w W → RowsAt W ∧ ErrTypeAt W) := fun W h => ⟨hrow.below h, herr.below h⟩
 have HDR : Hid (∀ W, Below w.heap.size w W → Calls Tryz.prog 18 #[u] W (LadX2 6000 104 W)) := fun W h => HD u W (hu.below h)
 have HER : Hid (∀ W, Below w.heap.size w W → Calls Tryz.prog 14 #[t] W (LadDev2 W)) := fun W h => HE t W (ht.below h)
 obtain ⟨ua, ul, uc, rfl, -, -, -⟩ := hu
 obtain ⟨ta, tl, tc, rfl, -, -, -⟩ := ht
 clear hrow herr HD HE
 by_cases hbig : 1048576 < ul
 ·go_enter Tryz.func7, Tryz.ntmps7
  go_wp2
  go_ret
  exact ⟨rfl, blA⟩
 by_cases hbig2 : 1048576 < tl
 ·go_enter Tryz.func7, Tryz.ntmps7
  go_wp2
  go_ret
  exact ⟨rfl, blA⟩
 go_enter Tryz.func7, Tryz.ntmps7
 go_upto_region 5 with (first | (go_at_call 18; refine (HDR.out _ blA).mono ?_; rintro e w1 ⟨l, v, rfl, hva, hta, hla, hb1⟩; have HL1 : Hid (LadF w1 v l) := ladF (lad_of hva hta hla (by omega) (by omega)); clear hta hla; obtain ⟨a1, c1, rfl, -⟩ := hva) | (go_at_call 14; refine (HER.out _ blA).mono ?_; rintro e w2 ⟨lx, vx, d, rfl, hd, hvx, hb2⟩; obtain ⟨a3, c3, rfl, -⟩ := hvx))
 obtain ⟨W3, hW3⟩ : ∃ W3, W3 = w2.alloc (Obj.cells #[Value.int IntKind.i64 d.kind, Value.int IntKind.i64 d.n, Value.int IntKind.i64 d.p] 42) := ⟨_, rfl⟩
 have hb3 : Below w1.heap.size w1 W3 := by rw [hW3]; (repeat (first | with_reducible exact Below.refl _ _ | with_reducible assumption | with_reducible refine bl_set (by first | exact Nat.le_refl _ | (simp; done) | (simp; omega) | omega) ?_ _ | with_reducible refine bl_alloc ?_ _ | with_reducible refine bl_drewN ?_ _ | with_reducible refine bl_drew ?_ | with_reducible refine bl_grow ?_ _ _ | with_reducible refine bl_call ?_ (by assumption)))
 have HX : Hid (∀ W, Below W3.heap.size W3 W → w2.heap.size < W.heap.size ∧ W.cell? ⟨w2.heap.size, 0, none⟩ = some (.int .i64 d.kind) ∧ W.cell? ⟨w2.heap.size, 1, none⟩ = some (.int .i64 d.n) ∧ W.cell? ⟨w2.heap.size, 2, none⟩ = some (.int .i64 d.p)) := by
  intro W h
  rw [hW3] at h
  refine ⟨Nat.lt_of_lt_of_le (by simp) h.size, (h.cell (p := ⟨w2.heap.size, 0, none⟩) (by simp)).trans (by simp [go_sem]), (h.cell (p := ⟨w2.heap.size, 1, none⟩) (by simp)).trans (by simp [go_sem]), (h.cell (p := ⟨w2.heap.size, 2, none⟩) (by simp)).trans (by simp [go_sem])⟩
 rw [← hW3]
 have HL : Hid (LadF W3 (.slice a1 l.length c1) l) := HL1.out.later hb3
 have hb0 : Below w.heap.size w W3 := hb1.trans (hb3.mono hb1.size)
 have HR : Hid (∀ W, Below W3.heap.size W3 W → RowsAt W ∧ ErrTypeAt W) := fun W h => HR0.out W (hb0.trans (h.mono hb0.size))
 have HFIN : Hid (∀ W, Below W3.heap.size W3 W → Below w.heap.size w W) := fun W h => hb0.trans (h.mono hb0.size)
 have hcb := (Stil.check_bound l).1
 have hff := fault_fld
 obtain ⟨n, hn⟩ : ∃ n, n = Stil.normMake l := ⟨_, rfl⟩
 have HIM : Hid (∀ W, Below W3.heap.size W3 W → Calls Tryz.prog 19 #[.slice a1 l.length c1] W fun e w' => ∃ (a : Option Addr) (c : Nat), e = .returned (.slice a n.length c) ∧ LadF w' (.slice a n.length c) n ∧ Below W.heap.size W w') := by rw [hn]; exact fun W h => i_makeG HR.out HL.out h
 clear hW3 hb1 hb2 hb3 HL1 HDR HER HR0 hb0 hbig hbig2
 by_cases h0 : (Stil.treeCheck l).1 = 0
 ·have HU : Hid (∀ d, Stil.treeUses d n = Stil.treeUses d l) := fun d => by rw [hn]; exact Stil.normMake_uses d h0
  clear hn hcb
  go_wp2_with (first | (go_at_call 11; refine (s_checkG (w := W3) HL.out blA).mono ?_; rintro e w4 ⟨rfl, hb4⟩))
  go_loopw [8] (fun i wr => ∃ j : Nat, j ≤ 8 ∧ i = .int .i64 j ∧ Below W3.heap.size W3 wr) (fun i _ => 8 - (intOf i).toNat)
  case atStart => exact ⟨0, by omega, rfl, hb4⟩
  case round =>
   obtain ⟨j, hj, rfl, hB⟩ := hrel
   obtain ⟨lx0, x0, x1, x2⟩ := HX.out wr hB
   by_cases hlt : j < 8
   ·have hk1 : IntKind.i64.wrap ((1 : Int) + j) = 1 + j := by rw [IntKind.wrap_i64]; omega
    go_upto_region 11 with fail
    obtain ⟨WB, hWB⟩ : ∃ WB, WB = wr.alloc (.cells #[.int .i64 ((1 : Int) + j), .int .i64 d.n, .int .i64 0] 42) := ⟨_, rfl⟩
    have hbWB : Below wr.heap.size wr WB := by rw [hWB]; exact below_alloc _ _
    have HBX : Hid (∀ W, Below WB.heap.size WB W → W.cell? ⟨wr.heap.size, 0, none⟩ = some (.int .i64 ((1 : Int) + j)) ∧ W.cell? ⟨wr.heap.size, 1, none⟩ = some (.int .i64 d.n) ∧ W.cell? ⟨wr.heap.size, 2, none⟩ = some (.int .i64 0)) := by
     intro W h
     rw [hWB] at h
     refine ⟨(h.cell (p := ⟨wr.heap.size, 0, none⟩) (by simp)).trans (by simp [go_sem]), (h.cell (p := ⟨wr.heap.size, 1, none⟩) (by simp)).trans (by simp [go_sem]), (h.cell (p := ⟨wr.heap.size, 2, none⟩) (by simp)).trans (by simp [go_sem])⟩
    rw [← hWB]
    clear hWB
    obtain ⟨y0, y1, y2⟩ := HBX.out WB (Below.refl _ _)
    have hB3 : Below W3.heap.size W3 WB := hB.trans (hbWB.mono hB.size)
    have HC : Hid (∀ W, Below WB.heap.size WB W → Below W3.heap.size W3 W) := fun W h => hB3.trans (h.mono hB3.size)
    clear hbWB hB x0 x1 x2
    go_region_held3 (fun W' => (W'.cell? ⟨wr.heap.size, 0, none⟩ = some (.int .i64 ((1 : Int) + j)) ∧ W'.cell? ⟨wr.heap.size, 1, none⟩ = some (.int .i64 d.n) ∧ W'.cell? ⟨wr.heap.size, 2, none⟩ = some (.int .i64 0))) (first | with_reducible assumption | with_reducible exact ⟨cellDrew.trans y0, cellDrew.trans y1, cellDrew.trans y2⟩ | skip) (first | (go_at_call 19; refine (HIM.out _ blA).mono ?_; rintro e w5 ⟨a5, c5, rfl, hl5, hb5⟩; have HL5 : Hid (LadF w5 (.slice a5 n.length c5) n) := hl5; have hC5 : Below WB.heap.size WB w5 := blA; have hS5 : (w5.cell? ⟨wr.heap.size, 0, none⟩ = some (.int .i64 ((1 : Int) + j)) ∧ w5.cell? ⟨wr.heap.size, 1, none⟩ = some (.int .i64 d.n) ∧ w5.cell? ⟨wr.heap.size, 2, none⟩ = some (.int .i64 0)) := HBX.out w5 hC5; clear hl5) | (go_at_call 17; refine (i_usesG (w := w5) ⟨(1 : Int) + j, d.n, 0⟩ HL5.out blA).mono ?_; rw [HU.out]; rintro e w6 ⟨rfl, hb6⟩; have hC6 : Below WB.heap.size WB w6 := blA; have hS6 : (w6.cell? ⟨wr.heap.size, 0, none⟩ = some (.int .i64 ((1 : Int) + j)) ∧ w6.cell? ⟨wr.heap.size, 1, none⟩ = some (.int .i64 d.n) ∧ w6.cell? ⟨wr.heap.size, 2, none⟩ = some (.int .i64 0)) := HBX.out w6 hC6) | (go_at_call 24; refine (s_usesG (w := W3) ⟨(1 : Int) + j, d.n, 0⟩ HL.out blA).mono ?_; rintro e w7 ⟨rfl, hb7⟩; have hC7 : Below WB.heap.size WB w7 := blA; have hS7 : (w7.cell? ⟨wr.heap.size, 0, none⟩ = some (.int .i64 ((1 : Int) + j)) ∧ w7.cell? ⟨wr.heap.size, 1, none⟩ = some (.int .i64 d.n) ∧ w7.cell? ⟨wr.heap.size, 2, none⟩ = some (.int .i64 0)) := HBX.out w7 hC7))
    all_goals
     go_wp2
     exact ⟨⟨j + 1, by omega, by go_num, HC.out _ blA⟩, by simp [intOf]; omega⟩
   ·obtain rfl : j = 8 := by omega
    go_upto_region 13 with fail
    have HBX : Hid (∀ W, Below wr.heap.size wr W → W.cell? ⟨w2.heap.size, 0, none⟩ = some (.int .i64 d.kind) ∧ W.cell? ⟨w2.heap.size, 1, none⟩ = some (.int .i64 d.n) ∧ W.cell? ⟨w2.heap.size, 2, none⟩ = some (.int .i64 d.p)) := fun W h => (HX.out W (hB.trans (h.mono hB.size))).2
    have HC : Hid (∀ W, Below wr.heap.size wr W → Below W3.heap.size W3 W) := fun W h => hB.trans (h.mono hB.size)
    obtain ⟨y0, y1, y2⟩ := HBX.out wr (Below.refl _ _)
    clear x0 x1 x2
    go_region_held3 (fun W' => (W'.cell? ⟨w2.heap.size, 0, none⟩ = some (.int .i64 d.kind) ∧ W'.cell? ⟨w2.heap.size, 1, none⟩ = some (.int .i64 d.n) ∧ W'.cell? ⟨w2.heap.size, 2, none⟩ = some (.int .i64 d.p))) (first | with_reducible assumption | with_reducible exact ⟨cellDrew.trans y0, cellDrew.trans y1, cellDrew.trans y2⟩ | skip) (first | (go_at_call 19; refine (HIM.out _ blA).mono ?_; rintro e w5 ⟨a5, c5, rfl, hl5, hb5⟩; have HL5 : Hid (LadF w5 (.slice a5 n.length c5) n) := hl5; have hC5 : Below wr.heap.size wr w5 := blA; have hS5 : (w5.cell? ⟨w2.heap.size, 0, none⟩ = some (.int .i64 d.kind) ∧ w5.cell? ⟨w2.heap.size, 1, none⟩ = some (.int .i64 d.n) ∧ w5.cell? ⟨w2.heap.size, 2, none⟩ = some (.int .i64 d.p)) := HBX.out w5 hC5; clear hl5) | (go_at_call 17; refine (i_usesG (w := w5) d HL5.out blA).mono ?_; rw [HU.out]; rintro e w6 ⟨rfl, hb6⟩; have hC6 : Below wr.heap.size wr w6 := blA; have hS6 : (w6.cell? ⟨w2.heap.size, 0, none⟩ = some (.int .i64 d.kind) ∧ w6.cell? ⟨w2.heap.size, 1, none⟩ = some (.int .i64 d.n) ∧ w6.cell? ⟨w2.heap.size, 2, none⟩ = some (.int .i64 d.p)) := HBX.out w6 hC6) | (go_at_call 24; refine (s_usesG (w := W3) d HL.out blA).mono ?_; rintro e w7 ⟨rfl, hb7⟩; have hC7 : Below wr.heap.size wr w7 := blA; have hS7 : (w7.cell? ⟨w2.heap.size, 0, none⟩ = some (.int .i64 d.kind) ∧ w7.cell? ⟨w2.heap.size, 1, none⟩ = some (.int .i64 d.n) ∧ w7.cell? ⟨w2.heap.size, 2, none⟩ = some (.int .i64 d.p)) := HBX.out w7 hC7))
    all_goals
     go_wp2
     go_ret
     exact ⟨rfl, HFIN.out _ (HC.out _ blA)⟩
 ·have e : n = [] := by rw [hn]; exact if_neg h0
  subst e
  clear hn
  have hpos : 0 < (Stil.treeCheck l).1 := by omega
  go_wp2_with (first | (go_at_call 11; refine (s_checkG (w := W3) HL.out blA).mono ?_; rintro e w4 ⟨rfl, hb4⟩) | (go_at_call 19; refine (HIM.out _ blA).mono ?_; rintro e w5 ⟨a5, c5, rfl, hl5, hb5⟩; clear hl5))
  go_ret
  exact ⟨rfl, HFIN.out _ blA⟩
end Go.Proofs.YtenoanhonjdpjaaGreatDoor
