/- The program's chapter 8: the ladder of a verified list. -/
import Derived.Test.YtpaljcoojkbhnaaGreatDoorI34a
set_option maxHeartbeats 4000000
set_option maxRecDepth 100000
namespace Go.Proofs.YtpaljcoojkbhnaaGreatDoor
open Go.RowKit Go.Sort Go.BigFrame Go.Shelf
attribute [local go_sem] Oper.semAt_some
theorem i_backLadder_ok (L : List Stil.Inst) (b o cap : Nat) (w : World) (xs : List Stil.Arm) (hrw : RowsAt w) (hlw : LWordsAt w) (hE : ErrTypeAt w) (hat : LAt w b o L) (hl : L.length ≤ 1000) (hft : ∀ x ∈ L, x.fits) (hcap : L.length ≤ cap) (hz : (Stil.sureCheck L).1 = 0) (cs : List (List Stil.Inst)) (hup : Stil.UpR cs xs) (hfl : cs.flatten = L) (hxf : ∀ x ∈ xs, Stil.armFits x) (hxs : Stil.treeSize xs ≤ 4000) (hxl : xs.length ≤ 1000) :
  Calls Tryz.prog 39 #[.slice (some ⟨b, o, none⟩) L.length cap] w fun e w' => (∃ (a : Option Addr) (c : Nat) (ms : List MArm) (er : Value), e = .returned (.tuple #[.slice a ms.length c, er]) ∧ ms.map MArm.arm = (Stil.upOf xs).1 ∧ ARow w' w.heap.size (.slice a ms.length c) ms ∧ (er = .nilIface ∧ (Stil.upOf xs).2 = 0 ∨ er = .iface 61 (.int .i64 (Stil.upOf xs).2) ∧ 0 < (Stil.upOf xs).2)) ∧ Below w.heap.size w w' := by
 have hz2 := (Stil.sureCheck_zero L (by omega)).2
 have HC : Hid (∀ W, Below w.heap.size w W → Calls Tryz.prog 69 #[.slice (some ⟨b, o, none⟩) L.length cap] W fun e w' => e = .returned (.agg #[.int .i64 0, .int .i64 0]) ∧ Below W.heap.size W w') := fun W h => by
  have h2 := i_sureCheck L (.slice (some ⟨b, o, none⟩) L.length cap) W (hrw.below h) (hlw.below h) ⟨_, _, rfl, fun i hi => ⟨b, o, rfl, Nat.lt_of_lt_of_le (hat.lt hi) h.size, (hat.2 i hi).below h (hat.lt hi)⟩⟩ (by omega) hft
  rw [hz, hz2] at h2
  exact h2
 have HAC : Hid (∀ (W : World) (kv : Value), Below w.heap.size w W → ArmsAt W kv xs → Calls Tryz.prog 71 #[kv] W fun e w' => e = .returned (.bool (decide ((Stil.treeCheck xs).1 = 0))) ∧ Below W.heap.size W w') := fun W kv h hk => i_accepted xs kv W (hrw.below h) (hE.below h) hk (by omega) (by omega) hxf
 have HAT : Hid (LAt w b o L) := hat
 have HF : Hid (∀ x ∈ L, x.fits) := hft
 have HUP : Hid (Stil.UpR cs xs) := hup
 have HFL : Hid (cs.flatten = L) := hfl
 clear hrw hlw hE hat hft hz hz2 hup hfl hxf hxs
 refine (callsIn_wide (n := 9)).1 ?_
 refine callsIn_of_wp_marks Tryz.func39 rfl trivial ?_ rfl
 simp only [Tryz.ntmps39, List.size_toArray, List.length_cons, List.length_nil, Nat.reduceAdd, Nat.reduceSub, Array.replicate_succ, Array.replicate_zero, List.push_toArray, List.append_toArray, List.nil_append, List.cons_append]
 gi_wp2_with (first | (refine ⟨trivial, ?_⟩; gi_at_call 69; refine (callsIn_wide.2 (HC.out _ blA)).mono ?_; rintro e w1 ⟨rfl, hb1⟩) | (refine ⟨trivial, ?_⟩; gi_at_call 70; refine (callsIn_wide.2 (i_mkRungs _ _ _ _)).mono ?_; rintro e w2 ⟨rfl, hLB, hs2, hb2⟩))
 simp only [World.size_alloc] at hLB hs2
 have hB2 : Below w.heap.size w w2 := blA
 have hs1 := hb1.size
 have hRB : w2.cell? ⟨w1.heap.size, 0, none⟩ = some (.slice none 0 0) := clA hb2
 have hRF : w2.frozen? ⟨w1.heap.size, 0, none⟩ = false := frA hb2
 refine range_own (α := MArm) rfl (enters_of Tryz.func100 (by kernel_rfl) rfl) armArg rfl
  (fun pre W => ∃ (ra : Option Addr) (rc : Nat), W.cell? ⟨w1.heap.size, 0, none⟩ = some (.slice ra pre.length rc) ∧ W.frozen? ⟨w1.heap.size, 0, none⟩ = false ∧ ARow W (w2.heap.size + 3) (.slice ra pre.length rc) pre ∧ Below w.heap.size w W)
  (fun ys => ys.map MArm.arm = xs) (fun pre x A W1 => (∃ lo, A.heap.size ≤ lo ∧ w2.heap.size + 2 < lo ∧ lo ≤ W1.heap.size ∧ AOwn W1 lo x) ∧ pre.length < 1000) (Kq w.heap.size (w2.heap.size + 2)) ?h0 ?hseq ?hround ?hdone
 case h0 =>
  intro W hs hb
  exact ⟨none, 0, (hb.cell (p := ⟨w1.heap.size, 0, none⟩) (by simp only; omega)).trans hRB, (hb.frozen (p := ⟨w1.heap.size, 0, none⟩) (by simp only; omega)).trans hRF, ARow.nil _ _, hB2.trans (hb.mono hB2.size)⟩
 case hseq =>
  intro J W hs hb hj hY
  have h := i_rungsF w b o cap (w1.heap.size + 1) (w2.heap.size + 1) (9 - 1) L HAT.out hl HF.out hcap J W (hB2.trans (hb.mono hB2.size)) ((hb.cell (p := ⟨w1.heap.size + 1, 0, none⟩) (by simp only; omega)).trans hLB) (fun pre x A W1 h1 h2 h3 h4 => by
   rw [hs] at h3
   exact (hY pre x A W1 h1 h2 ⟨h3, h4⟩).mono (fun e W' hh => ⟨hh.1, hh.2.1, hh.2.2.1, by rw [hs]; exact hh.2.2.2⟩)) hj cs xs HUP.out HFL.out hxl
  exact h
 case hround =>
  rintro pre x A W1 r' ⟨ra, rc, hc, hf, hrow, hBA⟩ hltA hg ⟨⟨lo, hlo1, hlo2, hlo3, hxo⟩, hpl⟩ ⟨r, hl1⟩ hd1
  obtain ⟨mk, mop, mds, xa, ya, xb, yb, mns, xc, yc, mcs, xd, yd, mks, rfl⟩ := marm_form x hxo.1
  have hrowlt := hrow.lt
  have hneP : (some (w2.heap.size + 2) : Option Nat) ≠ some w1.heap.size := fun e => by injection e with e; omega
  have hAs : w1.heap.size < A.heap.size := lt_of_cell3 hc
  have hc1 : W1.cell? ⟨w1.heap.size, 0, none⟩ = some (.slice ra pre.length rc) := (grownO_cell hg hAs hneP).trans hc
  have hf1 : W1.frozen? ⟨w1.heap.size, 0, none⟩ = false := (grownO_frozen hg hAs hneP).trans hf
  have hrow1 : ARow W1 (w2.heap.size + 3) (.slice ra pre.length rc) pre := hrow.grownP hg (by omega)
  have hB1 : Below w.heap.size w W1 := hBA.trans (below_of_grown hg (by omega) (by omega))
  -- the world in which the body begins
  obtain ⟨WB, hWB⟩ : ∃ WB, WB = (W1.alloc (.cells #[.int .i64 mk, .int .i64 mop, .slice xa mds.length ya, .slice xb mns.length yb, .slice xc mcs.length yc, .slice xd mks.length yd] 80)).putObj (w2.heap.size + 1) (.loop r') := ⟨_, rfl⟩
  have hsB : WB.heap.size = W1.heap.size + 1 := by rw [hWB]; simp
  have hgB : (W1.alloc (.cells #[.int .i64 mk, .int .i64 mop, .slice xa mds.length ya, .slice xb mns.length yb, .slice xc mcs.length yc, .slice xd mks.length yd] 80)).grownBy WB (some (w2.heap.size + 1)) := by rw [hWB]; exact grownBy_putObj' _ _ _
  have hneL : (some (w2.heap.size + 1) : Option Nat) ≠ some w1.heap.size := fun e => by injection e with e; omega
  have hR1 : w1.heap.size < W1.heap.size := lt_of_cell3 hc1
  have rbB : WB.cell? ⟨w1.heap.size, 0, none⟩ = some (.slice ra pre.length rc) := (grownO_cell hgB (by simp; omega) hneL).trans ((celA hR1).trans hc1)
  have rfB : WB.frozen? ⟨w1.heap.size, 0, none⟩ = false := (grownO_frozen hgB (by simp; omega) hneL).trans (((below_alloc W1 (.cells #[.int .i64 mk, .int .i64 mop, .slice xa mds.length ya, .slice xb mns.length yb, .slice xc mcs.length yc, .slice xd mks.length yd] 80)).frozen (p := ⟨w1.heap.size, 0, none⟩) hR1).trans hf1)
  have hbx : B6 WB W1.heap.size (.int .i64 mk) (.int .i64 mop) (.slice xa mds.length ya) (.slice xb mns.length yb) (.slice xc mcs.length yc) (.slice xd mks.length yd) := (B6.new W1 _ _ _ _ _ _ _).grown hgB (fun e => by injection e with e; omega)
  have hrowB : ARow WB (w2.heap.size + 3) (.slice ra pre.length rc) pre := (hrow1.below (below_alloc _ _)).grownP hgB (by omega)
  have hxB : AOwn WB lo (MArm.mk ⟨mk, mop, mds, .slice xa mds.length ya, .slice xb mns.length yb, mns⟩ (.slice xc mcs.length yc) mcs (.slice xd mks.length yd) mks) := (hxo.below (below_alloc _ _)).grownP hgB (by omega)
  have hKB : Kq w.heap.size (w2.heap.size + 2) W1 WB := ((Kq.refl _ _ W1).grown (by omega) (by omega) (grown_of (below_alloc W1 (.cells #[.int .i64 mk, .int .i64 mop, .slice xa mds.length ya, .slice xb mns.length yb, .slice xc mcs.length yc, .slice xd mks.length yd] 80)) none) (fun q e => by cases e)).grown (by simp; omega) (by simp; omega) hgB (fun q e => by injection e with e; omega)
  have hlB : WB.heap[(w2.heap.size + 1)]? = ((W1.alloc (.cells #[.int .i64 mk, .int .i64 mop, .slice xa mds.length ya, .slice xb mns.length yb, .slice xc mcs.length yc, .slice xd mks.length yd] 80)).putObj (w2.heap.size + 1) (.loop r')).heap[(w2.heap.size + 1)]? := by rw [hWB]
  have hdB : WB.heap[w2.heap.size]? = some (.deferred (some [])) := by
   rw [hWB]
   exact (World.putObj_heap_other (by omega)).trans (((below_alloc W1 (.cells #[.int .i64 mk, .int .i64 mop, .slice xa mds.length ya, .slice xb mns.length yb, .slice xc mcs.length yc, .slice xd mks.length yd] 80)).block _ (by omega)).trans hd1)
  have hal : (W1.alloc (.cells #[.int .i64 mk, .int .i64 mop, .slice xa mds.length ya, .slice xb mns.length yb, .slice xc mcs.length yc, .slice xd mks.length yd] 80)).heap[(w2.heap.size + 1)]? = W1.heap[(w2.heap.size + 1)]? := (below_alloc W1 (.cells #[.int .i64 mk, .int .i64 mop, .slice xa mds.length ya, .slice xb mns.length yb, .slice xc mcs.length yc, .slice xd mks.length yd] 80)).block _ (by omega)
  have HROW : Hid (ARow WB (w2.heap.size + 3) (.slice ra pre.length rc) pre) := hrowB
  have hZ := nilNet_vals
  have hzv : (rowArm (.slice none 0 0) []).vals = [.slice none 0 0, .slice none 0 0, .slice none 0 0, .slice none 0 0] := by
   rw [MArm.vals_eq]
   show nilNet.vals ++ _ = _
   rw [nilNet_vals]
   rfl
  have HZC : Hid (∀ j u, (aCells [(rowArm (.slice none 0 0) [])])[j]? = some u → ((WB.alloc (.cells #[.int .i64 0, .int .i64 0, .slice none 0 0, .slice none 0 0, .slice none 0 0, .slice none 0 0] 80)).drew).cell? ((⟨WB.heap.size, 0, none⟩ : Addr).add j) = some u) := by exact cells6a
  have HZK : Hid (AOk ((WB.alloc (.cells #[.int .i64 0, .int .i64 0, .slice none 0 0, .slice none 0 0, .slice none 0 0, .slice none 0 0] 80)).drew) (w2.heap.size + 3) (rowArm (.slice none 0 0) [])) := (rowArm_own (ARow.nil _ _)).1
  have HZP : Hid ((Value.slice ra pre.length rc :: (aVals pre ++ aVals [(rowArm (.slice none 0 0) [])])).Pairwise Aside) := by
   show List.Pairwise _ _
   rw [← List.cons_append, aVals_one, hzv]
   refine List.pairwise_append.2 ⟨hrowB.2.2, ?_, fun y _ u hu => ?_⟩
   ·exact List.pairwise_cons.2 ⟨fun y _ => aside_nil y, List.pairwise_cons.2 ⟨fun y _ => aside_nil y, List.pairwise_cons.2 ⟨fun y _ => aside_nil y, List.pairwise_singleton _ _⟩⟩⟩
   ·simp only [List.mem_cons, List.not_mem_nil, or_false, or_self] at hu
    rw [hu]; exact (aside_nil y).symm
  have HBS : Hid ((w2.heap.size + 3) ≤ ((WB.alloc (.cells #[.int .i64 0, .int .i64 0, .slice none 0 0, .slice none 0 0, .slice none 0 0, .slice none 0 0] 80)).drew).heap.size) := by show _ ≤ (WB.alloc (.cells #[.int .i64 0, .int .i64 0, .slice none 0 0, .slice none 0 0, .slice none 0 0, .slice none 0 0] 80)).heap.size; simp; omega
  have hown : ∀ q, (Value.slice ra pre.length rc).ownBlock = some q → (w2.heap.size + 3) ≤ q ∧ q < A.heap.size := fun q hq => hrowlt _ (List.mem_cons_self ..) q hq
  have HX6 : Hid (∀ (g c6 : Nat) (w6 : World), ARow w6 (w2.heap.size + 3) (.slice (some ⟨g, 0, none⟩) (pre.length + 1) c6) (pre ++ [(rowArm (.slice none 0 0) [])]) → ((WB.alloc (.cells #[.int .i64 0, .int .i64 0, .slice none 0 0, .slice none 0 0, .slice none 0 0, .slice none 0 0] 80)).drew).grownBy w6 (Value.slice ra pre.length rc).ownBlock → w6.cell? ⟨w1.heap.size, 0, none⟩ = some (.slice ra pre.length rc) ∧ w6.frozen? ⟨w1.heap.size, 0, none⟩ = false ∧ w6.cell? ⟨g, pre.length * 6, none⟩ = some (.int .i64 0) ∧ w6.cell? ⟨g, pre.length * 6 + 1, none⟩ = some (.int .i64 0) ∧ w6.cell? ⟨g, pre.length * 6 + 2, none⟩ = some (.slice none 0 0) ∧ w6.cell? ⟨g, pre.length * 6 + 3, none⟩ = some (.slice none 0 0) ∧ w6.cell? ⟨g, pre.length * 6 + 4, none⟩ = some (.slice none 0 0) ∧ w6.cell? ⟨g, pre.length * 6 + 5, none⟩ = some (.slice none 0 0) ∧ w6.frozen? ⟨g, pre.length * 6, none⟩ = false ∧ w6.frozen? ⟨g, pre.length * 6 + 1, none⟩ = false ∧ w6.frozen? ⟨g, pre.length * 6 + 2, none⟩ = false ∧ w6.frozen? ⟨g, pre.length * 6 + 3, none⟩ = false ∧ w6.frozen? ⟨g, pre.length * 6 + 4, none⟩ = false ∧ w6.frozen? ⟨g, pre.length * 6 + 5, none⟩ = false ∧ ¬ w1.heap.size = g ∧ ¬ g = w1.heap.size ∧ (0 : Int) ≤ (pre.length : Int) ∧ (pre.length : Int) < (pre.length : Int) + 1) := fun g c6 w6 hA hg6 => by
   obtain ⟨y1, y2, y3, y4⟩ := row_cells hA
   have hgt := aCells_get (pre ++ [(rowArm (.slice none 0 0) [])]) pre.length (by simp)
   have hge : (pre ++ [(rowArm (.slice none 0 0) [])])[pre.length]'(by simp) = (rowArm (.slice none 0 0) []) := by simp
   rw [hge] at hgt
   have hne : (Value.slice ra pre.length rc).ownBlock ≠ some w1.heap.size := fun e => by have := (hown _ e).1; omega
   have hsz : w1.heap.size < ((WB.alloc (.cells #[.int .i64 0, .int .i64 0, .slice none 0 0, .slice none 0 0, .slice none 0 0, .slice none 0 0] 80)).drew).heap.size := by show _ < (WB.alloc (.cells #[.int .i64 0, .int .i64 0, .slice none 0 0, .slice none 0 0, .slice none 0 0, .slice none 0 0] 80)).heap.size; simp; omega
   refine ⟨(grownO_cell hg6 hsz hne).trans ((celD.trans (celA (by omega))).trans rbB), (grownO_frozen hg6 hsz hne).trans (((below_alloc WB (.cells #[.int .i64 0, .int .i64 0, .slice none 0 0, .slice none 0 0, .slice none 0 0, .slice none 0 0] 80)).frozen (p := ⟨w1.heap.size, 0, none⟩) (by simp only; omega)).trans rfB), y1 _ _ hgt.1, y1 _ _ hgt.2.1, y1 _ _ hgt.2.2.1, y1 _ _ hgt.2.2.2.1, y1 _ _ hgt.2.2.2.2.1, y1 _ _ hgt.2.2.2.2.2, y2 _ (by omega), y2 _ (by omega), y2 _ (by omega), y2 _ (by omega), y2 _ (by omega), y2 _ (by omega), by omega, by omega, by omega, by omega⟩
  have HKG : Hid (∀ (g c6 : Nat) (w6 : World), ARow w6 (w2.heap.size + 3) (.slice (some ⟨g, 0, none⟩) (pre.length + 1) c6) (pre ++ [(rowArm (.slice none 0 0) [])]) → ((WB.alloc (.cells #[.int .i64 0, .int .i64 0, .slice none 0 0, .slice none 0 0, .slice none 0 0, .slice none 0 0] 80)).drew).grownBy w6 (Value.slice ra pre.length rc).ownBlock → ((Value.slice ra pre.length rc).ownBlock = some g ∨ ((WB.alloc (.cells #[.int .i64 0, .int .i64 0, .slice none 0 0, .slice none 0 0, .slice none 0 0, .slice none 0 0] 80)).drew).heap.size = g) → Kq w.heap.size (w2.heap.size + 2) W1 w6 ∧ (w6.heap[(w2.heap.size + 1)]? = WB.heap[(w2.heap.size + 1)]? ∧ w6.heap[w2.heap.size]? = WB.heap[w2.heap.size]?) ∧ AOk w6 (w2.heap.size + 3) (MArm.mk ⟨mk, mop, mds, .slice xa mds.length ya, .slice xb mns.length yb, mns⟩ (.slice xc mcs.length yc) mcs (.slice xd mks.length yd) mks) ∧ (∀ y ∈ (.slice (some ⟨g, 0, none⟩) (pre.length + 1) c6) :: aVals pre, ∀ u ∈ (MArm.mk ⟨mk, mop, mds, .slice xa mds.length ya, .slice xb mns.length yb, mns⟩ (.slice xc mcs.length yc) mcs (.slice xd mks.length yd) mks).vals, Aside y u) ∧ WB.heap.size + 1 ≤ w6.heap.size) := fun g c6 w6 hA hg6 ht6 => by
   have hsz : ((WB.alloc (.cells #[.int .i64 0, .int .i64 0, .slice none 0 0, .slice none 0 0, .slice none 0 0, .slice none 0 0] 80)).drew).heap.size = WB.heap.size + 1 := by show (WB.alloc (.cells #[.int .i64 0, .int .i64 0, .slice none 0 0, .slice none 0 0, .slice none 0 0, .slice none 0 0] 80)).heap.size = _; simp
   have hbD : Below WB.heap.size WB ((WB.alloc (.cells #[.int .i64 0, .int .i64 0, .slice none 0 0, .slice none 0 0, .slice none 0 0, .slice none 0 0] 80)).drew) := (below_alloc _ _).drew
   have hx6 : AOk w6 lo (MArm.mk ⟨mk, mop, mds, .slice xa mds.length ya, .slice xb mns.length yb, mns⟩ (.slice xc mcs.length yc) mcs (.slice xd mks.length yd) mks) := (hxB.1.below hbD).kept (x := .slice ra pre.length rc) hg6 (fun u hu => (aside_new (n := lo) (x := .slice ra pre.length rc) (fun q hq => by have := (hown q hq).2; omega) (fun q hq => (hxo.1.lt _ u hu q hq).1)).symm)
   refine ⟨(hKB.grown (by omega) (by omega) (grown_of hbD none) (fun q e => by cases e)).grown (by omega) (by omega) hg6 (fun q e => by have := (hown q e).1; omega), ⟨?_, ?_⟩, hx6.le (by omega), fun y hy u hu => ?_, by have := hg6.size; omega⟩
   ·exact (hg6.block _ (by omega) (fun e => by have := (hown _ e.symm).1; omega)).trans (hbD.block _ (by omega))
   ·exact (hg6.block _ (by omega) (fun e => by have := (hown _ e.symm).1; omega)).trans (hbD.block _ (by omega))
   ·rcases List.mem_cons.1 hy with rfl | hy
    ·refine .inr (fun e => ?_)
     have hg' : (Value.slice (some ⟨g, 0, none⟩) (pre.length + 1) c6).ownBlock = some g := rfl
     rw [hg'] at e
     have h1 := hxo.1.lt _ u hu g e.symm
     rcases ht6 with h | h
     ·have := (hown g h).2; omega
     ·omega
    ·exact aside_new (n := lo) (fun q hq => by have := (hrowlt y (List.mem_cons_of_mem _ hy) q hq).2; omega) (fun q hq => (hxo.1.lt _ u hu q hq).1)
  have HFIN : Hid (∀ (g c6 : Nat) (w6 : World), ARow w6 (w2.heap.size + 3) (.slice (some ⟨g, 0, none⟩) (pre.length + 1) c6) (pre ++ [(rowArm (.slice none 0 0) [])]) → ((WB.alloc (.cells #[.int .i64 0, .int .i64 0, .slice none 0 0, .slice none 0 0, .slice none 0 0, .slice none 0 0] 80)).drew).grownBy w6 (Value.slice ra pre.length rc).ownBlock → ((Value.slice ra pre.length rc).ownBlock = some g ∨ ((WB.alloc (.cells #[.int .i64 0, .int .i64 0, .slice none 0 0, .slice none 0 0, .slice none 0 0, .slice none 0 0] 80)).drew).heap.size = g) → Exit.normal = .normal ∧ (((((((w6.setCell ⟨g, pre.length * 6, none⟩ (.int .i64 mk)).setCell ⟨g, pre.length * 6 + 1, none⟩ (.int .i64 mop)).setCell ⟨g, pre.length * 6 + 2, none⟩ (.slice xa mds.length ya)).setCell ⟨g, pre.length * 6 + 3, none⟩ (.slice xb mns.length yb)).setCell ⟨g, pre.length * 6 + 4, none⟩ (.slice xc mcs.length yc)).setCell ⟨g, pre.length * 6 + 5, none⟩ (.slice xd mks.length yd)).setCell ⟨w1.heap.size, 0, none⟩ (.slice (some ⟨g, 0, none⟩) (pre.length + 1) c6)).heap[(w2.heap.size + 1)]? = ((W1.alloc (.cells #[.int .i64 mk, .int .i64 mop, .slice xa mds.length ya, .slice xb mns.length yb, .slice xc mcs.length yc, .slice xd mks.length yd] 80)).putObj (w2.heap.size + 1) (.loop r')).heap[(w2.heap.size + 1)]? ∧ (((((((w6.setCell ⟨g, pre.length * 6, none⟩ (.int .i64 mk)).setCell ⟨g, pre.length * 6 + 1, none⟩ (.int .i64 mop)).setCell ⟨g, pre.length * 6 + 2, none⟩ (.slice xa mds.length ya)).setCell ⟨g, pre.length * 6 + 3, none⟩ (.slice xb mns.length yb)).setCell ⟨g, pre.length * 6 + 4, none⟩ (.slice xc mcs.length yc)).setCell ⟨g, pre.length * 6 + 5, none⟩ (.slice xd mks.length yd)).setCell ⟨w1.heap.size, 0, none⟩ (.slice (some ⟨g, 0, none⟩) (pre.length + 1) c6)).heap[w2.heap.size]? = some (.deferred (some [])) ∧ ∀ r'', (∃ (ra : Option Addr) (rc : Nat), ((((((((w6.setCell ⟨g, pre.length * 6, none⟩ (.int .i64 mk)).setCell ⟨g, pre.length * 6 + 1, none⟩ (.int .i64 mop)).setCell ⟨g, pre.length * 6 + 2, none⟩ (.slice xa mds.length ya)).setCell ⟨g, pre.length * 6 + 3, none⟩ (.slice xb mns.length yb)).setCell ⟨g, pre.length * 6 + 4, none⟩ (.slice xc mcs.length yc)).setCell ⟨g, pre.length * 6 + 5, none⟩ (.slice xd mks.length yd)).setCell ⟨w1.heap.size, 0, none⟩ (.slice (some ⟨g, 0, none⟩) (pre.length + 1) c6)).putObj (w2.heap.size + 1) (.loop r'')).cell? ⟨w1.heap.size, 0, none⟩ = some (.slice ra (pre.length + 1) rc) ∧ ((((((((w6.setCell ⟨g, pre.length * 6, none⟩ (.int .i64 mk)).setCell ⟨g, pre.length * 6 + 1, none⟩ (.int .i64 mop)).setCell ⟨g, pre.length * 6 + 2, none⟩ (.slice xa mds.length ya)).setCell ⟨g, pre.length * 6 + 3, none⟩ (.slice xb mns.length yb)).setCell ⟨g, pre.length * 6 + 4, none⟩ (.slice xc mcs.length yc)).setCell ⟨g, pre.length * 6 + 5, none⟩ (.slice xd mks.length yd)).setCell ⟨w1.heap.size, 0, none⟩ (.slice (some ⟨g, 0, none⟩) (pre.length + 1) c6)).putObj (w2.heap.size + 1) (.loop r'')).frozen? ⟨w1.heap.size, 0, none⟩ = false ∧ ARow ((((((((w6.setCell ⟨g, pre.length * 6, none⟩ (.int .i64 mk)).setCell ⟨g, pre.length * 6 + 1, none⟩ (.int .i64 mop)).setCell ⟨g, pre.length * 6 + 2, none⟩ (.slice xa mds.length ya)).setCell ⟨g, pre.length * 6 + 3, none⟩ (.slice xb mns.length yb)).setCell ⟨g, pre.length * 6 + 4, none⟩ (.slice xc mcs.length yc)).setCell ⟨g, pre.length * 6 + 5, none⟩ (.slice xd mks.length yd)).setCell ⟨w1.heap.size, 0, none⟩ (.slice (some ⟨g, 0, none⟩) (pre.length + 1) c6)).putObj (w2.heap.size + 1) (.loop r'')) (w2.heap.size + 3) (.slice ra (pre.length + 1) rc) (pre ++ [(MArm.mk ⟨mk, mop, mds, .slice xa mds.length ya, .slice xb mns.length yb, mns⟩ (.slice xc mcs.length yc) mcs (.slice xd mks.length yd) mks)]) ∧ Below w.heap.size w ((((((((w6.setCell ⟨g, pre.length * 6, none⟩ (.int .i64 mk)).setCell ⟨g, pre.length * 6 + 1, none⟩ (.int .i64 mop)).setCell ⟨g, pre.length * 6 + 2, none⟩ (.slice xa mds.length ya)).setCell ⟨g, pre.length * 6 + 3, none⟩ (.slice xb mns.length yb)).setCell ⟨g, pre.length * 6 + 4, none⟩ (.slice xc mcs.length yc)).setCell ⟨g, pre.length * 6 + 5, none⟩ (.slice xd mks.length yd)).setCell ⟨w1.heap.size, 0, none⟩ (.slice (some ⟨g, 0, none⟩) (pre.length + 1) c6)).putObj (w2.heap.size + 1) (.loop r''))) ∧ Kq w.heap.size (w2.heap.size + 2) W1 ((((((((w6.setCell ⟨g, pre.length * 6, none⟩ (.int .i64 mk)).setCell ⟨g, pre.length * 6 + 1, none⟩ (.int .i64 mop)).setCell ⟨g, pre.length * 6 + 2, none⟩ (.slice xa mds.length ya)).setCell ⟨g, pre.length * 6 + 3, none⟩ (.slice xb mns.length yb)).setCell ⟨g, pre.length * 6 + 4, none⟩ (.slice xc mcs.length yc)).setCell ⟨g, pre.length * 6 + 5, none⟩ (.slice xd mks.length yd)).setCell ⟨w1.heap.size, 0, none⟩ (.slice (some ⟨g, 0, none⟩) (pre.length + 1) c6)).putObj (w2.heap.size + 1) (.loop r''))) := fun g c6 w6 hA hg6 ht6 => by
   obtain ⟨h1, ⟨h2, h3⟩, h4, h5, h6⟩ := HKG.out g c6 w6 hA hg6 ht6
   obtain ⟨rb6, rf6, -⟩ := HX6.out g c6 w6 hA hg6
   have hrc := row_cells hA
   have hne : g ≠ w1.heap.size := by omega
   have hst := (row_zero (x := (MArm.mk ⟨mk, mop, mds, .slice xa mds.length ya, .slice xb mns.length yb, mns⟩ (.slice xc mcs.length yc) mcs (.slice xd mks.length yd) mks)) hA h4 hxo.2 h5).setR (b := w1.heap.size) (p := 0) (by omega) (.slice (some ⟨g, 0, none⟩) (pre.length + 1) c6)
   have hkq : Kq w.heap.size (w2.heap.size + 2) W1 (((((((w6.setCell ⟨g, pre.length * 6, none⟩ (.int .i64 mk)).setCell ⟨g, pre.length * 6 + 1, none⟩ (.int .i64 mop)).setCell ⟨g, pre.length * 6 + 2, none⟩ (.slice xa mds.length ya)).setCell ⟨g, pre.length * 6 + 3, none⟩ (.slice xb mns.length yb)).setCell ⟨g, pre.length * 6 + 4, none⟩ (.slice xc mcs.length yc)).setCell ⟨g, pre.length * 6 + 5, none⟩ (.slice xd mks.length yd)).setCell ⟨w1.heap.size, 0, none⟩ (.slice (some ⟨g, 0, none⟩) (pre.length + 1) c6)) := ((((((h1.set (by omega) (by omega) _).set (by omega) (by omega) _).set (by omega) (by omega) _).set (by omega) (by omega) _).set (by omega) (by omega) _).set (by omega) (by omega) _).set (by omega) (by omega) _
   have hsz : (((((((w6.setCell ⟨g, pre.length * 6, none⟩ (.int .i64 mk)).setCell ⟨g, pre.length * 6 + 1, none⟩ (.int .i64 mop)).setCell ⟨g, pre.length * 6 + 2, none⟩ (.slice xa mds.length ya)).setCell ⟨g, pre.length * 6 + 3, none⟩ (.slice xb mns.length yb)).setCell ⟨g, pre.length * 6 + 4, none⟩ (.slice xc mcs.length yc)).setCell ⟨g, pre.length * 6 + 5, none⟩ (.slice xd mks.length yd)).setCell ⟨w1.heap.size, 0, none⟩ (.slice (some ⟨g, 0, none⟩) (pre.length + 1) c6)).heap.size = w6.heap.size := by simp
   have hblk : ∀ k, k < (w2.heap.size + 3) → k ≠ w1.heap.size → (((((((w6.setCell ⟨g, pre.length * 6, none⟩ (.int .i64 mk)).setCell ⟨g, pre.length * 6 + 1, none⟩ (.int .i64 mop)).setCell ⟨g, pre.length * 6 + 2, none⟩ (.slice xa mds.length ya)).setCell ⟨g, pre.length * 6 + 3, none⟩ (.slice xb mns.length yb)).setCell ⟨g, pre.length * 6 + 4, none⟩ (.slice xc mcs.length yc)).setCell ⟨g, pre.length * 6 + 5, none⟩ (.slice xd mks.length yd)).setCell ⟨w1.heap.size, 0, none⟩ (.slice (some ⟨g, 0, none⟩) (pre.length + 1) c6)).heap[k]? = w6.heap[k]? := fun k hk hk2 => by
    rw [set_block hk2.symm, set_block (by omega), set_block (by omega), set_block (by omega), set_block (by omega), set_block (by omega), set_block (by omega)]
   refine ⟨rfl, (hblk _ (by omega) (by omega)).trans (h2.trans hlB), (hblk _ (by omega) (by omega)).trans (h3.trans hdB), fun r'' => ⟨⟨some ⟨g, 0, none⟩, c6, ?_, ?_, ?_, ?_⟩, hkq.put (by rw [hsz]; omega) (by rw [hsz]; omega) (by omega) (by omega) _⟩⟩
   ·refine (grownO_cell (grownBy_putObj' _ _ _) (by rw [hsz]; omega) hneL).trans ?_
    exact cellSetAt ((cellSetOther hne.symm).trans ((cellSetOther hne.symm).trans ((cellSetOther hne.symm).trans ((cellSetOther hne.symm).trans ((cellSetOther hne.symm).trans ((cellSetOther hne.symm).trans rb6))))))
   ·refine (grownO_frozen (grownBy_putObj' _ _ _) (by rw [hsz]; omega) hneL).trans ?_
    exact frozenS.trans (frozenS.trans (frozenS.trans (frozenS.trans (frozenS.trans (frozenS.trans (frozenS.trans rf6))))))
   ·exact hst.grownP (grownBy_putObj' _ _ _) (by omega)
   ·exact hB1.trans (hkq.put (l := (w2.heap.size + 1)) (by rw [hsz]; omega) (by rw [hsz]; omega) (by omega) (by omega) _).1
  have HFIN2 : Hid (∀ (g c6 : Nat) (w6 : World), ARow w6 (w2.heap.size + 3) (.slice (some ⟨g, 0, none⟩) (pre.length + 1) c6) (pre ++ [(rowArm (.slice none 0 0) [])]) → ((WB.alloc (.cells #[.int .i64 0, .int .i64 0, .slice none 0 0, .slice none 0 0, .slice none 0 0, .slice none 0 0] 80)).drew).grownBy w6 (Value.slice ra pre.length rc).ownBlock → ((Value.slice ra pre.length rc).ownBlock = some g ∨ ((WB.alloc (.cells #[.int .i64 0, .int .i64 0, .slice none 0 0, .slice none 0 0, .slice none 0 0, .slice none 0 0] 80)).drew).heap.size = g) → Exit.normal = .normal ∧ (((((((w6.setCell ⟨w1.heap.size, 0, none⟩ (.slice (some ⟨g, 0, none⟩) (pre.length + 1) c6)).setCell ⟨g, pre.length * 6, none⟩ (.int .i64 mk)).setCell ⟨g, pre.length * 6 + 1, none⟩ (.int .i64 mop)).setCell ⟨g, pre.length * 6 + 2, none⟩ (.slice xa mds.length ya)).setCell ⟨g, pre.length * 6 + 3, none⟩ (.slice xb mns.length yb)).setCell ⟨g, pre.length * 6 + 4, none⟩ (.slice xc mcs.length yc)).setCell ⟨g, pre.length * 6 + 5, none⟩ (.slice xd mks.length yd)).heap[(w2.heap.size + 1)]? = ((W1.alloc (.cells #[.int .i64 mk, .int .i64 mop, .slice xa mds.length ya, .slice xb mns.length yb, .slice xc mcs.length yc, .slice xd mks.length yd] 80)).putObj (w2.heap.size + 1) (.loop r')).heap[(w2.heap.size + 1)]? ∧ (((((((w6.setCell ⟨w1.heap.size, 0, none⟩ (.slice (some ⟨g, 0, none⟩) (pre.length + 1) c6)).setCell ⟨g, pre.length * 6, none⟩ (.int .i64 mk)).setCell ⟨g, pre.length * 6 + 1, none⟩ (.int .i64 mop)).setCell ⟨g, pre.length * 6 + 2, none⟩ (.slice xa mds.length ya)).setCell ⟨g, pre.length * 6 + 3, none⟩ (.slice xb mns.length yb)).setCell ⟨g, pre.length * 6 + 4, none⟩ (.slice xc mcs.length yc)).setCell ⟨g, pre.length * 6 + 5, none⟩ (.slice xd mks.length yd)).heap[w2.heap.size]? = some (.deferred (some [])) ∧ ∀ r'', (∃ (ra : Option Addr) (rc : Nat), ((((((((w6.setCell ⟨w1.heap.size, 0, none⟩ (.slice (some ⟨g, 0, none⟩) (pre.length + 1) c6)).setCell ⟨g, pre.length * 6, none⟩ (.int .i64 mk)).setCell ⟨g, pre.length * 6 + 1, none⟩ (.int .i64 mop)).setCell ⟨g, pre.length * 6 + 2, none⟩ (.slice xa mds.length ya)).setCell ⟨g, pre.length * 6 + 3, none⟩ (.slice xb mns.length yb)).setCell ⟨g, pre.length * 6 + 4, none⟩ (.slice xc mcs.length yc)).setCell ⟨g, pre.length * 6 + 5, none⟩ (.slice xd mks.length yd)).putObj (w2.heap.size + 1) (.loop r'')).cell? ⟨w1.heap.size, 0, none⟩ = some (.slice ra (pre.length + 1) rc) ∧ ((((((((w6.setCell ⟨w1.heap.size, 0, none⟩ (.slice (some ⟨g, 0, none⟩) (pre.length + 1) c6)).setCell ⟨g, pre.length * 6, none⟩ (.int .i64 mk)).setCell ⟨g, pre.length * 6 + 1, none⟩ (.int .i64 mop)).setCell ⟨g, pre.length * 6 + 2, none⟩ (.slice xa mds.length ya)).setCell ⟨g, pre.length * 6 + 3, none⟩ (.slice xb mns.length yb)).setCell ⟨g, pre.length * 6 + 4, none⟩ (.slice xc mcs.length yc)).setCell ⟨g, pre.length * 6 + 5, none⟩ (.slice xd mks.length yd)).putObj (w2.heap.size + 1) (.loop r'')).frozen? ⟨w1.heap.size, 0, none⟩ = false ∧ ARow ((((((((w6.setCell ⟨w1.heap.size, 0, none⟩ (.slice (some ⟨g, 0, none⟩) (pre.length + 1) c6)).setCell ⟨g, pre.length * 6, none⟩ (.int .i64 mk)).setCell ⟨g, pre.length * 6 + 1, none⟩ (.int .i64 mop)).setCell ⟨g, pre.length * 6 + 2, none⟩ (.slice xa mds.length ya)).setCell ⟨g, pre.length * 6 + 3, none⟩ (.slice xb mns.length yb)).setCell ⟨g, pre.length * 6 + 4, none⟩ (.slice xc mcs.length yc)).setCell ⟨g, pre.length * 6 + 5, none⟩ (.slice xd mks.length yd)).putObj (w2.heap.size + 1) (.loop r'')) (w2.heap.size + 3) (.slice ra (pre.length + 1) rc) (pre ++ [(MArm.mk ⟨mk, mop, mds, .slice xa mds.length ya, .slice xb mns.length yb, mns⟩ (.slice xc mcs.length yc) mcs (.slice xd mks.length yd) mks)]) ∧ Below w.heap.size w ((((((((w6.setCell ⟨w1.heap.size, 0, none⟩ (.slice (some ⟨g, 0, none⟩) (pre.length + 1) c6)).setCell ⟨g, pre.length * 6, none⟩ (.int .i64 mk)).setCell ⟨g, pre.length * 6 + 1, none⟩ (.int .i64 mop)).setCell ⟨g, pre.length * 6 + 2, none⟩ (.slice xa mds.length ya)).setCell ⟨g, pre.length * 6 + 3, none⟩ (.slice xb mns.length yb)).setCell ⟨g, pre.length * 6 + 4, none⟩ (.slice xc mcs.length yc)).setCell ⟨g, pre.length * 6 + 5, none⟩ (.slice xd mks.length yd)).putObj (w2.heap.size + 1) (.loop r''))) ∧ Kq w.heap.size (w2.heap.size + 2) W1 ((((((((w6.setCell ⟨w1.heap.size, 0, none⟩ (.slice (some ⟨g, 0, none⟩) (pre.length + 1) c6)).setCell ⟨g, pre.length * 6, none⟩ (.int .i64 mk)).setCell ⟨g, pre.length * 6 + 1, none⟩ (.int .i64 mop)).setCell ⟨g, pre.length * 6 + 2, none⟩ (.slice xa mds.length ya)).setCell ⟨g, pre.length * 6 + 3, none⟩ (.slice xb mns.length yb)).setCell ⟨g, pre.length * 6 + 4, none⟩ (.slice xc mcs.length yc)).setCell ⟨g, pre.length * 6 + 5, none⟩ (.slice xd mks.length yd)).putObj (w2.heap.size + 1) (.loop r''))) := fun g c6 w6 hA hg6 ht6 => by
   obtain ⟨h1, ⟨h2, h3⟩, h4, h5, h6⟩ := HKG.out g c6 w6 hA hg6 ht6
   obtain ⟨rb6, rf6, -⟩ := HX6.out g c6 w6 hA hg6
   have hrc := row_cells hA
   have hne : g ≠ w1.heap.size := by omega
   have hst := row_zero (x := (MArm.mk ⟨mk, mop, mds, .slice xa mds.length ya, .slice xb mns.length yb, mns⟩ (.slice xc mcs.length yc) mcs (.slice xd mks.length yd) mks)) (hA.setR (b := w1.heap.size) (p := 0) (by omega) (.slice (some ⟨g, 0, none⟩) (pre.length + 1) c6)) (h4.setR (by omega) _) hxo.2 h5
   have hkq : Kq w.heap.size (w2.heap.size + 2) W1 (((((((w6.setCell ⟨w1.heap.size, 0, none⟩ (.slice (some ⟨g, 0, none⟩) (pre.length + 1) c6)).setCell ⟨g, pre.length * 6, none⟩ (.int .i64 mk)).setCell ⟨g, pre.length * 6 + 1, none⟩ (.int .i64 mop)).setCell ⟨g, pre.length * 6 + 2, none⟩ (.slice xa mds.length ya)).setCell ⟨g, pre.length * 6 + 3, none⟩ (.slice xb mns.length yb)).setCell ⟨g, pre.length * 6 + 4, none⟩ (.slice xc mcs.length yc)).setCell ⟨g, pre.length * 6 + 5, none⟩ (.slice xd mks.length yd)) := ((((((h1.set (by omega) (by omega) _).set (by omega) (by omega) _).set (by omega) (by omega) _).set (by omega) (by omega) _).set (by omega) (by omega) _).set (by omega) (by omega) _).set (by omega) (by omega) _
   have hsz : (((((((w6.setCell ⟨w1.heap.size, 0, none⟩ (.slice (some ⟨g, 0, none⟩) (pre.length + 1) c6)).setCell ⟨g, pre.length * 6, none⟩ (.int .i64 mk)).setCell ⟨g, pre.length * 6 + 1, none⟩ (.int .i64 mop)).setCell ⟨g, pre.length * 6 + 2, none⟩ (.slice xa mds.length ya)).setCell ⟨g, pre.length * 6 + 3, none⟩ (.slice xb mns.length yb)).setCell ⟨g, pre.length * 6 + 4, none⟩ (.slice xc mcs.length yc)).setCell ⟨g, pre.length * 6 + 5, none⟩ (.slice xd mks.length yd)).heap.size = w6.heap.size := by simp
   have hblk : ∀ k, k < (w2.heap.size + 3) → k ≠ w1.heap.size → (((((((w6.setCell ⟨w1.heap.size, 0, none⟩ (.slice (some ⟨g, 0, none⟩) (pre.length + 1) c6)).setCell ⟨g, pre.length * 6, none⟩ (.int .i64 mk)).setCell ⟨g, pre.length * 6 + 1, none⟩ (.int .i64 mop)).setCell ⟨g, pre.length * 6 + 2, none⟩ (.slice xa mds.length ya)).setCell ⟨g, pre.length * 6 + 3, none⟩ (.slice xb mns.length yb)).setCell ⟨g, pre.length * 6 + 4, none⟩ (.slice xc mcs.length yc)).setCell ⟨g, pre.length * 6 + 5, none⟩ (.slice xd mks.length yd)).heap[k]? = w6.heap[k]? := fun k hk hk2 => by
    rw [set_block (by omega), set_block (by omega), set_block (by omega), set_block (by omega), set_block (by omega), set_block (by omega), set_block hk2.symm]
   refine ⟨rfl, (hblk _ (by omega) (by omega)).trans (h2.trans hlB), (hblk _ (by omega) (by omega)).trans (h3.trans hdB), fun r'' => ⟨⟨some ⟨g, 0, none⟩, c6, ?_, ?_, ?_, ?_⟩, hkq.put (by rw [hsz]; omega) (by rw [hsz]; omega) (by omega) (by omega) _⟩⟩
   ·refine (grownO_cell (grownBy_putObj' _ _ _) (by rw [hsz]; omega) hneL).trans ?_
    exact (cellSetOther hne.symm).trans ((cellSetOther hne.symm).trans ((cellSetOther hne.symm).trans ((cellSetOther hne.symm).trans ((cellSetOther hne.symm).trans ((cellSetOther hne.symm).trans (cellSetAt rb6))))))
   ·refine (grownO_frozen (grownBy_putObj' _ _ _) (by rw [hsz]; omega) hneL).trans ?_
    exact frozenS.trans (frozenS.trans (frozenS.trans (frozenS.trans (frozenS.trans (frozenS.trans (frozenS.trans rf6))))))
   ·exact hst.grownP (grownBy_putObj' _ _ _) (by omega)
   ·exact hB1.trans (hkq.put (l := (w2.heap.size + 1)) (by rw [hsz]; omega) (by rw [hsz]; omega) (by omega) (by omega) _).1
  obtain ⟨hbz, ⟨d0, d1, d2, d3, d4, d5⟩, -⟩ := hbx
  have hrbz : w1.heap.size < WB.heap.size := by omega
  clear hrowB hxB hKB hrow1 hrow hzv hZ HKG hc hf hc1 hf1 hBA hB1 hgB hneP hdB hlB
  simp only [armArg]
  gi_wp2
  rw [← hWB]
  clear hWB
  refine wpIn_region_any (by kernel_rfl) ?_
  try (change wpAnyIn _ _ _ _ _ _ _ _ _ (World.drew _))
  apply share
  ·intro ky0
   apply share
   ·intro ky1
    apply share
    ·intro ky2
     apply share
     ·intro ky3
      apply share
      ·intro ky4
       apply share
       ·intro ky5
        apply share
        ·intro ky6
         refine wpAnyIn_ready (rs := [0, 1, 3]) (by kernel_rfl) (by simp) ?_
         refine AllReadyIn.cons rfl (fun KK hKK => ?_) ?_
         ·go_simp
          refine hKK _ _ ?_
          clear hKK KK
          refine wpAnyIn_ready (rs := [1, 2, 3]) (by kernel_rfl) (by simp) ?_
          refine AllReadyIn.cons rfl (fun KK hKK => ?_) ?_
          ·go_simp
           refine hKK _ _ ?_
           clear hKK KK
           exact ky4
          refine AllReadyIn.cons rfl (fun KK hKK => ?_) ?_
          ·go_simp
           refine hKK _ _ ?_
           clear hKK KK
           refine wpAnyIn_ready (rs := [1, 3]) (by kernel_rfl) (by simp) ?_
           refine AllReadyIn.cons rfl (fun KK hKK => ?_) ?_
           ·go_simp
            refine hKK _ _ ?_
            clear hKK KK
            exact ky1
           refine AllReadyIn.cons rfl (fun KK hKK => ?_) ?_
           ·go_simp
            refine hKK _ _ ?_
            clear hKK KK
            exact ky3
           exact AllReadyIn.nil
          refine AllReadyIn.cons rfl (fun KK hKK => ?_) ?_
          ·go_simp
           refine hKK _ _ ?_
           clear hKK KK
           exact ky5
          exact AllReadyIn.nil
         refine AllReadyIn.cons rfl (fun KK hKK => ?_) ?_
         ·go_simp
          refine hKK _ _ ?_
          clear hKK KK
          refine wpAnyIn_ready (rs := [0, 3]) (by kernel_rfl) (by simp) ?_
          refine AllReadyIn.cons rfl (fun KK hKK => ?_) ?_
          ·go_simp
           refine hKK _ _ ?_
           clear hKK KK
           exact ky4
          refine AllReadyIn.cons rfl (fun KK hKK => ?_) ?_
          ·go_simp
           refine hKK _ _ ?_
           clear hKK KK
           exact ky6
          exact AllReadyIn.nil
         refine AllReadyIn.cons rfl (fun KK hKK => ?_) ?_
         ·go_simp
          refine hKK _ _ ?_
          clear hKK KK
          refine wpAnyIn_ready (rs := [0, 1]) (by kernel_rfl) (by simp) ?_
          refine AllReadyIn.cons rfl (fun KK hKK => ?_) ?_
          ·go_simp
           refine hKK _ _ ?_
           clear hKK KK
           exact ky5
          refine AllReadyIn.cons rfl (fun KK hKK => ?_) ?_
          ·go_simp
           refine hKK _ _ ?_
           clear hKK KK
           exact ky6
          exact AllReadyIn.nil
         exact AllReadyIn.nil
        ·refine wpAnyIn_ready (rs := [0]) (by kernel_rfl) (by simp) ?_
         refine AllReadyIn.cons rfl (fun KK hKK => ?_) AllReadyIn.nil
         go_simp
         refine hKK _ _ ?_
         clear hKK KK
         exact ky2
       ·refine wpAnyIn_ready (rs := [1, 2]) (by kernel_rfl) (by simp) ?_
        refine AllReadyIn.cons rfl (fun KK hKK => ?_) ?_
        ·go_simp
         refine hKK _ _ ?_
         clear hKK KK
         exact ky2
        refine AllReadyIn.cons rfl (fun KK hKK => ?_) ?_
        ·go_simp
         refine hKK _ _ ?_
         clear hKK KK
         exact ky3
        exact AllReadyIn.nil
      ·refine wpAnyIn_ready (rs := [2, 3]) (by kernel_rfl) (by simp) ?_
       refine AllReadyIn.cons rfl (fun KK hKK => ?_) ?_
       ·go_simp
        refine hKK _ _ ?_
        clear hKK KK
        exact ky1
       refine AllReadyIn.cons rfl (fun KK hKK => ?_) ?_
       ·go_simp
        refine hKK _ _ ?_
        clear hKK KK
        exact ky2
       exact AllReadyIn.nil
     ·refine wpAnyIn_ready (rs := [1]) (by kernel_rfl) (by simp) ?_
      refine AllReadyIn.cons rfl (fun KK hKK => ?_) AllReadyIn.nil
      go_simp
      refine hKK _ _ ?_
      clear hKK KK
      exact ky0
    ·refine wpAnyIn_ready (rs := [2]) (by kernel_rfl) (by simp) ?_
     refine AllReadyIn.cons rfl (fun KK hKK => ?_) AllReadyIn.nil
     go_simp
     refine hKK _ _ ?_
     clear hKK KK
     exact ky0
   ·refine wpAnyIn_ready (rs := [3]) (by kernel_rfl) (by simp) ?_
    refine AllReadyIn.cons rfl (fun KK hKK => ?_) AllReadyIn.nil
    go_simp
    refine hKK _ _ ?_
    clear hKK KK
    exact ky0
  ·refine wpAnyIn_ready (rs := [4]) (by kernel_rfl) (by simp) ?_
   refine AllReadyIn.cons rfl (fun KK hKK => ?_) AllReadyIn.nil
   refine stepIn_raw_arms rfl (.tmp 14) (.tmp 17) rfl (w2.heap.size + 3) ra rc pre (rowArm (.slice none 0 0) []) ⟨WB.heap.size, 0, none⟩ (by go_simp) (by go_simp) ((HROW.out.below (below_alloc WB (.cells #[.int .i64 0, .int .i64 0, .slice none 0 0, .slice none 0 0, .slice none 0 0, .slice none 0 0] 80))).below (Below.refl _ _).drew) HZC.out HZK.out HZP.out (by omega) HBS.out ?_
   intro g c6 w6 hA6 hg6 ht6
   obtain ⟨rb6, rf6, k0, k1, k2, k3, k4, k5, u0, u1, u2, u3, u4, u5, n1, n2, hi1, hi2⟩ := HX6.out g c6 w6 hA6 hg6
   have HA6 : Hid (ARow w6 (w2.heap.size + 3) (.slice (some ⟨g, 0, none⟩) (pre.length + 1) c6) (pre ++ [(rowArm (.slice none 0 0) [])])) := hA6
   have HG6 : Hid (((WB.alloc (.cells #[.int .i64 0, .int .i64 0, .slice none 0 0, .slice none 0 0, .slice none 0 0, .slice none 0 0] 80)).drew).grownBy w6 (Value.slice ra pre.length rc).ownBlock) := hg6
   have HT6 := hid_of ht6
   clear hA6 hg6 ht6
   refine hKK _ _ ?_
   clear hKK KK
   refine wpAnyIn_ready (rs := [5, 7]) (by kernel_rfl) (by simp) ?_
   refine AllReadyIn.cons rfl (fun KK hKK => ?_) ?_
   ·go_simp
    refine hKK _ _ ?_
    clear hKK KK
    refine wpAnyIn_ready (rs := [6, 7]) (by kernel_rfl) (by simp) ?_
    refine AllReadyIn.cons rfl (fun KK hKK => ?_) ?_
    ·go_simp
     refine hKK _ _ ?_
     clear hKK KK
     refine wpAnyIn_ready (rs := [7]) (by kernel_rfl) (by simp) ?_
     refine AllReadyIn.cons rfl (fun KK hKK => ?_) AllReadyIn.nil
     go_simp
     refine hKK _ _ ?_
     clear hKK KK
     refine wpAnyIn_done (by kernel_rfl) ?_ _
     have hfin := HFIN.out g c6 w6 HA6.out HG6.out HT6.out
     exact And.intro rfl hfin.2
    refine AllReadyIn.cons rfl (fun KK hKK => ?_) ?_
    ·go_simp
     refine hKK _ _ ?_
     clear hKK KK
     refine wpAnyIn_ready (rs := [6]) (by kernel_rfl) (by simp) ?_
     refine AllReadyIn.cons rfl (fun KK hKK => ?_) AllReadyIn.nil
     go_simp
     refine hKK _ _ ?_
     clear hKK KK
     refine wpAnyIn_done (by kernel_rfl) ?_ _
     have hfin := HFIN2.out g c6 w6 HA6.out HG6.out HT6.out
     exact And.intro rfl hfin.2
    exact AllReadyIn.nil
   refine AllReadyIn.cons rfl (fun KK hKK => ?_) ?_
   ·go_simp
    refine hKK _ _ ?_
    clear hKK KK
    refine wpAnyIn_ready (rs := [5]) (by kernel_rfl) (by simp) ?_
    refine AllReadyIn.cons rfl (fun KK hKK => ?_) AllReadyIn.nil
    go_simp
    refine hKK _ _ ?_
    clear hKK KK
    refine wpAnyIn_ready (rs := [6]) (by kernel_rfl) (by simp) ?_
    refine AllReadyIn.cons rfl (fun KK hKK => ?_) AllReadyIn.nil
    go_simp
    refine hKK _ _ ?_
    clear hKK KK
    refine wpAnyIn_done (by kernel_rfl) ?_ _
    have hfin := HFIN2.out g c6 w6 HA6.out HG6.out HT6.out
    exact And.intro rfl hfin.2
   exact AllReadyIn.nil
 case hdone =>
  rintro ys A W W' hS ⟨ra, rc, hc, hf, hrow, hBA⟩ hg ⟨r, hW'⟩ hd
  have hAs : w1.heap.size < A.heap.size := lt_of_cell3 hc
  have hgL : W.grownBy W' (some (w2.heap.size + 1)) := by rw [hW']; exact grownBy_putObj' _ _ _
  have hneP : (some (w2.heap.size + 2) : Option Nat) ≠ some w1.heap.size := fun e => by injection e with e; omega
  have hneL : (some (w2.heap.size + 1) : Option Nat) ≠ some w1.heap.size := fun e => by injection e with e; omega
  have hsA := hBA.size
  have hsW := hg.size
  have hsW2 := hgL.size
  have rb : W'.cell? ⟨w1.heap.size, 0, none⟩ = some (.slice ra ys.length rc) := (grownO_cell hgL (by omega) hneL).trans ((grownO_cell hg hAs hneP).trans hc)
  have HROW : Hid (ARow W' (w2.heap.size + 3) (.slice ra ys.length rc) ys) := (hrow.grownP hg (by omega)).grownP hgL (by omega)
  have hBW : Below w.heap.size w W' := (hBA.trans (below_of_grown hg (by omega) (by omega))).trans (below_of_grown hgL (by omega) (by omega))
  have hdlt : w2.heap.size < W'.heap.size := (Array.getElem?_eq_some_iff.1 hd).1
  have HA2 : Hid (∀ V, Below W'.heap.size W' V → Calls Tryz.prog 71 #[.slice ra ys.length rc] V fun e w' => e = .returned (.bool (decide ((Stil.treeCheck xs).1 = 0))) ∧ Below V.heap.size V w') := fun V h => HAC.out V _ (hBW.trans (h.mono hBW.size)) (by
   have h1 := (row_arms HROW.out).at.below h
   rw [hS] at h1
   exact h1)
  have HYS : Hid (ys.map MArm.arm = xs) := hS
  have hcb := Stil.check_bound xs
  have HEND : Hid (∀ V, Below W'.heap.size W' V → V.heap[w2.heap.size]? = some (.deferred (some [])) ∧ ARow (V.putObj w2.heap.size (.deferred none)) w.heap.size (.slice ra ys.length rc) ys ∧ Below w.heap.size w (V.putObj w2.heap.size (.deferred none))) := fun V h => by
   have hsV := h.size
   have hgD := grownBy_putObj' V w2.heap.size (.deferred none)
   exact ⟨(h.block _ hdlt).trans hd, ((HROW.out.below h).grownP hgD (by omega)).le (by omega), (hBW.trans (h.mono hBW.size)).trans (below_of_grown hgD (by omega) (by omega))⟩
  obtain ⟨tc, htc⟩ : ∃ t, t = (Stil.treeCheck xs).1 := ⟨_, rfl⟩
  have HU : Hid (Stil.upOf xs = if 0 < tc then ([], 2) else (xs, 0)) := by rw [htc]; rfl
  rw [← htc] at HA2 hcb
  clear htc hS hc hf hrow hBA hg hgL hd hW' HAC HC HUP HAT HF HFL
  by_cases h0 : tc = 0
  ·rw [if_neg (by omega)] at HU
   rw [decide_eq_true h0] at HA2
   gi_wp2_with (refine ⟨trivial, ?_⟩; gi_at_call 71; refine (callsIn_wide.2 (HA2.out _ blA)).mono ?_; rintro e w5 ⟨rfl, hb5⟩; have hb5' : Below W'.heap.size W' w5 := blA; have rb5 : w5.cell? ⟨w1.heap.size, 0, none⟩ = some (.slice ra ys.length rc) := (hb5'.cell (p := ⟨w1.heap.size, 0, none⟩) (by simp only; omega)).trans rb; obtain ⟨hd5, hr5, hB5⟩ := HEND.out w5 hb5')
   refine ⟨by simp, .inl ⟨_, _, rfl, run_takeDeferred hd5, ?_⟩⟩
   refine ⟨.tuple #[.slice ra ys.length rc, .nilIface], by simp [results, Tryz.results39, go_sem], ⟨ra, rc, ys, .nilIface, rfl, by rw [HU.out]; exact HYS.out, hr5, .inl ⟨rfl, by rw [HU.out]⟩⟩, hB5⟩
  ·rw [if_pos (by omega)] at HU
   rw [decide_eq_false h0] at HA2
   gi_wp2_with (refine ⟨trivial, ?_⟩; gi_at_call 71; refine (callsIn_wide.2 (HA2.out _ blA)).mono ?_; rintro e w5 ⟨rfl, hb5⟩; have hb5' : Below W'.heap.size W' w5 := blA; obtain ⟨hd5, hr5, hB5⟩ := HEND.out w5 hb5')
   refine ⟨by simp, .inl ⟨_, _, rfl, run_takeDeferred hd5, ?_⟩⟩
   refine ⟨.tuple #[.slice none 0 0, .iface 61 (.int .i64 2)], by simp [results, Tryz.results39, go_sem], ⟨none, 0, [], _, rfl, by rw [HU.out]; rfl, ARow.nil _ _, .inr ⟨by rw [HU.out], by rw [HU.out]; decide⟩⟩, hB5⟩
theorem i_backLadder_bad (L : List Stil.Inst) (v : Value) (w : World) (hrw : RowsAt w) (hlw : LWordsAt w) (hat : InstsAt w v L) (hl : L.length ≤ 1048576) (hft : ∀ x ∈ L, x.fits) (hz : 0 < (Stil.sureCheck L).1) :
  Calls Tryz.prog 39 #[v] w fun e w' => e = .returned (.tuple #[.slice none 0 0, .iface 61 (.int .i64 1)]) ∧ Below w.heap.size w w' := by
 have HC : Hid (∀ W, Below w.heap.size w W → Calls Tryz.prog 69 #[v] W fun e w' => e = .returned (.agg #[.int .i64 (Stil.sureCheck L).1, .int .i64 (Stil.sureCheck L).2]) ∧ Below W.heap.size W w') := fun W h => i_sureCheck L v W (hrw.below h) (hlw.below h) (hat.below h) hl hft
 obtain ⟨a, cap, rfl, -⟩ := hat
 obtain ⟨c, hc⟩ : ∃ c, c = (Stil.sureCheck L).1 := ⟨_, rfl⟩
 obtain ⟨k, hk⟩ : ∃ k, k = (Stil.sureCheck L).2 := ⟨_, rfl⟩
 rw [← hc, ← hk] at HC
 rw [← hc] at hz
 have hne : ¬ c = 0 := by omega
 clear hc hk hrw hlw hft
 go_enter Tryz.func39, Tryz.ntmps39
 go_wp2_with (go_at_call 69; refine (HC.out _ blA).mono ?_; rintro e w1 ⟨rfl, hb1⟩)
 refine bodyPost_ret (v := .tuple #[.slice none 0 0, .iface 61 (.int .i64 1)]) (by simp [results, Tryz.results39, go_sem]) rfl ⟨rfl, blA⟩
end Go.Proofs.YtpaljcoojkbhnaaGreatDoor
