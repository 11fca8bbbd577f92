/- The program's chapter 4: blocks. -/
import Derived.Test.YthhfnncehfkbfaaDoorY7c
namespace Go.Proofs.YthhfnncehfkbfaaDoor
open Go.RowKit Go.Sort Go.BigFrame
theorem MOwn.setO {w : World} {base : Nat} {m : MNet} (h : MOwn w base m) {a : Addr} (ha : ∀ x ∈ m.vals, x.ownBlock ≠ some a.block) (u : Value) : MOwn (w.setCell a u) base m := ⟨MOk.map m h.1 (fun _ _ _ _ _ hx ho => ownsRow_setCell_other ho (ha _ hx) u), h.2⟩
theorem MOwn.setO4 {w : World} {base b o1 o2 o3 o4 : Nat} {m : MNet} {u1 u2 u3 u4 : Value} (h : MOwn w base m) (hb : ∀ x ∈ m.vals, x.ownBlock ≠ some b) : MOwn ((((w.setCell ⟨b, o1, none⟩ u1).setCell ⟨b, o2, none⟩ u2).setCell ⟨b, o3, none⟩ u3).setCell ⟨b, o4, none⟩ u4) base m :=
  MOwn.setO (MOwn.setO (MOwn.setO (MOwn.setO h (a := ⟨b, o1, none⟩) hb u1) (a := ⟨b, o2, none⟩) hb u2) (a := ⟨b, o3, none⟩) hb u3) (a := ⟨b, o4, none⟩) hb u4
set_option maxHeartbeats 2000000 in
set_option maxRecDepth 100000 in
theorem i_normBlock (k : Int) (base : Nat) (ms0 : List MNet) (a : Option Addr) (cap : Nat) (w : World) (hrow : MRow w base (.slice a ms0.length cap) ms0) (hl : Stil.sizes (ms0.map MNet.net) ≤ 999999) (hbase : base ≤ w.heap.size) :
    Calls Tryd.prog 35 #[.int .i64 k, .slice a ms0.length cap] w fun e w' => NetRet w' base (Stil.blockOf k (Stil.flatKids k (ms0.map MNet.net))) e ∧ Below w.heap.size w w' := by
  have HF : Hid (∀ W B, Below w.heap.size w W → W.cell? ⟨B, 0, none⟩ = some (.int .i64 k) → B < W.heap.size → Calls Tryd.prog 51 #[.slice a ms0.length cap, .slice none 0 0, .func (.func 53) #[] #[.pointer (some ⟨B, 0, none⟩)]] W fun e w' => ∃ (a : Option Addr) (c : Nat) (ms : List MNet), e = .returned (.slice a ms.length c) ∧ ms.map MNet.net = Stil.flatKids k (ms0.map MNet.net) ∧ MRow w' base (.slice a ms.length c) ms ∧ Below W.heap.size W w' ∧ (mVals ms).Sublist (mVals ms0) ∧ ∀ q, (Value.slice a ms.length c).ownBlock = some q → W.heap.size ≤ q) := fun W B h h1 h2 => i_foldOpen k B base ms0 a cap W h1 h2 (hrow.below h) hl (Nat.le_trans hbase h.size)
  obtain ⟨F, hF⟩ : ∃ F, F = Stil.flatKids k (ms0.map MNet.net) := ⟨_, rfl⟩
  rw [← hF] at HF ⊢
  have HLT : Hid (∀ x ∈ mVals ms0, ∀ q, x.ownBlock = some q → q < w.heap.size) := fun x hx q hq => (hrow.lt x (List.mem_cons_of_mem _ hx) q hq).2
  clear hrow hl hF
  go_enter Tryd.func35, Tryd.ntmps35
  go_upto_region 2 with (go_at_call 51; refine (HF.out _ _ (by (repeat (first | with_reducible exact Below.refl _ _ | with_reducible assumption | with_reducible refine bl_set (by first | exact Nat.le_refl _ | (simp; done) | (simp; omega) | omega) ?_ _ | with_reducible refine bl_alloc ?_ _ | with_reducible refine bl_drewN ?_ _ | with_reducible refine bl_drew ?_ | with_reducible refine bl_grow ?_ _ _ | with_reducible refine bl_call ?_ (by assumption)))) (by simp [go_sem]) (by simp; omega)).mono ?_; rintro e w1 ⟨ra, rc, ms, rfl, hmn, hmr, hb1, hsub, hvl⟩; have HMN : Hid (ms.map MNet.net = F) := hmn; have HMR : Hid (MRow w1 base (.slice ra ms.length rc) ms) := hmr; have HNE : Hid (∀ x ∈ (Value.slice ra ms.length rc) :: mVals ms, x.ownBlock ≠ some (w.heap.size + 1)) := (by intro x hx e; rcases List.mem_cons.1 hx with rfl | hx; (have := hvl _ e; simp at this; omega); (have := HLT.out x (hsub.subset hx) _ e; omega)); clear hmn hmr hsub hvl)
  obtain ⟨hc, hf⟩ := bcell hb1
  have hzb : w.heap.size + 1 < w1.heap.size := Nat.lt_of_lt_of_le (by simp) hb1.size
  have kd : w1.cell? ⟨w.heap.size, 0, none⟩ = some (.int .i64 k) := by rw [hc _ _ (by simp; omega)]; simp [go_sem]
  have z0 : w1.cell? ⟨w.heap.size + 1, 0, none⟩ = some (.int .i64 0) := by rw [hc _ _ (by simp)]; simp [go_sem]
  have z1 : w1.cell? ⟨w.heap.size + 1, 1, none⟩ = some (.int .i64 0) := by rw [hc _ _ (by simp)]; simp [go_sem]
  have z2 : w1.cell? ⟨w.heap.size + 1, 2, none⟩ = some (.slice none 0 0) := by rw [hc _ _ (by simp)]; simp [go_sem]
  have z3 : w1.cell? ⟨w.heap.size + 1, 3, none⟩ = some (.slice none 0 0) := by rw [hc _ _ (by simp)]; simp [go_sem]
  have f0 : w1.frozen? ⟨w.heap.size + 1, 0, none⟩ = false := by rw [hf _ _ (by simp)]; simp [go_sem]
  have f1 : w1.frozen? ⟨w.heap.size + 1, 1, none⟩ = false := by rw [hf _ _ (by simp)]; simp [go_sem]
  have f2 : w1.frozen? ⟨w.heap.size + 1, 2, none⟩ = false := by rw [hf _ _ (by simp)]; simp [go_sem]
  have f3 : w1.frozen? ⟨w.heap.size + 1, 3, none⟩ = false := by rw [hf _ _ (by simp)]; simp [go_sem]
  have hB1 : Below w.heap.size w w1 := by (repeat (first | with_reducible exact Below.refl _ _ | with_reducible assumption | with_reducible refine bl_set (by first | exact Nat.le_refl _ | (simp; done) | (simp; omega) | omega) ?_ _ | with_reducible refine bl_alloc ?_ _ | with_reducible refine bl_drewN ?_ _ | with_reducible refine bl_drew ?_ | with_reducible refine bl_grow ?_ _ _ | with_reducible refine bl_call ?_ (by assumption)))
  clear hc hf hb1 HF HLT
  by_cases h1 : ms.length = 1
  · obtain ⟨m, rfl⟩ := List.length_eq_one_iff.1 h1
    have hmo := HMR.out.one 0 (by simp)
    simp only [List.getElem_cons_zero] at hmo
    obtain ⟨g, c, hv, _, hlt2, _, hcell⟩ := ownsRow_cells HMR.out.1 (by simp)
    obtain ⟨a1, a2, a3, a4⟩ := mCells_get [m] 0 (by simp)
    have y0 := hcell _ _ a1
    have y1 := hcell _ _ a2
    have y2 := hcell _ _ a3
    have y3 := hcell _ _ a4
    simp only [List.getElem_cons_zero, Nat.zero_mul, Nat.zero_add] at y0 y1 y2 y3
    have hok := (MOk_iff _ _ _).1 hmo.1
    obtain ⟨d1, d2, hd⟩ := slice_of_owns hok.1
    obtain ⟨d3, d4, hd2⟩ := slice_of_owns hok.2.1
    simp only [Value.slice.injEq] at hv
    obtain ⟨rfl, _, rfl⟩ := hv
    have HBL : Hid (Stil.blockOf k F = m.net) := by show _ = _; rw [← HMN.out]; rfl
    have HNE2 : Hid (∀ x ∈ m.vals, x.ownBlock ≠ some (w.heap.size + 1)) := fun x hx => HNE.out x (List.mem_cons_of_mem _ (by rw [mVals_one]; exact hx))
    clear HNE HMN
    obtain ⟨mk, mop, mds, mav, mkv, mks⟩ := m
    simp only at hd hd2 y0 y1 y2 y3
    subst hd
    subst hd2
    have HMO : Hid (MOwn w1 base ⟨mk, mop, mds, .slice d1 mds.length d2, .slice d3 mks.length d4, mks⟩) := hmo
    clear hmo hok hcell HMR
    simp only [List.length_singleton]
    go_wp2
    refine bodyPost_ret (v := .agg #[.int .i64 mk, .int .i64 mop, .slice d1 mds.length d2, .slice d3 mks.length d4]) (by simp [results, Tryd.results35, go_sem, z0, z1, z2, z3]) rfl ⟨⟨mk, mop, mds, d1, d2, d3, d4, mks, rfl, ?_, HBL.out.symm⟩, by (repeat (first | with_reducible exact Below.refl _ _ | with_reducible assumption | with_reducible refine bl_set (by first | exact Nat.le_refl _ | (simp; done) | (simp; omega) | omega) ?_ _ | with_reducible refine bl_alloc ?_ _ | with_reducible refine bl_drewN ?_ _ | with_reducible refine bl_drew ?_ | with_reducible refine bl_grow ?_ _ _ | with_reducible refine bl_call ?_ (by assumption)))⟩
    exact MOwn.setO4 HMO.out HNE2.out
  · have HBL : Hid (Stil.blockOf k F = ⟨k, ⟨0, []⟩, ms.map MNet.net⟩) := by
      show _ = _
      rw [← HMN.out]
      unfold Stil.blockOf
      rw [dif_neg (by simpa using h1)]
    have hmo : MOwn w1 base ⟨k, 0, [], .slice none 0 0, .slice ra ms.length rc, ms⟩ := HMR.out.net k 0 [] (World.ownsRow_nil _ _ _ _) (fun x _ => aside_nil x)
    have HMO : Hid (MOwn w1 base ⟨k, 0, [], .slice none 0 0, .slice ra ms.length rc, ms⟩) := hmo
    have HNE2 : Hid (∀ x ∈ (MNet.mk k 0 [] (.slice none 0 0) (.slice ra ms.length rc) ms).vals, x.ownBlock ≠ some (w.heap.size + 1)) := by
      intro x hx
      rw [MNet.vals_eq] at hx
      rcases List.mem_cons.1 hx with rfl | hx
      · intro e; cases e
      · exact HNE.out x hx
    have e1' : ((ms.length : Int) == 1) = false := by rw [beq_eq_false_iff_ne]; omega
    have e1'' : ¬ ((ms.length : Int) = 1) := by omega
    clear hmo HMR HNE HMN
    go_wp2
    refine bodyPost_ret (v := .agg #[.int .i64 k, .int .i64 0, .slice none 0 0, .slice ra ms.length rc]) (by simp [results, Tryd.results35, go_sem, z0, z1, z2, z3]) rfl ⟨⟨k, 0, [], none, 0, ra, rc, ms, rfl, ?_, by rw [MNet.net_eq, HBL.out]⟩, by (repeat (first | with_reducible exact Below.refl _ _ | with_reducible assumption | with_reducible refine bl_set (by first | exact Nat.le_refl _ | (simp; done) | (simp; omega) | omega) ?_ _ | with_reducible refine bl_alloc ?_ _ | with_reducible refine bl_drewN ?_ _ | with_reducible refine bl_drew ?_ | with_reducible refine bl_grow ?_ _ _ | with_reducible refine bl_call ?_ (by assumption)))⟩
    exact MOwn.setO4 HMO.out HNE2.out
end Go.Proofs.YthhfnncehfkbfaaDoor
