/- The specification's chapter 4: the normal form of one net: a contact. -/
import Derived.Test.YthhfnncehfkbfaaDoorY6a
import Derived.Test.YthhfnncehfkbfaaDoorM8b
namespace Go.Proofs.YthhfnncehfkbfaaDoor
open Go.RowKit Go.Sort Go.BigFrame
theorem aside_nils (av x : Value) (hx : x ∈ Value.slice none 0 0 :: mVals []) : Aside av x := by
  rcases List.mem_cons.1 hx with rfl | hx
  · exact (aside_nil _).symm
  · cases hx
set_option maxHeartbeats 4000000 in
set_option maxRecDepth 100000 in
theorem s_l4one (e : Stil.Elem) (av kv : Value) (w : World) (hav : DevsAt w av e.args) (hkv : NetsAt w kv []) (hla : e.args.length ≤ 1048576) :
    Calls Tryd.prog 15 #[.agg #[.int .i64 1, .int .i64 e.op, av, kv]] w fun e' w' => NetRet w' w.heap.size (Stil.normNet ⟨1, e, []⟩) e' ∧ Below w.heap.size w w' := by
  have HN : Hid (Stil.normNet ⟨1, e, []⟩ = ⟨1, e, []⟩) := by show _ = _; rw [Stil.normNet_eq, if_neg (by omega)]; rfl
  have HDA : Hid (∀ W, Below w.heap.size w W → DevsAt W av e.args) := fun W h => hav.below h
  obtain ⟨p0, r0, rfl, hz8⟩ := hav
  obtain ⟨p1, r1, rfl, hz9⟩ := hkv
  clear hz8 hz9
  go_enter Tryd.func15, Tryd.ntmps15
  go_upto_region 7 with fail
  obtain ⟨W, hW⟩ : ∃ W, W = (w.alloc (.cells #[.int .i64 1, .int .i64 e.op, .slice p0 e.args.length r0, .slice p1 0 r1] 34)).alloc (.cells #[.int .i64 0, .int .i64 0, .slice none 0 0, .slice none 0 0] 34) := ⟨_, rfl⟩
  rw [← hW]
  have q0 : W.cell? ⟨w.heap.size, 0, none⟩ = some (.int .i64 1) := by rw [hW]; simp [go_sem]
  have q1 : W.cell? ⟨w.heap.size, 1, none⟩ = some (.int .i64 e.op) := by rw [hW]; simp [go_sem]
  have q2 : W.cell? ⟨w.heap.size, 2, none⟩ = some (.slice p0 e.args.length r0) := by rw [hW]; simp [go_sem]
  have q3 : W.cell? ⟨w.heap.size, 3, none⟩ = some (.slice p1 0 r1) := by rw [hW]; simp [go_sem]
  have t0 : W.cell? ⟨w.heap.size + 1, 0, none⟩ = some (.int .i64 0) := by rw [hW]; simp [go_sem]
  have t1 : W.cell? ⟨w.heap.size + 1, 1, none⟩ = some (.int .i64 0) := by rw [hW]; simp [go_sem]
  have t2 : W.cell? ⟨w.heap.size + 1, 2, none⟩ = some (.slice none 0 0) := by rw [hW]; simp [go_sem]
  have t3 : W.cell? ⟨w.heap.size + 1, 3, none⟩ = some (.slice none 0 0) := by rw [hW]; simp [go_sem]
  have v0 : W.frozen? ⟨w.heap.size + 1, 0, none⟩ = false := by rw [hW]; simp [go_sem]
  have v1 : W.frozen? ⟨w.heap.size + 1, 1, none⟩ = false := by rw [hW]; simp [go_sem]
  have v2 : W.frozen? ⟨w.heap.size + 1, 2, none⟩ = false := by rw [hW]; simp [go_sem]
  have v3 : W.frozen? ⟨w.heap.size + 1, 3, none⟩ = false := by rw [hW]; simp [go_sem]
  have hsW : W.heap.size = w.heap.size + 2 := by rw [hW]; simp
  have hBW : Below w.heap.size w W := by rw [hW]; exact bl_alloc (below_alloc _ _) _
  have HSW : Hid (W.heap.size = w.heap.size + 2) := hsW
  have hl0 : w.heap.size < W.heap.size := by omega
  have hl1 : w.heap.size + 1 < W.heap.size := by omega
  clear hW hsW
  go_region_law (refine step_append_devs rfl _ _ rfl (w.heap.size + 2) _ e.args rfl (by exact (World.ownsRow_lit W #[] 0 (by have := HSW.out; omega) (by unfold maxLen; omega) rfl).drew) _ _ rfl (HDA.out _ (by exact (bl_alloc hBW _).drew)) hla (by have := HSW.out; simp; omega) ?_; intro v5 w5 hown5 hgr5; obtain ⟨a5, c5, hv5⟩ := slice_of_owns hown5; subst hv5; have hb5 : Below W.heap.size W w5 := (below_alloc W _).drew.grown hgr5 (by simp) (fun k hk => by cases hk; exact Nat.le_refl _); have hz5 : w.heap.size + 2 ≤ w5.heap.size := (by have := HSW.out; have := hb5.size; omega); have y0 : w5.cell? ⟨w.heap.size, 0, none⟩ = some (.int .i64 1) := (hb5.cell (p := ⟨w.heap.size, 0, none⟩) (by have := HSW.out; show w.heap.size < W.heap.size; omega)).trans q0; have y1 : w5.cell? ⟨w.heap.size, 1, none⟩ = some (.int .i64 e.op) := (hb5.cell (p := ⟨w.heap.size, 1, none⟩) (by have := HSW.out; show w.heap.size < W.heap.size; omega)).trans q1; have y2 : w5.cell? ⟨w.heap.size, 2, none⟩ = some (.slice p0 e.args.length r0) := (hb5.cell (p := ⟨w.heap.size, 2, none⟩) (by have := HSW.out; show w.heap.size < W.heap.size; omega)).trans q2; have y3 : w5.cell? ⟨w.heap.size, 3, none⟩ = some (.slice p1 0 r1) := (hb5.cell (p := ⟨w.heap.size, 3, none⟩) (by have := HSW.out; show w.heap.size < W.heap.size; omega)).trans q3; have z0 : w5.cell? ⟨w.heap.size + 1, 0, none⟩ = some (.int .i64 0) := (hb5.cell (p := ⟨w.heap.size + 1, 0, none⟩) (by have := HSW.out; show w.heap.size + 1 < W.heap.size; omega)).trans t0; have z1 : w5.cell? ⟨w.heap.size + 1, 1, none⟩ = some (.int .i64 0) := (hb5.cell (p := ⟨w.heap.size + 1, 1, none⟩) (by have := HSW.out; show w.heap.size + 1 < W.heap.size; omega)).trans t1; have z2 : w5.cell? ⟨w.heap.size + 1, 2, none⟩ = some (.slice none 0 0) := (hb5.cell (p := ⟨w.heap.size + 1, 2, none⟩) (by have := HSW.out; show w.heap.size + 1 < W.heap.size; omega)).trans t2; have z3 : w5.cell? ⟨w.heap.size + 1, 3, none⟩ = some (.slice none 0 0) := (hb5.cell (p := ⟨w.heap.size + 1, 3, none⟩) (by have := HSW.out; show w.heap.size + 1 < W.heap.size; omega)).trans t3; have f0 : w5.frozen? ⟨w.heap.size + 1, 0, none⟩ = false := (hb5.frozen (p := ⟨w.heap.size + 1, 0, none⟩) (by have := HSW.out; show w.heap.size + 1 < W.heap.size; omega)).trans v0; have f1 : w5.frozen? ⟨w.heap.size + 1, 1, none⟩ = false := (hb5.frozen (p := ⟨w.heap.size + 1, 1, none⟩) (by have := HSW.out; show w.heap.size + 1 < W.heap.size; omega)).trans v1; have f2 : w5.frozen? ⟨w.heap.size + 1, 2, none⟩ = false := (hb5.frozen (p := ⟨w.heap.size + 1, 2, none⟩) (by have := HSW.out; show w.heap.size + 1 < W.heap.size; omega)).trans v2; have f3 : w5.frozen? ⟨w.heap.size + 1, 3, none⟩ = false := (hb5.frozen (p := ⟨w.heap.size + 1, 3, none⟩) (by have := HSW.out; show w.heap.size + 1 < W.heap.size; omega)).trans v3)
  all_goals
    try go_wp2
    refine bodyPost_ret (v := .agg #[.int .i64 1, .int .i64 e.op, .slice a5 e.args.length c5, .slice none 0 0]) (by simp [results, Tryd.results15, go_sem, z0, z1, z2, z3]) rfl ⟨⟨1, e.op, e.args, a5, c5, none, 0, [], rfl, ?_, by rw [MNet.net_eq, HN.out]; rfl⟩, ?_⟩
    · refine MOwn.le (base := w.heap.size + 2) ?_ (by omega)
      repeat (refine MOwn.set ?_ (by first | (simp; done) | (simp; omega)) _)
      exact (MRow.nil w5 (w.heap.size + 2)).net 1 e.op e.args hown5 (fun x hx => aside_nils _ x hx)
    · have hB5 : Below w.heap.size w w5 := hBW.trans (hb5.mono hBW.size)
      (repeat (first | with_reducible exact Below.refl _ _ | with_reducible assumption | with_reducible refine bl_set (by first | exact Nat.le_refl _ | (simp; done) | (simp; omega) | omega) ?_ _ | with_reducible refine bl_alloc ?_ _ | with_reducible refine bl_drewN ?_ _ | with_reducible refine bl_drew ?_ | with_reducible refine bl_grow ?_ _ _ | with_reducible refine bl_call ?_ (by assumption)))
end Go.Proofs.YthhfnncehfkbfaaDoor
