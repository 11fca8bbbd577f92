/- Contracts of the program's chapter 5: listTold. -/
import Derived.Test.YtipdjmbgbehkaaaGreatDoorX11
import Derived.Test.YtipdjmbgbehkaaaGreatDoorGQ
namespace Go.Proofs.YtipdjmbgbehkaaaGreatDoor
open Go.RowKit Go.Sort Go.BigFrame
set_option maxHeartbeats 2000000 in
set_option maxRecDepth 100000 in
theorem i_listTold (c n : Int) (x : Value) (w : World) (hE : ErrTypeAt w) (hx : x = .nilIface ∧ n = 0 ∨ x = .iface 89 (.int .i64 n)) :
    Calls Tryz.prog 32 #[.iface 87 (.agg #[.int .i64 c, x])] w fun e w' => e = .returned (.agg #[.int .i64 n, .int .i64 c]) ∧ Below w.heap.size w w' := by
  have HE : Hid (∀ V, Below w.heap.size w V → ErrTypeAt V) := fun V h => hE.below h
  have hox : x.oneCell' = true := by rcases hx with ⟨rfl, _⟩ | rfl <;> rfl
  clear hE
  go_enter Tryz.func32, Tryz.ntmps32
  go_upto_region 4 with (go_at_call 67; refine (as_hitLW c x (w.heap.size + 1) (.int .i64 0) .nilIface _ hox (HE.out _ (by (repeat (first | with_reducible exact Below.refl _ _ | with_reducible assumption | with_reducible refine bl_set (by first | exact Nat.le_refl _ | (simp; done) | (simp; omega) | omega) ?_ _ | with_reducible refine bl_alloc ?_ _ | with_reducible refine bl_drewN ?_ _ | with_reducible refine bl_drew ?_ | with_reducible refine bl_grow ?_ _ _ | with_reducible refine bl_call ?_ (by assumption))))) (by simp [go_sem]) (by simp [go_sem]) (by simp [go_sem]) (by simp [go_sem])).mono ?_; rintro e w1 ⟨rfl, w4, hb4, rfl⟩)
  have hs4 : w.heap.size + 1 + 1 + 1 ≤ w4.heap.size := by have := hb4.size; simp at this; exact this
  have r0 : w4.cell? ⟨w.heap.size, 0, none⟩ = some (.int .i64 0) := by rw [hb4.cell (p := ⟨w.heap.size, 0, none⟩) (by simp; omega)]; simp [go_sem]
  have r1 : w4.cell? ⟨w.heap.size, 1, none⟩ = some (.int .i64 0) := by rw [hb4.cell (p := ⟨w.heap.size, 1, none⟩) (by simp; omega)]; simp [go_sem]
  have q0 : w4.frozen? ⟨w.heap.size, 0, none⟩ = false := by rw [hb4.frozen (p := ⟨w.heap.size, 0, none⟩) (by simp; omega)]; simp [go_sem]
  have q1 : w4.frozen? ⟨w.heap.size, 1, none⟩ = false := by rw [hb4.frozen (p := ⟨w.heap.size, 1, none⟩) (by simp; omega)]; simp [go_sem]
  have t0 : w4.cell? ⟨w.heap.size + 1, 0, none⟩ = some (.int .i64 0) := by rw [hb4.cell (p := ⟨w.heap.size + 1, 0, none⟩) (by simp)]; simp [go_sem]
  have t1 : w4.cell? ⟨w.heap.size + 1, 1, none⟩ = some .nilIface := by rw [hb4.cell (p := ⟨w.heap.size + 1, 1, none⟩) (by simp)]; simp [go_sem]
  have a0 : w4.cell? ⟨w.heap.size + 1 + 1, 0, none⟩ = some (.int .i64 0) := by rw [hb4.cell (p := ⟨w.heap.size + 1 + 1, 0, none⟩) (by simp)]; simp [go_sem]
  have p0 : w4.frozen? ⟨w.heap.size + 1 + 1, 0, none⟩ = false := by rw [hb4.frozen (p := ⟨w.heap.size + 1 + 1, 0, none⟩) (by simp)]; simp [go_sem]
  have hbw4 : Below w.heap.size w w4 := by (repeat (first | with_reducible exact Below.refl _ _ | with_reducible assumption | with_reducible refine bl_set (by first | exact Nat.le_refl _ | (simp; done) | (simp; omega) | omega) ?_ _ | with_reducible refine bl_alloc ?_ _ | with_reducible refine bl_drewN ?_ _ | with_reducible refine bl_drew ?_ | with_reducible refine bl_grow ?_ _ _ | with_reducible refine bl_call ?_ (by assumption)))
  obtain ⟨V, hV⟩ : ∃ V, V = (w4.setCell ⟨w.heap.size + 1, 0, none⟩ (.int .i64 c)).setCell ⟨w.heap.size + 1, 1, none⟩ x := ⟨_, rfl⟩
  have hsV : V.heap.size = w4.heap.size := by rw [hV]; simp
  have hbV : Below w.heap.size w V := by rw [hV]; exact bl_set (by simp) (bl_set (by simp) hbw4 _) _
  have HAL : Hid (∀ U, Below V.heap.size V U → (U.cell? ⟨w.heap.size, 0, none⟩ = some (.int .i64 0) ∧ U.cell? ⟨w.heap.size, 1, none⟩ = some (.int .i64 0) ∧ U.frozen? ⟨w.heap.size, 0, none⟩ = false ∧ U.frozen? ⟨w.heap.size, 1, none⟩ = false) ∧ U.cell? ⟨w.heap.size + 1, 0, none⟩ = some (.int .i64 c) ∧ U.cell? ⟨w.heap.size + 1 + 1, 0, none⟩ = some (.int .i64 0) ∧ U.frozen? ⟨w.heap.size + 1 + 1, 0, none⟩ = false) := fun U h => by
    have y0 : V.cell? ⟨w.heap.size, 0, none⟩ = some (.int .i64 0) := by rw [hV]; exact (cell_set_other (by omega)).trans ((cell_set_other (by omega)).trans r0)
    have y1 : V.cell? ⟨w.heap.size, 1, none⟩ = some (.int .i64 0) := by rw [hV]; exact (cell_set_other (by omega)).trans ((cell_set_other (by omega)).trans r1)
    have y2 : V.cell? ⟨w.heap.size + 1, 0, none⟩ = some (.int .i64 c) := by rw [hV]; exact (cell_set_off (by omega)).trans (cell_set_at t0)
    have y3 : V.cell? ⟨w.heap.size + 1 + 1, 0, none⟩ = some (.int .i64 0) := by rw [hV]; exact (cell_set_other (by omega)).trans ((cell_set_other (by omega)).trans a0)
    have q : ∀ b o, V.frozen? ⟨b, o, none⟩ = w4.frozen? ⟨b, o, none⟩ := fun b o => by rw [hV]; exact frozen_set.trans frozen_set
    have y : ∀ b o v, V.cell? ⟨b, o, none⟩ = some v → U.cell? ⟨b, o, none⟩ = some v := fun b o v e => (h.cell (World.block_lt_of_cell? _ _ e)).trans e
    have z : ∀ b o v, V.cell? ⟨b, o, none⟩ = some v → w4.frozen? ⟨b, o, none⟩ = false → U.frozen? ⟨b, o, none⟩ = false := fun b o v e p => (h.frozen (World.block_lt_of_cell? _ _ e)).trans ((q b o).trans p)
    exact ⟨⟨y _ _ _ y0, y _ _ _ y1, z _ _ _ y0 q0, z _ _ _ y1 q1⟩, y _ _ _ y2, y _ _ _ y3, z _ _ _ y3 p0⟩
  rw [← hV]
  clear hV r0 r1 q0 q1 t0 t1 a0 p0 hbw4 hb4
  obtain ⟨⟨r0, r1, q0, q1⟩, t0, a0, p0⟩ := HAL.out V (Below.refl _ _)
  rcases hx with ⟨rfl, rfl⟩ | rfl
  · go_upto_region 5 with (go_at_call 67; refine (as_missLA c ⟨w.heap.size + 1 + 1, 0, none⟩ _ (HE.out _ (by (repeat (first | with_reducible exact Below.refl _ _ | with_reducible assumption | with_reducible refine bl_set (by first | exact Nat.le_refl _ | (simp; done) | (simp; omega) | omega) ?_ _ | with_reducible refine bl_alloc ?_ _ | with_reducible refine bl_drewN ?_ _ | with_reducible refine bl_drew ?_ | with_reducible refine bl_grow ?_ _ _ | with_reducible refine bl_call ?_ (by assumption)))))).mono ?_; rintro e w5 ⟨rfl, hb5⟩; clear r0 r1 q0 q1 t0 a0 p0; obtain ⟨⟨r0, r1, q0, q1⟩, t0, a0, p0⟩ := HAL.out w5 (by (repeat (first | with_reducible exact Below.refl _ _ | with_reducible assumption | with_reducible refine bl_set (by first | exact Nat.le_refl _ | (simp; done) | (simp; omega) | omega) ?_ _ | with_reducible refine bl_alloc ?_ _ | with_reducible refine bl_drewN ?_ _ | with_reducible refine bl_drew ?_ | with_reducible refine bl_grow ?_ _ _ | with_reducible refine bl_call ?_ (by assumption)))))
    have hb9 : Below w.heap.size w w5 := by (repeat (first | with_reducible exact Below.refl _ _ | with_reducible assumption | with_reducible refine bl_set (by first | exact Nat.le_refl _ | (simp; done) | (simp; omega) | omega) ?_ _ | with_reducible refine bl_alloc ?_ _ | with_reducible refine bl_drewN ?_ _ | with_reducible refine bl_drew ?_ | with_reducible refine bl_grow ?_ _ _ | with_reducible refine bl_call ?_ (by assumption)))
    go_wp2
    refine bodyPost_ret (v := .agg #[.int .i64 0, .int .i64 c]) (by simp [results, Tryz.results32, go_sem, cell_set_at r0, r1]) rfl ⟨rfl, bl_set (by simp) (bl_set (by simp) hb9 _) _⟩
  · go_upto_region 5 with (go_at_call 67; refine (as_hitLA c n ⟨w.heap.size + 1 + 1, 0, none⟩ (.int .i64 0) _ (HE.out _ (by (repeat (first | with_reducible exact Below.refl _ _ | with_reducible assumption | with_reducible refine bl_set (by first | exact Nat.le_refl _ | (simp; done) | (simp; omega) | omega) ?_ _ | with_reducible refine bl_alloc ?_ _ | with_reducible refine bl_drewN ?_ _ | with_reducible refine bl_drew ?_ | with_reducible refine bl_grow ?_ _ _ | with_reducible refine bl_call ?_ (by assumption))))) a0 p0).mono ?_; rintro e w5 ⟨rfl, w6, hb6, rfl⟩; clear r0 r1 q0 q1 t0 a0 p0; obtain ⟨⟨r0, r1, q0, q1⟩, t0, a0, p0⟩ := HAL.out w6 (by (repeat (first | with_reducible exact Below.refl _ _ | with_reducible assumption | with_reducible refine bl_set (by first | exact Nat.le_refl _ | (simp; done) | (simp; omega) | omega) ?_ _ | with_reducible refine bl_alloc ?_ _ | with_reducible refine bl_drewN ?_ _ | with_reducible refine bl_drew ?_ | with_reducible refine bl_grow ?_ _ _ | with_reducible refine bl_call ?_ (by assumption)))))
    have hb9 : Below w.heap.size w w6 := by (repeat (first | with_reducible exact Below.refl _ _ | with_reducible assumption | with_reducible refine bl_set (by first | exact Nat.le_refl _ | (simp; done) | (simp; omega) | omega) ?_ _ | with_reducible refine bl_alloc ?_ _ | with_reducible refine bl_drewN ?_ _ | with_reducible refine bl_drew ?_ | with_reducible refine bl_grow ?_ _ _ | with_reducible refine bl_call ?_ (by assumption)))
    obtain ⟨U, hU⟩ : ∃ U, U = w6.setCell ⟨w.heap.size + 1 + 1, 0, none⟩ (.int .i64 n) := ⟨_, rfl⟩
    have hb10 : Below w.heap.size w U := by rw [hU]; exact bl_set (by simp; omega) hb9 _
    have y0 : U.cell? ⟨w.heap.size, 0, none⟩ = some (.int .i64 0) := by rw [hU]; exact (cell_set_other (by omega)).trans r0
    have y1 : U.cell? ⟨w.heap.size, 1, none⟩ = some (.int .i64 0) := by rw [hU]; exact (cell_set_other (by omega)).trans r1
    have y2 : U.cell? ⟨w.heap.size + 1, 0, none⟩ = some (.int .i64 c) := by rw [hU]; exact (cell_set_other (by omega)).trans t0
    have y3 : U.cell? ⟨w.heap.size + 1 + 1, 0, none⟩ = some (.int .i64 n) := by rw [hU]; exact cell_set_at a0
    have y4 : U.frozen? ⟨w.heap.size, 0, none⟩ = false := by rw [hU]; exact frozen_set.trans q0
    have y5 : U.frozen? ⟨w.heap.size, 1, none⟩ = false := by rw [hU]; exact frozen_set.trans q1
    rw [← hU]
    clear hU r0 r1 q0 q1 t0 a0 p0
    go_wp2
    refine bodyPost_ret (v := .agg #[.int .i64 n, .int .i64 c]) (by simp [results, Tryz.results32, go_sem, cell_set_at y0, y1]) rfl ⟨rfl, bl_set (by simp) (bl_set (by simp) hb10 _) _⟩
end Go.Proofs.YtipdjmbgbehkaaaGreatDoor
