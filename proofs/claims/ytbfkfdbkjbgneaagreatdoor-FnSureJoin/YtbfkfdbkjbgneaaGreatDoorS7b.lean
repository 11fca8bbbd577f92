/- Contracts of the specification's chapter 6: what is wrong with an instruction, what is known behind it. -/
import Derived.Test.YtbfkfdbkjbgneaaGreatDoorS7
namespace Go.Proofs.YtbfkfdbkjbgneaaGreatDoor
open Go.RowKit Go.Sort Go.BigFrame
def ptv (s : Stil.Pt) : Value := .agg #[.int .i64 s.bits, .int .i64 s.forks, .bool s.seen, .bool s.coil]
theorem nd1 : Stil.needs 1 = 0 := rfl
theorem lo1 : Stil.low 1 = 1 := rfl
theorem nd2 : Stil.needs 2 = 1 := rfl
theorem lo2 : Stil.low 2 = 1 := rfl
theorem nd3 : Stil.needs 3 = 1 := rfl
theorem lo3 : Stil.low 3 = 1 := rfl
theorem nd4 : Stil.needs 4 = 2 := rfl
theorem lo4 : Stil.low 4 = 1 := rfl
theorem nd5 : Stil.needs 5 = 2 := rfl
theorem lo5 : Stil.low 5 = 2 := rfl
theorem nd6 : Stil.needs 6 = 1 := rfl
theorem lo6 : Stil.low 6 = 1 := rfl
theorem nd7 : Stil.needs 7 = 1 := rfl
theorem lo7 : Stil.low 7 = 1 := rfl
theorem nd8 : Stil.needs 8 = 1 := rfl
theorem lo8 : Stil.low 8 = 1 := rfl
theorem nd9 : Stil.needs 9 = 1 := rfl
theorem lo9 : Stil.low 9 = 1 := rfl
theorem nd10 : Stil.needs 10 = 1 := rfl
theorem lo10 : Stil.low 10 = 1 := rfl
theorem nd11 : Stil.needs 11 = 1 := rfl
theorem lo11 : Stil.low 11 = 1 := rfl
set_option maxHeartbeats 4000000 in
set_option maxRecDepth 100000 in
theorem s_wrong (b f : Int) (sn cl : Bool) (i : Stil.Inst) (av : Value) (w : World) (hav : DevsAt w av i.one.args) (hf : i.fits) :
    Calls Tryz.prog 16 #[.agg #[.int .i64 b, .int .i64 f, .bool sn, .bool cl], .agg #[.int .i64 i.code, .int .i64 i.one.op, av]] w fun e w' => e = .returned (.int .i64 (Stil.wrong ⟨b, f, sn, cl⟩ i)) ∧ Below w.heap.size w w' := by
  have HK : Hid (∀ W, Below w.heap.size w W → Calls Tryz.prog 19 #[.agg #[.int .i64 i.code, .int .i64 i.one.op, av]] W fun e w' => e = .returned (.bool (Stil.listOk i)) ∧ Below W.heap.size W w') := fun W hW => s_listOk i av W (hav.below hW) hf
  obtain ⟨p0, r0, rfl, _⟩ := hav
  have hla : i.one.args.length ≤ 1048576 := hf.2.2.1
  obtain ⟨R, hR⟩ : ∃ R, R = Stil.wrong ⟨b, f, sn, cl⟩ i := ⟨_, rfl⟩
  have HR : Hid (Stil.wrong ⟨b, f, sn, cl⟩ i = R) := hR.symm
  rw [← hR]
  have HKK : Hid (Stil.listOk i = true → 1 ≤ i.code ∧ i.code ≤ 11) := Stil.ok_code
  obtain ⟨c, hc⟩ : ∃ c, c = i.code := ⟨_, rfl⟩
  obtain ⟨k, hk⟩ : ∃ k, k = Stil.listOk i := ⟨_, rfl⟩
  obtain ⟨op, hop⟩ : ∃ op, op = i.one.op := ⟨_, rfl⟩
  obtain ⟨ln, hln⟩ : ∃ ln, ln = i.one.args.length := ⟨_, rfl⟩
  have HW : Hid (R = if k = false then 2 else if b < Stil.needs c then 3 else if c = 1 ∧ b = 16 then 4 else if 7 ≤ c ∧ 1 < b then 5 else if sn = true ∧ b = Stil.low c ∧ (c = 3 ∨ c = 6 ∨ c = 5) then 6 else if c = 7 ∧ f = 8 then 7 else if (c = 8 ∨ c = 9) ∧ f = 0 then 7 else if c = 11 ∧ 0 < f then 7 else if (c = 8 ∨ c = 9 ∨ c = 11) ∧ cl = false then 8 else 0) := by
    show _ = _; rw [← HR.out, hk, hc]; rfl
  rw [← hc, ← hk] at HKK HK
  rw [← hop, ← hln] at HK
  rw [← hln] at hla
  rw [← hc, ← hop, ← hln]
  clear hR HR hc hk hop hln hf
  cases k
  · have HX : Hid (R = 2) := by show _ = _; rw [HW.out, if_pos rfl]
    clear HW HKK
    go_enter Tryz.func16, Tryz.ntmps16
    go_wp2_with (go_at_call 19; refine (HK.out _ (by (repeat (first | with_reducible exact Below.refl _ _ | with_reducible assumption | with_reducible refine bl_set (by first | exact Nat.le_refl _ | (simp; done) | (simp; omega) | omega) ?_ _ | with_reducible refine bl_alloc ?_ _ | with_reducible refine bl_drewN ?_ _ | with_reducible refine bl_drew ?_ | with_reducible refine bl_grow ?_ _ _ | with_reducible refine bl_call ?_ (by assumption))))).mono ?_; rintro e w1 ⟨rfl, hb⟩)
    all_goals go_ret
    all_goals exact ⟨ret_int HX.out.symm, by (repeat (first | with_reducible exact Below.refl _ _ | with_reducible assumption | with_reducible refine bl_set (by first | exact Nat.le_refl _ | (simp; done) | (simp; omega) | omega) ?_ _ | with_reducible refine bl_alloc ?_ _ | with_reducible refine bl_drewN ?_ _ | with_reducible refine bl_drew ?_ | with_reducible refine bl_grow ?_ _ _ | with_reducible refine bl_call ?_ (by assumption)))⟩
  · obtain ⟨hc1, hc2⟩ := HKK.out rfl
    have hx : c = 1 ∨ c = 2 ∨ c = 3 ∨ c = 4 ∨ c = 5 ∨ c = 6 ∨ c = 7 ∨ c = 8 ∨ c = 9 ∨ c = 10 ∨ c = 11 := by omega
    clear HKK hc1 hc2
    rcases hx with rfl | rfl | rfl | rfl | rfl | rfl | rfl | rfl | rfl | rfl | rfl
    all_goals (rcases sn.eq_false_or_eq_true with hsn | hsn <;> rcases cl.eq_false_or_eq_true with hcl | hcl)
    all_goals (
      go_enter Tryz.func16, Tryz.ntmps16
      go_wp2_with (go_at_call 19; refine (HK.out _ (by (repeat (first | with_reducible exact Below.refl _ _ | with_reducible assumption | with_reducible refine bl_set (by first | exact Nat.le_refl _ | (simp; done) | (simp; omega) | omega) ?_ _ | with_reducible refine bl_alloc ?_ _ | with_reducible refine bl_drewN ?_ _ | with_reducible refine bl_drew ?_ | with_reducible refine bl_grow ?_ _ _ | with_reducible refine bl_call ?_ (by assumption))))).mono ?_; rintro e w1 ⟨rfl, hb⟩; have hz0 : w.heap.size < w1.heap.size := Nat.lt_of_lt_of_le (by first | (simp; done) | (simp; omega)) hb.size; have y0 : w1.cell? ⟨w.heap.size, 0, none⟩ = some (.int .i64 b) := (by rw [hb.cell (p := ⟨w.heap.size, 0, none⟩) (by first | (simp; done) | (simp; omega))]; simp [go_sem]); have y1 : w1.cell? ⟨w.heap.size, 1, none⟩ = some (.int .i64 f) := (by rw [hb.cell (p := ⟨w.heap.size, 1, none⟩) (by first | (simp; done) | (simp; omega))]; simp [go_sem]); have y2 : w1.cell? ⟨w.heap.size, 2, none⟩ = some (.bool sn) := (by rw [hb.cell (p := ⟨w.heap.size, 2, none⟩) (by first | (simp; done) | (simp; omega))]; first | (simp [go_sem]; done) | (simp [go_sem]; assumption)); have y3 : w1.cell? ⟨w.heap.size, 3, none⟩ = some (.bool cl) := (by rw [hb.cell (p := ⟨w.heap.size, 3, none⟩) (by first | (simp; done) | (simp; omega))]; first | (simp [go_sem]; done) | (simp [go_sem]; assumption)))
      have r0 := cell_regrown y0
      have r1 := cell_regrown y1
      have r2 := cell_regrown y2
      have r3 := cell_regrown y3
      refine wp_region_quiet_below (by kernel_rfl) (by kernel_rfl) ?_
      repeat (go_big_quiet_step ((exact Calls.regrown_of (s_needs _ _))))
      refine wpQuiet_nil ?_
      intro _ hw'
      obtain ⟨⟨dq, osq⟩, hw''⟩ := hw'
      subst hw''
      go_wp2
      all_goals go_ret
      all_goals refine ⟨ret_int ?_, by (repeat (first | with_reducible exact Below.refl _ _ | with_reducible assumption | with_reducible refine bl_set (by first | exact Nat.le_refl _ | (simp; done) | (simp; omega) | omega) ?_ _ | with_reducible refine bl_alloc ?_ _ | with_reducible refine bl_drewN ?_ _ | with_reducible refine bl_drew ?_ | with_reducible refine bl_grow ?_ _ _ | with_reducible refine bl_call ?_ (by assumption)))⟩
      all_goals (rw [HW.out]; go_light; (try simp only [beq_iff_eq, beq_eq_false_iff_ne, nd1, lo1, nd2, lo2, nd3, lo3, nd4, lo4, nd5, lo5, nd6, lo6, nd7, lo7, nd8, lo8, nd9, lo9, nd10, lo10, nd11, lo11] at *); simp [*]; try omega))
end Go.Proofs.YtbfkfdbkjbgneaaGreatDoor
