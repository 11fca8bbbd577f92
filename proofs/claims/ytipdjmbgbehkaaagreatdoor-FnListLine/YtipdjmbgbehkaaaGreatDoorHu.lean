/- S15: texts put together. -/
import Derived.Test.YtipdjmbgbehkaaaGreatDoorHw
import Derived.Test.YtipdjmbgbehkaaaGreatDoorGC
import Derived.Test.YtipdjmbgbehkaaaGreatDoorS7
import Derived.Test.YtipdjmbgbehkaaaGreatDoorM30
import Derived.Test.YtipdjmbgbehkaaaGreatDoorGd
import Derived.Lib.QuietBelow
/- Contracts of the specification's chapter 5: ListLine, ListText, ListSame of two lists that are one. -/
namespace Go.Proofs.YtipdjmbgbehkaaaGreatDoor
open Go.RowKit Go.Sort Go.BigFrame
set_option maxHeartbeats 2000000 in
set_option maxRecDepth 100000 in
theorem s_listLine (i : Stil.Inst) (av : Value) (w : World) (hav : DevsAt w av i.one.args) (hf : i.fits) :
    Calls Tryz.prog 19 #[.agg #[.int .i64 i.code, .int .i64 i.one.op, av]] w fun e w' => e = .returned (.string ⟨(Stil.lineText i).toArray⟩) ∧ Below w.heap.size w w' := by
  have HOK : Hid (∀ W, Below w.heap.size w W → Calls Tryz.prog 10 #[.agg #[.int .i64 i.code, .int .i64 i.one.op, av]] W fun e w' => e = .returned (.bool (Stil.listOk i)) ∧ Below W.heap.size W w') := fun W h => s_listOk i av W (hav.below h) hf
  have HTX : Hid (∀ W, Below w.heap.size w W → Calls Tryz.prog 50 #[.agg #[.int .i64 i.one.op, av]] W fun e w' => e = .returned (.string ⟨i.one.text.toArray⟩) ∧ Below W.heap.size W w') := fun W h => s_elemText i.one.op av i.one.args W (hav.below h) hf.2.2.2 (by have := hf.2.2.1; omega)
  have hav2 := hav
  obtain ⟨p0, k0, hv, _⟩ := hav2
  have HLT : Hid (Stil.lineText i = if Stil.listOk i then (if Stil.noElem i.one then Stil.lwordOf i.code else Stil.lwordOf i.code ++ 32 :: i.one.text) else []) := rfl
  have HCO : Hid (Stil.listOk i = true → ∀ W, Calls Tryz.prog 49 #[.int .i64 i.code] W fun e w' => e = .returned (.string ⟨(Stil.lwordOf i.code).toArray⟩) ∧ Below W.heap.size W w') := by
    intro hok W
    have hc := Stil.ok_code hok
    have e : ((i.code.toNat : Nat) : Int) = i.code := by omega
    have := s_listWord i.code.toNat W (by omega) (by omega)
    rw [e] at this
    exact this
  have HFO : Hid (Stil.listOk i = true → (Stil.noElem i.one = true ∧ ¬ i.code ≤ 3 ∧ i.code ≠ 10) ∨ (Stil.noElem i.one = false ∧ (i.code ≤ 3 ∨ i.code = 10))) := by
    intro hok
    rcases Stil.ok_forms hok with h | ⟨h1, _, h2⟩
    · exact .inl h
    · exact .inr ⟨h1, h2⟩
  have htl : i.one.text.length ≤ 100 := Stil.text_short i.one.op i.one.args
  have hwl := (Stil.word_high i.code).1
  obtain ⟨tx, htx⟩ : ∃ t, t = i.one.text := ⟨_, rfl⟩
  obtain ⟨lw, hlw2⟩ : ∃ t, t = Stil.lwordOf i.code := ⟨_, rfl⟩
  obtain ⟨R, hR⟩ : ∃ R, R = Stil.lineText i := ⟨_, rfl⟩
  rw [← htx] at HTX HLT htl
  rw [← hlw2] at HLT HCO hwl
  rw [← hR] at HLT ⊢
  obtain ⟨c, op, ds⟩ := i
  simp only at HOK HTX HCO HFO hv ⊢
  subst hv
  clear hav hf htx hlw2 hR
  cases hok : Stil.listOk ⟨c, op, ds⟩
  · have HR : Hid (R = []) := by show _ = _; rw [HLT.out, hok]; rfl
    rw [hok] at HOK
    clear HLT HCO hok HTX HFO
    go_enter Tryz.func19, Tryz.ntmps19
    go_wp2_with (go_at_call 10; refine (HOK.out _ (by (repeat (first | with_reducible exact Below.refl _ _ | with_reducible assumption | with_reducible refine bl_set (by first | exact Nat.le_refl _ | (simp; done) | (simp; omega) | omega) ?_ _ | with_reducible refine bl_alloc ?_ _ | with_reducible refine bl_drewN ?_ _ | with_reducible refine bl_drew ?_ | with_reducible refine bl_grow ?_ _ _ | with_reducible refine bl_call ?_ (by assumption))))).mono ?_; rintro e w1 ⟨rfl, hb1⟩)
    go_ret
    exact ⟨ret_string (by rw [HR.out]), by (repeat (first | with_reducible exact Below.refl _ _ | with_reducible assumption | with_reducible refine bl_set (by first | exact Nat.le_refl _ | (simp; done) | (simp; omega) | omega) ?_ _ | with_reducible refine bl_alloc ?_ _ | with_reducible refine bl_drewN ?_ _ | with_reducible refine bl_drew ?_ | with_reducible refine bl_grow ?_ _ _ | with_reducible refine bl_call ?_ (by assumption)))⟩
  · have HC2 : Hid (∀ W, Calls Tryz.prog 49 #[.int .i64 c] W fun e w' => e = .returned (.string ⟨lw.toArray⟩) ∧ Below W.heap.size W w') := HCO.out hok
    rcases HFO.out hok with ⟨hn, h3, h10⟩ | ⟨hn, hcc⟩
    · have HR : Hid (R = lw) := by show _ = _; rw [HLT.out, hok, hn]; rfl
      have e10 : (c == 10) = false := beq_eq_false_iff_ne.2 h10
      rw [hok] at HOK
      clear HLT HCO hok HTX HFO hn h10
      go_enter Tryz.func19, Tryz.ntmps19
      go_wp2_with (first | (go_at_call 10; refine (HOK.out _ (by (repeat (first | with_reducible exact Below.refl _ _ | with_reducible assumption | with_reducible refine bl_set (by first | exact Nat.le_refl _ | (simp; done) | (simp; omega) | omega) ?_ _ | with_reducible refine bl_alloc ?_ _ | with_reducible refine bl_drewN ?_ _ | with_reducible refine bl_drew ?_ | with_reducible refine bl_grow ?_ _ _ | with_reducible refine bl_call ?_ (by assumption))))).mono ?_; rintro e w1 ⟨rfl, hb1⟩; obtain ⟨hc1, hf1⟩ := bcell hb1; have hz0 : w.heap.size < w1.heap.size := Nat.lt_of_lt_of_le (by simp) hb1.size) | (go_at_call 49; refine (HC2.out _).mono ?_; rintro e w3 ⟨rfl, hb3⟩))
      go_ret
      exact ⟨ret_string (by rw [HR.out]), by (repeat (first | with_reducible exact Below.refl _ _ | with_reducible assumption | with_reducible refine bl_set (by first | exact Nat.le_refl _ | (simp; done) | (simp; omega) | omega) ?_ _ | with_reducible refine bl_alloc ?_ _ | with_reducible refine bl_drewN ?_ _ | with_reducible refine bl_drew ?_ | with_reducible refine bl_grow ?_ _ _ | with_reducible refine bl_call ?_ (by assumption)))⟩
    · have HR : Hid (R = lw ++ 32 :: tx) := by show _ = _; rw [HLT.out, hok, hn]; rfl
      rw [hok] at HOK
      have hcd : c ≤ 3 ∨ (¬ c ≤ 3 ∧ (c == 10) = true) := by
        rcases hcc with h | rfl
        · exact .inl h
        · exact .inr ⟨by decide, rfl⟩
      clear HLT HCO hok HFO hn hcc
      rcases hcd with h3 | ⟨h3, h10⟩
      all_goals
        go_enter Tryz.func19, Tryz.ntmps19
        go_upto_region 4 with (go_at_call 10; refine (HOK.out _ (by (repeat (first | with_reducible exact Below.refl _ _ | with_reducible assumption | with_reducible refine bl_set (by first | exact Nat.le_refl _ | (simp; done) | (simp; omega) | omega) ?_ _ | with_reducible refine bl_alloc ?_ _ | with_reducible refine bl_drewN ?_ _ | with_reducible refine bl_drew ?_ | with_reducible refine bl_grow ?_ _ _ | with_reducible refine bl_call ?_ (by assumption))))).mono ?_; rintro e w1 ⟨rfl, hb1⟩; obtain ⟨hc1, hf1⟩ := bcell hb1; have hz0 : w.heap.size < w1.heap.size := Nat.lt_of_lt_of_le (by simp) hb1.size)
        have q0 : w1.cell? ⟨w.heap.size, 0, none⟩ = some (.int .i64 c) := by rw [hc1 _ _ (by simp)]; simp [go_sem]
        have q1 : w1.cell? ⟨w.heap.size, 1, none⟩ = some (.int .i64 op) := by rw [hc1 _ _ (by simp)]; simp [go_sem]
        have q2 : w1.cell? ⟨w.heap.size, 2, none⟩ = some (.slice p0 ds.length k0) := by rw [hc1 _ _ (by simp)]; simp [go_sem]
        have hbw : Below w.heap.size w w1 := by (repeat (first | with_reducible exact Below.refl _ _ | with_reducible assumption | with_reducible refine bl_set (by first | exact Nat.le_refl _ | (simp; done) | (simp; omega) | omega) ?_ _ | with_reducible refine bl_alloc ?_ _ | with_reducible refine bl_drewN ?_ _ | with_reducible refine bl_drew ?_ | with_reducible refine bl_grow ?_ _ _ | with_reducible refine bl_call ?_ (by assumption)))
        have r0 := cell_regrown q0
        have r1 := cell_regrown q1
        have r2 := cell_regrown q2
        clear hc1 hf1
        refine wp_region_quiet_below (by kernel_rfl) (by kernel_rfl) ?_
        repeat (go_big_quiet_step ((first | exact Calls.regrown_of (HC2.out _) | exact Calls.regrown_of (HTX.out _ (hbw.trans ((below_regrown _ _ _).mono hbw.size))))))
        refine wpQuiet_nil ?_
        intro _ hw'
        obtain ⟨⟨dq, osq⟩, hw''⟩ := hw'
        subst hw''
        go_wp2
        go_ret
        exact ⟨ret_string (by rw [HR.out]; rw [ba_app2, ba_app]; simp), hbw.trans ((below_regrown _ _ _).mono hbw.size)⟩
end Go.Proofs.YtipdjmbgbehkaaaGreatDoor
