/- Contracts of the program's chapter 1, fourth part: DevText. -/
import Derived.Test.YtnbdgpepancfnabDoorI4
import Derived.Test.YtnbdgpepancfnabDoorS1e
namespace Go.Proofs.YtnbdgpepancfnabDoor
open Go.RowKit Go.Sort Go.BigFrame
set_option maxHeartbeats 400000 in
set_option maxRecDepth 100000 in
theorem i_devText (k n p : Int) (w : World) (hr : RowsAt w) (hw : WordsAt w) (hpw : PowAt w) (hn1 : -9223372036854775808 ≤ n) (hn2 : n ≤ 9223372036854775807) :
    Calls Tryd.prog 27 #[.agg #[.int .i64 k, .int .i64 n, .int .i64 p]] w fun e w' => e = .returned (.string ⟨(Stil.devText k n p).toArray⟩) ∧ Below w.heap.size w w' := by
  have HR : Hid (∀ W, Below w.heap.size w W → RowsAt W) := fun W h => hr.below h
  have HWd : Hid (∀ W, Below w.heap.size w W → WordsAt W) := fun W h => hw.below h
  have HP : Hid (∀ W, Below w.heap.size w W → PowAt W) := fun W h => hpw.below h
  clear hr hw hpw
  cases hok : Stil.devOkB k n p
  · have HD : Hid (Stil.devText k n p = []) := by show Stil.devText k n p = []; unfold Stil.devText; rw [hok]; rfl
    go_enter Tryd.func27, Tryd.ntmps27
    go_wp2_with (go_at_call 39; refine (i_devOk _ _ _ _ (HR.out _ (below_alloc _ _)) hn1 hn2).mono ?_; rintro e w' ⟨rfl, hb⟩)
    go_ret
    exact ⟨ret_string (by rw [HD.out]), below_two hb⟩
  · by_cases h11 : k = 11
    · subst h11
      have HD : Hid (Stil.devText 11 n p = Lib.itoa n) := by show _ = _; unfold Stil.devText; rw [hok]; rfl
      have hr : -32768 ≤ n ∧ n ≤ 32767 := by simp [Stil.devOkB] at hok; omega
      obtain ⟨hr1, hr2⟩ := hr
      go_enter Tryd.func27, Tryd.ntmps27
      go_wp2_with (first | (go_at_call 39; refine (i_devOk _ _ _ _ (HR.out _ (below_alloc _ _)) hn1 hn2).mono ?_; rintro e w' ⟨rfl, hb⟩; obtain ⟨hc, hf⟩ := bcell hb) | (go_at_call 40; refine (i_itoa n _ (HP.out _ (below_two hb)) (by omega) (by omega)).mono ?_; rintro e w2 ⟨rfl, hb2⟩))
      go_ret
      exact ⟨ret_string (by rw [HD.out]), (below_two hb).trans (hb2.mono (by have := hb.size; simp at this; omega))⟩
    · by_cases h12 : k = 12
      · subst h12
        obtain ⟨a1, a2, a3, a4⟩ := devOk_dec hok
        have HD : Hid (Stil.devText 12 n p = Stil.decText n p) := by show _ = _; unfold Stil.devText; rw [hok]; rfl
        go_enter Tryd.func27, Tryd.ntmps27
        go_wp2_with (first | (go_at_call 39; refine (i_devOk _ _ _ _ (HR.out _ (below_alloc _ _)) hn1 hn2).mono ?_; rintro e w' ⟨rfl, hb⟩; obtain ⟨hc, hf⟩ := bcell hb) | (go_at_call 41; refine (i_decText n p _ (HP.out _ (below_two hb)) a1 a2 a3 a4).mono ?_; rintro e w2 ⟨rfl, hb2⟩))
        go_ret
        exact ⟨ret_string (by rw [HD.out]), (below_two hb).trans (hb2.mono (by have := hb.size; simp at this; omega))⟩
      · by_cases h13 : k = 13
        · subst h13
          obtain ⟨a1, a2⟩ := devOk_word hok
          have HD : Hid (Stil.devText 13 n p = Stil.words.getD n.toNat []) := by show _ = _; unfold Stil.devText; rw [hok]; rfl
          go_enter Tryd.func27, Tryd.ntmps27
          go_wp2_with (go_at_call 39; refine (i_devOk _ _ _ _ (HR.out _ (below_alloc _ _)) hn1 hn2).mono ?_; rw [hok]; rintro e w' ⟨rfl, hb⟩; obtain ⟨hc, hf⟩ := bcell hb; have hwd := (HWd.out _ (below_two hb)).2 n.toNat (by omega); have c0 : w'.cell? ⟨w.heap.size, 0, none⟩ = some (.int .i64 13) := (by rw [hc _ _ (by simp)]; simp [go_sem]); have c1 : w'.cell? ⟨w.heap.size, 1, none⟩ = some (.int .i64 n) := (by rw [hc _ _ (by simp)]; simp [go_sem]); clear hc hf)
          go_ret
          exact ⟨ret_string (by rw [HD.out]; simp), below_two hb⟩
        · obtain ⟨a1, a2, a3, a4, a5⟩ := devOk_dev hok h11 h12 h13
          subst a5
          have h11' : (k == 11) = false := by simpa using h11
          have h12' : (k == 12) = false := by simpa using h12
          have h13' : (k == 13) = false := by simpa using h13
          have HD : Hid (Stil.devText k n 0 = Stil.letters.getD (k.toNat - 1) 0 :: Lib.itoa n) := by
            show _ = _
            unfold Stil.devText; rw [hok]; simp [h11, h12, h13]
          have hl : (Lib.itoa n).length ≤ 19 := by
            unfold Lib.itoa; rw [if_neg (by omega)]; exact decDigits_le (by omega)
          have hL : Stil.devLetter k = ⟨#[Stil.letters.getD (k.toNat - 1) 0]⟩ := by unfold Stil.devLetter; rw [if_pos ⟨a1, a2⟩]
          clear h11 h12 h13
          go_enter Tryd.func27, Tryd.ntmps27
          go_wp2_with (first | (go_at_call 39; refine (i_devOk _ _ _ _ (HR.out _ (below_alloc _ _)) hn1 hn2).mono ?_; rintro e w' ⟨rfl, hb⟩; obtain ⟨hc, hf⟩ := bcell hb))
          have c0 : w'.cell? ⟨w.heap.size, 0, none⟩ = some (.int .i64 k) := by rw [hc _ _ (by simp)]; simp [go_sem]
          have c1 : w'.cell? ⟨w.heap.size, 1, none⟩ = some (.int .i64 n) := by rw [hc _ _ (by simp)]; simp [go_sem]
          have hbw : Below w.heap.size w w' := below_two hb
          have r0 := cell_regrown c0
          have r1 := cell_regrown c1
          refine wp_region_quiet_below (by kernel_rfl) (by kernel_rfl) ?_
          repeat (go_big_quiet_step ((first | exact Calls.regrown_of (i_devLetter _ _ (HR.out _ (by (repeat (first | exact Below.refl _ _ | assumption | refine bl_alloc ?_ _ | refine bl_drewN ?_ _ | refine bl_drew ?_ | refine bl_grow ?_ _ _ | refine bl_set (Nat.le_refl _) ?_ _ | refine bl_call ?_ (by assumption)))))) | exact Calls.regrown_of (i_itoa _ _ (HP.out _ (by (repeat (first | exact Below.refl _ _ | assumption | refine bl_alloc ?_ _ | refine bl_drewN ?_ _ | refine bl_drew ?_ | refine bl_grow ?_ _ _ | refine bl_set (Nat.le_refl _) ?_ _ | refine bl_call ?_ (by assumption))))) (by omega) (by omega)))))
          refine wpQuiet_nil ?_
          intro _ hw'
          obtain ⟨⟨dq, osq⟩, hw''⟩ := hw'
          subst hw''
          go_wp2
          go_ret
          refine ⟨ret_string ?_, (below_two hb).trans ((below_regrown _ dq osq).mono (by have := hb.size; simp at this; omega))⟩
          rw [HD.out, ba_app1]; simp [List.getD]
end Go.Proofs.YtnbdgpepancfnabDoor
