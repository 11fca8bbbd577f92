/- Contracts of the specification's chapter 1, fifth part: DevText. -/
import Derived.Test.YtnbdgpepancfnabDoorS1d
import Derived.Deep.RegionHeld3
namespace Go.Proofs.YtnbdgpepancfnabDoor
open Go.RowKit Go.Sort Go.BigFrame
theorem devOk_dec {n p : Int} (h : Stil.devOkB 12 n p = true) : -999999999 ≤ n ∧ n ≤ 999999999 ∧ 1 ≤ p ∧ p ≤ 6 := by
  simp [Stil.devOkB] at h; omega
theorem devOk_word {n p : Int} (h : Stil.devOkB 13 n p = true) : 0 ≤ n ∧ n ≤ 3 := by
  simp [Stil.devOkB] at h; omega
theorem devOk_dev {k n p : Int} (h : Stil.devOkB k n p = true) (h1 : k ≠ 11) (h2 : k ≠ 12) (h3 : k ≠ 13) : 1 ≤ k ∧ k ≤ 10 ∧ 0 ≤ n ∧ n < 64 ∧ p = 0 := by
  simp only [Stil.devOkB, if_neg h1, if_neg h2, if_neg h3, decide_eq_true_eq] at h
  obtain ⟨a, b, c⟩ := h
  unfold Stil.devSize at b
  split at b
  · omega
  · split at b
    · omega
    · split at b
      · omega
      · split at b <;> omega
set_option maxHeartbeats 400000 in
set_option maxRecDepth 100000 in
theorem s_devText (k n p : Int) (w : World) (hn1 : -9223372036854775808 ≤ n) (hn2 : n ≤ 9223372036854775807) :
    Calls Tryd.prog 23 #[.agg #[.int .i64 k, .int .i64 n, .int .i64 p]] w fun e w' => e = .returned (.string ⟨(Stil.devText k n p).toArray⟩) ∧ Below w.heap.size w w' := by
  cases hok : Stil.devOkB k n p
  · have HD : Hid (Stil.devText k n p = []) := by show Stil.devText k n p = []; unfold Stil.devText; rw [hok]; rfl
    go_enter Tryd.func23, Tryd.ntmps23
    go_wp2_with (go_at_call 29; refine (s_devOk _ _ _ _ hn1 hn2).mono ?_; rintro e w' ⟨rfl, hb⟩)
    go_ret
    exact ⟨ret_string (by rw [HD.out]), below_two hb⟩
  · by_cases h11 : k = 11
    · subst h11
      have HD : Hid (Stil.devText 11 n p = Lib.itoa n) := by show _ = _; unfold Stil.devText; rw [hok]; rfl
      have hr : -32768 ≤ n ∧ n ≤ 32767 := by simp [Stil.devOkB] at hok; omega
      obtain ⟨hr1, hr2⟩ := hr
      go_enter Tryd.func23, Tryd.ntmps23
      go_wp2_with (first | (go_at_call 29; refine (s_devOk _ _ _ _ hn1 hn2).mono ?_; rintro e w' ⟨rfl, hb⟩; obtain ⟨hc, hf⟩ := bcell hb) | (go_at_call 33; refine (s_dec n _ (by omega) (by omega)).mono ?_; rintro e w2 ⟨rfl, hb2⟩))
      go_ret
      exact ⟨ret_string (by rw [HD.out]), (below_two hb).trans (hb2.mono (by have := hb.size; simp at this; omega))⟩
    · by_cases h12 : k = 12
      · subst h12
        obtain ⟨a1, a2, a3, a4⟩ := devOk_dec hok
        have HD : Hid (Stil.devText 12 n p = Stil.decText n p) := by show _ = _; unfold Stil.devText; rw [hok]; rfl
        go_enter Tryd.func23, Tryd.ntmps23
        go_wp2_with (first | (go_at_call 29; refine (s_devOk _ _ _ _ hn1 hn2).mono ?_; rintro e w' ⟨rfl, hb⟩; obtain ⟨hc, hf⟩ := bcell hb) | (go_at_call 34; refine (s_dec1 n p _ a1 a2 a3 a4).mono ?_; rintro e w2 ⟨rfl, hb2⟩))
        go_ret
        exact ⟨ret_string (by rw [HD.out]), (below_two hb).trans (hb2.mono (by have := hb.size; simp at this; omega))⟩
      · by_cases h13 : k = 13
        · subst h13
          obtain ⟨a1, a2⟩ := devOk_word hok
          have HD : Hid (Stil.devText 13 n p = Stil.words.getD n.toNat []) := by show _ = _; unfold Stil.devText; rw [hok]; rfl
          go_enter Tryd.func23, Tryd.ntmps23
          go_wp2_with (first | (go_at_call 29; refine (s_devOk _ _ _ _ hn1 hn2).mono ?_; rintro e w' ⟨rfl, hb⟩; obtain ⟨hc, hf⟩ := bcell hb))
          have c1 : w'.cell? ⟨w.heap.size, 1, none⟩ = some (.int .i64 n) := by rw [hc _ _ (by simp)]; simp [go_sem]
          have c1' : ∀ o, (w'.alloc o).cell? ⟨w.heap.size, 1, none⟩ = some (.int .i64 n) := fun o => by rw [World.cell?_alloc_some _ _ _ (by rw [c1]; rfl)]; exact c1
          clear hc hf
          have hwd : ∀ W : World, (W.alloc (Obj.cells #[.string ⟨#[110, 97, 110]⟩, .string ⟨#[105, 110, 102]⟩, .string ⟨#[45, 105, 110, 102]⟩, .string ⟨#[45, 48, 46, 48]⟩] 9)).cell? ⟨W.heap.size, n.toNat, none⟩ = some (.string ⟨(Stil.words.getD n.toNat []).toArray⟩) := by
            intro W
            have hn : n = 0 ∨ n = 1 ∨ n = 2 ∨ n = 3 := by omega
            rcases hn with rfl | rfl | rfl | rfl <;> simp [go_sem, Stil.words]
          have hlt : n < 4 := by omega
          go_region_with (go_at_call 35; refine (s_words _).mono ?_; rintro e w2 ⟨rfl, rfl⟩)
          all_goals go_wp2
          all_goals go_ret
          all_goals refine ⟨ret_string (by rw [HD.out]; rfl), ?_⟩
          all_goals exact ((below_two hb).alloc (by have := hb.size; simp at this; omega) _).drew
        · obtain ⟨a1, a2, a3, a4, a5⟩ := devOk_dev hok h11 h12 h13
          subst a5
          have h11' : (k == 11) = false := by simpa using h11
          have h12' : (k == 12) = false := by simpa using h12
          have h13' : (k == 13) = false := by simpa using h13
          have HD : Hid (Stil.devText k n 0 = Stil.letters.getD (k.toNat - 1) 0 :: Lib.itoa n) := by
            show _ = _
            unfold Stil.devText; rw [hok]; simp [h11, h12, h13]
          have hl : (Lib.itoa n).length ≤ 19 := by
            unfold Lib.itoa; rw [if_neg (by omega)]; exact decDigits_le (by omega)
          have hL : Stil.devLetter k = ⟨#[Stil.letters.getD (k.toNat - 1) 0]⟩ := by unfold Stil.devLetter; rw [if_pos ⟨a1, a2⟩]
          clear h11 h12 h13
          go_enter Tryd.func23, Tryd.ntmps23
          go_wp2_with (first | (go_at_call 29; refine (s_devOk _ _ _ _ hn1 hn2).mono ?_; rintro e w' ⟨rfl, hb⟩; obtain ⟨hc, hf⟩ := bcell hb))
          have c0 : w'.cell? ⟨w.heap.size, 0, none⟩ = some (.int .i64 k) := by rw [hc _ _ (by simp)]; simp [go_sem]
          have c1 : w'.cell? ⟨w.heap.size, 1, none⟩ = some (.int .i64 n) := by rw [hc _ _ (by simp)]; simp [go_sem]
          have r0 := cell_regrown c0
          have r1 := cell_regrown c1
          refine wp_region_quiet_below (by kernel_rfl) (by kernel_rfl) ?_
          repeat (go_big_quiet_step ((first | exact Calls.regrown_of (same_below (s_devLetter _ _)) | exact Calls.regrown_of (s_dec _ _ (by omega) (by omega)))))
          refine wpQuiet_nil ?_
          intro _ hw'
          obtain ⟨⟨dq, osq⟩, hw''⟩ := hw'
          subst hw''
          go_wp2
          go_ret
          refine ⟨ret_string ?_, (below_two hb).trans ((below_regrown _ dq osq).mono (by have := hb.size; simp at this; omega))⟩
          rw [HD.out, ba_app1]; simp [List.getD]
end Go.Proofs.YtnbdgpepancfnabDoor
