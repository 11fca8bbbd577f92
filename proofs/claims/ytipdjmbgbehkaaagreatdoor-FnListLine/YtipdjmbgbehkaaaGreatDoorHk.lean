/- D34, D35, D36: texts put together. -/
import Derived.Test.YtipdjmbgbehkaaaGreatDoorHj
/- Contracts of the specification's draws: a list that plays: step. -/
namespace Go.Proofs.YtipdjmbgbehkaaaGreatDoor
open Go.RowKit Go.Sort Go.BigFrame
theorem PlayAt.last {w : World} {p g P k n : Nat} {bits forks : Int} {ba fr : Bool} (h : PlayAt w p g P (k + 1) n bits forks ba fr) : ∃ (b m c : Nat) (code : Int), PBox w p g (.slice (some ⟨b, 0, none⟩) (m + 1) c) bits forks ba fr ∧ b < w.heap.size ∧ w.cell? ⟨b, m * 3, none⟩ = some (.int .i64 code) ∧ m + 1 ≤ n ∧ m < c := by
  obtain ⟨a, ⟨v, b, out, xs, c, d, e, f, i⟩, j⟩ := h
  have hin := instsIn_of_row (P := fun b => True) c (d.imp fun _ _ _ h => h.mono fun _ _ _ => trivial) fun _ _ => trivial
  obtain ⟨a', c', hv, hcap, hs⟩ := hin
  obtain ⟨b', o', ha, -, hbz, hc, -⟩ := hs (out.length - 1) (by omega)
  obtain ⟨a2, c2, hv2, hcap2, hz⟩ := own_open c
  subst ha
  have e2 : (some ⟨b', o', none⟩ : Option Addr) = a2 ∧ c' = c2 := by
    rw [hv] at hv2
    injection hv2 with h1 h2 h3
    exact ⟨h1, by omega⟩
  obtain ⟨rfl, rfl⟩ := e2
  obtain ⟨rfl, -, -⟩ := hz.1 _ _ _ rfl
  subst hv
  obtain ⟨m, hm⟩ : ∃ m, out.length = m + 1 := ⟨out.length - 1, by omega⟩
  refine ⟨b', m, c', (out[out.length - 1]'(by omega)).code, by rw [← hm]; exact b, hbz, ?_, by omega, by have := hcap2.1; omega⟩
  rw [← hc]
  congr 2
  rw [hm]
  omega
set_option maxHeartbeats 4000000 in
set_option maxRecDepth 100000 in
theorem s_step (p g P k n : Nat) (bits forks : Int) (ba fr : Bool) (w : World) (h : PlayAt w p g P k n bits forks ba fr) (hb0 : 0 ≤ bits) (hb1 : bits ≤ 16) (hf0 : 0 ≤ forks) (hf1 : forks ≤ 8) (hP : P ≤ 8900000) (hn : n ≤ 79000) :
    Calls Tryz.prog 115 #[.pointer (some ⟨p, 0, none⟩)] w fun e w' => (∃ v, e = .returned v) ∧ PlayR w' p g (P + 1100) k (n + 25) ∧ Below g w w' := by
  have HPL : Hid (PlayAt w p g P k n bits forks ba fr) := h
  have hgp := h.1
  have hgz := rd_lt h.2.2
  obtain ⟨a, c, m, hpz, ⟨x0, x1, x2, x3, x4, x5⟩, f0, f1, f2, f3, f4, f5⟩ := h.box
  clear h
  have hw1 : IntKind.i64.wrap (bits + 1) = bits + 1 := by rw [IntKind.wrap_i64]; omega
  have hw2 : IntKind.i64.wrap (bits - 1) = bits - 1 := by rw [IntKind.wrap_i64]; omega
  have hw3 : IntKind.i64.wrap (forks + 1) = forks + 1 := by rw [IntKind.wrap_i64]; omega
  have hw4 : IntKind.i64.wrap (forks - 1) = forks - 1 := by rw [IntKind.wrap_i64]; omega
  go_enter Tryz.func115, Tryz.ntmps115
  go_upto_if 6 with fail
  go_cut [2] (fun s wc => ∃ low : Int, s = .int .i64 low ∧ 1 ≤ low ∧ low ≤ 2 ∧ w = wc)
  case first =>
    cases ba
    · go_wp2
      go_meet
      exact ⟨1, rfl, by omega, by omega, rfl⟩
    · go_wp2
      go_meet
      exact ⟨2, rfl, by omega, by omega, rfl⟩
  case rest =>
    obtain ⟨low, rfl, hl1, hl2, rfl⟩ := hcut
    go_upto_region 9 with (go_at_call 35; refine (s_pick g _ _ _ HPL.out.2.2 (by omega) (by omega) (by omega)).mono ?_; rintro e w1 ⟨x, rfl, hx0, hx1, hrd1, hgr1⟩; have HP1 : Hid (PlayAt w1 p g (P + 1) k n bits forks ba fr) := HPL.out.grown hgr1 hrd1; have HB1 : Hid (Below g w w1) := bg_own (Below.refl _ _) hgr1 (fun q hq => (by simp only [Option.some.injEq] at hq; omega)) (by omega); have hgz1 := rd_lt hrd1; obtain ⟨a1, c1, m1, hpz1, ⟨y0, y1, y2, y3, y4, y5⟩, g0, g1, g2, g3, g4, g5⟩ := HP1.out.box)
    clear HPL x0 x1 x2 x3 x4 x5 f0 f1 f2 f3 f4 f5 hgr1 hrd1
    have hxx : x = 0 ∨ x = 1 ∨ x = 2 ∨ x = 3 ∨ x = 4 ∨ x = 5 ∨ x = 6 ∨ x = 7 ∨ x = 8 ∨ x = 9 ∨ x = 10 := by omega
    clear hx0 hx1
    rcases hxx with rfl | rfl | rfl | rfl | rfl | rfl | rfl | rfl | rfl | rfl | rfl
    · by_cases hc : bits < 16
      · go_wp2_with (go_at_call 114; refine (s_put _ (by omega) p g _ _ _ _ _ _ _ _ HP1.out (by omega) (by omega)).mono ?_; rintro e w2 ⟨⟨v2, rfl⟩, hpl2, hb2⟩; have HP2 := hpl2.later (Nat.le_refl _) (Nat.le_refl _) (Nat.le_refl _); obtain ⟨a2, c2, m2, hpz2, ⟨z0, z1, z2, z3, z4, z5⟩, j0, j1, j2, j3, j4, j5⟩ := hpl2.box; have HB2 : Hid (Below g w w2) := (HB1.out).trans hb2)
        go_end0
        exact ⟨⟨_, rfl⟩, ⟨bits + 1, forks, _, _, (HP2.bits (bits + 1)).later (by omega) (by omega) (by omega), by omega, by omega, by omega, by omega⟩, (HB2.out).setCell (Nat.le_of_lt hgp) _⟩
      · go_wp2
        go_end0
        exact ⟨⟨_, rfl⟩, ⟨bits, forks, _, _, HP1.out.later (by omega) (by omega) (by omega), by omega, by omega, by omega, by omega⟩, HB1.out⟩
    · by_cases hc : bits < 16
      · go_wp2_with (go_at_call 114; refine (s_put _ (by omega) p g _ _ _ _ _ _ _ _ HP1.out (by omega) (by omega)).mono ?_; rintro e w2 ⟨⟨v2, rfl⟩, hpl2, hb2⟩; have HP2 := hpl2.later (Nat.le_refl _) (Nat.le_refl _) (Nat.le_refl _); obtain ⟨a2, c2, m2, hpz2, ⟨z0, z1, z2, z3, z4, z5⟩, j0, j1, j2, j3, j4, j5⟩ := hpl2.box; have HB2 : Hid (Below g w w2) := (HB1.out).trans hb2)
        go_end0
        exact ⟨⟨_, rfl⟩, ⟨bits + 1, forks, _, _, (HP2.bits (bits + 1)).later (by omega) (by omega) (by omega), by omega, by omega, by omega, by omega⟩, (HB2.out).setCell (Nat.le_of_lt hgp) _⟩
      · go_wp2
        go_end0
        exact ⟨⟨_, rfl⟩, ⟨bits, forks, _, _, HP1.out.later (by omega) (by omega) (by omega), by omega, by omega, by omega, by omega⟩, HB1.out⟩
    · go_wp2_with (go_at_call 114; refine (s_put _ (by omega) p g _ _ _ _ _ _ _ _ HP1.out (by omega) (by omega)).mono ?_; rintro e w2 ⟨⟨v2, rfl⟩, hpl2, hb2⟩; have HP2 := hpl2.later (Nat.le_refl _) (Nat.le_refl _) (Nat.le_refl _); obtain ⟨a2, c2, m2, hpz2, ⟨z0, z1, z2, z3, z4, z5⟩, j0, j1, j2, j3, j4, j5⟩ := hpl2.box; have HB2 : Hid (Below g w w2) := (HB1.out).trans hb2)
      go_end0
      exact ⟨⟨_, rfl⟩, ⟨bits, forks, _, _, HP2.later (by omega) (by omega) (by omega), by omega, by omega, by omega, by omega⟩, HB2.out⟩
    · go_wp2_with (go_at_call 114; refine (s_put _ (by omega) p g _ _ _ _ _ _ _ _ HP1.out (by omega) (by omega)).mono ?_; rintro e w2 ⟨⟨v2, rfl⟩, hpl2, hb2⟩; have HP2 := hpl2.later (Nat.le_refl _) (Nat.le_refl _) (Nat.le_refl _); obtain ⟨a2, c2, m2, hpz2, ⟨z0, z1, z2, z3, z4, z5⟩, j0, j1, j2, j3, j4, j5⟩ := hpl2.box; have HB2 : Hid (Below g w w2) := (HB1.out).trans hb2)
      go_end0
      exact ⟨⟨_, rfl⟩, ⟨bits, forks, _, _, HP2.later (by omega) (by omega) (by omega), by omega, by omega, by omega, by omega⟩, HB2.out⟩
    · by_cases hc : low ≤ bits
      · go_wp2_with (go_at_call 114; refine (s_put _ (by omega) p g _ _ _ _ _ _ _ _ HP1.out (by omega) (by omega)).mono ?_; rintro e w2 ⟨⟨v2, rfl⟩, hpl2, hb2⟩; have HP2 := hpl2.later (Nat.le_refl _) (Nat.le_refl _) (Nat.le_refl _); obtain ⟨a2, c2, m2, hpz2, ⟨z0, z1, z2, z3, z4, z5⟩, j0, j1, j2, j3, j4, j5⟩ := hpl2.box; have HB2 : Hid (Below g w w2) := (HB1.out).trans hb2)
        go_end0
        exact ⟨⟨_, rfl⟩, ⟨bits, forks, _, _, HP2.later (by omega) (by omega) (by omega), by omega, by omega, by omega, by omega⟩, HB2.out⟩
      · go_wp2
        go_end0
        exact ⟨⟨_, rfl⟩, ⟨bits, forks, _, _, HP1.out.later (by omega) (by omega) (by omega), by omega, by omega, by omega, by omega⟩, HB1.out⟩
    · by_cases hc : low ≤ bits
      · go_wp2_with (first | (go_at_call 35; refine (s_pick g _ _ _ HP1.out.2.2 (by omega) (by omega) (by omega)).mono ?_; rintro e wq ⟨x, rfl, hx0, hx1, hrdq, hgrq⟩; have HPq : Hid (PlayAt wq p g (P + 1 + 1) k n bits forks ba fr) := HP1.out.grown hgrq hrdq; have HBq : Hid (Below g w wq) := bg_own HB1.out hgrq (fun q hq => (by simp only [Option.some.injEq] at hq; omega)) (by omega)) | (go_at_call 114; refine (s_put _ (by omega) p g _ _ _ _ _ _ _ _ HPq.out (by omega) (by omega)).mono ?_; rintro e w2 ⟨⟨v2, rfl⟩, hpl2, hb2⟩; have HP2 := hpl2.later (Nat.le_refl _) (Nat.le_refl _) (Nat.le_refl _); obtain ⟨a2, c2, m2, hpz2, ⟨z0, z1, z2, z3, z4, z5⟩, j0, j1, j2, j3, j4, j5⟩ := hpl2.box; have HB2 : Hid (Below g w w2) := (HBq.out).trans hb2))
        · go_end0
          exact ⟨⟨_, rfl⟩, ⟨bits, forks, _, _, HP2.later (by omega) (by omega) (by omega), by omega, by omega, by omega, by omega⟩, HB2.out⟩
        · go_end0
          exact ⟨⟨_, rfl⟩, ⟨bits, forks, _, _, HPq.out.later (by omega) (by omega) (by omega), by omega, by omega, by omega, by omega⟩, HBq.out⟩
      · go_wp2
        go_end0
        exact ⟨⟨_, rfl⟩, ⟨bits, forks, _, _, HP1.out.later (by omega) (by omega) (by omega), by omega, by omega, by omega, by omega⟩, HB1.out⟩
    · by_cases hc : 1 < bits
      · go_wp2_with (go_at_call 114; refine (s_put _ (by omega) p g _ _ _ _ _ _ _ _ HP1.out (by omega) (by omega)).mono ?_; rintro e w2 ⟨⟨v2, rfl⟩, hpl2, hb2⟩; have HP2 := hpl2.later (Nat.le_refl _) (Nat.le_refl _) (Nat.le_refl _); obtain ⟨a2, c2, m2, hpz2, ⟨z0, z1, z2, z3, z4, z5⟩, j0, j1, j2, j3, j4, j5⟩ := hpl2.box; have HB2 : Hid (Below g w w2) := (HB1.out).trans hb2)
        go_end0
        exact ⟨⟨_, rfl⟩, ⟨bits - 1, forks, _, _, (HP2.bits (bits - 1)).later (by omega) (by omega) (by omega), by omega, by omega, by omega, by omega⟩, (HB2.out).setCell (Nat.le_of_lt hgp) _⟩
      · go_wp2
        go_end0
        exact ⟨⟨_, rfl⟩, ⟨bits, forks, _, _, HP1.out.later (by omega) (by omega) (by omega), by omega, by omega, by omega, by omega⟩, HB1.out⟩
    · by_cases hc : low < bits
      · go_wp2_with (go_at_call 114; refine (s_put _ (by omega) p g _ _ _ _ _ _ _ _ HP1.out (by omega) (by omega)).mono ?_; rintro e w2 ⟨⟨v2, rfl⟩, hpl2, hb2⟩; have HP2 := hpl2.later (Nat.le_refl _) (Nat.le_refl _) (Nat.le_refl _); obtain ⟨a2, c2, m2, hpz2, ⟨z0, z1, z2, z3, z4, z5⟩, j0, j1, j2, j3, j4, j5⟩ := hpl2.box; have HB2 : Hid (Below g w w2) := (HB1.out).trans hb2)
        go_end0
        exact ⟨⟨_, rfl⟩, ⟨bits - 1, forks, _, _, (HP2.bits (bits - 1)).later (by omega) (by omega) (by omega), by omega, by omega, by omega, by omega⟩, (HB2.out).setCell (Nat.le_of_lt hgp) _⟩
      · go_wp2
        go_end0
        exact ⟨⟨_, rfl⟩, ⟨bits, forks, _, _, HP1.out.later (by omega) (by omega) (by omega), by omega, by omega, by omega, by omega⟩, HB1.out⟩
    · by_cases hc : bits = 1
      · go_wp2_with (go_at_call 114; refine (s_put _ (by omega) p g _ _ _ _ _ _ _ _ HP1.out (by omega) (by omega)).mono ?_; rintro e w2 ⟨⟨v2, rfl⟩, hpl2, hb2⟩; have HP2 := hpl2.later (Nat.le_refl _) (Nat.le_refl _) (Nat.le_refl _); obtain ⟨a2, c2, m2, hpz2, ⟨z0, z1, z2, z3, z4, z5⟩, j0, j1, j2, j3, j4, j5⟩ := hpl2.box; have HB2 : Hid (Below g w w2) := (HB1.out).trans hb2)
        go_end0
        exact ⟨⟨_, rfl⟩, ⟨bits, forks, _, _, HP2.later (by omega) (by omega) (by omega), by omega, by omega, by omega, by omega⟩, HB2.out⟩
      · go_wp2
        go_end0
        exact ⟨⟨_, rfl⟩, ⟨bits, forks, _, _, HP1.out.later (by omega) (by omega) (by omega), by omega, by omega, by omega, by omega⟩, HB1.out⟩
    · by_cases hc : bits = 1
      · by_cases hd : forks < 8
        · go_wp2_with (go_at_call 114; refine (s_put _ (by omega) p g _ _ _ _ _ _ _ _ HP1.out (by omega) (by omega)).mono ?_; rintro e w2 ⟨⟨v2, rfl⟩, hpl2, hb2⟩; have HP2 := hpl2.later (Nat.le_refl _) (Nat.le_refl _) (Nat.le_refl _); obtain ⟨a2, c2, m2, hpz2, ⟨z0, z1, z2, z3, z4, z5⟩, j0, j1, j2, j3, j4, j5⟩ := hpl2.box; have HB2 : Hid (Below g w w2) := (HB1.out).trans hb2)
          go_end0
          exact ⟨⟨_, rfl⟩, ⟨bits, forks + 1, _, _, (HP2.forks (forks + 1)).later (by omega) (by omega) (by omega), by omega, by omega, by omega, by omega⟩, (HB2.out).setCell (Nat.le_of_lt hgp) _⟩
        · go_wp2
          go_end0
          exact ⟨⟨_, rfl⟩, ⟨bits, forks, _, _, HP1.out.later (by omega) (by omega) (by omega), by omega, by omega, by omega, by omega⟩, HB1.out⟩
      · go_wp2
        go_end0
        exact ⟨⟨_, rfl⟩, ⟨bits, forks, _, _, HP1.out.later (by omega) (by omega) (by omega), by omega, by omega, by omega, by omega⟩, HB1.out⟩
    · by_cases hc : 0 < forks
      · have hFB : 0 ≤ (if 1 < bits then 1 else bits) ∧ (if 1 < bits then 1 else bits) ≤ 16 := by split <;> omega
        go_upto_region 7 with (first | (go_at_call 116; refine (s_close p g _ _ _ _ _ _ _ _ HP1.out hb0 hb1 (by omega) (by omega)).mono ?_; rintro e wc ⟨⟨vc, rfl⟩, ⟨bac, hplc⟩, hbc⟩; have HPc := hplc.later (Nat.le_refl _) (Nat.le_refl _) (Nat.le_refl _); have HBc : Hid (Below g w wc) := (HB1.out).trans hbc; obtain ⟨a3, c3, m3, hpz3, ⟨u0, u1, u2, u3, u4, u5⟩, i0, i1, i2, i3, i4, i5⟩ := hplc.box; have hgzc := rd_lt hplc.2.2) | (go_at_call 35; refine (s_pick g _ _ _ HPc.2.2 (by omega) (by omega) (by omega)).mono ?_; rintro e wq ⟨x, rfl, hx0, hx1, hrdq, hgrq⟩; have hwx : IntKind.i64.wrap (8 + x) = 8 + x := (by rw [IntKind.wrap_i64]; omega); have HPq : Hid (PlayAt wq p g (P + 1 + 1000 + 1) k (n + 20) (if 1 < bits then 1 else bits) forks bac true) := HPc.grown hgrq hrdq; have HBq : Hid (Below g w wq) := bg_own HBc.out hgrq (fun q hq => (by simp only [Option.some.injEq] at hq; omega)) (by omega)) | (go_at_call 114; refine (s_put _ (by omega) p g _ _ _ _ _ _ _ _ HPq.out (by omega) (by omega)).mono ?_; rintro e w2 ⟨⟨v2, rfl⟩, hpl2, hb2⟩; have HP2 := hpl2.later (Nat.le_refl _) (Nat.le_refl _) (Nat.le_refl _); obtain ⟨b2, m2, c2, cd2, ⟨hpz2, ⟨z0, z1, z2, z3, z4, z5⟩, j0, j1, j2, j3, j4, j5⟩, hbz2, hcd2, hmn2, hmc2⟩ := hpl2.last; have HB2 : Hid (Below g w w2) := (HBq.out).trans hb2))
        have hix : IntKind.i64.wrap (((m2 + 1 : Nat) : Int) - 1) = (m2 : Int) := by rw [IntKind.wrap_i64]; omega
        have kz1 := cell_regrown z1
        have kz2 := cell_regrown hcd2
        refine wp_region_quiet_below (by kernel_rfl) (by kernel_rfl) ?_
        repeat (go_big_quiet_step ((fail)))
        refine wpQuiet_nil ?_
        intro _ hw'
        obtain ⟨⟨dq, osq⟩, hw''⟩ := hw'
        subst hw''
        clear kz1 kz2
        have hb3 := below_regrown w2 dq osq
        obtain ⟨w3, hw3⟩ : ∃ w3, w3 = grow (redrawn w2 dq) osq := ⟨_, rfl⟩
        rw [← hw3] at hb3 ⊢
        clear hw3
        have HP3 := HP2.grown (grown_below hb3 (some g)) (rd_grown HP2.2.2 (grown_below hb3 none) (by simp))
        have HB3 : Hid (Below g w w3) := bg_own HB2.out (grown_below hb3 none) (fun q hq => by cases hq) (by omega)
        clear z0 z1 z2 z3 z4 z5 j0 j1 j2 j3 j4 j5 hcd2
        obtain ⟨a4, c4, m4, hpz4, ⟨z0, z1, z2, z3, z4, z5⟩, j0, j1, j2, j3, j4, j5⟩ := HP3.box
        by_cases hd : cd2 = 9
        · go_wp2
          go_end0
          exact ⟨⟨_, rfl⟩, ⟨_, forks - 1, _, _, (HP3.forks (forks - 1)).later (by omega) (by omega) (by omega), hFB.1, hFB.2, by omega, by omega⟩, (HB3.out).setCell (Nat.le_of_lt hgp) _⟩
        · go_wp2
          go_end0
          exact ⟨⟨_, rfl⟩, ⟨_, forks, _, _, HP3.later (by omega) (by omega) (by omega), hFB.1, hFB.2, by omega, by omega⟩, HB3.out⟩
      · go_wp2
        go_end0
        exact ⟨⟨_, rfl⟩, ⟨bits, forks, _, _, HP1.out.later (by omega) (by omega) (by omega), by omega, by omega, by omega, by omega⟩, HB1.out⟩
end Go.Proofs.YtipdjmbgbehkaaaGreatDoor
/- Contracts of the specification's draws: a list that plays: rung. -/
namespace Go.Proofs.YtipdjmbgbehkaaaGreatDoor
open Go.RowKit Go.Sort Go.BigFrame
/-- A list that is being drawn, its forks told. -/
def PlayF (w : World) (p g P k n : Nat) (forks : Int) : Prop := ∃ (bits : Int) (ba fr : Bool), PlayAt w p g P k n bits forks ba fr ∧ 0 ≤ bits ∧ bits ≤ 16
/-- A list that is being drawn, between two rungs. -/
def PlayE (w : World) (p g P k n : Nat) : Prop := ∃ ba fr : Bool, PlayAt w p g P k n 0 0 ba fr
theorem PlayC.f {w : World} {p g P k n : Nat} {bits forks : Int} (h : PlayC w p g P k n (if 1 < bits then 1 else bits) forks) (h0 : 0 ≤ bits) (h1 : bits ≤ 16) : PlayF w p g P k n forks := by
  obtain ⟨ba, h⟩ := h
  exact ⟨_, _, _, h, by split <;> omega, by split <;> omega⟩
theorem PlayF.later {w : World} {p g P P' k k' n n' : Nat} {forks : Int} (h : PlayF w p g P k n forks) (h1 : P ≤ P') (h2 : k' ≤ k) (h3 : n ≤ n') : PlayF w p g P' k' n' forks := by
  obtain ⟨a, b, c, h, d⟩ := h
  exact ⟨a, b, c, h.later h1 h2 h3, d⟩
theorem PlayR.later {w : World} {p g P P' k k' n n' : Nat} (h : PlayR w p g P k n) (h1 : P ≤ P') (h2 : k' ≤ k) (h3 : n ≤ n') : PlayR w p g P' k' n' := by
  obtain ⟨a, b, c, d, h, e⟩ := h
  exact ⟨a, b, c, d, h.later h1 h2 h3, e⟩
set_option maxHeartbeats 4000000 in
set_option maxRecDepth 100000 in
theorem s_rung (N : Nat) (hN : N ≤ 40) (p g P k n : Nat) (bits forks : Int) (ba fr : Bool) (w : World) (h : PlayAt w p g P k n bits forks ba fr) (hf0 : 0 ≤ forks) (hf1 : forks ≤ 8) (hP : P ≤ 8000000) (hn : n ≤ 77000) :
    Calls Tryz.prog 82 #[.pointer (some ⟨p, 0, none⟩), .int .i64 (N : Int)] w fun e w' => (∃ v, e = .returned v) ∧ PlayE w' p g (P + 55000) (k + 1) (n + 1200) ∧ Below g w w' := by
  have HPL : Hid (PlayAt w p g P k n bits forks ba fr) := h
  have hgp := h.1
  have hgz := rd_lt h.2.2
  obtain ⟨a, c, m, hpz, ⟨x0, x1, x2, x3, x4, x5⟩, f0, f1, f2, f3, f4, f5⟩ := h.box
  clear h
  go_enter Tryz.func82, Tryz.ntmps82
  go_wp2_with (go_at_call 114; refine (s_put _ (by omega) p g _ _ _ _ _ _ _ _ (HPL.out.base false) (by omega) (by omega)).mono ?_; rintro e w2 ⟨⟨v2, rfl⟩, hpl2, hb2⟩; have HP2 := hpl2.later (Nat.le_refl _) (Nat.le_refl _) (Nat.le_refl _); obtain ⟨a2, c2, m2, hpz2, ⟨z0, z1, z2, z3, z4, z5⟩, j0, j1, j2, j3, j4, j5⟩ := hpl2.box; have HB2 : Hid (Below g w w2) := ((Below.refl _ _).setCell (Nat.le_of_lt hgp) _).trans hb2)
  go_loopw [4] (fun i wr => ∃ j : Nat, j ≤ N ∧ i = .int .i64 (j : Int) ∧ PlayR wr p g (P + 50 + 1100 * j) (k + 1) (n + 1 + 25 * j) ∧ Below g w wr) (fun i _ => N - (intOf i).toNat)
  case atStart => exact ⟨0, by omega, rfl, ⟨1, forks, _, _, (HP2.bits 1).later (by omega) (by omega) (by omega), by omega, by omega, by omega, by omega⟩, (HB2.out).setCell (Nat.le_of_lt hgp) _⟩
  case round =>
    clear HPL HP2 HB2 hpl2 hb2 z0 z1 z2 z3 z4 z5 j0 j1 j2 j3 j4 j5 x0 x1 x2 x3 x4 x5 f0 f1 f2 f3 f4 f5 hf0 hf1
    obtain ⟨j, hj, rfl, ⟨b, f, ba', fr', hpl, hb0, hb1, hf0, hf1⟩, hB⟩ := hrel
    have HPJ : Hid (PlayAt wr p g (P + 50 + 1100 * j) (k + 1) (n + 1 + 25 * j) b f ba' fr') := hpl
    have HBJ : Hid (Below g w wr) := hB
    clear hpl hB
    by_cases hlt : j < N
    · go_wp2_with (go_at_call 115; refine (s_step p g _ _ _ _ _ _ _ _ HPJ.out hb0 hb1 hf0 hf1 (by omega) (by omega)).mono ?_; rintro e w3 ⟨⟨v3, rfl⟩, hpl3, hb3⟩; have HB3 : Hid (Below g w w3) := (HBJ.out).trans hb3)
      go_roundw
      case rel => exact ⟨j + 1, by omega, by simp, hpl3.later (by omega) (by omega) (by omega), HB3.out⟩
      case measure => simp [intOf]; omega
    · obtain rfl : j = N := by omega
      go_wp2_with (go_at_call 116; refine (s_close p g _ _ _ _ _ _ _ _ HPJ.out hb0 hb1 (by omega) (by omega)).mono ?_; rintro e w3 ⟨⟨v3, rfl⟩, hpl3, hb3⟩; have HP3 := hpl3.f hb0 hb1; have HB3 : Hid (Below g w w3) := (HBJ.out).trans hb3)
      clear HPJ HBJ hb3 hpl3
      go_loopg [] 8 (fun m wr => ∃ (f : Int) (i : Nat), PlayF wr p g (P + 50 + 44000 + 1000 + 1050 * i) (k + 1) (n + 1 + 1000 + 20 + 21 * i) f ∧ 0 ≤ f ∧ f.toNat ≤ m ∧ f + i ≤ 8 ∧ Below g w wr)
      case atStart => exact ⟨f, 0, HP3.later (by omega) (by omega) (by omega), hf0, by omega, by omega, HB3.out⟩
      case round =>
        obtain ⟨q, i, ⟨b4, ba4, fr4, hpl4, hc0, hc1⟩, hq0, hqm, hqi, hB4⟩ := hrel
        clear HP3 HB3
        have hgz4 := rd_lt hpl4.2.2
        have HP4 := hpl4.later (Nat.le_refl _) (Nat.le_refl _) (Nat.le_refl _)
        have HB4 : Hid (Below g w wr) := hB4
        obtain ⟨a4, c4, m4, hpz4, ⟨z0, z1, z2, z3, z4, z5⟩, j0, j1, j2, j3, j4, j5⟩ := hpl4.box
        have hk1 : IntKind.i64.wrap (q - 1) = q - 1 := by rw [IntKind.wrap_i64]; omega
        clear hpl4 hB4
        by_cases hq : 0 < q
        · go_wp2_with (first | (go_at_call 114; refine (s_put _ (by omega) p g _ _ _ _ _ _ _ _ HP4 (by omega) (by omega)).mono ?_; rintro e w5 ⟨⟨v5, rfl⟩, hpl5, hb5⟩; have HP5 := hpl5.later (Nat.le_refl _) (Nat.le_refl _) (Nat.le_refl _); obtain ⟨a5, c5, m5, hpz5, ⟨u0, u1, u2, u3, u4, u5⟩, i0, i1, i2, i3, i4, i5⟩ := hpl5.box; have HB5 : Hid (Below g w w5) := (HB4.out).trans hb5) | (go_at_call 116; refine (s_close p g _ _ _ _ _ _ _ _ (HP5.forks (q - 1)) hc0 hc1 (by omega) (by omega)).mono ?_; rintro e w6 ⟨⟨v6, rfl⟩, hpl6, hb6⟩; have HP6 := hpl6.f hc0 hc1; have HB6 : Hid (Below g w w6) := ((HB5.out).setCell (Nat.le_of_lt hgp) _).trans hb6))
          go_roundg (q - 1).toNat
          rotate_left
          · omega
          · exact ⟨q - 1, i + 1, HP6.later (by omega) (by omega) (by omega), by omega, by omega, by omega, HB6.out⟩
        · obtain rfl : q = 0 := by omega
          go_wp2_with (go_at_call 114; refine (s_put _ (by omega) p g _ _ _ _ _ _ _ _ HP4 (by omega) (by omega)).mono ?_; rintro e w5 ⟨⟨v5, rfl⟩, hpl5, hb5⟩; have HP5 := hpl5.later (Nat.le_refl _) (Nat.le_refl _) (Nat.le_refl _); obtain ⟨a5, c5, m5, hpz5, ⟨u0, u1, u2, u3, u4, u5⟩, i0, i1, i2, i3, i4, i5⟩ := hpl5.box; have HB5 : Hid (Below g w w5) := (HB4.out).trans hb5)
          go_end0
          exact ⟨⟨_, rfl⟩, ⟨_, _, (HP5.bits 0).later (by omega) (by omega) (by omega)⟩, (HB5.out).setCell (Nat.le_of_lt hgp) _⟩
end Go.Proofs.YtipdjmbgbehkaaaGreatDoor
/- Contracts of the specification's draws: a list that keeps to heights and grammar. -/
namespace Go.Proofs.YtipdjmbgbehkaaaGreatDoor
open Go.RowKit Go.Sort Go.BigFrame
/-- A list that is drawn: beyond the reader, of small numbers. -/
def ListOut (q : Nat) (e : Ending) (w w' : World) (g P n : Nat) : Prop := ∃ (l : List Stil.Inst) (v : Value), e = .returned v ∧ InstsIn (fun b => g < b) w' v l ∧ (∀ i ∈ l, ITame i ∧ i.one.args.length ≤ q) ∧ l.length ≤ n ∧ RdAt w' g P ∧ Below g w w'
theorem PlayAt.list {w : World} {p g P k n : Nat} {bits forks : Int} {ba fr : Bool} (h : PlayAt w p g P k n bits forks ba fr) : ∃ (l : List Stil.Inst) (a : Option Addr) (c : Nat), PBox w p g (.slice a l.length c) bits forks ba fr ∧ InstsIn (fun b => g < b) w (.slice a l.length c) l ∧ (∀ i ∈ l, ITame i ∧ i.one.args.length ≤ 3) ∧ k ≤ l.length ∧ l.length ≤ n := by
  obtain ⟨a, ⟨v, b, out, xs, c, d, e, f, i⟩, j⟩ := h
  have hin := instsIn_of_row (P := fun b => g < b) c (d.imp fun _ _ _ h => h.mono fun b _ hb => by have := hb.1; omega) fun b hb => by have := (c.lt _ hb).1; omega
  obtain ⟨a', c', hv, -⟩ := id hin
  subst hv
  exact ⟨out, a', c', b, hin, e, f, i⟩
set_option maxHeartbeats 1000000 in
theorem play_new {w : World} {g P : Nat} (h : RdAt w g P) : PlayAt (w.alloc (.cells #[.pointer (some ⟨g, 0, none⟩), .slice none 0 0, .int .i64 0, .int .i64 0, .bool false, .bool false] 111)) w.heap.size g P 0 0 0 0 false false := by
  have hg := rd_lt h
  refine ⟨hg, ⟨.slice none 0 0, ?_, [], [], World.ownsRow_nil _ _ _ _, RowOf.nil _ _, by simp, by omega, by simp⟩, rd_grown h (grown_below (below_alloc _ _) none) (by simp)⟩
  simp [PBox, go_sem]
set_option maxHeartbeats 4000000 in
set_option maxRecDepth 100000 in
theorem s_l5Sure (g P : Nat) (w : World) (hr : RdAt w g P) (hP : P ≤ 4000000) :
    Calls Tryz.prog 55 #[.pointer (some ⟨g, 0, none⟩)] w fun e w' => ListOut 3 e w w' g (P + 3600000) 76000 := by
  have hgz := rd_lt hr
  have HP0 : Hid (PlayAt (w.alloc (.cells #[.pointer (some ⟨g, 0, none⟩), .slice none 0 0, .int .i64 0, .int .i64 0, .bool false, .bool false] 111)) w.heap.size g P 0 0 0 0 false false) := play_new hr
  have HB0 : Hid (Below g w (w.alloc (.cells #[.pointer (some ⟨g, 0, none⟩), .slice none 0 0, .int .i64 0, .int .i64 0, .bool false, .bool false] 111))) := (below_alloc _ _).mono (Nat.le_of_lt hgz)
  clear hr
  go_enter Tryz.func55, Tryz.ntmps55
  go_upto_if 10 with (go_at_call 35; refine (s_pick g _ _ _ HP0.out.2.2 (by omega) (by omega) (by omega)).mono ?_; rintro e w1 ⟨x, rfl, hx0, hx1, hrd1, hgr1⟩; have HP1 : Hid (PlayAt w1 w.heap.size g (P + 1) 0 0 0 0 false false) := HP0.out.grown hgr1 hrd1; have HB1 : Hid (Below g w w1) := bg_own HB0.out hgr1 (fun q hq => (by simp only [Option.some.injEq] at hq; omega)) (by omega))
  obtain ⟨p, hp⟩ : ∃ p, p = w.heap.size := ⟨_, rfl⟩
  rw [← hp] at HP1 ⊢
  have hgp : g < p := by omega
  clear hp
  clear HP0 HB0 hrd1 hgr1
  obtain ⟨l1, a1, c1, hb1, hl1, ht1, hk1, hn1⟩ := HP1.out.list
  obtain ⟨hpz1, ⟨y0, y1, y2, y3, y4, y5⟩, g0, g1, g2, g3, g4, g5⟩ := hb1
  by_cases hx : x = 0
  · subst hx
    go_wp2
    go_ret
    exact ⟨l1, _, rfl, hl1, ht1, by omega, rd_mono HP1.out.2.2 (by omega), HB1.out⟩
  · go_wp2_with (go_at_call 35; refine (s_pick g _ _ _ HP1.out.2.2 (by omega) (by omega) (by omega)).mono ?_; rintro e w2 ⟨y, rfl, hy0, hy1, hrd2, hgr2⟩; have HP2 : Hid (PlayAt w2 p g (P + 1 + 1) 0 0 0 0 false false) := HP1.out.grown hgr2 hrd2; have HB2 : Hid (Below g w w2) := bg_own HB1.out hgr2 (fun q hq => (by simp only [Option.some.injEq] at hq; omega)) (by omega))
    obtain ⟨Y, hYe⟩ := Int.eq_ofNat_of_zero_le hy0
    subst hYe
    clear HP1 HB1 y0 y1 y2 y3 y4 y5 g0 g1 g2 g3 g4 g5 hl1 ht1 hk1 hn1 hrd2 hgr2
    go_loopw [4] (fun i wr => ∃ j r : Nat, j + r = 1 + Y ∧ i = .int .i64 (j : Int) ∧ PlayE wr p g (P + 2 + 55001 * r) r (1200 * r) ∧ Below g w wr) (fun i _ => (intOf i).toNat)
    case atStart => exact ⟨1 + Y, 0, by omega, by go_num, ⟨_, _, HP2.out.later (by omega) (by omega) (by omega)⟩, HB2.out⟩
    case round =>
      clear HP2 HB2
      obtain ⟨j, r, hjr, rfl, ⟨ba, fr, hpl⟩, hB⟩ := hrel
      have HPJ : Hid (PlayAt wr p g (P + 2 + 55001 * r) r (1200 * r) 0 0 ba fr) := hpl
      have HBJ : Hid (Below g w wr) := hB
      have hgz2 := rd_lt hpl.2.2
      clear hpl hB
      by_cases hlt : 0 < j
      · go_wp2_with (first | (go_at_call 35; refine (s_pick g _ _ _ HPJ.out.2.2 (by omega) (by omega) (by omega)).mono ?_; rintro e w3 ⟨z, rfl, hz0, hz1, hrd3, hgr3⟩; have HP3 : Hid (PlayAt w3 p g (P + 2 + 55001 * r + 1) r (1200 * r) 0 0 ba fr) := HPJ.out.grown hgr3 hrd3; have HB3 : Hid (Below g w w3) := bg_own HBJ.out hgr3 (fun q hq => (by simp only [Option.some.injEq] at hq; omega)) (by omega); obtain ⟨Z, hZe⟩ := Int.eq_ofNat_of_zero_le hz0; subst hZe) | (go_at_call 82; refine (s_rung Z (by omega) p g _ _ _ _ _ _ _ _ HP3.out (by omega) (by omega) (by omega) (by omega)).mono ?_; rintro e w4 ⟨⟨v4, rfl⟩, ⟨ba4, fr4, hpl4⟩, hb4⟩; have HB4 : Hid (Below g w w4) := (HB3.out).trans hb4))
        go_roundw
        case rel => exact ⟨j - 1, r + 1, by omega, by go_num, ⟨_, _, hpl4.later (by omega) (by omega) (by omega)⟩, HB4.out⟩
        case measure => simp [intOf]; omega
      · have hj1 : ¬ (0 : Int) < j := by omega
        go_upto_if 28 with (go_at_call 35; refine (s_pick g _ _ _ HPJ.out.2.2 (by omega) (by omega) (by omega)).mono ?_; rintro e w3 ⟨z, rfl, hz0, hz1, hrd3, hgr3⟩; have HP3 : Hid (PlayAt w3 p g (P + 2 + 55001 * r + 1) r (1200 * r) 0 0 ba fr) := HPJ.out.grown hgr3 hrd3; have HB3 : Hid (Below g w w3) := bg_own HBJ.out hgr3 (fun q hq => (by simp only [Option.some.injEq] at hq; omega)) (by omega))
        clear HPJ HBJ hrd3 hgr3
        by_cases hz : z = 0
        · subst hz
          go_wp2
          go_loopg [] 60 (fun m wr => ∃ r : Nat, PlayE wr p g (P + 170000 + 55001 * r) r (3600 + 1200 * r) ∧ r ≤ 60 ∧ 60 - r ≤ m ∧ Below g w wr)
          case atStart => exact ⟨0, ⟨_, _, HP3.out.later (by omega) (by omega) (by omega)⟩, by omega, by omega, HB3.out⟩
          case round =>
            clear HP3 HB3
            obtain ⟨r, ⟨ba, fr, hpl⟩, hr60, hrm, hB⟩ := hrel
            have HPJ : Hid (PlayAt wr p g (P + 170000 + 55001 * r) r (3600 + 1200 * r) 0 0 ba fr) := hpl
            have HBJ : Hid (Below g w wr) := hB
            have hgz2 := rd_lt hpl.2.2
            obtain ⟨l1, a1, c1, hb1, hl1, ht1, hk1, hn1⟩ := hpl.list
            obtain ⟨hpz1, ⟨y0, y1, y2, y3, y4, y5⟩, g0, g1, g2, g3, g4, g5⟩ := hb1
            clear hpl hB
            by_cases hlt : l1.length < 60
            · go_wp2_with (first | (go_at_call 35; refine (s_pick g _ _ _ HPJ.out.2.2 (by omega) (by omega) (by omega)).mono ?_; rintro e w3 ⟨z, rfl, hz0, hz1, hrd3, hgr3⟩; have HP3 : Hid (PlayAt w3 p g (P + 170000 + 55001 * r + 1) r (3600 + 1200 * r) 0 0 ba fr) := HPJ.out.grown hgr3 hrd3; have HB3 : Hid (Below g w w3) := bg_own HBJ.out hgr3 (fun q hq => (by simp only [Option.some.injEq] at hq; omega)) (by omega); obtain ⟨Z, hZe⟩ := Int.eq_ofNat_of_zero_le hz0; subst hZe) | (go_at_call 82; refine (s_rung Z (by omega) p g _ _ _ _ _ _ _ _ HP3.out (by omega) (by omega) (by omega) (by omega)).mono ?_; rintro e w4 ⟨⟨v4, rfl⟩, ⟨ba4, fr4, hpl4⟩, hb4⟩; have HB4 : Hid (Below g w w4) := (HB3.out).trans hb4))
              go_roundg (60 - (r + 1))
              rotate_left
              · omega
              · exact ⟨r + 1, ⟨_, _, hpl4.later (by omega) (by omega) (by omega)⟩, by omega, by omega, HB4.out⟩
            · go_wp2
              go_ret
              exact ⟨l1, _, rfl, hl1, ht1, by omega, rd_mono HPJ.out.2.2 (by omega), HBJ.out⟩
        · obtain ⟨l1, a1, c1, hb1, hl1, ht1, hk1, hn1⟩ := HP3.out.list
          obtain ⟨hpz1, ⟨y0, y1, y2, y3, y4, y5⟩, g0, g1, g2, g3, g4, g5⟩ := hb1
          go_wp2
          go_ret
          exact ⟨l1, _, rfl, hl1, ht1, by omega, rd_mono HP3.out.2.2 (by omega), HB3.out⟩
end Go.Proofs.YtipdjmbgbehkaaaGreatDoor
