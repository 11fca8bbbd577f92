/- The program's chapter 4: the normal form of one net. -/
import Derived.Test.YthhfnncehfkbfaaDoorY7d
import Derived.Test.YthhfnncehfkbfaaDoorY7f
import Derived.Test.YthhfnncehfkbfaaDoorGg
import Derived.Test.YthhfnncehfkbfaaDoorM8b
namespace Go.Proofs.YthhfnncehfkbfaaDoor
open Go.RowKit Go.Sort Go.BigFrame
set_option maxHeartbeats 2000000 in
set_option maxRecDepth 100000 in
theorem i_normNet (n : Stil.Net) : Stil.netFits n → Stil.netSize n ≤ 999999 → ∀ (av kv : Value) (w : World), DevsAt w av n.one.args → NetsAt w kv n.kids → Calls Tryd.prog 20 #[.agg #[.int .i64 n.kind, .int .i64 n.one.op, av, kv]] w fun e w' => NetRet w' w.heap.size (Stil.normNet n) e ∧ Below w.heap.size w w' := by
  induction n using Stil.net_ind with
  | h k e kids ih =>
    intro hft hsz av kv w hav hkv
    obtain ⟨_, he, hl, hk⟩ := (Stil.netFits_eq _ _ _).1 hft
    obtain ⟨hs1, hs2⟩ := Stil.kids_sizes hsz
    simp only at hav hkv
    have hkl : kids.length ≤ 999999 := by
      have h1 := Stil.len_sizes (kids.map Stil.normNet)
      rw [List.length_map] at h1
      omega
    have H1 : Hid (∀ W, Below w.heap.size w W → Calls Tryd.prog 34 #[kv, .func (.func 20) #[] #[]] W fun e w' => ∃ (a : Option Addr) (c : Nat) (ms : List MNet), e = .returned (.slice a ms.length c) ∧ ms.map MNet.net = kids.map Stil.normNet ∧ MRow w' W.heap.size (.slice a ms.length c) ms ∧ Below W.heap.size W w') := fun W h => i_normEach kids (fun x hx => ih x hx (hk x hx) (hs2 x hx)) kv W (hkv.below h) hkl
    have H2 : Hid (∀ W, Below w.heap.size w W → Calls Tryd.prog 36 #[.agg #[.int .i64 e.op, av]] W fun e' w' => ∃ u, e' = .returned (.agg #[.int .i64 e.op, u]) ∧ w'.ownsRow W.heap.size 69 3 u e.args.length (devsCells e.args) ∧ Below W.heap.size W w') := fun W h => i_normElem e.op av e.args W (hav.below h) he.2.1
    have HSZ : Hid (Stil.sizes (kids.map Stil.normNet) ≤ 999999) := hs1
    obtain ⟨p0, r0, rfl, hz8⟩ := hav
    obtain ⟨p1, r1, rfl, hz9⟩ := hkv
    clear ih hft he hl hk hsz hs1 hs2 hz8 hz9 hkl
    by_cases hk23 : k = 2 ∨ k = 3
    · have HN : Hid (Stil.normNet ⟨k, e, kids⟩ = Stil.blockOf k (Stil.flatKids k (kids.map Stil.normNet))) := by show _ = _; rw [Stil.normNet_eq, if_pos hk23]
      rw [HN.out]
      have HB : Hid (∀ W base ms0 a cap, MRow W base (.slice a ms0.length cap) ms0 → ms0.map MNet.net = kids.map Stil.normNet → base ≤ W.heap.size → Calls Tryd.prog 35 #[.int .i64 k, .slice a ms0.length cap] W fun e w' => NetRet w' base (Stil.blockOf k (Stil.flatKids k (kids.map Stil.normNet))) e ∧ Below W.heap.size W w') := by
        intro W base ms0 a cap h1 h2 h3
        have := i_normBlock k base ms0 a cap W h1 (by rw [h2]; exact HSZ.out) h3
        rwa [h2] at this
      obtain ⟨N, hN⟩ : ∃ N, N = Stil.blockOf k (Stil.flatKids k (kids.map Stil.normNet)) := ⟨_, rfl⟩
      rw [← hN] at HB ⊢
      clear HN hN HSZ H2
      rcases hk23 with rfl | rfl
      all_goals
        go_enter Tryd.func20, Tryd.ntmps20
        go_wp2_with (first | (go_at_call 34; refine (H1.out _ (by (repeat (first | with_reducible exact Below.refl _ _ | with_reducible assumption | with_reducible refine bl_set (by first | exact Nat.le_refl _ | (simp; done) | (simp; omega) | omega) ?_ _ | with_reducible refine bl_alloc ?_ _ | with_reducible refine bl_drewN ?_ _ | with_reducible refine bl_drew ?_ | with_reducible refine bl_grow ?_ _ _ | with_reducible refine bl_call ?_ (by assumption))))).mono ?_; rintro e w1 ⟨ra, rc, ms, rfl, hmn, hmr, hb1⟩; obtain ⟨hc, hf⟩ := bcell hb1; have HMN : Hid (ms.map MNet.net = kids.map Stil.normNet) := hmn; have HMR : Hid (MRow w1 _ (.slice ra ms.length rc) ms) := hmr; clear hmn hmr; have hza : w.heap.size < w1.heap.size := Nat.lt_of_lt_of_le (by simp; omega) hb1.size; have hzb : w.heap.size + 1 < w1.heap.size := Nat.lt_of_lt_of_le (by simp) hb1.size) | (go_at_call 35; refine (HB.out _ _ _ _ _ HMR.out HMN.out (hb1.size)).mono ?_; rintro e w3 ⟨⟨mk, mop, mds, s0, t0, s1, t1, mks, rfl, hmo, hmn⟩, hb3⟩; obtain ⟨hc3, hf3⟩ := bcell hb3; have hze : w.heap.size + 1 < w3.heap.size := Nat.lt_of_lt_of_le hzb hb3.size; have HMO : Hid (MOwn w3 (w.heap.size + 2) ⟨mk, mop, mds, .slice s0 mds.length t0, .slice s1 mks.length t1, mks⟩) := hmo.le (by simp); have HMN2 : Hid ((MNet.mk mk mop mds (.slice s0 mds.length t0) (.slice s1 mks.length t1) mks).net = N) := hmn; clear hmo hmn))
        have b0 : w3.cell? ⟨w.heap.size + 1, 0, none⟩ = some (.int .i64 0) := by rw [hc3 _ _ hzb, hc _ _ (by simp)]; simp [go_sem]
        have b1 : w3.cell? ⟨w.heap.size + 1, 1, none⟩ = some (.int .i64 0) := by rw [hc3 _ _ hzb, hc _ _ (by simp)]; simp [go_sem]
        have b2 : w3.cell? ⟨w.heap.size + 1, 2, none⟩ = some (.slice none 0 0) := by rw [hc3 _ _ hzb, hc _ _ (by simp)]; simp [go_sem]
        have b3 : w3.cell? ⟨w.heap.size + 1, 3, none⟩ = some (.slice none 0 0) := by rw [hc3 _ _ hzb, hc _ _ (by simp)]; simp [go_sem]
        refine bodyPost_ret (v := .agg #[.int .i64 mk, .int .i64 mop, .slice s0 mds.length t0, .slice s1 mks.length t1]) (by simp [results, Tryd.results20, go_sem, b0, b1, b2, b3]) rfl ⟨⟨mk, mop, mds, s0, t0, s1, t1, mks, rfl, ?_, HMN2.out⟩, by (repeat (first | with_reducible exact Below.refl _ _ | with_reducible assumption | with_reducible refine bl_set (by first | exact Nat.le_refl _ | (simp; done) | (simp; omega) | omega) ?_ _ | with_reducible refine bl_alloc ?_ _ | with_reducible refine bl_drewN ?_ _ | with_reducible refine bl_drew ?_ | with_reducible refine bl_grow ?_ _ _ | with_reducible refine bl_call ?_ (by assumption)))⟩
        refine MOwn.le (base := w.heap.size + 2) ?_ (by omega)
        exact MOwn.setO4 HMO.out (fun x hx e => by have := (HMO.out.1.lt _ x hx _ e).1; omega)
    · have HN : Hid (Stil.normNet ⟨k, e, kids⟩ = ⟨k, e, kids.map Stil.normNet⟩) := by show _ = _; rw [Stil.normNet_eq, if_neg hk23]
      rw [HN.out]
      have hk2 : (k == 2) = false := by rw [beq_eq_false_iff_ne]; omega
      have hk3 : (k == 3) = false := by rw [beq_eq_false_iff_ne]; omega
      obtain ⟨ks, hks⟩ : ∃ ks, ks = kids.map Stil.normNet := ⟨_, rfl⟩
      rw [← hks] at H1 ⊢
      clear HN HSZ hks hk23
      go_enter Tryd.func20, Tryd.ntmps20
      go_wp2_with (first | (go_at_call 34; refine (H1.out _ (by (repeat (first | with_reducible exact Below.refl _ _ | with_reducible assumption | with_reducible refine bl_set (by first | exact Nat.le_refl _ | (simp; done) | (simp; omega) | omega) ?_ _ | with_reducible refine bl_alloc ?_ _ | with_reducible refine bl_drewN ?_ _ | with_reducible refine bl_drew ?_ | with_reducible refine bl_grow ?_ _ _ | with_reducible refine bl_call ?_ (by assumption))))).mono ?_; rintro e w1 ⟨ra, rc, ms, rfl, hmn, hmr, hb1⟩; obtain ⟨hc, hf⟩ := bcell hb1; have HMN : Hid (ms.map MNet.net = ks) := hmn; have HMR : Hid (MRow w1 _ (.slice ra ms.length rc) ms) := hmr; clear hmn hmr; have hza : w.heap.size < w1.heap.size := Nat.lt_of_lt_of_le (by simp; omega) hb1.size; have hzb : w.heap.size + 1 < w1.heap.size := Nat.lt_of_lt_of_le (by simp) hb1.size))
      have q0 : w1.cell? ⟨w.heap.size, 0, none⟩ = some (.int .i64 k) := by rw [hc _ _ (by simp; omega)]; simp [go_sem]
      have q1 : w1.cell? ⟨w.heap.size, 1, none⟩ = some (.int .i64 e.op) := by rw [hc _ _ (by simp; omega)]; simp [go_sem]
      have q2 : w1.cell? ⟨w.heap.size, 2, none⟩ = some (.slice p0 e.args.length r0) := by rw [hc _ _ (by simp; omega)]; simp [go_sem]
      have q3 : w1.cell? ⟨w.heap.size, 3, none⟩ = some (.slice p1 kids.length r1) := by rw [hc _ _ (by simp; omega)]; simp [go_sem]
      have tt0 : w1.cell? ⟨w.heap.size + 1, 0, none⟩ = some (.int .i64 0) := by rw [hc _ _ (by simp)]; simp [go_sem]
      have tt1 : w1.cell? ⟨w.heap.size + 1, 1, none⟩ = some (.int .i64 0) := by rw [hc _ _ (by simp)]; simp [go_sem]
      have tt2 : w1.cell? ⟨w.heap.size + 1, 2, none⟩ = some (.slice none 0 0) := by rw [hc _ _ (by simp)]; simp [go_sem]
      have tt3 : w1.cell? ⟨w.heap.size + 1, 3, none⟩ = some (.slice none 0 0) := by rw [hc _ _ (by simp)]; simp [go_sem]
      have v0 : w1.frozen? ⟨w.heap.size + 1, 0, none⟩ = false := by rw [hf _ _ (by simp)]; simp [go_sem]
      have v1 : w1.frozen? ⟨w.heap.size + 1, 1, none⟩ = false := by rw [hf _ _ (by simp)]; simp [go_sem]
      have v2 : w1.frozen? ⟨w.heap.size + 1, 2, none⟩ = false := by rw [hf _ _ (by simp)]; simp [go_sem]
      have v3 : w1.frozen? ⟨w.heap.size + 1, 3, none⟩ = false := by rw [hf _ _ (by simp)]; simp [go_sem]
      have hB1 : Below w.heap.size w w1 := by (repeat (first | with_reducible exact Below.refl _ _ | with_reducible assumption | with_reducible refine bl_set (by first | exact Nat.le_refl _ | (simp; done) | (simp; omega) | omega) ?_ _ | with_reducible refine bl_alloc ?_ _ | with_reducible refine bl_drewN ?_ _ | with_reducible refine bl_drew ?_ | with_reducible refine bl_grow ?_ _ _ | with_reducible refine bl_call ?_ (by assumption)))
      have HMR2 : Hid (MRow w1 (w.heap.size + 2) (.slice ra ms.length rc) ms) := HMR.out.le (by simp)
      have hz2 : w.heap.size + 2 ≤ w1.heap.size := by omega
      clear hc hf HMR hb1
      go_region_law (go_simp; go_at_call 36; refine (H2.out _ (by exact hB1.drew)).mono ?_; rintro e w2 ⟨u, rfl, g5, hb2⟩; obtain ⟨a5, c5, hu5⟩ := slice_of_owns g5; subst hu5; have hb5 : Below w1.heap.size w1 w2 := ((Below.refl w1.heap.size w1).drew).trans hb2; have HG5 : Hid (w2.ownsRow w1.heap.size 69 3 (.slice a5 e.args.length c5) e.args.length (devsCells e.args)) := g5; clear g5 hb2; have hzc : w.heap.size < w2.heap.size := Nat.lt_of_lt_of_le hza hb5.size; have hzd : w.heap.size + 1 < w2.heap.size := Nat.lt_of_lt_of_le hzb hb5.size; have y0 : w2.cell? ⟨w.heap.size, 0, none⟩ = some (.int .i64 k) := (hb5.cell (p := ⟨w.heap.size, 0, none⟩) hza).trans q0; have y1 : w2.cell? ⟨w.heap.size, 1, none⟩ = some (.int .i64 e.op) := (hb5.cell (p := ⟨w.heap.size, 1, none⟩) hza).trans q1; have y2 : w2.cell? ⟨w.heap.size, 2, none⟩ = some (.slice p0 e.args.length r0) := (hb5.cell (p := ⟨w.heap.size, 2, none⟩) hza).trans q2; have y3 : w2.cell? ⟨w.heap.size, 3, none⟩ = some (.slice p1 kids.length r1) := (hb5.cell (p := ⟨w.heap.size, 3, none⟩) hza).trans q3; have z0 : w2.cell? ⟨w.heap.size + 1, 0, none⟩ = some (.int .i64 0) := (hb5.cell (p := ⟨w.heap.size + 1, 0, none⟩) hzb).trans tt0; have z1 : w2.cell? ⟨w.heap.size + 1, 1, none⟩ = some (.int .i64 0) := (hb5.cell (p := ⟨w.heap.size + 1, 1, none⟩) hzb).trans tt1; have z2 : w2.cell? ⟨w.heap.size + 1, 2, none⟩ = some (.slice none 0 0) := (hb5.cell (p := ⟨w.heap.size + 1, 2, none⟩) hzb).trans tt2; have z3 : w2.cell? ⟨w.heap.size + 1, 3, none⟩ = some (.slice none 0 0) := (hb5.cell (p := ⟨w.heap.size + 1, 3, none⟩) hzb).trans tt3; have f0 : w2.frozen? ⟨w.heap.size + 1, 0, none⟩ = false := (hb5.frozen (p := ⟨w.heap.size + 1, 0, none⟩) hzb).trans v0; have f1 : w2.frozen? ⟨w.heap.size + 1, 1, none⟩ = false := (hb5.frozen (p := ⟨w.heap.size + 1, 1, none⟩) hzb).trans v1; have f2 : w2.frozen? ⟨w.heap.size + 1, 2, none⟩ = false := (hb5.frozen (p := ⟨w.heap.size + 1, 2, none⟩) hzb).trans v2; have f3 : w2.frozen? ⟨w.heap.size + 1, 3, none⟩ = false := (hb5.frozen (p := ⟨w.heap.size + 1, 3, none⟩) hzb).trans v3)
      all_goals
        try go_wp2
        refine bodyPost_ret (v := .agg #[.int .i64 k, .int .i64 e.op, .slice a5 e.args.length c5, .slice ra ms.length rc]) (by simp [results, Tryd.results20, go_sem, z0, z1, z2, z3]) rfl ⟨⟨k, e.op, e.args, a5, c5, ra, rc, ms, rfl, ?_, by rw [MNet.net_eq, HMN.out]⟩, ?_⟩
        · refine MOwn.le (base := w.heap.size + 2) ?_ (by omega)
          have hmo : MOwn w2 (w.heap.size + 2) ⟨k, e.op, e.args, .slice a5 e.args.length c5, .slice ra ms.length rc, ms⟩ := (HMR2.out.below hb5).net k e.op e.args (Joins.ownsRow_le HG5.out hz2) (fun x hx => (aside_new (n := w1.heap.size) (fun j hj => (HMR2.out.lt x hx j hj).2) (fun j hj => (HG5.out.lt j hj).1)).symm)
          exact MOwn.setO4 hmo (fun x hx e => by have := (hmo.1.lt _ x hx _ e).1; omega)
        · have hB2 : Below w.heap.size w w2 := hB1.trans (hb5.mono hB1.size)
          (repeat (first | with_reducible exact Below.refl _ _ | with_reducible assumption | with_reducible refine bl_set (by first | exact Nat.le_refl _ | (simp; done) | (simp; omega) | omega) ?_ _ | with_reducible refine bl_alloc ?_ _ | with_reducible refine bl_drewN ?_ _ | with_reducible refine bl_drew ?_ | with_reducible refine bl_grow ?_ _ _ | with_reducible refine bl_call ?_ (by assumption)))
end Go.Proofs.YthhfnncehfkbfaaDoor
