/- The specification's chapter 4: the normal form of one net. -/
import Derived.Test.YtbllmkmdaenglaaGreatDoorY6
import Derived.Test.YtbllmkmdaenglaaGreatDoorY6c
import Derived.Test.YtbllmkmdaenglaaGreatDoorY6d
import Derived.Test.YtbllmkmdaenglaaGreatDoorGk
import Derived.Test.YtbllmkmdaenglaaGreatDoorGU
namespace Go.Proofs.YtbllmkmdaenglaaGreatDoor
open Go.RowKit Go.Sort Go.BigFrame
set_option maxHeartbeats 2000000 in
set_option maxRecDepth 100000 in
theorem s_l4Net (n : Stil.Net) : Stil.netFits n → Stil.netWrong n = 0 → Stil.netSize n ≤ 1000000 → ∀ (av kv : Value) (w : World), DevsAt w av n.one.args → NetsAt w kv n.kids → Calls Tryz.prog 44 #[.agg #[.int .i64 n.kind, .int .i64 n.one.op, av, kv]] w fun e w' => NetRet w' w.heap.size (Stil.normNet n) e ∧ Below w.heap.size w w' := by
  induction n using Stil.net_ind with
  | h k e kids ih =>
    intro hft hwr hsz av kv w hav hkv
    obtain ⟨_, he, hl, hk⟩ := (Stil.netFits_eq _ _ _).1 hft
    obtain ⟨hs1, hs2⟩ := Stil.kids_sizes hsz
    simp only at hav hkv
    rcases Stil.right_parts hwr with ⟨rfl, rfl⟩ | ⟨hk23, hpos, hkw⟩ | ⟨rfl, rfl, x, rfl, hxw⟩
    · exact s_l4one e av kv w hav hkv he.2.1
    · have HI : Hid (∀ W, Below w.heap.size w W → Calls Tryz.prog 69 #[.int .i64 k, kv] W fun e' w' => NetRet w' W.heap.size (Stil.normNet ⟨k, e, kids⟩) e' ∧ Below W.heap.size W w') := by
        intro W hW
        have := s_flat k kids (fun x hx => ih x hx (hk x hx) (hkw x hx) (hs2 x hx)) kv W (hkv.below hW) hl hs1
        rw [Stil.normNet_eq, if_pos hk23]
        exact this
      obtain ⟨p0, r0, rfl, _⟩ := hav
      obtain ⟨p1, r1, rfl, _⟩ := hkv
      obtain ⟨N, hN⟩ : ∃ N, N = Stil.normNet ⟨k, e, kids⟩ := ⟨_, rfl⟩
      rw [← hN] at HI ⊢
      clear ih hft he hl hk hwr hsz hs1 hs2 hkw hpos hN
      rcases hk23 with rfl | rfl
      all_goals
        go_enter Tryz.func44, Tryz.ntmps44
        go_wp2_with (go_at_call 69; refine (HI.out _ (by (repeat (first | with_reducible exact Below.refl _ _ | with_reducible assumption | with_reducible refine bl_set (by first | exact Nat.le_refl _ | (simp; done) | (simp; omega) | omega) ?_ _ | with_reducible refine bl_alloc ?_ _ | with_reducible refine bl_drewN ?_ _ | with_reducible refine bl_drew ?_ | with_reducible refine bl_grow ?_ _ _ | with_reducible refine bl_call ?_ (by assumption))))).mono ?_; rintro e w1 ⟨⟨mk, mop, mds, s0, t0, s1, t1, mks, rfl, hmo, hmn⟩, hb1⟩; obtain ⟨hc, hf⟩ := bcell hb1; have HMO : Hid (MOwn w1 _ ⟨mk, mop, mds, .slice s0 mds.length t0, .slice s1 mks.length t1, mks⟩) := hmo; have HMN : Hid ((MNet.mk mk mop mds (.slice s0 mds.length t0) (.slice s1 mks.length t1) mks).net = N) := hmn; clear hmo hmn; have hza : w.heap.size < w1.heap.size := Nat.lt_of_lt_of_le (by simp; omega) hb1.size; have hzb : w.heap.size + 1 < w1.heap.size := Nat.lt_of_lt_of_le (by simp) hb1.size)
        have b0 : w1.cell? ⟨w.heap.size + 1, 0, none⟩ = some (.int .i64 0) := by rw [hc _ _ (by simp)]; simp [go_sem]
        have b1 : w1.cell? ⟨w.heap.size + 1, 1, none⟩ = some (.int .i64 0) := by rw [hc _ _ (by simp)]; simp [go_sem]
        have b2 : w1.cell? ⟨w.heap.size + 1, 2, none⟩ = some (.slice none 0 0) := by rw [hc _ _ (by simp)]; simp [go_sem]
        have b3 : w1.cell? ⟨w.heap.size + 1, 3, none⟩ = some (.slice none 0 0) := by rw [hc _ _ (by simp)]; simp [go_sem]
        refine bodyPost_ret (v := .agg #[.int .i64 mk, .int .i64 mop, .slice s0 mds.length t0, .slice s1 mks.length t1]) (by simp [results, Tryz.results44, go_sem, b0, b1, b2, b3]) rfl ⟨⟨mk, mop, mds, s0, t0, s1, t1, mks, rfl, ?_, HMN.out⟩, by (repeat (first | with_reducible exact Below.refl _ _ | with_reducible assumption | with_reducible refine bl_set (by first | exact Nat.le_refl _ | (simp; done) | (simp; omega) | omega) ?_ _ | with_reducible refine bl_alloc ?_ _ | with_reducible refine bl_drewN ?_ _ | with_reducible refine bl_drew ?_ | with_reducible refine bl_grow ?_ _ _ | with_reducible refine bl_call ?_ (by assumption)))⟩
        refine MOwn.le (base := w.heap.size + 2) ?_ (by omega)
        repeat (refine MOwn.set ?_ (by first | (simp; done) | (simp; omega)) _)
        exact HMO.out.le (by simp)
    · exact s_l4not x av kv w hav hkv (ih x (by simp) (hk x (by simp)) hxw (hs2 x (by simp)))
end Go.Proofs.YtbllmkmdaenglaaGreatDoor
