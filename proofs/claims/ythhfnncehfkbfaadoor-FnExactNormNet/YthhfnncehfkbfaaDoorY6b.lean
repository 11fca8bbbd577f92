/- The specification's chapter 4: the normal form of one net. -/
import Derived.Test.YthhfnncehfkbfaaDoorY6
import Derived.Test.YthhfnncehfkbfaaDoorY6c
import Derived.Test.YthhfnncehfkbfaaDoorY6d
import Derived.Test.YthhfnncehfkbfaaDoorM8b
import Derived.Test.YthhfnncehfkbfaaDoorGU
namespace Go.Proofs.YthhfnncehfkbfaaDoor
open Go.RowKit Go.Sort Go.BigFrame
set_option maxHeartbeats 2000000 in
set_option maxRecDepth 100000 in
theorem s_l4Net (n : Stil.Net) : Stil.netFits n → Stil.netWrong n = 0 → Stil.netSize n ≤ 1000000 → ∀ (av kv : Value) (w : World), DevsAt w av n.one.args → NetsAt w kv n.kids → Calls Tryd.prog 15 #[.agg #[.int .i64 n.kind, .int .i64 n.one.op, av, kv]] w fun e w' => NetRet w' w.heap.size (Stil.normNet n) e ∧ Below w.heap.size w w' := by
  induction n using Stil.net_ind with
  | h k e kids ih =>
    intro hft hwr hsz av kv w hav hkv
    obtain ⟨_, he, hl, hk⟩ := (Stil.netFits_eq _ _ _).1 hft
    obtain ⟨hs1, hs2⟩ := Stil.kids_sizes hsz
    simp only at hav hkv
    rcases Stil.right_parts hwr with ⟨rfl, rfl⟩ | ⟨hk23, hpos, hkw⟩ | ⟨rfl, rfl, x, rfl, hxw⟩
    · exact s_l4one e av kv w hav hkv he.2.1
    · have HI : Hid (∀ W, Below w.heap.size w W → Calls Tryd.prog 29 #[.int .i64 k, kv] W fun e' w' => NetRet w' W.heap.size (Stil.normNet ⟨k, e, kids⟩) e' ∧ Below W.heap.size W w') := by
        intro W hW
        have := s_flat k kids (fun x hx => ih x hx (hk x hx) (hkw x hx) (hs2 x hx)) kv W (hkv.below hW) hl hs1
        rw [Stil.normNet_eq, if_pos hk23]
        exact this
      obtain ⟨p0, r0, rfl, _⟩ := hav
      obtain ⟨p1, r1, rfl, _⟩ := hkv
      obtain ⟨N, hN⟩ : ∃ N, N = Stil.normNet ⟨k, e, kids⟩ := ⟨_, rfl⟩
      rw [← hN] at HI ⊢
      clear ih hft he hl hk hwr hsz hs1 hs2 hkw hpos hN
      rcases hk23 with rfl | rfl
      all_goals
        go_enter Tryd.func15, Tryd.ntmps15
        go_wp2_with (go_at_call 29; refine (HI.out _ (by (repeat (first | with_reducible exact Below.refl _ _ | with_reducible assumption | with_reducible refine bl_set (by first | exact Nat.le_refl _ | (simp; done) | (simp; omega) | omega) ?_ _ | with_reducible refine bl_alloc ?_ _ | with_reducible refine bl_drewN ?_ _ | with_reducible refine bl_drew ?_ | with_reducible refine bl_grow ?_ _ _ | with_reducible refine bl_call ?_ (by assumption))))).mono ?_; rintro e w1 ⟨⟨mk, mop, mds, s0, t0, s1, t1, mks, rfl, hmo, hmn⟩, hb1⟩; obtain ⟨hc, hf⟩ := bcell hb1; have HMO : Hid (MOwn w1 _ ⟨mk, mop, mds, .slice s0 mds.length t0, .slice s1 mks.length t1, mks⟩) := hmo; have HMN : Hid ((MNet.mk mk mop mds (.slice s0 mds.length t0) (.slice s1 mks.length t1) mks).net = N) := hmn; clear hmo hmn; have hza : w.heap.size < w1.heap.size := Nat.lt_of_lt_of_le (by simp; omega) hb1.size; have hzb : w.heap.size + 1 < w1.heap.size := Nat.lt_of_lt_of_le (by simp) hb1.size)
        have b0 : w1.cell? ⟨w.heap.size + 1, 0, none⟩ = some (.int .i64 0) := by rw [hc _ _ (by simp)]; simp [go_sem]
        have b1 : w1.cell? ⟨w.heap.size + 1, 1, none⟩ = some (.int .i64 0) := by rw [hc _ _ (by simp)]; simp [go_sem]
        have b2 : w1.cell? ⟨w.heap.size + 1, 2, none⟩ = some (.slice none 0 0) := by rw [hc _ _ (by simp)]; simp [go_sem]
        have b3 : w1.cell? ⟨w.heap.size + 1, 3, none⟩ = some (.slice none 0 0) := by rw [hc _ _ (by simp)]; simp [go_sem]
        refine bodyPost_ret (v := .agg #[.int .i64 mk, .int .i64 mop, .slice s0 mds.length t0, .slice s1 mks.length t1]) (by simp [results, Tryd.results15, go_sem, b0, b1, b2, b3]) rfl ⟨⟨mk, mop, mds, s0, t0, s1, t1, mks, rfl, ?_, HMN.out⟩, by (repeat (first | with_reducible exact Below.refl _ _ | with_reducible assumption | with_reducible refine bl_set (by first | exact Nat.le_refl _ | (simp; done) | (simp; omega) | omega) ?_ _ | with_reducible refine bl_alloc ?_ _ | with_reducible refine bl_drewN ?_ _ | with_reducible refine bl_drew ?_ | with_reducible refine bl_grow ?_ _ _ | with_reducible refine bl_call ?_ (by assumption)))⟩
        refine MOwn.le (base := w.heap.size + 2) ?_ (by omega)
        repeat (refine MOwn.set ?_ (by first | (simp; done) | (simp; omega)) _)
        exact HMO.out.le (by simp)
    · exact s_l4not x av kv w hav hkv (ih x (by simp) (hk x (by simp)) hxw (hs2 x (by simp)))
set_option maxHeartbeats 2000000 in
set_option maxRecDepth 100000 in
theorem s_normNet (n : Stil.Net) (av kv : Value) (w : World) (hav : DevsAt w av n.one.args) (hkv : NetsAt w kv n.kids) (hf : Stil.netFits n) (hsz : Stil.netSize n ≤ 1000000000) :
    Calls Tryd.prog 5 #[.agg #[.int .i64 n.kind, .int .i64 n.one.op, av, kv]] w fun e w' => NetRet w' w.heap.size (Stil.normTop n) e ∧ Below w.heap.size w w' := by
  have H1 : Hid (∀ W, Below w.heap.size w W → Calls Tryd.prog 13 #[.agg #[.int .i64 n.kind, .int .i64 n.one.op, av, kv]] W fun e w' => e = .returned (.int .i64 (Stil.netSize n)) ∧ Below W.heap.size W w') := fun W h => s_netSize n av kv W (hav.below h) (hkv.below h) hsz
  have H2 : Hid (∀ W, Below w.heap.size w W → Calls Tryd.prog 14 #[.agg #[.int .i64 n.kind, .int .i64 n.one.op, av, kv]] W fun e w' => e = .returned (.int .i64 (Stil.netWrong n)) ∧ Below W.heap.size W w') := fun W h => s_netWrong n av kv W (hav.below h) (hkv.below h) hf
  have hnil : ∀ W : World, NetRet W w.heap.size ⟨0, ⟨0, []⟩, []⟩ (.returned (.agg #[.int .i64 0, .int .i64 0, .slice none 0 0, .slice none 0 0])) := fun W => ⟨0, 0, [], none, 0, none, 0, [], rfl, (MRow.nil W _).net 0 0 [] (World.ownsRow_nil _ _ _ _) (fun x hx => aside_nils _ x hx), by rw [MNet.net_eq]; rfl⟩
  have HNIL : Hid (∀ W : World, NetRet W w.heap.size ⟨0, ⟨0, []⟩, []⟩ (.returned (.agg #[.int .i64 0, .int .i64 0, .slice none 0 0, .slice none 0 0]))) := hnil
  have H3 : Hid (Stil.netSize n ≤ 400 → Stil.netWrong n = 0 → ∀ W, Below w.heap.size w W → Calls Tryd.prog 15 #[.agg #[.int .i64 n.kind, .int .i64 n.one.op, av, kv]] W fun e w' => NetRet w' W.heap.size (Stil.normNet n) e ∧ Below W.heap.size W w') := fun h1 h2 W h => s_l4Net n hf h2 (by omega) av kv W (hav.below h) (hkv.below h)
  have hwb := Stil.netWrong_bound n
  obtain ⟨T, hT⟩ : ∃ T, T = Stil.normTop n := ⟨_, rfl⟩
  have HT : Hid (T = if 400 < Stil.netSize n ∨ 0 < Stil.netWrong n then ⟨0, ⟨0, []⟩, []⟩ else Stil.normNet n) := hT
  rw [← hT]
  obtain ⟨sz, hsz2⟩ : ∃ sz, sz = Stil.netSize n := ⟨_, rfl⟩
  obtain ⟨wg, hwg⟩ : ∃ wg, wg = Stil.netWrong n := ⟨_, rfl⟩
  rw [← hsz2] at H1 H3 HT hsz
  rw [← hwg] at H2 H3 HT hwb
  obtain ⟨p0, r0, rfl, hz8⟩ := hav
  obtain ⟨p1, r1, rfl, hz9⟩ := hkv
  clear hz8 hz9 hT hsz2 hwg hf hnil
  by_cases hs : 400 < sz
  · have hTe := HT.out
    rw [if_pos (.inl hs)] at hTe
    subst hTe
    clear HT H3 H2 hwb
    have hs2 : (400 : Int) < sz := by omega
    go_enter Tryd.func5, Tryd.ntmps5
    go_wp2_with (go_at_call 13; refine (H1.out _ (by (repeat (first | with_reducible exact Below.refl _ _ | with_reducible assumption | with_reducible refine bl_set (by first | exact Nat.le_refl _ | (simp; done) | (simp; omega) | omega) ?_ _ | with_reducible refine bl_alloc ?_ _ | with_reducible refine bl_drewN ?_ _ | with_reducible refine bl_drew ?_ | with_reducible refine bl_grow ?_ _ _ | with_reducible refine bl_call ?_ (by assumption))))).mono ?_; rintro e w1 ⟨rfl, hb1⟩; obtain ⟨hc, hf⟩ := bcell hb1; have hza : w.heap.size < w1.heap.size := Nat.lt_of_lt_of_le (by simp; omega) hb1.size; have hzb : w.heap.size + 1 < w1.heap.size := Nat.lt_of_lt_of_le (by simp) hb1.size)
    have b0 : w1.cell? ⟨w.heap.size + 1, 0, none⟩ = some (.int .i64 0) := by rw [hc _ _ (by simp)]; simp [go_sem]
    have b1 : w1.cell? ⟨w.heap.size + 1, 1, none⟩ = some (.int .i64 0) := by rw [hc _ _ (by simp)]; simp [go_sem]
    have b2 : w1.cell? ⟨w.heap.size + 1, 2, none⟩ = some (.slice none 0 0) := by rw [hc _ _ (by simp)]; simp [go_sem]
    have b3 : w1.cell? ⟨w.heap.size + 1, 3, none⟩ = some (.slice none 0 0) := by rw [hc _ _ (by simp)]; simp [go_sem]
    refine bodyPost_ret (v := .agg #[.int .i64 0, .int .i64 0, .slice none 0 0, .slice none 0 0]) (by simp [results, Tryd.results5, go_sem, b0, b1, b2, b3]) rfl ⟨HNIL.out _, by (repeat (first | with_reducible exact Below.refl _ _ | with_reducible assumption | with_reducible refine bl_set (by first | exact Nat.le_refl _ | (simp; done) | (simp; omega) | omega) ?_ _ | with_reducible refine bl_alloc ?_ _ | with_reducible refine bl_drewN ?_ _ | with_reducible refine bl_drew ?_ | with_reducible refine bl_grow ?_ _ _ | with_reducible refine bl_call ?_ (by assumption)))⟩
  · by_cases hw : 0 < wg
    · have hTe := HT.out
      rw [if_pos (.inr hw)] at hTe
      subst hTe
      clear HT H3
      have hs2 : ¬ (400 : Int) < sz := by omega
      go_enter Tryd.func5, Tryd.ntmps5
      go_wp2_with (first | (go_at_call 13; refine (H1.out _ (by (repeat (first | with_reducible exact Below.refl _ _ | with_reducible assumption | with_reducible refine bl_set (by first | exact Nat.le_refl _ | (simp; done) | (simp; omega) | omega) ?_ _ | with_reducible refine bl_alloc ?_ _ | with_reducible refine bl_drewN ?_ _ | with_reducible refine bl_drew ?_ | with_reducible refine bl_grow ?_ _ _ | with_reducible refine bl_call ?_ (by assumption))))).mono ?_; rintro e w1 ⟨rfl, hb1⟩; obtain ⟨hc, hf⟩ := bcell hb1; have hza : w.heap.size < w1.heap.size := Nat.lt_of_lt_of_le (by simp; omega) hb1.size; have hzb : w.heap.size + 1 < w1.heap.size := Nat.lt_of_lt_of_le (by simp) hb1.size) | (go_at_call 14; refine (H2.out _ (by (repeat (first | with_reducible exact Below.refl _ _ | with_reducible assumption | with_reducible refine bl_set (by first | exact Nat.le_refl _ | (simp; done) | (simp; omega) | omega) ?_ _ | with_reducible refine bl_alloc ?_ _ | with_reducible refine bl_drewN ?_ _ | with_reducible refine bl_drew ?_ | with_reducible refine bl_grow ?_ _ _ | with_reducible refine bl_call ?_ (by assumption))))).mono ?_; rintro e w2 ⟨rfl, hb2⟩; obtain ⟨hc2, hf2⟩ := bcell hb2; have hzc : w.heap.size < w2.heap.size := Nat.lt_of_lt_of_le hza hb2.size; have hzd : w.heap.size + 1 < w2.heap.size := Nat.lt_of_lt_of_le hzb hb2.size))
      have b0 : w2.cell? ⟨w.heap.size + 1, 0, none⟩ = some (.int .i64 0) := by rw [hc2 _ _ hzb, hc _ _ (by simp)]; simp [go_sem]
      have b1 : w2.cell? ⟨w.heap.size + 1, 1, none⟩ = some (.int .i64 0) := by rw [hc2 _ _ hzb, hc _ _ (by simp)]; simp [go_sem]
      have b2 : w2.cell? ⟨w.heap.size + 1, 2, none⟩ = some (.slice none 0 0) := by rw [hc2 _ _ hzb, hc _ _ (by simp)]; simp [go_sem]
      have b3 : w2.cell? ⟨w.heap.size + 1, 3, none⟩ = some (.slice none 0 0) := by rw [hc2 _ _ hzb, hc _ _ (by simp)]; simp [go_sem]
      refine bodyPost_ret (v := .agg #[.int .i64 0, .int .i64 0, .slice none 0 0, .slice none 0 0]) (by simp [results, Tryd.results5, go_sem, b0, b1, b2, b3]) rfl ⟨HNIL.out _, by (repeat (first | with_reducible exact Below.refl _ _ | with_reducible assumption | with_reducible refine bl_set (by first | exact Nat.le_refl _ | (simp; done) | (simp; omega) | omega) ?_ _ | with_reducible refine bl_alloc ?_ _ | with_reducible refine bl_drewN ?_ _ | with_reducible refine bl_drew ?_ | with_reducible refine bl_grow ?_ _ _ | with_reducible refine bl_call ?_ (by assumption)))⟩
    · have hTe := HT.out
      rw [if_neg (by omega)] at hTe
      have H4 : Hid (∀ W, Below w.heap.size w W → Calls Tryd.prog 15 #[.agg #[.int .i64 n.kind, .int .i64 n.one.op, .slice p0 n.one.args.length r0, .slice p1 n.kids.length r1]] W fun e w' => NetRet w' W.heap.size T e ∧ Below W.heap.size W w') := by rw [hTe]; exact H3.out (by omega) (by omega)
      clear HT H3 hTe
      have hs2 : ¬ (400 : Int) < sz := by omega
      go_enter Tryd.func5, Tryd.ntmps5
      go_wp2_with (first | (go_at_call 13; refine (H1.out _ (by (repeat (first | with_reducible exact Below.refl _ _ | with_reducible assumption | with_reducible refine bl_set (by first | exact Nat.le_refl _ | (simp; done) | (simp; omega) | omega) ?_ _ | with_reducible refine bl_alloc ?_ _ | with_reducible refine bl_drewN ?_ _ | with_reducible refine bl_drew ?_ | with_reducible refine bl_grow ?_ _ _ | with_reducible refine bl_call ?_ (by assumption))))).mono ?_; rintro e w1 ⟨rfl, hb1⟩; obtain ⟨hc, hf⟩ := bcell hb1; have hza : w.heap.size < w1.heap.size := Nat.lt_of_lt_of_le (by simp; omega) hb1.size; have hzb : w.heap.size + 1 < w1.heap.size := Nat.lt_of_lt_of_le (by simp) hb1.size) | (go_at_call 14; refine (H2.out _ (by (repeat (first | with_reducible exact Below.refl _ _ | with_reducible assumption | with_reducible refine bl_set (by first | exact Nat.le_refl _ | (simp; done) | (simp; omega) | omega) ?_ _ | with_reducible refine bl_alloc ?_ _ | with_reducible refine bl_drewN ?_ _ | with_reducible refine bl_drew ?_ | with_reducible refine bl_grow ?_ _ _ | with_reducible refine bl_call ?_ (by assumption))))).mono ?_; rintro e w2 ⟨rfl, hb2⟩; obtain ⟨hc2, hf2⟩ := bcell hb2; have hzc : w.heap.size < w2.heap.size := Nat.lt_of_lt_of_le hza hb2.size; have hzd : w.heap.size + 1 < w2.heap.size := Nat.lt_of_lt_of_le hzb hb2.size) | (go_at_call 15; refine (H4.out _ (by (repeat (first | with_reducible exact Below.refl _ _ | with_reducible assumption | with_reducible refine bl_set (by first | exact Nat.le_refl _ | (simp; done) | (simp; omega) | omega) ?_ _ | with_reducible refine bl_alloc ?_ _ | with_reducible refine bl_drewN ?_ _ | with_reducible refine bl_drew ?_ | with_reducible refine bl_grow ?_ _ _ | with_reducible refine bl_call ?_ (by assumption))))).mono ?_; rintro e w3 ⟨⟨mk, mop, mds, s0, t0, s1, t1, mks, rfl, hmo, hmn⟩, hb3⟩; obtain ⟨hc3, hf3⟩ := bcell hb3; have hze : w.heap.size + 1 < w3.heap.size := Nat.lt_of_lt_of_le hzd hb3.size; have HMO : Hid (MOwn w3 w2.heap.size ⟨mk, mop, mds, .slice s0 mds.length t0, .slice s1 mks.length t1, mks⟩) := hmo; have HMN : Hid ((MNet.mk mk mop mds (.slice s0 mds.length t0) (.slice s1 mks.length t1) mks).net = T) := hmn; clear hmo hmn))
      have b0 : w3.cell? ⟨w.heap.size + 1, 0, none⟩ = some (.int .i64 0) := by rw [hc3 _ _ hzd, hc2 _ _ hzb, hc _ _ (by simp)]; simp [go_sem]
      have b1 : w3.cell? ⟨w.heap.size + 1, 1, none⟩ = some (.int .i64 0) := by rw [hc3 _ _ hzd, hc2 _ _ hzb, hc _ _ (by simp)]; simp [go_sem]
      have b2 : w3.cell? ⟨w.heap.size + 1, 2, none⟩ = some (.slice none 0 0) := by rw [hc3 _ _ hzd, hc2 _ _ hzb, hc _ _ (by simp)]; simp [go_sem]
      have b3 : w3.cell? ⟨w.heap.size + 1, 3, none⟩ = some (.slice none 0 0) := by rw [hc3 _ _ hzd, hc2 _ _ hzb, hc _ _ (by simp)]; simp [go_sem]
      refine bodyPost_ret (v := .agg #[.int .i64 mk, .int .i64 mop, .slice s0 mds.length t0, .slice s1 mks.length t1]) (by simp [results, Tryd.results5, go_sem, b0, b1, b2, b3]) rfl ⟨⟨mk, mop, mds, s0, t0, s1, t1, mks, rfl, ?_, HMN.out⟩, by (repeat (first | with_reducible exact Below.refl _ _ | with_reducible assumption | with_reducible refine bl_set (by first | exact Nat.le_refl _ | (simp; done) | (simp; omega) | omega) ?_ _ | with_reducible refine bl_alloc ?_ _ | with_reducible refine bl_drewN ?_ _ | with_reducible refine bl_drew ?_ | with_reducible refine bl_grow ?_ _ _ | with_reducible refine bl_call ?_ (by assumption)))⟩
      refine MOwn.le (base := w.heap.size + 2) ?_ (by omega)
      refine MOwn.set4 ?_ (Nat.lt_succ_self _)
      exact HMO.out.le (by omega)
end Go.Proofs.YthhfnncehfkbfaaDoor
