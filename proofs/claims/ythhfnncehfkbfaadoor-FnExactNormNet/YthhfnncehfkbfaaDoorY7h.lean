/- The program's chapter 4: NormNet. -/
import Derived.Test.YthhfnncehfkbfaaDoorY7g
import Derived.Test.YthhfnncehfkbfaaDoorGO
import Derived.Test.YthhfnncehfkbfaaDoorGX
namespace Go.Proofs.YthhfnncehfkbfaaDoor
open Go.RowKit Go.Sort Go.BigFrame
theorem nils_row (W : World) (base : Nat) : NetRet W base ⟨0, ⟨0, []⟩, []⟩ (.returned (.agg #[.int .i64 0, .int .i64 0, .slice none 0 0, .slice none 0 0])) := by
  refine ⟨0, 0, [], none, 0, none, 0, [], rfl, (MRow.nil W base).net 0 0 [] (World.ownsRow_nil _ _ _ _) (fun x hx => ?_), by rw [MNet.net_eq]; rfl⟩
  exact aside_nil x
set_option maxHeartbeats 2000000 in
set_option maxRecDepth 100000 in
theorem i_NormNet (n : Stil.Net) (av kv : Value) (w : World) (hr : RowsAt w) (hav : DevsAt w av n.one.args) (hkv : NetsAt w kv n.kids) (hf : Stil.netFits n) (hsz : Stil.netSize n ≤ 1000000000) :
    Calls Tryd.prog 7 #[.agg #[.int .i64 n.kind, .int .i64 n.one.op, av, kv]] w fun e w' => NetRet w' w.heap.size (Stil.normTop n) e ∧ Below w.heap.size w w' := by
  have H1 : Hid (∀ W, Below w.heap.size w W → Calls Tryd.prog 18 #[.agg #[.int .i64 n.kind, .int .i64 n.one.op, av, kv], .int .i64 400] W fun e w' => ∃ r : Nat, e = .returned (.int .i64 r) ∧ ((Stil.netSize n : Int) ≤ 400 → r = Stil.netSize n) ∧ ((400 : Int) < Stil.netSize n → (400 : Int) < r) ∧ r ≤ Stil.netSize n ∧ Below W.heap.size W w') := fun W h => i_countNets n av kv 400 W (hav.below h) (hkv.below h) hf hsz (by omega) (by omega)
  have H2 : Hid (∀ W, Below w.heap.size w W → Calls Tryd.prog 19 #[.agg #[.int .i64 n.kind, .int .i64 n.one.op, av, kv]] W fun e w' => e = .returned (errOf (Stil.netWrong n)) ∧ Below W.heap.size W w') := fun W h => i_lookNet n av kv W (hr.below h) (hav.below h) (hkv.below h) hf
  have HNIL : Hid (∀ W : World, NetRet W w.heap.size ⟨0, ⟨0, []⟩, []⟩ (.returned (.agg #[.int .i64 0, .int .i64 0, .slice none 0 0, .slice none 0 0]))) := fun W => nils_row W _
  have H3 : Hid (Stil.netSize n ≤ 400 → ∀ W, Below w.heap.size w W → Calls Tryd.prog 20 #[.agg #[.int .i64 n.kind, .int .i64 n.one.op, av, kv]] W fun e w' => NetRet w' W.heap.size (Stil.normNet n) e ∧ Below W.heap.size W w') := fun h1 W h => i_normNet n hf (by omega) av kv W (hav.below h) (hkv.below h)
  have hwb := Stil.netWrong_bound n
  obtain ⟨T, hT⟩ : ∃ T, T = Stil.normTop n := ⟨_, rfl⟩
  have HT : Hid (T = if 400 < Stil.netSize n ∨ 0 < Stil.netWrong n then ⟨0, ⟨0, []⟩, []⟩ else Stil.normNet n) := hT
  rw [← hT]
  obtain ⟨sz, hsz2⟩ : ∃ sz, sz = Stil.netSize n := ⟨_, rfl⟩
  obtain ⟨wg, hwg⟩ : ∃ wg, wg = Stil.netWrong n := ⟨_, rfl⟩
  rw [← hsz2] at H1 H3 HT hsz
  rw [← hwg] at H2 HT hwb
  obtain ⟨p0, r0, rfl, hz8⟩ := hav
  obtain ⟨p1, r1, rfl, hz9⟩ := hkv
  clear hz8 hz9 hT hsz2 hwg hf hr
  by_cases hs : 400 < sz
  · have hTe := HT.out
    rw [if_pos (.inl hs)] at hTe
    subst hTe
    clear HT H3 H2 hwb
    go_enter Tryd.func7, Tryd.ntmps7
    go_wp2_with (go_at_call 18; refine (H1.out _ (by (repeat (first | with_reducible exact Below.refl _ _ | with_reducible assumption | with_reducible refine bl_set (by first | exact Nat.le_refl _ | (simp; done) | (simp; omega) | omega) ?_ _ | with_reducible refine bl_alloc ?_ _ | with_reducible refine bl_drewN ?_ _ | with_reducible refine bl_drew ?_ | with_reducible refine bl_grow ?_ _ _ | with_reducible refine bl_call ?_ (by assumption))))).mono ?_; rintro e w1 ⟨r, rfl, hr1, hr2, hr3, hb1⟩; obtain ⟨hc, hf⟩ := bcell hb1; have hza : w.heap.size < w1.heap.size := Nat.lt_of_lt_of_le (by simp; omega) hb1.size; have hzb : w.heap.size + 1 < w1.heap.size := Nat.lt_of_lt_of_le (by simp) hb1.size; have hr5 : (400 : Int) < r := hr2 (by omega); clear hr1 hr2 hr3)
    have b0 : w1.cell? ⟨w.heap.size + 1, 0, none⟩ = some (.int .i64 0) := by rw [hc _ _ (by simp)]; simp [go_sem]
    have b1 : w1.cell? ⟨w.heap.size + 1, 1, none⟩ = some (.int .i64 0) := by rw [hc _ _ (by simp)]; simp [go_sem]
    have b2 : w1.cell? ⟨w.heap.size + 1, 2, none⟩ = some (.slice none 0 0) := by rw [hc _ _ (by simp)]; simp [go_sem]
    have b3 : w1.cell? ⟨w.heap.size + 1, 3, none⟩ = some (.slice none 0 0) := by rw [hc _ _ (by simp)]; simp [go_sem]
    refine bodyPost_ret (v := .agg #[.int .i64 0, .int .i64 0, .slice none 0 0, .slice none 0 0]) (by simp [results, Tryd.results7, go_sem, b0, b1, b2, b3]) rfl ⟨HNIL.out _, by (repeat (first | with_reducible exact Below.refl _ _ | with_reducible assumption | with_reducible refine bl_set (by first | exact Nat.le_refl _ | (simp; done) | (simp; omega) | omega) ?_ _ | with_reducible refine bl_alloc ?_ _ | with_reducible refine bl_drewN ?_ _ | with_reducible refine bl_drew ?_ | with_reducible refine bl_grow ?_ _ _ | with_reducible refine bl_call ?_ (by assumption)))⟩
  · by_cases hw : 0 < wg
    · have hTe := HT.out
      rw [if_pos (.inr hw)] at hTe
      subst hTe
      have he : errOf wg = .iface 60 (.int .i64 wg) := if_pos hw
      rw [he] at H2
      clear HT H3 he
      go_enter Tryd.func7, Tryd.ntmps7
      go_wp2_with (first | (go_at_call 18; refine (H1.out _ (by (repeat (first | with_reducible exact Below.refl _ _ | with_reducible assumption | with_reducible refine bl_set (by first | exact Nat.le_refl _ | (simp; done) | (simp; omega) | omega) ?_ _ | with_reducible refine bl_alloc ?_ _ | with_reducible refine bl_drewN ?_ _ | with_reducible refine bl_drew ?_ | with_reducible refine bl_grow ?_ _ _ | with_reducible refine bl_call ?_ (by assumption))))).mono ?_; rintro e w1 ⟨r, rfl, hr1, hr2, hr3, hb1⟩; obtain ⟨hc, hf⟩ := bcell hb1; have hza : w.heap.size < w1.heap.size := Nat.lt_of_lt_of_le (by simp; omega) hb1.size; have hzb : w.heap.size + 1 < w1.heap.size := Nat.lt_of_lt_of_le (by simp) hb1.size; have hr5 : ¬ (400 : Int) < r := (by have := hr1 (by omega); omega); clear hr1 hr2 hr3) | (go_at_call 19; refine (H2.out _ (by (repeat (first | with_reducible exact Below.refl _ _ | with_reducible assumption | with_reducible refine bl_set (by first | exact Nat.le_refl _ | (simp; done) | (simp; omega) | omega) ?_ _ | with_reducible refine bl_alloc ?_ _ | with_reducible refine bl_drewN ?_ _ | with_reducible refine bl_drew ?_ | with_reducible refine bl_grow ?_ _ _ | with_reducible refine bl_call ?_ (by assumption))))).mono ?_; rintro e w2 ⟨rfl, hb2⟩; obtain ⟨hc2, hf2⟩ := bcell hb2; have hzc : w.heap.size < w2.heap.size := Nat.lt_of_lt_of_le hza hb2.size; have hzd : w.heap.size + 1 < w2.heap.size := Nat.lt_of_lt_of_le hzb hb2.size))
      have b0 : w2.cell? ⟨w.heap.size + 1, 0, none⟩ = some (.int .i64 0) := by rw [hc2 _ _ hzb, hc _ _ (by simp)]; simp [go_sem]
      have b1 : w2.cell? ⟨w.heap.size + 1, 1, none⟩ = some (.int .i64 0) := by rw [hc2 _ _ hzb, hc _ _ (by simp)]; simp [go_sem]
      have b2 : w2.cell? ⟨w.heap.size + 1, 2, none⟩ = some (.slice none 0 0) := by rw [hc2 _ _ hzb, hc _ _ (by simp)]; simp [go_sem]
      have b3 : w2.cell? ⟨w.heap.size + 1, 3, none⟩ = some (.slice none 0 0) := by rw [hc2 _ _ hzb, hc _ _ (by simp)]; simp [go_sem]
      refine bodyPost_ret (v := .agg #[.int .i64 0, .int .i64 0, .slice none 0 0, .slice none 0 0]) (by simp [results, Tryd.results7, go_sem, b0, b1, b2, b3]) rfl ⟨HNIL.out _, by (repeat (first | with_reducible exact Below.refl _ _ | with_reducible assumption | with_reducible refine bl_set (by first | exact Nat.le_refl _ | (simp; done) | (simp; omega) | omega) ?_ _ | with_reducible refine bl_alloc ?_ _ | with_reducible refine bl_drewN ?_ _ | with_reducible refine bl_drew ?_ | with_reducible refine bl_grow ?_ _ _ | with_reducible refine bl_call ?_ (by assumption)))⟩
    · have hTe := HT.out
      rw [if_neg (by omega)] at hTe
      have H4 : Hid (∀ W, Below w.heap.size w W → Calls Tryd.prog 20 #[.agg #[.int .i64 n.kind, .int .i64 n.one.op, .slice p0 n.one.args.length r0, .slice p1 n.kids.length r1]] W fun e w' => NetRet w' W.heap.size T e ∧ Below W.heap.size W w') := by rw [hTe]; exact H3.out (by omega)
      have he : errOf wg = .nilIface := if_neg hw
      rw [he] at H2
      clear HT H3 hTe he
      go_enter Tryd.func7, Tryd.ntmps7
      go_wp2_with (first | (go_at_call 18; refine (H1.out _ (by (repeat (first | with_reducible exact Below.refl _ _ | with_reducible assumption | with_reducible refine bl_set (by first | exact Nat.le_refl _ | (simp; done) | (simp; omega) | omega) ?_ _ | with_reducible refine bl_alloc ?_ _ | with_reducible refine bl_drewN ?_ _ | with_reducible refine bl_drew ?_ | with_reducible refine bl_grow ?_ _ _ | with_reducible refine bl_call ?_ (by assumption))))).mono ?_; rintro e w1 ⟨r, rfl, hr1, hr2, hr3, hb1⟩; obtain ⟨hc, hf⟩ := bcell hb1; have hza : w.heap.size < w1.heap.size := Nat.lt_of_lt_of_le (by simp; omega) hb1.size; have hzb : w.heap.size + 1 < w1.heap.size := Nat.lt_of_lt_of_le (by simp) hb1.size; have hr5 : ¬ (400 : Int) < r := (by have := hr1 (by omega); omega); clear hr1 hr2 hr3) | (go_at_call 19; refine (H2.out _ (by (repeat (first | with_reducible exact Below.refl _ _ | with_reducible assumption | with_reducible refine bl_set (by first | exact Nat.le_refl _ | (simp; done) | (simp; omega) | omega) ?_ _ | with_reducible refine bl_alloc ?_ _ | with_reducible refine bl_drewN ?_ _ | with_reducible refine bl_drew ?_ | with_reducible refine bl_grow ?_ _ _ | with_reducible refine bl_call ?_ (by assumption))))).mono ?_; rintro e w2 ⟨rfl, hb2⟩; obtain ⟨hc2, hf2⟩ := bcell hb2; have hzc : w.heap.size < w2.heap.size := Nat.lt_of_lt_of_le hza hb2.size; have hzd : w.heap.size + 1 < w2.heap.size := Nat.lt_of_lt_of_le hzb hb2.size) | (go_at_call 20; refine (H4.out _ (by (repeat (first | with_reducible exact Below.refl _ _ | with_reducible assumption | with_reducible refine bl_set (by first | exact Nat.le_refl _ | (simp; done) | (simp; omega) | omega) ?_ _ | with_reducible refine bl_alloc ?_ _ | with_reducible refine bl_drewN ?_ _ | with_reducible refine bl_drew ?_ | with_reducible refine bl_grow ?_ _ _ | with_reducible refine bl_call ?_ (by assumption))))).mono ?_; rintro e w3 ⟨⟨mk, mop, mds, s0, t0, s1, t1, mks, rfl, hmo, hmn⟩, hb3⟩; obtain ⟨hc3, hf3⟩ := bcell hb3; have hze : w.heap.size + 1 < w3.heap.size := Nat.lt_of_lt_of_le hzd hb3.size; have HMO : Hid (MOwn w3 w2.heap.size ⟨mk, mop, mds, .slice s0 mds.length t0, .slice s1 mks.length t1, mks⟩) := hmo; have HMN : Hid ((MNet.mk mk mop mds (.slice s0 mds.length t0) (.slice s1 mks.length t1) mks).net = T) := hmn; clear hmo hmn))
      have b0 : w3.cell? ⟨w.heap.size + 1, 0, none⟩ = some (.int .i64 0) := by rw [hc3 _ _ hzd, hc2 _ _ hzb, hc _ _ (by simp)]; simp [go_sem]
      have b1 : w3.cell? ⟨w.heap.size + 1, 1, none⟩ = some (.int .i64 0) := by rw [hc3 _ _ hzd, hc2 _ _ hzb, hc _ _ (by simp)]; simp [go_sem]
      have b2 : w3.cell? ⟨w.heap.size + 1, 2, none⟩ = some (.slice none 0 0) := by rw [hc3 _ _ hzd, hc2 _ _ hzb, hc _ _ (by simp)]; simp [go_sem]
      have b3 : w3.cell? ⟨w.heap.size + 1, 3, none⟩ = some (.slice none 0 0) := by rw [hc3 _ _ hzd, hc2 _ _ hzb, hc _ _ (by simp)]; simp [go_sem]
      refine bodyPost_ret (v := .agg #[.int .i64 mk, .int .i64 mop, .slice s0 mds.length t0, .slice s1 mks.length t1]) (by simp [results, Tryd.results7, go_sem, b0, b1, b2, b3]) rfl ⟨⟨mk, mop, mds, s0, t0, s1, t1, mks, rfl, ?_, HMN.out⟩, by (repeat (first | with_reducible exact Below.refl _ _ | with_reducible assumption | with_reducible refine bl_set (by first | exact Nat.le_refl _ | (simp; done) | (simp; omega) | omega) ?_ _ | with_reducible refine bl_alloc ?_ _ | with_reducible refine bl_drewN ?_ _ | with_reducible refine bl_drew ?_ | with_reducible refine bl_grow ?_ _ _ | with_reducible refine bl_call ?_ (by assumption)))⟩
      refine MOwn.le (base := w.heap.size + 2) ?_ (by omega)
      have hmo := HMO.out.le (show w.heap.size + 2 ≤ w2.heap.size by omega)
      exact MOwn.setO4 hmo (fun x hx e => by have := (hmo.1.lt _ x hx _ e).1; omega)
end Go.Proofs.YthhfnncehfkbfaaDoor
