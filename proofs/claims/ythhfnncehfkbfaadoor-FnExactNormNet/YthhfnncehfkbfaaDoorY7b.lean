/- The program's chapter 4: kids that are opened into a block. -/
import Derived.Test.YthhfnncehfkbfaaDoorY7a
namespace Go.Proofs.YthhfnncehfkbfaaDoor
open Go.RowKit Go.Sort Go.BigFrame
/-- What a net is opened to in a block of a kind. -/
def openOf (k : Int) (m : MNet) : List MNet := if m.kind = k then m.kids else [m]
theorem cells4e {W : World} {B : Nat} (hB : B = W.heap.size) {u0 u1 u2 u3 : Value} {t : TypeId} : ∀ j u, [u0, u1, u2, u3][j]? = some u → (W.alloc (.cells #[u0, u1, u2, u3] t)).cell? ((⟨B, 0, none⟩ : Addr).add j) = some u := by
  subst hB; exact cells4
set_option maxHeartbeats 2000000 in
set_option maxRecDepth 100000 in
theorem i_open1 (k : Int) (B base lo : Nat) (ra : Option Addr) (rc : Nat) (ms : List MNet) (mk mop : Int) (mds : List Stil.Dev) (s0 : Option Addr) (t0 : Nat) (s1 : Option Addr) (t1 : Nat) (mks : List MNet) (w : World)
    (hbx : w.cell? ⟨B, 0, none⟩ = some (.int .i64 k)) (hB : B < w.heap.size) (hrow : MRow w base (.slice ra ms.length rc) ms) (hm : MOwn w base ⟨mk, mop, mds, .slice s0 mds.length t0, .slice s1 mks.length t1, mks⟩)
    (hp : (Value.slice ra ms.length rc :: (mVals ms ++ (MNet.mk mk mop mds (.slice s0 mds.length t0) (.slice s1 mks.length t1) mks).vals)).Pairwise Aside) (hl : ms.length + mks.length + 1 ≤ 1000000) (hbase : base ≤ w.heap.size) (hlo : lo ≤ w.heap.size) (hvl : ∀ k, (Value.slice ra ms.length rc).ownBlock = some k → lo ≤ k) :
    Calls Tryd.prog 53 #[.slice ra ms.length rc, .agg #[.int .i64 mk, .int .i64 mop, .slice s0 mds.length t0, .slice s1 mks.length t1], .pointer (some ⟨B, 0, none⟩)] w fun e w' => ∃ (a : Option Addr) (c : Nat), e = .returned (.slice a (ms.length + (openOf k ⟨mk, mop, mds, .slice s0 mds.length t0, .slice s1 mks.length t1, mks⟩).length) c) ∧ MRow w' base (.slice a (ms.length + (openOf k ⟨mk, mop, mds, .slice s0 mds.length t0, .slice s1 mks.length t1, mks⟩).length) c) (ms ++ openOf k ⟨mk, mop, mds, .slice s0 mds.length t0, .slice s1 mks.length t1, mks⟩) ∧ Below lo w w' ∧ ∀ j, (Value.slice a (ms.length + (openOf k ⟨mk, mop, mds, .slice s0 mds.length t0, .slice s1 mks.length t1, mks⟩).length) c).ownBlock = some j → lo ≤ j := by
  by_cases hkk : mk = k
  · have HMR : Hid (∀ W, Below w.heap.size w W → MRow W base (.slice ra ms.length rc) ms) := fun W h => hrow.below h
    have HK : Hid (∀ W, Below w.heap.size w W → ∀ m ∈ mks, MOk W base m) := fun W h m hm2 => (hm.kids.1 m hm2).below h
    have HP : Hid ((Value.slice ra ms.length rc :: (mVals ms ++ mVals mks)).Pairwise Aside) := by
      refine List.Pairwise.sublist (List.Sublist.cons_cons _ (List.Sublist.append (List.Sublist.refl _) ?_)) hp
      rw [MNet.vals_eq]
      exact List.Sublist.cons _ (List.Sublist.cons _ (List.Sublist.refl _))
    have HXS : Hid (∀ W, Below w.heap.size w W → 0 < mks.length → ∃ p, s1 = some p ∧ ∀ j u, (mCells mks)[j]? = some u → W.cell? (p.add j) = some u) := by
      intro W hW hz
      have hr := ownsRow_below ((MOk_iff _ _ _).1 hm.1).2.1 hW
      simp only at hr
      obtain ⟨g, c, hv, _, _, _, hcell⟩ := ownsRow_cells hr hz
      simp only [Value.slice.injEq] at hv
      exact ⟨⟨g, 0, none⟩, hv.1, fun j u hu => by rw [Addr.add_lit]; simpa using hcell j u hu⟩
    have hl2 : ms.length + mks.length ≤ 1000000 := by omega
    have hO : openOf k ⟨mk, mop, mds, .slice s0 mds.length t0, .slice s1 mks.length t1, mks⟩ = mks := if_pos hkk
    rw [hO]
    clear hO
    have HVL : Hid (∀ k, (Value.slice ra ms.length rc).ownBlock = some k → lo ≤ k) := hvl
    clear hrow hm hp hl hvl
    rw [← hkk] at hbx
    go_enter Tryd.func53, Tryd.ntmps53
    go_wp2_with (at_builtin; refine wpList_grow_nets rfl _ _ rfl base lo ra rc ms mks s1 t1 rfl rfl (HMR.out _ (by (repeat (first | with_reducible exact Below.refl _ _ | with_reducible assumption | with_reducible refine bl_set (by first | exact Nat.le_refl _ | (simp; done) | (simp; omega) | omega) ?_ _ | with_reducible refine bl_alloc ?_ _ | with_reducible refine bl_drewN ?_ _ | with_reducible refine bl_drew ?_ | with_reducible refine bl_grow ?_ _ _ | with_reducible refine bl_call ?_ (by assumption))))) (HXS.out _ (by (repeat (first | with_reducible exact Below.refl _ _ | with_reducible assumption | with_reducible refine bl_set (by first | exact Nat.le_refl _ | (simp; done) | (simp; omega) | omega) ?_ _ | with_reducible refine bl_alloc ?_ _ | with_reducible refine bl_drewN ?_ _ | with_reducible refine bl_drew ?_ | with_reducible refine bl_grow ?_ _ _ | with_reducible refine bl_call ?_ (by assumption))))) (HK.out _ (by (repeat (first | with_reducible exact Below.refl _ _ | with_reducible assumption | with_reducible refine bl_set (by first | exact Nat.le_refl _ | (simp; done) | (simp; omega) | omega) ?_ _ | with_reducible refine bl_alloc ?_ _ | with_reducible refine bl_drewN ?_ _ | with_reducible refine bl_drew ?_ | with_reducible refine bl_grow ?_ _ _ | with_reducible refine bl_call ?_ (by assumption))))) HP.out hl2 (by simp; omega) (by simp; omega) HVL.out ?_; intro a6 c6 w6 hmr6 hb6 hv6; have HM6 : Hid (MRow w6 base (.slice a6 (ms.length + mks.length) c6) (ms ++ mks)) := hmr6; have HV6 : Hid (∀ k, (Value.slice a6 (ms.length + mks.length) c6).ownBlock = some k → lo ≤ k) := hv6; clear hmr6 hv6; have hb7 : Below lo w w6 := (show Below lo w _ from (show Below w.heap.size w _ by (repeat (first | with_reducible exact Below.refl _ _ | with_reducible assumption | with_reducible refine bl_set (by first | exact Nat.le_refl _ | (simp; done) | (simp; omega) | omega) ?_ _ | with_reducible refine bl_alloc ?_ _ | with_reducible refine bl_drewN ?_ _ | with_reducible refine bl_drew ?_ | with_reducible refine bl_grow ?_ _ _ | with_reducible refine bl_call ?_ (by assumption)))).mono hlo).trans hb6)
    go_ret
    exact ⟨a6, c6, rfl, HM6.out, hb7, HV6.out⟩
  · have HMR : Hid (∀ W, Below w.heap.size w W → MRow W base (.slice ra ms.length rc) ms) := fun W h => hrow.below h
    have HK : Hid (∀ W, Below w.heap.size w W → ∀ m ∈ [(MNet.mk mk mop mds (.slice s0 mds.length t0) (.slice s1 mks.length t1) mks)], MOk W base m) := fun W h m hm2 => by rw [List.mem_singleton.1 hm2]; exact hm.1.below h
    have HP : Hid ((Value.slice ra ms.length rc :: (mVals ms ++ mVals [(MNet.mk mk mop mds (.slice s0 mds.length t0) (.slice s1 mks.length t1) mks)])).Pairwise Aside) := by show List.Pairwise _ _; rw [mVals_one]; exact hp
    have hl2 : ms.length + [(MNet.mk mk mop mds (.slice s0 mds.length t0) (.slice s1 mks.length t1) mks)].length ≤ 1000000 := by simp only [List.length_singleton]; omega
    have hO : openOf k ⟨mk, mop, mds, .slice s0 mds.length t0, .slice s1 mks.length t1, mks⟩ = [(MNet.mk mk mop mds (.slice s0 mds.length t0) (.slice s1 mks.length t1) mks)] := if_neg hkk
    rw [hO]
    clear hO
    have HVL : Hid (∀ k, (Value.slice ra ms.length rc).ownBlock = some k → lo ≤ k) := hvl
    have ekk : (mk == k) = false := by rw [beq_eq_false_iff_ne]; exact hkk
    clear hrow hm hp hl hvl
    go_enter Tryd.func53, Tryd.ntmps53
    go_wp2_with (at_builtin; refine wpList_grow_nets rfl _ _ rfl base lo ra rc ms [MNet.mk mk mop mds (.slice s0 mds.length t0) (.slice s1 mks.length t1) mks] _ 1 rfl rfl (HMR.out _ (by (repeat (first | with_reducible exact Below.refl _ _ | with_reducible assumption | with_reducible refine bl_set (by first | exact Nat.le_refl _ | (simp; done) | (simp; omega) | omega) ?_ _ | with_reducible refine bl_alloc ?_ _ | with_reducible refine bl_drewN ?_ _ | with_reducible refine bl_drew ?_ | with_reducible refine bl_grow ?_ _ _ | with_reducible refine bl_call ?_ (by assumption))))) (fun _ => ⟨_, rfl, by exact cells4e (by simp)⟩) (HK.out _ (by (repeat (first | with_reducible exact Below.refl _ _ | with_reducible assumption | with_reducible refine bl_set (by first | exact Nat.le_refl _ | (simp; done) | (simp; omega) | omega) ?_ _ | with_reducible refine bl_alloc ?_ _ | with_reducible refine bl_drewN ?_ _ | with_reducible refine bl_drew ?_ | with_reducible refine bl_grow ?_ _ _ | with_reducible refine bl_call ?_ (by assumption))))) HP.out hl2 (by simp; omega) (by simp; omega) HVL.out ?_; intro a6 c6 w6 hmr6 hb6 hv6; have HM6 : Hid (MRow w6 base (.slice a6 (ms.length + 1) c6) (ms ++ [MNet.mk mk mop mds (.slice s0 mds.length t0) (.slice s1 mks.length t1) mks])) := hmr6; have HV6 : Hid (∀ k, (Value.slice a6 (ms.length + 1) c6).ownBlock = some k → lo ≤ k) := hv6; clear hmr6 hv6; have hb7 : Below lo w w6 := (show Below lo w _ from (show Below w.heap.size w _ by (repeat (first | with_reducible exact Below.refl _ _ | with_reducible assumption | with_reducible refine bl_set (by first | exact Nat.le_refl _ | (simp; done) | (simp; omega) | omega) ?_ _ | with_reducible refine bl_alloc ?_ _ | with_reducible refine bl_drewN ?_ _ | with_reducible refine bl_drew ?_ | with_reducible refine bl_grow ?_ _ _ | with_reducible refine bl_call ?_ (by assumption)))).mono hlo).trans hb6)
    go_ret
    exact ⟨a6, c6, rfl, HM6.out, hb7, HV6.out⟩
end Go.Proofs.YthhfnncehfkbfaaDoor
