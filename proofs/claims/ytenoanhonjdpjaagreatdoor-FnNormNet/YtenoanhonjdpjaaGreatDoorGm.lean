/- Y7a, Y7b: texts put together. -/
import Derived.Test.YtenoanhonjdpjaaGreatDoorY6a
/- Appends of nets, what grows told; nets that lie low. -/
namespace Go.Proofs.YtenoanhonjdpjaaGreatDoor
open Go.RowKit Go.Sort Go.BigFrame
theorem step_grow_nets {ops : Array Oper} {o : Oper} {a : Act} {w : World} {K : Act → World → Prop} {Q : Exit → Act → World → Prop} {E : Prop}
    (hg : o.guard = none) (s x : Operand) (hop : o.op = .call { callee := .builtin .append, args := #[s, x], argTypes := #[31, 31] })
    (base lo : Nat) (ra : Option Addr) (rc : Nat) (ms ks : List MNet) (ad : Option Addr) (c : Nat) (hs : a.eval s = .slice ra ms.length rc) (hx : a.eval x = .slice ad ks.length c)
    (hrow : MRow w base (.slice ra ms.length rc) ms) (hxs : 0 < ks.length → ∃ p, ad = some p ∧ ∀ j u, (mCells ks)[j]? = some u → w.cell? (p.add j) = some u)
    (hk : ∀ m ∈ ks, MOk w base m) (hp : (Value.slice ra ms.length rc :: (mVals ms ++ mVals ks)).Pairwise Aside) (hl : ms.length + ks.length ≤ 1000000) (hbase : base ≤ w.heap.size) (hlo : lo ≤ w.heap.size) (hvl : ∀ k, (Value.slice ra ms.length rc).ownBlock = some k → lo ≤ k)
    (hK : ∀ a' c' w', MRow w' base (.slice a' (ms.length + ks.length) c') (ms ++ ks) → Below lo w w' → (∀ k, (Value.slice a' (ms.length + ks.length) c').ownBlock = some k → lo ≤ k) → K (a.put o.dst (.slice a' (ms.length + ks.length) c')) w') :
    if Region.wanted o (yielded ops a.tmps) = true then Oper.wp Tryz.prog o a w K Q else E := by
  obtain ⟨i0, hi, hz0, hz1, hz2⟩ := info_parts info_Net
  by_cases hd : ks.length = 0
  · have hn : ks = [] := List.length_eq_zero_iff.1 hd
    subst hn
    have hw : Region.wanted o (yielded ops a.tmps) = true := by simp [Region.wanted, hg]
    rw [if_pos hw]
    have hcap : ms.length ≤ rc := by
      rcases hrow.1.2 with ⟨h0, h1⟩ | ⟨g, c', cur, h0, _, _, hnc, _⟩
      · rw [h1]; exact Nat.zero_le _
      · simp only [Value.slice.injEq] at h0
        rw [h0.2.2]; exact hnc
    have hk2 := hK ra rc w (by simpa using hrow) (Below.refl _ _) (by simpa using hvl)
    simp only [List.length_nil, Nat.add_zero] at hk2 hx
    unfold Oper.wp execOp
    cases ad
    · have e : Sem.run Tryz.prog (Builtin.append_ #[31, 31] o.type #[.slice ra ms.length rc, .slice none 0 c]) w = .ok (.slice ra ms.length rc) w := by cases ra <;> simp [Builtin.append_, go_sem, hcap]
      simp only [hop, resolve, invoke, builtin, Sem.run_bind, Sem.run_pure, Result.andThen_ok, List.map_toArray, List.map_cons, List.map_nil, hs, hx, e]
      exact hk2
    · rename_i t1
      have e : Sem.run Tryz.prog (Builtin.append_ #[31, 31] o.type #[.slice ra ms.length rc, .slice (some t1) 0 c]) w = .ok (.slice ra ms.length rc) w := by cases ra <;> simp [Builtin.append_, go_sem, hcap]
      simp only [hop, resolve, invoke, builtin, Sem.run_bind, Sem.run_pure, Result.andThen_ok, List.map_toArray, List.map_cons, List.map_nil, hs, hx, e]
      exact hk2
  · obtain ⟨p, rfl, hcs⟩ := hxs (by omega)
    refine step_append_at hg s x _ hop base 33 i0 _ 4 64 Tryz.underlying31 hi hz0 hz1 hz2 rfl (by decide) _ _ (mCells ms) hs hrow.1 _ _ _ (mCells ks) hx (mCells_len ks) hcs (mCells_one' hk) (by unfold maxLen; omega) (by omega) hbase ?_
    intro v' w' h1 h2 h3
    obtain ⟨a6, c6, hv6⟩ := slice_of_owns h1
    subst hv6
    refine hK a6 c6 w' (hrow.add hk hp h1 h2 h3) ((Below.refl _ _).grown h2 hlo hvl) (fun k hk2 => ?_)
    rcases h3 with e | e
    · exact hvl k (by rw [← e]; exact hk2)
    · rw [e] at hk2
      cases hk2
      exact hlo
theorem wpList_grow_nets {ops : Array Oper} {rest : List Oper} {o : Oper} {a : Act} {w : World} {Q : Exit → Act → World → Prop}
    (hg : o.guard = none) (s x : Operand) (hop : o.op = .call { callee := .builtin .append, args := #[s, x], argTypes := #[31, 31] })
    (base lo : Nat) (ra : Option Addr) (rc : Nat) (ms ks : List MNet) (ad : Option Addr) (c : Nat) (hs : a.eval s = .slice ra ms.length rc) (hx : a.eval x = .slice ad ks.length c)
    (hrow : MRow w base (.slice ra ms.length rc) ms) (hxs : 0 < ks.length → ∃ p, ad = some p ∧ ∀ j u, (mCells ks)[j]? = some u → w.cell? (p.add j) = some u)
    (hk : ∀ m ∈ ks, MOk w base m) (hp : (Value.slice ra ms.length rc :: (mVals ms ++ mVals ks)).Pairwise Aside) (hl : ms.length + ks.length ≤ 1000000) (hbase : base ≤ w.heap.size) (hlo : lo ≤ w.heap.size) (hvl : ∀ k, (Value.slice ra ms.length rc).ownBlock = some k → lo ≤ k)
    (h : ∀ a' c' w', MRow w' base (.slice a' (ms.length + ks.length) c') (ms ++ ks) → Below lo w w' → (∀ k, (Value.slice a' (ms.length + ks.length) c').ownBlock = some k → lo ≤ k) → wpList Tryz.prog ops Q rest (a.put o.dst (.slice a' (ms.length + ks.length) c')) w') :
    wpList Tryz.prog ops Q (o :: rest) a w := by
  refine wpList_plain hg fun K hK => ?_
  have hw : Region.wanted o (yielded #[] a.tmps) = true := by simp [Region.wanted, hg]
  have := step_grow_nets (ops := #[]) (K := K) (Q := Q) (E := True) hg s x hop base lo ra rc ms ks ad c hs hx hrow hxs hk hp hl hbase hlo hvl (fun a' c' w' h1 h2 h3 => hK _ _ (h a' c' w' h1 h2 h3))
  rwa [if_pos hw] at this
/-- What a net is opened to in a block of a kind. -/
def openOf (k : Int) (m : MNet) : List MNet := if m.kind = k then m.kids else [m]
theorem cells4e {W : World} {B : Nat} (hB : B = W.heap.size) {u0 u1 u2 u3 : Value} {t : TypeId} : ∀ j u, [u0, u1, u2, u3][j]? = some u → (W.alloc (.cells #[u0, u1, u2, u3] t)).cell? ((⟨B, 0, none⟩ : Addr).add j) = some u := by
  subst hB; exact cells4
set_option maxHeartbeats 2000000 in
set_option maxRecDepth 100000 in
theorem i_open1 (k : Int) (B base lo : Nat) (ra : Option Addr) (rc : Nat) (ms : List MNet) (mk mop : Int) (mds : List Stil.Dev) (s0 : Option Addr) (t0 : Nat) (s1 : Option Addr) (t1 : Nat) (mks : List MNet) (w : World)
    (hbx : w.cell? ⟨B, 0, none⟩ = some (.int .i64 k)) (hB : B < w.heap.size) (hrow : MRow w base (.slice ra ms.length rc) ms) (hm : MOwn w base ⟨mk, mop, mds, .slice s0 mds.length t0, .slice s1 mks.length t1, mks⟩)
    (hp : (Value.slice ra ms.length rc :: (mVals ms ++ (MNet.mk mk mop mds (.slice s0 mds.length t0) (.slice s1 mks.length t1) mks).vals)).Pairwise Aside) (hl : ms.length + mks.length + 1 ≤ 1000000) (hbase : base ≤ w.heap.size) (hlo : lo ≤ w.heap.size) (hvl : ∀ k, (Value.slice ra ms.length rc).ownBlock = some k → lo ≤ k) :
    Calls Tryz.prog 128 #[.slice ra ms.length rc, .agg #[.int .i64 mk, .int .i64 mop, .slice s0 mds.length t0, .slice s1 mks.length t1], .pointer (some ⟨B, 0, none⟩)] w fun e w' => ∃ (a : Option Addr) (c : Nat), e = .returned (.slice a (ms.length + (openOf k ⟨mk, mop, mds, .slice s0 mds.length t0, .slice s1 mks.length t1, mks⟩).length) c) ∧ MRow w' base (.slice a (ms.length + (openOf k ⟨mk, mop, mds, .slice s0 mds.length t0, .slice s1 mks.length t1, mks⟩).length) c) (ms ++ openOf k ⟨mk, mop, mds, .slice s0 mds.length t0, .slice s1 mks.length t1, mks⟩) ∧ Below lo w w' ∧ ∀ j, (Value.slice a (ms.length + (openOf k ⟨mk, mop, mds, .slice s0 mds.length t0, .slice s1 mks.length t1, mks⟩).length) c).ownBlock = some j → lo ≤ j := by
  by_cases hkk : mk = k
  · have HMR : Hid (∀ W, Below w.heap.size w W → MRow W base (.slice ra ms.length rc) ms) := fun W h => hrow.below h
    have HK : Hid (∀ W, Below w.heap.size w W → ∀ m ∈ mks, MOk W base m) := fun W h m hm2 => (hm.kids.1 m hm2).below h
    have HP : Hid ((Value.slice ra ms.length rc :: (mVals ms ++ mVals mks)).Pairwise Aside) := by
      refine List.Pairwise.sublist (List.Sublist.cons_cons _ (List.Sublist.append (List.Sublist.refl _) ?_)) hp
      rw [MNet.vals_eq]
      exact List.Sublist.cons _ (List.Sublist.cons _ (List.Sublist.refl _))
    have HXS : Hid (∀ W, Below w.heap.size w W → 0 < mks.length → ∃ p, s1 = some p ∧ ∀ j u, (mCells mks)[j]? = some u → W.cell? (p.add j) = some u) := by
      intro W hW hz
      have hr := ownsRow_below ((MOk_iff _ _ _).1 hm.1).2.1 hW
      simp only at hr
      obtain ⟨g, c, hv, _, _, _, hcell⟩ := ownsRow_cells hr hz
      simp only [Value.slice.injEq] at hv
      exact ⟨⟨g, 0, none⟩, hv.1, fun j u hu => by rw [Addr.add_lit]; simpa using hcell j u hu⟩
    have hl2 : ms.length + mks.length ≤ 1000000 := by omega
    have hO : openOf k ⟨mk, mop, mds, .slice s0 mds.length t0, .slice s1 mks.length t1, mks⟩ = mks := if_pos hkk
    rw [hO]
    clear hO
    have HVL : Hid (∀ k, (Value.slice ra ms.length rc).ownBlock = some k → lo ≤ k) := hvl
    clear hrow hm hp hl hvl
    rw [← hkk] at hbx
    go_enter Tryz.func128, Tryz.ntmps128
    go_wp2_with (at_builtin; refine wpList_grow_nets rfl _ _ rfl base lo ra rc ms mks s1 t1 rfl rfl (HMR.out _ (by (repeat with_reducible first | exact Below.refl _ _ | assumption | refine bl_set (by first | exact Nat.le_refl _ | (simp; done) | (simp; omega) | omega) ?_ _ | refine bl_alloc ?_ _ | refine bl_drewN ?_ _ | refine bl_drew ?_ | refine bl_grow ?_ _ _ | refine bl_call ?_ (by assumption)))) (HXS.out _ (by (repeat with_reducible first | exact Below.refl _ _ | assumption | refine bl_set (by first | exact Nat.le_refl _ | (simp; done) | (simp; omega) | omega) ?_ _ | refine bl_alloc ?_ _ | refine bl_drewN ?_ _ | refine bl_drew ?_ | refine bl_grow ?_ _ _ | refine bl_call ?_ (by assumption)))) (HK.out _ (by (repeat with_reducible first | exact Below.refl _ _ | assumption | refine bl_set (by first | exact Nat.le_refl _ | (simp; done) | (simp; omega) | omega) ?_ _ | refine bl_alloc ?_ _ | refine bl_drewN ?_ _ | refine bl_drew ?_ | refine bl_grow ?_ _ _ | refine bl_call ?_ (by assumption)))) HP.out hl2 (by simp; omega) (by simp; omega) HVL.out ?_; intro a6 c6 w6 hmr6 hb6 hv6; have HM6 : Hid (MRow w6 base (.slice a6 (ms.length + mks.length) c6) (ms ++ mks)) := hmr6; have HV6 : Hid (∀ k, (Value.slice a6 (ms.length + mks.length) c6).ownBlock = some k → lo ≤ k) := hv6; clear hmr6 hv6; have hb7 : Below lo w w6 := (show Below lo w _ from (show Below w.heap.size w _ by (repeat with_reducible first | exact Below.refl _ _ | assumption | refine bl_set (by first | exact Nat.le_refl _ | (simp; done) | (simp; omega) | omega) ?_ _ | refine bl_alloc ?_ _ | refine bl_drewN ?_ _ | refine bl_drew ?_ | refine bl_grow ?_ _ _ | refine bl_call ?_ (by assumption))).mono hlo).trans hb6)
    go_ret
    exact ⟨a6, c6, rfl, HM6.out, hb7, HV6.out⟩
  · have HMR : Hid (∀ W, Below w.heap.size w W → MRow W base (.slice ra ms.length rc) ms) := fun W h => hrow.below h
    have HK : Hid (∀ W, Below w.heap.size w W → ∀ m ∈ [(MNet.mk mk mop mds (.slice s0 mds.length t0) (.slice s1 mks.length t1) mks)], MOk W base m) := fun W h m hm2 => by rw [List.mem_singleton.1 hm2]; exact hm.1.below h
    have HP : Hid ((Value.slice ra ms.length rc :: (mVals ms ++ mVals [(MNet.mk mk mop mds (.slice s0 mds.length t0) (.slice s1 mks.length t1) mks)])).Pairwise Aside) := by show List.Pairwise _ _; rw [mVals_one]; exact hp
    have hl2 : ms.length + [(MNet.mk mk mop mds (.slice s0 mds.length t0) (.slice s1 mks.length t1) mks)].length ≤ 1000000 := by simp only [List.length_singleton]; omega
    have hO : openOf k ⟨mk, mop, mds, .slice s0 mds.length t0, .slice s1 mks.length t1, mks⟩ = [(MNet.mk mk mop mds (.slice s0 mds.length t0) (.slice s1 mks.length t1) mks)] := if_neg hkk
    rw [hO]
    clear hO
    have HVL : Hid (∀ k, (Value.slice ra ms.length rc).ownBlock = some k → lo ≤ k) := hvl
    have ekk : (mk == k) = false := by rw [beq_eq_false_iff_ne]; exact hkk
    clear hrow hm hp hl hvl
    go_enter Tryz.func128, Tryz.ntmps128
    go_wp2_with (at_builtin; refine wpList_grow_nets rfl _ _ rfl base lo ra rc ms [MNet.mk mk mop mds (.slice s0 mds.length t0) (.slice s1 mks.length t1) mks] _ 1 rfl rfl (HMR.out _ (by (repeat with_reducible first | exact Below.refl _ _ | assumption | refine bl_set (by first | exact Nat.le_refl _ | (simp; done) | (simp; omega) | omega) ?_ _ | refine bl_alloc ?_ _ | refine bl_drewN ?_ _ | refine bl_drew ?_ | refine bl_grow ?_ _ _ | refine bl_call ?_ (by assumption)))) (fun _ => ⟨_, rfl, by exact cells4e (by simp)⟩) (HK.out _ (by (repeat with_reducible first | exact Below.refl _ _ | assumption | refine bl_set (by first | exact Nat.le_refl _ | (simp; done) | (simp; omega) | omega) ?_ _ | refine bl_alloc ?_ _ | refine bl_drewN ?_ _ | refine bl_drew ?_ | refine bl_grow ?_ _ _ | refine bl_call ?_ (by assumption)))) HP.out hl2 (by simp; omega) (by simp; omega) HVL.out ?_; intro a6 c6 w6 hmr6 hb6 hv6; have HM6 : Hid (MRow w6 base (.slice a6 (ms.length + 1) c6) (ms ++ [MNet.mk mk mop mds (.slice s0 mds.length t0) (.slice s1 mks.length t1) mks])) := hmr6; have HV6 : Hid (∀ k, (Value.slice a6 (ms.length + 1) c6).ownBlock = some k → lo ≤ k) := hv6; clear hmr6 hv6; have hb7 : Below lo w w6 := (show Below lo w _ from (show Below w.heap.size w _ by (repeat with_reducible first | exact Below.refl _ _ | assumption | refine bl_set (by first | exact Nat.le_refl _ | (simp; done) | (simp; omega) | omega) ?_ _ | refine bl_alloc ?_ _ | refine bl_drewN ?_ _ | refine bl_drew ?_ | refine bl_grow ?_ _ _ | refine bl_call ?_ (by assumption))).mono hlo).trans hb6)
    go_ret
    exact ⟨a6, c6, rfl, HM6.out, hb7, HV6.out⟩
end Go.Proofs.YtenoanhonjdpjaaGreatDoor
