/- M15, L8: texts put together. -/
import Derived.Test.YtenoanhonjdpjaaGreatDoorGp
import Derived.Test.YtenoanhonjdpjaaGreatDoorGU
/- Plain facts on a rung of one net and one coil: what is asked of its normal form. -/
namespace Stil
/-- Within, no net of its own kind and at least two, but for contacts and turned ones. -/
def wn : Net → Bool
  | ⟨k, _, kids⟩ => kids.all (fun x => !(x.kind == k && k != 4)) && (kids.map wn).all id && (k == 1 || k == 4 || decide (1 < kids.length))
theorem wn_eq (n : Net) : wn n = (n.kids.all (fun x => !(x.kind == n.kind && n.kind != 4) && wn x) && (n.kind == 1 || n.kind == 4 || decide (1 < n.kids.length))) := by
  obtain ⟨k, e, kids⟩ := n
  rw [wn]
  congr 1
  rw [Bool.eq_iff_iff]
  simp only [Bool.and_eq_true, List.all_eq_true, List.mem_map, id_eq, forall_exists_index, and_imp, forall_apply_eq_imp_iff₂]
  constructor
  · rintro ⟨h1, h2⟩ x hx
    exact ⟨h1 x hx, h2 x hx⟩
  · intro h
    exact ⟨fun x hx => (h x hx).1, fun x hx => (h x hx).2⟩
theorem wn_fine (n : Net) : isNorm n → netWrong n = 0 → wn n = true := by
  refine net_ind (fun n => isNorm n → netWrong n = 0 → wn n = true) ?_ n
  intro k e kids ih hn hw
  have h1 := (isNorm_iff _).1 hn
  simp only at h1
  rw [wn_eq]
  simp only [Bool.and_eq_true, List.all_eq_true, Bool.or_eq_true, beq_iff_eq, decide_eq_true_eq, Bool.not_eq_true', Bool.and_eq_false_iff, beq_eq_false_iff_ne, ne_eq, bne_eq_false_iff_eq]
  rcases right_parts hw with ⟨hk, h2⟩ | ⟨hk, h2, h3⟩ | ⟨hk, _, x, h2, h3⟩
  · subst h2
    exact ⟨fun x hx => (by cases hx), .inl (.inl hk)⟩
  · obtain ⟨h4, h5⟩ := h1.1 hk
    exact ⟨fun x hx => ⟨.inl (h5 x hx), ih x hx (h1.2 x hx) (h3 x hx)⟩, .inr (by omega)⟩
  · subst h2
    refine ⟨fun y hy => ?_, .inl (.inr hk)⟩
    have e := List.mem_singleton.1 hy
    subst e
    exact ⟨.inr hk, ih y hy (h1.2 y hy) h3⟩
/-- The rung of a net and one coil. -/
def outY : Elem := ⟨21, [⟨2, 0, 0⟩]⟩
def rungOf (n : Net) : Arm := ⟨n, [outY], []⟩
theorem outY_coil : isCoil outY.op outY.args = true := by decide
theorem rung_size (n : Net) : treeSize [rungOf n] = 2 + nsz n := by
  have e : treeSize [rungOf n] = armSize (rungOf n) := by simp [treeSize]
  rw [e, rungOf, armSize_nsz]
  simp [ksize]
theorem rung_wrong (n : Net) : rungWrong (rungOf n) = if netNone n then 4 else netWrong n := by
  unfold rungWrong rungOf
  simp only
  split
  · rfl
  · rename_i h
    have hn : netNone n = false := by simpa using h
    have hb := netWrong_bound n
    rw [armWrong_eq]
    unfold armOwnWrong coilsBad
    have hc : ([outY].any fun c => !isCoil c.op c.args) = false := by rw [List.any_cons, outY_coil]; rfl
    simp only [hn, hc, List.map_nil, firstPos]
    by_cases h0 : 0 < netWrong n
    · simp [h0]
    · have : netWrong n = 0 := by omega
      simp [this]
theorem rung_check (n : Net) : (treeCheck [rungOf n]).1 = if 400 < 2 + nsz n then 1 else if netNone n then 4 else netWrong n := by
  have hb := netWrong_bound n
  unfold treeCheck
  rw [rung_size]
  simp only [List.length_cons, List.length_nil]
  by_cases h : 400 < 2 + nsz n
  · rw [if_pos (.inr h), if_pos h]
  · rw [if_neg (by omega), if_neg h, firstRung, rung_wrong]
    by_cases hn : netNone n = true
    · simp [hn]
    · have hn' : netNone n = false := by simpa using hn
      simp only [hn', Bool.false_eq_true, if_false]
      by_cases h0 : 0 < netWrong n
      · rw [if_pos h0]
      · rw [if_neg h0, firstRung]
        simp only
        omega
/-- A rung that is not accepted: too large by one or two, or there is no normal form. -/
theorem rung_refused {n : Net} (h : (treeCheck [rungOf n]).1 ≠ 0) : treeSize [rungOf n] = 401 ∨ treeSize [rungOf n] = 402 ∨ normTop n = none0 := by
  rw [rung_size]
  rw [rung_check] at h
  have hb := netWrong_bound n
  unfold normTop
  by_cases hn : netNone n = true
  · right; right
    have e := none_eq hn
    rw [e]
    have h2 : 0 < netWrong none0 := by unfold none0; rw [netWrong_eq]; decide
    rw [if_pos (.inr h2)]
    rfl
  · have hn' : netNone n = false := by simpa using hn
    have hs : nsz n = netSize n := if_neg hn
    rw [hs] at h ⊢
    by_cases h1 : 400 < netSize n ∨ 0 < netWrong n
    · right; right
      rw [if_pos h1]
      rfl
    · have h2 : netWrong n = 0 := by omega
      by_cases h3 : 400 < 2 + netSize n
      · omega
      · rw [if_neg h3, if_neg hn, h2] at h
        exact absurd rfl h
/-- A rung that is accepted: its normal form is that of its net, and is as asked. -/
theorem rung_taken {n : Net} (h : (treeCheck [rungOf n]).1 = 0) : normMake [rungOf n] = [rungOf (normTop n)] ∧ wn (normTop n) = true := by
  have h0 := h
  rw [rung_check] at h
  have hb := netWrong_bound n
  by_cases h1 : 400 < 2 + nsz n
  · rw [if_pos h1] at h; omega
  · rw [if_neg h1] at h
    by_cases hn : netNone n = true
    · rw [if_pos hn] at h; omega
    · rw [if_neg hn] at h
      have hs : nsz n = netSize n := if_neg hn
      have e : normTop n = normNet n := by unfold normTop; rw [if_neg (by omega)]
      rw [e]
      refine ⟨?_, wn_fine _ (norm_isNorm n) (norm_right n h)⟩
      unfold normMake
      rw [if_pos h0]
      simp only [List.map_cons, List.map_nil, rungOf]
      rw [normArm_of, List.map_nil, joined_stop _ (fun kid hk => by cases hk)]
      have e2 : netOf n = normNet n := if_neg hn
      rw [e2]
end Stil
/- The laws' helper that says whether a net is as a normal form is. -/
namespace Go.Proofs.YtenoanhonjdpjaaGreatDoor
open Go.RowKit Go.Sort Go.BigFrame
set_option maxHeartbeats 2000000 in
set_option maxRecDepth 100000 in
theorem l_wnNet (n : Stil.Net) : ∀ (av kv : Value) (w : World), DevsAt w av n.one.args → NetsAt w kv n.kids → Stil.netFits n →
    Calls Tryz.prog 28 #[.agg #[.int .i64 n.kind, .int .i64 n.one.op, av, kv]] w fun e w' => e = .returned (.bool (Stil.wn n)) ∧ Below w.heap.size w w' := by
  induction n using Stil.net_ind with
  | h k e kids ih =>
    intro av kv w hav hkv hft
    simp only at hav hkv
    obtain ⟨_, he, hf3, hf4⟩ := (Stil.netFits_eq _ _ _).1 hft
    obtain ⟨_, hal, hdf⟩ := he
    have IH : Hid (∀ x ∈ kids, ∀ (av kv : Value) (w : World), DevsAt w av x.one.args → NetsAt w kv x.kids →
      Calls Tryz.prog 28 #[.agg #[.int .i64 x.kind, .int .i64 x.one.op, av, kv]] w fun e w' => e = .returned (.bool (Stil.wn x)) ∧ Below w.heap.size w w') := fun x hx av kv w h1 h2 => ih x hx av kv w h1 h2 (hf4 x hx)
    clear ih hf4 hft
    obtain ⟨a, cap, rfl, hc⟩ := hkv
    have HC : Hid (∀ i (h : i < kids.length), ∃ b o, a = some ⟨b, o, none⟩ ∧ b < w.heap.size ∧ NetAt w b (o + i * 4) kids[i]) := hc
    obtain ⟨aa, acap, rfl, _⟩ := hav
    have HZ : Hid (Stil.wn ⟨k, e, kids⟩ = (kids.all (fun x => !(x.kind == k && k != 4) && Stil.wn x) && (k == 1 || k == 4 || decide (1 < kids.length)))) := Stil.wn_eq _
    clear hc hdf
    obtain ⟨lk, hlk⟩ : ∃ lk, lk = kids.length := ⟨_, rfl⟩
    have HLK : Hid (lk = kids.length) := hlk
    rw [← hlk] at hf3 HZ ⊢
    obtain ⟨T, hT⟩ : ∃ T, T = Stil.wn ⟨k, e, kids⟩ := ⟨_, rfl⟩
    rw [← hT] at HZ ⊢
    clear hlk hT
    go_enter Tryz.func28, Tryz.ntmps28
    go_wp2
    go_loopw [3] (fun i wr => ∃ j : Nat, j ≤ lk ∧ i = .int .i64 j ∧ (kids.take j).all (fun x => !(x.kind == k && k != 4) && Stil.wn x) = true ∧ Below (w.heap.size + 1) (w.alloc (.cells #[.int .i64 k, .int .i64 e.op, .slice aa e.args.length acap, .slice a lk cap] 33)) wr) (fun i _ => lk - (intOf i).toNat)
    case atStart => exact ⟨0, by omega, rfl, rfl, Below.refl _ _⟩
    case round =>
      obtain ⟨j, hj, rfl, hfp, hB⟩ := hrel
      have HP : Hid ((kids.take j).all (fun x => !(x.kind == k && k != 4) && Stil.wn x) = true) := hfp
      clear hfp
      have hz : w.heap.size < wr.heap.size := by have := hB.size; simp at this; omega
      have c0 : wr.cell? ⟨w.heap.size, 0, none⟩ = some (.int .i64 k) := by rw [hB.cell (p := ⟨w.heap.size, 0, none⟩) (by simp)]; simp [go_sem]
      have f0 : wr.frozen? ⟨w.heap.size, 0, none⟩ = false := by rw [hB.frozen (p := ⟨w.heap.size, 0, none⟩) (by simp)]; simp [go_sem]
      have c1 : wr.cell? ⟨w.heap.size, 1, none⟩ = some (.int .i64 e.op) := by rw [hB.cell (p := ⟨w.heap.size, 1, none⟩) (by simp)]; simp [go_sem]
      have f1 : wr.frozen? ⟨w.heap.size, 1, none⟩ = false := by rw [hB.frozen (p := ⟨w.heap.size, 1, none⟩) (by simp)]; simp [go_sem]
      have c2 : wr.cell? ⟨w.heap.size, 2, none⟩ = some (.slice aa e.args.length acap) := by rw [hB.cell (p := ⟨w.heap.size, 2, none⟩) (by simp)]; simp [go_sem]
      have f2 : wr.frozen? ⟨w.heap.size, 2, none⟩ = false := by rw [hB.frozen (p := ⟨w.heap.size, 2, none⟩) (by simp)]; simp [go_sem]
      have c3 : wr.cell? ⟨w.heap.size, 3, none⟩ = some (.slice a lk cap) := by rw [hB.cell (p := ⟨w.heap.size, 3, none⟩) (by simp)]; simp [go_sem]
      have f3 : wr.frozen? ⟨w.heap.size, 3, none⟩ = false := by rw [hB.frozen (p := ⟨w.heap.size, 3, none⟩) (by simp)]; simp [go_sem]
      have hbw : Below w.heap.size w wr := (below_alloc _ _).trans (hB.mono (by omega))
      by_cases hlt : j < lk
      · have hlt' : j < kids.length := by have := HLK.out; omega
        obtain ⟨b, o, rfl, hbl, hn⟩ := HC.out j hlt'
        obtain ⟨x0, x1, av, kv, x2, x3, hav, hkv⟩ := (NetAt.below hbw _ _ _ hn hbl).open
        have HI : Hid (∀ W, Below wr.heap.size wr W → Calls Tryz.prog 28 #[.agg #[.int .i64 kids[j].kind, .int .i64 kids[j].one.op, av, kv]] W fun e w' => e = .returned (.bool (Stil.wn kids[j])) ∧ Below W.heap.size W w') := fun W hW => IH.out kids[j] (List.getElem_mem hlt') av kv W (hav.below hW) (hkv.below hW)
        have HS : Hid ((kids.take (j + 1)).all (fun x => !(x.kind == k && k != 4) && Stil.wn x) = ((kids.take j).all (fun x => !(x.kind == k && k != 4) && Stil.wn x) && (!(kids[j].kind == k && k != 4) && Stil.wn kids[j]))) := by
          show _ = _
          rw [List.take_succ_eq_append_getElem hlt', List.all_append]
          simp
        have HN : Hid ((!(kids[j].kind == k && k != 4) && Stil.wn kids[j]) = false → T = false) := by
          intro h
          rw [HZ.out]
          have : (kids.all fun x => !(x.kind == k && k != 4) && Stil.wn x) = false := by
            rw [List.all_eq_false]
            exact ⟨_, List.getElem_mem hlt', by rw [h]; exact Bool.false_ne_true⟩
          rw [this]; rfl
        obtain ⟨s, hs⟩ : ∃ s, s = Stil.wn kids[j] := ⟨_, rfl⟩
        obtain ⟨x, hx⟩ : ∃ x, x = kids[j] := ⟨_, rfl⟩
        rw [← hs] at HI HS HN
        rw [← hx] at HI x0 x1 HS HN
        obtain ⟨aa', acap', rfl, _⟩ := hav
        obtain ⟨a', cap', rfl, _⟩ := hkv
        clear hs hx hn
        have fin : (!(x.kind == k && k != 4) && s) = true → (∃ j' : Nat, j' = j + 1 ∧ (kids.take (j + 1)).all (fun x => !(x.kind == k && k != 4) && Stil.wn x) = true) := fun h => ⟨_, rfl, by rw [HS.out, h, HP.out]; rfl⟩
        have HF : Hid ((!(x.kind == k && k != 4) && s) = true → (kids.take (j + 1)).all (fun x => !(x.kind == k && k != 4) && Stil.wn x) = true) := fun h => by rw [HS.out, h, HP.out]; rfl
        clear fin HS
        cases t1 : (x.kind == k)
        · cases s
          · go_upto_region 4 with fail
            have k0 := cell_regrown x0
            have k1 := cell_regrown x1
            have k2 := cell_regrown x2
            have k3 := cell_regrown x3
            have r0 := cell_regrown c0
            have r3 := cell_regrown c3
            clear x0 x1 x2 x3 c0 c1 c2 c3 f0 f1 f2 f3
            refine wp_region_quiet_below (by kernel_rfl) (by kernel_rfl) ?_
            repeat (go_big_quiet_step ((exact Calls.regrown_of (HI.out _ (bl_grow (Below.refl _ _) _ _)))))
            refine wpQuiet_nil ?_
            intro _ hw'
            obtain ⟨⟨dq, osq⟩, hw''⟩ := hw'
            subst hw''
            go_wp2
            go_ret
            exact ⟨ret_bool (by rw [HN.out (by rw [t1]; rfl)]), bl_grow hbw _ _⟩
          · go_upto_region 4 with fail
            have k0 := cell_regrown x0
            have k1 := cell_regrown x1
            have k2 := cell_regrown x2
            have k3 := cell_regrown x3
            have r0 := cell_regrown c0
            have r3 := cell_regrown c3
            clear x0 x1 x2 x3 c0 c1 c2 c3 f0 f1 f2 f3
            refine wp_region_quiet_below (by kernel_rfl) (by kernel_rfl) ?_
            repeat (go_big_quiet_step ((exact Calls.regrown_of (HI.out _ (bl_grow (Below.refl _ _) _ _)))))
            refine wpQuiet_nil ?_
            intro _ hw'
            obtain ⟨⟨dq, osq⟩, hw''⟩ := hw'
            subst hw''
            go_wp2
            exact ⟨⟨j + 1, by omega, by go_num, HF.out (by rw [t1]; rfl), hB.trans ((below_regrown _ _ _).mono hz)⟩, by simp [intOf]; omega⟩
        · cases t2 : (k != 4)
          · cases s
            · go_upto_region 4 with fail
              have k0 := cell_regrown x0
              have k1 := cell_regrown x1
              have k2 := cell_regrown x2
              have k3 := cell_regrown x3
              have r0 := cell_regrown c0
              have r3 := cell_regrown c3
              clear x0 x1 x2 x3 c0 c1 c2 c3 f0 f1 f2 f3
              refine wp_region_quiet_below (by kernel_rfl) (by kernel_rfl) ?_
              repeat (go_big_quiet_step ((exact Calls.regrown_of (HI.out _ (bl_grow (Below.refl _ _) _ _)))))
              refine wpQuiet_nil ?_
              intro _ hw'
              obtain ⟨⟨dq, osq⟩, hw''⟩ := hw'
              subst hw''
              go_wp2
              go_ret
              exact ⟨ret_bool (by rw [HN.out (by rw [t1, t2]; rfl)]), bl_grow hbw _ _⟩
            · go_upto_region 4 with fail
              have k0 := cell_regrown x0
              have k1 := cell_regrown x1
              have k2 := cell_regrown x2
              have k3 := cell_regrown x3
              have r0 := cell_regrown c0
              have r3 := cell_regrown c3
              clear x0 x1 x2 x3 c0 c1 c2 c3 f0 f1 f2 f3
              refine wp_region_quiet_below (by kernel_rfl) (by kernel_rfl) ?_
              repeat (go_big_quiet_step ((exact Calls.regrown_of (HI.out _ (bl_grow (Below.refl _ _) _ _)))))
              refine wpQuiet_nil ?_
              intro _ hw'
              obtain ⟨⟨dq, osq⟩, hw''⟩ := hw'
              subst hw''
              go_wp2
              exact ⟨⟨j + 1, by omega, by go_num, by (have hf := HF.out (by rw [t1, t2]; rfl); rw [t2] at hf; exact hf), hB.trans ((below_regrown _ _ _).mono hz)⟩, by simp [intOf]; omega⟩
          · go_upto_region 4 with fail
            have k0 := cell_regrown x0
            have r0 := cell_regrown c0
            have r3 := cell_regrown c3
            clear x0 x1 x2 x3 c0 c1 c2 c3 f0 f1 f2 f3
            refine wp_region_quiet_below (by kernel_rfl) (by kernel_rfl) ?_
            repeat (go_big_quiet_step ((exact Calls.regrown_of (HI.out _ (bl_grow (Below.refl _ _) _ _)))))
            refine wpQuiet_nil ?_
            intro _ hw'
            obtain ⟨⟨dq, osq⟩, hw''⟩ := hw'
            subst hw''
            go_wp2
            go_ret
            exact ⟨ret_bool (by rw [HN.out (by rw [t1, t2]; rfl)]), bl_grow hbw _ _⟩
      · have HE : Hid (T = (k == 1 || k == 4 || decide (1 < lk))) := by
          show _ = _
          have h := HP.out
          rw [List.take_of_length_le (by have := HLK.out; omega)] at h
          rw [HZ.out, h]; rfl
        cases t1 : (k == 1)
        · cases t2 : (k == 4)
          · have hz : decide (1 < (lk : Int)) = decide (1 < lk) := by rw [decide_eq_decide]; omega
            go_wp2
            go_ret
            exact ⟨ret_bool (by rw [HE.out, t1, t2, ← hz]; rfl), by (repeat first | exact Below.refl _ _ | assumption | refine bl_alloc ?_ _ | refine bl_drewN ?_ _ | refine bl_drew ?_ | refine bl_grow ?_ _ _ | refine bl_set (Nat.le_refl _) ?_ _ | refine bl_call ?_ (by assumption))⟩
          · go_wp2
            go_ret
            exact ⟨ret_bool (by rw [HE.out, t1, t2]; rfl), by (repeat first | exact Below.refl _ _ | assumption | refine bl_alloc ?_ _ | refine bl_drewN ?_ _ | refine bl_drew ?_ | refine bl_grow ?_ _ _ | refine bl_set (Nat.le_refl _) ?_ _ | refine bl_call ?_ (by assumption))⟩
        · go_wp2
          go_ret
          exact ⟨ret_bool (by rw [HE.out, t1]; rfl), by (repeat first | exact Below.refl _ _ | assumption | refine bl_alloc ?_ _ | refine bl_drewN ?_ _ | refine bl_drew ?_ | refine bl_grow ?_ _ _ | refine bl_set (Nat.le_refl _) ?_ _ | refine bl_call ?_ (by assumption))⟩
end Go.Proofs.YtenoanhonjdpjaaGreatDoor
