/- The specification's chapter 4: the normal form of nets. -/
import Derived.Test.YthhfnncehfkbfaaDoorY6a
namespace Go.Proofs.YthhfnncehfkbfaaDoor
open Go.RowKit Go.Sort Go.BigFrame
set_option maxHeartbeats 2000000 in
set_option maxRecDepth 100000 in
theorem s_flat (k : Int) (kids : List Stil.Net) (ih : ∀ x ∈ kids, ∀ (av kv : Value) (w : World), DevsAt w av x.one.args → NetsAt w kv x.kids → Calls Tryd.prog 15 #[.agg #[.int .i64 x.kind, .int .i64 x.one.op, av, kv]] w fun e w' => NetRet w' w.heap.size (Stil.normNet x) e ∧ Below w.heap.size w w')
    (v : Value) (w : World) (hat : NetsAt w v kids) (hl : kids.length ≤ 1048576) (hs : Stil.sizes (kids.map Stil.normNet) ≤ 1000000) :
    Calls Tryd.prog 29 #[.int .i64 k, v] w fun e w' => NetRet w' w.heap.size (Stil.blockOf k (Stil.flatKids k (kids.map Stil.normNet))) e ∧ Below w.heap.size w w' := by
  obtain ⟨i0, hi, hz0, hz1, hz2⟩ := info_parts info_Net
  obtain ⟨a, cap, rfl, hc⟩ := hat
  have HA : Hid (∀ i (h : i < kids.length), ∃ b o, a = some ⟨b, o, none⟩ ∧ b < w.heap.size ∧ NetAt w b (o + i * 4) kids[i]) := hc
  have IH : Hid (∀ x ∈ kids, ∀ (av kv : Value) (w : World), DevsAt w av x.one.args → NetsAt w kv x.kids → Calls Tryd.prog 15 #[.agg #[.int .i64 x.kind, .int .i64 x.one.op, av, kv]] w fun e w' => NetRet w' w.heap.size (Stil.normNet x) e ∧ Below w.heap.size w w') := ih
  have HS : Hid (Stil.sizes (kids.map Stil.normNet) ≤ 1000000) := hs
  clear hc ih hs
  go_enter Tryd.func29, Tryd.ntmps29
  go_wp2
  go_loopw [6] (fun i wr => ∃ (j : Nat) (ms : List MNet) (ra : Option Addr) (rc : Nat), j ≤ kids.length ∧ i = .int .i64 j ∧ B4 wr w.heap.size (.int .i64 0) (.int .i64 0) (.slice none 0 0) (.slice none 0 0) ∧ B4 wr (w.heap.size + 1) (.int .i64 k) (.int .i64 0) (.slice none 0 0) (.slice ra ms.length rc) ∧
      MRow wr (w.heap.size + 2) (.slice ra ms.length rc) ms ∧ ms.map MNet.net = Stil.flatKids k ((kids.take j).map Stil.normNet) ∧ Below w.heap.size w wr) (fun i _ => kids.length - (intOf i).toNat)
  case atStart =>
    refine ⟨0, [], none, 0, by omega, rfl, ?_, ?_, MRow.nil _ _, rfl, by (repeat (first | with_reducible exact Below.refl _ _ | with_reducible assumption | with_reducible refine bl_set (by first | exact Nat.le_refl _ | (simp; done) | (simp; omega) | omega) ?_ _ | with_reducible refine bl_alloc ?_ _ | with_reducible refine bl_drewN ?_ _ | with_reducible refine bl_drew ?_ | with_reducible refine bl_grow ?_ _ _ | with_reducible refine bl_call ?_ (by assumption)))⟩
    · refine ⟨by simp; omega, ⟨by simp [go_sem], by simp [go_sem], by simp [go_sem], by simp [go_sem]⟩, by simp [go_sem], by simp [go_sem], by simp [go_sem], by simp [go_sem]⟩
    · refine ⟨by simp, ⟨by simp [go_sem], by simp [go_sem], by simp [go_sem], by simp [go_sem]⟩, by simp [go_sem], by simp [go_sem], by simp [go_sem], by simp [go_sem]⟩
  case round =>
    obtain ⟨j, ms, ra, rc, hj, rfl, hbn, hbo, hmr, hmn0, hB⟩ := hrel
    have HBN : Hid (B4 wr w.heap.size (.int .i64 0) (.int .i64 0) (.slice none 0 0) (.slice none 0 0)) := hbn
    have HBO : Hid (B4 wr (w.heap.size + 1) (.int .i64 k) (.int .i64 0) (.slice none 0 0) (.slice ra ms.length rc)) := hbo
    have HMR : Hid (MRow wr (w.heap.size + 2) (.slice ra ms.length rc) ms) := hmr
    have HMN0 : Hid (ms.map MNet.net = Stil.flatKids k ((kids.take j).map Stil.normNet)) := hmn0
    clear hbn hbo hmr hmn0
    by_cases hlt : j < kids.length
    · obtain ⟨b, o, rfl, hbl, hn⟩ := HA.out j hlt
      obtain ⟨x0, x1, av, kv, x2, x3, hav, hkv⟩ := (NetAt.below hB _ _ _ hn hbl).open
      have HI : Hid (∀ W, Below wr.heap.size wr W → Calls Tryd.prog 15 #[.agg #[.int .i64 kids[j].kind, .int .i64 kids[j].one.op, av, kv]] W fun e w' => NetRet w' W.heap.size (Stil.normNet kids[j]) e ∧ Below W.heap.size W w') := fun W hW => IH.out kids[j] (List.getElem_mem hlt) av kv W (hav.below hW) (hkv.below hW)
      obtain ⟨x, hx⟩ : ∃ x, x = kids[j] := ⟨_, rfl⟩
      rw [← hx] at HI x0 x1 hav hkv
      have HX : Hid (x = kids[j]) := hx
      obtain ⟨p0, r0, rfl, _⟩ := hav
      obtain ⟨p1, r1, rfl, _⟩ := hkv
      clear hx hn
      go_upto_region 6 with (go_at_call 15; refine (HI.out _ (by (repeat (first | exact Below.refl _ _ | assumption | refine bl_alloc ?_ _ | refine bl_drewN ?_ _ | refine bl_drew ?_ | refine bl_grow ?_ _ _ | refine bl_set (Nat.le_refl _) ?_ _ | refine bl_call ?_ (by assumption))))).mono ?_; rintro e w2 ⟨⟨mk, mop, mds, s0, t0, s1, t1, mks, rfl, hmo, hmn⟩, hb2⟩; have HMO : Hid (MOwn w2 _ ⟨mk, mop, mds, .slice s0 mds.length t0, .slice s1 mks.length t1, mks⟩) := hmo; have HMN : Hid ((MNet.mk mk mop mds (.slice s0 mds.length t0) (.slice s1 mks.length t1) mks).net = Stil.normNet x) := hmn; clear hmo hmn)
      obtain ⟨W, hW⟩ : ∃ W, W = w2.alloc (.cells #[.int .i64 mk, .int .i64 mop, .slice s0 mds.length t0, .slice s1 mks.length t1] 34) := ⟨_, rfl⟩
      rw [← hW]
      have hsW : W.heap.size = w2.heap.size + 1 := by rw [hW]; simp
      have hb2W : Below w2.heap.size w2 W := by rw [hW]; exact below_alloc _ _
      have n0 : W.cell? ⟨w2.heap.size, 0, none⟩ = some (.int .i64 mk) := by rw [hW]; simp [go_sem]
      have n1 : W.cell? ⟨w2.heap.size, 1, none⟩ = some (.int .i64 mop) := by rw [hW]; simp [go_sem]
      have n2 : W.cell? ⟨w2.heap.size, 2, none⟩ = some (.slice s0 mds.length t0) := by rw [hW]; simp [go_sem]
      have n3 : W.cell? ⟨w2.heap.size, 3, none⟩ = some (.slice s1 mks.length t1) := by rw [hW]; simp [go_sem]
      have hbW : Below wr.heap.size wr W := hb2.trans (hb2W.mono hb2.size)
      have hBW : Below w.heap.size w W := hB.trans (hbW.mono hB.size)
      have hbo := HBO.out.below hbW HBO.out.1
      have hwW : w.heap.size + 2 ≤ W.heap.size := by have := hbo.1; omega
      have HBOW : Hid (B4 W (w.heap.size + 1) (.int .i64 k) (.int .i64 0) (.slice none 0 0) (.slice ra ms.length rc)) := hbo
      have HBNW : Hid (B4 W w.heap.size (.int .i64 0) (.int .i64 0) (.slice none 0 0) (.slice none 0 0)) := HBN.out.below hbW HBN.out.1
      have HMRW : Hid (MRow W (w.heap.size + 2) (.slice ra ms.length rc) ms) := HMR.out.below hbW
      have HMOW : Hid (MOwn W (w.heap.size + 2) ⟨mk, mop, mds, .slice s0 mds.length t0, .slice s1 mks.length t1, mks⟩) := ((HMO.out.below hb2W).le (by have := HBO.out.1; omega))
      have hap : ∀ ks : List MNet, (∀ m ∈ ks, MOk w2 wr.heap.size m) → (mVals ks).Pairwise Aside → (Value.slice ra ms.length rc :: (mVals ms ++ mVals ks)).Pairwise Aside := fun ks h1 h2 => HMR.out.apart h1 (Nat.le_refl _) h2
      have hsn := Stil.flat_snoc k kids j hlt
      rw [← HX.out, ← HMN.out, ← HMN0.out, MNet.net_eq] at hsn
      simp only at hsn
      have hft := Stil.flat_take k kids (j + 1)
      rw [hsn] at hft
      have hS := HS.out
      obtain ⟨_, ⟨o0, o1, o2, o3⟩, g0, g1, g2, g3⟩ := hbo
      by_cases hkk : mk = k
      · rw [if_pos hkk] at hsn hft
        have hl2 : ms.length + mks.length ≤ 1000000 := by
          simp only [List.length_append, List.length_map] at hft
          omega
        have hsn2 : (ms ++ mks).map MNet.net = Stil.flatKids k ((kids.take (j + 1)).map Stil.normNet) := by rw [hsn, List.map_append]
        have hpw := hap mks HMO.out.kids.1 HMO.out.kids.2
        have HP : Hid ((Value.slice ra ms.length rc :: (mVals ms ++ mVals mks)).Pairwise Aside) := hpw
        have HK : Hid (∀ m ∈ mks, MOk W (w.heap.size + 2) m) := HMOW.out.kids.1
        have HSN : Hid ((ms ++ mks).map MNet.net = Stil.flatKids k ((kids.take (j + 1)).map Stil.normNet)) := hsn2
        have HXS : Hid (0 < mks.length → ∃ p, s1 = some p ∧ ∀ j u, (mCells mks)[j]? = some u → W.cell? (p.add j) = some u) := by
          intro hz
          have hr := ((MOk_iff _ _ _).1 HMOW.out.1).2.1
          simp only at hr
          obtain ⟨g, c, hv, _, _, _, hcell⟩ := ownsRow_cells hr hz
          simp only [Value.slice.injEq] at hv
          exact ⟨⟨g, 0, none⟩, hv.1, fun j u hu => by rw [Addr.add_lit]; simpa using hcell j u hu⟩
        clear hW hft hsn hsn2 hpw hap hS hb2W HMO HMN HI HMR HBO HBN HMOW hsW hb2
        rw [hkk] at n0
        go_wp2_with (at_builtin; refine wpList_append_nets rfl _ _ rfl (w.heap.size + 2) ra rc ms mks s1 t1 rfl rfl HMRW.out HXS.out HK.out HP.out hl2 hwW ?_; intro a6 c6 w6 hmr6 hb6; obtain ⟨_, ⟨_, _, _, y3⟩, _, _, _, f3⟩ := HBOW.out.below hb6 (Nat.lt_succ_self _); have HM6 : Hid (MRow w6 (w.heap.size + 2) (.slice a6 (ms.length + mks.length) c6) (ms ++ mks)) := hmr6; clear hmr6)
        all_goals
          try go_wp2
          refine ⟨⟨j + 1, ms ++ mks, a6, c6, by omega, by go_num, ?_, ?_, ?_, HSN.out, ?_⟩, by simp [intOf]; omega⟩
          · exact (HBNW.out.below hb6 (by omega)).setO (by omega) _
          · rw [List.length_append]
            exact (HBOW.out.below hb6 (Nat.lt_succ_self _)).set3 _
          · rw [List.length_append]
            exact HM6.out.set (a := ⟨w.heap.size + 1, 3, none⟩) (Nat.lt_succ_self _) _
          · exact (hBW.trans (hb6.mono (by omega))).setCell (by simp) _
      · rw [if_neg hkk] at hsn hft
        have hl2 : ms.length + [(MNet.mk mk mop mds (.slice s0 mds.length t0) (.slice s1 mks.length t1) mks)].length ≤ 1000000 := by
          simp only [List.length_append, List.length_map, List.length_singleton] at hft ⊢
          omega
        have hsn2 : (ms ++ [MNet.mk mk mop mds (.slice s0 mds.length t0) (.slice s1 mks.length t1) mks]).map MNet.net = Stil.flatKids k ((kids.take (j + 1)).map Stil.normNet) := by
          rw [hsn, List.map_append, List.map_singleton, MNet.net_eq]
        have hpw := hap [MNet.mk mk mop mds (.slice s0 mds.length t0) (.slice s1 mks.length t1) mks] (fun m hm => by rw [List.mem_singleton.1 hm]; exact HMO.out.1) (by rw [mVals_one]; exact HMO.out.2)
        have HP : Hid ((Value.slice ra ms.length rc :: (mVals ms ++ mVals [MNet.mk mk mop mds (.slice s0 mds.length t0) (.slice s1 mks.length t1) mks])).Pairwise Aside) := hpw
        have HK : Hid (∀ m ∈ [MNet.mk mk mop mds (.slice s0 mds.length t0) (.slice s1 mks.length t1) mks], MOk W (w.heap.size + 2) m) := fun m hm => by rw [List.mem_singleton.1 hm]; exact HMOW.out.1
        have HSN : Hid ((ms ++ [MNet.mk mk mop mds (.slice s0 mds.length t0) (.slice s1 mks.length t1) mks]).map MNet.net = Stil.flatKids k ((kids.take (j + 1)).map Stil.normNet)) := hsn2
        have ekk : (mk == k) = false := by rw [beq_eq_false_iff_ne]; exact hkk
        clear hW hft hsn hsn2 hpw hap hS hb2W HMO HMN HI HMR HBO HBN HMOW hsW hb2 hkk
        go_wp2_with (at_builtin; refine wpList_append_nets rfl _ _ rfl (w.heap.size + 2) ra rc ms [MNet.mk mk mop mds (.slice s0 mds.length t0) (.slice s1 mks.length t1) mks] (some ⟨W.heap.size, 0, none⟩) 1 rfl rfl (HMRW.out.below (below_alloc _ _)) (fun _ => ⟨_, rfl, by exact cells4⟩) (fun m hm => (HK.out m hm).below (below_alloc _ _)) HP.out hl2 (by simp only [World.size_alloc]; omega) ?_; intro a6 c6 w6 hmr6 hb6; obtain ⟨_, ⟨_, _, _, y3⟩, _, _, _, f3⟩ := (HBOW.out.below (below_alloc _ _) HBOW.out.1).below hb6 (Nat.lt_succ_self _); have HM6 : Hid (MRow w6 (w.heap.size + 2) (.slice a6 (ms.length + 1) c6) (ms ++ [MNet.mk mk mop mds (.slice s0 mds.length t0) (.slice s1 mks.length t1) mks])) := hmr6; clear hmr6)
        all_goals
          try go_wp2
          refine ⟨⟨j + 1, ms ++ [MNet.mk mk mop mds (.slice s0 mds.length t0) (.slice s1 mks.length t1) mks], a6, c6, by omega, by go_num, ?_, ?_, ?_, HSN.out, ?_⟩, by simp [intOf]; omega⟩
          · exact ((HBNW.out.below (below_alloc _ _) HBNW.out.1).below hb6 (by omega)).setO (by omega) _
          · rw [List.length_append]
            exact ((HBOW.out.below (below_alloc _ _) HBOW.out.1).below hb6 (Nat.lt_succ_self _)).set3 _
          · rw [List.length_append]
            exact HM6.out.set (a := ⟨w.heap.size + 1, 3, none⟩) (Nat.lt_succ_self _) _
          · exact ((bl_alloc hBW _).trans (hb6.mono (by omega))).setCell (by simp) _
    · obtain rfl : j = kids.length := by omega
      have hmn := HMN0.out
      rw [List.take_length] at hmn
      obtain ⟨_, ⟨z0, z1, z2, z3⟩, e0, e1, e2, e3⟩ := HBN.out
      obtain ⟨_, ⟨o0, o1, o2, o3⟩, _⟩ := HBO.out
      by_cases h1 : ms.length = 1
      · obtain ⟨m, rfl⟩ := List.length_eq_one_iff.1 h1
        have hmo := HMR.out.one 0 (by simp)
        simp only [List.getElem_cons_zero] at hmo
        obtain ⟨g, c, hv, _, hlt2, _, hcell⟩ := ownsRow_cells HMR.out.1 (by simp)
        obtain ⟨a1, a2, a3, a4⟩ := mCells_get [m] 0 (by simp)
        have y0 := hcell _ _ a1
        have y1 := hcell _ _ a2
        have y2 := hcell _ _ a3
        have y3 := hcell _ _ a4
        simp only [List.getElem_cons_zero, Nat.zero_mul, Nat.zero_add] at y0 y1 y2 y3
        have hok := (MOk_iff _ _ _).1 hmo.1
        obtain ⟨d1, d2, hd⟩ := slice_of_owns hok.1
        obtain ⟨d3, d4, hd2⟩ := slice_of_owns hok.2.1
        simp only [Value.slice.injEq] at hv
        obtain ⟨rfl, _, rfl⟩ := hv
        have hbl : Stil.blockOf k (Stil.flatKids k (kids.map Stil.normNet)) = m.net := by rw [← hmn]; rfl
        have HBL : Hid (Stil.blockOf k (Stil.flatKids k (kids.map Stil.normNet)) = m.net) := hbl
        obtain ⟨mk, mop, mds, mav, mkv, mks⟩ := m
        simp only at hd hd2 y0 y1 y2 y3
        subst hd
        subst hd2
        have HMO : Hid (MOwn wr (w.heap.size + 2) ⟨mk, mop, mds, .slice d1 mds.length d2, .slice d3 mks.length d4, mks⟩) := hmo
        clear hmo hok hmn hbl hcell HMR
        simp only [List.length_singleton] at o3
        go_wp2
        refine bodyPost_ret (v := .agg #[.int .i64 mk, .int .i64 mop, .slice d1 mds.length d2, .slice d3 mks.length d4]) (by simp [results, Tryd.results29, go_sem, z0, z1, z2, z3]) rfl ⟨⟨mk, mop, mds, d1, d2, d3, d4, mks, rfl, ?_, HBL.out.symm⟩, by (repeat (first | with_reducible exact Below.refl _ _ | with_reducible assumption | with_reducible refine bl_set (by first | exact Nat.le_refl _ | (simp; done) | (simp; omega) | omega) ?_ _ | with_reducible refine bl_alloc ?_ _ | with_reducible refine bl_drewN ?_ _ | with_reducible refine bl_drew ?_ | with_reducible refine bl_grow ?_ _ _ | with_reducible refine bl_call ?_ (by assumption)))⟩
        refine MOwn.le (base := w.heap.size + 2) ?_ (by omega)
        repeat (refine MOwn.set ?_ (by first | (simp; done) | (simp; omega)) _)
        exact HMO.out
      · have hbl : Stil.blockOf k (Stil.flatKids k (kids.map Stil.normNet)) = ⟨k, ⟨0, []⟩, ms.map MNet.net⟩ := by
          rw [← hmn]
          unfold Stil.blockOf
          rw [dif_neg (by simpa using h1)]
        have HBL : Hid (Stil.blockOf k (Stil.flatKids k (kids.map Stil.normNet)) = ⟨k, ⟨0, []⟩, ms.map MNet.net⟩) := hbl
        have hmo : MOwn wr (w.heap.size + 2) ⟨k, 0, [], .slice none 0 0, .slice ra ms.length rc, ms⟩ := HMR.out.net k 0 [] (World.ownsRow_nil _ _ _ _) (fun x _ => aside_nil x)
        have HMO : Hid (MOwn wr (w.heap.size + 2) ⟨k, 0, [], .slice none 0 0, .slice ra ms.length rc, ms⟩) := hmo
        have e1' : ((ms.length : Int) == 1) = false := by rw [beq_eq_false_iff_ne]; omega
        have e1'' : ¬ ((ms.length : Int) = 1) := by omega
        clear hmo hmn hbl HMR
        go_wp2
        refine bodyPost_ret (v := .agg #[.int .i64 k, .int .i64 0, .slice none 0 0, .slice ra ms.length rc]) (by simp [results, Tryd.results29, go_sem, z0, z1, z2, z3]) rfl ⟨⟨k, 0, [], none, 0, ra, rc, ms, rfl, ?_, by rw [MNet.net_eq, HBL.out]⟩, by (repeat (first | with_reducible exact Below.refl _ _ | with_reducible assumption | with_reducible refine bl_set (by first | exact Nat.le_refl _ | (simp; done) | (simp; omega) | omega) ?_ _ | with_reducible refine bl_alloc ?_ _ | with_reducible refine bl_drewN ?_ _ | with_reducible refine bl_drew ?_ | with_reducible refine bl_grow ?_ _ _ | with_reducible refine bl_call ?_ (by assumption)))⟩
        refine MOwn.le (base := w.heap.size + 2) ?_ (by omega)
        repeat (refine MOwn.set ?_ (by first | (simp; done) | (simp; omega)) _)
        exact HMO.out
end Go.Proofs.YthhfnncehfkbfaaDoor
