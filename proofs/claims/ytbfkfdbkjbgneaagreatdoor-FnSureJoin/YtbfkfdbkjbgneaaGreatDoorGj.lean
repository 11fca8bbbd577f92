/- N3, N3b: texts put together. -/
import Derived.Test.YtbfkfdbkjbgneaaGreatDoorGh
/- The program's chapter 6: SureRungs. -/
namespace Go.Proofs.YtbfkfdbkjbgneaaGreatDoor
open Go.RowKit Go.Sort Go.BigFrame
theorem info_Insts : (Tryz.prog.info? 23).map (fun i => (i.zero, i.size, i.bytes)) = some (some (.slice none 0 0), 1, 24) := by kernel_rfl
theorem cells3 {W : World} {u0 u1 u2 : Value} {t : TypeId} : ∀ j u, [u0, u1, u2][j]? = some u → (W.alloc (.cells #[u0, u1, u2] t)).cell? ((⟨W.heap.size, 0, none⟩ : Addr).add j) = some u := by
  intro j u h
  rw [Addr.add_lit]
  match j, h with
  | 0, h => simp at h; subst h; simp [go_sem]
  | 1, h => simp at h; subst h; simp [go_sem]
  | 2, h => simp at h; subst h; simp [go_sem]
  | j + 3, h => simp at h
theorem cells1 {W : World} {u0 : Value} {t : TypeId} : ∀ j u, [u0][j]? = some u → (W.alloc (.cells #[u0] t)).cell? ((⟨W.heap.size, 0, none⟩ : Addr).add j) = some u := by
  intro j u h
  rw [Addr.add_lit]
  match j, h with
  | 0, h => simp at h; subst h; simp [go_sem]
  | j + 1, h => simp at h
set_option maxHeartbeats 2000000 in
set_option maxRecDepth 100000 in
theorem i_sureRungs_ok (l : List Stil.Inst) (v : Value) (w : World) (hr : RowsAt w) (hw : LWordsAt w) (hat : InstsAt w v l) (hl : l.length ≤ 1000) (hft : ∀ x ∈ l, x.fits) (hok : (Stil.sureCheck l).1 = 0 ∧ (Stil.sureCheck l).2 = 0) :
    Calls Tryz.prog 10 #[v] w fun e w' => ∃ (sv rv : Value) (us : List Value) (cs : List Stil.Inst) (fin : List Rg), e = .returned sv ∧ Built w' w.heap.size sv rv us cs fin ∧ fin.map (·.2.2) = Stil.rungsFrom [] l ∧ Below w.heap.size w w' := by
  obtain ⟨i0, hi, hz0, hz1, hz2⟩ := info_parts info_Inst
  obtain ⟨i1, hi1, hy0, hy1, hy2⟩ := info_parts info_Insts
  have HF : Hid (∀ x ∈ l, x.fits) := hft
  have HSC : Hid (∀ W, Below w.heap.size w W → Calls Tryz.prog 6 #[v] W fun e w' => e = .returned (.agg #[.int .i64 0, .int .i64 0]) ∧ Below W.heap.size W w') := by
    intro W h
    have := i_sureCheck l v W (hr.below h) (hw.below h) (hat.below h) (by omega) hft
    rwa [hok.1, hok.2] at this
  obtain ⟨a, cap, rfl, hc⟩ := hat
  have HC : Hid (∀ i (h : i < l.length), ∃ b o, a = some ⟨b, o, none⟩ ∧ b < w.heap.size ∧ InstAt w b (o + i * 3) l[i]) := hc
  obtain ⟨ln, hln⟩ : ∃ ln, ln = l.length := ⟨_, rfl⟩
  have HLN : Hid (ln = l.length) := hln
  rw [← hln] at hl HSC ⊢
  clear hc hft hln hr hw hok
  go_enter Tryz.func10, Tryz.ntmps10
  go_wp2_with (go_at_call 6; refine (HSC.out _ (by (repeat (first | with_reducible exact Below.refl _ _ | with_reducible assumption | with_reducible refine bl_set (by first | exact Nat.le_refl _ | (simp; done) | (simp; omega) | omega) ?_ _ | with_reducible refine bl_alloc ?_ _ | with_reducible refine bl_drewN ?_ _ | with_reducible refine bl_drew ?_ | with_reducible refine bl_grow ?_ _ _ | with_reducible refine bl_call ?_ (by assumption))))).mono ?_; rintro e w1 ⟨rfl, hb1⟩)
  go_loopw [3, 4, 13] (fun sv rv i wr => ∃ (j : Nat) (us : List Value) (cs : List Stil.Inst) (fin : List Rg) (sa ra : Option Addr) (sc rc : Nat), j ≤ ln ∧ i = .int .i64 j ∧ sv = .slice sa fin.length sc ∧ rv = .slice ra cs.length rc ∧ cs.length ≤ j ∧ fin.length ≤ j ∧ Built wr w.heap.size (.slice sa fin.length sc) (.slice ra cs.length rc) us cs fin ∧ Stil.rungsFrom [] l = fin.map (·.2.2) ++ Stil.rungsFrom cs (l.drop j) ∧ Below w.heap.size w wr) (fun _ _ i _ => ln - (intOf i).toNat)
  case atStart =>
    refine ⟨0, [], [], [], none, none, 0, 0, by omega, rfl, rfl, rfl, by simp, by simp, ⟨⟨rfl, World.ownsRow_nil _ _ _ _, fun i hi => absurd hi (by simp)⟩, (fun f hf => by cases hf), World.ownsRow_nil _ _ _ _, ?_⟩, rfl, by (repeat (first | with_reducible exact Below.refl _ _ | with_reducible assumption | with_reducible refine bl_set (by first | exact Nat.le_refl _ | (simp; done) | (simp; omega) | omega) ?_ _ | with_reducible refine bl_alloc ?_ _ | with_reducible refine bl_drewN ?_ _ | with_reducible refine bl_drew ?_ | with_reducible refine bl_grow ?_ _ _ | with_reducible refine bl_call ?_ (by assumption)))⟩
    simp [Apart]
    rfl
  case round =>
    obtain ⟨j, us, cs, fin, sa, ra, sc, rc, hj, rfl, rfl, rfl, hcj, hfj, hbt, hrf, hB⟩ := hrel
    have HBT : Hid (Built wr w.heap.size (.slice sa fin.length sc) (.slice ra cs.length rc) us cs fin) := hbt
    have HRF : Hid (Stil.rungsFrom [] l = fin.map (·.2.2) ++ Stil.rungsFrom cs (l.drop j)) := hrf
    clear hbt hrf
    obtain ⟨nc, hnc⟩ : ∃ nc, nc = cs.length := ⟨_, rfl⟩
    obtain ⟨nf, hnf⟩ : ∃ nf, nf = fin.length := ⟨_, rfl⟩
    have HNC : Hid (nc = cs.length) := hnc
    have HNF : Hid (nf = fin.length) := hnf
    rw [← hnc, ← hnf] at HBT
    rw [← hnc] at hcj ⊢
    rw [← hnf] at hfj ⊢
    clear hnc hnf
    by_cases hlt : j < ln
    · have hlt' : j < l.length := by have := HLN.out; omega
      obtain ⟨b, o, rfl, hbl, hn⟩ := HC.out j hlt'
      obtain ⟨x0, x1, kav, x2, hav⟩ := hn.below hB hbl
      have HNE : Hid (∀ W, Below wr.heap.size wr W → Calls Tryz.prog 20 #[.agg #[.int .i64 l[j].one.op, kav]] W fun e w' => ∃ u, e = .returned (.agg #[.int .i64 l[j].one.op, u]) ∧ w'.ownsRow W.heap.size 82 3 u l[j].one.args.length (devsCells l[j].one.args) ∧ Below W.heap.size W w') := fun W hW => i_normElem l[j].one.op kav l[j].one.args W (hav.below hW) (HF.out _ (List.getElem_mem hlt')).2.2.1
      have HST := Stil.rungsFrom_drop cs l j hlt'
      rw [HST] at HRF
      obtain ⟨x, hx⟩ : ∃ x, x = l[j] := ⟨_, rfl⟩
      rw [← hx] at HNE HRF x0 x1 hav
      obtain ⟨t0, u0, rfl, _⟩ := hav
      clear hx hn HST
      go_upto_region 8 with fail
      obtain ⟨W, hW⟩ : ∃ W, W = wr.alloc (.cells #[.int .i64 x.code, .int .i64 x.one.op, .slice t0 x.one.args.length u0] 43) := ⟨_, rfl⟩
      rw [← hW]
      have hsW : W.heap.size = wr.heap.size + 1 := by rw [hW]; simp
      have q0 : W.cell? ⟨wr.heap.size, 0, none⟩ = some (.int .i64 x.code) := by rw [hW]; simp [go_sem]
      have q1 : W.cell? ⟨wr.heap.size, 1, none⟩ = some (.int .i64 x.one.op) := by rw [hW]; simp [go_sem]
      have q2 : W.cell? ⟨wr.heap.size, 2, none⟩ = some (.slice t0 x.one.args.length u0) := by rw [hW]; simp [go_sem]
      have hBW : Below wr.heap.size wr W := by rw [hW]; exact below_alloc _ _
      have HBW : Hid (Below wr.heap.size wr W) := hBW
      have HSW : Hid (W.heap.size = wr.heap.size + 1) := hsW
      have HBTW : Hid (Built W w.heap.size (.slice sa nf sc) (.slice ra nc rc) us cs fin) := HBT.out.below hBW
      have hwW : w.heap.size ≤ W.heap.size := Nat.le_trans hB.size hBW.size
      clear hW x0 x1 x2 hBW hsW
      have HNW : Hid (∀ V, Below W.heap.size W V → Calls Tryz.prog 20 #[.agg #[.int .i64 x.one.op, .slice t0 x.one.args.length u0]] V fun e w' => ∃ u, e = .returned (.agg #[.int .i64 x.one.op, u]) ∧ w'.ownsRow V.heap.size 82 3 u x.one.args.length (devsCells x.one.args) ∧ Below V.heap.size V w') := fun V hV => HNE.out V (HBW.out.trans (hV.mono HBW.out.size))
      obtain ⟨xs, hxs⟩ : ∃ xs, xs = rungCells us cs := ⟨_, rfl⟩
      have HXS : Hid (xs = rungCells us cs) := hxs
      have HOV : Hid (∀ V, Below W.heap.size W V → V.ownsRow w.heap.size 43 3 (.slice ra nc rc) nc xs) := by
        intro V hV
        have := ownsRow_below HBTW.out.1.2.1 hV
        rw [← HNC.out, ← hxs] at this
        exact this
      clear hxs
      have hncb : nc ≤ 1000 := by omega
      go_region_law (first | (refine step_append_at rfl _ _ 23 rfl w.heap.size 43 i0 (.agg #[.int .i64 0, .int .i64 0, .slice none 0 0]) 3 40 Tryz.underlying23 hi hz0 hz1 hz2 rfl (by decide) _ _ _ rfl ((HOV.out _ hbW5).alloc _) _ _ _ [.int .i64 x.code, .int .i64 x.one.op, .slice a5 x.one.args.length c5] rfl rfl (by exact cells3) (by intro u hu; simp at hu; rcases hu with rfl | rfl | rfl <;> rfl) (by unfold maxLen; omega) (by omega) (by have := hbW5.size; simp only [World.size_alloc]; omega) ?_; intro v' w6 hown6 hgr6 hat6; obtain ⟨a6, c6, hv6⟩ := slice_of_owns hown6; subst hv6; have q6 : w6.cell? ⟨wr.heap.size, 0, none⟩ = some (.int .i64 x.code) := (grownO_cell hgr6 (by have := HSW.out; have := hbW5.size; simp only [World.size_alloc]; omega) hne5).trans ((below_alloc w5 _).cell (p := ⟨wr.heap.size, 0, none⟩) (by have := HSW.out; have := hbW5.size; show wr.heap.size < w5.heap.size; omega) |>.trans q5)) | (go_simp; go_at_call 20; refine (HNW.out _ (by exact (Below.refl _ W).drew)).mono ?_; rintro e w5 ⟨u, rfl, g5, hb5⟩; obtain ⟨a5, c5, hu5⟩ := slice_of_owns g5; subst hu5; have hbW5 : Below W.heap.size W w5 := ((Below.refl W.heap.size W).drew).trans hb5; have q5 : w5.cell? ⟨wr.heap.size, 0, none⟩ = some (.int .i64 x.code) := (hbW5.cell (p := ⟨wr.heap.size, 0, none⟩) (by have := HSW.out; show wr.heap.size < W.heap.size; omega)).trans q0; have hne5 : (Value.slice ra nc rc).ownBlock ≠ some wr.heap.size := fun e => by have := (HBT.out.1.2.1.lt _ e).2; omega))
      all_goals
        have HB6 : Hid (Built w6 w.heap.size (.slice sa nf sc) (.slice a6 (nc + 1) c6) (us ++ [.slice a5 x.one.args.length c5]) (cs ++ [x]) fin) := by
          refine Built.push (w := W) HBTW.out (hbW5.trans ((below_alloc _ _).mono hbW5.size)) (World.ownsRow.alloc g5 _) hwW ?_ hgr6 hat6
          rw [← HNC.out, ← HXS.out]
          exact hown6
        have hBa : Below w.heap.size w (w5.alloc (.cells #[.int .i64 x.code, .int .i64 x.one.op, .slice a5 x.one.args.length c5] 43)) := (hB.trans (HBW.out.mono hB.size)).trans ((hbW5.trans ((below_alloc _ _).mono hbW5.size)).mono hwW)
        have hB6 : Below w.heap.size w w6 := hBa.grown hgr6 hBa.size (fun k hk => (HBT.out.1.2.1.lt k hk).1)
        have hw6 : w.heap.size ≤ w6.heap.size := hB6.size
        have HRF2 := HRF.out
        clear hgr6 hown6 hat6 g5 hb5 hBa q5 hne5 hbW5 HNW HOV HNE HRF
        by_cases hcode : x.code = 11
        · rw [if_pos hcode] at HRF2
          have HRF3 : Hid (Stil.rungsFrom [] l = (fin ++ [((.slice a6 (nc + 1) c6, us ++ [.slice a5 x.one.args.length c5], cs ++ [x]) : Rg)]).map (·.2.2) ++ Stil.rungsFrom [] (l.drop (j + 1))) := by show _ = _; rw [HRF2]; simp
          clear HRF2
          rw [hcode] at q6
          have hown7 : w6.ownsRow w.heap.size 23 1 (.slice sa nf sc) nf (fin.map (·.1)) := by
            have := HB6.out.2.2.1
            rw [← HNF.out] at this
            exact this
          obtain ⟨ys, hys⟩ : ∃ ys, ys = fin.map (·.1) := ⟨_, rfl⟩
          rw [← hys] at hown7
          have HYS : Hid (ys = fin.map (·.1)) := hys
          clear hys
          go_wp2_with (at_builtin; refine wpList_append_own_at _ rfl _ _ 30 rfl w.heap.size 23 i1 (.slice none 0 0) 1 24 Tryz.underlying30 hi1 hy0 hy1 hy2 rfl (by decide) _ _ _ rfl (hown7.alloc _) ⟨w6.heap.size, 0, none⟩ 1 1 [.slice a6 (nc + 1) c6] rfl rfl (by exact cells1) (by intro u hu; simp at hu; subst hu; rfl) (by unfold maxLen; omega) (by omega) (by simp only [World.size_alloc]; omega) ?_)
          intro v7 w7 hown8 hgr8 _ hat8
          obtain ⟨a7, c7, hv7⟩ := slice_of_owns hown8
          subst hv7
          have HB8 : Hid (Built w7 w.heap.size (.slice a7 (nf + 1) c7) (.slice none 0 0) [] [] (fin ++ [((.slice a6 (nc + 1) c6, us ++ [.slice a5 x.one.args.length c5], cs ++ [x]) : Rg)])) := by
            refine Built.close (HB6.out.below (below_alloc _ _)) ?_ hgr8 (by rw [World.size_alloc]; exact hat8)
            rw [← HNF.out, ← HYS.out]
            exact hown8
          have hB8 : Below w.heap.size w w7 := (bl_alloc hB6 _).grown hgr8 (by simp only [World.size_alloc]; omega) (fun k hk => (HB6.out.2.2.1.lt k hk).1)
          clear hown8 hgr8 hat8 hown7
          go_wp2
          refine ⟨⟨j + 1, [], [], fin ++ [((.slice a6 (nc + 1) c6, us ++ [.slice a5 x.one.args.length c5], cs ++ [x]) : Rg)], a7, none, c7, 0, by omega, by go_num, by simp [HNF.out], rfl, by simp, ?_, ?_, HRF3.out, hB8⟩, by simp [intOf]; omega⟩
          · simp only [List.length_append, List.length_cons, List.length_nil]; have := HNF.out; omega
          · have := HB8.out
            rw [HNF.out] at this
            simpa using this
        · rw [if_neg hcode] at HRF2
          have HRF3 : Hid (Stil.rungsFrom [] l = fin.map (·.2.2) ++ Stil.rungsFrom (cs ++ [x]) (l.drop (j + 1))) := HRF2
          have e11 : (x.code == 11) = false := by rw [beq_eq_false_iff_ne]; exact hcode
          clear HRF2 hcode
          go_wp2
          refine ⟨⟨j + 1, us ++ [.slice a5 x.one.args.length c5], cs ++ [x], fin, sa, a6, sc, c6, by omega, by go_num, by rw [HNF.out], by simp [HNC.out], ?_, ?_, ?_, HRF3.out, hB6⟩, by simp [intOf]; omega⟩
          · simp only [List.length_append, List.length_cons, List.length_nil]; have := HNC.out; omega
          · have := HNF.out; omega
          · have := HB6.out
            rw [HNC.out, HNF.out] at this
            simpa using this
    · have hj2 : j = ln := by omega
      have hend : Stil.rungsFrom cs (l.drop j) = [] := by rw [List.drop_of_length_le (by have := HLN.out; omega)]; rfl
      have HRF2 : Hid (Stil.rungsFrom [] l = fin.map (·.2.2)) := by show _ = _; rw [HRF.out, hend, List.append_nil]
      clear hend HRF
      go_wp2
      go_ret
      exact ⟨_, _, us, cs, fin, rfl, HBT.out, HRF2.out.symm, hB⟩
end Go.Proofs.YtbfkfdbkjbgneaaGreatDoor
/- The program's chapter 6: SureRungs of a list that is not verified. -/
namespace Go.Proofs.YtbfkfdbkjbgneaaGreatDoor
open Go.RowKit Go.Sort Go.BigFrame
set_option maxHeartbeats 2000000 in
set_option maxRecDepth 100000 in
theorem i_sureRungs_no (l : List Stil.Inst) (v : Value) (w : World) (hr : RowsAt w) (hw : LWordsAt w) (hat : InstsAt w v l) (hl : l.length ≤ 1048576) (hft : ∀ x ∈ l, x.fits) (hbad : 0 < (Stil.sureCheck l).1) :
    Calls Tryz.prog 10 #[v] w fun e w' => e = .returned (.slice none 0 0) ∧ Below w.heap.size w w' := by
  have HSC : Hid (∀ W, Below w.heap.size w W → Calls Tryz.prog 6 #[v] W fun e w' => e = .returned (.agg #[.int .i64 (Stil.sureCheck l).1, .int .i64 (Stil.sureCheck l).2]) ∧ Below W.heap.size W w') := fun W h => i_sureCheck l v W (hr.below h) (hw.below h) (hat.below h) hl hft
  obtain ⟨a, cap, rfl, _⟩ := hat
  obtain ⟨c1, hc1⟩ : ∃ c, c = (Stil.sureCheck l).1 := ⟨_, rfl⟩
  obtain ⟨c2, hc2⟩ : ∃ c, c = (Stil.sureCheck l).2 := ⟨_, rfl⟩
  rw [← hc1, ← hc2] at HSC
  rw [← hc1] at hbad
  have hne : (c1 == 0) = false := by rw [beq_eq_false_iff_ne]; omega
  have hne2 : ¬ c1 = 0 := by omega
  clear hr hw hft hc1 hc2
  go_enter Tryz.func10, Tryz.ntmps10
  go_wp2_with (go_at_call 6; refine (HSC.out _ (by (repeat (first | with_reducible exact Below.refl _ _ | with_reducible assumption | with_reducible refine bl_set (by first | exact Nat.le_refl _ | (simp; done) | (simp; omega) | omega) ?_ _ | with_reducible refine bl_alloc ?_ _ | with_reducible refine bl_drewN ?_ _ | with_reducible refine bl_drew ?_ | with_reducible refine bl_grow ?_ _ _ | with_reducible refine bl_call ?_ (by assumption))))).mono ?_; rintro e w1 ⟨rfl, hb1⟩)
  all_goals go_ret
  all_goals exact ⟨rfl, by (repeat (first | with_reducible exact Below.refl _ _ | with_reducible assumption | with_reducible refine bl_set (by first | exact Nat.le_refl _ | (simp; done) | (simp; omega) | omega) ?_ _ | with_reducible refine bl_alloc ?_ _ | with_reducible refine bl_drewN ?_ _ | with_reducible refine bl_drew ?_ | with_reducible refine bl_grow ?_ _ _ | with_reducible refine bl_call ?_ (by assumption)))⟩
end Go.Proofs.YtbfkfdbkjbgneaaGreatDoor
