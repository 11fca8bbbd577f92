/- The program's chapter 4: kids opened, one behind the other. -/
import Derived.Test.YthhfnncehfkbfaaDoorY7b
namespace Go.Proofs.YthhfnncehfkbfaaDoor
open Go.RowKit Go.Sort Go.BigFrame
theorem openOf_net (k : Int) (m : MNet) : (openOf k m).map MNet.net = Stil.flatKids k [m.net] := by
  rw [Stil.flatKids_one, MNet.net_eq]
  unfold openOf
  simp only
  split
  · rfl
  · rw [List.map_singleton, MNet.net_eq]
theorem openOf_vals (k : Int) (m : MNet) : (mVals (openOf k m)).Sublist m.vals := by
  unfold openOf
  split
  · rw [MNet.vals_eq]
    exact List.Sublist.cons _ (List.Sublist.cons _ (List.Sublist.refl _))
  · rw [mVals_one]; exact List.Sublist.refl _
set_option maxHeartbeats 2000000 in
set_option maxRecDepth 100000 in
theorem i_foldOpen (k : Int) (B base : Nat) (ms0 : List MNet) (a : Option Addr) (cap : Nat) (w : World) (hbx : w.cell? ⟨B, 0, none⟩ = some (.int .i64 k)) (hB : B < w.heap.size) (hrow : MRow w base (.slice a ms0.length cap) ms0) (hl : Stil.sizes (ms0.map MNet.net) ≤ 999999) (hbase : base ≤ w.heap.size) :
    Calls Tryd.prog 51 #[.slice a ms0.length cap, .slice none 0 0, .func (.func 53) #[] #[.pointer (some ⟨B, 0, none⟩)]] w fun e w' => ∃ (a : Option Addr) (c : Nat) (ms : List MNet), e = .returned (.slice a ms.length c) ∧ ms.map MNet.net = Stil.flatKids k (ms0.map MNet.net) ∧ MRow w' base (.slice a ms.length c) ms ∧ Below w.heap.size w w' ∧ (mVals ms).Sublist (mVals ms0) ∧ ∀ q, (Value.slice a ms.length c).ownBlock = some q → w.heap.size ≤ q := by
  have HROW : Hid (MRow w base (.slice a ms0.length cap) ms0) := hrow
  have HSZ : Hid (Stil.sizes (ms0.map MNet.net) ≤ 999999) := hl
  have hml : ms0.length ≤ 1000000 := by
    have h1 := Stil.len_sizes (ms0.map MNet.net)
    rw [List.length_map] at h1
    omega
  clear hrow hl
  go_enter Tryd.func51, Tryd.ntmps51
  go_wp2
  go_loopw [1, 11] (fun d i wr => ∃ (j : Nat) (ms : List MNet) (ra : Option Addr) (rc : Nat), j ≤ ms0.length ∧ i = .int .i64 j ∧ d = .slice ra ms.length rc ∧ ms.map MNet.net = Stil.flatKids k ((ms0.take j).map MNet.net) ∧ MRow wr base (.slice ra ms.length rc) ms ∧ (mVals ms).Sublist (mVals (ms0.take j)) ∧ (∀ q, (Value.slice ra ms.length rc).ownBlock = some q → w.heap.size ≤ q) ∧ Below w.heap.size w wr) (fun _ i _ => ms0.length - (intOf i).toNat)
  case atStart => exact ⟨0, [], none, 0, by omega, rfl, rfl, rfl, MRow.nil _ _, List.Sublist.refl _, (fun q hq => by cases hq), Below.refl _ _⟩
  case round =>
    obtain ⟨j, ms, ra, rc, hj, rfl, rfl, hmn, hmr, hsub, hvl, hb⟩ := hrel
    have HMN : Hid (ms.map MNet.net = Stil.flatKids k ((ms0.take j).map MNet.net)) := hmn
    have HMR : Hid (MRow wr base (.slice ra ms.length rc) ms) := hmr
    have HSUB : Hid ((mVals ms).Sublist (mVals (ms0.take j))) := hsub
    have HVL : Hid (∀ q, (Value.slice ra ms.length rc).ownBlock = some q → w.heap.size ≤ q) := hvl
    clear hmn hmr hsub hvl
    by_cases hlt : j < ms0.length
    · obtain ⟨g, c, hv, _, hlt2, _, hcell⟩ := ownsRow_cells HROW.out.1 (by omega)
      obtain ⟨a1, a2, a3, a4⟩ := mCells_get ms0 j hlt
      have x0 := (hb.cell (p := ⟨g, j * 4, none⟩) hlt2).trans (hcell _ _ a1)
      have x1 := (hb.cell (p := ⟨g, j * 4 + 1, none⟩) hlt2).trans (hcell _ _ a2)
      have x2 := (hb.cell (p := ⟨g, j * 4 + 2, none⟩) hlt2).trans (hcell _ _ a3)
      have x3 := (hb.cell (p := ⟨g, j * 4 + 3, none⟩) hlt2).trans (hcell _ _ a4)
      have hmo := HROW.out.one j hlt
      have HTS : Hid (ms0.take (j + 1) = ms0.take j ++ [ms0[j]]) := List.take_succ_eq_append_getElem hlt
      have hok := (MOk_iff _ _ _).1 hmo.1
      obtain ⟨s0, t0, hd⟩ := slice_of_owns hok.1
      obtain ⟨s1, t1, hd2⟩ := slice_of_owns hok.2.1
      have hsz : ms.length + ms0[j].kids.length + 1 ≤ 1000000 := by
        have h1 := congrArg List.length HMN.out
        rw [List.length_map] at h1
        have h2 := Stil.len_sizes (Stil.flatKids k ((ms0.take j).map MNet.net))
        have h3 := Stil.flatKids_sizes k ((ms0.take j).map MNet.net)
        have h4 := Stil.sizes_take (ms0.map MNet.net) (j + 1)
        rw [← List.map_take, HTS.out, List.map_append, Stil.sizes_append] at h4
        have h5 : Stil.sizes ([ms0[j]].map MNet.net) = Stil.netSize ms0[j].net := by simp [Stil.sizes]
        have h6 := Stil.netSize_kids ms0[j].net
        have h7 := Stil.len_sizes ms0[j].net.kids
        have h8 : ms0[j].net.kids.length = ms0[j].kids.length := by rw [MNet.net_eq]; simp
        have := HSZ.out
        omega
      have hpw : (Value.slice ra ms.length rc :: (mVals ms ++ ms0[j].vals)).Pairwise Aside := by
        have hs1 : (mVals ms ++ ms0[j].vals).Sublist (mVals ms0) := by
          have h1 : (mVals ms ++ ms0[j].vals).Sublist (mVals (ms0.take (j + 1))) := by
            rw [HTS.out, mVals_append, mVals_one]
            exact List.Sublist.append HSUB.out (List.Sublist.refl _)
          refine h1.trans ?_
          have h2 := mVals_append (ms0.take (j + 1)) (ms0.drop (j + 1))
          rw [List.take_append_drop] at h2
          rw [h2]
          exact List.sublist_append_left _ _
        rw [List.pairwise_cons]
        refine ⟨fun y hy => (aside_new (n := w.heap.size) (fun q hq => (HROW.out.lt y (List.mem_cons_of_mem _ (hs1.subset hy)) q hq).2) HVL.out).symm, List.Pairwise.sublist hs1 (List.pairwise_cons.1 HROW.out.2.2).2⟩
      have HSUB2 : Hid ((mVals (ms ++ openOf k ms0[j])).Sublist (mVals (ms0.take (j + 1)))) := by
        show List.Sublist _ _
        rw [HTS.out, mVals_append, mVals_append, mVals_one]
        exact List.Sublist.append HSUB.out (openOf_vals k _)
      have HMN2 : Hid ((ms ++ openOf k ms0[j]).map MNet.net = Stil.flatKids k ((ms0.take (j + 1)).map MNet.net)) := by
        show _ = _
        rw [HTS.out, List.map_append, List.map_append, Stil.flatKids_append, HMN.out, openOf_net]; rfl
      obtain ⟨m, hm⟩ : ∃ m, m = ms0[j] := ⟨_, rfl⟩
      rw [← hm] at x0 x1 x2 x3 hmo hd hd2 hsz hpw HSUB2 HMN2
      clear hm hok HTS a1 a2 a3 a4 hcell
      obtain ⟨mk, mop, mds, mav, mkv, mks⟩ := m
      simp only at x0 x1 x2 x3 hd hd2 hsz
      subst hd
      subst hd2
      simp only [Value.slice.injEq] at hv
      obtain ⟨rfl, _, rfl⟩ := hv
      have HI : Hid (∀ W, Below wr.heap.size wr W → Calls Tryd.prog 53 #[.slice ra ms.length rc, .agg #[.int .i64 mk, .int .i64 mop, .slice s0 mds.length t0, .slice s1 mks.length t1], .pointer (some ⟨B, 0, none⟩)] W fun e w' => ∃ (a : Option Addr) (c : Nat), e = .returned (.slice a (ms.length + (openOf k ⟨mk, mop, mds, .slice s0 mds.length t0, .slice s1 mks.length t1, mks⟩).length) c) ∧ MRow w' base (.slice a (ms.length + (openOf k ⟨mk, mop, mds, .slice s0 mds.length t0, .slice s1 mks.length t1, mks⟩).length) c) (ms ++ openOf k ⟨mk, mop, mds, .slice s0 mds.length t0, .slice s1 mks.length t1, mks⟩) ∧ Below w.heap.size W w' ∧ ∀ j, (Value.slice a (ms.length + (openOf k ⟨mk, mop, mds, .slice s0 mds.length t0, .slice s1 mks.length t1, mks⟩).length) c).ownBlock = some j → w.heap.size ≤ j) := by
        intro W hW
        have hbW := hb.trans (hW.mono hb.size)
        exact i_open1 k B base w.heap.size ra rc ms mk mop mds s0 t0 s1 t1 mks W ((hbW.cell (p := ⟨B, 0, none⟩) hB).trans hbx) (Nat.lt_of_lt_of_le hB hbW.size) (HMR.out.below hW) ((hmo.below hb).below hW) hpw hsz (Nat.le_trans hbase hbW.size) hbW.size HVL.out
      obtain ⟨O, hO⟩ : ∃ O, O = openOf k ⟨mk, mop, mds, .slice s0 mds.length t0, .slice s1 mks.length t1, mks⟩ := ⟨_, rfl⟩
      rw [← hO] at HI HSUB2 HMN2
      have hg2 : g < wr.heap.size := Nat.lt_of_lt_of_le hlt2 hb.size
      clear hO hmo hpw hsz hlt2
      go_wp2_with (go_at_call 53; refine (HI.out _ (by (repeat (first | with_reducible exact Below.refl _ _ | with_reducible assumption | with_reducible refine bl_set (by first | exact Nat.le_refl _ | (simp; done) | (simp; omega) | omega) ?_ _ | with_reducible refine bl_alloc ?_ _ | with_reducible refine bl_drewN ?_ _ | with_reducible refine bl_drew ?_ | with_reducible refine bl_grow ?_ _ _ | with_reducible refine bl_call ?_ (by assumption))))).mono ?_; rintro e w2 ⟨a2, c2, rfl, hmr2, hb2, hv2⟩; have hb3 : Below w.heap.size w w2 := (show Below w.heap.size w _ from hb.trans ((show Below wr.heap.size wr _ by (repeat (first | with_reducible exact Below.refl _ _ | with_reducible assumption | with_reducible refine bl_set (by first | exact Nat.le_refl _ | (simp; done) | (simp; omega) | omega) ?_ _ | with_reducible refine bl_alloc ?_ _ | with_reducible refine bl_drewN ?_ _ | with_reducible refine bl_drew ?_ | with_reducible refine bl_grow ?_ _ _ | with_reducible refine bl_call ?_ (by assumption)))).mono hb.size)).trans hb2)
      refine ⟨⟨j + 1, ms ++ O, a2, c2, by omega, by go_num, by rw [List.length_append], HMN2.out, by rw [List.length_append]; exact hmr2, HSUB2.out, by rw [List.length_append]; exact hv2, hb3⟩, by simp [intOf]; omega⟩
    · obtain rfl : j = ms0.length := by omega
      have hmn := HMN.out
      rw [List.take_length] at hmn
      have HMN2 : Hid (ms.map MNet.net = Stil.flatKids k (ms0.map MNet.net)) := hmn
      have hsub := HSUB.out
      rw [List.take_length] at hsub
      have HSUB2 : Hid ((mVals ms).Sublist (mVals ms0)) := hsub
      clear hmn hsub
      go_wp2
      go_ret
      exact ⟨ra, rc, ms, rfl, HMN2.out, HMR.out, hb, HSUB2.out, HVL.out⟩
end Go.Proofs.YthhfnncehfkbfaaDoor
