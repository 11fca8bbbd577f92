/- Y7c,Y7d: texts put together. -/
import Derived.Test.YtenoanhonjdpjaaGreatDoorGm
set_option maxHeartbeats 4000000
set_option maxRecDepth 100000
/- The program's chapter 4: kids opened,one behind the other. -/
namespace Go.Proofs.YtenoanhonjdpjaaGreatDoor
open Go.RowKit Go.Sort Go.BigFrame
theorem openOf_net (k : Int) (m : MNet) : (openOf k m).map MNet.net = Stil.flatKids k [m.net] := by
 rw [Stil.flatKids_one,MNet.net_eq]
 unfold openOf
 simp only
 split
 ·rfl
 ·rw [List.map_singleton,MNet.net_eq]
theorem openOf_vals (k : Int) (m : MNet) : (mVals (openOf k m)).Sublist m.vals := by
 unfold openOf
 split
 ·rw [MNet.vals_eq]
  exact List.Sublist.cons _ (List.Sublist.cons _ (List.Sublist.refl _))
 ·rw [mVals_one]; exact List.Sublist.refl _
theorem i_foldOpen (k : Int) (B base : Nat) (ms0 : List MNet) (a : Option Addr) (cap : Nat) (w : World) (hbx : w.cell? ⟨B,0,none⟩ = some (.int .i64 k)) (hB : B < w.heap.size) (hrow : MRow w base (.slice a ms0.length cap) ms0) (hl : Stil.sizes (ms0.map MNet.net) ≤ 999999) (hbase : base ≤ w.heap.size) :
  Calls Tryz.prog 126 #[.slice a ms0.length cap,.slice none 0 0,.func (.func 128) #[] #[.pointer (some ⟨B,0,none⟩)]] w fun e w' => ∃ (a : Option Addr) (c : Nat) (ms : List MNet),e = .returned (.slice a ms.length c) ∧ ms.map MNet.net = Stil.flatKids k (ms0.map MNet.net) ∧ MRow w' base (.slice a ms.length c) ms ∧ Below w.heap.size w w' ∧ (mVals ms).Sublist (mVals ms0) ∧ ∀ q,(Value.slice a ms.length c).ownBlock = some q → w.heap.size ≤ q := by
 have HROW : Hid (MRow w base (.slice a ms0.length cap) ms0) := hrow
 have HSZ : Hid (Stil.sizes (ms0.map MNet.net) ≤ 999999) := hl
 have hml : ms0.length ≤ 1000000 := by
  have h1 := Stil.len_sizes (ms0.map MNet.net)
  rw [List.length_map] at h1
  omega
 clear hrow hl
 go_enter Tryz.func126,Tryz.ntmps126
 go_wp2
 go_loopw [1,11] (fun d i wr => ∃ (j : Nat) (ms : List MNet) (ra : Option Addr) (rc : Nat),j ≤ ms0.length ∧ i = .int .i64 j ∧ d = .slice ra ms.length rc ∧ ms.map MNet.net = Stil.flatKids k ((ms0.take j).map MNet.net) ∧ MRow wr base (.slice ra ms.length rc) ms ∧ (mVals ms).Sublist (mVals (ms0.take j)) ∧ (∀ q,(Value.slice ra ms.length rc).ownBlock = some q → w.heap.size ≤ q) ∧ Below w.heap.size w wr) (fun _ i _ => ms0.length - (intOf i).toNat)
 case atStart => exact ⟨0,[],none,0,by omega,rfl,rfl,rfl,MRow.nil _ _,List.Sublist.refl _,(fun q hq => by cases hq),Below.refl _ _⟩
 case round =>
  obtain ⟨j,ms,ra,rc,hj,rfl,rfl,hmn,hmr,hsub,hvl,hb⟩ := hrel
  have HMN : Hid (ms.map MNet.net = Stil.flatKids k ((ms0.take j).map MNet.net)) := hmn
  have HMR : Hid (MRow wr base (.slice ra ms.length rc) ms) := hmr
  have HSUB : Hid ((mVals ms).Sublist (mVals (ms0.take j))) := hsub
  have HVL : Hid (∀ q,(Value.slice ra ms.length rc).ownBlock = some q → w.heap.size ≤ q) := hvl
  clear hmn hmr hsub hvl
  by_cases hlt : j < ms0.length
  ·obtain ⟨g,c,hv,_,hlt2,_,hcell⟩ := ownsRow_cells HROW.out.1 (by omega)
   obtain ⟨a1,a2,a3,a4⟩ := mCells_get ms0 j hlt
   have x0 := (hb.cell (p := ⟨g,j * 4,none⟩) hlt2).trans (hcell _ _ a1)
   have x1 := (hb.cell (p := ⟨g,j * 4 + 1,none⟩) hlt2).trans (hcell _ _ a2)
   have x2 := (hb.cell (p := ⟨g,j * 4 + 2,none⟩) hlt2).trans (hcell _ _ a3)
   have x3 := (hb.cell (p := ⟨g,j * 4 + 3,none⟩) hlt2).trans (hcell _ _ a4)
   have hmo := HROW.out.one j hlt
   have HTS : Hid (ms0.take (j + 1) = ms0.take j ++ [ms0[j]]) := List.take_succ_eq_append_getElem hlt
   have hok := (MOk_iff _ _ _).1 hmo.1
   obtain ⟨s0,t0,hd⟩ := slice_of_owns hok.1
   obtain ⟨s1,t1,hd2⟩ := slice_of_owns hok.2.1
   have hsz : ms.length + ms0[j].kids.length + 1 ≤ 1000000 := by
    have h1 := congrArg List.length HMN.out
    rw [List.length_map] at h1
    have h2 := Stil.len_sizes (Stil.flatKids k ((ms0.take j).map MNet.net))
    have h3 := Stil.flatKids_sizes k ((ms0.take j).map MNet.net)
    have h4 := Stil.sizes_take (ms0.map MNet.net) (j + 1)
    rw [← List.map_take,HTS.out,List.map_append,Stil.sizes_append] at h4
    have h5 : Stil.sizes ([ms0[j]].map MNet.net) = Stil.netSize ms0[j].net := by simp [Stil.sizes]
    have h6 := Stil.netSize_kids ms0[j].net
    have h7 := Stil.len_sizes ms0[j].net.kids
    have h8 : ms0[j].net.kids.length = ms0[j].kids.length := by rw [MNet.net_eq]; simp
    have := HSZ.out
    omega
   have hpw : (Value.slice ra ms.length rc :: (mVals ms ++ ms0[j].vals)).Pairwise Aside := by
    have hs1 : (mVals ms ++ ms0[j].vals).Sublist (mVals ms0) := by
     have h1 : (mVals ms ++ ms0[j].vals).Sublist (mVals (ms0.take (j + 1))) := by
      rw [HTS.out,mVals_append,mVals_one]
      exact List.Sublist.append HSUB.out (List.Sublist.refl _)
     refine h1.trans ?_
     have h2 := mVals_append (ms0.take (j + 1)) (ms0.drop (j + 1))
     rw [List.take_append_drop] at h2
     rw [h2]
     exact List.sublist_append_left _ _
    rw [List.pairwise_cons]
    refine ⟨fun y hy => (aside_new (n := w.heap.size) (fun q hq => (HROW.out.lt y (List.mem_cons_of_mem _ (hs1.subset hy)) q hq).2) HVL.out).symm,List.Pairwise.sublist hs1 (List.pairwise_cons.1 HROW.out.2.2).2⟩
   have HSUB2 : Hid ((mVals (ms ++ openOf k ms0[j])).Sublist (mVals (ms0.take (j + 1)))) := by
    show List.Sublist _ _
    rw [HTS.out,mVals_append,mVals_append,mVals_one]
    exact List.Sublist.append HSUB.out (openOf_vals k _)
   have HMN2 : Hid ((ms ++ openOf k ms0[j]).map MNet.net = Stil.flatKids k ((ms0.take (j + 1)).map MNet.net)) := by
    show _ = _
    rw [HTS.out,List.map_append,List.map_append,Stil.flatKids_append,HMN.out,openOf_net]; rfl
   obtain ⟨m,hm⟩ : ∃ m,m = ms0[j] := ⟨_,rfl⟩
   rw [← hm] at x0 x1 x2 x3 hmo hd hd2 hsz hpw HSUB2 HMN2
   clear hm hok HTS a1 a2 a3 a4 hcell
   obtain ⟨mk,mop,mds,mav,mkv,mks⟩ := m
   simp only at x0 x1 x2 x3 hd hd2 hsz
   subst hd
   subst hd2
   simp only [Value.slice.injEq] at hv
   obtain ⟨rfl,_,rfl⟩ := hv
   have HI : Hid (∀ W,Below wr.heap.size wr W → Calls Tryz.prog 128 #[.slice ra ms.length rc,.agg #[.int .i64 mk,.int .i64 mop,.slice s0 mds.length t0,.slice s1 mks.length t1],.pointer (some ⟨B,0,none⟩)] W fun e w' => ∃ (a : Option Addr) (c : Nat),e = .returned (.slice a (ms.length + (openOf k ⟨mk,mop,mds,.slice s0 mds.length t0,.slice s1 mks.length t1,mks⟩).length) c) ∧ MRow w' base (.slice a (ms.length + (openOf k ⟨mk,mop,mds,.slice s0 mds.length t0,.slice s1 mks.length t1,mks⟩).length) c) (ms ++ openOf k ⟨mk,mop,mds,.slice s0 mds.length t0,.slice s1 mks.length t1,mks⟩) ∧ Below w.heap.size W w' ∧ ∀ j,(Value.slice a (ms.length + (openOf k ⟨mk,mop,mds,.slice s0 mds.length t0,.slice s1 mks.length t1,mks⟩).length) c).ownBlock = some j → w.heap.size ≤ j) := by
    intro W hW
    have hbW := hb.trans (hW.mono hb.size)
    exact i_open1 k B base w.heap.size ra rc ms mk mop mds s0 t0 s1 t1 mks W ((hbW.cell (p := ⟨B,0,none⟩) hB).trans hbx) (Nat.lt_of_lt_of_le hB hbW.size) (HMR.out.below hW) ((hmo.below hb).below hW) hpw hsz (Nat.le_trans hbase hbW.size) hbW.size HVL.out
   obtain ⟨O,hO⟩ : ∃ O,O = openOf k ⟨mk,mop,mds,.slice s0 mds.length t0,.slice s1 mks.length t1,mks⟩ := ⟨_,rfl⟩
   rw [← hO] at HI HSUB2 HMN2
   have hg2 : g < wr.heap.size := Nat.lt_of_lt_of_le hlt2 hb.size
   clear hO hmo hpw hsz hlt2
   go_wp2_with (go_at_call 128; refine (HI.out _ blA).mono ?_; rintro e w2 ⟨a2,c2,rfl,hmr2,hb2,hv2⟩; have hb3 : Below w.heap.size w w2 := (show Below w.heap.size w _ from hb.trans ((show Below wr.heap.size wr _ from blA).mono hb.size)).trans hb2)
   refine ⟨⟨j + 1,ms ++ O,a2,c2,by omega,by go_num,by rw [List.length_append],HMN2.out,by rw [List.length_append]; exact hmr2,HSUB2.out,by rw [List.length_append]; exact hv2,hb3⟩,by simp [intOf]; omega⟩
  ·obtain rfl : j = ms0.length := by omega
   have hmn := HMN.out
   rw [List.take_length] at hmn
   have HMN2 : Hid (ms.map MNet.net = Stil.flatKids k (ms0.map MNet.net)) := hmn
   have hsub := HSUB.out
   rw [List.take_length] at hsub
   have HSUB2 : Hid ((mVals ms).Sublist (mVals ms0)) := hsub
   clear hmn hsub
   go_wp2
   go_ret
   exact ⟨ra,rc,ms,rfl,HMN2.out,HMR.out,hb,HSUB2.out,HVL.out⟩
theorem MOwn.setO {w : World} {base : Nat} {m : MNet} (h : MOwn w base m) {a : Addr} (ha : ∀ x ∈ m.vals,x.ownBlock ≠ some a.block) (u : Value) : MOwn (w.setCell a u) base m := ⟨MOk.map m h.1 (fun _ _ _ _ _ hx ho => ownsRow_setCell_other ho (ha _ hx) u),h.2⟩
theorem MOwn.setO4 {w : World} {base b o1 o2 o3 o4 : Nat} {m : MNet} {u1 u2 u3 u4 : Value} (h : MOwn w base m) (hb : ∀ x ∈ m.vals,x.ownBlock ≠ some b) : MOwn ((((w.setCell ⟨b,o1,none⟩ u1).setCell ⟨b,o2,none⟩ u2).setCell ⟨b,o3,none⟩ u3).setCell ⟨b,o4,none⟩ u4) base m :=
 MOwn.setO (MOwn.setO (MOwn.setO (MOwn.setO h (a := ⟨b,o1,none⟩) hb u1) (a := ⟨b,o2,none⟩) hb u2) (a := ⟨b,o3,none⟩) hb u3) (a := ⟨b,o4,none⟩) hb u4
theorem i_normBlock (k : Int) (base : Nat) (ms0 : List MNet) (a : Option Addr) (cap : Nat) (w : World) (hrow : MRow w base (.slice a ms0.length cap) ms0) (hl : Stil.sizes (ms0.map MNet.net) ≤ 999999) (hbase : base ≤ w.heap.size) :
  Calls Tryz.prog 99 #[.int .i64 k,.slice a ms0.length cap] w fun e w' => NetRet w' base (Stil.blockOf k (Stil.flatKids k (ms0.map MNet.net))) e ∧ Below w.heap.size w w' := by
 have HF : Hid (∀ W B,Below w.heap.size w W → W.cell? ⟨B,0,none⟩ = some (.int .i64 k) → B < W.heap.size → Calls Tryz.prog 126 #[.slice a ms0.length cap,.slice none 0 0,.func (.func 128) #[] #[.pointer (some ⟨B,0,none⟩)]] W fun e w' => ∃ (a : Option Addr) (c : Nat) (ms : List MNet),e = .returned (.slice a ms.length c) ∧ ms.map MNet.net = Stil.flatKids k (ms0.map MNet.net) ∧ MRow w' base (.slice a ms.length c) ms ∧ Below W.heap.size W w' ∧ (mVals ms).Sublist (mVals ms0) ∧ ∀ q,(Value.slice a ms.length c).ownBlock = some q → W.heap.size ≤ q) := fun W B h h1 h2 => i_foldOpen k B base ms0 a cap W h1 h2 (hrow.below h) hl (Nat.le_trans hbase h.size)
 obtain ⟨F,hF⟩ : ∃ F,F = Stil.flatKids k (ms0.map MNet.net) := ⟨_,rfl⟩
 rw [← hF] at HF ⊢
 have HLT : Hid (∀ x ∈ mVals ms0,∀ q,x.ownBlock = some q → q < w.heap.size) := fun x hx q hq => (hrow.lt x (List.mem_cons_of_mem _ hx) q hq).2
 clear hrow hl hF
 go_enter Tryz.func99,Tryz.ntmps99
 go_upto_region 2 with (go_at_call 126; refine (HF.out _ _ blA (by simp [go_sem]) (by simp; omega)).mono ?_; rintro e w1 ⟨ra,rc,ms,rfl,hmn,hmr,hb1,hsub,hvl⟩; have HMN : Hid (ms.map MNet.net = F) := hmn; have HMR : Hid (MRow w1 base (.slice ra ms.length rc) ms) := hmr; have HNE : Hid (∀ x ∈ (Value.slice ra ms.length rc) :: mVals ms,x.ownBlock ≠ some (w.heap.size + 1)) := (by intro x hx e; rcases List.mem_cons.1 hx with rfl | hx; (have := hvl _ e; simp at this; omega); (have := HLT.out x (hsub.subset hx) _ e; omega)); clear hmn hmr hsub hvl)
 obtain ⟨hc,hf⟩ := bcell hb1
 have hzb : w.heap.size + 1 < w1.heap.size := Nat.lt_of_lt_of_le (by simp) hb1.size
 have kd : w1.cell? ⟨w.heap.size,0,none⟩ = some (.int .i64 k) := by rw [hc _ _ (by simp; omega)]; simp [go_sem]
 have z0 : w1.cell? ⟨w.heap.size + 1,0,none⟩ = some (.int .i64 0) := by rw [hc _ _ (by simp)]; simp [go_sem]
 have z1 : w1.cell? ⟨w.heap.size + 1,1,none⟩ = some (.int .i64 0) := by rw [hc _ _ (by simp)]; simp [go_sem]
 have z2 : w1.cell? ⟨w.heap.size + 1,2,none⟩ = some (.slice none 0 0) := by rw [hc _ _ (by simp)]; simp [go_sem]
 have z3 : w1.cell? ⟨w.heap.size + 1,3,none⟩ = some (.slice none 0 0) := by rw [hc _ _ (by simp)]; simp [go_sem]
 have f0 : w1.frozen? ⟨w.heap.size + 1,0,none⟩ = false := by rw [hf _ _ (by simp)]; simp [go_sem]
 have f1 : w1.frozen? ⟨w.heap.size + 1,1,none⟩ = false := by rw [hf _ _ (by simp)]; simp [go_sem]
 have f2 : w1.frozen? ⟨w.heap.size + 1,2,none⟩ = false := by rw [hf _ _ (by simp)]; simp [go_sem]
 have f3 : w1.frozen? ⟨w.heap.size + 1,3,none⟩ = false := by rw [hf _ _ (by simp)]; simp [go_sem]
 have hB1 : Below w.heap.size w w1 := blA
 clear hc hf hb1 HF HLT
 by_cases h1 : ms.length = 1
 ·obtain ⟨m,rfl⟩ := List.length_eq_one_iff.1 h1
  have hmo := HMR.out.one 0 (by simp)
  simp only [List.getElem_cons_zero] at hmo
  obtain ⟨g,c,hv,_,hlt2,_,hcell⟩ := ownsRow_cells HMR.out.1 (by simp)
  obtain ⟨a1,a2,a3,a4⟩ := mCells_get [m] 0 (by simp)
  have y0 := hcell _ _ a1
  have y1 := hcell _ _ a2
  have y2 := hcell _ _ a3
  have y3 := hcell _ _ a4
  simp only [List.getElem_cons_zero,Nat.zero_mul,Nat.zero_add] at y0 y1 y2 y3
  have hok := (MOk_iff _ _ _).1 hmo.1
  obtain ⟨d1,d2,hd⟩ := slice_of_owns hok.1
  obtain ⟨d3,d4,hd2⟩ := slice_of_owns hok.2.1
  simp only [Value.slice.injEq] at hv
  obtain ⟨rfl,_,rfl⟩ := hv
  have HBL : Hid (Stil.blockOf k F = m.net) := by show _ = _; rw [← HMN.out]; rfl
  have HNE2 : Hid (∀ x ∈ m.vals,x.ownBlock ≠ some (w.heap.size + 1)) := fun x hx => HNE.out x (List.mem_cons_of_mem _ (by rw [mVals_one]; exact hx))
  clear HNE HMN
  obtain ⟨mk,mop,mds,mav,mkv,mks⟩ := m
  simp only at hd hd2 y0 y1 y2 y3
  subst hd
  subst hd2
  have HMO : Hid (MOwn w1 base ⟨mk,mop,mds,.slice d1 mds.length d2,.slice d3 mks.length d4,mks⟩) := hmo
  clear hmo hok hcell HMR
  simp only [List.length_singleton]
  go_wp2
  refine bodyPost_ret (v := .agg #[.int .i64 mk,.int .i64 mop,.slice d1 mds.length d2,.slice d3 mks.length d4]) (by simp [results,Tryz.results99,go_sem,z0,z1,z2,z3]) rfl ⟨⟨mk,mop,mds,d1,d2,d3,d4,mks,rfl,?_,HBL.out.symm⟩,blA⟩
  exact MOwn.setO4 HMO.out HNE2.out
 ·have HBL : Hid (Stil.blockOf k F = ⟨k,⟨0,[]⟩,ms.map MNet.net⟩) := by
   show _ = _
   rw [← HMN.out]
   unfold Stil.blockOf
   rw [dif_neg (by simpa using h1)]
  have hmo : MOwn w1 base ⟨k,0,[],.slice none 0 0,.slice ra ms.length rc,ms⟩ := HMR.out.net k 0 [] (World.ownsRow_nil _ _ _ _) (fun x _ => aside_nil x)
  have HMO : Hid (MOwn w1 base ⟨k,0,[],.slice none 0 0,.slice ra ms.length rc,ms⟩) := hmo
  have HNE2 : Hid (∀ x ∈ (MNet.mk k 0 [] (.slice none 0 0) (.slice ra ms.length rc) ms).vals,x.ownBlock ≠ some (w.heap.size + 1)) := by
   intro x hx
   rw [MNet.vals_eq] at hx
   rcases List.mem_cons.1 hx with rfl | hx
   ·intro e; cases e
   ·exact HNE.out x hx
  have e1' : ((ms.length : Int) == 1) = false := by rw [beq_eq_false_iff_ne]; omega
  have e1'' : ¬ ((ms.length : Int) = 1) := by omega
  clear hmo HMR HNE HMN
  go_wp2
  refine bodyPost_ret (v := .agg #[.int .i64 k,.int .i64 0,.slice none 0 0,.slice ra ms.length rc]) (by simp [results,Tryz.results99,go_sem,z0,z1,z2,z3]) rfl ⟨⟨k,0,[],none,0,ra,rc,ms,rfl,?_,by rw [MNet.net_eq,HBL.out]⟩,blA⟩
  exact MOwn.setO4 HMO.out HNE2.out
end Go.Proofs.YtenoanhonjdpjaaGreatDoor
/- Y7e,Y7f: texts put together. -/
set_option maxHeartbeats 4000000
set_option maxRecDepth 100000
/- The program's chapter 4: the form of each of some nets. -/
namespace Go.Proofs.YtenoanhonjdpjaaGreatDoor
open Go.RowKit Go.Sort Go.BigFrame
theorem i_each1 (x : Stil.Net) (B base lo : Nat) (ra : Option Addr) (rc : Nat) (ms : List MNet) (av kv : Value) (w : World) (ih : ∀ W,Below w.heap.size w W → Calls Tryz.prog 62 #[.agg #[.int .i64 x.kind,.int .i64 x.one.op,av,kv]] W fun e w' => NetRet w' W.heap.size (Stil.normNet x) e ∧ Below W.heap.size W w')
  (hav : DevsAt w av x.one.args) (hkv : NetsAt w kv x.kids) (hbx : w.cell? ⟨B,0,none⟩ = some (.func (.func 62) #[] #[])) (hB : B < w.heap.size) (hrow : MRow w base (.slice ra ms.length rc) ms) (hl : ms.length + 1 ≤ 1000000) (hbase : base ≤ w.heap.size) (hlo : lo ≤ w.heap.size) (hvl : ∀ k,(Value.slice ra ms.length rc).ownBlock = some k → lo ≤ k) :
  Calls Tryz.prog 127 #[.slice ra ms.length rc,.agg #[.int .i64 x.kind,.int .i64 x.one.op,av,kv],.pointer (some ⟨B,0,none⟩)] w fun e w' => ∃ (a : Option Addr) (c : Nat) (m : MNet),e = .returned (.slice a (ms.length + 1) c) ∧ m.net = Stil.normNet x ∧ MRow w' base (.slice a (ms.length + 1) c) (ms ++ [m]) ∧ Below lo w w' ∧ ∀ k,(Value.slice a (ms.length + 1) c).ownBlock = some k → lo ≤ k := by
 have IH : Hid (∀ W,Below w.heap.size w W → Calls Tryz.prog 62 #[.agg #[.int .i64 x.kind,.int .i64 x.one.op,av,kv]] W fun e w' => NetRet w' W.heap.size (Stil.normNet x) e ∧ Below W.heap.size W w') := ih
 have HMR : Hid (MRow w base (.slice ra ms.length rc) ms) := hrow
 have HVL : Hid (∀ k,(Value.slice ra ms.length rc).ownBlock = some k → lo ≤ k) := hvl
 obtain ⟨p0,r0,rfl,hz8⟩ := hav
 obtain ⟨p1,r1,rfl,hz9⟩ := hkv
 clear hz8 hz9 ih hrow hvl
 obtain ⟨N,hN⟩ : ∃ N,N = Stil.normNet x := ⟨_,rfl⟩
 rw [← hN] at IH ⊢
 clear hN
 go_enter Tryz.func127,Tryz.ntmps127
 go_wp2_with (first | (go_at_call 62; refine (IH.out _ blA).mono ?_; rintro e w1 ⟨⟨mk,mop,mds,s0,t0,s1,t1,mks,rfl,hmo,hmn⟩,hb1⟩; have hbw1 : Below w.heap.size w w1 := blA; have hle1 : w.heap.size ≤ w1.heap.size := hbw1.size; have HMO : Hid (MOwn w1 w.heap.size ⟨mk,mop,mds,.slice s0 mds.length t0,.slice s1 mks.length t1,mks⟩) := hmo.le (by simp); have HMN : Hid ((MNet.mk mk mop mds (.slice s0 mds.length t0) (.slice s1 mks.length t1) mks).net = N) := hmn; clear hmo hmn) | (at_builtin; refine wpList_grow_nets rfl _ _ rfl base lo ra rc ms [MNet.mk mk mop mds (.slice s0 mds.length t0) (.slice s1 mks.length t1) mks] _ 1 rfl rfl ((HMR.out.below hbw1).below (below_alloc _ _)) (fun _ => ⟨_,rfl,by exact cells4e (by simp)⟩) (fun m hm => by rw [List.mem_singleton.1 hm]; exact (HMO.out.1.le hbase).below (below_alloc _ _)) (HMR.out.apart (w1 := w1) (b1 := w.heap.size) (fun m hm => by rw [List.mem_singleton.1 hm]; exact HMO.out.1) (Nat.le_refl _) (by rw [mVals_one]; exact HMO.out.2)) (by simp only [List.length_singleton]; exact hl) (by simp only [World.size_alloc]; omega) (by simp only [World.size_alloc]; omega) HVL.out ?_; intro a6 c6 w6 hmr6 hb6 hv6; have HM6 : Hid (MRow w6 base (.slice a6 (ms.length + 1) c6) (ms ++ [MNet.mk mk mop mds (.slice s0 mds.length t0) (.slice s1 mks.length t1) mks])) := hmr6; have HV6 : Hid (∀ k,(Value.slice a6 (ms.length + 1) c6).ownBlock = some k → lo ≤ k) := hv6; clear hmr6 hv6; have hb7 : Below lo w w6 := (((bl_alloc hbw1 _).mono hlo)).trans hb6))
 go_ret
 exact ⟨a6,c6,_,rfl,HMN.out,HM6.out,hb7,HV6.out⟩
theorem i_foldEach (es : List Stil.Net) (ih : ∀ x ∈ es,∀ (av kv : Value) (w : World),DevsAt w av x.one.args → NetsAt w kv x.kids → Calls Tryz.prog 62 #[.agg #[.int .i64 x.kind,.int .i64 x.one.op,av,kv]] w fun e w' => NetRet w' w.heap.size (Stil.normNet x) e ∧ Below w.heap.size w w')
  (B : Nat) (v : Value) (w : World) (hat : NetsAt w v es) (hl : es.length ≤ 999999) (hbx : w.cell? ⟨B,0,none⟩ = some (.func (.func 62) #[] #[])) (hB : B < w.heap.size) :
  Calls Tryz.prog 126 #[v,.slice none 0 0,.func (.func 127) #[] #[.pointer (some ⟨B,0,none⟩)]] w fun e w' => ∃ (a : Option Addr) (c : Nat) (ms : List MNet),e = .returned (.slice a ms.length c) ∧ ms.map MNet.net = es.map Stil.normNet ∧ MRow w' w.heap.size (.slice a ms.length c) ms ∧ Below w.heap.size w w' := by
 obtain ⟨a,cap,rfl,hc⟩ := hat
 have HA : Hid (∀ i (h : i < es.length),∃ b o,a = some ⟨b,o,none⟩ ∧ b < w.heap.size ∧ NetAt w b (o + i * 4) es[i]) := hc
 have IH : Hid (∀ x ∈ es,∀ (av kv : Value) (w : World),DevsAt w av x.one.args → NetsAt w kv x.kids → Calls Tryz.prog 62 #[.agg #[.int .i64 x.kind,.int .i64 x.one.op,av,kv]] w fun e w' => NetRet w' w.heap.size (Stil.normNet x) e ∧ Below w.heap.size w w') := ih
 have HBX : Hid (w.cell? ⟨B,0,none⟩ = some (.func (.func 62) #[] #[])) := hbx
 clear hc ih hbx
 go_enter Tryz.func126,Tryz.ntmps126
 go_wp2
 go_loopw [1,11] (fun d i wr => ∃ (j : Nat) (ms : List MNet) (ra : Option Addr) (rc : Nat),j ≤ es.length ∧ i = .int .i64 j ∧ d = .slice ra ms.length rc ∧ ms.map MNet.net = (es.take j).map Stil.normNet ∧ MRow wr w.heap.size (.slice ra ms.length rc) ms ∧ Below w.heap.size w wr) (fun _ i _ => es.length - (intOf i).toNat)
 case atStart => exact ⟨0,[],none,0,by omega,rfl,rfl,rfl,MRow.nil _ _,Below.refl _ _⟩
 case round =>
  obtain ⟨j,ms,ra,rc,hj,rfl,rfl,hmn,hmr,hb⟩ := hrel
  have HMN : Hid (ms.map MNet.net = (es.take j).map Stil.normNet) := hmn
  have HMR : Hid (MRow wr w.heap.size (.slice ra ms.length rc) ms) := hmr
  clear hmn hmr
  by_cases hlt : j < es.length
  ·have hml : ms.length = j := by
    have h1 := congrArg List.length HMN.out
    rw [List.length_map,List.length_map,List.length_take] at h1
    omega
   obtain ⟨b,o,rfl,hbl,hn⟩ := HA.out j hlt
   obtain ⟨x0,x1,av,kv,x2,x3,hav,hkv⟩ := (NetAt.below hb _ _ _ hn hbl).open
   have HTS : Hid (es.take (j + 1) = es.take j ++ [es[j]]) := List.take_succ_eq_append_getElem hlt
   have HI : Hid (∀ W,Below wr.heap.size wr W → Calls Tryz.prog 127 #[.slice ra ms.length rc,.agg #[.int .i64 es[j].kind,.int .i64 es[j].one.op,av,kv],.pointer (some ⟨B,0,none⟩)] W fun e w' => ∃ (a : Option Addr) (c : Nat) (m : MNet),e = .returned (.slice a (ms.length + 1) c) ∧ m.net = Stil.normNet es[j] ∧ MRow w' w.heap.size (.slice a (ms.length + 1) c) (ms ++ [m]) ∧ Below w.heap.size W w' ∧ ∀ k,(Value.slice a (ms.length + 1) c).ownBlock = some k → w.heap.size ≤ k) := by
    intro W hW
    have hbW := hb.trans (hW.mono hb.size)
    exact i_each1 es[j] B w.heap.size w.heap.size ra rc ms av kv W (fun V hV => IH.out es[j] (List.getElem_mem hlt) av kv V ((hav.below hW).below hV) ((hkv.below hW).below hV)) (hav.below hW) (hkv.below hW) ((hbW.cell (p := ⟨B,0,none⟩) hB).trans HBX.out) (Nat.lt_of_lt_of_le hB hbW.size) (HMR.out.below hW) (by omega) hbW.size hbW.size (fun k hk => (HMR.out.1.lt k hk).1)
   obtain ⟨x,hx⟩ : ∃ x,x = es[j] := ⟨_,rfl⟩
   rw [← hx] at HI x0 x1 hav hkv HTS
   obtain ⟨p0,r0,rfl,hz8⟩ := hav
   obtain ⟨p1,r1,rfl,hz9⟩ := hkv
   have hb0 : b < wr.heap.size := Nat.lt_of_lt_of_le hbl hb.size
   clear hx hn hz8 hz9 hml hbl
   go_wp2_with (go_at_call 127; refine (HI.out _ blA).mono ?_; rintro e w2 ⟨a2,c2,m,rfl,hmn2,hmr2,hb2,hv2⟩; have hb3 : Below w.heap.size w w2 := (show Below w.heap.size w _ from hb.trans ((show Below wr.heap.size wr _ from blA).mono hb.size)).trans hb2; have HN2 : Hid (m.net = Stil.normNet x) := hmn2; have HR2 : Hid (MRow w2 w.heap.size (.slice a2 (ms.length + 1) c2) (ms ++ [m])) := hmr2; clear hmn2 hmr2 hv2)
   refine ⟨⟨j + 1,ms ++ [m],a2,c2,by omega,by go_num,by simp,?_,by rw [List.length_append]; exact HR2.out,hb3⟩,by simp [intOf]; omega⟩
   rw [HTS.out,List.map_append,List.map_append,HMN.out,List.map_singleton,List.map_singleton,HN2.out]
  ·obtain rfl : j = es.length := by omega
   have hmn := HMN.out
   rw [List.take_length] at hmn
   have HMN2 : Hid (ms.map MNet.net = es.map Stil.normNet) := hmn
   clear hmn
   go_wp2
   go_ret
   exact ⟨ra,rc,ms,rfl,HMN2.out,HMR.out,hb⟩
theorem i_normEach (es : List Stil.Net) (ih : ∀ x ∈ es,∀ (av kv : Value) (w : World),DevsAt w av x.one.args → NetsAt w kv x.kids → Calls Tryz.prog 62 #[.agg #[.int .i64 x.kind,.int .i64 x.one.op,av,kv]] w fun e w' => NetRet w' w.heap.size (Stil.normNet x) e ∧ Below w.heap.size w w')
  (v : Value) (w : World) (hat : NetsAt w v es) (hl : es.length ≤ 999999) :
  Calls Tryz.prog 98 #[v,.func (.func 62) #[] #[]] w fun e w' => ∃ (a : Option Addr) (c : Nat) (ms : List MNet),e = .returned (.slice a ms.length c) ∧ ms.map MNet.net = es.map Stil.normNet ∧ MRow w' w.heap.size (.slice a ms.length c) ms ∧ Below w.heap.size w w' := by
 have HF : Hid (∀ W B,Below w.heap.size w W → W.cell? ⟨B,0,none⟩ = some (.func (.func 62) #[] #[]) → B < W.heap.size → Calls Tryz.prog 126 #[v,.slice none 0 0,.func (.func 127) #[] #[.pointer (some ⟨B,0,none⟩)]] W fun e w' => ∃ (a : Option Addr) (c : Nat) (ms : List MNet),e = .returned (.slice a ms.length c) ∧ ms.map MNet.net = es.map Stil.normNet ∧ MRow w' W.heap.size (.slice a ms.length c) ms ∧ Below W.heap.size W w') := fun W B h h1 h2 => i_foldEach es ih B v W (hat.below h) hl h1 h2
 obtain ⟨p0,r0,rfl,hz8⟩ := hat
 clear hz8 ih
 go_enter Tryz.func98,Tryz.ntmps98
 go_wp2_with (go_at_call 126; refine (HF.out _ _ blA (by simp [go_sem]) (by simp)).mono ?_; rintro e w1 ⟨ra,rc,ms,rfl,hmn,hmr,hb1⟩; have HMN : Hid (ms.map MNet.net = es.map Stil.normNet) := hmn; have HMR : Hid (MRow w1 _ (.slice ra ms.length rc) ms) := hmr; clear hmn hmr)
 go_ret
 exact ⟨ra,rc,ms,rfl,HMN.out,HMR.out.le (by simp),blA⟩
end Go.Proofs.YtenoanhonjdpjaaGreatDoor
/- The program's chapter 4: the normal form of one net. -/
namespace Go.Proofs.YtenoanhonjdpjaaGreatDoor
open Go.RowKit Go.Sort Go.BigFrame
set_option maxHeartbeats 2000000 in
set_option maxRecDepth 100000 in
theorem i_normNet (n : Stil.Net) : Stil.netFits n → Stil.netSize n ≤ 999999 → ∀ (av kv : Value) (w : World),DevsAt w av n.one.args → NetsAt w kv n.kids → Calls Tryz.prog 62 #[.agg #[.int .i64 n.kind,.int .i64 n.one.op,av,kv]] w fun e w' => NetRet w' w.heap.size (Stil.normNet n) e ∧ Below w.heap.size w w' := by
 induction n using Stil.net_ind with
 | h k e kids ih =>
  intro hft hsz av kv w hav hkv
  obtain ⟨_,he,hl,hk⟩ := (Stil.netFits_eq _ _ _).1 hft
  obtain ⟨hs1,hs2⟩ := Stil.kids_sizes hsz
  simp only at hav hkv
  have hkl : kids.length ≤ 999999 := by
   have h1 := Stil.len_sizes (kids.map Stil.normNet)
   rw [List.length_map] at h1
   omega
  have H1 : Hid (∀ W,Below w.heap.size w W → Calls Tryz.prog 98 #[kv,.func (.func 62) #[] #[]] W fun e w' => ∃ (a : Option Addr) (c : Nat) (ms : List MNet),e = .returned (.slice a ms.length c) ∧ ms.map MNet.net = kids.map Stil.normNet ∧ MRow w' W.heap.size (.slice a ms.length c) ms ∧ Below W.heap.size W w') := fun W h => i_normEach kids (fun x hx => ih x hx (hk x hx) (hs2 x hx)) kv W (hkv.below h) hkl
  have H2 : Hid (∀ W,Below w.heap.size w W → Calls Tryz.prog 90 #[.agg #[.int .i64 e.op,av]] W fun e' w' => ∃ u,e' = .returned (.agg #[.int .i64 e.op,u]) ∧ w'.ownsRow W.heap.size 42 3 u e.args.length (devsCells e.args) ∧ Below W.heap.size W w') := fun W h => i_normElem e.op av e.args W (hav.below h) he.2.1
  have HSZ : Hid (Stil.sizes (kids.map Stil.normNet) ≤ 999999) := hs1
  obtain ⟨p0,r0,rfl,hz8⟩ := hav
  obtain ⟨p1,r1,rfl,hz9⟩ := hkv
  clear ih hft he hl hk hsz hs1 hs2 hz8 hz9 hkl
  by_cases hk23 : k = 2 ∨ k = 3
  ·have HN : Hid (Stil.normNet ⟨k,e,kids⟩ = Stil.blockOf k (Stil.flatKids k (kids.map Stil.normNet))) := by show _ = _; rw [Stil.normNet_eq,if_pos hk23]
   rw [HN.out]
   have HB : Hid (∀ W base ms0 a cap,MRow W base (.slice a ms0.length cap) ms0 → ms0.map MNet.net = kids.map Stil.normNet → base ≤ W.heap.size → Calls Tryz.prog 99 #[.int .i64 k,.slice a ms0.length cap] W fun e w' => NetRet w' base (Stil.blockOf k (Stil.flatKids k (kids.map Stil.normNet))) e ∧ Below W.heap.size W w') := by
    intro W base ms0 a cap h1 h2 h3
    have := i_normBlock k base ms0 a cap W h1 (by rw [h2]; exact HSZ.out) h3
    rwa [h2] at this
   obtain ⟨N,hN⟩ : ∃ N,N = Stil.blockOf k (Stil.flatKids k (kids.map Stil.normNet)) := ⟨_,rfl⟩
   rw [← hN] at HB ⊢
   clear HN hN HSZ H2
   rcases hk23 with rfl | rfl
   all_goals
    go_enter Tryz.func62,Tryz.ntmps62
    go_wp2_with (first | (go_at_call 98; refine (H1.out _ blA).mono ?_; rintro e w1 ⟨ra,rc,ms,rfl,hmn,hmr,hb1⟩; obtain ⟨hc,hf⟩ := bcell hb1; have HMN : Hid (ms.map MNet.net = kids.map Stil.normNet) := hmn; have HMR : Hid (MRow w1 _ (.slice ra ms.length rc) ms) := hmr; clear hmn hmr; have hza : w.heap.size < w1.heap.size := Nat.lt_of_lt_of_le (by simp; omega) hb1.size; have hzb : w.heap.size + 1 < w1.heap.size := Nat.lt_of_lt_of_le (by simp) hb1.size) | (go_at_call 99; refine (HB.out _ _ _ _ _ HMR.out HMN.out (hb1.size)).mono ?_; rintro e w3 ⟨⟨mk,mop,mds,s0,t0,s1,t1,mks,rfl,hmo,hmn⟩,hb3⟩; obtain ⟨hc3,hf3⟩ := bcell hb3; have hze : w.heap.size + 1 < w3.heap.size := Nat.lt_of_lt_of_le hzb hb3.size; have HMO : Hid (MOwn w3 (w.heap.size + 2) ⟨mk,mop,mds,.slice s0 mds.length t0,.slice s1 mks.length t1,mks⟩) := hmo.le (by simp); have HMN2 : Hid ((MNet.mk mk mop mds (.slice s0 mds.length t0) (.slice s1 mks.length t1) mks).net = N) := hmn; clear hmo hmn))
    have b0 : w3.cell? ⟨w.heap.size + 1,0,none⟩ = some (.int .i64 0) := by rw [hc3 _ _ hzb,hc _ _ (by simp)]; simp [go_sem]
    have b1 : w3.cell? ⟨w.heap.size + 1,1,none⟩ = some (.int .i64 0) := by rw [hc3 _ _ hzb,hc _ _ (by simp)]; simp [go_sem]
    have b2 : w3.cell? ⟨w.heap.size + 1,2,none⟩ = some (.slice none 0 0) := by rw [hc3 _ _ hzb,hc _ _ (by simp)]; simp [go_sem]
    have b3 : w3.cell? ⟨w.heap.size + 1,3,none⟩ = some (.slice none 0 0) := by rw [hc3 _ _ hzb,hc _ _ (by simp)]; simp [go_sem]
    refine bodyPost_ret (v := .agg #[.int .i64 mk,.int .i64 mop,.slice s0 mds.length t0,.slice s1 mks.length t1]) (by simp [results,Tryz.results62,go_sem,b0,b1,b2,b3]) rfl ⟨⟨mk,mop,mds,s0,t0,s1,t1,mks,rfl,?_,HMN2.out⟩,blA⟩
    refine MOwn.le (base := w.heap.size + 2) ?_ (by omega)
    exact MOwn.setO4 HMO.out (fun x hx e => by have := (HMO.out.1.lt _ x hx _ e).1; omega)
  ·have HN : Hid (Stil.normNet ⟨k,e,kids⟩ = ⟨k,e,kids.map Stil.normNet⟩) := by show _ = _; rw [Stil.normNet_eq,if_neg hk23]
   rw [HN.out]
   have hk2 : (k == 2) = false := by rw [beq_eq_false_iff_ne]; omega
   have hk3 : (k == 3) = false := by rw [beq_eq_false_iff_ne]; omega
   obtain ⟨ks,hks⟩ : ∃ ks,ks = kids.map Stil.normNet := ⟨_,rfl⟩
   rw [← hks] at H1 ⊢
   clear HN HSZ hks hk23
   go_enter Tryz.func62,Tryz.ntmps62
   go_wp2_with (first | (go_at_call 98; refine (H1.out _ blA).mono ?_; rintro e w1 ⟨ra,rc,ms,rfl,hmn,hmr,hb1⟩; obtain ⟨hc,hf⟩ := bcell hb1; have HMN : Hid (ms.map MNet.net = ks) := hmn; have HMR : Hid (MRow w1 _ (.slice ra ms.length rc) ms) := hmr; clear hmn hmr; have hza : w.heap.size < w1.heap.size := Nat.lt_of_lt_of_le (by simp; omega) hb1.size; have hzb : w.heap.size + 1 < w1.heap.size := Nat.lt_of_lt_of_le (by simp) hb1.size))
   have q0 : w1.cell? ⟨w.heap.size,0,none⟩ = some (.int .i64 k) := by rw [hc _ _ (by simp; omega)]; simp [go_sem]
   have q1 : w1.cell? ⟨w.heap.size,1,none⟩ = some (.int .i64 e.op) := by rw [hc _ _ (by simp; omega)]; simp [go_sem]
   have q2 : w1.cell? ⟨w.heap.size,2,none⟩ = some (.slice p0 e.args.length r0) := by rw [hc _ _ (by simp; omega)]; simp [go_sem]
   have q3 : w1.cell? ⟨w.heap.size,3,none⟩ = some (.slice p1 kids.length r1) := by rw [hc _ _ (by simp; omega)]; simp [go_sem]
   have tt0 : w1.cell? ⟨w.heap.size + 1,0,none⟩ = some (.int .i64 0) := by rw [hc _ _ (by simp)]; simp [go_sem]
   have tt1 : w1.cell? ⟨w.heap.size + 1,1,none⟩ = some (.int .i64 0) := by rw [hc _ _ (by simp)]; simp [go_sem]
   have tt2 : w1.cell? ⟨w.heap.size + 1,2,none⟩ = some (.slice none 0 0) := by rw [hc _ _ (by simp)]; simp [go_sem]
   have tt3 : w1.cell? ⟨w.heap.size + 1,3,none⟩ = some (.slice none 0 0) := by rw [hc _ _ (by simp)]; simp [go_sem]
   have v0 : w1.frozen? ⟨w.heap.size + 1,0,none⟩ = false := by rw [hf _ _ (by simp)]; simp [go_sem]
   have v1 : w1.frozen? ⟨w.heap.size + 1,1,none⟩ = false := by rw [hf _ _ (by simp)]; simp [go_sem]
   have v2 : w1.frozen? ⟨w.heap.size + 1,2,none⟩ = false := by rw [hf _ _ (by simp)]; simp [go_sem]
   have v3 : w1.frozen? ⟨w.heap.size + 1,3,none⟩ = false := by rw [hf _ _ (by simp)]; simp [go_sem]
   have hB1 : Below w.heap.size w w1 := blA
   have HMR2 : Hid (MRow w1 (w.heap.size + 2) (.slice ra ms.length rc) ms) := HMR.out.le (by simp)
   have hz2 : w.heap.size + 2 ≤ w1.heap.size := by omega
   clear hc hf HMR hb1
   go_region_law (go_simp; go_at_call 90; refine (H2.out _ (by exact hB1.drew)).mono ?_; rintro e w2 ⟨u,rfl,g5,hb2⟩; obtain ⟨a5,c5,hu5⟩ := slice_of_owns g5; subst hu5; have hb5 : Below w1.heap.size w1 w2 := ((Below.refl w1.heap.size w1).drew).trans hb2; have HG5 : Hid (w2.ownsRow w1.heap.size 42 3 (.slice a5 e.args.length c5) e.args.length (devsCells e.args)) := g5; clear g5 hb2; have hzc : w.heap.size < w2.heap.size := Nat.lt_of_lt_of_le hza hb5.size; have hzd : w.heap.size + 1 < w2.heap.size := Nat.lt_of_lt_of_le hzb hb5.size; have y0 : w2.cell? ⟨w.heap.size,0,none⟩ = some (.int .i64 k) := (hb5.cell (p := ⟨w.heap.size,0,none⟩) hza).trans q0; have y1 : w2.cell? ⟨w.heap.size,1,none⟩ = some (.int .i64 e.op) := (hb5.cell (p := ⟨w.heap.size,1,none⟩) hza).trans q1; have y2 : w2.cell? ⟨w.heap.size,2,none⟩ = some (.slice p0 e.args.length r0) := (hb5.cell (p := ⟨w.heap.size,2,none⟩) hza).trans q2; have y3 : w2.cell? ⟨w.heap.size,3,none⟩ = some (.slice p1 kids.length r1) := (hb5.cell (p := ⟨w.heap.size,3,none⟩) hza).trans q3; have z0 : w2.cell? ⟨w.heap.size + 1,0,none⟩ = some (.int .i64 0) := (hb5.cell (p := ⟨w.heap.size + 1,0,none⟩) hzb).trans tt0; have z1 : w2.cell? ⟨w.heap.size + 1,1,none⟩ = some (.int .i64 0) := (hb5.cell (p := ⟨w.heap.size + 1,1,none⟩) hzb).trans tt1; have z2 : w2.cell? ⟨w.heap.size + 1,2,none⟩ = some (.slice none 0 0) := (hb5.cell (p := ⟨w.heap.size + 1,2,none⟩) hzb).trans tt2; have z3 : w2.cell? ⟨w.heap.size + 1,3,none⟩ = some (.slice none 0 0) := (hb5.cell (p := ⟨w.heap.size + 1,3,none⟩) hzb).trans tt3; have f0 : w2.frozen? ⟨w.heap.size + 1,0,none⟩ = false := (hb5.frozen (p := ⟨w.heap.size + 1,0,none⟩) hzb).trans v0; have f1 : w2.frozen? ⟨w.heap.size + 1,1,none⟩ = false := (hb5.frozen (p := ⟨w.heap.size + 1,1,none⟩) hzb).trans v1; have f2 : w2.frozen? ⟨w.heap.size + 1,2,none⟩ = false := (hb5.frozen (p := ⟨w.heap.size + 1,2,none⟩) hzb).trans v2; have f3 : w2.frozen? ⟨w.heap.size + 1,3,none⟩ = false := (hb5.frozen (p := ⟨w.heap.size + 1,3,none⟩) hzb).trans v3)
   all_goals
    try go_wp2
    refine bodyPost_ret (v := .agg #[.int .i64 k,.int .i64 e.op,.slice a5 e.args.length c5,.slice ra ms.length rc]) (by simp [results,Tryz.results62,go_sem,z0,z1,z2,z3]) rfl ⟨⟨k,e.op,e.args,a5,c5,ra,rc,ms,rfl,?_,by rw [MNet.net_eq,HMN.out]⟩,?_⟩
    ·refine MOwn.le (base := w.heap.size + 2) ?_ (by omega)
     have hmo : MOwn w2 (w.heap.size + 2) ⟨k,e.op,e.args,.slice a5 e.args.length c5,.slice ra ms.length rc,ms⟩ := (HMR2.out.below hb5).net k e.op e.args (Joins.ownsRow_le HG5.out hz2) (fun x hx => (aside_new (n := w1.heap.size) (fun j hj => (HMR2.out.lt x hx j hj).2) (fun j hj => (HG5.out.lt j hj).1)).symm)
     exact MOwn.setO4 hmo (fun x hx e => by have := (hmo.1.lt _ x hx _ e).1; omega)
    ·have hB2 : Below w.heap.size w w2 := hB1.trans (hb5.mono hB1.size)
     (repeat (first | with_reducible exact Below.refl _ _ | with_reducible assumption | with_reducible refine bl_set (by first | exact Nat.le_refl _ | (simp; done) | (simp; omega) | omega) ?_ _ | with_reducible refine bl_alloc ?_ _ | with_reducible refine bl_drewN ?_ _ | with_reducible refine bl_drew ?_ | with_reducible refine bl_grow ?_ _ _ | with_reducible refine bl_call ?_ (by assumption)))
end Go.Proofs.YtenoanhonjdpjaaGreatDoor
