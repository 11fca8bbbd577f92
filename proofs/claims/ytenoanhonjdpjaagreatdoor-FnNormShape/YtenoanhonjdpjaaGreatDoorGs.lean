/- Z8c,Z8d,Z8a,Z8b: texts put together. -/
import Derived.Test.YtenoanhonjdpjaaGreatDoorY7g
import Derived.Test.YtenoanhonjdpjaaGreatDoorGO
import Derived.Test.YtenoanhonjdpjaaGreatDoorHf
import Derived.Test.YtenoanhonjdpjaaGreatDoorGr
set_option maxHeartbeats 4000000
set_option maxRecDepth 100000
/- The program's chapter 4: nets in series. -/
namespace Go.Proofs.YtenoanhonjdpjaaGreatDoor
open Go.RowKit Go.Sort Go.BigFrame
/-- A net is answered that owns its memory: of rows that are told,or new. -/
def NetRetV (w : World) (base : Nat) (vs : List Value) (lo : Nat) (n : Stil.Net) (e : Ending) : Prop := ∃ (k op : Int) (ds : List Stil.Dev) (a1 : Option Addr) (c1 : Nat) (a2 : Option Addr) (c2 : Nat) (ms : List MNet),e = .returned (.agg #[.int .i64 k,.int .i64 op,.slice a1 ds.length c1,.slice a2 ms.length c2]) ∧
 MOwn w base ⟨k,op,ds,.slice a1 ds.length c1,.slice a2 ms.length c2,ms⟩ ∧ (MNet.mk k op ds (.slice a1 ds.length c1) (.slice a2 ms.length c2) ms).net = n ∧ ∀ x ∈ (MNet.mk k op ds (.slice a1 ds.length c1) (.slice a2 ms.length c2) ms).vals,x ∈ vs ∨ ∀ q,x.ownBlock = some q -> lo <= q
theorem i_normBlock2 (k : Int) (base : Nat) (ms0 : List MNet) (a : Option Addr) (cap : Nat) (w : World) (hrow : MRow w base (.slice a ms0.length cap) ms0) (hl : Stil.sizes (ms0.map MNet.net) <= 999999) (hbase : base <= w.heap.size) :
  Calls Tryz.prog 99 #[.int .i64 k,.slice a ms0.length cap] w fun e w' => NetRetV w' base (mVals ms0) w.heap.size (Stil.blockOf k (Stil.flatKids k (ms0.map MNet.net))) e ∧ Below w.heap.size w w' := by
 have HF : Hid (∀ W B,Below w.heap.size w W -> W.cell? ⟨B,0,none⟩ = some (.int .i64 k) -> B < W.heap.size -> Calls Tryz.prog 126 #[.slice a ms0.length cap,.slice none 0 0,.func (.func 128) #[] #[.pointer (some ⟨B,0,none⟩)]] W fun e w' => ∃ (a : Option Addr) (c : Nat) (ms : List MNet),e = .returned (.slice a ms.length c) ∧ ms.map MNet.net = Stil.flatKids k (ms0.map MNet.net) ∧ MRow w' base (.slice a ms.length c) ms ∧ Below W.heap.size W w' ∧ (mVals ms).Sublist (mVals ms0) ∧ ∀ q,(Value.slice a ms.length c).ownBlock = some q -> W.heap.size <= q) := fun W B h h1 h2 => i_foldOpen k B base ms0 a cap W h1 h2 (hrow.below h) hl (Nat.le_trans hbase h.size)
 obtain ⟨F,hF⟩ : ∃ F,F = Stil.flatKids k (ms0.map MNet.net) := ⟨_,rfl⟩
 rw [← hF] at HF ⊢
 have HLT : Hid (∀ x ∈ mVals ms0,∀ q,x.ownBlock = some q -> q < w.heap.size) := fun x hx q hq => (hrow.lt x (List.mem_cons_of_mem _ hx) q hq).2
 clear hrow hl hF
 go_enter Tryz.func99,Tryz.ntmps99
 go_upto_region 2 with (go_at_call 126; refine (HF.out _ _ blA (by simp [go_sem]) (by simp; omega)).mono ?_; rintro e w1 ⟨ra,rc,ms,rfl,hmn,hmr,hb1,hsub,hvl⟩; have HMN : Hid (ms.map MNet.net = F) := hmn; have HMR : Hid (MRow w1 base (.slice ra ms.length rc) ms) := hmr; have HNE : Hid (∀ x ∈ (Value.slice ra ms.length rc) :: mVals ms,x.ownBlock ≠ some (w.heap.size + 1)) := (by intro x hx e; rcases List.mem_cons.1 hx with rfl | hx; (have := hvl _ e; simp at this; omega); (have := HLT.out x (hsub.subset hx) _ e; omega)); have HVS : Hid (∀ x ∈ (Value.slice ra ms.length rc) :: mVals ms,x ∈ mVals ms0 ∨ ∀ q,x.ownBlock = some q -> w.heap.size <= q) := (by intro x hx; rcases List.mem_cons.1 hx with rfl | hx; (exact .inr (fun q hq => Nat.le_trans (by simp; omega) (hvl q hq))); (exact .inl (hsub.subset hx))); clear hmn hmr hsub hvl)
 obtain ⟨hc,hf⟩ := bcell hb1
 have hzb : w.heap.size + 1 < w1.heap.size := Nat.lt_of_lt_of_le (by simp) hb1.size
 have kd : w1.cell? ⟨w.heap.size,0,none⟩ = some (.int .i64 k) := by rw [hc _ _ (by simp; omega)]; simp [go_sem]
 have z0 : w1.cell? ⟨w.heap.size + 1,0,none⟩ = some (.int .i64 0) := by rw [hc _ _ (by simp)]; simp [go_sem]
 have z1 : w1.cell? ⟨w.heap.size + 1,1,none⟩ = some (.int .i64 0) := by rw [hc _ _ (by simp)]; simp [go_sem]
 have z2 : w1.cell? ⟨w.heap.size + 1,2,none⟩ = some (.slice none 0 0) := by rw [hc _ _ (by simp)]; simp [go_sem]
 have z3 : w1.cell? ⟨w.heap.size + 1,3,none⟩ = some (.slice none 0 0) := by rw [hc _ _ (by simp)]; simp [go_sem]
 have f0 : w1.frozen? ⟨w.heap.size + 1,0,none⟩ = false := by rw [hf _ _ (by simp)]; simp [go_sem]
 have f1 : w1.frozen? ⟨w.heap.size + 1,1,none⟩ = false := by rw [hf _ _ (by simp)]; simp [go_sem]
 have f2 : w1.frozen? ⟨w.heap.size + 1,2,none⟩ = false := by rw [hf _ _ (by simp)]; simp [go_sem]
 have f3 : w1.frozen? ⟨w.heap.size + 1,3,none⟩ = false := by rw [hf _ _ (by simp)]; simp [go_sem]
 have hB1 : Below w.heap.size w w1 := blA
 clear hc hf hb1 HF HLT
 by_cases h1 : ms.length = 1
 ·obtain ⟨m,rfl⟩ := List.length_eq_one_iff.1 h1
  have hmo := HMR.out.one 0 (by simp)
  simp only [List.getElem_cons_zero] at hmo
  obtain ⟨g,c,hv,_,hlt2,_,hcell⟩ := ownsRow_cells HMR.out.1 (by simp)
  obtain ⟨a1,a2,a3,a4⟩ := mCells_get [m] 0 (by simp)
  have y0 := hcell _ _ a1
  have y1 := hcell _ _ a2
  have y2 := hcell _ _ a3
  have y3 := hcell _ _ a4
  simp only [List.getElem_cons_zero,Nat.zero_mul,Nat.zero_add] at y0 y1 y2 y3
  have hok := (MOk_iff _ _ _).1 hmo.1
  obtain ⟨d1,d2,hd⟩ := slice_of_owns hok.1
  obtain ⟨d3,d4,hd2⟩ := slice_of_owns hok.2.1
  simp only [Value.slice.injEq] at hv
  obtain ⟨rfl,_,rfl⟩ := hv
  have HBL : Hid (Stil.blockOf k F = m.net) := by show _ = _; rw [← HMN.out]; rfl
  have HNE2 : Hid (∀ x ∈ m.vals,x.ownBlock ≠ some (w.heap.size + 1)) := fun x hx => HNE.out x (List.mem_cons_of_mem _ (by rw [mVals_one]; exact hx))
  have HVS2 : Hid (∀ x ∈ m.vals,x ∈ mVals ms0 ∨ ∀ q,x.ownBlock = some q -> w.heap.size <= q) := fun x hx => HVS.out x (List.mem_cons_of_mem _ (by rw [mVals_one]; exact hx))
  clear HNE HMN HVS
  obtain ⟨mk,mop,mds,mav,mkv,mks⟩ := m
  simp only at hd hd2 y0 y1 y2 y3
  subst hd
  subst hd2
  have HMO : Hid (MOwn w1 base ⟨mk,mop,mds,.slice d1 mds.length d2,.slice d3 mks.length d4,mks⟩) := hmo
  clear hmo hok hcell HMR
  simp only [List.length_singleton]
  go_wp2
  refine bodyPost_ret (v := .agg #[.int .i64 mk,.int .i64 mop,.slice d1 mds.length d2,.slice d3 mks.length d4]) (by simp [results,Tryz.results99,go_sem,z0,z1,z2,z3]) rfl ⟨⟨mk,mop,mds,d1,d2,d3,d4,mks,rfl,?_,HBL.out.symm,HVS2.out⟩,blA⟩
  exact MOwn.setO4 HMO.out HNE2.out
 ·have HBL : Hid (Stil.blockOf k F = ⟨k,⟨0,[]⟩,ms.map MNet.net⟩) := by
   show _ = _
   rw [← HMN.out]
   unfold Stil.blockOf
   rw [dif_neg (by simpa using h1)]
  have hmo : MOwn w1 base ⟨k,0,[],.slice none 0 0,.slice ra ms.length rc,ms⟩ := HMR.out.net k 0 [] (World.ownsRow_nil _ _ _ _) (fun x _ => aside_nil x)
  have HMO : Hid (MOwn w1 base ⟨k,0,[],.slice none 0 0,.slice ra ms.length rc,ms⟩) := hmo
  have HNE2 : Hid (∀ x ∈ (MNet.mk k 0 [] (.slice none 0 0) (.slice ra ms.length rc) ms).vals,x.ownBlock ≠ some (w.heap.size + 1)) := by
   intro x hx
   rw [MNet.vals_eq] at hx
   rcases List.mem_cons.1 hx with rfl | hx
   ·intro e; cases e
   ·exact HNE.out x hx
  have HVS2 : Hid (∀ x ∈ (MNet.mk k 0 [] (.slice none 0 0) (.slice ra ms.length rc) ms).vals,x ∈ mVals ms0 ∨ ∀ q,x.ownBlock = some q -> w.heap.size <= q) := by
   intro x hx
   rw [MNet.vals_eq] at hx
   rcases List.mem_cons.1 hx with rfl | hx
   ·exact .inr (fun q hq => by cases hq)
   ·exact HVS.out x hx
  clear HVS
  have e1' : ((ms.length : Int) == 1) = false := by rw [beq_eq_false_iff_ne]; omega
  have e1'' : ¬ ((ms.length : Int) = 1) := by omega
  clear hmo HMR HNE HMN
  go_wp2
  refine bodyPost_ret (v := .agg #[.int .i64 k,.int .i64 0,.slice none 0 0,.slice ra ms.length rc]) (by simp [results,Tryz.results99,go_sem,z0,z1,z2,z3]) rfl ⟨⟨k,0,[],none,0,ra,rc,ms,rfl,?_,by rw [MNet.net_eq,HBL.out],HVS2.out⟩,blA⟩
  exact MOwn.setO4 HMO.out HNE2.out
theorem cellAllocO {W : World} {ob : Obj} {c p : Nat} (h : c < W.heap.size) : (W.alloc ob).cell? ⟨c,p,none⟩ = W.cell? ⟨c,p,none⟩ := (below_alloc W ob).cell (p := ⟨c,p,none⟩) h
/-- A row of two. -/
theorem MRow.pair {w : World} {base : Nat} {m1 m2 : MNet} (h1 : MOk w base m1) (h2 : MOk w base m2) (hp : (m1.vals ++ m2.vals).Pairwise Aside) (hb : base <= w.heap.size) : MRow (w.alloc (.cells #[.int .i64 m1.kind,.int .i64 m1.op,m1.av,m1.kv,.int .i64 m2.kind,.int .i64 m2.op,m2.av,m2.kv] 33)) base (.slice (some ⟨w.heap.size,0,none⟩) 2 2) [m1,m2] := by
 have hv : mVals [m1,m2] = m1.vals ++ m2.vals := by simp [mVals]
 refine ⟨?_,fun x hx => ?_,?_⟩
 ·exact World.ownsRow_lit w #[.int .i64 m1.kind,.int .i64 m1.op,m1.av,m1.kv,.int .i64 m2.kind,.int .i64 m2.op,m2.av,m2.kv] 2 hb (by unfold maxLen; omega) rfl
 ·rcases List.mem_cons.1 hx with rfl | hx
  ·exact h1.below (below_alloc _ _)
  ·rw [List.mem_singleton.1 hx]; exact h2.below (below_alloc _ _)
 ·rw [hv,List.pairwise_cons]
  refine ⟨fun y hy => (aside_new (n := w.heap.size) (fun k hk => ?_) (fun k hk => ?_)).symm,hp⟩
  ·rcases List.mem_append.1 hy with hy | hy
   ·exact (h1.lt m1 y hy k hk).2
   ·exact (h2.lt m2 y hy k hk).2
  ·have e : w.heap.size = k := by simpa [Value.ownBlock] using hk
   omega
theorem i_normSeries (k1 o1 : Int) (d1 : List Stil.Dev) (a1 : Option Addr) (c1 : Nat) (b1_ : Option Addr) (e1 : Nat) (n1 : List MNet) (k2 o2 : Int) (d2 : List Stil.Dev) (a2 : Option Addr) (c2 : Nat) (b2_ : Option Addr) (e2 : Nat) (n2 : List MNet) (base : Nat) (w : World)
  (h1 : MOk w base (MNet.mk k1 o1 d1 (.slice a1 d1.length c1) (.slice b1_ n1.length e1) n1)) (h2 : MOk w base (MNet.mk k2 o2 d2 (.slice a2 d2.length c2) (.slice b2_ n2.length e2) n2)) (hp : ((MNet.mk k1 o1 d1 (.slice a1 d1.length c1) (.slice b1_ n1.length e1) n1).vals ++ (MNet.mk k2 o2 d2 (.slice a2 d2.length c2) (.slice b2_ n2.length e2) n2).vals).Pairwise Aside) (hbase : base <= w.heap.size) (hs : Stil.sizes [(MNet.mk k1 o1 d1 (.slice a1 d1.length c1) (.slice b1_ n1.length e1) n1).net,(MNet.mk k2 o2 d2 (.slice a2 d2.length c2) (.slice b2_ n2.length e2) n2).net] <= 999999) (hf1 : Stil.netFits (MNet.mk k1 o1 d1 (.slice a1 d1.length c1) (.slice b1_ n1.length e1) n1).net) (hf2 : Stil.netFits (MNet.mk k2 o2 d2 (.slice a2 d2.length c2) (.slice b2_ n2.length e2) n2).net) :
  Calls Tryz.prog 122 #[.agg #[.int .i64 k1,.int .i64 o1,.slice a1 d1.length c1,.slice b1_ n1.length e1],.agg #[.int .i64 k2,.int .i64 o2,.slice a2 d2.length c2,.slice b2_ n2.length e2]] w fun e w' => NetRetV w' base ((MNet.mk k1 o1 d1 (.slice a1 d1.length c1) (.slice b1_ n1.length e1) n1).vals ++ (MNet.mk k2 o2 d2 (.slice a2 d2.length c2) (.slice b2_ n2.length e2) n2).vals) w.heap.size (Stil.series (MNet.mk k1 o1 d1 (.slice a1 d1.length c1) (.slice b1_ n1.length e1) n1).net (MNet.mk k2 o2 d2 (.slice a2 d2.length c2) (.slice b2_ n2.length e2) n2).net) e ∧ Below w.heap.size w w' := by
 obtain ⟨f1,f2⟩ := MOk.from _ h1
 obtain ⟨f3,f4⟩ := MOk.from _ h2
 have HN1 : Hid (∀ W,Below w.heap.size w W -> Calls Tryz.prog 77 #[.agg #[.int .i64 k1,.int .i64 o1,.slice a1 d1.length c1,.slice b1_ n1.length e1]] W fun e w' => e = .returned (.bool (Stil.netNone (MNet.mk k1 o1 d1 (.slice a1 d1.length c1) (.slice b1_ n1.length e1) n1).net)) ∧ Below W.heap.size W w') := by
  intro W h
  have := i_isNone (MNet.mk k1 o1 d1 (.slice a1 d1.length c1) (.slice b1_ n1.length e1) n1).net _ _ W (f1.at.below h) (f2.at.below h) hf1
  have e := MNet.net_eq (MNet.mk k1 o1 d1 (.slice a1 d1.length c1) (.slice b1_ n1.length e1) n1)
  have ee1 : (MNet.mk k1 o1 d1 (.slice a1 d1.length c1) (.slice b1_ n1.length e1) n1).net.kind = k1 := by rw [e]
  have ee2 : (MNet.mk k1 o1 d1 (.slice a1 d1.length c1) (.slice b1_ n1.length e1) n1).net.one.op = o1 := by rw [e]
  rw [ee1,ee2] at this
  exact this
 have HN2 : Hid (∀ W,Below w.heap.size w W -> Calls Tryz.prog 77 #[.agg #[.int .i64 k2,.int .i64 o2,.slice a2 d2.length c2,.slice b2_ n2.length e2]] W fun e w' => e = .returned (.bool (Stil.netNone (MNet.mk k2 o2 d2 (.slice a2 d2.length c2) (.slice b2_ n2.length e2) n2).net)) ∧ Below W.heap.size W w') := by
  intro W h
  have := i_isNone (MNet.mk k2 o2 d2 (.slice a2 d2.length c2) (.slice b2_ n2.length e2) n2).net _ _ W (f3.at.below h) (f4.at.below h) hf2
  have e := MNet.net_eq (MNet.mk k2 o2 d2 (.slice a2 d2.length c2) (.slice b2_ n2.length e2) n2)
  have ee1 : (MNet.mk k2 o2 d2 (.slice a2 d2.length c2) (.slice b2_ n2.length e2) n2).net.kind = k2 := by rw [e]
  have ee2 : (MNet.mk k2 o2 d2 (.slice a2 d2.length c2) (.slice b2_ n2.length e2) n2).net.one.op = o2 := by rw [e]
  rw [ee1,ee2] at this
  exact this
 have hp1 := List.pairwise_append.1 hp
 have HO1 : Hid (∀ W,Below w.heap.size w W -> MOwn W base (MNet.mk k1 o1 d1 (.slice a1 d1.length c1) (.slice b1_ n1.length e1) n1)) := fun W h => ⟨h1.below h,hp1.1⟩
 have HO2 : Hid (∀ W,Below w.heap.size w W -> MOwn W base (MNet.mk k2 o2 d2 (.slice a2 d2.length c2) (.slice b2_ n2.length e2) n2)) := fun W h => ⟨h2.below h,hp1.2.1⟩
 have HLT : Hid (∀ x ∈ (MNet.mk k1 o1 d1 (.slice a1 d1.length c1) (.slice b1_ n1.length e1) n1).vals ++ (MNet.mk k2 o2 d2 (.slice a2 d2.length c2) (.slice b2_ n2.length e2) n2).vals,∀ q,x.ownBlock = some q -> q < w.heap.size) := by
  intro x hx q hq
  rcases List.mem_append.1 hx with hx | hx
  ·exact (h1.lt _ x hx q hq).2
  ·exact (h2.lt _ x hx q hq).2
 have HNB : Hid (∀ W,Below w.heap.size w W -> Calls Tryz.prog 99 #[.int .i64 2,.slice (some ⟨W.heap.size,0,none⟩) 2 2] (W.alloc (.cells #[.int .i64 k1,.int .i64 o1,.slice a1 d1.length c1,.slice b1_ n1.length e1,.int .i64 k2,.int .i64 o2,.slice a2 d2.length c2,.slice b2_ n2.length e2] 33)) fun e w' => NetRetV w' base ((MNet.mk k1 o1 d1 (.slice a1 d1.length c1) (.slice b1_ n1.length e1) n1).vals ++ (MNet.mk k2 o2 d2 (.slice a2 d2.length c2) (.slice b2_ n2.length e2) n2).vals) (W.alloc (.cells #[.int .i64 k1,.int .i64 o1,.slice a1 d1.length c1,.slice b1_ n1.length e1,.int .i64 k2,.int .i64 o2,.slice a2 d2.length c2,.slice b2_ n2.length e2] 33)).heap.size (Stil.blockOf 2 (Stil.flatKids 2 [(MNet.mk k1 o1 d1 (.slice a1 d1.length c1) (.slice b1_ n1.length e1) n1).net,(MNet.mk k2 o2 d2 (.slice a2 d2.length c2) (.slice b2_ n2.length e2) n2).net])) e ∧ Below (W.alloc (.cells #[.int .i64 k1,.int .i64 o1,.slice a1 d1.length c1,.slice b1_ n1.length e1,.int .i64 k2,.int .i64 o2,.slice a2 d2.length c2,.slice b2_ n2.length e2] 33)).heap.size (W.alloc (.cells #[.int .i64 k1,.int .i64 o1,.slice a1 d1.length c1,.slice b1_ n1.length e1,.int .i64 k2,.int .i64 o2,.slice a2 d2.length c2,.slice b2_ n2.length e2] 33)) w') := by
  intro W h
  have hr := MRow.pair (h1.below h) (h2.below h) hp (Nat.le_trans hbase h.size)
  have := i_normBlock2 2 base [(MNet.mk k1 o1 d1 (.slice a1 d1.length c1) (.slice b1_ n1.length e1) n1),(MNet.mk k2 o2 d2 (.slice a2 d2.length c2) (.slice b2_ n2.length e2) n2)] (some ⟨W.heap.size,0,none⟩) 2 _ hr hs (Nat.le_trans hbase (Nat.le_trans h.size (by simp)))
  have hv : mVals [(MNet.mk k1 o1 d1 (.slice a1 d1.length c1) (.slice b1_ n1.length e1) n1),(MNet.mk k2 o2 d2 (.slice a2 d2.length c2) (.slice b2_ n2.length e2) n2)] = (MNet.mk k1 o1 d1 (.slice a1 d1.length c1) (.slice b1_ n1.length e1) n1).vals ++ (MNet.mk k2 o2 d2 (.slice a2 d2.length c2) (.slice b2_ n2.length e2) n2).vals := by simp [mVals]
  rw [hv] at this
  exact this
 obtain ⟨S,hS⟩ : ∃ S,S = Stil.series (MNet.mk k1 o1 d1 (.slice a1 d1.length c1) (.slice b1_ n1.length e1) n1).net (MNet.mk k2 o2 d2 (.slice a2 d2.length c2) (.slice b2_ n2.length e2) n2).net := ⟨_,rfl⟩
 have HS : Hid (S = if Stil.netNone (MNet.mk k1 o1 d1 (.slice a1 d1.length c1) (.slice b1_ n1.length e1) n1).net then (MNet.mk k2 o2 d2 (.slice a2 d2.length c2) (.slice b2_ n2.length e2) n2).net else if Stil.netNone (MNet.mk k2 o2 d2 (.slice a2 d2.length c2) (.slice b2_ n2.length e2) n2).net then (MNet.mk k1 o1 d1 (.slice a1 d1.length c1) (.slice b1_ n1.length e1) n1).net else Stil.blockOf 2 (Stil.flatKids 2 [(MNet.mk k1 o1 d1 (.slice a1 d1.length c1) (.slice b1_ n1.length e1) n1).net,(MNet.mk k2 o2 d2 (.slice a2 d2.length c2) (.slice b2_ n2.length e2) n2).net])) := hS
 rw [← hS]
 obtain ⟨t1,ht1⟩ : ∃ t,t = Stil.netNone (MNet.mk k1 o1 d1 (.slice a1 d1.length c1) (.slice b1_ n1.length e1) n1).net := ⟨_,rfl⟩
 obtain ⟨t2,ht2⟩ : ∃ t,t = Stil.netNone (MNet.mk k2 o2 d2 (.slice a2 d2.length c2) (.slice b2_ n2.length e2) n2).net := ⟨_,rfl⟩
 rw [← ht1] at HN1 HS
 rw [← ht2] at HN2 HS
 obtain ⟨VS,hVS⟩ : ∃ VS,VS = (MNet.mk k1 o1 d1 (.slice a1 d1.length c1) (.slice b1_ n1.length e1) n1).vals ++ (MNet.mk k2 o2 d2 (.slice a2 d2.length c2) (.slice b2_ n2.length e2) n2).vals := ⟨_,rfl⟩
 have HVS : Hid (VS = (MNet.mk k1 o1 d1 (.slice a1 d1.length c1) (.slice b1_ n1.length e1) n1).vals ++ (MNet.mk k2 o2 d2 (.slice a2 d2.length c2) (.slice b2_ n2.length e2) n2).vals) := hVS
 rw [← hVS] at HLT HNB ⊢
 obtain ⟨X1,hX1⟩ : ∃ X,X = (MNet.mk k1 o1 d1 (.slice a1 d1.length c1) (.slice b1_ n1.length e1) n1).net := ⟨_,rfl⟩
 obtain ⟨X2,hX2⟩ : ∃ X,X = (MNet.mk k2 o2 d2 (.slice a2 d2.length c2) (.slice b2_ n2.length e2) n2).net := ⟨_,rfl⟩
 have HX1 : Hid (X1 = (MNet.mk k1 o1 d1 (.slice a1 d1.length c1) (.slice b1_ n1.length e1) n1).net) := hX1
 have HX2 : Hid (X2 = (MNet.mk k2 o2 d2 (.slice a2 d2.length c2) (.slice b2_ n2.length e2) n2).net) := hX2
 rw [← hX1,← hX2] at HNB HS
 clear hS ht1 ht2 hVS hX1 hX2 f1 f2 f3 f4 h1 h2 hp hp1 hs hf1 hf2
 cases t1
 ·cases t2
  ·have hSe : S = Stil.blockOf 2 (Stil.flatKids 2 [X1,X2]) := by rw [HS.out]; rfl
   rw [← hSe] at HNB
   clear HS hSe HO1 HO2
   go_enter Tryz.func122,Tryz.ntmps122
   go_upto_region 3 with (go_at_call 77; refine (HN1.out _ blA).mono ?_; rintro e w1 ⟨rfl,hb1⟩; obtain ⟨hc,hf⟩ := bcell hb1; have hza : w.heap.size < w1.heap.size := Nat.lt_of_lt_of_le (by simp; omega) hb1.size; have hzb : w.heap.size + 1 < w1.heap.size := Nat.lt_of_lt_of_le (by simp) hb1.size; have hzc : w.heap.size + 1 + 1 < w1.heap.size := Nat.lt_of_lt_of_le (by simp) hb1.size; have hbA : Below w.heap.size w w1 := blA)
   go_upto_region 5 with (go_at_call 77; refine (HN2.out _ blA).mono ?_; rintro e w2 ⟨rfl,hb2⟩; obtain ⟨hc2,hf2⟩ := bcell hb2; have hzd : w.heap.size < w2.heap.size := Nat.lt_of_lt_of_le hza hb2.size; have hze : w.heap.size + 1 < w2.heap.size := Nat.lt_of_lt_of_le hzb hb2.size; have hzf : w.heap.size + 1 + 1 < w2.heap.size := Nat.lt_of_lt_of_le hzc hb2.size; have hbB : Below w.heap.size w w2 := (by exact hbA.trans (hb2.mono hbA.size)))
   go_wp2_with (go_at_call 99; refine (HNB.out w2 hbB).mono ?_; rintro e w3 ⟨⟨mk,mop,mds,s0,t0,s1,t1,mks,rfl,hmo,hmn,hvs⟩,hb3⟩; obtain ⟨hc3,hf3⟩ := bcell hb3; have hzg : w.heap.size + 1 + 1 < w3.heap.size := Nat.lt_of_lt_of_le (Nat.lt_of_lt_of_le hzf (by simp)) hb3.size; have HMO : Hid (MOwn w3 base ⟨mk,mop,mds,.slice s0 mds.length t0,.slice s1 mks.length t1,mks⟩) := hmo; have HMN : Hid ((MNet.mk mk mop mds (.slice s0 mds.length t0) (.slice s1 mks.length t1) mks).net = S) := hmn; have HW : Hid (∀ x ∈ (MNet.mk mk mop mds (.slice s0 mds.length t0) (.slice s1 mks.length t1) mks).vals,x ∈ VS ∨ ∀ q,x.ownBlock = some q -> w2.heap.size <= q) := (fun x hx => (hvs x hx).imp id (fun h q hq => Nat.le_trans (by simp) (h q hq))); clear hmo hmn hvs)
   have b0 : w3.cell? ⟨w.heap.size + 1 + 1,0,none⟩ = some (.int .i64 0) := by rw [hc3 _ _ (Nat.lt_of_lt_of_le hzf (by simp)),cellAllocO hzf,hc2 _ _ hzc,hc _ _ (by simp)]; simp [go_sem]
   have b1 : w3.cell? ⟨w.heap.size + 1 + 1,1,none⟩ = some (.int .i64 0) := by rw [hc3 _ _ (Nat.lt_of_lt_of_le hzf (by simp)),cellAllocO hzf,hc2 _ _ hzc,hc _ _ (by simp)]; simp [go_sem]
   have b2 : w3.cell? ⟨w.heap.size + 1 + 1,2,none⟩ = some (.slice none 0 0) := by rw [hc3 _ _ (Nat.lt_of_lt_of_le hzf (by simp)),cellAllocO hzf,hc2 _ _ hzc,hc _ _ (by simp)]; simp [go_sem]
   have b3 : w3.cell? ⟨w.heap.size + 1 + 1,3,none⟩ = some (.slice none 0 0) := by rw [hc3 _ _ (Nat.lt_of_lt_of_le hzf (by simp)),cellAllocO hzf,hc2 _ _ hzc,hc _ _ (by simp)]; simp [go_sem]
   refine bodyPost_ret (v := .agg #[.int .i64 mk,.int .i64 mop,.slice s0 mds.length t0,.slice s1 mks.length t1]) (by simp [results,Tryz.results122,go_sem,b0,b1,b2,b3]) rfl ⟨⟨mk,mop,mds,s0,t0,s1,t1,mks,rfl,?_,HMN.out,fun x hx => (HW.out x hx).imp id (fun h q hq => by have := h q hq; omega)⟩,?_⟩
   ·refine MOwn.setO4 HMO.out (fun x hx e => ?_)
    rcases HW.out x hx with h | h
    ·have := HLT.out x h _ e; omega
    ·have := h _ e; omega
   ·have hbC : Below w.heap.size w w3 := (bl_alloc hbB _).trans (hb3.mono (by have := hbB.size; simp; omega))
    clear hbA hbB hb1 hb2 hb3
    (repeat (first | with_reducible exact Below.refl _ _ | with_reducible assumption | with_reducible refine bl_set (by first | exact Nat.le_refl _ | (simp; done) | (simp; omega) | omega) ?_ _ | with_reducible refine bl_alloc ?_ _ | with_reducible refine bl_drewN ?_ _ | with_reducible refine bl_drew ?_ | with_reducible refine bl_grow ?_ _ _ | with_reducible refine bl_call ?_ (by assumption)))
  ·have hSe : S = X1 := by rw [HS.out]; rfl
   have HMN : Hid ((MNet.mk k1 o1 d1 (.slice a1 d1.length c1) (.slice b1_ n1.length e1) n1).net = S) := by show _ = _; rw [hSe,HX1.out]
   have HIN : Hid (∀ x ∈ (MNet.mk k1 o1 d1 (.slice a1 d1.length c1) (.slice b1_ n1.length e1) n1).vals,x ∈ VS) := fun x hx => by rw [HVS.out]; exact List.mem_append_left _ hx
   clear HS hSe HNB HO2
   go_enter Tryz.func122,Tryz.ntmps122
   go_upto_region 3 with (go_at_call 77; refine (HN1.out _ blA).mono ?_; rintro e w1 ⟨rfl,hb1⟩; obtain ⟨hc,hf⟩ := bcell hb1; have hza : w.heap.size < w1.heap.size := Nat.lt_of_lt_of_le (by simp; omega) hb1.size; have hzb : w.heap.size + 1 < w1.heap.size := Nat.lt_of_lt_of_le (by simp) hb1.size; have hzc : w.heap.size + 1 + 1 < w1.heap.size := Nat.lt_of_lt_of_le (by simp) hb1.size; have hbA : Below w.heap.size w w1 := blA)
   go_wp2_with (go_at_call 77; refine (HN2.out _ blA).mono ?_; rintro e w2 ⟨rfl,hb2⟩; obtain ⟨hc2,hf2⟩ := bcell hb2; have hzd : w.heap.size < w2.heap.size := Nat.lt_of_lt_of_le hza hb2.size; have hze : w.heap.size + 1 < w2.heap.size := Nat.lt_of_lt_of_le hzb hb2.size; have hzf : w.heap.size + 1 + 1 < w2.heap.size := Nat.lt_of_lt_of_le hzc hb2.size; have hbB : Below w.heap.size w w2 := (by exact hbA.trans (hb2.mono hbA.size)))
   have b0 : w2.cell? ⟨w.heap.size + 1 + 1,0,none⟩ = some (.int .i64 0) := by rw [hc2 _ _ hzc,hc _ _ (by simp)]; simp [go_sem]
   have b1 : w2.cell? ⟨w.heap.size + 1 + 1,1,none⟩ = some (.int .i64 0) := by rw [hc2 _ _ hzc,hc _ _ (by simp)]; simp [go_sem]
   have b2 : w2.cell? ⟨w.heap.size + 1 + 1,2,none⟩ = some (.slice none 0 0) := by rw [hc2 _ _ hzc,hc _ _ (by simp)]; simp [go_sem]
   have b3 : w2.cell? ⟨w.heap.size + 1 + 1,3,none⟩ = some (.slice none 0 0) := by rw [hc2 _ _ hzc,hc _ _ (by simp)]; simp [go_sem]
   refine bodyPost_ret (v := .agg #[.int .i64 k1,.int .i64 o1,.slice a1 d1.length c1,.slice b1_ n1.length e1]) (by simp [results,Tryz.results122,go_sem,b0,b1,b2,b3]) rfl ⟨⟨k1,o1,d1,a1,c1,b1_,e1,n1,rfl,?_,HMN.out,fun x hx => .inl (HIN.out x hx)⟩,?_⟩
   ·exact MOwn.setO4 (HO1.out w2 hbB) (fun x hx e => by have := HLT.out x (HIN.out x hx) _ e; omega)
   ·clear hbA hb1 hb2
    (repeat (first | with_reducible exact Below.refl _ _ | with_reducible assumption | with_reducible refine bl_set (by first | exact Nat.le_refl _ | (simp; done) | (simp; omega) | omega) ?_ _ | with_reducible refine bl_alloc ?_ _ | with_reducible refine bl_drewN ?_ _ | with_reducible refine bl_drew ?_ | with_reducible refine bl_grow ?_ _ _ | with_reducible refine bl_call ?_ (by assumption)))
 ·have hSe : S = X2 := by rw [HS.out]; rfl
  have HMN : Hid ((MNet.mk k2 o2 d2 (.slice a2 d2.length c2) (.slice b2_ n2.length e2) n2).net = S) := by show _ = _; rw [hSe,HX2.out]
  have HIN : Hid (∀ x ∈ (MNet.mk k2 o2 d2 (.slice a2 d2.length c2) (.slice b2_ n2.length e2) n2).vals,x ∈ VS) := fun x hx => by rw [HVS.out]; exact List.mem_append_right _ hx
  clear HS hSe HNB HO1 HN2
  go_enter Tryz.func122,Tryz.ntmps122
  go_wp2_with (go_at_call 77; refine (HN1.out _ blA).mono ?_; rintro e w1 ⟨rfl,hb1⟩; obtain ⟨hc,hf⟩ := bcell hb1; have hza : w.heap.size < w1.heap.size := Nat.lt_of_lt_of_le (by simp; omega) hb1.size; have hzb : w.heap.size + 1 < w1.heap.size := Nat.lt_of_lt_of_le (by simp) hb1.size; have hzc : w.heap.size + 1 + 1 < w1.heap.size := Nat.lt_of_lt_of_le (by simp) hb1.size; have hbA : Below w.heap.size w w1 := blA)
  have b0 : w1.cell? ⟨w.heap.size + 1 + 1,0,none⟩ = some (.int .i64 0) := by rw [hc _ _ (by simp)]; simp [go_sem]
  have b1 : w1.cell? ⟨w.heap.size + 1 + 1,1,none⟩ = some (.int .i64 0) := by rw [hc _ _ (by simp)]; simp [go_sem]
  have b2 : w1.cell? ⟨w.heap.size + 1 + 1,2,none⟩ = some (.slice none 0 0) := by rw [hc _ _ (by simp)]; simp [go_sem]
  have b3 : w1.cell? ⟨w.heap.size + 1 + 1,3,none⟩ = some (.slice none 0 0) := by rw [hc _ _ (by simp)]; simp [go_sem]
  refine bodyPost_ret (v := .agg #[.int .i64 k2,.int .i64 o2,.slice a2 d2.length c2,.slice b2_ n2.length e2]) (by simp [results,Tryz.results122,go_sem,b0,b1,b2,b3]) rfl ⟨⟨k2,o2,d2,a2,c2,b2_,e2,n2,rfl,?_,HMN.out,fun x hx => .inl (HIN.out x hx)⟩,?_⟩
  ·exact MOwn.setO4 (HO2.out w1 hbA) (fun x hx e => by have := HLT.out x (HIN.out x hx) _ e; omega)
  ·clear hb1
   (repeat (first | with_reducible exact Below.refl _ _ | with_reducible assumption | with_reducible refine bl_set (by first | exact Nat.le_refl _ | (simp; done) | (simp; omega) | omega) ?_ _ | with_reducible refine bl_alloc ?_ _ | with_reducible refine bl_drewN ?_ _ | with_reducible refine bl_drew ?_ | with_reducible refine bl_grow ?_ _ _ | with_reducible refine bl_call ?_ (by assumption)))
theorem cells2e {W : World} {B : Nat} (hB : B = W.heap.size) {u0 u1 : Value} {t : TypeId} : ∀ j u,[u0,u1][j]? = some u -> (W.alloc (.cells #[u0,u1] t)).cell? ((⟨B,0,none⟩ : Addr).add j) = some u := by
 subst hB
 intro j u h
 rw [Addr.add_lit]
 match j,h with
 | 0,h => simp at h; subst h; simp [go_sem]
 | 1,h => simp at h; subst h; simp [go_sem]
 | j + 2,h => simp at h
theorem ERow.apart {w w1 : World} {base : Nat} {v : Value} {es ks : List MElem} {b1 : Nat} (h : ERow w base v es) (hk : ∀ m ∈ ks,EOk w1 b1 m) (hb : w.heap.size <= b1) (hp : (eVals ks).Pairwise Aside) : (v :: (eVals es ++ eVals ks)).Pairwise Aside := by
 have hx := h.lt
 have hy : ∀ y ∈ eVals ks,∀ k,y.ownBlock = some k -> w.heap.size <= k := by
  intro y hy k hk2
  obtain ⟨m,hm,rfl⟩ := mem_eVals.1 hy
  exact Nat.le_trans hb ((hk m hm).lt k hk2).1
 have h2 := h.2.2
 rw [List.pairwise_cons] at h2 ⊢
 refine ⟨fun y hy2 => ?_,List.pairwise_append.2 ⟨h2.2,hp,fun x hx2 y hy2 => aside_new (fun k hk2 => (hx x (List.mem_cons_of_mem _ hx2) k hk2).2) (hy y hy2)⟩⟩
 rcases List.mem_append.1 hy2 with hy2 | hy2
 ·exact h2.1 y hy2
 ·exact aside_new (fun k hk2 => (hx v (by simp) k hk2).2) (hy y hy2)
theorem i_eachE1 (x : Stil.Elem) (B base lo : Nat) (ra : Option Addr) (rc : Nat) (ms : List MElem) (av : Value) (w : World) (ih : ∀ W,Below w.heap.size w W -> Calls Tryz.prog 90 #[.agg #[.int .i64 x.op,av]] W fun e w' => ∃ u,e = .returned (.agg #[.int .i64 x.op,u]) ∧ w'.ownsRow W.heap.size 42 3 u x.args.length (devsCells x.args) ∧ Below W.heap.size W w')
  (hav : DevsAt w av x.args) (hbx : w.cell? ⟨B,0,none⟩ = some (.func (.func 90) #[] #[])) (hB : B < w.heap.size) (hrow : ERow w base (.slice ra ms.length rc) ms) (hl : ms.length + 1 <= 1000000) (hbase : base <= w.heap.size) (hlo : lo <= w.heap.size) (hvl : ∀ k,(Value.slice ra ms.length rc).ownBlock = some k -> lo <= k) :
  Calls Tryz.prog 121 #[.slice ra ms.length rc,.agg #[.int .i64 x.op,av],.pointer (some ⟨B,0,none⟩)] w fun e w' => ∃ (a : Option Addr) (c : Nat) (m : MElem),e = .returned (.slice a (ms.length + 1) c) ∧ m.elem = x ∧ ERow w' base (.slice a (ms.length + 1) c) (ms ++ [m]) ∧ Below lo w w' ∧ ∀ k,(Value.slice a (ms.length + 1) c).ownBlock = some k -> lo <= k := by
 have IH : Hid (∀ W,Below w.heap.size w W -> Calls Tryz.prog 90 #[.agg #[.int .i64 x.op,av]] W fun e w' => ∃ u,e = .returned (.agg #[.int .i64 x.op,u]) ∧ w'.ownsRow W.heap.size 42 3 u x.args.length (devsCells x.args) ∧ Below W.heap.size W w') := ih
 have HMR : Hid (ERow w base (.slice ra ms.length rc) ms) := hrow
 have HVL : Hid (∀ k,(Value.slice ra ms.length rc).ownBlock = some k -> lo <= k) := hvl
 obtain ⟨p0,r0,rfl,hz8⟩ := hav
 clear hz8
 clear ih hrow hvl
 go_enter Tryz.func121,Tryz.ntmps121
 go_wp2_with (first | (go_at_call 90; refine (IH.out _ blA).mono ?_; rintro e w1 ⟨u,rfl,g1,hb1⟩; obtain ⟨s0,t0,hu⟩ := slice_of_owns g1; subst hu; have hbw1 : Below w.heap.size w w1 := blA; have hle1 : w.heap.size <= w1.heap.size := hbw1.size; have HMO : Hid (EOk w1 w.heap.size (MElem.mk x.op x.args (.slice s0 x.args.length t0)) ∧ True) := ⟨Joins.ownsRow_le g1 (by simp),trivial⟩; have HMN : Hid ((MElem.mk x.op x.args (.slice s0 x.args.length t0)).elem = x) := rfl; clear g1) | (at_builtin; refine wpList_grow_elems rfl _ _ rfl base lo ra rc ms [(MElem.mk x.op x.args (.slice s0 x.args.length t0))] _ 1 rfl rfl ((HMR.out.below hbw1).below (below_alloc _ _)) (fun _ => ⟨_,rfl,by exact cells2e (by simp)⟩) (fun m hm => by rw [List.mem_singleton.1 hm]; exact (Joins.ownsRow_le (ownsRow_below HMO.out.1 (below_alloc _ _)) hbase)) (HMR.out.apart (w1 := w1) (b1 := w.heap.size) (fun m hm => by rw [List.mem_singleton.1 hm]; exact HMO.out.1) (Nat.le_refl _) (List.pairwise_singleton _ _)) (by simp only [List.length_singleton]; exact hl) (by simp only [World.size_alloc]; omega) (by simp only [World.size_alloc]; omega) HVL.out ?_; intro a6 c6 w6 hmr6 hb6 hv6; have HM6 : Hid (ERow w6 base (.slice a6 (ms.length + 1) c6) (ms ++ [(MElem.mk x.op x.args (.slice s0 x.args.length t0))])) := hmr6; have HV6 : Hid (∀ k,(Value.slice a6 (ms.length + 1) c6).ownBlock = some k -> lo <= k) := hv6; clear hmr6 hv6; have hb7 : Below lo w w6 := (((bl_alloc hbw1 _).mono hlo)).trans hb6))
 go_ret
 exact ⟨a6,c6,_,rfl,HMN.out,HM6.out,hb7,HV6.out⟩
theorem i_foldE (es : List Stil.Elem) (ih : ∀ x ∈ es,∀ (av : Value) (w : World),DevsAt w av x.args -> Calls Tryz.prog 90 #[.agg #[.int .i64 x.op,av]] w fun e w' => ∃ u,e = .returned (.agg #[.int .i64 x.op,u]) ∧ w'.ownsRow w.heap.size 42 3 u x.args.length (devsCells x.args) ∧ Below w.heap.size w w')
  (B : Nat) (v : Value) (w : World) (hat : ElemsAt w v es) (hl : es.length <= 999999) (hbx : w.cell? ⟨B,0,none⟩ = some (.func (.func 90) #[] #[])) (hB : B < w.heap.size) :
  Calls Tryz.prog 120 #[v,.slice none 0 0,.func (.func 121) #[] #[.pointer (some ⟨B,0,none⟩)]] w fun e w' => ∃ (a : Option Addr) (c : Nat) (ms : List MElem),e = .returned (.slice a ms.length c) ∧ ms.map MElem.elem = es ∧ ERow w' w.heap.size (.slice a ms.length c) ms ∧ Below w.heap.size w w' := by
 obtain ⟨a,cap,rfl,hc⟩ := hat
 have HA : Hid (∀ i (h : i < es.length),∃ b o,a = some ⟨b,o,none⟩ ∧ b < w.heap.size ∧ ElemAt w b (o + i * 2) es[i]) := hc
 have IH : Hid (∀ x ∈ es,∀ (av : Value) (w : World),DevsAt w av x.args -> Calls Tryz.prog 90 #[.agg #[.int .i64 x.op,av]] w fun e w' => ∃ u,e = .returned (.agg #[.int .i64 x.op,u]) ∧ w'.ownsRow w.heap.size 42 3 u x.args.length (devsCells x.args) ∧ Below w.heap.size w w') := ih
 have HBX : Hid (w.cell? ⟨B,0,none⟩ = some (.func (.func 90) #[] #[])) := hbx
 clear hc ih hbx
 go_enter Tryz.func120,Tryz.ntmps120
 go_wp2
 go_loopw [1,11] (fun d i wr => ∃ (j : Nat) (ms : List MElem) (ra : Option Addr) (rc : Nat),j <= es.length ∧ i = .int .i64 j ∧ d = .slice ra ms.length rc ∧ ms.map MElem.elem = (es.take j) ∧ ERow wr w.heap.size (.slice ra ms.length rc) ms ∧ Below w.heap.size w wr) (fun _ i _ => es.length - (intOf i).toNat)
 case atStart => exact ⟨0,[],none,0,by omega,rfl,rfl,rfl,ERow.nil _ _,Below.refl _ _⟩
 case round =>
  obtain ⟨j,ms,ra,rc,hj,rfl,rfl,hmn,hmr,hb⟩ := hrel
  have HMN : Hid (ms.map MElem.elem = (es.take j)) := hmn
  have HMR : Hid (ERow wr w.heap.size (.slice ra ms.length rc) ms) := hmr
  clear hmn hmr
  by_cases hlt : j < es.length
  ·have hml : ms.length = j := by
    have h1 := congrArg List.length HMN.out
    simp only [List.length_map,List.length_take] at h1
    omega
   obtain ⟨b,o,rfl,hbl,hn⟩ := HA.out j hlt
   obtain ⟨x0,av,x1,hav⟩ := hn.below hb hbl
   have HTS : Hid (es.take (j + 1) = es.take j ++ [es[j]]) := List.take_succ_eq_append_getElem hlt
   have HI : Hid (∀ W,Below wr.heap.size wr W -> Calls Tryz.prog 121 #[.slice ra ms.length rc,.agg #[.int .i64 es[j].op,av],.pointer (some ⟨B,0,none⟩)] W fun e w' => ∃ (a : Option Addr) (c : Nat) (m : MElem),e = .returned (.slice a (ms.length + 1) c) ∧ m.elem = es[j] ∧ ERow w' w.heap.size (.slice a (ms.length + 1) c) (ms ++ [m]) ∧ Below w.heap.size W w' ∧ ∀ k,(Value.slice a (ms.length + 1) c).ownBlock = some k -> w.heap.size <= k) := by
    intro W hW
    have hbW := hb.trans (hW.mono hb.size)
    exact i_eachE1 es[j] B w.heap.size w.heap.size ra rc ms av W (fun V hV => IH.out es[j] (List.getElem_mem hlt) av V ((hav.below hW).below hV)) (hav.below hW) ((hbW.cell (p := ⟨B,0,none⟩) hB).trans HBX.out) (Nat.lt_of_lt_of_le hB hbW.size) (HMR.out.below hW) (by omega) hbW.size hbW.size (fun k hk => (HMR.out.1.lt k hk).1)
   obtain ⟨x,hx⟩ : ∃ x,x = es[j] := ⟨_,rfl⟩
   rw [← hx] at HI x0 hav HTS
   obtain ⟨p0,r0,rfl,hz8⟩ := hav
   clear hz8
   have hb0 : b < wr.heap.size := Nat.lt_of_lt_of_le hbl hb.size
   clear hx hn hml hbl
   go_wp2_with (go_at_call 121; refine (HI.out _ blA).mono ?_; rintro e w2 ⟨a2,c2,m,rfl,hmn2,hmr2,hb2,hv2⟩; have hb3 : Below w.heap.size w w2 := (show Below w.heap.size w _ from hb.trans ((show Below wr.heap.size wr _ from blA).mono hb.size)).trans hb2; have HN2 : Hid (m.elem = x) := hmn2; have HR2 : Hid (ERow w2 w.heap.size (.slice a2 (ms.length + 1) c2) (ms ++ [m])) := hmr2; clear hmn2 hmr2 hv2)
   refine ⟨⟨j + 1,ms ++ [m],a2,c2,by omega,by go_num,by simp,?_,by rw [List.length_append]; exact HR2.out,hb3⟩,by simp [intOf]; omega⟩
   rw [HTS.out,List.map_append,HMN.out,List.map_singleton,HN2.out]
  ·obtain rfl : j = es.length := by omega
   have hmn := HMN.out
   rw [List.take_length] at hmn
   have HMN2 : Hid (ms.map MElem.elem = es) := hmn
   clear hmn
   go_wp2
   go_ret
   exact ⟨ra,rc,ms,rfl,HMN2.out,HMR.out,hb⟩
theorem i_normEachE (es : List Stil.Elem) (ih : ∀ x ∈ es,∀ (av : Value) (w : World),DevsAt w av x.args -> Calls Tryz.prog 90 #[.agg #[.int .i64 x.op,av]] w fun e w' => ∃ u,e = .returned (.agg #[.int .i64 x.op,u]) ∧ w'.ownsRow w.heap.size 42 3 u x.args.length (devsCells x.args) ∧ Below w.heap.size w w')
  (v : Value) (w : World) (hat : ElemsAt w v es) (hl : es.length <= 999999) :
  Calls Tryz.prog 89 #[v,.func (.func 90) #[] #[]] w fun e w' => ∃ (a : Option Addr) (c : Nat) (ms : List MElem),e = .returned (.slice a ms.length c) ∧ ms.map MElem.elem = es ∧ ERow w' w.heap.size (.slice a ms.length c) ms ∧ Below w.heap.size w w' := by
 have HF : Hid (∀ W B,Below w.heap.size w W -> W.cell? ⟨B,0,none⟩ = some (.func (.func 90) #[] #[]) -> B < W.heap.size -> Calls Tryz.prog 120 #[v,.slice none 0 0,.func (.func 121) #[] #[.pointer (some ⟨B,0,none⟩)]] W fun e w' => ∃ (a : Option Addr) (c : Nat) (ms : List MElem),e = .returned (.slice a ms.length c) ∧ ms.map MElem.elem = es ∧ ERow w' W.heap.size (.slice a ms.length c) ms ∧ Below W.heap.size W w') := fun W B h h1 h2 => i_foldE es ih B v W (hat.below h) hl h1 h2
 obtain ⟨p0,r0,rfl,hz8⟩ := hat
 clear hz8 ih
 go_enter Tryz.func89,Tryz.ntmps89
 go_wp2_with (go_at_call 120; refine (HF.out _ _ blA (by simp [go_sem]) (by simp)).mono ?_; rintro e w1 ⟨ra,rc,ms,rfl,hmn,hmr,hb1⟩; have HMN : Hid (ms.map MElem.elem = es) := hmn; have HMR : Hid (ERow w1 _ (.slice ra ms.length rc) ms) := hmr; clear hmn hmr)
 go_ret
 exact ⟨ra,rc,ms,rfl,HMN.out,HMR.out.le (by simp),blA⟩
theorem cells6e {W : World} {B : Nat} (hB : B = W.heap.size) {u0 u1 u2 u3 u4 u5 : Value} {t : TypeId} : ∀ j u,[u0,u1,u2,u3,u4,u5][j]? = some u -> (W.alloc (.cells #[u0,u1,u2,u3,u4,u5] t)).cell? ((⟨B,0,none⟩ : Addr).add j) = some u := by
 subst hB
 intro j u h
 rw [Addr.add_lit]
 match j,h with
 | 0,h => simp at h; subst h; simp [go_sem]
 | 1,h => simp at h; subst h; simp [go_sem]
 | 2,h => simp at h; subst h; simp [go_sem]
 | 3,h => simp at h; subst h; simp [go_sem]
 | 4,h => simp at h; subst h; simp [go_sem]
 | 5,h => simp at h; subst h; simp [go_sem]
 | j + 6,h => simp at h
theorem i_eachA1 (x : Stil.Arm) (B base lo : Nat) (ra : Option Addr) (rc : Nat) (ms : List MArm) (av nv cv kv : Value) (w : World) (ih : ∀ W,Below w.heap.size w W -> Calls Tryz.prog 51 #[.agg #[.int .i64 x.net.kind,.int .i64 x.net.one.op,av,nv,cv,kv]] W fun e w' => ArmRet w' W.heap.size (Stil.normArm x) e ∧ Below W.heap.size W w')
  (hav : DevsAt w av x.net.one.args) (hnv : NetsAt w nv x.net.kids) (hcv : ElemsAt w cv x.coils) (hkv : ArmsAt w kv x.kids) (hbx : w.cell? ⟨B,0,none⟩ = some (.func (.func 51) #[] #[])) (hB : B < w.heap.size) (hrow : ARow w base (.slice ra ms.length rc) ms) (hl : ms.length + 1 <= 1000000) (hbase : base <= w.heap.size) (hlo : lo <= w.heap.size) (hvl : ∀ k,(Value.slice ra ms.length rc).ownBlock = some k -> lo <= k) :
  Calls Tryz.prog 88 #[.slice ra ms.length rc,.agg #[.int .i64 x.net.kind,.int .i64 x.net.one.op,av,nv,cv,kv],.pointer (some ⟨B,0,none⟩)] w fun e w' => ∃ (a : Option Addr) (c : Nat) (m : MArm),e = .returned (.slice a (ms.length + 1) c) ∧ m.arm = Stil.normArm x ∧ ARow w' base (.slice a (ms.length + 1) c) (ms ++ [m]) ∧ Below lo w w' ∧ ∀ k,(Value.slice a (ms.length + 1) c).ownBlock = some k -> lo <= k := by
 have IH : Hid (∀ W,Below w.heap.size w W -> Calls Tryz.prog 51 #[.agg #[.int .i64 x.net.kind,.int .i64 x.net.one.op,av,nv,cv,kv]] W fun e w' => ArmRet w' W.heap.size (Stil.normArm x) e ∧ Below W.heap.size W w') := ih
 have HMR : Hid (ARow w base (.slice ra ms.length rc) ms) := hrow
 have HVL : Hid (∀ k,(Value.slice ra ms.length rc).ownBlock = some k -> lo <= k) := hvl
 obtain ⟨p0,r0,rfl,hz6⟩ := hav
 obtain ⟨p1,r1,rfl,hz7⟩ := hnv
 obtain ⟨p2,r2,rfl,hz8⟩ := hcv
 obtain ⟨p3,r3,rfl,hz9⟩ := hkv
 clear hz6 hz7 hz8 hz9
 clear ih hrow hvl
 go_enter Tryz.func88,Tryz.ntmps88
 go_wp2_with (first | (go_at_call 51; refine (IH.out _ blA).mono ?_; rintro e w1 ⟨⟨k,op,ds,a1,c1,ns,a2,c2,cs,a3,c3,ks,a4,c4,rfl,hmo,hmn⟩,hb1⟩; have hbw1 : Below w.heap.size w w1 := blA; have hle1 : w.heap.size <= w1.heap.size := hbw1.size; have HMO : Hid (AOwn w1 w.heap.size (MArm.mk ⟨k,op,ds,.slice a1 ds.length c1,.slice a2 ns.length c2,ns⟩ (.slice a3 cs.length c3) cs (.slice a4 ks.length c4) ks)) := hmo.le (by simp); have HMN : Hid ((MArm.mk ⟨k,op,ds,.slice a1 ds.length c1,.slice a2 ns.length c2,ns⟩ (.slice a3 cs.length c3) cs (.slice a4 ks.length c4) ks).arm = Stil.normArm x) := hmn; clear hmo hmn) | (at_builtin; refine wpList_grow_arms rfl _ _ rfl base lo ra rc ms [(MArm.mk ⟨k,op,ds,.slice a1 ds.length c1,.slice a2 ns.length c2,ns⟩ (.slice a3 cs.length c3) cs (.slice a4 ks.length c4) ks)] _ 1 rfl rfl ((HMR.out.below hbw1).below (below_alloc _ _)) (fun _ => ⟨_,rfl,by exact cells6e (by simp)⟩) (fun m hm => by rw [List.mem_singleton.1 hm]; exact ((HMO.out.1.le hbase).below (below_alloc _ _))) (HMR.out.apart (w1 := w1) (b1 := w.heap.size) (fun m hm => by rw [List.mem_singleton.1 hm]; exact HMO.out.1) (Nat.le_refl _) (by rw [aVals_one]; exact HMO.out.2)) (by simp only [List.length_singleton]; exact hl) (by simp only [World.size_alloc]; omega) (by simp only [World.size_alloc]; omega) HVL.out ?_; intro a6 c6 w6 hmr6 hb6 hv6; have HM6 : Hid (ARow w6 base (.slice a6 (ms.length + 1) c6) (ms ++ [(MArm.mk ⟨k,op,ds,.slice a1 ds.length c1,.slice a2 ns.length c2,ns⟩ (.slice a3 cs.length c3) cs (.slice a4 ks.length c4) ks)])) := hmr6; have HV6 : Hid (∀ k,(Value.slice a6 (ms.length + 1) c6).ownBlock = some k -> lo <= k) := hv6; clear hmr6 hv6; have hb7 : Below lo w w6 := (((bl_alloc hbw1 _).mono hlo)).trans hb6))
 go_ret
 exact ⟨a6,c6,_,rfl,HMN.out,HM6.out,hb7,HV6.out⟩
theorem i_foldA (es : List Stil.Arm) (ih : ∀ x ∈ es,∀ (av nv cv kv : Value) (w : World),DevsAt w av x.net.one.args -> NetsAt w nv x.net.kids -> ElemsAt w cv x.coils -> ArmsAt w kv x.kids -> Calls Tryz.prog 51 #[.agg #[.int .i64 x.net.kind,.int .i64 x.net.one.op,av,nv,cv,kv]] w fun e w' => ArmRet w' w.heap.size (Stil.normArm x) e ∧ Below w.heap.size w w')
  (B : Nat) (v : Value) (w : World) (hat : ArmsAt w v es) (hl : es.length <= 999999) (hbx : w.cell? ⟨B,0,none⟩ = some (.func (.func 51) #[] #[])) (hB : B < w.heap.size) :
  Calls Tryz.prog 87 #[v,.slice none 0 0,.func (.func 88) #[] #[.pointer (some ⟨B,0,none⟩)]] w fun e w' => ∃ (a : Option Addr) (c : Nat) (ms : List MArm),e = .returned (.slice a ms.length c) ∧ ms.map MArm.arm = es.map Stil.normArm ∧ ARow w' w.heap.size (.slice a ms.length c) ms ∧ Below w.heap.size w w' := by
 obtain ⟨a,cap,rfl,hc⟩ := hat
 have HA : Hid (∀ i (h : i < es.length),∃ b o,a = some ⟨b,o,none⟩ ∧ b < w.heap.size ∧ ArmAt w b (o + i * 6) es[i]) := hc
 have IH : Hid (∀ x ∈ es,∀ (av nv cv kv : Value) (w : World),DevsAt w av x.net.one.args -> NetsAt w nv x.net.kids -> ElemsAt w cv x.coils -> ArmsAt w kv x.kids -> Calls Tryz.prog 51 #[.agg #[.int .i64 x.net.kind,.int .i64 x.net.one.op,av,nv,cv,kv]] w fun e w' => ArmRet w' w.heap.size (Stil.normArm x) e ∧ Below w.heap.size w w') := ih
 have HBX : Hid (w.cell? ⟨B,0,none⟩ = some (.func (.func 51) #[] #[])) := hbx
 clear hc ih hbx
 go_enter Tryz.func87,Tryz.ntmps87
 go_wp2
 go_loopw [1,11] (fun d i wr => ∃ (j : Nat) (ms : List MArm) (ra : Option Addr) (rc : Nat),j <= es.length ∧ i = .int .i64 j ∧ d = .slice ra ms.length rc ∧ ms.map MArm.arm = (es.take j).map Stil.normArm ∧ ARow wr w.heap.size (.slice ra ms.length rc) ms ∧ Below w.heap.size w wr) (fun _ i _ => es.length - (intOf i).toNat)
 case atStart => exact ⟨0,[],none,0,by omega,rfl,rfl,rfl,ARow.nil _ _,Below.refl _ _⟩
 case round =>
  obtain ⟨j,ms,ra,rc,hj,rfl,rfl,hmn,hmr,hb⟩ := hrel
  have HMN : Hid (ms.map MArm.arm = (es.take j).map Stil.normArm) := hmn
  have HMR : Hid (ARow wr w.heap.size (.slice ra ms.length rc) ms) := hmr
  clear hmn hmr
  by_cases hlt : j < es.length
  ·have hml : ms.length = j := by
    have h1 := congrArg List.length HMN.out
    simp only [List.length_map,List.length_take] at h1
    omega
   obtain ⟨b,o,rfl,hbl,hn⟩ := HA.out j hlt
   obtain ⟨hna,cv,kv,x4,x5,hcv,hkv⟩ := (ArmAt.below hb _ _ _ hn hbl).open
   obtain ⟨x0,x1,av,nv,x2,x3,hav,hnv⟩ := hna.open
   have HTS : Hid (es.take (j + 1) = es.take j ++ [es[j]]) := List.take_succ_eq_append_getElem hlt
   have HI : Hid (∀ W,Below wr.heap.size wr W -> Calls Tryz.prog 88 #[.slice ra ms.length rc,.agg #[.int .i64 es[j].net.kind,.int .i64 es[j].net.one.op,av,nv,cv,kv],.pointer (some ⟨B,0,none⟩)] W fun e w' => ∃ (a : Option Addr) (c : Nat) (m : MArm),e = .returned (.slice a (ms.length + 1) c) ∧ m.arm = Stil.normArm es[j] ∧ ARow w' w.heap.size (.slice a (ms.length + 1) c) (ms ++ [m]) ∧ Below w.heap.size W w' ∧ ∀ k,(Value.slice a (ms.length + 1) c).ownBlock = some k -> w.heap.size <= k) := by
    intro W hW
    have hbW := hb.trans (hW.mono hb.size)
    exact i_eachA1 es[j] B w.heap.size w.heap.size ra rc ms av nv cv kv W (fun V hV => IH.out es[j] (List.getElem_mem hlt) av nv cv kv V ((hav.below hW).below hV) ((hnv.below hW).below hV) ((hcv.below hW).below hV) ((hkv.below hW).below hV)) (hav.below hW) (hnv.below hW) (hcv.below hW) (hkv.below hW) ((hbW.cell (p := ⟨B,0,none⟩) hB).trans HBX.out) (Nat.lt_of_lt_of_le hB hbW.size) (HMR.out.below hW) (by omega) hbW.size hbW.size (fun k hk => (HMR.out.1.lt k hk).1)
   obtain ⟨x,hx⟩ : ∃ x,x = es[j] := ⟨_,rfl⟩
   rw [← hx] at HI x0 x1 hav hnv hcv hkv HTS
   obtain ⟨p0,r0,rfl,hz6⟩ := hav
   obtain ⟨p1,r1,rfl,hz7⟩ := hnv
   obtain ⟨p2,r2,rfl,hz8⟩ := hcv
   obtain ⟨p3,r3,rfl,hz9⟩ := hkv
   clear hz6 hz7 hz8 hz9 hna
   have hb0 : b < wr.heap.size := Nat.lt_of_lt_of_le hbl hb.size
   clear hx hn hml hbl
   go_wp2_with (go_at_call 88; refine (HI.out _ blA).mono ?_; rintro e w2 ⟨a2,c2,m,rfl,hmn2,hmr2,hb2,hv2⟩; have hb3 : Below w.heap.size w w2 := (show Below w.heap.size w _ from hb.trans ((show Below wr.heap.size wr _ from blA).mono hb.size)).trans hb2; have HN2 : Hid (m.arm = Stil.normArm x) := hmn2; have HR2 : Hid (ARow w2 w.heap.size (.slice a2 (ms.length + 1) c2) (ms ++ [m])) := hmr2; clear hmn2 hmr2 hv2)
   refine ⟨⟨j + 1,ms ++ [m],a2,c2,by omega,by go_num,by simp,?_,by rw [List.length_append]; exact HR2.out,hb3⟩,by simp [intOf]; omega⟩
   rw [HTS.out,List.map_append,List.map_append,HMN.out,List.map_singleton,List.map_singleton,HN2.out]
  ·obtain rfl : j = es.length := by omega
   have hmn := HMN.out
   rw [List.take_length] at hmn
   have HMN2 : Hid (ms.map MArm.arm = es.map Stil.normArm) := hmn
   clear hmn
   go_wp2
   go_ret
   exact ⟨ra,rc,ms,rfl,HMN2.out,HMR.out,hb⟩
theorem i_normEachA (es : List Stil.Arm) (ih : ∀ x ∈ es,∀ (av nv cv kv : Value) (w : World),DevsAt w av x.net.one.args -> NetsAt w nv x.net.kids -> ElemsAt w cv x.coils -> ArmsAt w kv x.kids -> Calls Tryz.prog 51 #[.agg #[.int .i64 x.net.kind,.int .i64 x.net.one.op,av,nv,cv,kv]] w fun e w' => ArmRet w' w.heap.size (Stil.normArm x) e ∧ Below w.heap.size w w')
  (v : Value) (w : World) (hat : ArmsAt w v es) (hl : es.length <= 999999) :
  Calls Tryz.prog 50 #[v,.func (.func 51) #[] #[]] w fun e w' => ∃ (a : Option Addr) (c : Nat) (ms : List MArm),e = .returned (.slice a ms.length c) ∧ ms.map MArm.arm = es.map Stil.normArm ∧ ARow w' w.heap.size (.slice a ms.length c) ms ∧ Below w.heap.size w w' := by
 have HF : Hid (∀ W B,Below w.heap.size w W -> W.cell? ⟨B,0,none⟩ = some (.func (.func 51) #[] #[]) -> B < W.heap.size -> Calls Tryz.prog 87 #[v,.slice none 0 0,.func (.func 88) #[] #[.pointer (some ⟨B,0,none⟩)]] W fun e w' => ∃ (a : Option Addr) (c : Nat) (ms : List MArm),e = .returned (.slice a ms.length c) ∧ ms.map MArm.arm = es.map Stil.normArm ∧ ARow w' W.heap.size (.slice a ms.length c) ms ∧ Below W.heap.size W w') := fun W B h h1 h2 => i_foldA es ih B v W (hat.below h) hl h1 h2
 obtain ⟨p0,r0,rfl,hz8⟩ := hat
 clear hz8 ih
 go_enter Tryz.func50,Tryz.ntmps50
 go_wp2_with (go_at_call 87; refine (HF.out _ _ blA (by simp [go_sem]) (by simp)).mono ?_; rintro e w1 ⟨ra,rc,ms,rfl,hmn,hmr,hb1⟩; have HMN : Hid (ms.map MArm.arm = es.map Stil.normArm) := hmn; have HMR : Hid (ARow w1 _ (.slice ra ms.length rc) ms) := hmr; clear hmn hmr)
 go_ret
 exact ⟨ra,rc,ms,rfl,HMN.out,HMR.out.le (by simp),blA⟩
end Go.Proofs.YtenoanhonjdpjaaGreatDoor
