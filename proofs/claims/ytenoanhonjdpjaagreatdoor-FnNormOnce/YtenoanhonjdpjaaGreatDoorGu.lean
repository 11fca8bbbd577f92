/- W1,W2: texts put together. -/
import Derived.Test.YtenoanhonjdpjaaGreatDoorGt
import Derived.Deep.RegionHeld3
import Derived.Test.YtenoanhonjdpjaaGreatDoorY6b
set_option maxHeartbeats 4000000
set_option maxRecDepth 100000
/- The specification's chapter 4: a copy of coils. -/
namespace Go.Proofs.YtenoanhonjdpjaaGreatDoor
open Go.RowKit Go.Sort Go.BigFrame
theorem s_coils (es : List Stil.Elem) (v : Value) (w : World) (hat : ElemsAt w v es) (hl : es.length ≤ 999999) (hf : ∀ x ∈ es,x.fits) :
  Calls Tryz.prog 92 #[v] w fun e w' => ∃ (a : Option Addr) (c : Nat) (ms : List MElem),e = .returned (.slice a ms.length c) ∧ ms.map MElem.elem = es ∧ ERow w' w.heap.size (.slice a ms.length c) ms ∧ Below w.heap.size w w' := by
 obtain ⟨a,cap,rfl,hc⟩ := hat
 have HA : Hid (∀ i (h : i < es.length),∃ b o,a = some ⟨b,o,none⟩ ∧ b < w.heap.size ∧ ElemAt w b (o + i * 2) es[i]) := hc
 have HF : Hid (∀ x ∈ es,x.fits) := hf
 clear hc hf
 go_enter Tryz.func92,Tryz.ntmps92
 go_wp2
 go_loopw [3,4] (fun d i wr => ∃ (j : Nat) (ms : List MElem) (ra : Option Addr) (rc : Nat),j ≤ es.length ∧ i = .int .i64 j ∧ d = .slice ra ms.length rc ∧ ms.map MElem.elem = (es.take j) ∧ ERow wr w.heap.size (.slice ra ms.length rc) ms ∧ Below w.heap.size w wr) (fun _ i _ => es.length - (intOf i).toNat)
 case atStart =>
  refine ⟨0,[],some ⟨w.heap.size,0,none⟩,0,by omega,rfl,rfl,rfl,⟨?_,(fun m hm => by cases hm),List.pairwise_singleton _ _⟩,blA⟩
  have := World.ownsRow_lit (base := w.heap.size) (e := 30) (size := 2) w #[] 0 (by simp) (by unfold maxLen; omega) rfl
  simpa [eCells] using this
 case round =>
  obtain ⟨j,ms,ra,rc,hj,rfl,rfl,hmn,hmr,hb⟩ := hrel
  have HMN : Hid (ms.map MElem.elem = (es.take j)) := hmn
  have HMR : Hid (ERow wr w.heap.size (.slice ra ms.length rc) ms) := hmr
  clear hmn hmr
  by_cases hlt : j < es.length
  ·have hml : ms.length = j := by
    have h1 := congrArg List.length HMN.out
    simp only [List.length_map,List.length_take] at h1
    omega
   obtain ⟨b,o,rfl,hbl,hn⟩ := HA.out j hlt
   obtain ⟨x0,av,x1,hav⟩ := hn.below hb hbl
   have hfx : es[j].args.length ≤ 1048576 := (HF.out _ (List.getElem_mem hlt)).2.1
   have HTS : Hid (es.take (j + 1) = es.take j ++ [es[j]]) := List.take_succ_eq_append_getElem hlt
   obtain ⟨x,hx⟩ : ∃ x,x = es[j] := ⟨_,rfl⟩
   rw [← hx] at x0 hav HTS hfx
   have hav2 := hav
   obtain ⟨p0,r0,rfl,hz8⟩ := hav
   clear hz8
   have HAV : Hid (DevsAt (wr.alloc (.cells #[] 42)).drew (.slice p0 x.args.length r0) x.args) := hav2.below (below_alloc wr (.cells #[] 42)).drew
   have hb0 : b < wr.heap.size := Nat.lt_of_lt_of_le hbl hb.size
   have HOW : Hid (((wr.alloc (.cells #[] 42)).drew).ownsRow wr.heap.size 42 3 (.slice (some ⟨wr.heap.size,0,none⟩) 0 0) 0 []) := by
    have := World.ownsRow_lit (base := wr.heap.size) (e := 42) (size := 3) wr #[] 0 (Nat.le_refl _) (by unfold maxLen; omega) rfl
    have h2 : (wr.alloc (.cells #[] 42)).ownsRow wr.heap.size 42 3 (.slice (some ⟨wr.heap.size,0,none⟩) 0 0) 0 [] := by simpa using this
    exact h2
   have HCB : Hid (∀ W,((wr.alloc (.cells #[] 42)).drew).grownBy W (some wr.heap.size) → Below wr.heap.size wr W) := fun W hg => (below_alloc wr (.cells #[] 42)).drew.grown hg (by simp) (fun k hk => by cases hk; exact Nat.le_refl _)
   have HVL : Hid (∀ k,(Value.slice ra ms.length rc).ownBlock = some k → w.heap.size ≤ k) := fun k hk => (HMR.out.1.lt k hk).1
   have HAP : Hid (∀ u : Value,(∀ q,u.ownBlock = some q → wr.heap.size ≤ q) → (Value.slice ra ms.length rc :: (eVals ms ++ eVals [MElem.mk x.op x.args u])).Pairwise Aside) := by
    intro u hu
    have h2 := HMR.out.2.2
    rw [List.pairwise_cons] at h2 ⊢
    have hnew : ∀ y ∈ Value.slice ra ms.length rc :: eVals ms,Aside y u := fun y hy => aside_new (n := wr.heap.size) (fun k hk => (HMR.out.lt y hy k hk).2) hu
    refine ⟨fun y hy => ?_,List.pairwise_append.2 ⟨h2.2,List.pairwise_singleton _ _,fun y hy z hz => ?_⟩⟩
    ·rcases List.mem_append.1 hy with hy | hy
     ·exact h2.1 y hy
     ·rw [show y = u from by simpa [eVals] using hy]; exact hnew _ (by simp)
    ·rw [show z = u from by simpa [eVals] using hz]; exact hnew y (List.mem_cons_of_mem _ hy)
   have hl2 : ms.length + [MElem.mk x.op x.args (.slice none 0 0)].length ≤ 1000000 := by simp only [List.length_singleton]; omega
   have hj1 : (0 : Int) ≤ (j : Int) := by omega
   have hj2 : (j : Int) < (es.length : Int) := by omega
   clear hx hn hav2 hml
   go_upto_region 5 with fail
   go_region_held3 (fun W' => (W'.cell? ⟨b,o + j * 2,none⟩ = some (.int .i64 x.op) ∧ W'.cell? ⟨b,o + j * 2 + 1,none⟩ = some (.slice p0 x.args.length r0))) (first | with_reducible assumption | with_reducible exact ⟨cellDrew.trans x0,cellDrew.trans x1⟩ | with_reducible exact ⟨cellDrew.trans ((cellAllocO hb0).trans x0),cellDrew.trans ((cellAllocO hb0).trans x1)⟩ | with_reducible exact ⟨(cellAllocO hb05).trans hS5.1,(cellAllocO hb05).trans hS5.2⟩ | skip) (first | (refine step_append_devs rfl _ _ rfl wr.heap.size wr.heap.size x.args rfl HOW.out p0 r0 rfl HAV.out hfx (by show wr.heap.size ≤ (wr.alloc _).heap.size; simp) ?_; intro u w5 g5 hg5; obtain ⟨s0,t0,hu⟩ := slice_of_owns g5; subst hu; have HG5 : Hid (w5.ownsRow w.heap.size 42 3 (.slice s0 x.args.length t0) x.args.length (devsCells x.args)) := Joins.ownsRow_le g5 hb.size; have HLO5 : Hid (∀ q,(Value.slice s0 x.args.length t0).ownBlock = some q → wr.heap.size ≤ q) := (fun q hq => (g5.lt q hq).1); have hC5 : Below wr.heap.size wr w5 := HCB.out w5 hg5; have hS5 : (w5.cell? ⟨b,o + j * 2,none⟩ = some (.int .i64 x.op) ∧ w5.cell? ⟨b,o + j * 2 + 1,none⟩ = some (.slice p0 x.args.length r0)) := ⟨(hC5.cell (p := ⟨b,o + j * 2,none⟩) hb0).trans x0,(hC5.cell (p := ⟨b,o + j * 2 + 1,none⟩) hb0).trans x1⟩; have hb05 : b < w5.heap.size := Nat.lt_of_lt_of_le hb0 hC5.size; clear g5) | (refine step_grow_elems rfl _ _ rfl w.heap.size w.heap.size ra rc ms [(MElem.mk x.op x.args (.slice s0 x.args.length t0))] _ 1 rfl rfl ((HMR.out.below hC5).below (below_alloc _ _)) (fun _ => ⟨_,rfl,by exact cells2e (by simp)⟩) (fun m hm => by rw [List.mem_singleton.1 hm]; exact (ownsRow_below HG5.out (below_alloc _ _))) (HAP.out _ HLO5.out) hl2 (by have := hC5.size; have := hb.size; simp; omega) (by have := hC5.size; have := hb.size; simp; omega) HVL.out ?_; intro a6 c6 w6 hmr6 hb6 hv6; have HM6 : Hid (ERow w6 w.heap.size (.slice a6 (ms.length + 1) c6) (ms ++ [(MElem.mk x.op x.args (.slice s0 x.args.length t0))])) := hmr6; have HB6 : Hid (Below w.heap.size w w6) := (bl_alloc (hb.trans (hC5.mono hb.size)) _).trans hb6; have hS6 : (w6.cell? ⟨b,o + j * 2,none⟩ = some (.int .i64 x.op) ∧ w6.cell? ⟨b,o + j * 2 + 1,none⟩ = some (.slice p0 x.args.length r0)) := ⟨((hb6.cell (p := ⟨b,o + j * 2,none⟩) hbl).trans (cellAllocO hb05)).trans hS5.1,((hb6.cell (p := ⟨b,o + j * 2 + 1,none⟩) hbl).trans (cellAllocO hb05)).trans hS5.2⟩; clear hmr6 hb6 hv6))
   all_goals
    go_wp2
    refine ⟨⟨j + 1,ms ++ [MElem.mk x.op x.args (.slice s0 x.args.length t0)],a6,c6,by omega,by go_num,by simp,?_,by rw [List.length_append]; exact HM6.out,HB6.out⟩,by simp [intOf]; omega⟩
    rw [HTS.out,List.map_append,HMN.out,List.map_singleton]
    rfl
  ·obtain rfl : j = es.length := by omega
   have hmn := HMN.out
   rw [List.take_length] at hmn
   have HMN2 : Hid (ms.map MElem.elem = es) := hmn
   clear hmn
   go_wp2
   go_ret
   exact ⟨ra,rc,ms,rfl,HMN2.out,HMR.out,hb⟩
theorem nets_from {w : World} {base : Nat} {v : Value} {ms : List MNet} (h1 : w.ownsRow base 33 4 v ms.length (mCells ms)) (h2 : ∀ m ∈ ms,MOk w base m) : NetsFrom base w v (ms.map MNet.net) := by
 have := (MOk.from (MNet.mk 0 0 [] (.slice none 0 0) v ms) ((MOk_iff _ _ _).2 ⟨World.ownsRow_nil _ _ _ _,h1,h2⟩)).2
 rwa [MNet.net_eq] at this
theorem s_netNone' (n : Stil.Net) (av kv : Value) (w : World) (hav : DevsAt w av n.one.args) (hkv : NetsAt w kv n.kids) (hf : Stil.netFits n) :
  Calls Tryz.prog 74 #[.agg #[.int .i64 n.kind,.int .i64 n.one.op,av,kv]] w fun e w' => e = .returned (.bool (Stil.netNone n)) ∧ Below w.heap.size w w' := by
 obtain ⟨_,he,hl,_⟩ := Stil.netFits_parts hf
 exact s_netNone n av kv w hav hkv (by have := he.2.1; omega) (by omega)
theorem s_join (k1 o1 : Int) (d1 : List Stil.Dev) (a1 : Option Addr) (c1 : Nat) (b1_ : Option Addr) (e1 : Nat) (n1 : List MNet) (k2 o2 : Int) (d2 : List Stil.Dev) (a2 : Option Addr) (c2 : Nat) (b2_ : Option Addr) (e2 : Nat) (n2 : List MNet) (base : Nat) (w : World)
  (h1 : MOk w base (MNet.mk k1 o1 d1 (.slice a1 d1.length c1) (.slice b1_ n1.length e1) n1)) (h2 : MOk w base (MNet.mk k2 o2 d2 (.slice a2 d2.length c2) (.slice b2_ n2.length e2) n2)) (hp : ((MNet.mk k1 o1 d1 (.slice a1 d1.length c1) (.slice b1_ n1.length e1) n1).vals ++ (MNet.mk k2 o2 d2 (.slice a2 d2.length c2) (.slice b2_ n2.length e2) n2).vals).Pairwise Aside) (hbase : base ≤ w.heap.size) (hs : Stil.sizes [(MNet.mk k1 o1 d1 (.slice a1 d1.length c1) (.slice b1_ n1.length e1) n1).net,(MNet.mk k2 o2 d2 (.slice a2 d2.length c2) (.slice b2_ n2.length e2) n2).net] ≤ 999999) (hg1 : Stil.fineOr (MNet.mk k1 o1 d1 (.slice a1 d1.length c1) (.slice b1_ n1.length e1) n1).net) (hg2 : Stil.fineOr (MNet.mk k2 o2 d2 (.slice a2 d2.length c2) (.slice b2_ n2.length e2) n2).net) (hf1 : Stil.netFits (MNet.mk k1 o1 d1 (.slice a1 d1.length c1) (.slice b1_ n1.length e1) n1).net) (hf2 : Stil.netFits (MNet.mk k2 o2 d2 (.slice a2 d2.length c2) (.slice b2_ n2.length e2) n2).net) :
  Calls Tryz.prog 94 #[.agg #[.int .i64 k1,.int .i64 o1,.slice a1 d1.length c1,.slice b1_ n1.length e1],.agg #[.int .i64 k2,.int .i64 o2,.slice a2 d2.length c2,.slice b2_ n2.length e2]] w fun e w' => NetRetV w' base ((MNet.mk k1 o1 d1 (.slice a1 d1.length c1) (.slice b1_ n1.length e1) n1).vals ++ (MNet.mk k2 o2 d2 (.slice a2 d2.length c2) (.slice b2_ n2.length e2) n2).vals) w.heap.size (Stil.series (MNet.mk k1 o1 d1 (.slice a1 d1.length c1) (.slice b1_ n1.length e1) n1).net (MNet.mk k2 o2 d2 (.slice a2 d2.length c2) (.slice b2_ n2.length e2) n2).net) e ∧ Below w.heap.size w w' := by
 obtain ⟨f1,f2⟩ := MOk.from _ h1
 obtain ⟨f3,f4⟩ := MOk.from _ h2
 have HN1 : Hid (∀ W,Below w.heap.size w W → Calls Tryz.prog 74 #[.agg #[.int .i64 k1,.int .i64 o1,.slice a1 d1.length c1,.slice b1_ n1.length e1]] W fun e w' => e = .returned (.bool (Stil.netNone (MNet.mk k1 o1 d1 (.slice a1 d1.length c1) (.slice b1_ n1.length e1) n1).net)) ∧ Below W.heap.size W w') := by
  intro W h
  have := s_netNone' (MNet.mk k1 o1 d1 (.slice a1 d1.length c1) (.slice b1_ n1.length e1) n1).net _ _ W (f1.at.below h) (f2.at.below h) hf1
  have e := MNet.net_eq (MNet.mk k1 o1 d1 (.slice a1 d1.length c1) (.slice b1_ n1.length e1) n1)
  have ee1 : (MNet.mk k1 o1 d1 (.slice a1 d1.length c1) (.slice b1_ n1.length e1) n1).net.kind = k1 := by rw [e]
  have ee2 : (MNet.mk k1 o1 d1 (.slice a1 d1.length c1) (.slice b1_ n1.length e1) n1).net.one.op = o1 := by rw [e]
  rw [ee1,ee2] at this
  exact this
 have HN2 : Hid (∀ W,Below w.heap.size w W → Calls Tryz.prog 74 #[.agg #[.int .i64 k2,.int .i64 o2,.slice a2 d2.length c2,.slice b2_ n2.length e2]] W fun e w' => e = .returned (.bool (Stil.netNone (MNet.mk k2 o2 d2 (.slice a2 d2.length c2) (.slice b2_ n2.length e2) n2).net)) ∧ Below W.heap.size W w') := by
  intro W h
  have := s_netNone' (MNet.mk k2 o2 d2 (.slice a2 d2.length c2) (.slice b2_ n2.length e2) n2).net _ _ W (f3.at.below h) (f4.at.below h) hf2
  have e := MNet.net_eq (MNet.mk k2 o2 d2 (.slice a2 d2.length c2) (.slice b2_ n2.length e2) n2)
  have ee1 : (MNet.mk k2 o2 d2 (.slice a2 d2.length c2) (.slice b2_ n2.length e2) n2).net.kind = k2 := by rw [e]
  have ee2 : (MNet.mk k2 o2 d2 (.slice a2 d2.length c2) (.slice b2_ n2.length e2) n2).net.one.op = o2 := by rw [e]
  rw [ee1,ee2] at this
  exact this
 have hp1 := List.pairwise_append.1 hp
 have HO1 : Hid (∀ W,Below w.heap.size w W → MOwn W base (MNet.mk k1 o1 d1 (.slice a1 d1.length c1) (.slice b1_ n1.length e1) n1)) := fun W h => ⟨h1.below h,hp1.1⟩
 have HO2 : Hid (∀ W,Below w.heap.size w W → MOwn W base (MNet.mk k2 o2 d2 (.slice a2 d2.length c2) (.slice b2_ n2.length e2) n2)) := fun W h => ⟨h2.below h,hp1.2.1⟩
 have HLT : Hid (∀ x ∈ (MNet.mk k1 o1 d1 (.slice a1 d1.length c1) (.slice b1_ n1.length e1) n1).vals ++ (MNet.mk k2 o2 d2 (.slice a2 d2.length c2) (.slice b2_ n2.length e2) n2).vals,∀ q,x.ownBlock = some q → q < w.heap.size) := by
  intro x hx q hq
  rcases List.mem_append.1 hx with hx | hx
  ·exact (h1.lt _ x hx q hq).2
  ·exact (h2.lt _ x hx q hq).2
 have HNB : Hid (Stil.netNone (MNet.mk k1 o1 d1 (.slice a1 d1.length c1) (.slice b1_ n1.length e1) n1).net = false → Stil.netNone (MNet.mk k2 o2 d2 (.slice a2 d2.length c2) (.slice b2_ n2.length e2) n2).net = false → ∀ W,Below w.heap.size w W → Calls Tryz.prog 123 #[.int .i64 2,.slice (some ⟨W.heap.size,0,none⟩) 2 2] (W.alloc (.cells #[.int .i64 k1,.int .i64 o1,.slice a1 d1.length c1,.slice b1_ n1.length e1,.int .i64 k2,.int .i64 o2,.slice a2 d2.length c2,.slice b2_ n2.length e2] 33)) fun e w' => NetRet w' (W.alloc (.cells #[.int .i64 k1,.int .i64 o1,.slice a1 d1.length c1,.slice b1_ n1.length e1,.int .i64 k2,.int .i64 o2,.slice a2 d2.length c2,.slice b2_ n2.length e2] 33)).heap.size (Stil.blockOf 2 (Stil.flatKids 2 [(MNet.mk k1 o1 d1 (.slice a1 d1.length c1) (.slice b1_ n1.length e1) n1).net,(MNet.mk k2 o2 d2 (.slice a2 d2.length c2) (.slice b2_ n2.length e2) n2).net])) e ∧ Below (W.alloc (.cells #[.int .i64 k1,.int .i64 o1,.slice a1 d1.length c1,.slice b1_ n1.length e1,.int .i64 k2,.int .i64 o2,.slice a2 d2.length c2,.slice b2_ n2.length e2] 33)).heap.size (W.alloc (.cells #[.int .i64 k1,.int .i64 o1,.slice a1 d1.length c1,.slice b1_ n1.length e1,.int .i64 k2,.int .i64 o2,.slice a2 d2.length c2,.slice b2_ n2.length e2] 33)) w') := by
  intro t1 t2 W h
  have hr := MRow.pair (h1.below h) (h2.below h) hp (Nat.le_trans hbase h.size)
  have hx1 : Stil.fine (MNet.mk k1 o1 d1 (.slice a1 d1.length c1) (.slice b1_ n1.length e1) n1).net := hg1.resolve_left (by rw [t1]; exact Bool.false_ne_true)
  have hx2 : Stil.fine (MNet.mk k2 o2 d2 (.slice a2 d2.length c2) (.slice b2_ n2.length e2) n2).net := hg2.resolve_left (by rw [t2]; exact Bool.false_ne_true)
  have hm : [(MNet.mk k1 o1 d1 (.slice a1 d1.length c1) (.slice b1_ n1.length e1) n1).net,(MNet.mk k2 o2 d2 (.slice a2 d2.length c2) (.slice b2_ n2.length e2) n2).net].map Stil.normNet = [(MNet.mk k1 o1 d1 (.slice a1 d1.length c1) (.slice b1_ n1.length e1) n1).net,(MNet.mk k2 o2 d2 (.slice a2 d2.length c2) (.slice b2_ n2.length e2) n2).net] := by
   simp only [List.map_cons,List.map_nil]
   rw [Stil.fine_same hx1,Stil.fine_same hx2]
  have hat : NetsAt (W.alloc (.cells #[.int .i64 k1,.int .i64 o1,.slice a1 d1.length c1,.slice b1_ n1.length e1,.int .i64 k2,.int .i64 o2,.slice a2 d2.length c2,.slice b2_ n2.length e2] 33)) (.slice (some ⟨W.heap.size,0,none⟩) 2 2) [(MNet.mk k1 o1 d1 (.slice a1 d1.length c1) (.slice b1_ n1.length e1) n1).net,(MNet.mk k2 o2 d2 (.slice a2 d2.length c2) (.slice b2_ n2.length e2) n2).net] := (nets_from hr.1 hr.2.1).at
  have := s_flat 2 [(MNet.mk k1 o1 d1 (.slice a1 d1.length c1) (.slice b1_ n1.length e1) n1).net,(MNet.mk k2 o2 d2 (.slice a2 d2.length c2) (.slice b2_ n2.length e2) n2).net] (fun x hx av kv V ha hk => by
   rcases List.mem_cons.1 hx with rfl | hx
   ·exact s_l4Net _ hf1 hx1.2.2 (by simp [Stil.sizes] at hs; omega) av kv V ha hk
   ·rw [List.mem_singleton.1 hx] at ha hk ⊢
    exact s_l4Net _ hf2 hx2.2.2 (by simp [Stil.sizes] at hs; omega) av kv V ha hk) _ _ hat (by simp) (by rw [hm]; omega)
  rw [hm] at this
  exact this
 obtain ⟨S,hS⟩ : ∃ S,S = Stil.series (MNet.mk k1 o1 d1 (.slice a1 d1.length c1) (.slice b1_ n1.length e1) n1).net (MNet.mk k2 o2 d2 (.slice a2 d2.length c2) (.slice b2_ n2.length e2) n2).net := ⟨_,rfl⟩
 have HS : Hid (S = if Stil.netNone (MNet.mk k1 o1 d1 (.slice a1 d1.length c1) (.slice b1_ n1.length e1) n1).net then (MNet.mk k2 o2 d2 (.slice a2 d2.length c2) (.slice b2_ n2.length e2) n2).net else if Stil.netNone (MNet.mk k2 o2 d2 (.slice a2 d2.length c2) (.slice b2_ n2.length e2) n2).net then (MNet.mk k1 o1 d1 (.slice a1 d1.length c1) (.slice b1_ n1.length e1) n1).net else Stil.blockOf 2 (Stil.flatKids 2 [(MNet.mk k1 o1 d1 (.slice a1 d1.length c1) (.slice b1_ n1.length e1) n1).net,(MNet.mk k2 o2 d2 (.slice a2 d2.length c2) (.slice b2_ n2.length e2) n2).net])) := hS
 rw [← hS]
 obtain ⟨t1,ht1⟩ : ∃ t,t = Stil.netNone (MNet.mk k1 o1 d1 (.slice a1 d1.length c1) (.slice b1_ n1.length e1) n1).net := ⟨_,rfl⟩
 obtain ⟨t2,ht2⟩ : ∃ t,t = Stil.netNone (MNet.mk k2 o2 d2 (.slice a2 d2.length c2) (.slice b2_ n2.length e2) n2).net := ⟨_,rfl⟩
 rw [← ht1] at HN1 HS HNB
 rw [← ht2] at HN2 HS HNB
 obtain ⟨VS,hVS⟩ : ∃ VS,VS = (MNet.mk k1 o1 d1 (.slice a1 d1.length c1) (.slice b1_ n1.length e1) n1).vals ++ (MNet.mk k2 o2 d2 (.slice a2 d2.length c2) (.slice b2_ n2.length e2) n2).vals := ⟨_,rfl⟩
 have HVS : Hid (VS = (MNet.mk k1 o1 d1 (.slice a1 d1.length c1) (.slice b1_ n1.length e1) n1).vals ++ (MNet.mk k2 o2 d2 (.slice a2 d2.length c2) (.slice b2_ n2.length e2) n2).vals) := hVS
 rw [← hVS] at HLT ⊢
 obtain ⟨X1,hX1⟩ : ∃ X,X = (MNet.mk k1 o1 d1 (.slice a1 d1.length c1) (.slice b1_ n1.length e1) n1).net := ⟨_,rfl⟩
 obtain ⟨X2,hX2⟩ : ∃ X,X = (MNet.mk k2 o2 d2 (.slice a2 d2.length c2) (.slice b2_ n2.length e2) n2).net := ⟨_,rfl⟩
 have HX1 : Hid (X1 = (MNet.mk k1 o1 d1 (.slice a1 d1.length c1) (.slice b1_ n1.length e1) n1).net) := hX1
 have HX2 : Hid (X2 = (MNet.mk k2 o2 d2 (.slice a2 d2.length c2) (.slice b2_ n2.length e2) n2).net) := hX2
 rw [← hX1,← hX2] at HNB HS
 clear hS ht1 ht2 hVS hX1 hX2 f1 f2 f3 f4 h1 h2 hp hp1 hs hf1 hf2 hg1 hg2
 cases t1
 ·cases t2
  ·have hSe : S = Stil.blockOf 2 (Stil.flatKids 2 [X1,X2]) := by rw [HS.out]; rfl
   rw [← hSe] at HNB
   clear HS hSe HO1 HO2
   go_enter Tryz.func94,Tryz.ntmps94
   go_upto_region 3 with (go_at_call 74; refine (HN1.out _ blA).mono ?_; rintro e w1 ⟨rfl,hb1⟩; obtain ⟨hc,hf⟩ := bcell hb1; have hza : w.heap.size < w1.heap.size := Nat.lt_of_lt_of_le (by simp; omega) hb1.size; have hzb : w.heap.size + 1 < w1.heap.size := Nat.lt_of_lt_of_le (by simp) hb1.size; have hzc : w.heap.size + 1 + 1 < w1.heap.size := Nat.lt_of_lt_of_le (by simp) hb1.size; have hbA : Below w.heap.size w w1 := blA)
   go_upto_region 5 with (go_at_call 74; refine (HN2.out _ blA).mono ?_; rintro e w2 ⟨rfl,hb2⟩; obtain ⟨hc2,hf2⟩ := bcell hb2; have hzd : w.heap.size < w2.heap.size := Nat.lt_of_lt_of_le hza hb2.size; have hze : w.heap.size + 1 < w2.heap.size := Nat.lt_of_lt_of_le hzb hb2.size; have hzf : w.heap.size + 1 + 1 < w2.heap.size := Nat.lt_of_lt_of_le hzc hb2.size; have hbB : Below w.heap.size w w2 := (by exact hbA.trans (hb2.mono hbA.size)))
   go_wp2_with (go_at_call 123; refine (HNB.out (by trivial) (by trivial) w2 hbB).mono ?_; rintro e w3 ⟨⟨mk,mop,mds,s0,t0,s1,t1,mks,rfl,hmo,hmn⟩,hb3⟩; obtain ⟨hc3,hf3⟩ := bcell hb3; have hzg : w.heap.size + 1 + 1 < w3.heap.size := Nat.lt_of_lt_of_le (Nat.lt_of_lt_of_le hzf (by simp)) hb3.size; have HMO : Hid (MOwn w3 base ⟨mk,mop,mds,.slice s0 mds.length t0,.slice s1 mks.length t1,mks⟩) := hmo.le (Nat.le_trans hbase (Nat.le_trans hbB.size (by simp))); have HMN : Hid ((MNet.mk mk mop mds (.slice s0 mds.length t0) (.slice s1 mks.length t1) mks).net = S) := hmn; have HW : Hid (∀ x ∈ (MNet.mk mk mop mds (.slice s0 mds.length t0) (.slice s1 mks.length t1) mks).vals,x ∈ VS ∨ ∀ q,x.ownBlock = some q → w2.heap.size ≤ q) := (fun x hx => .inr (fun q hq => Nat.le_trans (by simp) (hmo.1.lt _ x hx q hq).1)); clear hmo hmn)
   have b0 : w3.cell? ⟨w.heap.size + 1 + 1,0,none⟩ = some (.int .i64 0) := by rw [hc3 _ _ (Nat.lt_of_lt_of_le hzf (by simp)),cellAllocO hzf,hc2 _ _ hzc,hc _ _ (by simp)]; simp [go_sem]
   have b1 : w3.cell? ⟨w.heap.size + 1 + 1,1,none⟩ = some (.int .i64 0) := by rw [hc3 _ _ (Nat.lt_of_lt_of_le hzf (by simp)),cellAllocO hzf,hc2 _ _ hzc,hc _ _ (by simp)]; simp [go_sem]
   have b2 : w3.cell? ⟨w.heap.size + 1 + 1,2,none⟩ = some (.slice none 0 0) := by rw [hc3 _ _ (Nat.lt_of_lt_of_le hzf (by simp)),cellAllocO hzf,hc2 _ _ hzc,hc _ _ (by simp)]; simp [go_sem]
   have b3 : w3.cell? ⟨w.heap.size + 1 + 1,3,none⟩ = some (.slice none 0 0) := by rw [hc3 _ _ (Nat.lt_of_lt_of_le hzf (by simp)),cellAllocO hzf,hc2 _ _ hzc,hc _ _ (by simp)]; simp [go_sem]
   refine bodyPost_ret (v := .agg #[.int .i64 mk,.int .i64 mop,.slice s0 mds.length t0,.slice s1 mks.length t1]) (by simp [results,Tryz.results94,go_sem,b0,b1,b2,b3]) rfl ⟨⟨mk,mop,mds,s0,t0,s1,t1,mks,rfl,?_,HMN.out,fun x hx => (HW.out x hx).imp id (fun h q hq => by have := h q hq; omega)⟩,?_⟩
   ·refine MOwn.setO4 HMO.out (fun x hx e => ?_)
    rcases HW.out x hx with h | h
    ·have := HLT.out x h _ e; omega
    ·have := h _ e; omega
   ·have hbC : Below w.heap.size w w3 := (bl_alloc hbB _).trans (hb3.mono (by have := hbB.size; simp; omega))
    clear hbA hbB hb1 hb2 hb3
    (repeat (first | with_reducible exact Below.refl _ _ | with_reducible assumption | with_reducible refine bl_set (by first | exact Nat.le_refl _ | (simp; done) | (simp; omega) | omega) ?_ _ | with_reducible refine bl_alloc ?_ _ | with_reducible refine bl_drewN ?_ _ | with_reducible refine bl_drew ?_ | with_reducible refine bl_grow ?_ _ _ | with_reducible refine bl_call ?_ (by assumption)))
  ·have hSe : S = X1 := by rw [HS.out]; rfl
   have HMN : Hid ((MNet.mk k1 o1 d1 (.slice a1 d1.length c1) (.slice b1_ n1.length e1) n1).net = S) := by show _ = _; rw [hSe,HX1.out]
   have HIN : Hid (∀ x ∈ (MNet.mk k1 o1 d1 (.slice a1 d1.length c1) (.slice b1_ n1.length e1) n1).vals,x ∈ VS) := fun x hx => by rw [HVS.out]; exact List.mem_append_left _ hx
   clear HS hSe HNB HO2
   go_enter Tryz.func94,Tryz.ntmps94
   go_upto_region 3 with (go_at_call 74; refine (HN1.out _ blA).mono ?_; rintro e w1 ⟨rfl,hb1⟩; obtain ⟨hc,hf⟩ := bcell hb1; have hza : w.heap.size < w1.heap.size := Nat.lt_of_lt_of_le (by simp; omega) hb1.size; have hzb : w.heap.size + 1 < w1.heap.size := Nat.lt_of_lt_of_le (by simp) hb1.size; have hzc : w.heap.size + 1 + 1 < w1.heap.size := Nat.lt_of_lt_of_le (by simp) hb1.size; have hbA : Below w.heap.size w w1 := blA)
   go_wp2_with (go_at_call 74; refine (HN2.out _ blA).mono ?_; rintro e w2 ⟨rfl,hb2⟩; obtain ⟨hc2,hf2⟩ := bcell hb2; have hzd : w.heap.size < w2.heap.size := Nat.lt_of_lt_of_le hza hb2.size; have hze : w.heap.size + 1 < w2.heap.size := Nat.lt_of_lt_of_le hzb hb2.size; have hzf : w.heap.size + 1 + 1 < w2.heap.size := Nat.lt_of_lt_of_le hzc hb2.size; have hbB : Below w.heap.size w w2 := (by exact hbA.trans (hb2.mono hbA.size)))
   have b0 : w2.cell? ⟨w.heap.size + 1 + 1,0,none⟩ = some (.int .i64 0) := by rw [hc2 _ _ hzc,hc _ _ (by simp)]; simp [go_sem]
   have b1 : w2.cell? ⟨w.heap.size + 1 + 1,1,none⟩ = some (.int .i64 0) := by rw [hc2 _ _ hzc,hc _ _ (by simp)]; simp [go_sem]
   have b2 : w2.cell? ⟨w.heap.size + 1 + 1,2,none⟩ = some (.slice none 0 0) := by rw [hc2 _ _ hzc,hc _ _ (by simp)]; simp [go_sem]
   have b3 : w2.cell? ⟨w.heap.size + 1 + 1,3,none⟩ = some (.slice none 0 0) := by rw [hc2 _ _ hzc,hc _ _ (by simp)]; simp [go_sem]
   refine bodyPost_ret (v := .agg #[.int .i64 k1,.int .i64 o1,.slice a1 d1.length c1,.slice b1_ n1.length e1]) (by simp [results,Tryz.results94,go_sem,b0,b1,b2,b3]) rfl ⟨⟨k1,o1,d1,a1,c1,b1_,e1,n1,rfl,?_,HMN.out,fun x hx => .inl (HIN.out x hx)⟩,?_⟩
   ·exact MOwn.setO4 (HO1.out w2 hbB) (fun x hx e => by have := HLT.out x (HIN.out x hx) _ e; omega)
   ·clear hbA hb1 hb2
    (repeat (first | with_reducible exact Below.refl _ _ | with_reducible assumption | with_reducible refine bl_set (by first | exact Nat.le_refl _ | (simp; done) | (simp; omega) | omega) ?_ _ | with_reducible refine bl_alloc ?_ _ | with_reducible refine bl_drewN ?_ _ | with_reducible refine bl_drew ?_ | with_reducible refine bl_grow ?_ _ _ | with_reducible refine bl_call ?_ (by assumption)))
 ·have hSe : S = X2 := by rw [HS.out]; rfl
  have HMN : Hid ((MNet.mk k2 o2 d2 (.slice a2 d2.length c2) (.slice b2_ n2.length e2) n2).net = S) := by show _ = _; rw [hSe,HX2.out]
  have HIN : Hid (∀ x ∈ (MNet.mk k2 o2 d2 (.slice a2 d2.length c2) (.slice b2_ n2.length e2) n2).vals,x ∈ VS) := fun x hx => by rw [HVS.out]; exact List.mem_append_right _ hx
  clear HS hSe HNB HO1 HN2
  go_enter Tryz.func94,Tryz.ntmps94
  go_wp2_with (go_at_call 74; refine (HN1.out _ blA).mono ?_; rintro e w1 ⟨rfl,hb1⟩; obtain ⟨hc,hf⟩ := bcell hb1; have hza : w.heap.size < w1.heap.size := Nat.lt_of_lt_of_le (by simp; omega) hb1.size; have hzb : w.heap.size + 1 < w1.heap.size := Nat.lt_of_lt_of_le (by simp) hb1.size; have hzc : w.heap.size + 1 + 1 < w1.heap.size := Nat.lt_of_lt_of_le (by simp) hb1.size; have hbA : Below w.heap.size w w1 := blA)
  have b0 : w1.cell? ⟨w.heap.size + 1 + 1,0,none⟩ = some (.int .i64 0) := by rw [hc _ _ (by simp)]; simp [go_sem]
  have b1 : w1.cell? ⟨w.heap.size + 1 + 1,1,none⟩ = some (.int .i64 0) := by rw [hc _ _ (by simp)]; simp [go_sem]
  have b2 : w1.cell? ⟨w.heap.size + 1 + 1,2,none⟩ = some (.slice none 0 0) := by rw [hc _ _ (by simp)]; simp [go_sem]
  have b3 : w1.cell? ⟨w.heap.size + 1 + 1,3,none⟩ = some (.slice none 0 0) := by rw [hc _ _ (by simp)]; simp [go_sem]
  refine bodyPost_ret (v := .agg #[.int .i64 k2,.int .i64 o2,.slice a2 d2.length c2,.slice b2_ n2.length e2]) (by simp [results,Tryz.results94,go_sem,b0,b1,b2,b3]) rfl ⟨⟨k2,o2,d2,a2,c2,b2_,e2,n2,rfl,?_,HMN.out,fun x hx => .inl (HIN.out x hx)⟩,?_⟩
  ·exact MOwn.setO4 (HO2.out w1 hbA) (fun x hx e => by have := HLT.out x (HIN.out x hx) _ e; omega)
  ·clear hb1
   (repeat (first | with_reducible exact Below.refl _ _ | with_reducible assumption | with_reducible refine bl_set (by first | exact Nat.le_refl _ | (simp; done) | (simp; omega) | omega) ?_ _ | with_reducible refine bl_alloc ?_ _ | with_reducible refine bl_drewN ?_ _ | with_reducible refine bl_drew ?_ | with_reducible refine bl_grow ?_ _ _ | with_reducible refine bl_call ?_ (by assumption)))
end Go.Proofs.YtenoanhonjdpjaaGreatDoor
