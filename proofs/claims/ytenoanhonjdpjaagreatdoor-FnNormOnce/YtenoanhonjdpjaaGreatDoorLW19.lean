/- Z10,Z11,W4: texts put together. -/
import Derived.Test.YtenoanhonjdpjaaGreatDoorGY
import Derived.Test.YtenoanhonjdpjaaGreatDoorGv
import Derived.Test.YtenoanhonjdpjaaGreatDoorGP
import Derived.Test.YtenoanhonjdpjaaGreatDoorHf
import Derived.Deep.RegionWith
import Derived.Deep.RegionLaw
import Derived.Lib.QuietBelow
set_option maxHeartbeats 4000000
set_option maxRecDepth 100000
/- The program's chapter 4: the normal form of a ladder. -/
namespace Go.Proofs.YtenoanhonjdpjaaGreatDoor
open Go.RowKit Go.Sort Go.BigFrame
theorem i_accepted (l : List Stil.Arm) (kv : Value) (w : World) (hr : RowsAt w) (hg : ErrTypeAt w) (hkv : ArmsAt w kv l) (hl : l.length ≤ 1048576) (hsz : Stil.treeSize l ≤ 1000000000) (hft : ∀ x ∈ l,Stil.armFits x) :
  Calls Tryz.prog 49 #[kv] w fun e w' => e = .returned (.bool (decide ((Stil.treeCheck l).1 = 0))) ∧ Below w.heap.size w w' := by
 have HC : Hid (∀ W,Below w.heap.size w W → Calls Tryz.prog 10 #[kv] W fun e w' => e = .returned (.agg #[.int .i64 (Stil.treeCheck l).1,.int .i64 (Stil.treeCheck l).2]) ∧ Below W.heap.size W w') := fun W h => i_treeCheck l kv W (hr.below h) (hg.below h) (hkv.below h) hl hsz hft
 have H0 : Hid ((Stil.treeCheck l).1 = 0 → (Stil.treeCheck l).2 = 0) := fun h => (Stil.check_zero h).1
 obtain ⟨p0,r0,rfl,hz⟩ := hkv
 obtain ⟨c,hc⟩ : ∃ c,c = (Stil.treeCheck l).1 := ⟨_,rfl⟩
 obtain ⟨r,hrr⟩ : ∃ r,r = (Stil.treeCheck l).2 := ⟨_,rfl⟩
 rw [← hc,← hrr] at HC H0
 rw [← hc]
 clear hz hc hrr hr hg hft
 go_enter Tryz.func49,Tryz.ntmps49
 go_wp2_with (go_at_call 10; refine (HC.out _ blA).mono ?_; rintro e w1 ⟨rfl,hb1⟩)
 all_goals go_ret
 all_goals refine ⟨ret_bool ?_,blA⟩
 all_goals (have h0 := H0.out; by_cases hc0 : c = 0 <;> simp_all)
/-- A slice of arms that is answered: it owns its memory. -/
def ArmsRet (w : World) (base : Nat) (l : List Stil.Arm) (e : Ending) : Prop := ∃ (a : Option Addr) (c : Nat) (ms : List MArm),e = .returned (.slice a ms.length c) ∧ ms.map MArm.arm = l ∧ ARow w base (.slice a ms.length c) ms
theorem i_NormMake (l : List Stil.Arm) (kv : Value) (w : World) (hr : RowsAt w) (hg : ErrTypeAt w) (hkv : ArmsAt w kv l) (hl : l.length ≤ 1048576) (hsz : Stil.treeSize l ≤ 1000000000) (hft : ∀ x ∈ l,Stil.armFits x) :
  Calls Tryz.prog 19 #[kv] w fun e w' => ArmsRet w' w.heap.size (Stil.normMake l) e ∧ Below w.heap.size w w' := by
 have HC : Hid (∀ W,Below w.heap.size w W → Calls Tryz.prog 49 #[kv] W fun e w' => e = .returned (.bool (decide ((Stil.treeCheck l).1 = 0))) ∧ Below W.heap.size W w') := fun W h => i_accepted l kv W (hr.below h) (hg.below h) (hkv.below h) hl hsz hft
 have HE : Hid ((Stil.treeCheck l).1 = 0 → ∀ W,Below w.heap.size w W → Calls Tryz.prog 50 #[kv,.func (.func 51) #[] #[]] W fun e w' => ∃ (a : Option Addr) (c : Nat) (ms : List MArm),e = .returned (.slice a ms.length c) ∧ ms.map MArm.arm = l.map Stil.normArm ∧ ARow w' W.heap.size (.slice a ms.length c) ms ∧ Below W.heap.size W w') := by
  intro h0 W h
  exact i_normEachA l (fun x hx => i_normArm x (hft x hx) (by have := (Stil.rung_right h0 hx).2; omega)) kv W (hkv.below h) (by have := (Stil.check_zero h0).2.1; omega)
 obtain ⟨p0,r0,rfl,hz⟩ := hkv
 by_cases h0 : (Stil.treeCheck l).1 = 0
 ·have HN : Hid (Stil.normMake l = l.map Stil.normArm) := if_pos h0
  rw [HN.out]
  have HE2 := HE.out h0
  have HE3 : Hid (∀ W,Below w.heap.size w W → Calls Tryz.prog 50 #[.slice p0 l.length r0,.func (.func 51) #[] #[]] W fun e w' => ∃ (a : Option Addr) (c : Nat) (ms : List MArm),e = .returned (.slice a ms.length c) ∧ ms.map MArm.arm = l.map Stil.normArm ∧ ARow w' W.heap.size (.slice a ms.length c) ms ∧ Below W.heap.size W w') := HE2
  rw [decide_eq_true h0] at HC
  clear hz hr hg hft HN HE HE2 h0
  go_enter Tryz.func19,Tryz.ntmps19
  go_wp2_with (first | (go_at_call 49; refine (HC.out _ blA).mono ?_; rintro e w1 ⟨rfl,hb1⟩) | (go_at_call 50; refine (HE3.out _ blA).mono ?_; rintro e w2 ⟨ra,rc,ms,rfl,hmn,hmr,hb2⟩; have HMN : Hid (ms.map MArm.arm = l.map Stil.normArm) := hmn; have HMR : Hid (ARow w2 w1.heap.size (.slice ra ms.length rc) ms) := hmr; clear hmn hmr))
  go_ret
  exact ⟨⟨ra,rc,ms,rfl,HMN.out,HMR.out.le hb1.size⟩,blA⟩
 ·have HN : Hid (Stil.normMake l = []) := if_neg h0
  rw [HN.out]
  rw [decide_eq_false h0] at HC
  clear hz hr hg hft HN HE h0
  go_enter Tryz.func19,Tryz.ntmps19
  go_wp2_with (go_at_call 49; refine (HC.out _ blA).mono ?_; rintro e w1 ⟨rfl,hb1⟩)
  go_ret
  exact ⟨⟨none,0,[],rfl,rfl,ARow.nil _ _⟩,blA⟩
end Go.Proofs.YtenoanhonjdpjaaGreatDoor
/- An answered ladder: how it lies,its places,what it holds. -/
namespace Stil
theorem normMake_fits {l : List Arm} (h : ∀ x ∈ l,armFits x) : (∀ x ∈ normMake l,armFits x) ∧ treeSize (normMake l) ≤ 400 ∧ (normMake l).length ≤ 40 := by
 unfold normMake
 by_cases h0 : (treeCheck l).1 = 0
 ·rw [if_pos h0]
  have hx : ∀ x ∈ l,midOk (armSize x) (normArm x) := fun x hx => normArm_ok x (h x hx) (by have := (rung_right h0 hx).2; omega)
  refine ⟨fun x hx2 => ?_,?_,?_⟩
  ·obtain ⟨y,hy,rfl⟩ := List.mem_map.1 hx2
   exact (hx y hy).1
  ·refine Nat.le_trans ?_ (check_zero h0).2.2.1
   clear h h0
   unfold treeSize
   induction l with
   | nil => simp
   | cons x r ih =>
    have a := (hx x (by simp)).2
    have b := ih (fun y hy => hx y (List.mem_cons_of_mem _ hy))
    simp only [List.map_cons,List.sum_cons] at b ⊢
    omega
  ·rw [List.length_map]; exact (check_zero h0).2.1
 ·rw [if_neg h0]
  exact ⟨(fun x hx => by cases hx),by simp [treeSize],by simp⟩
end Stil
namespace Go.Proofs.YtenoanhonjdpjaaGreatDoor
open Go.RowKit Go.Sort Go.BigFrame
/-- The dummy arm whose kids are the row. -/
def rowArm (v : Value) (ars : List MArm) : MArm := ⟨nilNet,.slice none 0 0,[],v,ars⟩
theorem rowArm_own {w : World} {base : Nat} {v : Value} {ars : List MArm} (h : ARow w base v ars) : AOwn w base (rowArm v ars) := by
 have hv : (rowArm v ars).vals = nilNet.vals ++ (([.slice none 0 0]) ++ (v :: aVals ars)) := MArm.vals_eq _
 refine ⟨(AOk_iff _ _ _).2 ⟨nilNet_ok _ _,⟨World.ownsRow_nil _ _ _ _,fun x hx => by cases hx⟩,h.1,h.2.1⟩,?_⟩
 rw [hv]
 refine List.pairwise_append.2 ⟨?_,List.pairwise_append.2 ⟨List.pairwise_singleton _ _,h.2.2,fun x hx y _ => ?_⟩,fun x hx y _ => .inl (nil_own hx)⟩
 ·rw [nilNet_vals]
  exact List.pairwise_cons.2 ⟨fun y _ => aside_nil y,List.pairwise_singleton _ _⟩
 ·rw [List.mem_singleton.1 hx]; exact aside_nil y
def nilArm : MArm := ⟨nilNet,.slice none 0 0,[],.slice none 0 0,[]⟩
theorem fault_code (c r : Value) (w : World) : Sem.run Tryz.prog (Instr.field 26 (.agg #[c,r]) 0) w = .ok c w := by kernel_rfl
theorem s_NormMake (l : List Stil.Arm) (kv : Value) (w : World) (hkv : ArmsAt w kv l) (hl : l.length ≤ 1048576) (hsz : Stil.treeSize l ≤ 1000000000) (hft : ∀ x ∈ l,Stil.armFits x) :
  Calls Tryz.prog 20 #[kv] w fun e w' => ArmsRet w' w.heap.size (Stil.normMake l) e ∧ Below w.heap.size w w' := by
 have HC : Hid (∀ W,Below w.heap.size w W → Calls Tryz.prog 11 #[kv] W fun e w' => e = .returned (.agg #[.int .i64 (Stil.treeCheck l).1,.int .i64 (Stil.treeCheck l).2]) ∧ Below W.heap.size W w') := fun W h => s_treeCheck l kv W (hkv.below h) hl hsz hft
 have HAK : Hid (∀ W,Below w.heap.size w W → ArmsAt W kv l) := fun W h => hkv.below h
 have hcb := Stil.check_bound l
 obtain ⟨p0,r0,rfl,hz⟩ := hkv
 by_cases h0 : (Stil.treeCheck l).1 = 0
 ·have HN : Hid (Stil.normMake l = l.map Stil.normArm) := if_pos h0
  have HI : Hid (∀ x ∈ l,∀ (av nv cv kv : Value) (W : World),DevsAt W av x.net.one.args → NetsAt W nv x.net.kids → ElemsAt W cv x.coils → ArmsAt W kv x.kids → Calls Tryz.prog 52 #[.agg #[.int .i64 x.net.kind,.int .i64 x.net.one.op,av,nv,cv,kv]] W fun e w' => ArmRet w' W.heap.size (Stil.normArm x) e ∧ Below W.heap.size W w') := fun x hx => s_l4Arm x (hft x hx) (by have := (Stil.rung_right h0 hx).2; omega) (Stil.rung_right h0 hx).1
  have hl40 := (Stil.check_zero h0).2.1
  rw [HN.out]
  rw [h0] at HC
  obtain ⟨rr,hrr⟩ : ∃ r,r = (Stil.treeCheck l).2 := ⟨_,rfl⟩
  rw [← hrr] at HC
  clear hz hft HN h0 hcb hrr hsz
  have hfc := fault_code
  go_enter Tryz.func20,Tryz.ntmps20
  go_wp2_with (go_at_call 11; refine (HC.out _ blA).mono ?_; rintro e w1 ⟨rfl,hb1⟩)
  go_loopw [3,4] (fun d i wr => ∃ (j : Nat) (ms : List MArm) (ra : Option Addr) (rc : Nat),j ≤ l.length ∧ i = .int .i64 j ∧ d = .slice ra ms.length rc ∧ ms.map MArm.arm = (l.take j).map Stil.normArm ∧ ARow wr w.heap.size (.slice ra ms.length rc) ms ∧ Below w.heap.size w wr) (fun _ i _ => l.length - (intOf i).toNat)
  case atStart =>
   refine ⟨0,[],some ⟨w1.heap.size,0,none⟩,0,by omega,rfl,rfl,rfl,⟨?_,(fun m hm => by cases hm),List.pairwise_singleton _ _⟩,blA⟩
   have := World.ownsRow_lit (base := w.heap.size) (e := 36) (size := 6) w1 #[] 0 hb1.size (by unfold maxLen; omega) rfl
   simpa [aCells] using this
  case round =>
   clear hb1
   obtain ⟨j,ms,ra,rc,hj,rfl,rfl,hmn,hmr,hb⟩ := hrel
   have HMN : Hid (ms.map MArm.arm = (l.take j).map Stil.normArm) := hmn
   have HMR : Hid (ARow wr w.heap.size (.slice ra ms.length rc) ms) := hmr
   clear hmn hmr
   by_cases hlt : j < l.length
   ·have hml : ms.length = j := by
     have h1 := congrArg List.length HMN.out
     simp only [List.length_map,List.length_take] at h1
     omega
    have hat := HAK.out wr hb
    obtain ⟨pa,pc,hpe,hpc⟩ := hat
    simp only [Value.slice.injEq,true_and] at hpe
    obtain ⟨rfl,rfl⟩ := hpe
    obtain ⟨b,o,rfl,hbl,hn⟩ := hpc j hlt
    obtain ⟨hnn,cv',kk',x4,x5,hcv,hkv⟩ := hn.open
    obtain ⟨x0,x1,av',nv',x2,x3,hav,hnv⟩ := hnn.open
    have HI2 : Hid (∀ W,Below wr.heap.size wr W → Calls Tryz.prog 52 #[.agg #[.int .i64 l[j].net.kind,.int .i64 l[j].net.one.op,av',nv',cv',kk']] W fun e w' => ArmRet w' W.heap.size (Stil.normArm l[j]) e ∧ Below W.heap.size W w') := fun W h => HI.out l[j] (List.getElem_mem hlt) av' nv' cv' kk' W (hav.below h) (hnv.below h) (hcv.below h) (hkv.below h)
    have HTS : Hid ((l.take (j + 1)).map Stil.normArm = (l.take j).map Stil.normArm ++ [Stil.normArm l[j]]) := by show _ = _; rw [List.take_succ_eq_append_getElem hlt,List.map_append]; rfl
    obtain ⟨x,hx⟩ : ∃ x,x = l[j] := ⟨_,rfl⟩
    rw [← hx] at HI2 HTS x0 x1 hav hnv hcv hkv
    obtain ⟨q0,s0,rfl,_⟩ := hav
    obtain ⟨q1,s1',rfl,_⟩ := hnv
    obtain ⟨q2,s2',rfl,_⟩ := hcv
    obtain ⟨q3,s3',rfl,_⟩ := hkv
    have HVL : Hid (∀ k,(Value.slice ra ms.length rc).ownBlock = some k → w.heap.size ≤ k) := fun k hk => (HMR.out.1.lt k hk).1
    have hl2 : ms.length + [nilArm].length ≤ 1000000 := by simp only [List.length_singleton]; omega
    have hj1 : (0 : Int) ≤ (j : Int) := by omega
    have hj2 : (j : Int) < (l.length : Int) := by omega
    clear hx hn hnn hpc hml
    go_wp2_with (first | (go_at_call 52; refine (HI2.out _ blA).mono ?_; rintro e w5 ⟨⟨mk,mop,mds,xa,ya,mns,xb,yb,mcs,xc,yc,mks,xd,yd,rfl,hmo,hmn⟩,hb5⟩; have HMO : Hid (AOwn w5 wr.heap.size (MArm.mk ⟨mk,mop,mds,.slice xa mds.length ya,.slice xb mns.length yb,mns⟩ (.slice xc mcs.length yc) mcs (.slice xd mks.length yd) mks)) := hmo; have HMN5 : Hid ((MArm.mk ⟨mk,mop,mds,.slice xa mds.length ya,.slice xb mns.length yb,mns⟩ (.slice xc mcs.length yc) mcs (.slice xd mks.length yd) mks).arm = Stil.normArm x) := hmn; clear hmo hmn) | (at_builtin; refine wpList_grow_arms rfl _ _ rfl w.heap.size w.heap.size ra rc ms [(MArm.mk ⟨mk,mop,mds,.slice xa mds.length ya,.slice xb mns.length yb,mns⟩ (.slice xc mcs.length yc) mcs (.slice xd mks.length yd) mks)] _ 1 rfl rfl ((HMR.out.below hb5).below (below_alloc _ _)) (fun _ => ⟨_,rfl,by exact cells6a⟩) (fun m hm => by rw [List.mem_singleton.1 hm]; exact ((HMO.out.1.le hb.size).below (below_alloc _ _))) (HMR.out.apart (w1 := w5) (b1 := wr.heap.size) (fun m hm => by rw [List.mem_singleton.1 hm]; exact HMO.out.1) (Nat.le_refl _) (by rw [aVals_one]; exact HMO.out.2)) hl2 (by have := hb5.size; have := hb.size; simp only [World.size_alloc]; omega) (by have := hb5.size; have := hb.size; simp only [World.size_alloc]; omega) HVL.out ?_; intro a6 c6 w6 hmr6 hb6 hv6; have HM6 : Hid (ARow w6 w.heap.size (.slice a6 (ms.length + 1) c6) (ms ++ [(MArm.mk ⟨mk,mop,mds,.slice xa mds.length ya,.slice xb mns.length yb,mns⟩ (.slice xc mcs.length yc) mcs (.slice xd mks.length yd) mks)])) := hmr6; have HB6 : Hid (Below w.heap.size w w6) := (bl_alloc (bl_call hb hb5) _).trans hb6; clear hmr6 hb6 hv6))
    refine ⟨⟨j + 1,ms ++ [(MArm.mk ⟨mk,mop,mds,.slice xa mds.length ya,.slice xb mns.length yb,mns⟩ (.slice xc mcs.length yc) mcs (.slice xd mks.length yd) mks)],a6,c6,by omega,by go_num,by simp,?_,by rw [List.length_append]; exact HM6.out,HB6.out⟩,by simp [intOf]; omega⟩
    rw [HTS.out,List.map_append,HMN.out,List.map_singleton,HMN5.out]
   ·obtain rfl : j = l.length := by omega
    have hmn := HMN.out
    rw [List.take_length] at hmn
    have HMN2 : Hid (ms.map MArm.arm = l.map Stil.normArm) := hmn
    clear hmn
    go_wp2
    go_ret
    exact ⟨⟨ra,rc,ms,rfl,HMN2.out,HMR.out⟩,hb⟩
 ·have HN : Hid (Stil.normMake l = []) := if_neg h0
  rw [HN.out]
  obtain ⟨c,hc⟩ : ∃ c,c = (Stil.treeCheck l).1 := ⟨_,rfl⟩
  obtain ⟨rr,hrr⟩ : ∃ r,r = (Stil.treeCheck l).2 := ⟨_,rfl⟩
  rw [← hc,← hrr] at HC
  rw [← hc] at hcb h0
  have hcp : (0 : Int) < c := by omega
  clear hz hft HN h0 HAK hc hrr hcb
  have hfc := fault_code
  go_enter Tryz.func20,Tryz.ntmps20
  go_wp2_with (go_at_call 11; refine (HC.out _ blA).mono ?_; rintro e w1 ⟨rfl,hb1⟩)
  go_ret
  exact ⟨⟨none,0,[],rfl,rfl,ARow.nil _ _⟩,blA⟩
end Go.Proofs.YtenoanhonjdpjaaGreatDoor
/- Ladders that were drawn: their normal forms,in one form. -/
namespace Go.Proofs.YtenoanhonjdpjaaGreatDoor
open Go.RowKit Go.Sort Go.BigFrame
theorem ret_arms {w : World} {base : Nat} {L : List Stil.Arm} {e : Ending} (h : ArmsRet w base L e) : ∃ (a : Option Addr) (c : Nat),e = .returned (.slice a L.length c) ∧ ArmsAt w (.slice a L.length c) L := by
 obtain ⟨a,c,ms,he,hm,hr⟩ := h
 have hl : ms.length = L.length := by rw [← hm,List.length_map]
 refine ⟨a,c,by rw [he,hl],?_⟩
 have f4 := (AOk.from _ (rowArm_own hr).1).2.2.2
 have hk : (rowArm (.slice a ms.length c) ms).arm.kids = L := by rw [MArm.arm_eq]; exact hm
 rw [hk] at f4
 rw [← hl]
 exact f4.at
theorem lad_norm {w W : World} {v u : Value} {l : List Stil.Arm} (h : Lad w v l) (hu : ArmsAt W u (Stil.normMake l)) : Lad W u (Stil.normMake l) := by
 by_cases h0 : (Stil.treeCheck l).1 = 0
 ·obtain ⟨_,h2,h3,_,h5⟩ := Stil.normMake_zero h.2.1 h0
  have h6 := h.2.2
  exact ⟨hu,h5,by omega,by omega,fun d => by rw [Stil.normMake_uses d h0]; exact h6.2.2 d⟩
 ·have e : Stil.normMake l = [] := if_neg h0
  rw [e] at hu ⊢
  exact ⟨hu,fun _ hx => (by cases hx),by simp,by simp [Stil.treeSize],fun d => by simp [Stil.treeUses]⟩
def MadeAt (w : World) (l : List Stil.Arm) (e : Ending) (w' : World) : Prop := ∃ (a : Option Addr) (c : Nat),e = .returned (.slice a (Stil.normMake l).length c) ∧ LadF w' (.slice a (Stil.normMake l).length c) (Stil.normMake l) ∧ Below w.heap.size w w'
theorem i_makeG {w W : World} {v : Value} {l : List Stil.Arm} (hr : ∀ W,Below w.heap.size w W → RowsAt W ∧ ErrTypeAt W) (h1 : LadF w v l) (hb : Below w.heap.size w W) : Calls Tryz.prog 19 #[v] W (MadeAt W l) := by
 have h := h1 W hb
 refine (i_NormMake l v W (hr W hb).1 (hr W hb).2 h.1 h.2.2.1 h.2.2.2.1 h.2.1).mono ?_
 rintro e w' ⟨hm,hb2⟩
 obtain ⟨a,c,he,ha⟩ := ret_arms hm
 exact ⟨a,c,he,ladF (lad_norm h ha),hb2⟩
theorem s_makeG {w W : World} {v : Value} {l : List Stil.Arm} (h1 : LadF w v l) (hb : Below w.heap.size w W) : Calls Tryz.prog 20 #[v] W (MadeAt W l) := by
 have h := h1 W hb
 refine (s_NormMake l v W h.1 h.2.2.1 h.2.2.2.1 h.2.1).mono ?_
 rintro e w' ⟨hm,hb2⟩
 obtain ⟨a,c,he,ha⟩ := ret_arms hm
 exact ⟨a,c,he,ladF (lad_norm h ha),hb2⟩
theorem s_checkG {w W : World} {v : Value} {l : List Stil.Arm} (h1 : LadF w v l) (hb : Below w.heap.size w W) : Calls Tryz.prog 11 #[v] W fun e w' => e = .returned (.agg #[.int .i64 (Stil.treeCheck l).1,.int .i64 (Stil.treeCheck l).2]) ∧ Below W.heap.size W w' :=
 have h := h1 W hb
 s_treeCheck l v W h.1 h.2.2.1 h.2.2.2.1 h.2.1
theorem i_accG {w W : World} {v : Value} {l : List Stil.Arm} (hr : ∀ W,Below w.heap.size w W → RowsAt W ∧ ErrTypeAt W) (h1 : LadF w v l) (hb : Below w.heap.size w W) : Calls Tryz.prog 49 #[v] W fun e w' => e = .returned (.bool (decide ((Stil.treeCheck l).1 = 0))) ∧ Below W.heap.size W w' :=
 have h := h1 W hb
 i_accepted l v W (hr W hb).1 (hr W hb).2 h.1 h.2.2.1 h.2.2.2.1 h.2.1
theorem fault_fld (x y : Value) (w : World) : Sem.run Tryz.prog (Instr.field 26 (.agg #[x,y]) 0) w = .ok x w := by kernel_rfl
set_option maxHeartbeats 2000000 in
set_option maxRecDepth 100000 in
theorem i_isG {w W : World} {v : Value} {l : List Stil.Arm} (hr : ∀ W,Below w.heap.size w W → RowsAt W ∧ ErrTypeAt W) (h1 : LadF w v l) (hb : Below w.heap.size w W) : Calls Tryz.prog 21 #[v] W fun e w' => ∃ b : Bool,e = .returned (.bool b) ∧ (b = true ↔ (Stil.treeCheck l).1 = 0 ∧ l = Stil.normMake l) ∧ Below W.heap.size W w' := by
 have HR : Hid (∀ X,Below W.heap.size W X → RowsAt X ∧ ErrTypeAt X) := fun X h => hr X (hb.trans (h.mono hb.size))
 have HL : Hid (LadF W v l) := h1.later hb
 obtain ⟨a1,c1,rfl,-⟩ := (h1 W hb).1
 clear hr h1 hb
 by_cases h0 : (Stil.treeCheck l).1 = 0
 ·have hd := decide_eq_true h0
  have H0 : Hid ((Stil.treeCheck l).1 = 0) := h0
  clear h0
  go_enter Tryz.func21,Tryz.ntmps21
  go_wp2_with (first | (go_at_call 49; refine (i_accG (w := W) HR.out HL.out blA).mono ?_; rintro e w1 ⟨rfl,hb1⟩) | (go_at_call 19; refine (i_makeG (w := W) HR.out HL.out blA).mono ?_; rintro e w2 ⟨a2,c2,rfl,hl2,hb2⟩; have HL2 : Hid (LadF w2 (.slice a2 (Stil.normMake l).length c2) (Stil.normMake l)) := hl2; have HL3 : Hid (LadF w2 (.slice a1 l.length c1) l) := HL.out.later blA; clear hl2) | (go_at_call 15; refine (i_sameG (w := w2) HL3.out HL2.out blA).mono ?_; rintro e w3 ⟨b,rfl,hbb,hb3⟩; have HBB : Hid (b = true ↔ l = Stil.normMake l) := hbb; clear hbb))
  go_ret
  exact ⟨b,ret_bool (by simp),⟨fun h => ⟨H0.out,HBB.out.1 h⟩,fun h => HBB.out.2 h.2⟩,blA⟩
 ·have hd := decide_eq_false h0
  have H0 : Hid (¬ (Stil.treeCheck l).1 = 0) := h0
  clear h0
  go_enter Tryz.func21,Tryz.ntmps21
  go_wp2_with (first | (go_at_call 49; refine (i_accG (w := W) HR.out HL.out blA).mono ?_; rintro e w1 ⟨rfl,hb1⟩))
  go_ret
  exact ⟨false,rfl,⟨fun h => (by cases h),fun h => absurd h.1 H0.out⟩,blA⟩
end Go.Proofs.YtenoanhonjdpjaaGreatDoor
/- The law on the normal form,reached in one go: the walk. -/
namespace Go.Proofs.YtenoanhonjdpjaaGreatDoor
open Go.RowKit Go.Sort Go.BigFrame
/-- What a draw out of a code leaves: a ladder of small numbers. -/
def LadX (N k : Nat) (w : World) (e : Ending) (w' : World) : Prop := ∃ (l : List Stil.Arm) (v : Value),e = .returned v ∧ ArmsAt w' v l ∧ (∀ a ∈ l,ATame a ∧ Stil.armSz a ≤ N) ∧ l.length ≤ k ∧ Below w.heap.size w w'
set_option maxHeartbeats 4000000 in
set_option maxRecDepth 100000 in
theorem law_normOnce (HD : ∀ u w,BytesAt w u → Calls Tryz.prog 18 #[u] w (LadX 6000 104 w)) (u : Value) (w : World) (hrow : RowsAt w) (herr : ErrTypeAt w) (hu : BytesAt w u) :
  Calls Tryz.prog 5 #[u] w fun e w' => e = .returned (.bool true) ∧ Below w.heap.size w w' := by
 have HR0 : Hid (∀ W,Below w.heap.size w W → RowsAt W ∧ ErrTypeAt W) := fun W h => ⟨hrow.below h,herr.below h⟩
 have HDR : Hid (Calls Tryz.prog 18 #[u] w (LadX 6000 104 w)) := HD u w hu
 obtain ⟨ua,ul,uc,rfl,-,-,-⟩ := hu
 clear hrow herr HD
 by_cases hbig : 1048576 < ul
 ·go_enter Tryz.func5,Tryz.ntmps5
  go_wp2
  go_ret
  exact ⟨rfl,Below.refl _ _⟩
 go_enter Tryz.func5,Tryz.ntmps5
 go_upto_region 4 with (go_at_call 18; refine HDR.out.mono ?_; rintro e w1 ⟨l,v,rfl,hva,hta,hla,hb1⟩; have HL : Hid (LadF w1 v l) := ladF (lad_of hva hta hla (by omega) (by omega)); clear hta hla; obtain ⟨a1,c1,rfl,-⟩ := hva)
 have HR : Hid (∀ W,Below w1.heap.size w1 W → RowsAt W ∧ ErrTypeAt W) := fun W h => HR0.out W (hb1.trans (h.mono hb1.size))
 have HFIN : Hid (∀ W,Below w1.heap.size w1 W → Below w.heap.size w W) := fun W h => hb1.trans (h.mono hb1.size)
 have hfit := (HL.out w1 (Below.refl _ _)).2.1
 obtain ⟨n,hn⟩ : ∃ n,n = Stil.normMake l := ⟨_,rfl⟩
 have HIM : Hid (∀ W,Below w1.heap.size w1 W → Calls Tryz.prog 19 #[.slice a1 l.length c1] W fun e w' => ∃ (a : Option Addr) (c : Nat),e = .returned (.slice a n.length c) ∧ LadF w' (.slice a n.length c) n ∧ Below W.heap.size W w') := by rw [hn]; exact fun W h => i_makeG HR.out HL.out h
 have HSM : Hid (∀ W,Below w1.heap.size w1 W → Calls Tryz.prog 20 #[.slice a1 l.length c1] W fun e w' => ∃ (a : Option Addr) (c : Nat),e = .returned (.slice a n.length c) ∧ LadF w' (.slice a n.length c) n ∧ Below W.heap.size W w') := by rw [hn]; exact fun W h => s_makeG HL.out h
 have hff := fault_fld
 have hcb := (Stil.check_bound l).1
 clear hbig HR0 HDR hb1
 by_cases h0 : (Stil.treeCheck l).1 = 0
 ·obtain ⟨z1,z2,z3,z4,z5⟩ := Stil.normMake_zero hfit h0
  rw [← hn] at z1 z2 z3 z4 z5
  have HZ6 : Hid ((Stil.treeCheck n).1 = 0 ∧ n = Stil.normMake n) := ⟨by rw [z1],z4.symm⟩
  have HIN : Hid (∀ W0 W v,LadF W0 v n → Below w1.heap.size w1 W0 → Below W0.heap.size W0 W → Calls Tryz.prog 19 #[v] W fun e w' => ∃ (a : Option Addr) (c : Nat),e = .returned (.slice a n.length c) ∧ LadF w' (.slice a n.length c) n ∧ Below W.heap.size W w') := by
   intro W0 W v h1 h2 h3
   have := i_makeG (w := W0) (fun X hX => HR.out X (h2.trans (hX.mono h2.size))) h1 h3
   unfold MadeAt at this
   rwa [z4] at this
  rw [z3] at HIM HSM HIN
  clear hn hfit z4 z5 hcb z3
  go_upto_region 5 with (go_at_call 19; refine (HIM.out _ blA).mono ?_; rintro e w2 ⟨a2,c2,rfl,hl2,hb2⟩; have HL2 : Hid (LadF w2 (.slice a2 l.length c2) n) := hl2; clear hl2)
  have HLw : Hid (LadF w2 (.slice a1 l.length c1) l) := HL.out.later hb2
  have HR2 : Hid (∀ W,Below w2.heap.size w2 W → RowsAt W ∧ ErrTypeAt W) := fun W h => HR.out W (hb2.trans (h.mono hb2.size))
  have HFIN2 : Hid (∀ W,Below w2.heap.size w2 W → Below w.heap.size w W) := fun W h => HFIN.out W (hb2.trans (h.mono hb2.size))
  go_wp2_with (first | (go_at_call 20; refine (HSM.out _ blA).mono ?_; rintro e w3 ⟨a3,c3,rfl,hl3,hb3⟩; have HL3 : Hid (LadF w3 (.slice a3 l.length c3) n) := hl3; have HL23 : Hid (LadF w3 (.slice a2 l.length c2) n) := HL2.out.later blA; clear hl3) | (go_at_call 16; refine (s_sameG (w := w3) HL23.out HL3.out blA).mono ?_; rintro e w4 ⟨b4,rfl,hbb,hb4⟩; obtain rfl : b4 = true := hbb.2 rfl; clear hbb) | (go_at_call 11; refine (s_checkG (w := w2) HLw.out blA).mono ?_; rintro e w5 ⟨rfl,hb5⟩) | (go_at_call 10; refine (i_checkG (w := w2) HR2.out HL2.out blA).mono ?_; rintro e w6 ⟨rfl,hb6⟩) | (go_at_call 19; refine (HIN.out w2 _ _ HL2.out hb2 blA).mono ?_; rintro e w7 ⟨a7,c7,rfl,hl7,hb7⟩; have HL7 : Hid (LadF w7 (.slice a7 l.length c7) n) := hl7; have HL27 : Hid (LadF w7 (.slice a2 l.length c2) n) := HL2.out.later blA; clear hl7) | (go_at_call 15; refine (i_sameG (w := w7) HL7.out HL27.out blA).mono ?_; rintro e w8 ⟨b8,rfl,hbb,hb8⟩; obtain rfl : b8 = true := hbb.2 rfl; clear hbb) | (go_at_call 21; refine (i_isG (w := w2) HR2.out HL2.out blA).mono ?_; rintro e w9 ⟨b9,rfl,hbb,hb9⟩; obtain rfl : b9 = true := hbb.2 HZ6.out; clear hbb) | (go_at_call 12; refine (i_sizeG (w := w2) (Hid.out (by assumption)) blA).mono ?_; rintro e w10 ⟨rfl,hb10⟩))
  go_ret
  exact ⟨rfl,HFIN2.out _ blA⟩
 ·have e : n = [] := by rw [hn]; exact if_neg h0
  subst e
  clear hn hfit
  go_upto_region 5 with (go_at_call 19; refine (HIM.out _ blA).mono ?_; rintro e w2 ⟨a2,c2,rfl,hl2,hb2⟩; have HL2 : Hid (LadF w2 (.slice a2 0 c2) []) := hl2; clear hl2)
  have HLw : Hid (LadF w2 (.slice a1 l.length c1) l) := HL.out.later hb2
  have HFIN2 : Hid (∀ W,Below w2.heap.size w2 W → Below w.heap.size w W) := fun W h => HFIN.out W (hb2.trans (h.mono hb2.size))
  have hpos : 0 < (Stil.treeCheck l).1 := by omega
  go_wp2_with (first | (go_at_call 20; refine (HSM.out _ blA).mono ?_; rintro e w3 ⟨a3,c3,rfl,hl3,hb3⟩; have HL3 : Hid (LadF w3 (.slice a3 0 c3) []) := hl3; have HL23 : Hid (LadF w3 (.slice a2 0 c2) []) := HL2.out.later blA; clear hl3) | (go_at_call 16; refine (s_sameG (w := w3) HL23.out HL3.out blA).mono ?_; rintro e w4 ⟨b4,rfl,hbb,hb4⟩; obtain rfl : b4 = true := hbb.2 rfl; clear hbb) | (go_at_call 11; refine (s_checkG (w := w2) HLw.out blA).mono ?_; rintro e w5 ⟨rfl,hb5⟩))
  go_ret
  exact ⟨rfl,HFIN2.out _ blA⟩
end Go.Proofs.YtenoanhonjdpjaaGreatDoor
