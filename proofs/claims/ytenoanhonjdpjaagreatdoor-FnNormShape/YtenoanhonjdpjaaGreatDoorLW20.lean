/- Z10,Z11,W4: texts put together. -/
import Derived.Test.YtenoanhonjdpjaaGreatDoorGY
import Derived.Test.YtenoanhonjdpjaaGreatDoorGv
import Derived.Test.YtenoanhonjdpjaaGreatDoorD9
import Derived.Test.YtenoanhonjdpjaaGreatDoorD8
import Derived.Test.YtenoanhonjdpjaaGreatDoorG4
import Derived.Test.YtenoanhonjdpjaaGreatDoorGV
import Derived.Test.YtenoanhonjdpjaaGreatDoorGN
import Derived.Test.YtenoanhonjdpjaaGreatDoorHf
import Derived.Test.YtenoanhonjdpjaaGreatDoorGJ
import Derived.Test.YtenoanhonjdpjaaGreatDoorGU
import Derived.ProofKit
import Derived.OpenShut
import Derived.OpenVars
import Derived.LaidMore
import Derived.Lay
import Derived.Deep.DeepHandedRow
import Derived.Lib.SmallJoins
import Derived.Deep.RegionWith
import Derived.Deep.RegionLaw
import Derived.Lib.QuietBelow
set_option maxHeartbeats 4000000
set_option maxRecDepth 100000
/- The program's chapter 4: the normal form of a ladder. -/
namespace Go.Proofs.YtenoanhonjdpjaaGreatDoor
open Go.RowKit Go.Sort Go.BigFrame
theorem i_accepted (l : List Stil.Arm) (kv : Value) (w : World) (hr : RowsAt w) (hg : ErrTypeAt w) (hkv : ArmsAt w kv l) (hl : l.length <= 1048576) (hsz : Stil.treeSize l <= 1000000000) (hft : ∀ x ∈ l,Stil.armFits x) :
  Calls Tryz.prog 49 #[kv] w fun e w' => e = .returned (.bool (decide ((Stil.treeCheck l).1 = 0))) ∧ Below w.heap.size w w' := by
 have HC : Hid (∀ W,Below w.heap.size w W -> Calls Tryz.prog 10 #[kv] W fun e w' => e = .returned (.agg #[.int .i64 (Stil.treeCheck l).1,.int .i64 (Stil.treeCheck l).2]) ∧ Below W.heap.size W w') := fun W h => i_treeCheck l kv W (hr.below h) (hg.below h) (hkv.below h) hl hsz hft;have H0 : Hid ((Stil.treeCheck l).1 = 0 -> (Stil.treeCheck l).2 = 0) := fun h => (Stil.check_zero h).1;obtain ⟨p0,r0,rfl,hz⟩ := hkv;obtain ⟨c,hc⟩ : ∃ c,c = (Stil.treeCheck l).1 := ⟨_,rfl⟩;obtain ⟨r,hrr⟩ : ∃ r,r = (Stil.treeCheck l).2 := ⟨_,rfl⟩;rw [← hc,← hrr] at HC H0;rw [← hc];clear hz hc hrr hr hg hft;go_enter Tryz.func49,Tryz.ntmps49;go_wp2_with (go_at_call 10; refine (HC.out _ blA).mono ?_; rintro e w1 ⟨rfl,hb1⟩);all_goals go_ret
 all_goals refine ⟨ret_bool ?_,blA⟩
 all_goals (have h0 := H0.out; by_cases hc0 : c = 0 <;> simp_all)
/-- A slice of arms that is answered: it owns its memory. -/
def ArmsRet (w : World) (base : Nat) (l : List Stil.Arm) (e : Ending) : Prop := ∃ (a : Option Addr) (c : Nat) (ms : List MArm),e = .returned (.slice a ms.length c) ∧ ms.map MArm.arm = l ∧ ARow w base (.slice a ms.length c) ms
theorem i_NormMake (l : List Stil.Arm) (kv : Value) (w : World) (hr : RowsAt w) (hg : ErrTypeAt w) (hkv : ArmsAt w kv l) (hl : l.length <= 1048576) (hsz : Stil.treeSize l <= 1000000000) (hft : ∀ x ∈ l,Stil.armFits x) :
  Calls Tryz.prog 19 #[kv] w fun e w' => ArmsRet w' w.heap.size (Stil.normMake l) e ∧ Below w.heap.size w w' := by
 have HC : Hid (∀ W,Below w.heap.size w W -> Calls Tryz.prog 49 #[kv] W fun e w' => e = .returned (.bool (decide ((Stil.treeCheck l).1 = 0))) ∧ Below W.heap.size W w') := fun W h => i_accepted l kv W (hr.below h) (hg.below h) (hkv.below h) hl hsz hft;have HE : Hid ((Stil.treeCheck l).1 = 0 -> ∀ W,Below w.heap.size w W -> Calls Tryz.prog 50 #[kv,.func (.func 51) #[] #[]] W fun e w' => ∃ (a : Option Addr) (c : Nat) (ms : List MArm),e = .returned (.slice a ms.length c) ∧ ms.map MArm.arm = l.map Stil.normArm ∧ ARow w' W.heap.size (.slice a ms.length c) ms ∧ Below W.heap.size W w') := by intro h0 W h;exact i_normEachA l (fun x hx => i_normArm x (hft x hx) (by have := (Stil.rung_right h0 hx).2; omega)) kv W (hkv.below h) (by have := (Stil.check_zero h0).2.1; omega)
 obtain ⟨p0,r0,rfl,hz⟩ := hkv;by_cases h0 : (Stil.treeCheck l).1 = 0
 ·have HN : Hid (Stil.normMake l = l.map Stil.normArm) := if_pos h0;rw [HN.out];have HE2 := HE.out h0;have HE3 : Hid (∀ W,Below w.heap.size w W -> Calls Tryz.prog 50 #[.slice p0 l.length r0,.func (.func 51) #[] #[]] W fun e w' => ∃ (a : Option Addr) (c : Nat) (ms : List MArm),e = .returned (.slice a ms.length c) ∧ ms.map MArm.arm = l.map Stil.normArm ∧ ARow w' W.heap.size (.slice a ms.length c) ms ∧ Below W.heap.size W w') := HE2;rw [decide_eq_true h0] at HC;clear hz hr hg hft HN HE HE2 h0;go_enter Tryz.func19,Tryz.ntmps19;go_wp2_with (first | (go_at_call 49; refine (HC.out _ blA).mono ?_; rintro e w1 ⟨rfl,hb1⟩) | (go_at_call 50; refine (HE3.out _ blA).mono ?_; rintro e w2 ⟨ra,rc,ms,rfl,hmn,hmr,hb2⟩; have HMN : Hid (ms.map MArm.arm = l.map Stil.normArm) := hmn; have HMR : Hid (ARow w2 w1.heap.size (.slice ra ms.length rc) ms) := hmr; clear hmn hmr));go_ret;exact ⟨⟨ra,rc,ms,rfl,HMN.out,HMR.out.le hb1.size⟩,blA⟩
 have HN : Hid (Stil.normMake l = []) := if_neg h0;rw [HN.out];rw [decide_eq_false h0] at HC;clear hz hr hg hft HN HE h0;go_enter Tryz.func19,Tryz.ntmps19;go_wp2_with (go_at_call 49; refine (HC.out _ blA).mono ?_; rintro e w1 ⟨rfl,hb1⟩);go_ret;exact ⟨⟨none,0,[],rfl,rfl,ARow.nil _ _⟩,blA⟩
end Go.Proofs.YtenoanhonjdpjaaGreatDoor
/- An answered ladder: how it lies,its places,what it holds. -/
namespace Stil
theorem normMake_fits {l : List Arm} (h : ∀ x ∈ l,armFits x) : (∀ x ∈ normMake l,armFits x) ∧ treeSize (normMake l) <= 400 ∧ (normMake l).length <= 40 := by
 unfold normMake;by_cases h0 : (treeCheck l).1 = 0
 ·rw [if_pos h0];have hx : ∀ x ∈ l,midOk (armSize x) (normArm x) := fun x hx => normArm_ok x (h x hx) (by have := (rung_right h0 hx).2; omega);refine ⟨fun x hx2 => ?_,?_,?_⟩;{obtain ⟨y,hy,rfl⟩ := List.mem_map.1 hx2;exact (hx y hy).1};{refine Nat.le_trans ?_ (check_zero h0).2.2.1;clear h h0;unfold treeSize;induction l with| nil => simp| cons x r ih =>have a := (hx x (by simp)).2;have b := ih (fun y hy => hx y (List.mem_cons_of_mem _ hy));simp only [List.map_cons,List.sum_cons] at b ⊢;omega};rw [List.length_map]; exact (check_zero h0).2.1
 rw [if_neg h0];exact ⟨(fun x hx => by cases hx),by simp [treeSize],by simp⟩
end Stil
namespace Go.Proofs.YtenoanhonjdpjaaGreatDoor
open Go.RowKit Go.Sort Go.BigFrame
/-- The dummy arm whose kids are the row. -/
def rowArm (v : Value) (ars : List MArm) : MArm := ⟨nilNet,.slice none 0 0,[],v,ars⟩
theorem rowArm_own {w : World} {base : Nat} {v : Value} {ars : List MArm} (h : ARow w base v ars) : AOwn w base (rowArm v ars) := by
 have hv : (rowArm v ars).vals = nilNet.vals ++ (([.slice none 0 0]) ++ (v :: aVals ars)) := MArm.vals_eq _;refine ⟨(AOk_iff _ _ _).2 ⟨nilNet_ok _ _,⟨World.ownsRow_nil _ _ _ _,fun x hx => by cases hx⟩,h.1,h.2.1⟩,?_⟩;rw [hv];refine List.pairwise_append.2 ⟨?_,List.pairwise_append.2 ⟨List.pairwise_singleton _ _,h.2.2,fun x hx y _ => ?_⟩,fun x hx y _ => .inl (nil_own hx)⟩
 ·rw [nilNet_vals];exact List.pairwise_cons.2 ⟨fun y _ => aside_nil y,List.pairwise_singleton _ _⟩
 rw [List.mem_singleton.1 hx]; exact aside_nil y
def nilArm : MArm := ⟨nilNet,.slice none 0 0,[],.slice none 0 0,[]⟩
theorem fault_code (c r : Value) (w : World) : Sem.run Tryz.prog (Instr.field 26 (.agg #[c,r]) 0) w = .ok c w := by kernel_rfl
theorem s_NormMake (l : List Stil.Arm) (kv : Value) (w : World) (hkv : ArmsAt w kv l) (hl : l.length <= 1048576) (hsz : Stil.treeSize l <= 1000000000) (hft : ∀ x ∈ l,Stil.armFits x) :
  Calls Tryz.prog 20 #[kv] w fun e w' => ArmsRet w' w.heap.size (Stil.normMake l) e ∧ Below w.heap.size w w' := by
 have HC : Hid (∀ W,Below w.heap.size w W -> Calls Tryz.prog 11 #[kv] W fun e w' => e = .returned (.agg #[.int .i64 (Stil.treeCheck l).1,.int .i64 (Stil.treeCheck l).2]) ∧ Below W.heap.size W w') := fun W h => s_treeCheck l kv W (hkv.below h) hl hsz hft;have HAK : Hid (∀ W,Below w.heap.size w W -> ArmsAt W kv l) := fun W h => hkv.below h;have hcb := Stil.check_bound l;obtain ⟨p0,r0,rfl,hz⟩ := hkv;by_cases h0 : (Stil.treeCheck l).1 = 0
 ·have HN : Hid (Stil.normMake l = l.map Stil.normArm) := if_pos h0;have HI : Hid (∀ x ∈ l,∀ (av nv cv kv : Value) (W : World),DevsAt W av x.net.one.args -> NetsAt W nv x.net.kids -> ElemsAt W cv x.coils -> ArmsAt W kv x.kids -> Calls Tryz.prog 52 #[.agg #[.int .i64 x.net.kind,.int .i64 x.net.one.op,av,nv,cv,kv]] W fun e w' => ArmRet w' W.heap.size (Stil.normArm x) e ∧ Below W.heap.size W w') := fun x hx => s_l4Arm x (hft x hx) (by have := (Stil.rung_right h0 hx).2; omega) (Stil.rung_right h0 hx).1;have hl40 := (Stil.check_zero h0).2.1;rw [HN.out];rw [h0] at HC;obtain ⟨rr,hrr⟩ : ∃ r,r = (Stil.treeCheck l).2 := ⟨_,rfl⟩;rw [← hrr] at HC;clear hz hft HN h0 hcb hrr hsz;have hfc := fault_code;go_enter Tryz.func20,Tryz.ntmps20;go_wp2_with (go_at_call 11; refine (HC.out _ blA).mono ?_; rintro e w1 ⟨rfl,hb1⟩);go_loopw [3,4] (fun d i wr => ∃ (j : Nat) (ms : List MArm) (ra : Option Addr) (rc : Nat),j <= l.length ∧ i = .int .i64 j ∧ d = .slice ra ms.length rc ∧ ms.map MArm.arm = (l.take j).map Stil.normArm ∧ ARow wr w.heap.size (.slice ra ms.length rc) ms ∧ Below w.heap.size w wr) (fun _ i _ => l.length - (intOf i).toNat);case atStart =>refine ⟨0,[],some ⟨w1.heap.size,0,none⟩,0,by omega,rfl,rfl,rfl,⟨?_,(fun m hm => by cases hm),List.pairwise_singleton _ _⟩,blA⟩;have := World.ownsRow_lit (base := w.heap.size) (e := 36) (size := 6) w1 #[] 0 hb1.size (by unfold maxLen; omega) rfl;simpa [aCells] using this
  case round =>
   clear hb1;obtain ⟨j,ms,ra,rc,hj,rfl,rfl,hmn,hmr,hb⟩ := hrel;have HMN : Hid (ms.map MArm.arm = (l.take j).map Stil.normArm) := hmn;have HMR : Hid (ARow wr w.heap.size (.slice ra ms.length rc) ms) := hmr;clear hmn hmr;by_cases hlt : j < l.length
   ·have hml : ms.length = j := by
     have h1 := congrArg List.length HMN.out
     simp only [List.length_map,List.length_take] at h1
     omega
    have hat := HAK.out wr hb
    obtain ⟨pa,pc,hpe,hpc⟩ := hat
    simp only [Value.slice.injEq,true_and] at hpe
    obtain ⟨rfl,rfl⟩ := hpe
    obtain ⟨b,o,rfl,hbl,hn⟩ := hpc j hlt
    obtain ⟨hnn,cv',kk',x4,x5,hcv,hkv⟩ := hn.open
    obtain ⟨x0,x1,av',nv',x2,x3,hav,hnv⟩ := hnn.open
    have HI2 : Hid (∀ W,Below wr.heap.size wr W -> Calls Tryz.prog 52 #[.agg #[.int .i64 l[j].net.kind,.int .i64 l[j].net.one.op,av',nv',cv',kk']] W fun e w' => ArmRet w' W.heap.size (Stil.normArm l[j]) e ∧ Below W.heap.size W w') := fun W h => HI.out l[j] (List.getElem_mem hlt) av' nv' cv' kk' W (hav.below h) (hnv.below h) (hcv.below h) (hkv.below h)
    have HTS : Hid ((l.take (j + 1)).map Stil.normArm = (l.take j).map Stil.normArm ++ [Stil.normArm l[j]]) := by show _ = _; rw [List.take_succ_eq_append_getElem hlt,List.map_append]; rfl
    obtain ⟨x,hx⟩ : ∃ x,x = l[j] := ⟨_,rfl⟩
    rw [← hx] at HI2 HTS x0 x1 hav hnv hcv hkv
    obtain ⟨q0,s0,rfl,_⟩ := hav
    obtain ⟨q1,s1',rfl,_⟩ := hnv
    obtain ⟨q2,s2',rfl,_⟩ := hcv
    obtain ⟨q3,s3',rfl,_⟩ := hkv
    have HVL : Hid (∀ k,(Value.slice ra ms.length rc).ownBlock = some k -> w.heap.size <= k) := fun k hk => (HMR.out.1.lt k hk).1
    have hl2 : ms.length + [nilArm].length <= 1000000 := by simp only [List.length_singleton]; omega
    have hj1 : (0 : Int) <= (j : Int) := by omega
    have hj2 : (j : Int) < (l.length : Int) := by omega
    clear hx hn hnn hpc hml
    go_wp2_with (first | (go_at_call 52; refine (HI2.out _ blA).mono ?_; rintro e w5 ⟨⟨mk,mop,mds,xa,ya,mns,xb,yb,mcs,xc,yc,mks,xd,yd,rfl,hmo,hmn⟩,hb5⟩; have HMO : Hid (AOwn w5 wr.heap.size (MArm.mk ⟨mk,mop,mds,.slice xa mds.length ya,.slice xb mns.length yb,mns⟩ (.slice xc mcs.length yc) mcs (.slice xd mks.length yd) mks)) := hmo; have HMN5 : Hid ((MArm.mk ⟨mk,mop,mds,.slice xa mds.length ya,.slice xb mns.length yb,mns⟩ (.slice xc mcs.length yc) mcs (.slice xd mks.length yd) mks).arm = Stil.normArm x) := hmn; clear hmo hmn) | (at_builtin; refine wpList_grow_arms rfl _ _ rfl w.heap.size w.heap.size ra rc ms [(MArm.mk ⟨mk,mop,mds,.slice xa mds.length ya,.slice xb mns.length yb,mns⟩ (.slice xc mcs.length yc) mcs (.slice xd mks.length yd) mks)] _ 1 rfl rfl ((HMR.out.below hb5).below (below_alloc _ _)) (fun _ => ⟨_,rfl,by exact cells6a⟩) (fun m hm => by rw [List.mem_singleton.1 hm]; exact ((HMO.out.1.le hb.size).below (below_alloc _ _))) (HMR.out.apart (w1 := w5) (b1 := wr.heap.size) (fun m hm => by rw [List.mem_singleton.1 hm]; exact HMO.out.1) (Nat.le_refl _) (by rw [aVals_one]; exact HMO.out.2)) hl2 (by have := hb5.size; have := hb.size; simp only [World.size_alloc]; omega) (by have := hb5.size; have := hb.size; simp only [World.size_alloc]; omega) HVL.out ?_; intro a6 c6 w6 hmr6 hb6 hv6; have HM6 : Hid (ARow w6 w.heap.size (.slice a6 (ms.length + 1) c6) (ms ++ [(MArm.mk ⟨mk,mop,mds,.slice xa mds.length ya,.slice xb mns.length yb,mns⟩ (.slice xc mcs.length yc) mcs (.slice xd mks.length yd) mks)])) := hmr6; have HB6 : Hid (Below w.heap.size w w6) := (bl_alloc (bl_call hb hb5) _).trans hb6; clear hmr6 hb6 hv6))
    refine ⟨⟨j + 1,ms ++ [(MArm.mk ⟨mk,mop,mds,.slice xa mds.length ya,.slice xb mns.length yb,mns⟩ (.slice xc mcs.length yc) mcs (.slice xd mks.length yd) mks)],a6,c6,by omega,by go_num,by simp,?_,by rw [List.length_append]; exact HM6.out,HB6.out⟩,by simp [intOf]; omega⟩
    rw [HTS.out,List.map_append,HMN.out,List.map_singleton,HMN5.out]
   (obtain rfl : j = l.length := by omega);have hmn := HMN.out;rw [List.take_length] at hmn;have HMN2 : Hid (ms.map MArm.arm = l.map Stil.normArm) := hmn;clear hmn;go_wp2;go_ret;exact ⟨⟨ra,rc,ms,rfl,HMN2.out,HMR.out⟩,hb⟩
 have HN : Hid (Stil.normMake l = []) := if_neg h0;rw [HN.out];obtain ⟨c,hc⟩ : ∃ c,c = (Stil.treeCheck l).1 := ⟨_,rfl⟩;obtain ⟨rr,hrr⟩ : ∃ r,r = (Stil.treeCheck l).2 := ⟨_,rfl⟩;rw [← hc,← hrr] at HC;rw [← hc] at hcb h0;have hcp : (0 : Int) < c := by omega
 clear hz hft HN h0 HAK hc hrr hcb;have hfc := fault_code;go_enter Tryz.func20,Tryz.ntmps20;go_wp2_with (go_at_call 11; refine (HC.out _ blA).mono ?_; rintro e w1 ⟨rfl,hb1⟩);go_ret;exact ⟨⟨none,0,[],rfl,rfl,ARow.nil _ _⟩,blA⟩
end Go.Proofs.YtenoanhonjdpjaaGreatDoor
/- D10,D11: texts put together. -/
/- Contracts of the specification's draws: l2Any,l9Open. -/
namespace Go.Proofs.YtenoanhonjdpjaaGreatDoor
open Go.RowKit Go.Sort Go.BigFrame
/-- A slice of bytes in memory. -/
def BytesAt (w : World) (v : Value) : Prop := ∃ (a : Option Addr) (len cap : Nat),v = .slice a len cap ∧ len <= cap ∧ cap <= 9223372036854775807 ∧ ∀ i,i < len -> ∃ b o z,a = some ⟨b,o,none⟩ ∧ b < w.heap.size ∧ w.cell? ⟨b,o + i,none⟩ = some (.int .u8 z) ∧ 0 <= z ∧ z < 256
set_option maxHeartbeats 1000000 in
set_option maxRecDepth 100000 in
theorem s_l9Open (v : Value) (w : World) (hv : BytesAt w v) :
  Calls Tryz.prog 29 #[v] w fun e w' => e = .returned (.pointer (some ⟨w.heap.size,0,none⟩)) ∧ RdAt w' w.heap.size 0 ∧ Below w.heap.size w w' := by
 obtain ⟨a,len,cap,rfl,hlc,hcap,hx⟩ := hv;have HX : Hid (∀ i,i < len -> ∃ b o z,a = some ⟨b,o,none⟩ ∧ b < w.heap.size ∧ w.cell? ⟨b,o + i,none⟩ = some (.int .u8 z) ∧ 0 <= z ∧ z < 256) := hx;clear hx;have done : ∀ n c : Nat,n <= len -> n <= 2000 -> RdAt (w.alloc (.cells #[.slice a n c,.int .i64 0] 94)) w.heap.size 0 := by intro n c h1 h2;refine ⟨a,n,c,0,by simp [go_sem],by simp [go_sem],by simp [go_sem],Nat.le_refl _,h2,fun i hi => ?_⟩;obtain ⟨b,o,z,h3,h4,h5,h6,h7⟩ := HX.out i (by omega);exact ⟨b,o,z,h3,h4,by rw [(below_alloc w _).cell (p := ⟨b,o + i,none⟩) h4]; exact h5,h6,h7⟩
 by_cases hl : 2000 < len
 ·cases a with
  | none => obtain ⟨b,o,z,h,_⟩ := HX.out 0 (by omega); cases h
  | some ad =>go_enter Tryz.func29,Tryz.ntmps29;go_wp2;go_ret;exact ⟨rfl,done _ _ (by omega) (by omega),below_alloc _ _⟩
 go_enter Tryz.func29,Tryz.ntmps29;go_wp2;go_ret;exact ⟨rfl,done _ _ (by omega) (by omega),below_alloc _ _⟩
end Go.Proofs.YtenoanhonjdpjaaGreatDoor
/- Ladders that were drawn: the functions over them,in one form. -/
namespace Go.Proofs.YtenoanhonjdpjaaGreatDoor
open Go.RowKit Go.Sort Go.BigFrame
/-- A ladder that a value stands for,from a world on; nothing in it is great. -/
def Lad (w : World) (v : Value) (l : List Stil.Arm) : Prop := ArmsAt w v l ∧ (∀ x ∈ l,Stil.armFits x) ∧ l.length <= 1048576 ∧ Stil.treeSize l <= 1000000000 ∧ (∀ d,Stil.treeUses d l <= 4194304)
theorem Lad.below {w W : World} {v : Value} {l : List Stil.Arm} (h : Lad w v l) (hb : Below w.heap.size w W) : Lad W v l := ⟨h.1.below hb,h.2⟩
theorem sum_cap {α : Type} (f : α -> Nat) (l : List α) (N : Nat) (h : ∀ x ∈ l,f x <= N) : (l.map f).sum <= l.length * N := by induction l with| nil => simp| cons x r ih =>have h1 := h x (by simp);have h2 := ih (fun y hy => h y (by simp [hy]));rw [List.map_cons,List.sum_cons,List.length_cons,Nat.add_mul];omega
theorem lad_of {w : World} {v : Value} {l : List Stil.Arm} {N k : Nat} (h : ArmsAt w v l) (ht : ∀ a ∈ l,ATame a ∧ Stil.armSz a <= N) (hl : l.length <= k) (hN : N <= 10000) (hk : k <= 300) : Lad w v l := by
 have hb : ∀ x ∈ l,Stil.armFits x := fun x hx => Stil.armFits_of x (ATame.wf x (ht x hx).1 (by have := (ht x hx).2; omega)) (by have := (ht x hx).2; omega);refine ⟨h,hb,by omega,?_,fun d => ?_⟩
 ·have h1 : Stil.treeSize l <= l.length * 20002 := sum_cap Stil.armSize l 20002 fun x hx => by
   have := Stil.armSize_le x
   have := (ht x hx).2
   omega
  have h2 : l.length * 20002 <= 300 * 20002 := Nat.mul_le_mul_right _ (by omega)
  omega
 ·have h1 : Stil.treeUses d l <= l.length * 10000 := sum_cap (Stil.armUses d) l 10000 fun x hx => by
   have := Stil.armUses_le d x
   have := (ht x hx).2
   omega
  have h2 : l.length * 10000 <= 300 * 10000 := Nat.mul_le_mul_right _ (by omega)
  omega
theorem i_same {W : World} {v u : Value} {l m : List Stil.Arm} (h1 : Lad W v l) (h2 : Lad W u m) : Calls Tryz.prog 15 #[v,u] W fun e w' => ∃ b : Bool,e = .returned (.bool b) ∧ (b = true ↔ l = m) ∧ Below W.heap.size W w' := by
 classical
 refine (i_treeSame l m v u W h1.1 h2.1 h1.2.1 h2.2.1 h1.2.2.1 h2.2.2.1).mono ?_;rintro e w' ⟨he,hb⟩;exact ⟨_,he,by simp,hb⟩
/-- A ladder from a world on. -/
def LadF (w : World) (v : Value) (l : List Stil.Arm) : Prop := ∀ W,Below w.heap.size w W -> Lad W v l
theorem ladF {w : World} {v : Value} {l : List Stil.Arm} (h : Lad w v l) : LadF w v l := fun _ hb => h.below hb
theorem LadF.later {w W : World} {v : Value} {l : List Stil.Arm} (h : LadF w v l) (hb : Below w.heap.size w W) : LadF W v l := fun _ h2 => h _ (hb.trans (h2.mono hb.size))
theorem i_sameG {w W : World} {v u : Value} {l m : List Stil.Arm} (h1 : LadF w v l) (h2 : LadF w u m) (hb : Below w.heap.size w W) : Calls Tryz.prog 15 #[v,u] W fun e w' => ∃ b : Bool,e = .returned (.bool b) ∧ (b = true ↔ l = m) ∧ Below W.heap.size W w' := i_same (h1 W hb) (h2 W hb)
end Go.Proofs.YtenoanhonjdpjaaGreatDoor
/- Ladders that were drawn: their normal forms,in one form. -/
namespace Go.Proofs.YtenoanhonjdpjaaGreatDoor
open Go.RowKit Go.Sort Go.BigFrame
theorem ret_arms {w : World} {base : Nat} {L : List Stil.Arm} {e : Ending} (h : ArmsRet w base L e) : ∃ (a : Option Addr) (c : Nat),e = .returned (.slice a L.length c) ∧ ArmsAt w (.slice a L.length c) L := by
 obtain ⟨a,c,ms,he,hm,hr⟩ := h;have hl : ms.length = L.length := by rw [← hm,List.length_map]
 refine ⟨a,c,by rw [he,hl],?_⟩;have f4 := (AOk.from _ (rowArm_own hr).1).2.2.2;have hk : (rowArm (.slice a ms.length c) ms).arm.kids = L := by rw [MArm.arm_eq]; exact hm
 rw [hk] at f4;rw [← hl];exact f4.at
theorem lad_norm {w W : World} {v u : Value} {l : List Stil.Arm} (h : Lad w v l) (hu : ArmsAt W u (Stil.normMake l)) : Lad W u (Stil.normMake l) := by
 by_cases h0 : (Stil.treeCheck l).1 = 0
 ·obtain ⟨_,h2,h3,_,h5⟩ := Stil.normMake_zero h.2.1 h0;have h6 := h.2.2;exact ⟨hu,h5,by omega,by omega,fun d => by rw [Stil.normMake_uses d h0]; exact h6.2.2 d⟩
 have e : Stil.normMake l = [] := if_neg h0;rw [e] at hu ⊢;exact ⟨hu,fun _ hx => (by cases hx),by simp,by simp [Stil.treeSize],fun d => by simp [Stil.treeUses]⟩
def MadeAt (w : World) (l : List Stil.Arm) (e : Ending) (w' : World) : Prop := ∃ (a : Option Addr) (c : Nat),e = .returned (.slice a (Stil.normMake l).length c) ∧ LadF w' (.slice a (Stil.normMake l).length c) (Stil.normMake l) ∧ Below w.heap.size w w'
theorem i_makeG {w W : World} {v : Value} {l : List Stil.Arm} (hr : ∀ W,Below w.heap.size w W -> RowsAt W ∧ ErrTypeAt W) (h1 : LadF w v l) (hb : Below w.heap.size w W) : Calls Tryz.prog 19 #[v] W (MadeAt W l) := by have h := h1 W hb;refine (i_NormMake l v W (hr W hb).1 (hr W hb).2 h.1 h.2.2.1 h.2.2.2.1 h.2.1).mono ?_;rintro e w' ⟨hm,hb2⟩;obtain ⟨a,c,he,ha⟩ := ret_arms hm;exact ⟨a,c,he,ladF (lad_norm h ha),hb2⟩
theorem s_checkG {w W : World} {v : Value} {l : List Stil.Arm} (h1 : LadF w v l) (hb : Below w.heap.size w W) : Calls Tryz.prog 11 #[v] W fun e w' => e = .returned (.agg #[.int .i64 (Stil.treeCheck l).1,.int .i64 (Stil.treeCheck l).2]) ∧ Below W.heap.size W w' :=
 have h := h1 W hb
 s_treeCheck l v W h.1 h.2.2.1 h.2.2.2.1 h.2.1
theorem i_accG {w W : World} {v : Value} {l : List Stil.Arm} (hr : ∀ W,Below w.heap.size w W -> RowsAt W ∧ ErrTypeAt W) (h1 : LadF w v l) (hb : Below w.heap.size w W) : Calls Tryz.prog 49 #[v] W fun e w' => e = .returned (.bool (decide ((Stil.treeCheck l).1 = 0))) ∧ Below W.heap.size W w' :=
 have h := h1 W hb
 i_accepted l v W (hr W hb).1 (hr W hb).2 h.1 h.2.2.1 h.2.2.2.1 h.2.1
theorem fault_fld (x y : Value) (w : World) : Sem.run Tryz.prog (Instr.field 26 (.agg #[x,y]) 0) w = .ok x w := by kernel_rfl
set_option maxHeartbeats 2000000 in
set_option maxRecDepth 100000 in
theorem i_isG {w W : World} {v : Value} {l : List Stil.Arm} (hr : ∀ W,Below w.heap.size w W -> RowsAt W ∧ ErrTypeAt W) (h1 : LadF w v l) (hb : Below w.heap.size w W) : Calls Tryz.prog 21 #[v] W fun e w' => ∃ b : Bool,e = .returned (.bool b) ∧ (b = true ↔ (Stil.treeCheck l).1 = 0 ∧ l = Stil.normMake l) ∧ Below W.heap.size W w' := by
 have HR : Hid (∀ X,Below W.heap.size W X -> RowsAt X ∧ ErrTypeAt X) := fun X h => hr X (hb.trans (h.mono hb.size));have HL : Hid (LadF W v l) := h1.later hb;obtain ⟨a1,c1,rfl,-⟩ := (h1 W hb).1;clear hr h1 hb;by_cases h0 : (Stil.treeCheck l).1 = 0
 ·have hd := decide_eq_true h0;have H0 : Hid ((Stil.treeCheck l).1 = 0) := h0;clear h0;go_enter Tryz.func21,Tryz.ntmps21;go_wp2_with (first | (go_at_call 49; refine (i_accG (w := W) HR.out HL.out blA).mono ?_; rintro e w1 ⟨rfl,hb1⟩) | (go_at_call 19; refine (i_makeG (w := W) HR.out HL.out blA).mono ?_; rintro e w2 ⟨a2,c2,rfl,hl2,hb2⟩; have HL2 : Hid (LadF w2 (.slice a2 (Stil.normMake l).length c2) (Stil.normMake l)) := hl2; have HL3 : Hid (LadF w2 (.slice a1 l.length c1) l) := HL.out.later blA; clear hl2) | (go_at_call 15; refine (i_sameG (w := w2) HL3.out HL2.out blA).mono ?_; rintro e w3 ⟨b,rfl,hbb,hb3⟩; have HBB : Hid (b = true ↔ l = Stil.normMake l) := hbb; clear hbb));go_ret;exact ⟨b,ret_bool (by simp),⟨fun h => ⟨H0.out,HBB.out.1 h⟩,fun h => HBB.out.2 h.2⟩,blA⟩
 have hd := decide_eq_false h0;have H0 : Hid (¬ (Stil.treeCheck l).1 = 0) := h0;clear h0;go_enter Tryz.func21,Tryz.ntmps21;go_wp2_with (first | (go_at_call 49; refine (i_accG (w := W) HR.out HL.out blA).mono ?_; rintro e w1 ⟨rfl,hb1⟩));go_ret;exact ⟨false,rfl,⟨fun h => (by cases h),fun h => absurd h.1 H0.out⟩,blA⟩
end Go.Proofs.YtenoanhonjdpjaaGreatDoor
/- FR,FR4: texts put together. -/
/- From what a row says of memory to what the walks ask: the table of kinds,and a slice of operands. -/
namespace Go.Proofs.YtenoanhonjdpjaaGreatDoor
open Go.ChangeShapes Go.WideShapes Go.ChangeAt Go.RowKit
theorem laid_at {P : Program} {W : World} : ∀ {l : List (String × DataW Unit)} {ps : List MemPlace},DataW.LaidVars P W l ps -> ∀ {n : String} {d : DataW Unit},(n,d) ∈ l →
  ∃ g t cs fuel p,P.globalNamed n = some g ∧ (P.globals[g]?).map (·.type) = some t ∧ W.var? P n = some cs ∧ DataW.trod (fun _ => ()) P W 0 (fun _ => true) false fuel t cs.toList = some (d,p)
 | [],_,_,_,_,hm => absurd hm (by simp)
 | (n',d') :: r,ps,⟨g,t,cs,fuel,p,q,h1,h2,h3,h4,hs,_⟩,n,d,hm => by
  rcases List.mem_cons.1 hm with e | hr
  ·obtain ⟨rfl,rfl⟩ := Prod.mk.inj e
   exact ⟨g,t,cs,fuel,p,h1,h2,h3,h4⟩
  ·exact laid_at hs hr
def rowLit (k : Nat) : DataW Unit := .agg [.lit (.string (Stil.devLetter k).data.toList),.lit (.int .i64 (Stil.devSize k)),.lit (.bool (rowBit k)),.lit (.bool (rowWhole k)),.lit (.bool (rowReal k))]
theorem gRows : Tryz.prog.globalNamed "loop.example/stilway/impl.devRows" = some 1 := by kernel_rfl
theorem gRowsType : (Tryz.prog.globals[1]?).map (·.type) = some 177 := by kernel_rfl
theorem cRow : Tryz.prog.cellsOf 171 = 5 := by kernel_rfl
theorem cBool : Tryz.prog.cellsOf 4 = 1 := by kernel_rfl
theorem cString : Tryz.prog.cellsOf 9 = 1 := by kernel_rfl
theorem bytes_of {s : ByteArray} {b : ByteArray} (h : s.data.toList = b.data.toList) : s = b := by cases s; cases b; simp at h; rw [h]
theorem rows_of_var {W : World} {cs : Array Value} {fuel : Nat} {p : List MemPlace} (hv : W.var? Tryz.prog "loop.example/stilway/impl.devRows" = some cs)
  (hd : DataW.trod (fun _ => ()) Tryz.prog W 0 (fun _ => true) false fuel 177 cs.toList = some (.agg ((List.range 14).map rowLit),p)) : RowsAt W := by
 have hcell := fun j => World.var?_cell gRows hv j;obtain ⟨xs,m,_,ex,hlen,hl,hel⟩ := DataW.trod_array Tryz.underlying177 hd;have e1 : (List.range 14).map rowLit = xs.map (·.1) := DataW.agg.inj (Prod.mk.inj ex).1;have hall : ∀ k : Nat,k < 14 -> W.cell? ⟨1,k * 5,none⟩ = some (.string (Stil.devLetter k)) ∧ W.cell? ⟨1,k * 5 + 1,none⟩ = some (.int .i64 (Stil.devSize k)) ∧ W.cell? ⟨1,k * 5 + 2,none⟩ = some (.bool (rowBit k)) ∧ W.cell? ⟨1,k * 5 + 3,none⟩ = some (.bool (rowWhole k)) ∧ W.cell? ⟨1,k * 5 + 4,none⟩ = some (.bool (rowReal k)) := by
  intro k hk;have hxk : k < xs.length := by omega
  have hk1 := hel k hk;rw [cRow,List.getElem?_eq_getElem hxk] at hk1;have e2 : xs[k].1 = rowLit k := by have := congrArg (fun l => l[k]?) e1;simp only [List.getElem?_map,List.getElem?_eq_getElem hxk,Option.map_some] at this;rw [List.getElem?_eq_getElem (by simpa using hk)] at this;simpa using (Option.some.inj this).symm
  obtain ⟨ys,n,_,ey,hlen2,hl2,hf⟩ := DataW.trod_struct Tryz.underlying171 hk1;have e3 : ys.map (·.1) = [.lit (.string (Stil.devLetter k).data.toList),.lit (.int .i64 (Stil.devSize k)),.lit (.bool (rowBit k)),.lit (.bool (rowWhole k)),.lit (.bool (rowReal k))] := by have h5 := congrArg Prod.fst ey;rw [e2,rowLit] at h5;exact (DataW.agg.inj h5).symm
  obtain ⟨y0,y1,y2,y3,y4,rfl⟩ : ∃ y0 y1 y2 y3 y4,ys = [y0,y1,y2,y3,y4] := by match ys,hl2 with| [y0,y1,y2,y3,y4],_ => exact ⟨_,_,_,_,_,rfl⟩
  simp only [List.map_cons,List.map_nil,List.cons.injEq,and_true] at e3;obtain ⟨z0,z1,z2,z3,z4⟩ := e3;have g0 : DataW.trod (fun _ => ()) Tryz.prog W 0 (fun _ => true) false n 9 (List.take 1 (List.drop 0 (List.take 5 (List.drop (k * 5) cs.toList)))) = some y0 := by have h : DataW.trod (fun _ => ()) Tryz.prog W 0 (fun _ => true) false n 9 (List.take (Tryz.prog.cellsOf 9) (List.drop 0 (List.take 5 (List.drop (k * 5) cs.toList)))) = some y0 := hf 0 _ rfl;rw [cString] at h;exact h
  have g1 : DataW.trod (fun _ => ()) Tryz.prog W 0 (fun _ => true) false n 3 (List.take 1 (List.drop 1 (List.take 5 (List.drop (k * 5) cs.toList)))) = some y1 := by have h : DataW.trod (fun _ => ()) Tryz.prog W 0 (fun _ => true) false n 3 (List.take (Tryz.prog.cellsOf 3) (List.drop 1 (List.take 5 (List.drop (k * 5) cs.toList)))) = some y1 := hf 1 _ rfl;rw [cInt] at h;exact h
  have g2 : DataW.trod (fun _ => ()) Tryz.prog W 0 (fun _ => true) false n 4 (List.take 1 (List.drop 2 (List.take 5 (List.drop (k * 5) cs.toList)))) = some y2 := by have h : DataW.trod (fun _ => ()) Tryz.prog W 0 (fun _ => true) false n 4 (List.take (Tryz.prog.cellsOf 4) (List.drop 2 (List.take 5 (List.drop (k * 5) cs.toList)))) = some y2 := hf 2 _ rfl;rw [cBool] at h;exact h
  have g3 : DataW.trod (fun _ => ()) Tryz.prog W 0 (fun _ => true) false n 4 (List.take 1 (List.drop 3 (List.take 5 (List.drop (k * 5) cs.toList)))) = some y3 := by have h : DataW.trod (fun _ => ()) Tryz.prog W 0 (fun _ => true) false n 4 (List.take (Tryz.prog.cellsOf 4) (List.drop 3 (List.take 5 (List.drop (k * 5) cs.toList)))) = some y3 := hf 3 _ rfl;rw [cBool] at h;exact h
  have g4 : DataW.trod (fun _ => ()) Tryz.prog W 0 (fun _ => true) false n 4 (List.take 1 (List.drop 4 (List.take 5 (List.drop (k * 5) cs.toList)))) = some y4 := by have h : DataW.trod (fun _ => ()) Tryz.prog W 0 (fun _ => true) false n 4 (List.take (Tryz.prog.cellsOf 4) (List.drop 4 (List.take 5 (List.drop (k * 5) cs.toList)))) = some y4 := hf 4 _ rfl;rw [cBool] at h;exact h
  obtain ⟨s0,a0,b0,_⟩ := DataW.trod_string Tryz.underlying9 g0;obtain ⟨s1,a1,b1,_⟩ := DataW.trod_int Tryz.underlying3 g1;obtain ⟨s2,a2,b2⟩ := DataW.trod_bool Tryz.underlying4 g2;obtain ⟨s3,a3,b3⟩ := DataW.trod_bool Tryz.underlying4 g3;obtain ⟨s4,a4,b4⟩ := DataW.trod_bool Tryz.underlying4 g4;subst b0 b1 b2 b3 b4;simp only [DataW.lit.injEq,Lit.string.injEq,Lit.int.injEq,Lit.bool.injEq,true_and] at z0 z1 z2 z3 z4;have z0' := bytes_of z0;subst z0' z1 z2 z3 z4;have at' : ∀ (j : Nat) (v : Value),j < 5 -> List.take 1 (List.drop j (List.take 5 (List.drop (k * 5) cs.toList))) = [v] -> W.cell? ⟨1,k * 5 + j,none⟩ = some v := by intro j v hj h;rw [hcell];have := congrArg (fun l => l[0]?) h;simpa [List.getElem?_take,List.getElem?_drop,hj] using this
  exact ⟨at' 0 _ (by omega) a0,at' 1 _ (by omega) a1,at' 2 _ (by omega) a2,at' 3 _ (by omega) a3,at' 4 _ (by omega) a4⟩
 refine ⟨?_,hall⟩;have := (hall 0 (by omega)).1;exact lt_of_cell this
theorem rows_of_laid {W : World} {l : List (String × DataW Unit)} (h : laidMet Tryz.prog l W) (hm : ("loop.example/stilway/impl.devRows",DataW.agg ((List.range 14).map rowLit)) ∈ l) : RowsAt W := by obtain ⟨ps,hl,_,_⟩ := h;obtain ⟨g,t,cs,fuel,p,h1,h2,h3,h4⟩ := laid_at hl hm;obtain rfl := Option.some.inj (gRows.symm.trans h1);obtain rfl := Option.some.inj (gRowsType.symm.trans h2);exact rows_of_var h3 h4
theorem cU8 : Tryz.prog.cellsOf 5 = 1 := by kernel_rfl
theorem wf_u8 {n : Int} (h : (Lit.int .u8 n).wf = true) : 0 <= n ∧ n < 256 := by have := h;simp [Lit.wf,IntKind.min,IntKind.max,IntKind.signed,IntKind.bits] at this;omega
theorem bytes_of_trod {H : Type} {enc : TypeId × Value -> H} {W : World} {fuel : Nat} {v : Value} {x : DataW H × List MemPlace} (h : DataW.trod enc Tryz.prog W 0 (fun _ => true) true fuel 22 [v] = some x) : BytesAt W v := by
 rcases Deep.open_slice Tryz.underlying22 h with ⟨hv,_⟩ | ⟨a,len,cap,m,n,D,Pl,hv,_,hlc,hcap,hm,_,hx⟩
 ·obtain rfl : v = .slice none 0 0 := by simpa using hv
  exact ⟨none,0,0,rfl,Nat.le_refl _,by omega,fun i h => absurd h (by simp)⟩
 obtain rfl : v = .slice (some a) len cap := by simpa using hv
 have hlm : len <= m := by rw [hm]; split <;> omega
 have each : ∀ i,i < len -> ∃ z : Int,W.cell? (a.add (i * 1)) = some (.int .u8 z) ∧ 0 <= z ∧ z < 256 := by intro i hi;obtain ⟨cs',h1,h2⟩ := hx i (by omega);rw [cU8] at h1;obtain ⟨_,hlen,hcell⟩ := World.cells?_some h1;obtain ⟨z,hz,_,hw⟩ := DataW.trod_int Tryz.underlying5 h2;have e1 := hcell 0 (by omega);rw [Addr.add_add] at e1;rw [hz] at e1;refine ⟨z,by simpa using e1,wf_u8 hw⟩
 obtain ⟨b,o,sp⟩ := a;refine ⟨_,len,cap,rfl,hlc,Nat.le_trans hcap (by decide),fun i hi => ?_⟩;obtain ⟨z,hz,h1⟩ := each i hi;have hsp : sp = none := by obtain ⟨y,hy,_⟩ := each 0 (by omega);simpa [Addr.add] using World.cell?_spot hy
 subst hsp;rw [Addr.add_lit,Nat.mul_one] at hz;exact ⟨b,o,z,rfl,lt_of_cell hz,hz,h1⟩
end Go.Proofs.YtenoanhonjdpjaaGreatDoor
/- The laws' helper that says whether an arm is as a normal form is. -/
set_option maxHeartbeats 4000000
set_option maxRecDepth 100000
namespace Go.Proofs.YtenoanhonjdpjaaGreatDoor
open Go.RowKit Go.Sort Go.BigFrame
theorem l_wnNone (k o : Int) (av kv : Value) (w : World) (ha : ∃ a n c,av = .slice a n c) (hk : ∃ a n c,kv = .slice a n c) :
  Calls Tryz.prog 53 #[.agg #[.int .i64 k,.int .i64 o,av,kv]] w fun e w' => e = .returned (.bool (k == 0)) ∧ Below w.heap.size w w' := by obtain ⟨a1,n1,c1,rfl⟩ := ha;obtain ⟨a2,n2,c2,rfl⟩ := hk;go_enter Tryz.func53,Tryz.ntmps53;go_wp2;go_ret;exact ⟨ret_bool rfl,blA⟩
theorem l_wnArm (x : Stil.Arm) : ∀ (av nv cv kv : Value) (w : World),DevsAt w av x.net.one.args -> NetsAt w nv x.net.kids -> ElemsAt w cv x.coils -> ArmsAt w kv x.kids -> Stil.armFits x →
  Calls Tryz.prog 23 #[.agg #[.int .i64 x.net.kind,.int .i64 x.net.one.op,av,nv,cv,kv]] w fun e w' => e = .returned (.bool (Stil.wa x)) ∧ Below w.heap.size w w' := by
 induction x using Stil.arm_ind with
 | h n cs kids ih =>
  intro av nv cv kv w hav hnv hcv hkv hft;simp only at hav hnv hcv hkv;obtain ⟨hfn,hf2,hf3,hf4,hf5⟩ := (Stil.armFits_eq _ _ _).1 hft
  have IH : Hid (∀ x ∈ kids,∀ (av nv cv kv : Value) (w : World),DevsAt w av x.net.one.args -> NetsAt w nv x.net.kids -> ElemsAt w cv x.coils -> ArmsAt w kv x.kids →
   Calls Tryz.prog 23 #[.agg #[.int .i64 x.net.kind,.int .i64 x.net.one.op,av,nv,cv,kv]] w fun e w' => e = .returned (.bool (Stil.wa x)) ∧ Below w.heap.size w w') := fun x hx av nv cv kv w h1 h2 h3 h4 => ih x hx av nv cv kv w h1 h2 h3 h4 (hf5 x hx)
  have HNE : Hid (∀ W,Below w.heap.size w W -> Calls Tryz.prog 28 #[.agg #[.int .i64 n.kind,.int .i64 n.one.op,av,nv]] W fun e w' => e = .returned (.bool (Stil.wn n)) ∧ Below W.heap.size W w') := fun W h => l_wnNet n av nv W (hav.below h) (hnv.below h) hfn;clear ih hf5 hft hfn hf3;obtain ⟨a,cap,rfl,hc⟩ := hkv;have HC : Hid (∀ i (h : i < kids.length),∃ b o,a = some ⟨b,o,none⟩ ∧ b < w.heap.size ∧ ArmAt w b (o + i * 6) kids[i]) := hc;obtain ⟨a1,c1,rfl,-⟩ := hav;obtain ⟨a2,c2,rfl,-⟩ := hnv;obtain ⟨a3,c3,rfl,-⟩ := hcv;have HNO : Hid (∀ W,Calls Tryz.prog 53 #[.agg #[.int .i64 n.kind,.int .i64 n.one.op,.slice a1 n.one.args.length c1,.slice a2 n.kids.length c2]] W fun e w' => e = .returned (.bool (n.kind == 0)) ∧ Below W.heap.size W w') := fun W => l_wnNone _ _ _ _ W ⟨_,_,_,rfl⟩ ⟨_,_,_,rfl⟩;have HZ : Hid (Stil.wa ⟨n,cs,kids⟩ = ((n.kind == 0 || Stil.wn n) && (kids.map Stil.wa).all id && Stil.oneOk cs kids)) := by show _ = _; rw [Stil.wa]
  clear hc;obtain ⟨T,hT⟩ : ∃ T,T = Stil.wa ⟨n,cs,kids⟩ := ⟨_,rfl⟩;rw [← hT] at HZ ⊢;clear hT;obtain ⟨lk,hlk⟩ : ∃ lk,lk = kids.length := ⟨_,rfl⟩;have HLK : Hid (lk = kids.length) := hlk;rw [← hlk] at hf4 ⊢;clear hlk;obtain ⟨W0,hW0⟩ : ∃ W0,W0 = w.alloc (.cells #[.int .i64 n.kind,.int .i64 n.one.op,.slice a1 n.one.args.length c1,.slice a2 n.kids.length c2,.slice a3 cs.length c3,.slice a lk cap] 36) := ⟨_,rfl⟩;have HBX : Hid (∀ W,Below W0.heap.size W0 W -> W.cell? ⟨w.heap.size,0,none⟩ = some (.int .i64 n.kind) ∧ W.cell? ⟨w.heap.size,1,none⟩ = some (.int .i64 n.one.op) ∧ W.cell? ⟨w.heap.size,2,none⟩ = some (.slice a1 n.one.args.length c1) ∧ W.cell? ⟨w.heap.size,3,none⟩ = some (.slice a2 n.kids.length c2) ∧ W.cell? ⟨w.heap.size,4,none⟩ = some (.slice a3 cs.length c3) ∧ W.cell? ⟨w.heap.size,5,none⟩ = some (.slice a lk cap)) := by intro W h;rw [hW0] at h;refine ⟨?_,?_,?_,?_,?_,?_⟩ <;> (refine (h.cell (p := ⟨w.heap.size,_,none⟩) (by simp)).trans ?_; simp [go_sem])
  have hb0 : Below w.heap.size w W0 := by rw [hW0]; exact below_alloc _ _
  have HW0 : Hid (∀ W,Below W0.heap.size W0 W -> Below w.heap.size w W) := fun W h => hb0.trans (h.mono hb0.size);have HZ0 : Hid (w.heap.size < W0.heap.size) := by rw [hW0]; show _ < _; simp
  go_enter Tryz.func23,Tryz.ntmps23;go_upto_region 1 with fail;rw [← hW0];obtain ⟨x0,x1,x2,x3,x4,x5⟩ := HBX.out W0 blA;clear hW0 hb0;cases t0 : (n.kind == 0)
  ·cases s0 : Stil.wn n;{rw [s0] at HNE;rw [t0] at HNO;go_wp2_with (first | (go_at_call 53; refine (HNO.out _).mono ?_; rintro e w1 ⟨rfl,hb1⟩; obtain ⟨x0,x1,x2,x3,x4,x5⟩ := HBX.out w1 blA) | (go_at_call 28; refine (HNE.out _ (HW0.out _ blA)).mono ?_; rintro e w2 ⟨rfl,hb2⟩; clear x0 x1 x2 x3 x4 x5));go_ret;exact ⟨ret_bool (by rw [HZ.out,t0,s0]; rfl),HW0.out _ blA⟩};rw [s0] at HNE;rw [t0] at HNO;(have HA : Hid ((n.kind == 0 || Stil.wn n) = true) := by show _ = _; rw [t0,s0]; rfl);clear t0 s0;go_wp2_with (first | (go_at_call 53; refine (HNO.out _).mono ?_; rintro e w1 ⟨rfl,hb1⟩; obtain ⟨x0,x1,x2,x3,x4,x5⟩ := HBX.out w1 blA) | (go_at_call 28; refine (HNE.out _ (HW0.out _ blA)).mono ?_; rintro e w2 ⟨rfl,hb2⟩; clear x0 x1 x2 x3 x4 x5));go_loopw [3] (fun i wr => ∃ j : Nat,j <= lk ∧ i = .int .i64 j ∧ (kids.take j).all Stil.wa = true ∧ Below W0.heap.size W0 wr) (fun i _ => lk - (intOf i).toNat);case atStart => exact ⟨0,by omega,rfl,rfl,blA⟩
   case round =>
    obtain ⟨j,hj,rfl,hfp,hB⟩ := hrel;have HP : Hid ((kids.take j).all Stil.wa = true) := hfp;clear hfp;obtain ⟨c0,c1',c2',c3',c4,c5⟩ := HBX.out wr hB;have hbw : Below w.heap.size w wr := HW0.out wr hB;have hzb : w.heap.size < wr.heap.size := Nat.lt_of_lt_of_le HZ0.out hB.size;by_cases hlt : j < lk;{(have hlt' : j < kids.length := by have := HLK.out; omega);obtain ⟨b,o,rfl,hbl,hn⟩ := HC.out j hlt';obtain ⟨hna,cv,kv,x4,x5,hcv,hkv⟩ := (ArmAt.below hbw _ _ _ hn hbl).open;obtain ⟨x0,x1,av,nv,x2,x3,hav,hnv⟩ := hna.open;have HI : Hid (∀ W,Below wr.heap.size wr W -> Calls Tryz.prog 23 #[.agg #[.int .i64 kids[j].net.kind,.int .i64 kids[j].net.one.op,av,nv,cv,kv]] W fun e w' => e = .returned (.bool (Stil.wa kids[j])) ∧ Below W.heap.size W w') := fun W hW => IH.out kids[j] (List.getElem_mem hlt') av nv cv kv W (hav.below hW) (hnv.below hW) (hcv.below hW) (hkv.below hW);(have HS : Hid (Stil.wa kids[j] = true -> (kids.take (j + 1)).all Stil.wa = true) := by intro h;rw [List.take_succ_eq_append_getElem hlt',List.all_append,HP.out];simp [h]);(have HN : Hid (Stil.wa kids[j] = false -> T = false) := by intro h;rw [HZ.out];(have : (kids.map Stil.wa).all id = false := by rw [List.all_eq_false];exact ⟨_,List.mem_map.2 ⟨_,List.getElem_mem hlt',h⟩,Bool.false_ne_true⟩);rw [this,Bool.and_false]; rfl);obtain ⟨s,hs⟩ : ∃ s,s = Stil.wa kids[j] := ⟨_,rfl⟩;obtain ⟨x,hx⟩ : ∃ x,x = kids[j] := ⟨_,rfl⟩;rw [← hs] at HI HS HN;rw [← hx] at HI x0 x1;obtain ⟨q1,q2,rfl,-⟩ := hav;obtain ⟨q3,q4,rfl,-⟩ := hnv;obtain ⟨q5,q6,rfl,-⟩ := hcv;obtain ⟨q7,q8,rfl,-⟩ := hkv;clear hs hx hn hna;cases s;{go_wp2_with (go_at_call 23; refine (HI.out _ blA).mono ?_; rintro e w4 ⟨rfl,hb4⟩);go_ret;exact ⟨ret_bool (HN.out (by first | rfl | trivial)).symm,blA⟩};go_wp2_with (go_at_call 23; refine (HI.out _ blA).mono ?_; rintro e w4 ⟨rfl,hb4⟩);exact ⟨⟨j + 1,by omega,by go_num,HS.out (by first | rfl | trivial),hB.trans (hb4.mono hB.size)⟩,by simp [intOf]; omega⟩}
    ·have HE : Hid (T = Stil.oneOk cs kids) := by
      show _ = _
      have h := HP.out
      rw [List.take_of_length_le (by have := HLK.out; omega)] at h
      have h2 : (kids.map Stil.wa).all id = true := by
       rw [List.all_map]; exact h
      rw [HZ.out,h2,HA.out]; rfl
     clear HP
     by_cases h1 : lk = 1
     ·subst h1
      obtain ⟨k0,hk0⟩ : ∃ k0,kids = [k0] := List.length_eq_one_iff.1 HLK.out.symm
      subst hk0
      obtain ⟨b,o,rfl,hbl,hn⟩ := HC.out 0 (by simp)
      have hn' : ArmAt w b o k0 := by simpa using hn
      obtain ⟨hna,cv,kv,x4,x5,hcv,hkv⟩ := (ArmAt.below hbw _ _ _ hn' hbl).open
      obtain ⟨x0,x1,av,nv,x2,x3,hav,hnv⟩ := hna.open
      obtain ⟨q1,q2,rfl,-⟩ := hav
      obtain ⟨q3,q4,rfl,-⟩ := hnv
      have HNK : Hid (∀ W,Calls Tryz.prog 53 #[.agg #[.int .i64 k0.net.kind,.int .i64 k0.net.one.op,.slice q1 k0.net.one.args.length q2,.slice q3 k0.net.kids.length q4]] W fun e w' => e = .returned (.bool (k0.net.kind == 0)) ∧ Below W.heap.size W w') := fun W => l_wnNone _ _ _ _ W ⟨_,_,_,rfl⟩ ⟨_,_,_,rfl⟩
      obtain ⟨lc,hlc⟩ : ∃ lc,lc = cs.length := ⟨_,rfl⟩
      have HO : Hid (T = (decide (0 < lc) && !(k0.net.kind == 0))) := by show _ = _; rw [HE.out,hlc]; rfl
      rw [← hlc] at c4
      obtain ⟨z0,hz0⟩ : ∃ z0,z0 = (k0.net.kind == 0) := ⟨_,rfl⟩
      rw [← hz0] at HNK HO
      clear HE hn hn' hna hcv hkv hlc hz0 x4 x5
      by_cases h2 : 0 < lc
      ·have h3 : (0 : Int) < lc := by omega
       go_wp2_with (go_at_call 53; refine (HNK.out _).mono ?_; rintro e w4 ⟨rfl,hb4⟩)
       go_ret
       refine ⟨ret_bool ?_,blA⟩
       rw [HO.out]
       simp [h2]
      ·have h3 : lc = 0 := by omega
       subst h3
       go_wp2
       go_ret
       exact ⟨ret_bool (by rw [HO.out]; rfl),blA⟩
     ·have HO : Hid (T = true) := by
       show _ = _
       rw [HE.out]
       rcases kids with _ | ⟨k1,_ | ⟨k2,r⟩⟩
       ·rfl
       ·exact absurd HLK.out h1
       ·rfl
      have h2 : ¬ (lk : Int) = 1 := by omega
      go_wp2
      go_ret
      exact ⟨ret_bool (by rw [HO.out]),blA⟩
  rw [t0] at HNO;have HA : Hid ((n.kind == 0 || Stil.wn n) = true) := by show _ = _; rw [t0]; rfl
  clear t0;go_wp2_with (first | (go_at_call 53; refine (HNO.out _).mono ?_; rintro e w1 ⟨rfl,hb1⟩; clear x0 x1 x2 x3 x4 x5));go_loopw [3] (fun i wr => ∃ j : Nat,j <= lk ∧ i = .int .i64 j ∧ (kids.take j).all Stil.wa = true ∧ Below W0.heap.size W0 wr) (fun i _ => lk - (intOf i).toNat);case atStart => exact ⟨0,by omega,rfl,rfl,blA⟩
  case round =>
   obtain ⟨j,hj,rfl,hfp,hB⟩ := hrel;have HP : Hid ((kids.take j).all Stil.wa = true) := hfp;clear hfp;obtain ⟨c0,c1',c2',c3',c4,c5⟩ := HBX.out wr hB;have hbw : Below w.heap.size w wr := HW0.out wr hB;have hzb : w.heap.size < wr.heap.size := Nat.lt_of_lt_of_le HZ0.out hB.size;by_cases hlt : j < lk;{(have hlt' : j < kids.length := by have := HLK.out; omega);obtain ⟨b,o,rfl,hbl,hn⟩ := HC.out j hlt';obtain ⟨hna,cv,kv,x4,x5,hcv,hkv⟩ := (ArmAt.below hbw _ _ _ hn hbl).open;obtain ⟨x0,x1,av,nv,x2,x3,hav,hnv⟩ := hna.open;have HI : Hid (∀ W,Below wr.heap.size wr W -> Calls Tryz.prog 23 #[.agg #[.int .i64 kids[j].net.kind,.int .i64 kids[j].net.one.op,av,nv,cv,kv]] W fun e w' => e = .returned (.bool (Stil.wa kids[j])) ∧ Below W.heap.size W w') := fun W hW => IH.out kids[j] (List.getElem_mem hlt') av nv cv kv W (hav.below hW) (hnv.below hW) (hcv.below hW) (hkv.below hW);(have HS : Hid (Stil.wa kids[j] = true -> (kids.take (j + 1)).all Stil.wa = true) := by intro h;rw [List.take_succ_eq_append_getElem hlt',List.all_append,HP.out];simp [h]);(have HN : Hid (Stil.wa kids[j] = false -> T = false) := by intro h;rw [HZ.out];(have : (kids.map Stil.wa).all id = false := by rw [List.all_eq_false];exact ⟨_,List.mem_map.2 ⟨_,List.getElem_mem hlt',h⟩,Bool.false_ne_true⟩);rw [this,Bool.and_false]; rfl);obtain ⟨s,hs⟩ : ∃ s,s = Stil.wa kids[j] := ⟨_,rfl⟩;obtain ⟨x,hx⟩ : ∃ x,x = kids[j] := ⟨_,rfl⟩;rw [← hs] at HI HS HN;rw [← hx] at HI x0 x1;obtain ⟨q1,q2,rfl,-⟩ := hav;obtain ⟨q3,q4,rfl,-⟩ := hnv;obtain ⟨q5,q6,rfl,-⟩ := hcv;obtain ⟨q7,q8,rfl,-⟩ := hkv;clear hs hx hn hna;cases s;{go_wp2_with (go_at_call 23; refine (HI.out _ blA).mono ?_; rintro e w4 ⟨rfl,hb4⟩);go_ret;exact ⟨ret_bool (HN.out (by first | rfl | trivial)).symm,blA⟩};go_wp2_with (go_at_call 23; refine (HI.out _ blA).mono ?_; rintro e w4 ⟨rfl,hb4⟩);exact ⟨⟨j + 1,by omega,by go_num,HS.out (by first | rfl | trivial),hB.trans (hb4.mono hB.size)⟩,by simp [intOf]; omega⟩}
   ·have HE : Hid (T = Stil.oneOk cs kids) := by
     show _ = _
     have h := HP.out
     rw [List.take_of_length_le (by have := HLK.out; omega)] at h
     have h2 : (kids.map Stil.wa).all id = true := by
      rw [List.all_map]; exact h
     rw [HZ.out,h2,HA.out]; rfl
    clear HP
    by_cases h1 : lk = 1
    ·subst h1
     obtain ⟨k0,hk0⟩ : ∃ k0,kids = [k0] := List.length_eq_one_iff.1 HLK.out.symm
     subst hk0
     obtain ⟨b,o,rfl,hbl,hn⟩ := HC.out 0 (by simp)
     have hn' : ArmAt w b o k0 := by simpa using hn
     obtain ⟨hna,cv,kv,x4,x5,hcv,hkv⟩ := (ArmAt.below hbw _ _ _ hn' hbl).open
     obtain ⟨x0,x1,av,nv,x2,x3,hav,hnv⟩ := hna.open
     obtain ⟨q1,q2,rfl,-⟩ := hav
     obtain ⟨q3,q4,rfl,-⟩ := hnv
     have HNK : Hid (∀ W,Calls Tryz.prog 53 #[.agg #[.int .i64 k0.net.kind,.int .i64 k0.net.one.op,.slice q1 k0.net.one.args.length q2,.slice q3 k0.net.kids.length q4]] W fun e w' => e = .returned (.bool (k0.net.kind == 0)) ∧ Below W.heap.size W w') := fun W => l_wnNone _ _ _ _ W ⟨_,_,_,rfl⟩ ⟨_,_,_,rfl⟩
     obtain ⟨lc,hlc⟩ : ∃ lc,lc = cs.length := ⟨_,rfl⟩
     have HO : Hid (T = (decide (0 < lc) && !(k0.net.kind == 0))) := by show _ = _; rw [HE.out,hlc]; rfl
     rw [← hlc] at c4
     obtain ⟨z0,hz0⟩ : ∃ z0,z0 = (k0.net.kind == 0) := ⟨_,rfl⟩
     rw [← hz0] at HNK HO
     clear HE hn hn' hna hcv hkv hlc hz0 x4 x5
     by_cases h2 : 0 < lc
     ·have h3 : (0 : Int) < lc := by omega
      go_wp2_with (go_at_call 53; refine (HNK.out _).mono ?_; rintro e w4 ⟨rfl,hb4⟩)
      go_ret
      refine ⟨ret_bool ?_,blA⟩
      rw [HO.out]
      simp [h2]
     ·have h3 : lc = 0 := by omega
      subst h3
      go_wp2
      go_ret
      exact ⟨ret_bool (by rw [HO.out]; rfl),blA⟩
    ·have HO : Hid (T = true) := by
      show _ = _
      rw [HE.out]
      rcases kids with _ | ⟨k1,_ | ⟨k2,r⟩⟩
      ·rfl
      ·exact absurd HLK.out h1
      ·rfl
     have h2 : ¬ (lk : Int) = 1 := by omega
     go_wp2
     go_ret
     exact ⟨ret_bool (by rw [HO.out]),blA⟩
end Go.Proofs.YtenoanhonjdpjaaGreatDoor
/- The law on the shape of the normal form: the walk. -/
namespace Go.Proofs.YtenoanhonjdpjaaGreatDoor
open Go.RowKit Go.Sort Go.BigFrame
def LadX3 (N k : Nat) (w : World) (e : Ending) (w' : World) : Prop := ∃ (l : List Stil.Arm) (v : Value),e = .returned v ∧ ArmsAt w' v l ∧ (∀ a ∈ l,ATame a ∧ Stil.armSz a <= N) ∧ l.length <= k ∧ Below w.heap.size w w'
theorem shape_same {l : List Stil.Arm} (h : (Stil.treeCheck l).1 = 0) : l.all Stil.wa = true ↔ Stil.normMake l = l := by
 classical
 rw [Stil.shape_iff h];simp
set_option maxHeartbeats 4000000 in
set_option maxRecDepth 100000 in
theorem law_normShape (HD : ∀ u w,BytesAt w u -> Calls Tryz.prog 22 #[u] w (LadX3 9000 250 w)) (u : Value) (w : World) (hrow : RowsAt w) (herr : ErrTypeAt w) (hu : BytesAt w u) :
  Calls Tryz.prog 6 #[u] w fun e w' => e = .returned (.bool true) ∧ Below w.heap.size w w' := by
 have HR0 : Hid (∀ W,Below w.heap.size w W -> RowsAt W ∧ ErrTypeAt W) := fun W h => ⟨hrow.below h,herr.below h⟩;have HDR : Hid (Calls Tryz.prog 22 #[u] w (LadX3 9000 250 w)) := HD u w hu;obtain ⟨ua,ul,uc,rfl,-,-,-⟩ := hu;clear hrow herr HD;by_cases hbig : 1048576 < ul
 ·go_enter Tryz.func6,Tryz.ntmps6;go_wp2;go_ret;exact ⟨rfl,Below.refl _ _⟩
 go_enter Tryz.func6,Tryz.ntmps6;go_upto_region 4 with (go_at_call 22; refine HDR.out.mono ?_; rintro e w1 ⟨l,v,rfl,hva,hta,hla,hb1⟩; have HL : Hid (LadF w1 v l) := ladF (lad_of hva hta hla (by omega) (by omega)); clear hta; obtain ⟨a1,c1,rfl,-⟩ := hva);have HR : Hid (∀ W,Below w1.heap.size w1 W -> RowsAt W ∧ ErrTypeAt W) := fun W h => HR0.out W (hb1.trans (h.mono hb1.size));have HFIN : Hid (∀ W,Below w1.heap.size w1 W -> Below w.heap.size w W) := fun W h => hb1.trans (h.mono hb1.size);have hfit := (HL.out w1 (Below.refl _ _)).2.1;have hff := fault_fld;have hcb := (Stil.check_bound l).1;clear hbig HR0 HDR hb1;by_cases h0 : (Stil.treeCheck l).1 = 0
 ·obtain ⟨z1,z2,z3,z4,z5⟩ := Stil.normMake_zero hfit h0;have HW1 := Stil.norm_wa h0;have HSH := shape_same h0;obtain ⟨n,hn⟩ : ∃ n,n = Stil.normMake l := ⟨_,rfl⟩;have HIS : Hid ((Stil.treeCheck l).1 = 0 ∧ n = Stil.normMake l) := ⟨h0,hn⟩;have HIM : Hid (∀ W,Below w1.heap.size w1 W -> Calls Tryz.prog 19 #[.slice a1 l.length c1] W fun e w' => ∃ (a : Option Addr) (c : Nat),e = .returned (.slice a l.length c) ∧ LadF w' (.slice a l.length c) n ∧ Below W.heap.size W w') := by rw [hn,← z3];intro W h;have := i_makeG HR.out HL.out h;unfold MadeAt at this;rwa [z3] at this ⊢
  rw [← hn] at HW1 HSH z3;have HSHAPE : Hid (l.all Stil.wa = true ↔ n = l) := HSH;have HWA : Hid (∀ x ∈ n,Stil.wa x = true) := HW1;have HZ3 : Hid (n.length = l.length) := z3;have HFL : Hid (∀ x ∈ l,Stil.armFits x) := hfit;have HFN : Hid (∀ x ∈ n,Stil.armFits x) := by rw [hn]; exact z5
  clear hn hfit z1 z2 z3 z4 z5 hcb HSH HW1;go_wp2_with (first | (go_at_call 11; refine (s_checkG (w := w1) HL.out blA).mono ?_; rintro e w2 ⟨rfl,hb2⟩) | (go_at_call 19; refine (HIM.out _ blA).mono ?_; rintro e w3 ⟨a2,c2,rfl,hl2,hb3⟩; have HL2 : Hid (LadF w3 (.slice a2 l.length c2) n) := hl2; clear hl2));have HLw : Hid (LadF w3 (.slice a1 l.length c1) l) := HL.out.later blA;have HR3 : Hid (∀ W,Below w3.heap.size w3 W -> RowsAt W ∧ ErrTypeAt W) := fun W h => HR.out W (bl_call (bl_call hb2 hb3) h);have HFIN3 : Hid (∀ W,Below w3.heap.size w3 W -> Below w.heap.size w W) := fun W h => HFIN.out W (bl_call (bl_call hb2 hb3) h);clear hb2 hb3 HL HR HFIN HIM;go_loopw [5,6] (fun sh i wr => ∃ j : Nat,j <= l.length ∧ i = .int .i64 j ∧ sh = .bool ((l.take j).all Stil.wa) ∧ Below w3.heap.size w3 wr) (fun _ i _ => l.length - (intOf i).toNat);case atStart => exact ⟨0,by omega,rfl,rfl,Below.refl _ _⟩
  case round =>obtain ⟨j,hj,rfl,rfl,hB⟩ := hrel;by_cases hlt : j < l.length;{(have hlt2 : j < n.length := by rw [HZ3.out]; exact hlt);have hAn := HL2.out wr hB;have hAl := HLw.out wr hB;(have HSU : Hid ((l.take (j + 1)).all Stil.wa = ((l.take j).all Stil.wa && Stil.wa l[j])) := by show _ = _;rw [List.take_succ_eq_append_getElem hlt,List.all_append];simp);have HNJ : Hid (Stil.wa n[j] = true) := HWA.out _ (List.getElem_mem hlt2);obtain ⟨⟨a',c',e',hat⟩,-⟩ := hAn;simp only [Value.slice.injEq] at e';obtain ⟨ee,-,ef⟩ := e';subst ee ef;obtain ⟨yb,yo,rfl,ybl,yn⟩ := hat j hlt2;obtain ⟨yna,ycv,ykv,y4,y5,yhcv,yhkv⟩ := yn.open;obtain ⟨y0,y1,yav,ynv,y2,y3,yhav,yhnv⟩ := yna.open;have HIN : Hid (∀ W,Below wr.heap.size wr W -> Calls Tryz.prog 23 #[.agg #[.int .i64 n[j].net.kind,.int .i64 n[j].net.one.op,yav,ynv,ycv,ykv]] W fun e w' => e = .returned (.bool (Stil.wa n[j])) ∧ Below W.heap.size W w') := fun W h => l_wnArm n[j] _ _ _ _ W (yhav.below h) (yhnv.below h) (yhcv.below h) (yhkv.below h) (HFN.out _ (List.getElem_mem hlt2));obtain ⟨yx,hyx⟩ : ∃ x,x = n[j] := ⟨_,rfl⟩;obtain ⟨yq1,yq2,e1,-⟩ := yhav;obtain ⟨yq3,yq4,e2,-⟩ := yhnv;obtain ⟨yq5,yq6,e3,-⟩ := yhcv;obtain ⟨yq7,yq8,e4,-⟩ := yhkv;subst e1 e2 e3 e4;clear hat yn yna;rw [HNJ.out] at HIN;rw [← hyx] at HIN y0 y1 y2 y3 y4 y5;obtain ⟨⟨a',c',e',hat⟩,-⟩ := hAl;simp only [Value.slice.injEq] at e';obtain ⟨ee,-,ef⟩ := e';subst ee ef;obtain ⟨xb,xo,rfl,xbl,xn⟩ := hat j hlt;obtain ⟨xna,xcv,xkv,x4,x5,xhcv,xhkv⟩ := xn.open;obtain ⟨x0,x1,xav,xnv,x2,x3,xhav,xhnv⟩ := xna.open;have HIL : Hid (∀ W,Below wr.heap.size wr W -> Calls Tryz.prog 23 #[.agg #[.int .i64 l[j].net.kind,.int .i64 l[j].net.one.op,xav,xnv,xcv,xkv]] W fun e w' => e = .returned (.bool (Stil.wa l[j])) ∧ Below W.heap.size W w') := fun W h => l_wnArm l[j] _ _ _ _ W (xhav.below h) (xhnv.below h) (xhcv.below h) (xhkv.below h) (HFL.out _ (List.getElem_mem hlt));obtain ⟨xx,hxx⟩ : ∃ x,x = l[j] := ⟨_,rfl⟩;obtain ⟨xq1,xq2,e1,-⟩ := xhav;obtain ⟨xq3,xq4,e2,-⟩ := xhnv;obtain ⟨xq5,xq6,e3,-⟩ := xhcv;obtain ⟨xq7,xq8,e4,-⟩ := xhkv;subst e1 e2 e3 e4;clear hat xn xna;obtain ⟨s,hs⟩ : ∃ s,s = Stil.wa l[j] := ⟨_,rfl⟩;rw [← hs] at HIL HSU;rw [← hxx] at HIL x0 x1 x2 x3 x4 x5;clear hs hxx hyx HNJ;(have hge : ¬ (l.length : Int) <= j := by omega);generalize hS : (l.take j).all Stil.wa = S at HSU ⊢;clear hS;cases S;{go_wp2_with (go_at_call 23; refine (HIN.out _ blA).mono ?_; rintro e w5 ⟨rfl,hb5⟩);exact ⟨⟨j + 1,by omega,by go_num,by rw [HSU.out]; rfl,blA⟩,by simp [intOf]; omega⟩};have HYB : Hid (∀ W,Below wr.heap.size wr W -> (W.cell? ⟨yb,yo + j * 6,none⟩ = some (.int .i64 yx.net.kind) ∧ W.cell? ⟨yb,yo + j * 6 + 1,none⟩ = some (.int .i64 yx.net.one.op) ∧ W.cell? ⟨yb,yo + j * 6 + 2,none⟩ = some (.slice yq1 yx.net.one.args.length yq2) ∧ W.cell? ⟨yb,yo + j * 6 + 3,none⟩ = some (.slice yq3 yx.net.kids.length yq4) ∧ W.cell? ⟨yb,yo + j * 6 + 4,none⟩ = some (.slice yq5 yx.coils.length yq6) ∧ W.cell? ⟨yb,yo + j * 6 + 5,none⟩ = some (.slice yq7 yx.kids.length yq8))) := fun W h => ⟨(h.cell (p := ⟨yb,yo + j * 6,none⟩) ybl).trans y0,(h.cell (p := ⟨yb,yo + j * 6 + 1,none⟩) ybl).trans y1,(h.cell (p := ⟨yb,yo + j * 6 + 2,none⟩) ybl).trans y2,(h.cell (p := ⟨yb,yo + j * 6 + 3,none⟩) ybl).trans y3,(h.cell (p := ⟨yb,yo + j * 6 + 4,none⟩) ybl).trans y4,(h.cell (p := ⟨yb,yo + j * 6 + 5,none⟩) ybl).trans y5⟩;clear y0 y1 y2 y3 y4 y5;go_upto_region 12 with (go_at_call 23; refine (HIL.out _ blA).mono ?_; rintro e w4 ⟨rfl,hb4⟩; obtain ⟨y0,y1,y2,y3,y4,y5⟩ := HYB.out w4 hb4);have hyb4 : yb < w4.heap.size := Nat.lt_of_lt_of_le ybl hb4.size;go_wp2_with (go_at_call 23; refine (HIN.out _ blA).mono ?_; rintro e w5 ⟨rfl,hb5⟩);exact ⟨⟨j + 1,by omega,by go_num,by rw [HSU.out]; simp,blA⟩,by simp [intOf]; omega⟩};have e : l.take j = l := List.take_of_length_le (by omega);rw [e];clear e;generalize l.all Stil.wa = S at HSHAPE ⊢;(have e2 : j = l.length := by omega);go_wp2_with (first | (go_at_call 21; refine (i_isG (w := w3) HR3.out HLw.out blA).mono ?_; rintro e w4 ⟨b4,rfl,hbb,hb4⟩; obtain rfl : b4 = S := Bool.eq_iff_iff.2 ⟨fun h => HSHAPE.out.2 (HIS.out.2.trans (hbb.1 h).2.symm),fun h => hbb.2 ⟨HIS.out.1,(HSHAPE.out.1 h).symm.trans HIS.out.2⟩⟩; clear hbb) | (go_at_call 15; refine (i_sameG (w := w3) HL2.out HLw.out blA).mono ?_; rintro e w5 ⟨b5,rfl,hbb,hb5⟩; obtain rfl : b5 = b4 := Bool.eq_iff_iff.2 ⟨fun h => HSHAPE.out.2 (hbb.1 h),fun h => hbb.2 (HSHAPE.out.1 h)⟩; clear hbb));go_ret;exact ⟨ret_bool (by first | rfl | simp),HFIN3.out _ blA⟩
 have hpos : 0 < (Stil.treeCheck l).1 := by omega
 go_wp2_with (first | (go_at_call 11; refine (s_checkG (w := w1) HL.out blA).mono ?_; rintro e w2 ⟨rfl,hb2⟩) | (go_at_call 21; refine (i_isG (w := w1) HR.out HL.out blA).mono ?_; rintro e w3 ⟨b3,rfl,hbb,hb3⟩; obtain rfl : b3 = false := Bool.eq_false_iff.2 (fun h => h0 (hbb.1 h).1); clear hbb));go_ret;exact ⟨rfl,HFIN.out _ blA⟩
end Go.Proofs.YtenoanhonjdpjaaGreatDoor
