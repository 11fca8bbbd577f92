/- The program's chapter 4: the normal form of an arm. -/
import Derived.Test.YtenoanhonjdpjaaGreatDoorGt
import Derived.Test.YtenoanhonjdpjaaGreatDoorY7g
import Derived.Deep.LoopGhost
import Derived.Deep.RegionHeld3
namespace Go.Proofs.YtenoanhonjdpjaaGreatDoor
open Go.RowKit Go.Sort Go.BigFrame
def nilNet : MNet := ⟨0,0,[],.slice none 0 0,.slice none 0 0,[]⟩
theorem nilNet_net : nilNet.net = Stil.none0 := by rw [MNet.net_eq]; rfl
theorem nilNet_vals : nilNet.vals = [.slice none 0 0,.slice none 0 0] := by rw [MNet.vals_eq]; rfl
theorem nilNet_ok (w : World) (base : Nat) : MOk w base nilNet := (MOk_iff _ _ _).2 ⟨World.ownsRow_nil _ _ _ _,World.ownsRow_nil _ _ _ _,fun x hx => by cases hx⟩
theorem nil_own {x : Value} (hx : x ∈ nilNet.vals) : x.ownBlock = none := by
 rw [nilNet_vals] at hx
 simp only [List.mem_cons,List.mem_nil_iff,or_false,or_self] at hx
 rw [hx]; rfl
/-- An arm whose coils were made ahead of its kids. -/
theorem arm_facts {w1 w2 : World} {base lE lA : Nat} {cv kv : Value} {ems : List MElem} {ams : List MArm} (hE : ERow w1 lE cv ems) (hA : ARow w2 lA kv ams) (hb : Below w1.heap.size w1 w2) (h1 : base <= lE) (h2 : w1.heap.size <= lA) (h3 : base <= lA) :
  AOwn w2 base ⟨nilNet,cv,ems,kv,ams⟩ ∧ ∀ x ∈ (MArm.mk nilNet cv ems kv ams).vals,∀ q,x.ownBlock = some q -> (lE <= q ∧ q < w1.heap.size) ∨ (lA <= q ∧ q < w2.heap.size) := by
 have hv : (MArm.mk nilNet cv ems kv ams).vals = nilNet.vals ++ ((cv :: eVals ems) ++ (kv :: aVals ams)) := MArm.vals_eq _
 have hE2 := (hE.below hb).le h1
 have hA2 := hA.le h3
 refine ⟨⟨(AOk_iff _ _ _).2 ⟨nilNet_ok _ _,⟨hE2.1,hE2.2.1⟩,hA2.1,hA2.2.1⟩,?_⟩,?_⟩
 ·rw [hv,List.pairwise_append]
  refine ⟨?_,List.pairwise_append.2 ⟨hE.2.2,hA.2.2,fun x hx y hy => aside_new (n := w1.heap.size) (fun k hk => (hE.lt x hx k hk).2) (fun k hk => Nat.le_trans h2 (hA.lt y hy k hk).1)⟩,fun x hx y _ => .inl (nil_own hx)⟩
  rw [nilNet_vals]
  exact List.pairwise_cons.2 ⟨fun y _ => aside_nil y,List.pairwise_singleton _ _⟩
 ·intro x hx q hq
  rw [hv] at hx
  rcases List.mem_append.1 hx with hx | hx
  ·rw [nil_own hx] at hq; cases hq
  rcases List.mem_append.1 hx with hx | hx
  ·exact .inl (hE.lt x hx q hq)
  ·exact .inr (hA.lt x hx q hq)
theorem AOwn.setNet {w : World} {base lo : Nat} {m : MArm} {mN : MNet} (h : AOwn w base m) (hn : MOwn w base mN) (hl : ∀ x ∈ mN.vals,∀ q,x.ownBlock = some q -> lo <= q) (hm : ∀ x ∈ m.vals,∀ q,x.ownBlock = some q -> q < lo) : AOwn w base ⟨mN,m.cv,m.coils,m.kv,m.kids⟩ := by
 obtain ⟨h1,hp⟩ := h
 obtain ⟨_,h3,h4,h5⟩ := (AOk_iff _ _ _).1 h1
 have hv : (MArm.mk mN m.cv m.coils m.kv m.kids).vals = mN.vals ++ ((m.cv :: eVals m.coils) ++ (m.kv :: aVals m.kids)) := MArm.vals_eq _
 have hv2 : m.vals = m.net.vals ++ ((m.cv :: eVals m.coils) ++ (m.kv :: aVals m.kids)) := MArm.vals_eq _
 rw [hv2] at hp hm
 refine ⟨(AOk_iff _ _ _).2 ⟨hn.1,h3,h4,h5⟩,?_⟩
 rw [hv]
 exact List.pairwise_append.2 ⟨hn.2,(List.pairwise_append.1 hp).2.1,fun x hx y hy => (aside_new (n := lo) (hm y (List.mem_append_right _ hy)) (hl x hx)).symm⟩
theorem AOwn.setN {w : World} {base b : Nat} {m : MArm} {u0 u1 u2 u3 : Value} (h : AOwn w base m) (hb : ∀ x ∈ m.vals,x.ownBlock ≠ some b) : AOwn ((((w.setCell ⟨b,0,none⟩ u0).setCell ⟨b,1,none⟩ u1).setCell ⟨b,2,none⟩ u2).setCell ⟨b,3,none⟩ u3) base m :=
 AOwn.setO (AOwn.setO (AOwn.setO (AOwn.setO h (a := ⟨b,0,none⟩) hb u0) (a := ⟨b,1,none⟩) hb u1) (a := ⟨b,2,none⟩) hb u2) (a := ⟨b,3,none⟩) hb u3
theorem marm_form {w : World} {base : Nat} (m : MArm) (h : AOk w base m) : ∃ k o d a1 c1 a2 c2 ns a3 c3 cs a4 c4 ks,m = ⟨⟨k,o,d,.slice a1 d.length c1,.slice a2 ns.length c2,ns⟩,.slice a3 cs.length c3,cs,.slice a4 ks.length c4,ks⟩ := by
 obtain ⟨⟨k,o,d,av,nv,ns⟩,cv,cs,kv,ks⟩ := m
 obtain ⟨h1,⟨h2,_⟩,h4,_⟩ := (AOk_iff _ _ _).1 h
 obtain ⟨h5,h6,_⟩ := (MOk_iff _ _ _).1 h1
 simp only at h2 h4 h5 h6
 obtain ⟨a1,c1,rfl⟩ := slice_of_owns h5
 obtain ⟨a2,c2,rfl⟩ := slice_of_owns h6
 obtain ⟨a3,c3,rfl⟩ := slice_of_owns h2
 obtain ⟨a4,c4,rfl⟩ := slice_of_owns h4
 exact ⟨k,o,d,a1,c1,a2,c2,ns,a3,c3,cs,a4,c4,ks,rfl⟩
theorem kid_cells {w : World} {base : Nat} {a : Option Addr} {c : Nat} {m : MArm} (h : w.ownsRow base 36 6 (.slice a 1 c) 1 (aCells [m])) : ∃ g,a = some ⟨g,0,none⟩ ∧ g < w.heap.size ∧ w.cell? ⟨g,0,none⟩ = some (.int .i64 m.net.kind) ∧ w.cell? ⟨g,1,none⟩ = some (.int .i64 m.net.op) ∧ w.cell? ⟨g,2,none⟩ = some m.net.av ∧ w.cell? ⟨g,3,none⟩ = some m.net.kv ∧ w.cell? ⟨g,4,none⟩ = some m.cv ∧ w.cell? ⟨g,5,none⟩ = some m.kv := by
 obtain ⟨g,cap,hv,_,hlt,_,hcell⟩ := ownsRow_cells h (by omega)
 simp only [Value.slice.injEq] at hv
 obtain ⟨q1,q2,q3,q4,q5,q6⟩ := aCells_get [m] 0 (by simp)
 exact ⟨g,hv.1,hlt,by simpa using hcell _ _ q1,by simpa using hcell _ _ q2,by simpa using hcell _ _ q3,by simpa using hcell _ _ q4,by simpa using hcell _ _ q5,by simpa using hcell _ _ q6⟩
/-- Where the program stands with an arm m in its variable B. -/
def NSt (w wc : World) (B : Nat) (m : MArm) : Prop := w.heap.size + 2 <= B ∧ BoxA wc B m ∧ AOwn wc (w.heap.size + 2) m ∧ (∀ x ∈ m.vals,x.ownBlock ≠ some B) ∧ B6 wc (w.heap.size + 1) (.int .i64 0) (.int .i64 0) (.slice none 0 0) (.slice none 0 0) (.slice none 0 0) (.slice none 0 0) ∧ Below w.heap.size w wc
set_option maxHeartbeats 4000000 in
set_option maxRecDepth 100000 in
theorem i_normArm (a : Stil.Arm) : Stil.armFits a -> Stil.armSize a <= 900000 -> ∀ (av nv cv kv : Value) (w : World),DevsAt w av a.net.one.args -> NetsAt w nv a.net.kids -> ElemsAt w cv a.coils -> ArmsAt w kv a.kids -> Calls Tryz.prog 51 #[.agg #[.int .i64 a.net.kind,.int .i64 a.net.one.op,av,nv,cv,kv]] w fun e w' => ArmRet w' w.heap.size (Stil.normArm a) e ∧ Below w.heap.size w w' := by
 induction a using Stil.arm_ind with
 | h n cs kids ih =>
  intro hft hsz av nv cv kv w hav hnv hcv hkv
  obtain ⟨hnf,hcl,hcf,hkl,hkf⟩ := (Stil.armFits_eq _ _ _).1 hft
  simp only at hav hnv hcv hkv
  have hks : ∀ x ∈ kids,Stil.armSize x <= 900000 := by
   intro x hx
   have : Stil.armSize x <= Stil.ksize kids := Stil.mem_le_sum Stil.armSize kids x hx
   rw [Stil.armSize_nsz] at hsz
   omega
  have hkn : kids.length <= 999999 := by
   have h1 : kids.length <= Stil.ksize kids := by
    clear ih hft hsz hkv hkl hkf hks
    unfold Stil.ksize
    induction kids with
    | nil => simp
    | cons x r ihr =>
     have := Stil.armSize_pos x
     simp only [List.length_cons,List.map_cons,List.sum_cons]
     omega
   rw [Stil.armSize_nsz] at hsz
   omega
  have hcn : cs.length <= 999999 := by
   rw [Stil.armSize_nsz] at hsz
   omega
  have hns : Stil.netNone n = false -> Stil.netSize n <= 999999 := by
   intro h
   rw [Stil.armSize_nsz] at hsz
   have e : Stil.nsz n = Stil.netSize n := if_neg (by rw [h]; exact Bool.false_ne_true)
   omega
  have H1 : Hid (∀ W,Below w.heap.size w W -> Calls Tryz.prog 89 #[cv,.func (.func 90) #[] #[]] W fun e w' => ∃ (a : Option Addr) (c : Nat) (ms : List MElem),e = .returned (.slice a ms.length c) ∧ ms.map MElem.elem = cs ∧ ERow w' W.heap.size (.slice a ms.length c) ms ∧ Below W.heap.size W w') := fun W h => i_normEachE cs (fun x hx av w hav => i_normElem x.op av x.args w hav (hcf x hx).2.1) cv W (hcv.below h) hcn
  have H2 : Hid (∀ W,Below w.heap.size w W -> Calls Tryz.prog 50 #[kv,.func (.func 51) #[] #[]] W fun e w' => ∃ (a : Option Addr) (c : Nat) (ms : List MArm),e = .returned (.slice a ms.length c) ∧ ms.map MArm.arm = kids.map Stil.normArm ∧ ARow w' W.heap.size (.slice a ms.length c) ms ∧ Below W.heap.size W w') := fun W h => i_normEachA kids (fun x hx => ih x hx (hkf x hx) (hks x hx)) kv W (hkv.below h) hkn
  have H3 : Hid (∀ W,Below w.heap.size w W -> Calls Tryz.prog 77 #[.agg #[.int .i64 n.kind,.int .i64 n.one.op,av,nv]] W fun e w' => e = .returned (.bool (Stil.netNone n)) ∧ Below W.heap.size W w') := fun W h => i_isNone n av nv W (hav.below h) (hnv.below h) hnf
  have H4 : Hid (Stil.netNone n = false -> ∀ W,Below w.heap.size w W -> Calls Tryz.prog 62 #[.agg #[.int .i64 n.kind,.int .i64 n.one.op,av,nv]] W fun e w' => NetRet w' W.heap.size (Stil.normNet n) e ∧ Below W.heap.size W w') := fun hn W h => i_normNet n hnf (hns hn) av nv W (hav.below h) (hnv.below h)
  have HJ : Hid (Stil.normArm ⟨n,cs,kids⟩ = Stil.joined ⟨Stil.netOf n,cs,kids.map Stil.normArm⟩) := Stil.normArm_of n cs kids
  have HM : Hid (Stil.midOk 900000 ⟨Stil.netOf n,cs,kids.map Stil.normArm⟩) := by
   have := Stil.begin_ok hft hsz (fun x hx => Stil.normArm_ok x (hkf x hx) (hks x hx))
   exact ⟨this.1,Nat.le_trans this.2 hsz⟩
  obtain ⟨T,hT⟩ : ∃ T,T = Stil.normArm ⟨n,cs,kids⟩ := ⟨_,rfl⟩
  rw [← hT] at HJ ⊢
  obtain ⟨ks,hks'⟩ : ∃ ks,ks = kids.map Stil.normArm := ⟨_,rfl⟩
  rw [← hks'] at HJ HM H2
  obtain ⟨p0,r0,rfl,hz0⟩ := hav
  obtain ⟨p1,r1,rfl,hz1⟩ := hnv
  obtain ⟨p2,r2,rfl,hz2⟩ := hcv
  obtain ⟨p3,r3,rfl,hz3⟩ := hkv
  clear hz0 hz1 hz2 hz3 ih hft hsz hnf hcl hcf hkl hkf hks hkn hcn hns hT hks'
  go_enter Tryz.func51,Tryz.ntmps51
  go_upto_region 1 with fail
  go_step3
  go_upto_region 1 with fail
  obtain ⟨W,hW⟩ : ∃ W,W = (w.alloc (.cells #[.int .i64 n.kind,.int .i64 n.one.op,.slice p0 n.one.args.length r0,.slice p1 n.kids.length r1,.slice p2 cs.length r2,.slice p3 kids.length r3] 36)).alloc (.cells #[.int .i64 0,.int .i64 0,.slice none 0 0,.slice none 0 0,.slice none 0 0,.slice none 0 0] 36) := ⟨_,rfl⟩
  rw [← hW]
  have hA : B6 W w.heap.size (.int .i64 n.kind) (.int .i64 n.one.op) (.slice p0 n.one.args.length r0) (.slice p1 n.kids.length r1) (.slice p2 cs.length r2) (.slice p3 kids.length r3) := by rw [hW]; exact (B6.new w _ _ _ _ _ _ _).at (below_alloc _ _)
  have hZ : B6 W (w.heap.size + 1) (.int .i64 0) (.int .i64 0) (.slice none 0 0) (.slice none 0 0) (.slice none 0 0) (.slice none 0 0) := by rw [hW]; have := B6.new (w.alloc (.cells #[.int .i64 n.kind,.int .i64 n.one.op,.slice p0 n.one.args.length r0,.slice p1 n.kids.length r1,.slice p2 cs.length r2,.slice p3 kids.length r3] 36)) (.int .i64 0) (.int .i64 0) (.slice none 0 0) (.slice none 0 0) (.slice none 0 0) (.slice none 0 0) 36; simpa using this
  have hsW : W.heap.size = w.heap.size + 2 := by rw [hW]; simp
  have hBW : Below w.heap.size w W := by rw [hW]; exact bl_alloc (below_alloc _ _) _
  clear hW
  have HA : Hid (B6 W w.heap.size (.int .i64 n.kind) (.int .i64 n.one.op) (.slice p0 n.one.args.length r0) (.slice p1 n.kids.length r1) (.slice p2 cs.length r2) (.slice p3 kids.length r3)) := hA
  have HZ : Hid (B6 W (w.heap.size + 1) (.int .i64 0) (.int .i64 0) (.slice none 0 0) (.slice none 0 0) (.slice none 0 0) (.slice none 0 0)) := hZ
  have HSW : Hid (W.heap.size = w.heap.size + 2) := hsW
  have hl0 : w.heap.size < W.heap.size := by omega
  obtain ⟨_,⟨_,_,_,_,p4,p5⟩,_⟩ := hA
  clear hZ hsW
  go_cut [3] (fun s3 wc => ∃ (B : Nat) (m : MArm),s3 = .pointer (some ⟨B,0,none⟩) ∧ NSt w wc B m ∧ m.arm = ⟨Stil.none0,cs,ks⟩ ∧ B6 wc w.heap.size (.int .i64 n.kind) (.int .i64 n.one.op) (.slice p0 n.one.args.length r0) (.slice p1 n.kids.length r1) (.slice p2 cs.length r2) (.slice p3 kids.length r3))
  case first =>
   go_region_held3 (fun W' => (W'.cell? ⟨w.heap.size,4,none⟩ = some (.slice p2 cs.length r2) ∧ W'.cell? ⟨w.heap.size,5,none⟩ = some (.slice p3 kids.length r3))) (first | with_reducible assumption | with_reducible exact ⟨cellDrew.trans p4,cellDrew.trans p5⟩ | with_reducible exact ⟨cellDrew.trans ((cellAllocO hl0).trans p4),cellDrew.trans ((cellAllocO hl0).trans p5)⟩ | with_reducible exact ⟨(cellAllocO hz2).trans hS2.1,(cellAllocO hz2).trans hS2.2⟩ | with_reducible exact ⟨(cellAllocO hz1).trans hS1.1,(cellAllocO hz1).trans hS1.2⟩ | with_reducible exact ⟨set6O hne hS2.1,set6O hne hS2.2⟩ | with_reducible exact ⟨set6O (Nat.ne_of_lt hz2) ((cellAllocO hz2).trans hS2.1),set6O (Nat.ne_of_lt hz2) ((cellAllocO hz2).trans hS2.2)⟩ | skip) (first | (go_at_call 89; refine (H1.out _ (by first | exact hBW.drew | exact (bl_alloc hBW _).drew)).mono ?_; rintro e w1 ⟨ra,rc,ems,rfl,hmn,hmr,hb1⟩; have hC1 : Below W.heap.size W w1 := (by first | exact bl_call (Below.refl _ _).drew hb1 | exact bl_call (bl_alloc (Below.refl _ _) _).drew hb1); have hB1 : Below w.heap.size w w1 := hBW.trans (hC1.mono hBW.size); have hz1 : w.heap.size < w1.heap.size := Nat.lt_of_lt_of_le hl0 hC1.size; have hS1 : (w1.cell? ⟨w.heap.size,4,none⟩ = some (.slice p2 cs.length r2) ∧ w1.cell? ⟨w.heap.size,5,none⟩ = some (.slice p3 kids.length r3)) := ⟨(hC1.cell (p := ⟨w.heap.size,4,none⟩) hl0).trans p4,(hC1.cell (p := ⟨w.heap.size,5,none⟩) hl0).trans p5⟩; have HEN : Hid (ems.map MElem.elem = cs) := hmn; have HER : Hid (ERow w1 _ (.slice ra ems.length rc) ems) := hmr; have HB1 : Hid (Below _ _ w1) := hb1; (try have hBx1 : B6 w1 W.heap.size (.int .i64 0) (.int .i64 0) (.slice none 0 0) (.slice none 0 0) (.slice none 0 0) (.slice none 0 0) := (B6.new W _ _ _ _ _ _ 36).drew.at hb1); clear hmn hmr) | (go_at_call 50; refine (H2.out _ (by first | exact hB1 | exact bl_alloc hB1 _)).mono ?_; rintro e w2 ⟨sa,sc,ams,rfl,hmn,hmr,hb2⟩; have hC2 : Below w1.heap.size w1 w2 := (by first | exact hb2 | exact bl_call (bl_alloc (Below.refl _ _) _) hb2); have hB2 : Below w.heap.size w w2 := hB1.trans (hC2.mono hB1.size); have hz2 : w.heap.size < w2.heap.size := Nat.lt_of_lt_of_le hz1 hC2.size; have hS2 : (w2.cell? ⟨w.heap.size,4,none⟩ = some (.slice p2 cs.length r2) ∧ w2.cell? ⟨w.heap.size,5,none⟩ = some (.slice p3 kids.length r3)) := ⟨(hC2.cell (p := ⟨w.heap.size,4,none⟩) hz1).trans hS1.1,(hC2.cell (p := ⟨w.heap.size,5,none⟩) hz1).trans hS1.2⟩; have HAN : Hid (ams.map MArm.arm = ks) := hmn; have HAR : Hid (ARow w2 _ (.slice sa ams.length sc) ams) := hmr; have HB2 : Hid (Below _ _ w2) := hb2; (first | (have hBx2 : B6 w2 W.heap.size (.int .i64 0) (.int .i64 0) (.slice none 0 0) (.slice none 0 0) (.slice none 0 0) (.slice none 0 0) := hBx1.at hb2; have hne : w.heap.size ≠ W.heap.size := Nat.ne_of_lt hl0; have HBX : Hid (B6 w2 W.heap.size (.int .i64 0) (.int .i64 0) (.slice none 0 0) (.slice none 0 0) (.slice none 0 0) (.slice none 0 0)) := hBx2; obtain ⟨_,⟨t0,t1,t2,t3,t4,t5⟩,tf⟩ := hBx2; have f0 := tf 0 (by omega); have f1 := tf 1 (by omega); have f2 := tf 2 (by omega); have f3 := tf 3 (by omega); have f4 := tf 4 (by omega); have f5 := tf 5 (by omega); clear tf hBx1) | (have hBx2 : B6 w2 w1.heap.size (.int .i64 0) (.int .i64 0) (.slice none 0 0) (.slice none 0 0) (.slice none 0 0) (.slice none 0 0) := (B6.new w1 _ _ _ _ _ _ 36).at hb2; have hne : w.heap.size ≠ w1.heap.size := Nat.ne_of_lt hz1; have HBX : Hid (B6 w2 w1.heap.size (.int .i64 0) (.int .i64 0) (.slice none 0 0) (.slice none 0 0) (.slice none 0 0) (.slice none 0 0)) := hBx2; obtain ⟨_,⟨t0,t1,t2,t3,t4,t5⟩,tf⟩ := hBx2; have f0 := tf 0 (by omega); have f1 := tf 1 (by omega); have f2 := tf 2 (by omega); have f3 := tf 3 (by omega); have f4 := tf 4 (by omega); have f5 := tf 5 (by omega); clear tf) | skip); clear hmn hmr))
   ·go_wp2
    go_meet
    have hs0 := HSW.out
    have hCW : Below W.heap.size W w2 := bl_call hC1 hC2
    obtain ⟨ho,hv⟩ := arm_facts (base := w.heap.size + 2) HER.out HAR.out hC2 (by show _ <= W.heap.size; omega) (Nat.le_refl _) (by have := hC1.size; omega)
    have hsz := hCW.size
    refine ⟨w2.heap.size,⟨nilNet,.slice ra ems.length rc,ems,.slice sa ams.length sc,ams⟩,rfl,⟨by omega,B6.new _ _ _ _ _ _ _ _,ho.below (below_alloc _ _),fun x hx e => by (have h := hv x hx _ e; have := hC2.size; omega),(HZ.out.at hCW).at (below_alloc _ _),bl_alloc hB2 _⟩,?_,(HA.out.at hCW).at (below_alloc _ _)⟩
    rw [MArm.arm_eq]; simp only; rw [HEN.out,HAN.out,nilNet_net]
   ·go_wp2
    go_meet
    have hs0 := HSW.out
    have hCW : Below W.heap.size W w2 := bl_call hC1 hC2
    obtain ⟨ho,hv⟩ := arm_facts (base := w.heap.size + 2) HER.out HAR.out hC2 (by show _ <= W.heap.size; omega) (by simp) (by have := hC1.size; simp; omega)
    have hsz := hCW.size
    have hs1 := hC1.size
    have hno : ∀ x ∈ (MArm.mk nilNet (.slice ra ems.length rc) ems (.slice sa ams.length sc) ams).vals,x.ownBlock ≠ some w1.heap.size := fun x hx e => by (have h := hv x hx _ e; simp at h; omega)
    refine ⟨w1.heap.size,⟨nilNet,.slice ra ems.length rc,ems,.slice sa ams.length sc,ams⟩,rfl,⟨by omega,HBX.out.set6,AOwn.setO6 ho hno,hno,(HZ.out.at hCW).set6O (by omega),by clear hb1 hb2 hC1 hC2; (repeat (first | with_reducible exact Below.refl _ _ | with_reducible assumption | with_reducible refine bl_set (by first | exact Nat.le_refl _ | (simp; done) | (simp; omega) | omega) ?_ _ | with_reducible refine bl_alloc ?_ _ | with_reducible refine bl_drewN ?_ _ | with_reducible refine bl_drew ?_ | with_reducible refine bl_grow ?_ _ _ | with_reducible refine bl_call ?_ (by assumption)))⟩,?_,(HA.out.at hCW).set6O (by omega)⟩
    rw [MArm.arm_eq]; simp only; rw [HEN.out,HAN.out,nilNet_net]
   ·go_wp2
    go_meet
    have hs0 := HSW.out
    have hCW : Below W.heap.size W w2 := bl_call hC1 hC2
    obtain ⟨ho,hv⟩ := arm_facts (base := w.heap.size + 2) HER.out HAR.out hC2 (by show _ <= (W.alloc _).heap.size; simp; omega) (Nat.le_refl _) (by have := hC1.size; omega)
    have hsz := hCW.size
    have hs1 : W.heap.size < w1.heap.size := Nat.lt_of_lt_of_le (by show W.heap.size < (W.alloc _).heap.size; simp) HB1.out.size
    have hno : ∀ x ∈ (MArm.mk nilNet (.slice ra ems.length rc) ems (.slice sa ams.length sc) ams).vals,x.ownBlock ≠ some W.heap.size := fun x hx e => by (have h := hv x hx _ e; have h2 : W.heap.size < (W.alloc (.cells #[.int .i64 0,.int .i64 0,.slice none 0 0,.slice none 0 0,.slice none 0 0,.slice none 0 0] 36)).drew.heap.size := (by show W.heap.size < (W.alloc _).heap.size; simp); omega)
    refine ⟨W.heap.size,⟨nilNet,.slice ra ems.length rc,ems,.slice sa ams.length sc,ams⟩,rfl,⟨by omega,HBX.out.set6,AOwn.setO6 ho hno,hno,(HZ.out.at hCW).set6O (by omega),by clear hb1 hb2 hC1 hC2; (repeat (first | with_reducible exact Below.refl _ _ | with_reducible assumption | with_reducible refine bl_set (by first | exact Nat.le_refl _ | (simp; done) | (simp; omega) | omega) ?_ _ | with_reducible refine bl_alloc ?_ _ | with_reducible refine bl_drewN ?_ _ | with_reducible refine bl_drew ?_ | with_reducible refine bl_grow ?_ _ _ | with_reducible refine bl_call ?_ (by assumption)))⟩,?_,(HA.out.at hCW).set6O (by omega)⟩
    rw [MArm.arm_eq]; simp only; rw [HEN.out,HAN.out,nilNet_net]
  case rest =>
   clear p4 p5 hBW hl0 HSW HA HZ
   obtain ⟨B,m,rfl,hst,hma,hA⟩ := hcut
   have HST : Hid (NSt w wc B m) := hst
   have HMA : Hid (m.arm = ⟨Stil.none0,cs,ks⟩) := hma
   have HA : Hid (B6 wc w.heap.size (.int .i64 n.kind) (.int .i64 n.one.op) (.slice p0 n.one.args.length r0) (.slice p1 n.kids.length r1) (.slice p2 cs.length r2) (.slice p3 kids.length r3)) := hA
   clear hst hma H1 H2
   obtain ⟨hA0,⟨p0',p1',p2',p3',p4',p5'⟩,hAf⟩ := hA
   clear hAf
   obtain ⟨hB2,hbx,hao,hno,hzb,hbw⟩ := HST.out
   obtain ⟨t,ht⟩ : ∃ t,t = Stil.netNone n := ⟨_,rfl⟩
   have HT : Hid (t = Stil.netNone n) := ht
   have HN1 : Hid (∀ W,Below wc.heap.size wc W -> Calls Tryz.prog 77 #[.agg #[.int .i64 n.kind,.int .i64 n.one.op,.slice p0 n.one.args.length r0,.slice p1 n.kids.length r1]] W fun e w' => e = .returned (.bool t) ∧ Below W.heap.size W w') := by rw [ht]; exact fun W h => H3.out W (hbw.trans (h.mono hbw.size))
   have HN2 : Hid (t = false -> ∀ W,Below wc.heap.size wc W -> Calls Tryz.prog 62 #[.agg #[.int .i64 n.kind,.int .i64 n.one.op,.slice p0 n.one.args.length r0,.slice p1 n.kids.length r1]] W fun e w' => NetRet w' W.heap.size (Stil.normNet n) e ∧ Below W.heap.size W w') := by rw [ht]; exact fun hn W h => H4.out hn W (hbw.trans (h.mono hbw.size))
   clear ht H3 H4 hB2 hbx hao hno hzb hbw
   go_upto_if 14 with (go_at_call 77; refine (HN1.out _ blA).mono ?_; rintro e w3 ⟨rfl,hb3⟩; obtain ⟨hc3,hf3⟩ := bcell hb3; have hza3 : w.heap.size < w3.heap.size := Nat.lt_of_lt_of_le hA0 hb3.size; have q0 : w3.cell? ⟨w.heap.size,0,none⟩ = _ := (hc3 _ _ hA0).trans p0'; have q1 : w3.cell? ⟨w.heap.size,1,none⟩ = _ := (hc3 _ _ hA0).trans p1'; have q2 : w3.cell? ⟨w.heap.size,2,none⟩ = _ := (hc3 _ _ hA0).trans p2'; have q3 : w3.cell? ⟨w.heap.size,3,none⟩ = _ := (hc3 _ _ hA0).trans p3'; clear hc3 hf3)
   clear HN1
   have HST3 : Hid (NSt w w3 B m) := by
    obtain ⟨hB2,hbx,hao,hno,hzb,hbw⟩ := HST.out
    exact ⟨hB2,hbx.at hb3,hao.below hb3,hno,hzb.at hb3,bl_call hbw hb3⟩
   have HN3 : Hid (t = false -> Calls Tryz.prog 62 #[.agg #[.int .i64 n.kind,.int .i64 n.one.op,.slice p0 n.one.args.length r0,.slice p1 n.kids.length r1]] w3 fun e w' => NetRet w' w3.heap.size (Stil.normNet n) e ∧ Below w3.heap.size w3 w') := fun h => HN2.out h w3 hb3
   clear HST HA hA0 p0' p1' p2' p3' p4' p5' hb3 HN2
   go_cut [] (fun wd => ∃ m : MArm,NSt w wd B m ∧ m.arm = ⟨Stil.netOf n,cs,ks⟩)
   case first =>
    cases t with
    | true =>
     have HNO : Hid (Stil.netOf n = n ∧ n = Stil.none0) := ⟨if_pos HT.out.symm,Stil.none_eq HT.out.symm⟩
     clear HN3
     go_wp2
     go_meet
     exact ⟨m,HST3.out,by rw [HMA.out,HNO.out.1,HNO.out.2]⟩
    | false =>
     have HNO : Hid (Stil.netOf n = Stil.normNet n) := if_neg (by rw [← HT.out]; exact Bool.false_ne_true)
     have HN4 : Hid (Calls Tryz.prog 62 #[.agg #[.int .i64 n.kind,.int .i64 n.one.op,.slice p0 n.one.args.length r0,.slice p1 n.kids.length r1]] w3 fun e w' => NetRet w' w3.heap.size (Stil.normNet n) e ∧ Below w3.heap.size w3 w') := HN3.out rfl
     clear HN3
     go_wp2_with (go_at_call 62; refine HN4.out.mono ?_; rintro e w4 ⟨⟨mk,mop,mds,s0,t0,s1,t1,mks,rfl,hmo,hmn⟩,hb4⟩; have HMO : Hid (MOwn w4 w3.heap.size ⟨mk,mop,mds,.slice s0 mds.length t0,.slice s1 mks.length t1,mks⟩) := hmo; have HMN : Hid ((MNet.mk mk mop mds (.slice s0 mds.length t0) (.slice s1 mks.length t1) mks).net = Stil.normNet n) := hmn; clear hmo hmn; have HBX4 : Hid (BoxA w4 B m) := B6.at HST3.out.2.1 hb4; obtain ⟨hB0,⟨y0,y1,y2,y3,_,_⟩,hBf⟩ := HBX4.out; have f0 := hBf 0 (by omega); have f1 := hBf 1 (by omega); have f2 := hBf 2 (by omega); have f3 := hBf 3 (by omega); clear hBf)
     go_meet
     obtain ⟨hB2,hbx,hao,hno,hzb,hbw⟩ := HST3.out
     have hle4 := hb4.size
     have hsz := hbw.size
     have hBl : B < w3.heap.size := hbx.1
     have hN : MOwn w4 (w.heap.size + 2) ⟨mk,mop,mds,.slice s0 mds.length t0,.slice s1 mks.length t1,mks⟩ := HMO.out.le (by omega)
     have ho4 := AOwn.setNet (hao.below hb4) hN (fun x hx q hq => (HMO.out.1.lt _ x hx q hq).1) (fun x hx q hq => (hao.1.lt _ x hx q hq).2)
     have hno4 : ∀ x ∈ (MArm.mk ⟨mk,mop,mds,.slice s0 mds.length t0,.slice s1 mks.length t1,mks⟩ m.cv m.coils m.kv m.kids).vals,x.ownBlock ≠ some B := by
      intro x hx e
      rw [MArm.vals_eq] at hx
      rcases List.mem_append.1 hx with hx | hx
      ·have := (HMO.out.1.lt _ x hx _ e).1; omega
      ·exact hno x (by rw [MArm.vals_eq]; exact List.mem_append_right _ hx) e
     refine ⟨⟨⟨mk,mop,mds,.slice s0 mds.length t0,.slice s1 mks.length t1,mks⟩,m.cv,m.coils,m.kv,m.kids⟩,⟨hB2,B6.setN HBX4.out,AOwn.setN ho4 hno4,hno4,B6.set4O (hzb.at hb4) (by omega),?_⟩,?_⟩
     ·have hbw4 : Below w.heap.size w w4 := bl_call hbw hb4
      have hle : w.heap.size <= B := by omega
      exact bl_set hle (bl_set hle (bl_set hle (bl_set hle hbw4 _) _) _) _
     ·have e := HMA.out
      rw [MArm.arm_eq] at e ⊢
      simp only [Stil.Arm.mk.injEq] at e ⊢
      exact ⟨by rw [HMN.out,HNO.out],e.2.1,e.2.2⟩
   case rest =>
    rename_i wd
    obtain ⟨m2,hst,hma⟩ := hcut
    clear HMA HST3 HN3 q0 q1 q2 q3
    have HST : Hid (NSt w wc B m2) := hst
    have HMA : Hid (m2.arm = ⟨Stil.netOf n,cs,ks⟩) := hma
    clear hst hma
    go_wp2
    go_step3
    go_wp2
    go_loopg [] (Stil.ksize m2.arm.kids) (fun k wr => ∃ m : MArm,NSt w wr B m ∧ Stil.joined m.arm = T ∧ Stil.midOk 900000 m.arm ∧ Stil.ksize m.arm.kids <= k)
    case atStart =>
     exact ⟨m2,HST.out,by rw [HMA.out,HJ.out],by rw [HMA.out]; exact HM.out,Nat.le_refl _⟩
    case round =>
     clear HST HMA HJ HM HT
     obtain ⟨m3,hst,hjo,hmid,hgk⟩ := hrel
     obtain ⟨hB2,hbx,hao,hno,hzb,hbw⟩ := hst
     obtain ⟨k1,o1,d1,a1,c1,b1,e1,n1,f1,g1,s1,h1,j1,ks1,rfl⟩ := marm_form m3 hao.1
     have hbx' : B6 wr B (.int .i64 k1) (.int .i64 o1) (.slice a1 d1.length c1) (.slice b1 n1.length e1) (.slice f1 s1.length g1) (.slice h1 ks1.length j1) := hbx
     have HBX : Hid (B6 wr B (.int .i64 k1) (.int .i64 o1) (.slice a1 d1.length c1) (.slice b1 n1.length e1) (.slice f1 s1.length g1) (.slice h1 ks1.length j1)) := hbx'
     have HAO : Hid (AOwn wr (w.heap.size + 2) ⟨⟨k1,o1,d1,.slice a1 d1.length c1,.slice b1 n1.length e1,n1⟩,.slice f1 s1.length g1,s1,.slice h1 ks1.length j1,ks1⟩) := hao
     have HNO : Hid (∀ x ∈ (MArm.mk ⟨k1,o1,d1,.slice a1 d1.length c1,.slice b1 n1.length e1,n1⟩ (.slice f1 s1.length g1) s1 (.slice h1 ks1.length j1) ks1).vals,x.ownBlock ≠ some B) := hno
     have HZB : Hid (B6 wr (w.heap.size + 1) (.int .i64 0) (.int .i64 0) (.slice none 0 0) (.slice none 0 0) (.slice none 0 0) (.slice none 0 0)) := hzb
     have HBW : Hid (Below w.heap.size w wr) := hbw
     have HJO : Hid (Stil.joined (MArm.mk ⟨k1,o1,d1,.slice a1 d1.length c1,.slice b1 n1.length e1,n1⟩ (.slice f1 s1.length g1) s1 (.slice h1 ks1.length j1) ks1).arm = T) := hjo
     have HMI : Hid (Stil.midOk 900000 (MArm.mk ⟨k1,o1,d1,.slice a1 d1.length c1,.slice b1 n1.length e1,n1⟩ (.slice f1 s1.length g1) s1 (.slice h1 ks1.length j1) ks1).arm) := hmid
     have HGK : Hid (Stil.ksize (MArm.mk ⟨k1,o1,d1,.slice a1 d1.length c1,.slice b1 n1.length e1,n1⟩ (.slice f1 s1.length g1) s1 (.slice h1 ks1.length j1) ks1).arm.kids <= gk) := hgk
     have HB2 : Hid (w.heap.size + 2 <= B) := hB2
     have hkl : ks1.length <= 900000 ∧ s1.length <= 900000 := by
      have h0 := hmid.2
      rw [MArm.arm_eq,Stil.armSize_nsz] at h0
      simp only [List.length_map] at h0
      have h1 : (ks1.map MArm.arm).length <= Stil.ksize (ks1.map MArm.arm) := Stil.len_ksize _
      rw [List.length_map] at h1
      omega
     obtain ⟨hkl1,hkl2⟩ := hkl
     obtain ⟨hBs,⟨x0,x1,x2,x3,x4,x5⟩,hBf⟩ := hbx'
     obtain ⟨hZs,⟨z0,z1,z2,z3,z4,z5⟩,hZf⟩ := hzb
     have y0 := hZf 0 (by omega)
     have y1 := hZf 1 (by omega)
     have y2 := hZf 2 (by omega)
     have y3 := hZf 3 (by omega)
     have y4 := hZf 4 (by omega)
     have y5 := hZf 5 (by omega)
     have hBne : w.heap.size + 1 ≠ B := by omega
     clear hbx hao hno hbw hjo hmid hgk hB2 hZf hza3
     by_cases hk : ks1.length = 1
     ·obtain ⟨kid,rfl⟩ := List.length_eq_one_iff.1 hk
      obtain ⟨_,_,hkr,hka⟩ := (AOk_iff _ _ _).1 HAO.out.1
      simp only at hkr hka
      obtain ⟨k2,o2,d2,a2,c2,b2,e2,n2,f2,g2,s2,h2,j2,ks2,rfl⟩ := marm_form kid (hka kid (by simp))
      obtain ⟨g,rfl,hgs,q0,q1,q2,q3,q4,q5⟩ := kid_cells hkr
      simp only [List.length_singleton] at *
      have hkm := (AOk_iff _ _ _).1 (hka (MArm.mk ⟨k2,o2,d2,.slice a2 d2.length c2,.slice b2 n2.length e2,n2⟩ (.slice f2 s2.length g2) s2 (.slice h2 ks2.length j2) ks2) (by simp))
      obtain ⟨hf3,hf4⟩ := MOk.from _ hkm.1
      have HE : Hid ((MArm.mk ⟨k1,o1,d1,.slice a1 d1.length c1,.slice b1 n1.length e1,n1⟩ (.slice f1 s1.length g1) s1 (.slice (some ⟨g,0,none⟩) 1 j1) [(MArm.mk ⟨k2,o2,d2,.slice a2 d2.length c2,.slice b2 n2.length e2,n2⟩ (.slice f2 s2.length g2) s2 (.slice h2 ks2.length j2) ks2)]).arm = ⟨(MNet.mk k1 o1 d1 (.slice a1 d1.length c1) (.slice b1 n1.length e1) n1).net,s1.map MElem.elem,[⟨(MNet.mk k2 o2 d2 (.slice a2 d2.length c2) (.slice b2 n2.length e2) n2).net,s2.map MElem.elem,ks2.map MArm.arm⟩]⟩) := by
       show _ = _
       rw [MArm.arm_eq]
       simp only [List.map_cons,List.map_nil]
       rw [MArm.arm_eq (MArm.mk ⟨k2,o2,d2,.slice a2 d2.length c2,.slice b2 n2.length e2,n2⟩ (.slice f2 s2.length g2) s2 (.slice h2 ks2.length j2) ks2)]
      have hmi := HMI.out
      rw [HE.out] at hmi
      have hok := Stil.join_ok hmi (Nat.le_refl _)
      simp only at hok
      obtain ⟨hM2,hS2,hF1,hF2,hL2,hK2⟩ := hok
      simp only [List.length_map] at hL2
      have HN5 : Hid (∀ W,Below wr.heap.size wr W -> Calls Tryz.prog 77 #[.agg #[.int .i64 k2,.int .i64 o2,.slice a2 d2.length c2,.slice b2 n2.length e2]] W fun e w' => e = .returned (.bool (Stil.netNone (MNet.mk k2 o2 d2 (.slice a2 d2.length c2) (.slice b2 n2.length e2) n2).net)) ∧ Below W.heap.size W w') := by
       intro W h
       have := i_isNone (MNet.mk k2 o2 d2 (.slice a2 d2.length c2) (.slice b2 n2.length e2) n2).net _ _ W (hf3.at.below h) (hf4.at.below h) hF2
       have e := MNet.net_eq (MNet.mk k2 o2 d2 (.slice a2 d2.length c2) (.slice b2 n2.length e2) n2)
       have ee1 : (MNet.mk k2 o2 d2 (.slice a2 d2.length c2) (.slice b2 n2.length e2) n2).net.kind = k2 := by rw [e]
       have ee2 : (MNet.mk k2 o2 d2 (.slice a2 d2.length c2) (.slice b2 n2.length e2) n2).net.one.op = o2 := by rw [e]
       rw [ee1,ee2] at this
       exact this
      have HJ0 : Hid (∀ W,Below wr.heap.size wr W -> Calls Tryz.prog 91 #[.agg #[.int .i64 k1,.int .i64 o1,.slice a1 d1.length c1,.slice b1 n1.length e1,.slice f1 s1.length g1,.slice (some ⟨g,0,none⟩) 1 j1],.agg #[.int .i64 k2,.int .i64 o2,.slice a2 d2.length c2,.slice b2 n2.length e2,.slice f2 s2.length g2,.slice h2 ks2.length j2]] W fun e w' => ArmRetV w' (w.heap.size + 2) (MArm.mk ⟨k1,o1,d1,.slice a1 d1.length c1,.slice b1 n1.length e1,n1⟩ (.slice f1 s1.length g1) s1 (.slice (some ⟨g,0,none⟩) 1 j1) [(MArm.mk ⟨k2,o2,d2,.slice a2 d2.length c2,.slice b2 n2.length e2,n2⟩ (.slice f2 s2.length g2) s2 (.slice h2 ks2.length j2) ks2)]).vals W.heap.size ⟨Stil.series (MNet.mk k1 o1 d1 (.slice a1 d1.length c1) (.slice b1 n1.length e1) n1).net (MNet.mk k2 o2 d2 (.slice a2 d2.length c2) (.slice b2 n2.length e2) n2).net,(s1 ++ s2).map MElem.elem,ks2.map MArm.arm⟩ e ∧ W.grownBy w' (Value.slice f1 s1.length g1).ownBlock) := fun W h => i_normJoin k1 o1 d1 a1 c1 b1 e1 n1 f1 g1 s1 (some ⟨g,0,none⟩) j1 k2 o2 d2 a2 c2 b2 e2 n2 f2 g2 s2 h2 j2 ks2 (w.heap.size + 2) W (HAO.out.below h) (Nat.le_trans (by have := HB2.out; omega) h.size) hS2 hF1 hF2 hL2
      have hvm : Value.slice f1 s1.length g1 ∈ (MArm.mk ⟨k1,o1,d1,.slice a1 d1.length c1,.slice b1 n1.length e1,n1⟩ (.slice f1 s1.length g1) s1 (.slice (some ⟨g,0,none⟩) 1 j1) [(MArm.mk ⟨k2,o2,d2,.slice a2 d2.length c2,.slice b2 n2.length e2,n2⟩ (.slice f2 s2.length g2) s2 (.slice h2 ks2.length j2) ks2)]).vals := by rw [MArm.vals_eq]; simp
      have HCB : Hid ((Value.slice f1 s1.length g1).ownBlock ≠ some B) := HNO.out _ hvm
      have HCW : Hid (∀ q,(Value.slice f1 s1.length g1).ownBlock = some q -> w.heap.size <= q) := fun q hq => by have := (HAO.out.1.lt _ _ hvm q hq).1; omega
      have HCZ : Hid ((Value.slice f1 s1.length g1).ownBlock ≠ some (w.heap.size + 1)) := fun e => by have := (HAO.out.1.lt _ _ hvm _ e).1; omega
      have HKM : Hid (Stil.ksize (ks2.map MArm.arm) < gk) := by
       have h1 := HGK.out
       rw [HE.out] at h1
       exact Nat.lt_of_lt_of_le hK2 h1
      have hjo2 := HJO.out
      rw [HE.out] at hjo2
      obtain ⟨X1,hX1⟩ : ∃ X,X = (MNet.mk k1 o1 d1 (.slice a1 d1.length c1) (.slice b1 n1.length e1) n1).net := ⟨_,rfl⟩
      obtain ⟨X2,hX2⟩ : ∃ X,X = (MNet.mk k2 o2 d2 (.slice a2 d2.length c2) (.slice b2 n2.length e2) n2).net := ⟨_,rfl⟩
      obtain ⟨t2,ht2⟩ : ∃ t,t = Stil.netNone (MNet.mk k2 o2 d2 (.slice a2 d2.length c2) (.slice b2 n2.length e2) n2).net := ⟨_,rfl⟩
      obtain ⟨OV,hOV⟩ : ∃ OV,OV = (MArm.mk ⟨k1,o1,d1,.slice a1 d1.length c1,.slice b1 n1.length e1,n1⟩ (.slice f1 s1.length g1) s1 (.slice (some ⟨g,0,none⟩) 1 j1) [(MArm.mk ⟨k2,o2,d2,.slice a2 d2.length c2,.slice b2 n2.length e2,n2⟩ (.slice f2 s2.length g2) s2 (.slice h2 ks2.length j2) ks2)]).vals := ⟨_,rfl⟩
      obtain ⟨ln,hln⟩ : ∃ ln,ln = s1.length := ⟨_,rfl⟩
      have HLN : Hid (ln = s1.length) := hln
      have HT2 : Hid (t2 = Stil.netNone (MNet.mk k2 o2 d2 (.slice a2 d2.length c2) (.slice b2 n2.length e2) n2).net) := ht2
      rw [← ht2] at HN5
      have HJ1 : Hid (s1.map MElem.elem = [] ∨ t2 = true -> Stil.joined ⟨Stil.series X1 X2,s1.map MElem.elem ++ s2.map MElem.elem,ks2.map MArm.arm⟩ = T) := by
       intro h
       rw [hX1,hX2,← hjo2]
       exact (Stil.joined_step _ _ ⟨(MNet.mk k2 o2 d2 (.slice a2 d2.length c2) (.slice b2 n2.length e2) n2).net,s2.map MElem.elem,ks2.map MArm.arm⟩ (by rw [← ht2]; exact h)).symm
      have HM2 : Hid (Stil.midOk 900000 ⟨Stil.series X1 X2,s1.map MElem.elem ++ s2.map MElem.elem,ks2.map MArm.arm⟩) := by rw [hX1,hX2]; exact hM2
      have HNO2 : Hid (∀ x ∈ OV,x.ownBlock ≠ some B) := by rw [hOV]; exact HNO.out
      rw [← hX1,← hX2,← hOV,← hln] at HJ0
      rw [← hln] at x4 HBX hkl2 HCB HCW HCZ
      have HAO5 : Hid (∀ W,Below wr.heap.size wr W -> AOwn W (w.heap.size + 2) (MArm.mk ⟨k1,o1,d1,.slice a1 d1.length c1,.slice b1 n1.length e1,n1⟩ (.slice f1 s1.length g1) s1 (.slice (some ⟨g,0,none⟩) 1 j1) [(MArm.mk ⟨k2,o2,d2,.slice a2 d2.length c2,.slice b2 n2.length e2,n2⟩ (.slice f2 s2.length g2) s2 (.slice h2 ks2.length j2) ks2)])) := fun W h => HAO.out.below h
      clear hk hkr hka hkm hf3 hf4 hmi hM2 hS2 hF1 hF2 hL2 hK2 hjo2 hX1 hX2 ht2 hOV hln hvm HAO HNO hkl1
      by_cases hc : 0 < ln
      ·cases t2 with
       | false =>
        clear HJ0 HJ1 hBf
        go_wp2_with (go_at_call 77; refine (HN5.out _ blA).mono ?_; rintro e w4 ⟨rfl,hb4⟩; obtain ⟨hc4,hf4⟩ := bcell hb4; have hBs4 : B < w4.heap.size := Nat.lt_of_lt_of_le hBs hb4.size; have hZs4 : w.heap.size + 1 < w4.heap.size := Nat.lt_of_lt_of_le hZs hb4.size; have cx0 : w4.cell? ⟨B,0,none⟩ = _ := (hc4 _ _ hBs).trans x0; have cx1 : w4.cell? ⟨B,1,none⟩ = _ := (hc4 _ _ hBs).trans x1; have cx2 : w4.cell? ⟨B,2,none⟩ = _ := (hc4 _ _ hBs).trans x2; have cx3 : w4.cell? ⟨B,3,none⟩ = _ := (hc4 _ _ hBs).trans x3; have cx4 : w4.cell? ⟨B,4,none⟩ = _ := (hc4 _ _ hBs).trans x4; have cx5 : w4.cell? ⟨B,5,none⟩ = _ := (hc4 _ _ hBs).trans x5; have v0 : w4.cell? ⟨w.heap.size + 1,0,none⟩ = _ := (hc4 _ _ hZs).trans z0; have v1 : w4.cell? ⟨w.heap.size + 1,1,none⟩ = _ := (hc4 _ _ hZs).trans z1; have v2 : w4.cell? ⟨w.heap.size + 1,2,none⟩ = _ := (hc4 _ _ hZs).trans z2; have v3 : w4.cell? ⟨w.heap.size + 1,3,none⟩ = _ := (hc4 _ _ hZs).trans z3; have v4 : w4.cell? ⟨w.heap.size + 1,4,none⟩ = _ := (hc4 _ _ hZs).trans z4; have v5 : w4.cell? ⟨w.heap.size + 1,5,none⟩ = _ := (hc4 _ _ hZs).trans z5; have vf0 : w4.frozen? ⟨w.heap.size + 1,0,none⟩ = _ := (hf4 _ _ hZs).trans y0; have vf1 : w4.frozen? ⟨w.heap.size + 1,1,none⟩ = _ := (hf4 _ _ hZs).trans y1; have vf2 : w4.frozen? ⟨w.heap.size + 1,2,none⟩ = _ := (hf4 _ _ hZs).trans y2; have vf3 : w4.frozen? ⟨w.heap.size + 1,3,none⟩ = _ := (hf4 _ _ hZs).trans y3; have vf4 : w4.frozen? ⟨w.heap.size + 1,4,none⟩ = _ := (hf4 _ _ hZs).trans y4; have vf5 : w4.frozen? ⟨w.heap.size + 1,5,none⟩ = _ := (hf4 _ _ hZs).trans y5; clear hc4 hf4)
        have HBW5 : Hid (Below w.heap.size w w4) := bl_call HBW.out hb4
        have HAO5' := HAO5.out w4 hb4
        rw [Exit.noGoto_ret]
        refine bodyPost_ret (v := .agg #[.int .i64 k1,.int .i64 o1,.slice a1 d1.length c1,.slice b1 n1.length e1,.slice f1 ln g1,.slice (some ⟨g,0,none⟩) 1 j1]) (by simp [results,Tryz.results51,go_sem,v0,v1,v2,v3,v4,v5]) rfl ⟨⟨k1,o1,d1,a1,c1,n1,b1,e1,s1,f1,g1,[(MArm.mk ⟨k2,o2,d2,.slice a2 d2.length c2,.slice b2 n2.length e2,n2⟩ (.slice f2 s2.length g2) s2 (.slice h2 ks2.length j2) ks2)],(some ⟨g,0,none⟩),j1,by rw [← HLN.out]; rfl,?_,?_⟩,?_⟩
        ·exact AOwn.le (AOwn.setO6 (base := w.heap.size + 2) HAO5' (fun x hx e => by have := (HAO5'.1.lt _ x hx _ e).1; omega)) (by omega)
        ·rw [← HJO.out]
         refine (Stil.joined_stop _ ?_).symm
         intro kid e h
         have e' := (congrArg Stil.Arm.kids HE.out).symm.trans e
         simp only [List.cons.injEq,and_true] at e'
         rcases h with h | h
         ·have h2 := congrArg List.length ((congrArg Stil.Arm.coils HE.out).symm.trans h)
          simp only [List.length_map,List.length_nil] at h2
          have := HLN.out
          omega
         ·rw [← e'] at h
          simp only at h
          rw [← HT2.out] at h
          cases h
        ·exact bl_set (Nat.le_succ _) (bl_set (Nat.le_succ _) (bl_set (Nat.le_succ _) (bl_set (Nat.le_succ _) (bl_set (Nat.le_succ _) (bl_set (Nat.le_succ _) HBW5.out _) _) _) _) _) _

       | true =>
        have HJ2 : Hid (Stil.joined ⟨Stil.series X1 X2,s1.map MElem.elem ++ s2.map MElem.elem,ks2.map MArm.arm⟩ = T) := HJ1.out (.inr rfl)
        clear HJ1 hBf HAO5 HE HT2 z0 z1 z2 z3 z4 z5 y0 y1 y2 y3 y4 y5
        go_upto_region 6 with (go_at_call 77; refine (HN5.out _ blA).mono ?_; rintro e w4 ⟨rfl,hb4⟩; obtain ⟨hc4,hf4⟩ := bcell hb4; have hBs4 : B < w4.heap.size := Nat.lt_of_lt_of_le hBs hb4.size; have hZs4 : w.heap.size + 1 < w4.heap.size := Nat.lt_of_lt_of_le hZs hb4.size; have cx0 : w4.cell? ⟨B,0,none⟩ = _ := (hc4 _ _ hBs).trans x0; have cx1 : w4.cell? ⟨B,1,none⟩ = _ := (hc4 _ _ hBs).trans x1; have cx2 : w4.cell? ⟨B,2,none⟩ = _ := (hc4 _ _ hBs).trans x2; have cx3 : w4.cell? ⟨B,3,none⟩ = _ := (hc4 _ _ hBs).trans x3; have cx4 : w4.cell? ⟨B,4,none⟩ = _ := (hc4 _ _ hBs).trans x4; have cx5 : w4.cell? ⟨B,5,none⟩ = _ := (hc4 _ _ hBs).trans x5; have Q0 : w4.cell? ⟨g,0,none⟩ = _ := (hc4 _ _ hgs).trans q0; have Q1 : w4.cell? ⟨g,1,none⟩ = _ := (hc4 _ _ hgs).trans q1; have Q2 : w4.cell? ⟨g,2,none⟩ = _ := (hc4 _ _ hgs).trans q2; have Q3 : w4.cell? ⟨g,3,none⟩ = _ := (hc4 _ _ hgs).trans q3; have Q4 : w4.cell? ⟨g,4,none⟩ = _ := (hc4 _ _ hgs).trans q4; have Q5 : w4.cell? ⟨g,5,none⟩ = _ := (hc4 _ _ hgs).trans q5; have hgs4 : g < w4.heap.size := Nat.lt_of_lt_of_le hgs hb4.size; clear hc4 hf4)
        have HBXV : Hid (B6 w4 B (.int .i64 k1) (.int .i64 o1) (.slice a1 d1.length c1) (.slice b1 n1.length e1) (.slice f1 ln g1) (.slice (some ⟨g,0,none⟩) 1 j1)) := HBX.out.at hb4
        have HZBV : Hid (B6 w4 (w.heap.size + 1) (.int .i64 0) (.int .i64 0) (.slice none 0 0) (.slice none 0 0) (.slice none 0 0) (.slice none 0 0)) := HZB.out.at hb4
        have HBWV : Hid (Below w.heap.size w w4) := bl_call HBW.out hb4
        have HJN : Hid (∀ W,Below w4.heap.size w4 W -> Calls Tryz.prog 91 #[.agg #[.int .i64 k1,.int .i64 o1,.slice a1 d1.length c1,.slice b1 n1.length e1,.slice f1 ln g1,.slice (some ⟨g,0,none⟩) 1 j1],.agg #[.int .i64 k2,.int .i64 o2,.slice a2 d2.length c2,.slice b2 n2.length e2,.slice f2 s2.length g2,.slice h2 ks2.length j2]] W fun e w' => ArmRetV w' (w.heap.size + 2) OV W.heap.size ⟨Stil.series X1 X2,(s1 ++ s2).map MElem.elem,ks2.map MArm.arm⟩ e ∧ W.grownBy w' (Value.slice f1 ln g1).ownBlock) := fun W h => HJ0.out W (bl_call hb4 h)
        clear HJ0 x0 x1 x2 x3 x4 x5 q0 q1 q2 q3 q4 q5 hb4 HN5
        go_region_with (first | (go_at_call 91; refine (HJN.out _ (by exact (Below.refl _ _).drew)).mono ?_; rintro e w5 ⟨⟨mk,mop,mds,xa,ya,mns,xb,yb,mcs,xc,yc,mks,xd,yd,rfl,hmo,hmn,hvs⟩,hg5⟩; have HMO : Hid (AOwn w5 (w.heap.size + 2) ⟨⟨mk,mop,mds,.slice xa mds.length ya,.slice xb mns.length yb,mns⟩,.slice xc mcs.length yc,mcs,.slice xd mks.length yd,mks⟩) := hmo; have HMN : Hid ((MArm.mk ⟨mk,mop,mds,.slice xa mds.length ya,.slice xb mns.length yb,mns⟩ (.slice xc mcs.length yc) mcs (.slice xd mks.length yd) mks).arm = ⟨Stil.series X1 X2,(s1 ++ s2).map MElem.elem,ks2.map MArm.arm⟩) := hmn; have HVS : Hid (∀ x ∈ (MArm.mk ⟨mk,mop,mds,.slice xa mds.length ya,.slice xb mns.length yb,mns⟩ (.slice xc mcs.length yc) mcs (.slice xd mks.length yd) mks).vals,∀ q,x.ownBlock = some q -> (∃ y ∈ OV,y.ownBlock = some q) ∨ w4.heap.size <= q) := hvs; have HG5 : Hid (w4.drew.grownBy w5 (Value.slice f1 ln g1).ownBlock) := hg5; have HBX5 : Hid (B6 w5 B (.int .i64 k1) (.int .i64 o1) (.slice a1 d1.length c1) (.slice b1 n1.length e1) (.slice f1 ln g1) (.slice (some ⟨g,0,none⟩) 1 j1)) := (HBXV.out.drew).grown hg5 HCB.out; obtain ⟨hBs5,⟨t0,t1,t2,t3,t4,t5⟩,tf⟩ := HBX5.out; have u0 := tf 0 (by omega); have u1 := tf 1 (by omega); have u2 := tf 2 (by omega); have u3 := tf 3 (by omega); have u4 := tf 4 (by omega); have u5 := tf 5 (by omega); clear hmo hmn hvs tf))
        all_goals
         go_wp2
         go_roundg (Stil.ksize (ks2.map MArm.arm))
         rotate_left
         ·exact HKM.out
         ·have hlt5 : B < w4.heap.size := HBXV.out.1
          have hno5 : ∀ x ∈ (MArm.mk ⟨mk,mop,mds,.slice xa mds.length ya,.slice xb mns.length yb,mns⟩ (.slice xc mcs.length yc) mcs (.slice xd mks.length yd) mks).vals,x.ownBlock ≠ some B := by
           intro x hx e
           rcases HVS.out x hx _ e with ⟨y,hy,e2⟩ | h
           ·exact HNO2.out y hy e2
           ·omega
          have hb2 := HB2.out
          refine ⟨⟨⟨mk,mop,mds,.slice xa mds.length ya,.slice xb mns.length yb,mns⟩,.slice xc mcs.length yc,mcs,.slice xd mks.length yd,mks⟩,⟨hb2,HBX5.out.set6,AOwn.setO6 HMO.out hno5,hno5,((HZBV.out.drew).grown HG5.out HCZ.out).set6O hBne,?_⟩,?_,?_,?_⟩
          ·have hB5 : Below w.heap.size w w5 := (HBWV.out.drew).grown HG5.out HBWV.out.size HCW.out
           have hle : w.heap.size <= B := by omega
           exact bl_set hle (bl_set hle (bl_set hle (bl_set hle (bl_set hle (bl_set hle hB5 _) _) _) _) _) _
          ·rw [HMN.out,List.map_append]
           exact HJ2.out
          ·rw [HMN.out,List.map_append]
           exact HM2.out
          ·rw [HMN.out]
           exact Nat.le_refl _

      ·obtain rfl : ln = 0 := by omega
       have HJ2 : Hid (Stil.joined ⟨Stil.series X1 X2,s1.map MElem.elem ++ s2.map MElem.elem,ks2.map MArm.arm⟩ = T) := HJ1.out (.inl (by rw [List.length_eq_zero_iff.1 HLN.out.symm]; rfl))
       clear HJ1 hBf HAO5 HE HT2 z0 z1 z2 z3 z4 z5 y0 y1 y2 y3 y4 y5 HN5
       go_upto_region 6 with fail
       have HBXV : Hid (B6 wr B (.int .i64 k1) (.int .i64 o1) (.slice a1 d1.length c1) (.slice b1 n1.length e1) (.slice f1 0 g1) (.slice (some ⟨g,0,none⟩) 1 j1)) := HBX.out
       have HZBV : Hid (B6 wr (w.heap.size + 1) (.int .i64 0) (.int .i64 0) (.slice none 0 0) (.slice none 0 0) (.slice none 0 0) (.slice none 0 0)) := HZB.out
       have HBWV : Hid (Below w.heap.size w wr) := HBW.out
       have HJN : Hid (∀ W,Below wr.heap.size wr W -> Calls Tryz.prog 91 #[.agg #[.int .i64 k1,.int .i64 o1,.slice a1 d1.length c1,.slice b1 n1.length e1,.slice f1 0 g1,.slice (some ⟨g,0,none⟩) 1 j1],.agg #[.int .i64 k2,.int .i64 o2,.slice a2 d2.length c2,.slice b2 n2.length e2,.slice f2 s2.length g2,.slice h2 ks2.length j2]] W fun e w' => ArmRetV w' (w.heap.size + 2) OV W.heap.size ⟨Stil.series X1 X2,(s1 ++ s2).map MElem.elem,ks2.map MArm.arm⟩ e ∧ W.grownBy w' (Value.slice f1 0 g1).ownBlock) := HJ0.out
       clear HJ0
       go_region_with (first | (go_at_call 91; refine (HJN.out _ (by exact (Below.refl _ _).drew)).mono ?_; rintro e w5 ⟨⟨mk,mop,mds,xa,ya,mns,xb,yb,mcs,xc,yc,mks,xd,yd,rfl,hmo,hmn,hvs⟩,hg5⟩; have HMO : Hid (AOwn w5 (w.heap.size + 2) ⟨⟨mk,mop,mds,.slice xa mds.length ya,.slice xb mns.length yb,mns⟩,.slice xc mcs.length yc,mcs,.slice xd mks.length yd,mks⟩) := hmo; have HMN : Hid ((MArm.mk ⟨mk,mop,mds,.slice xa mds.length ya,.slice xb mns.length yb,mns⟩ (.slice xc mcs.length yc) mcs (.slice xd mks.length yd) mks).arm = ⟨Stil.series X1 X2,(s1 ++ s2).map MElem.elem,ks2.map MArm.arm⟩) := hmn; have HVS : Hid (∀ x ∈ (MArm.mk ⟨mk,mop,mds,.slice xa mds.length ya,.slice xb mns.length yb,mns⟩ (.slice xc mcs.length yc) mcs (.slice xd mks.length yd) mks).vals,∀ q,x.ownBlock = some q -> (∃ y ∈ OV,y.ownBlock = some q) ∨ wr.heap.size <= q) := hvs; have HG5 : Hid (wr.drew.grownBy w5 (Value.slice f1 0 g1).ownBlock) := hg5; have HBX5 : Hid (B6 w5 B (.int .i64 k1) (.int .i64 o1) (.slice a1 d1.length c1) (.slice b1 n1.length e1) (.slice f1 0 g1) (.slice (some ⟨g,0,none⟩) 1 j1)) := (HBXV.out.drew).grown hg5 HCB.out; obtain ⟨hBs5,⟨t0,t1,t2,t3,t4,t5⟩,tf⟩ := HBX5.out; have u0 := tf 0 (by omega); have u1 := tf 1 (by omega); have u2 := tf 2 (by omega); have u3 := tf 3 (by omega); have u4 := tf 4 (by omega); have u5 := tf 5 (by omega); clear hmo hmn hvs tf))
       all_goals
        go_wp2
        go_roundg (Stil.ksize (ks2.map MArm.arm))
        rotate_left
        ·exact HKM.out
        ·have hlt5 : B < wr.heap.size := HBXV.out.1
         have hno5 : ∀ x ∈ (MArm.mk ⟨mk,mop,mds,.slice xa mds.length ya,.slice xb mns.length yb,mns⟩ (.slice xc mcs.length yc) mcs (.slice xd mks.length yd) mks).vals,x.ownBlock ≠ some B := by
          intro x hx e
          rcases HVS.out x hx _ e with ⟨y,hy,e2⟩ | h
          ·exact HNO2.out y hy e2
          ·omega
         have hb2 := HB2.out
         refine ⟨⟨⟨mk,mop,mds,.slice xa mds.length ya,.slice xb mns.length yb,mns⟩,.slice xc mcs.length yc,mcs,.slice xd mks.length yd,mks⟩,⟨hb2,HBX5.out.set6,AOwn.setO6 HMO.out hno5,hno5,((HZBV.out.drew).grown HG5.out HCZ.out).set6O hBne,?_⟩,?_,?_,?_⟩
         ·have hB5 : Below w.heap.size w w5 := (HBWV.out.drew).grown HG5.out HBWV.out.size HCW.out
          have hle : w.heap.size <= B := by omega
          exact bl_set hle (bl_set hle (bl_set hle (bl_set hle (bl_set hle (bl_set hle hB5 _) _) _) _) _) _
         ·rw [HMN.out,List.map_append]
          exact HJ2.out
         ·rw [HMN.out,List.map_append]
          exact HM2.out
         ·rw [HMN.out]
          exact Nat.le_refl _

     ·have hkb : ((ks1.length : Int) != 1) = true := by rw [bne_iff_ne]; omega
      have HST : Hid (∀ kid,(ks1.map MArm.arm) = [kid] -> False) := fun kid e => hk (by have := congrArg List.length e; simpa using this)
      clear hk hBf
      go_wp2
      rw [Exit.noGoto_ret]
      refine bodyPost_ret (v := .agg #[.int .i64 k1,.int .i64 o1,.slice a1 d1.length c1,.slice b1 n1.length e1,.slice f1 s1.length g1,.slice h1 ks1.length j1]) (by simp [results,Tryz.results51,go_sem,z0,z1,z2,z3,z4,z5]) rfl ⟨⟨k1,o1,d1,a1,c1,n1,b1,e1,s1,f1,g1,ks1,h1,j1,rfl,?_,?_⟩,?_⟩
      ·exact AOwn.le (AOwn.setO6 (base := w.heap.size + 2) HAO.out (fun x hx e => by have := (HAO.out.1.lt _ x hx _ e).1; omega)) (by omega)
      ·rw [← HJO.out]
       refine (Stil.joined_stop _ ?_).symm
       intro kid e _
       rw [MArm.arm_eq] at e
       exact HST.out kid e
      ·exact bl_set (Nat.le_succ _) (bl_set (Nat.le_succ _) (bl_set (Nat.le_succ _) (bl_set (Nat.le_succ _) (bl_set (Nat.le_succ _) (bl_set (Nat.le_succ _) HBW.out _) _) _) _) _) _
end Go.Proofs.YtenoanhonjdpjaaGreatDoor
