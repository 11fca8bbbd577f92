/- Z10, Z11: texts put together. -/
import Derived.Test.YtenoanhonjdpjaaGreatDoorZ9
import Derived.Test.YtenoanhonjdpjaaGreatDoorGp
import Derived.Test.YtenoanhonjdpjaaGreatDoorGY
import Derived.Test.YtenoanhonjdpjaaGreatDoorGq
/- The program's chapter 4: the normal form of a ladder. -/
namespace Go.Proofs.YtenoanhonjdpjaaGreatDoor
open Go.RowKit Go.Sort Go.BigFrame
set_option maxHeartbeats 2000000 in
set_option maxRecDepth 100000 in
theorem i_accepted (l : List Stil.Arm) (kv : Value) (w : World) (hr : RowsAt w) (hg : ErrTypeAt w) (hkv : ArmsAt w kv l) (hl : l.length ≤ 1048576) (hsz : Stil.treeSize l ≤ 1000000000) (hft : ∀ x ∈ l, Stil.armFits x) :
    Calls Tryz.prog 49 #[kv] w fun e w' => e = .returned (.bool (decide ((Stil.treeCheck l).1 = 0))) ∧ Below w.heap.size w w' := by
  have HC : Hid (∀ W, Below w.heap.size w W → Calls Tryz.prog 10 #[kv] W fun e w' => e = .returned (.agg #[.int .i64 (Stil.treeCheck l).1, .int .i64 (Stil.treeCheck l).2]) ∧ Below W.heap.size W w') := fun W h => i_treeCheck l kv W (hr.below h) (hg.below h) (hkv.below h) hl hsz hft
  have H0 : Hid ((Stil.treeCheck l).1 = 0 → (Stil.treeCheck l).2 = 0) := fun h => (Stil.check_zero h).1
  obtain ⟨p0, r0, rfl, hz⟩ := hkv
  obtain ⟨c, hc⟩ : ∃ c, c = (Stil.treeCheck l).1 := ⟨_, rfl⟩
  obtain ⟨r, hrr⟩ : ∃ r, r = (Stil.treeCheck l).2 := ⟨_, rfl⟩
  rw [← hc, ← hrr] at HC H0
  rw [← hc]
  clear hz hc hrr hr hg hft
  go_enter Tryz.func49, Tryz.ntmps49
  go_wp2_with (go_at_call 10; refine (HC.out _ (by (repeat with_reducible first | exact Below.refl _ _ | assumption | refine bl_set (by first | exact Nat.le_refl _ | (simp; done) | (simp; omega) | omega) ?_ _ | refine bl_alloc ?_ _ | refine bl_drewN ?_ _ | refine bl_drew ?_ | refine bl_grow ?_ _ _ | refine bl_call ?_ (by assumption)))).mono ?_; rintro e w1 ⟨rfl, hb1⟩)
  all_goals go_ret
  all_goals refine ⟨ret_bool ?_, by (repeat with_reducible first | exact Below.refl _ _ | assumption | refine bl_set (by first | exact Nat.le_refl _ | (simp; done) | (simp; omega) | omega) ?_ _ | refine bl_alloc ?_ _ | refine bl_drewN ?_ _ | refine bl_drew ?_ | refine bl_grow ?_ _ _ | refine bl_call ?_ (by assumption))⟩
  all_goals (have h0 := H0.out; by_cases hc0 : c = 0 <;> simp_all)
/-- A slice of arms that is answered: it owns its memory. -/
def ArmsRet (w : World) (base : Nat) (l : List Stil.Arm) (e : Ending) : Prop := ∃ (a : Option Addr) (c : Nat) (ms : List MArm), e = .returned (.slice a ms.length c) ∧ ms.map MArm.arm = l ∧ ARow w base (.slice a ms.length c) ms
set_option maxHeartbeats 2000000 in
set_option maxRecDepth 100000 in
theorem i_NormMake (l : List Stil.Arm) (kv : Value) (w : World) (hr : RowsAt w) (hg : ErrTypeAt w) (hkv : ArmsAt w kv l) (hl : l.length ≤ 1048576) (hsz : Stil.treeSize l ≤ 1000000000) (hft : ∀ x ∈ l, Stil.armFits x) :
    Calls Tryz.prog 19 #[kv] w fun e w' => ArmsRet w' w.heap.size (Stil.normMake l) e ∧ Below w.heap.size w w' := by
  have HC : Hid (∀ W, Below w.heap.size w W → Calls Tryz.prog 49 #[kv] W fun e w' => e = .returned (.bool (decide ((Stil.treeCheck l).1 = 0))) ∧ Below W.heap.size W w') := fun W h => i_accepted l kv W (hr.below h) (hg.below h) (hkv.below h) hl hsz hft
  have HE : Hid ((Stil.treeCheck l).1 = 0 → ∀ W, Below w.heap.size w W → Calls Tryz.prog 50 #[kv, .func (.func 51) #[] #[]] W fun e w' => ∃ (a : Option Addr) (c : Nat) (ms : List MArm), e = .returned (.slice a ms.length c) ∧ ms.map MArm.arm = l.map Stil.normArm ∧ ARow w' W.heap.size (.slice a ms.length c) ms ∧ Below W.heap.size W w') := by
    intro h0 W h
    exact i_normEachA l (fun x hx => i_normArm x (hft x hx) (by have := (Stil.rung_right h0 hx).2; omega)) kv W (hkv.below h) (by have := (Stil.check_zero h0).2.1; omega)
  obtain ⟨p0, r0, rfl, hz⟩ := hkv
  by_cases h0 : (Stil.treeCheck l).1 = 0
  · have HN : Hid (Stil.normMake l = l.map Stil.normArm) := if_pos h0
    rw [HN.out]
    have HE2 := HE.out h0
    have HE3 : Hid (∀ W, Below w.heap.size w W → Calls Tryz.prog 50 #[.slice p0 l.length r0, .func (.func 51) #[] #[]] W fun e w' => ∃ (a : Option Addr) (c : Nat) (ms : List MArm), e = .returned (.slice a ms.length c) ∧ ms.map MArm.arm = l.map Stil.normArm ∧ ARow w' W.heap.size (.slice a ms.length c) ms ∧ Below W.heap.size W w') := HE2
    rw [decide_eq_true h0] at HC
    clear hz hr hg hft HN HE HE2 h0
    go_enter Tryz.func19, Tryz.ntmps19
    go_wp2_with (first | (go_at_call 49; refine (HC.out _ (by (repeat with_reducible first | exact Below.refl _ _ | assumption | refine bl_set (by first | exact Nat.le_refl _ | (simp; done) | (simp; omega) | omega) ?_ _ | refine bl_alloc ?_ _ | refine bl_drewN ?_ _ | refine bl_drew ?_ | refine bl_grow ?_ _ _ | refine bl_call ?_ (by assumption)))).mono ?_; rintro e w1 ⟨rfl, hb1⟩) | (go_at_call 50; refine (HE3.out _ (by (repeat with_reducible first | exact Below.refl _ _ | assumption | refine bl_set (by first | exact Nat.le_refl _ | (simp; done) | (simp; omega) | omega) ?_ _ | refine bl_alloc ?_ _ | refine bl_drewN ?_ _ | refine bl_drew ?_ | refine bl_grow ?_ _ _ | refine bl_call ?_ (by assumption)))).mono ?_; rintro e w2 ⟨ra, rc, ms, rfl, hmn, hmr, hb2⟩; have HMN : Hid (ms.map MArm.arm = l.map Stil.normArm) := hmn; have HMR : Hid (ARow w2 w1.heap.size (.slice ra ms.length rc) ms) := hmr; clear hmn hmr))
    go_ret
    exact ⟨⟨ra, rc, ms, rfl, HMN.out, HMR.out.le hb1.size⟩, by (repeat with_reducible first | exact Below.refl _ _ | assumption | refine bl_set (by first | exact Nat.le_refl _ | (simp; done) | (simp; omega) | omega) ?_ _ | refine bl_alloc ?_ _ | refine bl_drewN ?_ _ | refine bl_drew ?_ | refine bl_grow ?_ _ _ | refine bl_call ?_ (by assumption))⟩
  · have HN : Hid (Stil.normMake l = []) := if_neg h0
    rw [HN.out]
    rw [decide_eq_false h0] at HC
    clear hz hr hg hft HN HE h0
    go_enter Tryz.func19, Tryz.ntmps19
    go_wp2_with (go_at_call 49; refine (HC.out _ (by (repeat with_reducible first | exact Below.refl _ _ | assumption | refine bl_set (by first | exact Nat.le_refl _ | (simp; done) | (simp; omega) | omega) ?_ _ | refine bl_alloc ?_ _ | refine bl_drewN ?_ _ | refine bl_drew ?_ | refine bl_grow ?_ _ _ | refine bl_call ?_ (by assumption)))).mono ?_; rintro e w1 ⟨rfl, hb1⟩)
    go_ret
    exact ⟨⟨none, 0, [], rfl, rfl, ARow.nil _ _⟩, by (repeat with_reducible first | exact Below.refl _ _ | assumption | refine bl_set (by first | exact Nat.le_refl _ | (simp; done) | (simp; omega) | omega) ?_ _ | refine bl_alloc ?_ _ | refine bl_drewN ?_ _ | refine bl_drew ?_ | refine bl_grow ?_ _ _ | refine bl_call ?_ (by assumption))⟩
end Go.Proofs.YtenoanhonjdpjaaGreatDoor
/- An answered ladder: how it lies, its places, what it holds. -/
namespace Stil
end Stil
namespace Go.Proofs.YtenoanhonjdpjaaGreatDoor
open Go.RowKit Go.Sort Go.BigFrame
theorem elPs_le : ∀ (b o : Nat) (qs : List (List Pl)) (c : Nat), (∀ q ∈ qs, q.length + 1 ≤ c) → (elPs b o qs).length ≤ qs.length * c
  | _, _, [], _, _ => by simp [elPs]
  | b, o, q :: r, c, h => by
    have a1 := h q (by simp)
    have a2 := elPs_le b (o + 2) r c (fun y hy => h y (List.mem_cons_of_mem _ hy))
    simp only [elPs, List.length_cons, List.length_append, Nat.add_mul] at a2 ⊢
    omega
theorem strPs_sum : ∀ (s b o : Nat) (qs : List (List Pl)), (strPs s b o qs).length = (qs.map (fun q => q.length + 2)).sum
  | _, _, _, [] => by simp [strPs]
  | s, b, o, q :: r => by
    have := strPs_sum s b (o + s) r
    simp only [strPs, List.length_cons, List.length_append, List.map_cons, List.sum_cons] at this ⊢
    omega
theorem kps_sum : ∀ (ars : List MArm), (∀ x ∈ ars, x.inner.length + 2 ≤ Stil.armSize x.arm * 6291460) → ((ars.map MArm.inner).map (fun q => q.length + 2)).sum ≤ ((ars.map MArm.arm).map Stil.armSize).sum * 6291460
  | [], _ => by simp
  | x :: r, h => by
    have a1 := h x (by simp)
    have a2 := kps_sum r (fun y hy => h y (List.mem_cons_of_mem _ hy))
    simp only [List.map_cons, List.sum_cons, Nat.add_mul] at a2 ⊢
    omega
/-- How many places an arm has. -/
theorem MArm.count (m : MArm) : Stil.armFits m.arm → m.inner.length + 2 ≤ Stil.armSize m.arm * 6291460 := by
  refine marm_ind (fun m => Stil.armFits m.arm → m.inner.length + 2 ≤ Stil.armSize m.arm * 6291460) ?_ m
  intro n cv cs kv kids ih hf
  have e := MArm.arm_eq ⟨n, cv, cs, kv, kids⟩
  simp only at e
  rw [e] at hf ⊢
  obtain ⟨hn, _, hcf, _, hk⟩ := (Stil.armFits_eq _ _ _).1 hf
  rw [MArm.inner_eq, Stil.armSize_nsz]
  have h1 := MNet.count n hn
  have h2 := Stil.size_le n.net
  rw [MNet.inner_eq, List.length_append] at h1
  have h3 : (ePs cv cs).length ≤ cs.length * 3145730 := by
    have := elPs_le (vb cv) 0 (cs.map MElem.dps) 3145730 (fun q hq => by
      obtain ⟨x, hx, rfl⟩ := List.mem_map.1 hq
      have h4 : x.ds.length ≤ 1048576 := (hcf x.elem (List.mem_map.2 ⟨x, hx, rfl⟩)).2.1
      rw [MElem.dps, blockPs_len]
      omega)
    rw [List.length_map] at this
    exact this
  have h5 : (MArm.mk n cv cs kv kids).kps.length ≤ Stil.ksize (kids.map MArm.arm) * 6291460 := by
    show (strPs 6 (vb kv) 0 (kids.map MArm.inner)).length ≤ _
    rw [strPs_sum]
    exact kps_sum kids (fun x hx => ih x hx (hk _ (List.mem_map.2 ⟨x, hx, rfl⟩)))
  simp only [List.length_append, List.length_map, Nat.add_mul] at h1 h3 h5 ⊢
  have h6 : Stil.netSize n.net * 3145730 ≤ (1 + Stil.nsz n.net) * 3145730 := Nat.mul_le_mul_right _ h2
  rw [Nat.add_mul] at h6
  omega
/-- The dummy arm whose kids are the row. -/
def rowArm (v : Value) (ars : List MArm) : MArm := ⟨nilNet, .slice none 0 0, [], v, ars⟩
theorem rowArm_own {w : World} {base : Nat} {v : Value} {ars : List MArm} (h : ARow w base v ars) : AOwn w base (rowArm v ars) := by
  have hv : (rowArm v ars).vals = nilNet.vals ++ (([.slice none 0 0]) ++ (v :: aVals ars)) := MArm.vals_eq _
  refine ⟨(AOk_iff _ _ _).2 ⟨nilNet_ok _ _, ⟨World.ownsRow_nil _ _ _ _, fun x hx => by cases hx⟩, h.1, h.2.1⟩, ?_⟩
  rw [hv]
  refine List.pairwise_append.2 ⟨?_, List.pairwise_append.2 ⟨List.pairwise_singleton _ _, h.2.2, fun x hx y _ => ?_⟩, fun x hx y _ => .inl (nil_own hx)⟩
  · rw [nilNet_vals]
    exact List.pairwise_cons.2 ⟨fun y _ => aside_nil y, List.pairwise_singleton _ _⟩
  · rw [List.mem_singleton.1 hx]; exact aside_nil y
theorem rowArm_kps (v : Value) (ars : List MArm) : ∀ p ∈ (rowArm v ars).kps, p ∈ (rowArm v ars).inner := fun p hp => by
  rw [MArm.inner_eq]
  exact List.mem_append_right _ (List.mem_append_right _ (List.mem_append_right _ hp))
def ArmsPk (base : Nat) (w : World) (L : List Stil.Arm) (a : Option Addr) (c : Nat) (m : MArm) : Prop :=
  m.kv = .slice a L.length c ∧ ASh (headsT m.tags) w m ∧ NumsAt w m.kps ∧ m.kps.Nodup ∧ (∀ p ∈ m.kps, base ≤ p.1) ∧ (∀ p ∈ m.kps, ¬ headsT m.tags p) ∧
  (∀ p, headsT m.tags p → base ≤ p.1) ∧ ArmsFrom base w (.slice a L.length c) L ∧ ((∀ x ∈ L, Stil.armFits x) → m.kps.length ≤ Stil.treeSize L * 6291460)
theorem armsPk_of {w : World} {base : Nat} {L : List Stil.Arm} {a : Option Addr} {c : Nat} {ms : List MArm} (hm : ms.map MArm.arm = L) (h : ARow w base (.slice a ms.length c) ms) : ArmsPk base w L a c (rowArm (.slice a ms.length c) ms) := by
  have hl : ms.length = L.length := by rw [← hm, List.length_map]
  have ho := rowArm_own h
  obtain ⟨p1, p2, p3, p4, p5, p6⟩ := MArm.places _ ho
  obtain ⟨_, _, _, f4⟩ := AOk.from _ ho.1
  have hin := rowArm_kps (.slice a ms.length c) ms
  have hk : (rowArm (.slice a ms.length c) ms).arm.kids = L := by rw [MArm.arm_eq]; exact hm
  rw [hk] at f4
  rw [MArm.inner_eq] at p3
  refine ⟨by rw [← hl]; rfl, p1, fun p hp => p2 p (hin p hp), (List.nodup_append.1 (List.nodup_append.1 (List.nodup_append.1 p3).2.1).2.1).2.1, fun p hp => p4 p (hin p hp), fun p hp => p5 p (hin p hp), p6, by rw [← hl]; exact f4, fun hf => ?_⟩
  show (strPs 6 (vb (.slice a ms.length c)) 0 (ms.map MArm.inner)).length ≤ _
  rw [strPs_sum, ← hm]
  rw [← hm] at hf
  exact kps_sum ms (fun x hx => MArm.count x (hf _ (List.mem_map.2 ⟨x, hx, rfl⟩)))
end Go.Proofs.YtenoanhonjdpjaaGreatDoor
