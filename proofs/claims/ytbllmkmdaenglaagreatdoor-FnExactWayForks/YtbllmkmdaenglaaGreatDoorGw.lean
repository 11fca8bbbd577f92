/- Z10, Z11, W4: texts put together. -/
import Derived.Test.YtbllmkmdaenglaaGreatDoorZ9
import Derived.Test.YtbllmkmdaenglaaGreatDoorGp
import Derived.Test.YtbllmkmdaenglaaGreatDoorGY
import Derived.Test.YtbllmkmdaenglaaGreatDoorGq
import Derived.Test.YtbllmkmdaenglaaGreatDoorGv
import Derived.Test.YtbllmkmdaenglaaGreatDoorGU
/- The program's chapter 4: the normal form of a ladder. -/
namespace Go.Proofs.YtbllmkmdaenglaaGreatDoor
open Go.RowKit Go.Sort Go.BigFrame
set_option maxHeartbeats 2000000 in
set_option maxRecDepth 100000 in
theorem i_accepted (l : List Stil.Arm) (kv : Value) (w : World) (hr : RowsAt w) (hg : ErrTypeAt w) (hkv : ArmsAt w kv l) (hl : l.length ≤ 1048576) (hsz : Stil.treeSize l ≤ 1000000000) (hft : ∀ x ∈ l, Stil.armFits x) :
    Calls Tryz.prog 21 #[kv] w fun e w' => e = .returned (.bool (decide ((Stil.treeCheck l).1 = 0))) ∧ Below w.heap.size w w' := by
  have HC : Hid (∀ W, Below w.heap.size w W → Calls Tryz.prog 48 #[kv] W fun e w' => e = .returned (.agg #[.int .i64 (Stil.treeCheck l).1, .int .i64 (Stil.treeCheck l).2]) ∧ Below W.heap.size W w') := fun W h => i_treeCheck l kv W (hr.below h) (hg.below h) (hkv.below h) hl hsz hft
  have H0 : Hid ((Stil.treeCheck l).1 = 0 → (Stil.treeCheck l).2 = 0) := fun h => (Stil.check_zero h).1
  obtain ⟨p0, r0, rfl, hz⟩ := hkv
  obtain ⟨c, hc⟩ : ∃ c, c = (Stil.treeCheck l).1 := ⟨_, rfl⟩
  obtain ⟨r, hrr⟩ : ∃ r, r = (Stil.treeCheck l).2 := ⟨_, rfl⟩
  rw [← hc, ← hrr] at HC H0
  rw [← hc]
  clear hz hc hrr hr hg hft
  go_enter Tryz.func21, Tryz.ntmps21
  go_wp2_with (go_at_call 48; refine (HC.out _ (by (repeat (first | with_reducible exact Below.refl _ _ | with_reducible assumption | with_reducible refine bl_set (by first | exact Nat.le_refl _ | (simp; done) | (simp; omega) | omega) ?_ _ | with_reducible refine bl_alloc ?_ _ | with_reducible refine bl_drewN ?_ _ | with_reducible refine bl_drew ?_ | with_reducible refine bl_grow ?_ _ _ | with_reducible refine bl_call ?_ (by assumption))))).mono ?_; rintro e w1 ⟨rfl, hb1⟩)
  all_goals go_ret
  all_goals refine ⟨ret_bool ?_, by (repeat (first | with_reducible exact Below.refl _ _ | with_reducible assumption | with_reducible refine bl_set (by first | exact Nat.le_refl _ | (simp; done) | (simp; omega) | omega) ?_ _ | with_reducible refine bl_alloc ?_ _ | with_reducible refine bl_drewN ?_ _ | with_reducible refine bl_drew ?_ | with_reducible refine bl_grow ?_ _ _ | with_reducible refine bl_call ?_ (by assumption)))⟩
  all_goals (have h0 := H0.out; by_cases hc0 : c = 0 <;> simp_all)
/-- A slice of arms that is answered: it owns its memory. -/
def ArmsRet (w : World) (base : Nat) (l : List Stil.Arm) (e : Ending) : Prop := ∃ (a : Option Addr) (c : Nat) (ms : List MArm), e = .returned (.slice a ms.length c) ∧ ms.map MArm.arm = l ∧ ARow w base (.slice a ms.length c) ms
set_option maxHeartbeats 2000000 in
set_option maxRecDepth 100000 in
theorem i_NormMake (l : List Stil.Arm) (kv : Value) (w : World) (hr : RowsAt w) (hg : ErrTypeAt w) (hkv : ArmsAt w kv l) (hl : l.length ≤ 1048576) (hsz : Stil.treeSize l ≤ 1000000000) (hft : ∀ x ∈ l, Stil.armFits x) :
    Calls Tryz.prog 9 #[kv] w fun e w' => ArmsRet w' w.heap.size (Stil.normMake l) e ∧ Below w.heap.size w w' := by
  have HC : Hid (∀ W, Below w.heap.size w W → Calls Tryz.prog 21 #[kv] W fun e w' => e = .returned (.bool (decide ((Stil.treeCheck l).1 = 0))) ∧ Below W.heap.size W w') := fun W h => i_accepted l kv W (hr.below h) (hg.below h) (hkv.below h) hl hsz hft
  have HE : Hid ((Stil.treeCheck l).1 = 0 → ∀ W, Below w.heap.size w W → Calls Tryz.prog 22 #[kv, .func (.func 23) #[] #[]] W fun e w' => ∃ (a : Option Addr) (c : Nat) (ms : List MArm), e = .returned (.slice a ms.length c) ∧ ms.map MArm.arm = l.map Stil.normArm ∧ ARow w' W.heap.size (.slice a ms.length c) ms ∧ Below W.heap.size W w') := by
    intro h0 W h
    exact i_normEachA l (fun x hx => i_normArm x (hft x hx) (by have := (Stil.rung_right h0 hx).2; omega)) kv W (hkv.below h) (by have := (Stil.check_zero h0).2.1; omega)
  obtain ⟨p0, r0, rfl, hz⟩ := hkv
  by_cases h0 : (Stil.treeCheck l).1 = 0
  · have HN : Hid (Stil.normMake l = l.map Stil.normArm) := if_pos h0
    rw [HN.out]
    have HE2 := HE.out h0
    have HE3 : Hid (∀ W, Below w.heap.size w W → Calls Tryz.prog 22 #[.slice p0 l.length r0, .func (.func 23) #[] #[]] W fun e w' => ∃ (a : Option Addr) (c : Nat) (ms : List MArm), e = .returned (.slice a ms.length c) ∧ ms.map MArm.arm = l.map Stil.normArm ∧ ARow w' W.heap.size (.slice a ms.length c) ms ∧ Below W.heap.size W w') := HE2
    rw [decide_eq_true h0] at HC
    clear hz hr hg hft HN HE HE2 h0
    go_enter Tryz.func9, Tryz.ntmps9
    go_wp2_with (first | (go_at_call 21; refine (HC.out _ (by (repeat (first | with_reducible exact Below.refl _ _ | with_reducible assumption | with_reducible refine bl_set (by first | exact Nat.le_refl _ | (simp; done) | (simp; omega) | omega) ?_ _ | with_reducible refine bl_alloc ?_ _ | with_reducible refine bl_drewN ?_ _ | with_reducible refine bl_drew ?_ | with_reducible refine bl_grow ?_ _ _ | with_reducible refine bl_call ?_ (by assumption))))).mono ?_; rintro e w1 ⟨rfl, hb1⟩) | (go_at_call 22; refine (HE3.out _ (by (repeat (first | with_reducible exact Below.refl _ _ | with_reducible assumption | with_reducible refine bl_set (by first | exact Nat.le_refl _ | (simp; done) | (simp; omega) | omega) ?_ _ | with_reducible refine bl_alloc ?_ _ | with_reducible refine bl_drewN ?_ _ | with_reducible refine bl_drew ?_ | with_reducible refine bl_grow ?_ _ _ | with_reducible refine bl_call ?_ (by assumption))))).mono ?_; rintro e w2 ⟨ra, rc, ms, rfl, hmn, hmr, hb2⟩; have HMN : Hid (ms.map MArm.arm = l.map Stil.normArm) := hmn; have HMR : Hid (ARow w2 w1.heap.size (.slice ra ms.length rc) ms) := hmr; clear hmn hmr))
    go_ret
    exact ⟨⟨ra, rc, ms, rfl, HMN.out, HMR.out.le hb1.size⟩, by (repeat (first | with_reducible exact Below.refl _ _ | with_reducible assumption | with_reducible refine bl_set (by first | exact Nat.le_refl _ | (simp; done) | (simp; omega) | omega) ?_ _ | with_reducible refine bl_alloc ?_ _ | with_reducible refine bl_drewN ?_ _ | with_reducible refine bl_drew ?_ | with_reducible refine bl_grow ?_ _ _ | with_reducible refine bl_call ?_ (by assumption)))⟩
  · have HN : Hid (Stil.normMake l = []) := if_neg h0
    rw [HN.out]
    rw [decide_eq_false h0] at HC
    clear hz hr hg hft HN HE h0
    go_enter Tryz.func9, Tryz.ntmps9
    go_wp2_with (go_at_call 21; refine (HC.out _ (by (repeat (first | with_reducible exact Below.refl _ _ | with_reducible assumption | with_reducible refine bl_set (by first | exact Nat.le_refl _ | (simp; done) | (simp; omega) | omega) ?_ _ | with_reducible refine bl_alloc ?_ _ | with_reducible refine bl_drewN ?_ _ | with_reducible refine bl_drew ?_ | with_reducible refine bl_grow ?_ _ _ | with_reducible refine bl_call ?_ (by assumption))))).mono ?_; rintro e w1 ⟨rfl, hb1⟩)
    go_ret
    exact ⟨⟨none, 0, [], rfl, rfl, ARow.nil _ _⟩, by (repeat (first | with_reducible exact Below.refl _ _ | with_reducible assumption | with_reducible refine bl_set (by first | exact Nat.le_refl _ | (simp; done) | (simp; omega) | omega) ?_ _ | with_reducible refine bl_alloc ?_ _ | with_reducible refine bl_drewN ?_ _ | with_reducible refine bl_drew ?_ | with_reducible refine bl_grow ?_ _ _ | with_reducible refine bl_call ?_ (by assumption)))⟩
end Go.Proofs.YtbllmkmdaenglaaGreatDoor
/- An answered ladder: how it lies, its places, what it holds. -/
namespace Stil
theorem normMake_fits {l : List Arm} (h : ∀ x ∈ l, armFits x) : (∀ x ∈ normMake l, armFits x) ∧ treeSize (normMake l) ≤ 400 ∧ (normMake l).length ≤ 40 := by
  unfold normMake
  by_cases h0 : (treeCheck l).1 = 0
  · rw [if_pos h0]
    have hx : ∀ x ∈ l, midOk (armSize x) (normArm x) := fun x hx => normArm_ok x (h x hx) (by have := (rung_right h0 hx).2; omega)
    refine ⟨fun x hx2 => ?_, ?_, ?_⟩
    · obtain ⟨y, hy, rfl⟩ := List.mem_map.1 hx2
      exact (hx y hy).1
    · refine Nat.le_trans ?_ (check_zero h0).2.2.1
      clear h h0
      unfold treeSize
      induction l with
      | nil => simp
      | cons x r ih =>
        have a := (hx x (by simp)).2
        have b := ih (fun y hy => hx y (List.mem_cons_of_mem _ hy))
        simp only [List.map_cons, List.sum_cons] at b ⊢
        omega
    · rw [List.length_map]; exact (check_zero h0).2.1
  · rw [if_neg h0]
    exact ⟨(fun x hx => by cases hx), by simp [treeSize], by simp⟩
end Stil
namespace Go.Proofs.YtbllmkmdaenglaaGreatDoor
open Go.RowKit Go.Sort Go.BigFrame
/-- The dummy arm whose kids are the row. -/
def rowArm (v : Value) (ars : List MArm) : MArm := ⟨nilNet, .slice none 0 0, [], v, ars⟩
theorem rowArm_own {w : World} {base : Nat} {v : Value} {ars : List MArm} (h : ARow w base v ars) : AOwn w base (rowArm v ars) := by
  have hv : (rowArm v ars).vals = nilNet.vals ++ (([.slice none 0 0]) ++ (v :: aVals ars)) := MArm.vals_eq _
  refine ⟨(AOk_iff _ _ _).2 ⟨nilNet_ok _ _, ⟨World.ownsRow_nil _ _ _ _, fun x hx => by cases hx⟩, h.1, h.2.1⟩, ?_⟩
  rw [hv]
  refine List.pairwise_append.2 ⟨?_, List.pairwise_append.2 ⟨List.pairwise_singleton _ _, h.2.2, fun x hx y _ => ?_⟩, fun x hx y _ => .inl (nil_own hx)⟩
  · rw [nilNet_vals]
    exact List.pairwise_cons.2 ⟨fun y _ => aside_nil y, List.pairwise_singleton _ _⟩
  · rw [List.mem_singleton.1 hx]; exact aside_nil y
def ArmsPk (base : Nat) (w : World) (L : List Stil.Arm) (a : Option Addr) (c : Nat) (m : MArm) : Prop :=
  m.kv = .slice a L.length c ∧ ASh (headsT m.tags) w m ∧ NumsAt w m.kps ∧ m.kps.Nodup ∧ (∀ p ∈ m.kps, base ≤ p.1) ∧ (∀ p ∈ m.kps, ¬ headsT m.tags p) ∧
  (∀ p, headsT m.tags p → base ≤ p.1) ∧ ArmsFrom base w (.slice a L.length c) L ∧ ((∀ x ∈ L, Stil.armFits x) → m.kps.length ≤ Stil.treeSize L * 6291460)
theorem ArmsPk.below {base : Nat} {w w' : World} {L : List Stil.Arm} {a : Option Addr} {c : Nat} {m : MArm} (h : ArmsPk base w L a c m) (hb : Below w.heap.size w w') : ArmsPk base w' L a c m := by
  obtain ⟨h0, h1, h2, h3, h4, h5, h6, h7, h8⟩ := h
  exact ⟨h0, h1.below hb, h2.below hb, h3, h4, h5, h6, h7.keep (KeepsUp.of_below hb), h8⟩
theorem ArmsPk.mono {base lo : Nat} {w : World} {L : List Stil.Arm} {a : Option Addr} {c : Nat} {m : MArm} (h : ArmsPk base w L a c m) (hl : lo ≤ base) : ArmsPk lo w L a c m := by
  obtain ⟨h0, h1, h2, h3, h4, h5, h6, h7, h8⟩ := h
  exact ⟨h0, h1, h2, h3, fun p hp => Nat.le_trans hl (h4 p hp), h5, fun p hp => Nat.le_trans hl (h6 p hp), h7.mono hl, h8⟩
theorem ArmsPk.marked {base : Nat} {w w' : World} {L : List Stil.Arm} {a : Option Addr} {c : Nat} {m : MArm} {ps : List Pl} {k : Int} (h : ArmsPk base w L a c m) (hm : Marked w w' ps k) (hp : ∀ p ∈ ps, p.1 < base) : ArmsPk base w' L a c m := by
  obtain ⟨h0, h1, h2, h3, h4, h5, h6, h7, h8⟩ := h
  have hk : KeepsUp base w w' := ⟨hm.1, fun b o hb hz => hm.2.1 (b, o) hz (fun h => by have := hp _ h; simp only at this; omega)⟩
  exact ⟨h0, h1.marked hm (fun p hp1 hq => by have := hp p hp1; have := h6 p hq; omega), h2.marked hm (fun p hp1 hp2 => by have := hp p hp2; have := h4 p hp1; omega), h3, h4, h5, h6, h7.keep hk, h8⟩
theorem ArmsPk.lt {base : Nat} {w : World} {L : List Stil.Arm} {a : Option Addr} {c : Nat} {m : MArm} (h : ArmsPk base w L a c m) : ∀ p ∈ m.kps, p.1 < w.heap.size := fun p hp => (h.2.2.1 p hp).1
theorem ArmsPk.held {base : Nat} {w w' W : World} {L : List Stil.Arm} {a : Option Addr} {c : Nat} {m : MArm} (h : ArmsPk base w L a c m) (hm : Marked w w' m.kps 1) (hW : Below w'.heap.size w' W) (hf : ∀ x ∈ L, Stil.armFits x) (hs : Stil.treeSize L ≤ 2097152) :
    Calls Tryz.prog 12 #[.slice a L.length c, .int .i64 1] W fun e w' => e = .returned (.int .i64 (1 + m.kps.length)) ∧ Below W.heap.size W w' := by
  have hlt := h.lt
  obtain ⟨h0, h1, h2, h3, h4, h5, _, _, h9⟩ := h
  have h10 := h9 hf
  have h11 := Nat.mul_le_mul_right 6291460 hs
  have hlt2 : ∀ p ∈ m.kps, p.1 < w'.heap.size := fun p hp => Nat.lt_of_lt_of_le (hlt p hp) hm.1
  rw [← h0]
  refine (p_heldArms (headsT m.tags) m 1 W ((h1.marked hm h5).below hW) (hm.held.below hW hlt2) (by omega) (by omega)).mono ?_
  rintro e w2 ⟨rfl, rfl⟩
  exact ⟨rfl, Below.refl _ _⟩
end Go.Proofs.YtbllmkmdaenglaaGreatDoor
/- The specification's chapter 4: the normal form of a ladder. -/
namespace Go.Proofs.YtbllmkmdaenglaaGreatDoor
open Go.RowKit Go.Sort Go.BigFrame
def nilArm : MArm := ⟨nilNet, .slice none 0 0, [], .slice none 0 0, []⟩
theorem fault_code (c r : Value) (w : World) : Sem.run Tryz.prog (Instr.field 42 (.agg #[c, r]) 0) w = .ok c w := by kernel_rfl
set_option maxHeartbeats 2000000 in
set_option maxRecDepth 100000 in
theorem s_NormMake (l : List Stil.Arm) (kv : Value) (w : World) (hkv : ArmsAt w kv l) (hl : l.length ≤ 1048576) (hsz : Stil.treeSize l ≤ 1000000000) (hft : ∀ x ∈ l, Stil.armFits x) :
    Calls Tryz.prog 7 #[kv] w fun e w' => ArmsRet w' w.heap.size (Stil.normMake l) e ∧ Below w.heap.size w w' := by
  have HC : Hid (∀ W, Below w.heap.size w W → Calls Tryz.prog 18 #[kv] W fun e w' => e = .returned (.agg #[.int .i64 (Stil.treeCheck l).1, .int .i64 (Stil.treeCheck l).2]) ∧ Below W.heap.size W w') := fun W h => s_treeCheck l kv W (hkv.below h) hl hsz hft
  have HAK : Hid (∀ W, Below w.heap.size w W → ArmsAt W kv l) := fun W h => hkv.below h
  have hcb := Stil.check_bound l
  obtain ⟨p0, r0, rfl, hz⟩ := hkv
  by_cases h0 : (Stil.treeCheck l).1 = 0
  · have HN : Hid (Stil.normMake l = l.map Stil.normArm) := if_pos h0
    have HI : Hid (∀ x ∈ l, ∀ (av nv cv kv : Value) (W : World), DevsAt W av x.net.one.args → NetsAt W nv x.net.kids → ElemsAt W cv x.coils → ArmsAt W kv x.kids → Calls Tryz.prog 19 #[.agg #[.int .i64 x.net.kind, .int .i64 x.net.one.op, av, nv, cv, kv]] W fun e w' => ArmRet w' W.heap.size (Stil.normArm x) e ∧ Below W.heap.size W w') := fun x hx => s_l4Arm x (hft x hx) (by have := (Stil.rung_right h0 hx).2; omega) (Stil.rung_right h0 hx).1
    have hl40 := (Stil.check_zero h0).2.1
    rw [HN.out]
    rw [h0] at HC
    obtain ⟨rr, hrr⟩ : ∃ r, r = (Stil.treeCheck l).2 := ⟨_, rfl⟩
    rw [← hrr] at HC
    clear hz hft HN h0 hcb hrr hsz
    have hfc := fault_code
    go_enter Tryz.func7, Tryz.ntmps7
    go_wp2_with (go_at_call 18; refine (HC.out _ (by (repeat (first | with_reducible exact Below.refl _ _ | with_reducible assumption | with_reducible refine bl_set (by first | exact Nat.le_refl _ | (simp; done) | (simp; omega) | omega) ?_ _ | with_reducible refine bl_alloc ?_ _ | with_reducible refine bl_drewN ?_ _ | with_reducible refine bl_drew ?_ | with_reducible refine bl_grow ?_ _ _ | with_reducible refine bl_call ?_ (by assumption))))).mono ?_; rintro e w1 ⟨rfl, hb1⟩)
    go_loopw [3, 4] (fun d i wr => ∃ (j : Nat) (ms : List MArm) (ra : Option Addr) (rc : Nat), j ≤ l.length ∧ i = .int .i64 j ∧ d = .slice ra ms.length rc ∧ ms.map MArm.arm = (l.take j).map Stil.normArm ∧ ARow wr w.heap.size (.slice ra ms.length rc) ms ∧ Below w.heap.size w wr) (fun _ i _ => l.length - (intOf i).toNat)
    case atStart =>
      refine ⟨0, [], some ⟨w1.heap.size, 0, none⟩, 0, by omega, rfl, rfl, rfl, ⟨?_, (fun m hm => by cases hm), List.pairwise_singleton _ _⟩, by (repeat (first | with_reducible exact Below.refl _ _ | with_reducible assumption | with_reducible refine bl_set (by first | exact Nat.le_refl _ | (simp; done) | (simp; omega) | omega) ?_ _ | with_reducible refine bl_alloc ?_ _ | with_reducible refine bl_drewN ?_ _ | with_reducible refine bl_drew ?_ | with_reducible refine bl_grow ?_ _ _ | with_reducible refine bl_call ?_ (by assumption)))⟩
      have := World.ownsRow_lit (base := w.heap.size) (e := 52) (size := 6) w1 #[] 0 hb1.size (by unfold maxLen; omega) rfl
      simpa [aCells] using this
    case round =>
      clear hb1
      obtain ⟨j, ms, ra, rc, hj, rfl, rfl, hmn, hmr, hb⟩ := hrel
      have HMN : Hid (ms.map MArm.arm = (l.take j).map Stil.normArm) := hmn
      have HMR : Hid (ARow wr w.heap.size (.slice ra ms.length rc) ms) := hmr
      clear hmn hmr
      by_cases hlt : j < l.length
      · have hml : ms.length = j := by
          have h1 := congrArg List.length HMN.out
          simp only [List.length_map, List.length_take] at h1
          omega
        have hat := HAK.out wr hb
        obtain ⟨pa, pc, hpe, hpc⟩ := hat
        simp only [Value.slice.injEq, true_and] at hpe
        obtain ⟨rfl, rfl⟩ := hpe
        obtain ⟨b, o, rfl, hbl, hn⟩ := hpc j hlt
        obtain ⟨hnn, cv', kk', x4, x5, hcv, hkv⟩ := hn.open
        obtain ⟨x0, x1, av', nv', x2, x3, hav, hnv⟩ := hnn.open
        have HI2 : Hid (∀ W, Below wr.heap.size wr W → Calls Tryz.prog 19 #[.agg #[.int .i64 l[j].net.kind, .int .i64 l[j].net.one.op, av', nv', cv', kk']] W fun e w' => ArmRet w' W.heap.size (Stil.normArm l[j]) e ∧ Below W.heap.size W w') := fun W h => HI.out l[j] (List.getElem_mem hlt) av' nv' cv' kk' W (hav.below h) (hnv.below h) (hcv.below h) (hkv.below h)
        have HTS : Hid ((l.take (j + 1)).map Stil.normArm = (l.take j).map Stil.normArm ++ [Stil.normArm l[j]]) := by show _ = _; rw [List.take_succ_eq_append_getElem hlt, List.map_append]; rfl
        obtain ⟨x, hx⟩ : ∃ x, x = l[j] := ⟨_, rfl⟩
        rw [← hx] at HI2 HTS x0 x1 hav hnv hcv hkv
        obtain ⟨q0, s0, rfl, _⟩ := hav
        obtain ⟨q1, s1', rfl, _⟩ := hnv
        obtain ⟨q2, s2', rfl, _⟩ := hcv
        obtain ⟨q3, s3', rfl, _⟩ := hkv
        have HVL : Hid (∀ k, (Value.slice ra ms.length rc).ownBlock = some k → w.heap.size ≤ k) := fun k hk => (HMR.out.1.lt k hk).1
        have hl2 : ms.length + [nilArm].length ≤ 1000000 := by simp only [List.length_singleton]; omega
        have hj1 : (0 : Int) ≤ (j : Int) := by omega
        have hj2 : (j : Int) < (l.length : Int) := by omega
        clear hx hn hnn hpc hml
        go_wp2_with (first | (go_at_call 19; refine (HI2.out _ (by (repeat (first | with_reducible exact Below.refl _ _ | with_reducible assumption | with_reducible refine bl_set (by first | exact Nat.le_refl _ | (simp; done) | (simp; omega) | omega) ?_ _ | with_reducible refine bl_alloc ?_ _ | with_reducible refine bl_drewN ?_ _ | with_reducible refine bl_drew ?_ | with_reducible refine bl_grow ?_ _ _ | with_reducible refine bl_call ?_ (by assumption))))).mono ?_; rintro e w5 ⟨⟨mk, mop, mds, xa, ya, mns, xb, yb, mcs, xc, yc, mks, xd, yd, rfl, hmo, hmn⟩, hb5⟩; have HMO : Hid (AOwn w5 wr.heap.size (MArm.mk ⟨mk, mop, mds, .slice xa mds.length ya, .slice xb mns.length yb, mns⟩ (.slice xc mcs.length yc) mcs (.slice xd mks.length yd) mks)) := hmo; have HMN5 : Hid ((MArm.mk ⟨mk, mop, mds, .slice xa mds.length ya, .slice xb mns.length yb, mns⟩ (.slice xc mcs.length yc) mcs (.slice xd mks.length yd) mks).arm = Stil.normArm x) := hmn; clear hmo hmn) | (at_builtin; refine wpList_grow_arms rfl _ _ rfl w.heap.size w.heap.size ra rc ms [(MArm.mk ⟨mk, mop, mds, .slice xa mds.length ya, .slice xb mns.length yb, mns⟩ (.slice xc mcs.length yc) mcs (.slice xd mks.length yd) mks)] _ 1 rfl rfl ((HMR.out.below hb5).below (below_alloc _ _)) (fun _ => ⟨_, rfl, by exact cells6a⟩) (fun m hm => by rw [List.mem_singleton.1 hm]; exact ((HMO.out.1.le hb.size).below (below_alloc _ _))) (HMR.out.apart (w1 := w5) (b1 := wr.heap.size) (fun m hm => by rw [List.mem_singleton.1 hm]; exact HMO.out.1) (Nat.le_refl _) (by rw [aVals_one]; exact HMO.out.2)) hl2 (by have := hb5.size; have := hb.size; simp only [World.size_alloc]; omega) (by have := hb5.size; have := hb.size; simp only [World.size_alloc]; omega) HVL.out ?_; intro a6 c6 w6 hmr6 hb6 hv6; have HM6 : Hid (ARow w6 w.heap.size (.slice a6 (ms.length + 1) c6) (ms ++ [(MArm.mk ⟨mk, mop, mds, .slice xa mds.length ya, .slice xb mns.length yb, mns⟩ (.slice xc mcs.length yc) mcs (.slice xd mks.length yd) mks)])) := hmr6; have HB6 : Hid (Below w.heap.size w w6) := (bl_alloc (bl_call hb hb5) _).trans hb6; clear hmr6 hb6 hv6))
        refine ⟨⟨j + 1, ms ++ [(MArm.mk ⟨mk, mop, mds, .slice xa mds.length ya, .slice xb mns.length yb, mns⟩ (.slice xc mcs.length yc) mcs (.slice xd mks.length yd) mks)], a6, c6, by omega, by go_num, by simp, ?_, by rw [List.length_append]; exact HM6.out, HB6.out⟩, by simp [intOf]; omega⟩
        rw [HTS.out, List.map_append, HMN.out, List.map_singleton, HMN5.out]
      · obtain rfl : j = l.length := by omega
        have hmn := HMN.out
        rw [List.take_length] at hmn
        have HMN2 : Hid (ms.map MArm.arm = l.map Stil.normArm) := hmn
        clear hmn
        go_wp2
        go_ret
        exact ⟨⟨ra, rc, ms, rfl, HMN2.out, HMR.out⟩, hb⟩
  · have HN : Hid (Stil.normMake l = []) := if_neg h0
    rw [HN.out]
    obtain ⟨c, hc⟩ : ∃ c, c = (Stil.treeCheck l).1 := ⟨_, rfl⟩
    obtain ⟨rr, hrr⟩ : ∃ r, r = (Stil.treeCheck l).2 := ⟨_, rfl⟩
    rw [← hc, ← hrr] at HC
    rw [← hc] at hcb h0
    have hcp : (0 : Int) < c := by omega
    clear hz hft HN h0 HAK hc hrr hcb
    have hfc := fault_code
    go_enter Tryz.func7, Tryz.ntmps7
    go_wp2_with (go_at_call 18; refine (HC.out _ (by (repeat (first | with_reducible exact Below.refl _ _ | with_reducible assumption | with_reducible refine bl_set (by first | exact Nat.le_refl _ | (simp; done) | (simp; omega) | omega) ?_ _ | with_reducible refine bl_alloc ?_ _ | with_reducible refine bl_drewN ?_ _ | with_reducible refine bl_drew ?_ | with_reducible refine bl_grow ?_ _ _ | with_reducible refine bl_call ?_ (by assumption))))).mono ?_; rintro e w1 ⟨rfl, hb1⟩)
    go_ret
    exact ⟨⟨none, 0, [], rfl, rfl, ARow.nil _ _⟩, by (repeat (first | with_reducible exact Below.refl _ _ | with_reducible assumption | with_reducible refine bl_set (by first | exact Nat.le_refl _ | (simp; done) | (simp; omega) | omega) ?_ _ | with_reducible refine bl_alloc ?_ _ | with_reducible refine bl_drewN ?_ _ | with_reducible refine bl_drew ?_ | with_reducible refine bl_grow ?_ _ _ | with_reducible refine bl_call ?_ (by assumption)))⟩
end Go.Proofs.YtbllmkmdaenglaaGreatDoor
