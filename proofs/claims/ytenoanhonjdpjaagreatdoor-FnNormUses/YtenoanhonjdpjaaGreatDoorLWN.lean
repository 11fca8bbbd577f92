/- W1, W2: texts put together. -/
import Derived.Test.YtenoanhonjdpjaaGreatDoorGt
import Derived.Deep.RegionHeld3
import Derived.Test.YtenoanhonjdpjaaGreatDoorGm
import Derived.Test.YtenoanhonjdpjaaGreatDoorZ9
import Derived.Deep.LoopGhost
import Derived.Test.YtenoanhonjdpjaaGreatDoorGY
import Derived.Test.YtenoanhonjdpjaaGreatDoorD7c
import Derived.Test.YtenoanhonjdpjaaGreatDoorD8
import Derived.Test.YtenoanhonjdpjaaGreatDoorD9
import Derived.Test.YtenoanhonjdpjaaGreatDoorGU
import Derived.Deep.RegionWith
import Derived.Shelf.Abstract
import Derived.Test.YtenoanhonjdpjaaGreatDoorG4
import Derived.Test.YtenoanhonjdpjaaGreatDoorGV
import Derived.Test.YtenoanhonjdpjaaGreatDoorHf
/- The specification's chapter 4: a copy of coils. -/
namespace Go.Proofs.YtenoanhonjdpjaaGreatDoor
open Go.RowKit Go.Sort Go.BigFrame
end Go.Proofs.YtenoanhonjdpjaaGreatDoor
/- W3a, W3: texts put together. -/
/- The specification's chapter 4: an arm takes a kid more. -/
namespace Go.Proofs.YtenoanhonjdpjaaGreatDoor
open Go.RowKit Go.Sort Go.BigFrame
end Go.Proofs.YtenoanhonjdpjaaGreatDoor
/- Z10, Z11, W4: texts put together. -/
set_option maxHeartbeats 4000000
set_option maxRecDepth 100000
/- The program's chapter 4: the normal form of a ladder. -/
namespace Go.Proofs.YtenoanhonjdpjaaGreatDoor
open Go.RowKit Go.Sort Go.BigFrame
theorem i_accepted (l : List Stil.Arm) (kv : Value) (w : World) (hr : RowsAt w) (hg : ErrTypeAt w) (hkv : ArmsAt w kv l) (hl : l.length ≤ 1048576) (hsz : Stil.treeSize l ≤ 1000000000) (hft : ∀ x ∈ l, Stil.armFits x) :
  Calls Tryz.prog 49 #[kv] w fun e w' => e = .returned (.bool (decide ((Stil.treeCheck l).1 = 0))) ∧ Below w.heap.size w w' := by
 have HC : Hid (∀ W, Below w.heap.size w W → Calls Tryz.prog 10 #[kv] W fun e w' => e = .returned (.agg #[.int .i64 (Stil.treeCheck l).1, .int .i64 (Stil.treeCheck l).2]) ∧ Below W.heap.size W w') := fun W h => i_treeCheck l kv W (hr.below h) (hg.below h) (hkv.below h) hl hsz hft
 have H0 : Hid ((Stil.treeCheck l).1 = 0 → (Stil.treeCheck l).2 = 0) := fun h => (Stil.check_zero h).1
 obtain ⟨p0, r0, rfl, hz⟩ := hkv
 obtain ⟨c, hc⟩ : ∃ c, c = (Stil.treeCheck l).1 := ⟨_, rfl⟩
 obtain ⟨r, hrr⟩ : ∃ r, r = (Stil.treeCheck l).2 := ⟨_, rfl⟩
 rw [← hc, ← hrr] at HC H0
 rw [← hc]
 clear hz hc hrr hr hg hft
 go_enter Tryz.func49, Tryz.ntmps49
 go_wp2_with (go_at_call 10; refine (HC.out _ blA).mono ?_; rintro e w1 ⟨rfl, hb1⟩)
 all_goals go_ret
 all_goals refine ⟨ret_bool ?_, blA⟩
 all_goals (have h0 := H0.out; by_cases hc0 : c = 0 <;> simp_all)
/-- A slice of arms that is answered: it owns its memory. -/
def ArmsRet (w : World) (base : Nat) (l : List Stil.Arm) (e : Ending) : Prop := ∃ (a : Option Addr) (c : Nat) (ms : List MArm), e = .returned (.slice a ms.length c) ∧ ms.map MArm.arm = l ∧ ARow w base (.slice a ms.length c) ms
theorem i_NormMake (l : List Stil.Arm) (kv : Value) (w : World) (hr : RowsAt w) (hg : ErrTypeAt w) (hkv : ArmsAt w kv l) (hl : l.length ≤ 1048576) (hsz : Stil.treeSize l ≤ 1000000000) (hft : ∀ x ∈ l, Stil.armFits x) :
  Calls Tryz.prog 19 #[kv] w fun e w' => ArmsRet w' w.heap.size (Stil.normMake l) e ∧ Below w.heap.size w w' := by
 have HC : Hid (∀ W, Below w.heap.size w W → Calls Tryz.prog 49 #[kv] W fun e w' => e = .returned (.bool (decide ((Stil.treeCheck l).1 = 0))) ∧ Below W.heap.size W w') := fun W h => i_accepted l kv W (hr.below h) (hg.below h) (hkv.below h) hl hsz hft
 have HE : Hid ((Stil.treeCheck l).1 = 0 → ∀ W, Below w.heap.size w W → Calls Tryz.prog 50 #[kv, .func (.func 51) #[] #[]] W fun e w' => ∃ (a : Option Addr) (c : Nat) (ms : List MArm), e = .returned (.slice a ms.length c) ∧ ms.map MArm.arm = l.map Stil.normArm ∧ ARow w' W.heap.size (.slice a ms.length c) ms ∧ Below W.heap.size W w') := by
  intro h0 W h
  exact i_normEachA l (fun x hx => i_normArm x (hft x hx) (by have := (Stil.rung_right h0 hx).2; omega)) kv W (hkv.below h) (by have := (Stil.check_zero h0).2.1; omega)
 obtain ⟨p0, r0, rfl, hz⟩ := hkv
 by_cases h0 : (Stil.treeCheck l).1 = 0
 ·have HN : Hid (Stil.normMake l = l.map Stil.normArm) := if_pos h0
  rw [HN.out]
  have HE2 := HE.out h0
  have HE3 : Hid (∀ W, Below w.heap.size w W → Calls Tryz.prog 50 #[.slice p0 l.length r0, .func (.func 51) #[] #[]] W fun e w' => ∃ (a : Option Addr) (c : Nat) (ms : List MArm), e = .returned (.slice a ms.length c) ∧ ms.map MArm.arm = l.map Stil.normArm ∧ ARow w' W.heap.size (.slice a ms.length c) ms ∧ Below W.heap.size W w') := HE2
  rw [decide_eq_true h0] at HC
  clear hz hr hg hft HN HE HE2 h0
  go_enter Tryz.func19, Tryz.ntmps19
  go_wp2_with (first | (go_at_call 49; refine (HC.out _ blA).mono ?_; rintro e w1 ⟨rfl, hb1⟩) | (go_at_call 50; refine (HE3.out _ blA).mono ?_; rintro e w2 ⟨ra, rc, ms, rfl, hmn, hmr, hb2⟩; have HMN : Hid (ms.map MArm.arm = l.map Stil.normArm) := hmn; have HMR : Hid (ARow w2 w1.heap.size (.slice ra ms.length rc) ms) := hmr; clear hmn hmr))
  go_ret
  exact ⟨⟨ra, rc, ms, rfl, HMN.out, HMR.out.le hb1.size⟩, blA⟩
 ·have HN : Hid (Stil.normMake l = []) := if_neg h0
  rw [HN.out]
  rw [decide_eq_false h0] at HC
  clear hz hr hg hft HN HE h0
  go_enter Tryz.func19, Tryz.ntmps19
  go_wp2_with (go_at_call 49; refine (HC.out _ blA).mono ?_; rintro e w1 ⟨rfl, hb1⟩)
  go_ret
  exact ⟨⟨none, 0, [], rfl, rfl, ARow.nil _ _⟩, blA⟩
end Go.Proofs.YtenoanhonjdpjaaGreatDoor
/- An answered ladder: how it lies, its places, what it holds. -/
namespace Stil
theorem normMake_fits {l : List Arm} (h : ∀ x ∈ l, armFits x) : (∀ x ∈ normMake l, armFits x) ∧ treeSize (normMake l) ≤ 400 ∧ (normMake l).length ≤ 40 := by
 unfold normMake
 by_cases h0 : (treeCheck l).1 = 0
 ·rw [if_pos h0]
  have hx : ∀ x ∈ l, midOk (armSize x) (normArm x) := fun x hx => normArm_ok x (h x hx) (by have := (rung_right h0 hx).2; omega)
  refine ⟨fun x hx2 => ?_, ?_, ?_⟩
  ·obtain ⟨y, hy, rfl⟩ := List.mem_map.1 hx2
   exact (hx y hy).1
  ·refine Nat.le_trans ?_ (check_zero h0).2.2.1
   clear h h0
   unfold treeSize
   induction l with
   | nil => simp
   | cons x r ih =>
    have a := (hx x (by simp)).2
    have b := ih (fun y hy => hx y (List.mem_cons_of_mem _ hy))
    simp only [List.map_cons, List.sum_cons] at b ⊢
    omega
  ·rw [List.length_map]; exact (check_zero h0).2.1
 ·rw [if_neg h0]
  exact ⟨(fun x hx => by cases hx), by simp [treeSize], by simp⟩
end Stil
namespace Go.Proofs.YtenoanhonjdpjaaGreatDoor
open Go.RowKit Go.Sort Go.BigFrame
/-- The dummy arm whose kids are the row. -/
def rowArm (v : Value) (ars : List MArm) : MArm := ⟨nilNet, .slice none 0 0, [], v, ars⟩
theorem rowArm_own {w : World} {base : Nat} {v : Value} {ars : List MArm} (h : ARow w base v ars) : AOwn w base (rowArm v ars) := by
 have hv : (rowArm v ars).vals = nilNet.vals ++ (([.slice none 0 0]) ++ (v :: aVals ars)) := MArm.vals_eq _
 refine ⟨(AOk_iff _ _ _).2 ⟨nilNet_ok _ _, ⟨World.ownsRow_nil _ _ _ _, fun x hx => by cases hx⟩, h.1, h.2.1⟩, ?_⟩
 rw [hv]
 refine List.pairwise_append.2 ⟨?_, List.pairwise_append.2 ⟨List.pairwise_singleton _ _, h.2.2, fun x hx y _ => ?_⟩, fun x hx y _ => .inl (nil_own hx)⟩
 ·rw [nilNet_vals]
  exact List.pairwise_cons.2 ⟨fun y _ => aside_nil y, List.pairwise_singleton _ _⟩
 ·rw [List.mem_singleton.1 hx]; exact aside_nil y
end Go.Proofs.YtenoanhonjdpjaaGreatDoor
/- D10, D11: texts put together. -/
/- Contracts of the specification's draws: l2Any, l9Open. -/
namespace Go.Proofs.YtenoanhonjdpjaaGreatDoor
open Go.RowKit Go.Sort Go.BigFrame
/-- A slice of bytes in memory. -/
def BytesAt (w : World) (v : Value) : Prop := ∃ (a : Option Addr) (len cap : Nat), v = .slice a len cap ∧ len ≤ cap ∧ cap ≤ 9223372036854775807 ∧ ∀ i, i < len → ∃ b o z, a = some ⟨b, o, none⟩ ∧ b < w.heap.size ∧ w.cell? ⟨b, o + i, none⟩ = some (.int .u8 z) ∧ 0 ≤ z ∧ z < 256
set_option maxHeartbeats 1000000 in
set_option maxRecDepth 100000 in
theorem s_l9Open (v : Value) (w : World) (hv : BytesAt w v) :
  Calls Tryz.prog 29 #[v] w fun e w' => e = .returned (.pointer (some ⟨w.heap.size, 0, none⟩)) ∧ RdAt w' w.heap.size 0 ∧ Below w.heap.size w w' := by
 obtain ⟨a, len, cap, rfl, hlc, hcap, hx⟩ := hv
 have HX : Hid (∀ i, i < len → ∃ b o z, a = some ⟨b, o, none⟩ ∧ b < w.heap.size ∧ w.cell? ⟨b, o + i, none⟩ = some (.int .u8 z) ∧ 0 ≤ z ∧ z < 256) := hx
 clear hx
 have done : ∀ n c : Nat, n ≤ len → n ≤ 2000 → RdAt (w.alloc (.cells #[.slice a n c, .int .i64 0] 94)) w.heap.size 0 := by
  intro n c h1 h2
  refine ⟨a, n, c, 0, by simp [go_sem], by simp [go_sem], by simp [go_sem], Nat.le_refl _, h2, fun i hi => ?_⟩
  obtain ⟨b, o, z, h3, h4, h5, h6, h7⟩ := HX.out i (by omega)
  exact ⟨b, o, z, h3, h4, by rw [(below_alloc w _).cell (p := ⟨b, o + i, none⟩) h4]; exact h5, h6, h7⟩
 by_cases hl : 2000 < len
 ·cases a with
  | none => obtain ⟨b, o, z, h, _⟩ := HX.out 0 (by omega); cases h
  | some ad =>
   go_enter Tryz.func29, Tryz.ntmps29
   go_wp2
   go_ret
   exact ⟨rfl, done _ _ (by omega) (by omega), below_alloc _ _⟩
 ·go_enter Tryz.func29, Tryz.ntmps29
  go_wp2
  go_ret
  exact ⟨rfl, done _ _ (by omega) (by omega), below_alloc _ _⟩
theorem BytesAt.below {w W : World} {u : Value} (hu : BytesAt w u) (h : Below w.heap.size w W) : BytesAt W u := by
 obtain ⟨a, len, cap, rfl, h1, h2, h3⟩ := hu
 refine ⟨a, len, cap, rfl, h1, h2, fun i hi => ?_⟩
 obtain ⟨b, o, z, e1, e2, e3, e4⟩ := h3 i hi
 exact ⟨b, o, z, e1, Nat.lt_of_lt_of_le e2 h.size, by rw [h.cell (p := ⟨b, o + i, none⟩) e2]; exact e3, e4⟩
end Go.Proofs.YtenoanhonjdpjaaGreatDoor
/- I6, I6b, I6d, I6c, I6e, I6f, I6g: texts put together. -/
/- Contracts of the program's chapter 3: slices.Equal over operands, two contacts or coils that are the same. -/
namespace Go.Proofs.YtenoanhonjdpjaaGreatDoor
open Go.RowKit Go.Sort Go.BigFrame
end Go.Proofs.YtenoanhonjdpjaaGreatDoor
/- Ladders that were drawn: the functions over them, in one form. -/
namespace Go.Proofs.YtenoanhonjdpjaaGreatDoor
open Go.RowKit Go.Sort Go.BigFrame
/-- A ladder that a value stands for, from a world on; nothing in it is great. -/
def Lad (w : World) (v : Value) (l : List Stil.Arm) : Prop := ArmsAt w v l ∧ (∀ x ∈ l, Stil.armFits x) ∧ l.length ≤ 1048576 ∧ Stil.treeSize l ≤ 1000000000 ∧ (∀ d, Stil.treeUses d l ≤ 4194304)
theorem Lad.below {w W : World} {v : Value} {l : List Stil.Arm} (h : Lad w v l) (hb : Below w.heap.size w W) : Lad W v l := ⟨h.1.below hb, h.2⟩
theorem sum_cap {α : Type} (f : α → Nat) (l : List α) (N : Nat) (h : ∀ x ∈ l, f x ≤ N) : (l.map f).sum ≤ l.length * N := by
 induction l with
 | nil => simp
 | cons x r ih =>
  have h1 := h x (by simp)
  have h2 := ih (fun y hy => h y (by simp [hy]))
  rw [List.map_cons, List.sum_cons, List.length_cons, Nat.add_mul]
  omega
theorem lad_of {w : World} {v : Value} {l : List Stil.Arm} {N k : Nat} (h : ArmsAt w v l) (ht : ∀ a ∈ l, ATame a ∧ Stil.armSz a ≤ N) (hl : l.length ≤ k) (hN : N ≤ 10000) (hk : k ≤ 300) : Lad w v l := by
 have hb : ∀ x ∈ l, Stil.armFits x := fun x hx => Stil.armFits_of x (ATame.wf x (ht x hx).1 (by have := (ht x hx).2; omega)) (by have := (ht x hx).2; omega)
 refine ⟨h, hb, by omega, ?_, fun d => ?_⟩
 ·have h1 : Stil.treeSize l ≤ l.length * 20002 := sum_cap Stil.armSize l 20002 fun x hx => by
   have := Stil.armSize_le x
   have := (ht x hx).2
   omega
  have h2 : l.length * 20002 ≤ 300 * 20002 := Nat.mul_le_mul_right _ (by omega)
  omega
 ·have h1 : Stil.treeUses d l ≤ l.length * 10000 := sum_cap (Stil.armUses d) l 10000 fun x hx => by
   have := Stil.armUses_le d x
   have := (ht x hx).2
   omega
  have h2 : l.length * 10000 ≤ 300 * 10000 := Nat.mul_le_mul_right _ (by omega)
  omega
theorem i_uses {W : World} {v : Value} {l : List Stil.Arm} (d : Stil.Dev) (h : Lad W v l) : Calls Tryz.prog 17 #[v, .agg #[.int .i64 d.kind, .int .i64 d.n, .int .i64 d.p]] W fun e w' => e = .returned (.int .i64 (Stil.treeUses d l)) ∧ Below W.heap.size W w' :=
 i_treeUses d l v W h.1 h.2.1 h.2.2.1 h.2.2.2.1 (h.2.2.2.2 d)
/-- A ladder from a world on. -/
def LadF (w : World) (v : Value) (l : List Stil.Arm) : Prop := ∀ W, Below w.heap.size w W → Lad W v l
theorem ladF {w : World} {v : Value} {l : List Stil.Arm} (h : Lad w v l) : LadF w v l := fun _ hb => h.below hb
theorem LadF.later {w W : World} {v : Value} {l : List Stil.Arm} (h : LadF w v l) (hb : Below w.heap.size w W) : LadF W v l := fun _ h2 => h _ (hb.trans (h2.mono hb.size))
theorem i_usesG {w W : World} {v : Value} {l : List Stil.Arm} (d : Stil.Dev) (h1 : LadF w v l) (hb : Below w.heap.size w W) : Calls Tryz.prog 17 #[v, .agg #[.int .i64 d.kind, .int .i64 d.n, .int .i64 d.p]] W fun e w' => e = .returned (.int .i64 (Stil.treeUses d l)) ∧ Below W.heap.size W w' := i_uses d (h1 W hb)
end Go.Proofs.YtenoanhonjdpjaaGreatDoor
/- Ladders that were drawn: their normal forms, in one form. -/
namespace Go.Proofs.YtenoanhonjdpjaaGreatDoor
open Go.RowKit Go.Sort Go.BigFrame
theorem ret_arms {w : World} {base : Nat} {L : List Stil.Arm} {e : Ending} (h : ArmsRet w base L e) : ∃ (a : Option Addr) (c : Nat), e = .returned (.slice a L.length c) ∧ ArmsAt w (.slice a L.length c) L := by
 obtain ⟨a, c, ms, he, hm, hr⟩ := h
 have hl : ms.length = L.length := by rw [← hm, List.length_map]
 refine ⟨a, c, by rw [he, hl], ?_⟩
 have f4 := (AOk.from _ (rowArm_own hr).1).2.2.2
 have hk : (rowArm (.slice a ms.length c) ms).arm.kids = L := by rw [MArm.arm_eq]; exact hm
 rw [hk] at f4
 rw [← hl]
 exact f4.at
theorem lad_norm {w W : World} {v u : Value} {l : List Stil.Arm} (h : Lad w v l) (hu : ArmsAt W u (Stil.normMake l)) : Lad W u (Stil.normMake l) := by
 by_cases h0 : (Stil.treeCheck l).1 = 0
 ·obtain ⟨_, h2, h3, _, h5⟩ := Stil.normMake_zero h.2.1 h0
  have h6 := h.2.2
  exact ⟨hu, h5, by omega, by omega, fun d => by rw [Stil.normMake_uses d h0]; exact h6.2.2 d⟩
 ·have e : Stil.normMake l = [] := if_neg h0
  rw [e] at hu ⊢
  exact ⟨hu, fun _ hx => (by cases hx), by simp, by simp [Stil.treeSize], fun d => by simp [Stil.treeUses]⟩
def MadeAt (w : World) (l : List Stil.Arm) (e : Ending) (w' : World) : Prop := ∃ (a : Option Addr) (c : Nat), e = .returned (.slice a (Stil.normMake l).length c) ∧ LadF w' (.slice a (Stil.normMake l).length c) (Stil.normMake l) ∧ Below w.heap.size w w'
theorem i_makeG {w W : World} {v : Value} {l : List Stil.Arm} (hr : ∀ W, Below w.heap.size w W → RowsAt W ∧ ErrTypeAt W) (h1 : LadF w v l) (hb : Below w.heap.size w W) : Calls Tryz.prog 19 #[v] W (MadeAt W l) := by
 have h := h1 W hb
 refine (i_NormMake l v W (hr W hb).1 (hr W hb).2 h.1 h.2.2.1 h.2.2.2.1 h.2.1).mono ?_
 rintro e w' ⟨hm, hb2⟩
 obtain ⟨a, c, he, ha⟩ := ret_arms hm
 exact ⟨a, c, he, ladF (lad_norm h ha), hb2⟩
theorem s_checkG {w W : World} {v : Value} {l : List Stil.Arm} (h1 : LadF w v l) (hb : Below w.heap.size w W) : Calls Tryz.prog 11 #[v] W fun e w' => e = .returned (.agg #[.int .i64 (Stil.treeCheck l).1, .int .i64 (Stil.treeCheck l).2]) ∧ Below W.heap.size W w' :=
 have h := h1 W hb
 s_treeCheck l v W h.1 h.2.2.1 h.2.2.2.1 h.2.1
theorem s_usesG {w W : World} {v : Value} {l : List Stil.Arm} (d : Stil.Dev) (h1 : LadF w v l) (hb : Below w.heap.size w W) : Calls Tryz.prog 24 #[v, .agg #[.int .i64 d.kind, .int .i64 d.n, .int .i64 d.p]] W fun e w' => e = .returned (.int .i64 (Stil.treeUses d l)) ∧ Below W.heap.size W w' :=
 have h := h1 W hb
 s_treeUses d l h.2.2.1 h.2.1 (by have := h.2.2.2.2 d; omega) v W h.1
theorem fault_fld (x y : Value) (w : World) : Sem.run Tryz.prog (Instr.field 26 (.agg #[x, y]) 0) w = .ok x w := by kernel_rfl
end Go.Proofs.YtenoanhonjdpjaaGreatDoor
