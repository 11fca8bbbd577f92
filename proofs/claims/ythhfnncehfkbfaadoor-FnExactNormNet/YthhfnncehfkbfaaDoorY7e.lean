/- The program's chapter 4: the form of each of some nets. -/
import Derived.Test.YthhfnncehfkbfaaDoorY7b
namespace Go.Proofs.YthhfnncehfkbfaaDoor
open Go.RowKit Go.Sort Go.BigFrame
set_option maxHeartbeats 2000000 in
set_option maxRecDepth 100000 in
theorem i_each1 (x : Stil.Net) (B base lo : Nat) (ra : Option Addr) (rc : Nat) (ms : List MNet) (av kv : Value) (w : World) (ih : ∀ W, Below w.heap.size w W → Calls Tryd.prog 20 #[.agg #[.int .i64 x.kind, .int .i64 x.one.op, av, kv]] W fun e w' => NetRet w' W.heap.size (Stil.normNet x) e ∧ Below W.heap.size W w')
    (hav : DevsAt w av x.one.args) (hkv : NetsAt w kv x.kids) (hbx : w.cell? ⟨B, 0, none⟩ = some (.func (.func 20) #[] #[])) (hB : B < w.heap.size) (hrow : MRow w base (.slice ra ms.length rc) ms) (hl : ms.length + 1 ≤ 1000000) (hbase : base ≤ w.heap.size) (hlo : lo ≤ w.heap.size) (hvl : ∀ k, (Value.slice ra ms.length rc).ownBlock = some k → lo ≤ k) :
    Calls Tryd.prog 52 #[.slice ra ms.length rc, .agg #[.int .i64 x.kind, .int .i64 x.one.op, av, kv], .pointer (some ⟨B, 0, none⟩)] w fun e w' => ∃ (a : Option Addr) (c : Nat) (m : MNet), e = .returned (.slice a (ms.length + 1) c) ∧ m.net = Stil.normNet x ∧ MRow w' base (.slice a (ms.length + 1) c) (ms ++ [m]) ∧ Below lo w w' ∧ ∀ k, (Value.slice a (ms.length + 1) c).ownBlock = some k → lo ≤ k := by
  have IH : Hid (∀ W, Below w.heap.size w W → Calls Tryd.prog 20 #[.agg #[.int .i64 x.kind, .int .i64 x.one.op, av, kv]] W fun e w' => NetRet w' W.heap.size (Stil.normNet x) e ∧ Below W.heap.size W w') := ih
  have HMR : Hid (MRow w base (.slice ra ms.length rc) ms) := hrow
  have HVL : Hid (∀ k, (Value.slice ra ms.length rc).ownBlock = some k → lo ≤ k) := hvl
  obtain ⟨p0, r0, rfl, hz8⟩ := hav
  obtain ⟨p1, r1, rfl, hz9⟩ := hkv
  clear hz8 hz9 ih hrow hvl
  obtain ⟨N, hN⟩ : ∃ N, N = Stil.normNet x := ⟨_, rfl⟩
  rw [← hN] at IH ⊢
  clear hN
  go_enter Tryd.func52, Tryd.ntmps52
  go_wp2_with (first | (go_at_call 20; refine (IH.out _ (by (repeat (first | with_reducible exact Below.refl _ _ | with_reducible assumption | with_reducible refine bl_set (by first | exact Nat.le_refl _ | (simp; done) | (simp; omega) | omega) ?_ _ | with_reducible refine bl_alloc ?_ _ | with_reducible refine bl_drewN ?_ _ | with_reducible refine bl_drew ?_ | with_reducible refine bl_grow ?_ _ _ | with_reducible refine bl_call ?_ (by assumption))))).mono ?_; rintro e w1 ⟨⟨mk, mop, mds, s0, t0, s1, t1, mks, rfl, hmo, hmn⟩, hb1⟩; have hbw1 : Below w.heap.size w w1 := (by (repeat (first | with_reducible exact Below.refl _ _ | with_reducible assumption | with_reducible refine bl_set (by first | exact Nat.le_refl _ | (simp; done) | (simp; omega) | omega) ?_ _ | with_reducible refine bl_alloc ?_ _ | with_reducible refine bl_drewN ?_ _ | with_reducible refine bl_drew ?_ | with_reducible refine bl_grow ?_ _ _ | with_reducible refine bl_call ?_ (by assumption)))); have hle1 : w.heap.size ≤ w1.heap.size := hbw1.size; have HMO : Hid (MOwn w1 w.heap.size ⟨mk, mop, mds, .slice s0 mds.length t0, .slice s1 mks.length t1, mks⟩) := hmo.le (by simp); have HMN : Hid ((MNet.mk mk mop mds (.slice s0 mds.length t0) (.slice s1 mks.length t1) mks).net = N) := hmn; clear hmo hmn) | (at_builtin; refine wpList_grow_nets rfl _ _ rfl base lo ra rc ms [MNet.mk mk mop mds (.slice s0 mds.length t0) (.slice s1 mks.length t1) mks] _ 1 rfl rfl ((HMR.out.below hbw1).below (below_alloc _ _)) (fun _ => ⟨_, rfl, by exact cells4e (by simp)⟩) (fun m hm => by rw [List.mem_singleton.1 hm]; exact (HMO.out.1.le hbase).below (below_alloc _ _)) (HMR.out.apart (w1 := w1) (b1 := w.heap.size) (fun m hm => by rw [List.mem_singleton.1 hm]; exact HMO.out.1) (Nat.le_refl _) (by rw [mVals_one]; exact HMO.out.2)) (by simp only [List.length_singleton]; exact hl) (by simp only [World.size_alloc]; omega) (by simp only [World.size_alloc]; omega) HVL.out ?_; intro a6 c6 w6 hmr6 hb6 hv6; have HM6 : Hid (MRow w6 base (.slice a6 (ms.length + 1) c6) (ms ++ [MNet.mk mk mop mds (.slice s0 mds.length t0) (.slice s1 mks.length t1) mks])) := hmr6; have HV6 : Hid (∀ k, (Value.slice a6 (ms.length + 1) c6).ownBlock = some k → lo ≤ k) := hv6; clear hmr6 hv6; have hb7 : Below lo w w6 := (((bl_alloc hbw1 _).mono hlo)).trans hb6))
  go_ret
  exact ⟨a6, c6, _, rfl, HMN.out, HM6.out, hb7, HV6.out⟩
end Go.Proofs.YthhfnncehfkbfaaDoor
