/- I7, I7a, I7b, I7c, I7d, I7e, I7f: texts put together. -/
import Derived.Test.YtpeojflemfppgaaGT
import Derived.Test.YtpeojflemfppgaaGU
import Derived.Shelf.RegionOpen
import Derived.OwnWalkIn
import Derived.TacticsInMore
import Derived.LoopNIn
import Derived.LoopIn
/- Contracts of the program's chapter 3: the kids of a net and of an arm; what a walk over a ladder is. -/
namespace Go.Proofs.Ytpeojflemfppgaa
open Go.RowKit Go.Sort Go.BigFrame Go.Shelf
set_option maxHeartbeats 400000 in
theorem i_netKids (k op : Int) (av : Value) (p : Option Addr) (ln cap : Nat) (pa : Option Addr) (la ca : Nat) (hav : av = .slice pa la ca) (w : World) :
    Calls Try.prog 49 #[.agg #[.int .i64 k, .int .i64 op, av, .slice p ln cap]] w fun e w' => e = .returned (.slice p ln cap) ∧ Below w.heap.size w w' := by
  subst hav
  go_enter Try.func49, Try.ntmps49
  go_wp2
  go_ret
  exact ⟨rfl, by (repeat (first | with_reducible exact Below.refl _ _ | with_reducible assumption | with_reducible refine bl_set (by first | exact Nat.le_refl _ | (simp; done) | (simp; omega) | omega) ?_ _ | with_reducible refine bl_alloc ?_ _ | with_reducible refine bl_drewN ?_ _ | with_reducible refine bl_drew ?_ | with_reducible refine bl_grow ?_ _ _ | with_reducible refine bl_call ?_ (by assumption)))⟩
set_option maxHeartbeats 400000 in
theorem i_armKids (k op : Int) (pa pn pc p : Option Addr) (la ca lnn cn lc cc ln cap : Nat) (w : World) :
    Calls Try.prog 47 #[.agg #[.int .i64 k, .int .i64 op, .slice pa la ca, .slice pn lnn cn, .slice pc lc cc, .slice p ln cap]] w fun e w' => e = .returned (.slice p ln cap) ∧ Below w.heap.size w w' := by
  go_enter Try.func47, Try.ntmps47
  go_wp2
  go_ret
  exact ⟨rfl, by (repeat (first | with_reducible exact Below.refl _ _ | with_reducible assumption | with_reducible refine bl_set (by first | exact Nat.le_refl _ | (simp; done) | (simp; omega) | omega) ?_ _ | with_reducible refine bl_alloc ?_ _ | with_reducible refine bl_drewN ?_ _ | with_reducible refine bl_drew ?_ | with_reducible refine bl_grow ?_ _ _ | with_reducible refine bl_call ?_ (by assumption)))⟩
/-- The boxes of the walk over nets. -/
def WBoxNet (l Y B K : Nat) (W : World) : Prop := W.cell? ⟨Y, 0, none⟩ = some (.func (.yield l) #[] #[]) ∧ W.cell? ⟨B, 0, none⟩ = some (.func (.func 60) #[] #[.pointer (some ⟨Y, 0, none⟩), .pointer (some ⟨B, 0, none⟩), .pointer (some ⟨K, 0, none⟩)]) ∧ W.cell? ⟨K, 0, none⟩ = some (.func (.func 49) #[] #[])
def WalkNets (w : World) (P : Stil.Net → Prop) (C : Nat → Prop) (M l Y B K N : Nat) (J Jx : List (NetV w P) → World → Prop) (es : List Stil.Net) : Prop :=
  ∀ (m : Nat) (v : Value) (pre : List (NetV w P)) (W : World), NetsSeen w C W v es → WBoxNet l Y B K W → J pre W → Below w.heap.size w W → M ≤ W.heap.size → pre.length + (Stil.netsPre es).length ≤ N →
    CallsIn Fence.wide m Try.prog 60 #[v, .pointer (some ⟨Y, 0, none⟩), .pointer (some ⟨B, 0, none⟩), .pointer (some ⟨K, 0, none⟩)] W fun e W' =>
      (e = .returned (.bool true) ∧ ∃ ys : List (NetV w P), ys.map NetV.net = Stil.netsPre es ∧ J (pre ++ ys) W' ∧ Kept w.heap.size C W W') ∨
      (e = .returned (.bool false) ∧ ∃ ys : List (NetV w P), ys.map NetV.net <+: Stil.netsPre es ∧ Jx (pre ++ ys) W')
/-- The boxes of the walk over arms. -/
def WBoxArm (l Y B K : Nat) (W : World) : Prop := W.cell? ⟨Y, 0, none⟩ = some (.func (.yield l) #[] #[]) ∧ W.cell? ⟨B, 0, none⟩ = some (.func (.func 58) #[] #[.pointer (some ⟨Y, 0, none⟩), .pointer (some ⟨B, 0, none⟩), .pointer (some ⟨K, 0, none⟩)]) ∧ W.cell? ⟨K, 0, none⟩ = some (.func (.func 47) #[] #[])
def WalkArms (w : World) (P : Stil.Arm → Prop) (C : Nat → Prop) (M l Y B K N : Nat) (J Jx : List (ArmV w P) → World → Prop) (es : List Stil.Arm) : Prop :=
  ∀ (m : Nat) (v : Value) (pre : List (ArmV w P)) (W : World), ArmsSeen w C W v es → WBoxArm l Y B K W → J pre W → Below w.heap.size w W → M ≤ W.heap.size → pre.length + (Stil.armsPre es).length ≤ N →
    CallsIn Fence.wide m Try.prog 58 #[v, .pointer (some ⟨Y, 0, none⟩), .pointer (some ⟨B, 0, none⟩), .pointer (some ⟨K, 0, none⟩)] W fun e W' =>
      (e = .returned (.bool true) ∧ ∃ ys : List (ArmV w P), ys.map ArmV.arm = Stil.armsPre es ∧ J (pre ++ ys) W' ∧ Kept w.heap.size C W W') ∨
      (e = .returned (.bool false) ∧ ∃ ys : List (ArmV w P), ys.map ArmV.arm <+: Stil.armsPre es ∧ Jx (pre ++ ys) W')
end Go.Proofs.Ytpeojflemfppgaa
/- Contracts of the program's chapter 3: the walk over nets. -/
namespace Go.Proofs.Ytpeojflemfppgaa
open Go.RowKit Go.Sort Go.BigFrame Go.Shelf
attribute [local go_sem] Oper.semAt_some
theorem WBoxNet.keep {l Y B K : Nat} {C : Nat → Prop} {W W' : World} (h : WBoxNet l Y B K W) (hY : ¬ C Y) (hB : ¬ C B) (hK : ¬ C K) (hk : KeepC C W W') : WBoxNet l Y B K W' := ⟨hk.cell hY h.1, hk.cell hB h.2.1, hk.cell hK h.2.2⟩
set_option maxHeartbeats 2000000 in
set_option maxRecDepth 100000 in
theorem i_walkNets (w : World) (P : Stil.Net → Prop) (C : Nat → Prop) (hC : ∀ k, C k → w.heap.size ≤ k) (M l Y B K N : Nat) (hCM : ∀ k, C k → k < M) (hYC : ¬ C Y) (hBC : ¬ C B) (hKC : ¬ C K) (J Jx : List (NetV w P) → World → Prop)
    (hJ : ∀ s W W', J s W → Below W.heap.size W W' → J s W')
    (hY : ∀ m pre (x : NetV w P) W, J pre W → pre.length < N → YieldAt Fence.wide m Try.prog l #[.agg #[.int .i64 x.net.kind, .int .i64 x.net.one.op, x.av, x.kv]] W fun e W' =>
      (e = .returned (.bool true) ∧ J (pre ++ [x]) W' ∧ Kept w.heap.size C W W') ∨ (e = .returned (.bool false) ∧ Jx (pre ++ [x]) W'))
    (es : List Stil.Net) (hl : es.length ≤ 1048576) (hf : ∀ x ∈ es, P x) (ih : ∀ x ∈ es, WalkNets w P C M l Y B K N J Jx x.kids) : WalkNets w P C M l Y B K N J Jx es := by
  intro m v pre W hs hbx hj hb hM hN
  have HS : Hid (∀ W', KeepC C W W' → NetsSeen w C W' v es) := fun W' h => hs.keep h
  have HBX : Hid (∀ W', KeepC C W W' → WBoxNet l Y B K W') := fun W' h => hbx.keep hYC hBC hKC h
  have HYY : Hid (∀ m pre (x : NetV w P) W, J pre W → pre.length < N → YieldAt Fence.wide m Try.prog l #[.agg #[.int .i64 x.net.kind, .int .i64 x.net.one.op, x.av, x.kv]] W fun e W' =>
      (e = .returned (.bool true) ∧ J (pre ++ [x]) W' ∧ Kept w.heap.size C W W') ∨ (e = .returned (.bool false) ∧ Jx (pre ++ [x]) W')) := hY
  have HJJ : Hid (∀ s W W', J s W → Below W.heap.size W W' → J s W') := hJ
  have IH : Hid (∀ x ∈ es, WalkNets w P C M l Y B K N J Jx x.kids) := ih
  have HN : Hid (pre.length + (Stil.netsPre es).length ≤ N) := hN
  have HB : Hid (Below w.heap.size w W) := hb
  obtain ⟨a, cap, rfl, _⟩ := hs
  clear hJ hY ih hN hb hbx
  refine callsIn_of_wp Try.func60 rfl trivial ?_ rfl
  simp only [Try.ntmps60, List.size_toArray, List.length_cons, List.length_nil, Nat.reduceAdd, Nat.reduceSub, Array.replicate_succ, Array.replicate_zero, List.push_toArray, List.append_toArray, List.nil_append, List.cons_append]
  gi_wp2
  gi_loopw [10] (fun i wr => ∃ (j : Nat) (ys : List (NetV w P)), j ≤ es.length ∧ i = .int .i64 j ∧ ys.map NetV.net = Stil.netsPre (es.take j) ∧ J (pre ++ ys) wr ∧ Kept w.heap.size C W wr) (fun i _ => es.length - (intOf i).toNat)
  case atStart => exact ⟨0, [], by omega, rfl, by simp [Stil.netsPre], by simpa using hj, Kept.refl _ _ _⟩
  case round =>
    obtain ⟨j, ys, hjl, rfl, hys, hJ1, hk⟩ := hrel
    by_cases hlt : j < es.length
    · obtain ⟨a', cap', hv, hcs⟩ := HS.out wr hk.2
      obtain ⟨b, o, rfl, hCb, av, kv, x0, x1, x2, x3, hav, hkv⟩ := hcs j hlt
      simp only [Value.slice.injEq, true_and] at hv
      obtain ⟨rfl, rfl⟩ := hv
      obtain ⟨b0, b1, b2⟩ := HBX.out wr hk.2
      have hpl : (pre ++ ys).length < N := by
        have h1 := HN.out
        have h2 : ys.length = (Stil.netsPre (es.take j)).length := by rw [← hys, List.length_map]
        have h3 := (Stil.netsPre_pre es (j + 1)).length_le
        rw [Stil.netsPre_take es j hlt] at h3
        simp only [List.length_append, List.length_cons] at h3 ⊢
        omega
      obtain ⟨p0, r0, e0, _⟩ := id hav
      obtain ⟨p1, r1, e1, _⟩ := id hkv
      have hval : ∀ x : NetV w P, x = ⟨es[j], av, kv, hav, hkv, hf _ (List.getElem_mem hlt)⟩ → ∀ W1, J (pre ++ ys) W1 → YieldAt Fence.wide (m - 1) Try.prog l #[.agg #[.int .i64 es[j].kind, .int .i64 es[j].one.op, .slice p0 es[j].one.args.length r0, .slice p1 es[j].kids.length r1]] W1 fun e W' =>
          (e = .returned (.bool true) ∧ J (pre ++ ys ++ [x]) W' ∧ Kept w.heap.size C W1 W') ∨ (e = .returned (.bool false) ∧ Jx (pre ++ ys ++ [x]) W') := by
        intro x hx W1 hj1
        have := HYY.out (m - 1) (pre ++ ys) x W1 hj1 hpl
        rw [hx] at this ⊢
        simp only [e0, e1] at this ⊢
        exact this
      obtain ⟨x, hx⟩ : ∃ x : NetV w P, x = ⟨es[j], av, kv, hav, hkv, hf _ (List.getElem_mem hlt)⟩ := ⟨_, rfl⟩
      have HV : Hid (∀ W1, J (pre ++ ys) W1 → YieldAt Fence.wide (m - 1) Try.prog l #[.agg #[.int .i64 es[j].kind, .int .i64 es[j].one.op, .slice p0 es[j].one.args.length r0, .slice p1 es[j].kids.length r1]] W1 fun e W' =>
          (e = .returned (.bool true) ∧ J (pre ++ ys ++ [x]) W' ∧ Kept w.heap.size C W1 W') ∨ (e = .returned (.bool false) ∧ Jx (pre ++ ys ++ [x]) W')) := hval x hx
      have HXN : Hid (x.net = es[j]) := by show _ = _; rw [hx]
      have HKID : Hid (NetsAt w kv es[j].kids) := hkv
      clear hval hx
      obtain ⟨y, hy⟩ : ∃ y, y = es[j] := ⟨_, rfl⟩
      rw [← hy] at x0 x1 HV HXN HKID e0 e1
      have HY2 : Hid (y = es[j]) := hy
      rw [e0] at x2
      rw [e1] at x3 HKID
      clear hav hkv e0 e1 hy
      have hZ : ¬ C wr.heap.size := fun h => by have := hCM _ h; have := hk.2.size; omega
      have hYz := lt_of_cell3 b0
      have hBz := lt_of_cell3 b1
      have hKz := lt_of_cell3 b2
      gi_wp2
      obtain ⟨W1, hW1⟩ : ∃ W1, W1 = wr.alloc (.cells #[.int .i64 y.kind, .int .i64 y.one.op, .slice p0 y.one.args.length r0, .slice p1 y.kids.length r1] 52) := ⟨_, rfl⟩
      rw [← hW1]
      have c0 : W1.cell? ⟨Y, 0, none⟩ = some (.func (.yield l) #[] #[]) := by rw [hW1]; simp [go_sem, b0, hYz]
      have c1 : W1.cell? ⟨B, 0, none⟩ = some (.func (.func 60) #[] #[.pointer (some ⟨Y, 0, none⟩), .pointer (some ⟨B, 0, none⟩), .pointer (some ⟨K, 0, none⟩)]) := by rw [hW1]; simp [go_sem, b1, hBz]
      have c2 : W1.cell? ⟨K, 0, none⟩ = some (.func (.func 49) #[] #[]) := by rw [hW1]; simp [go_sem, b2, hKz]
      obtain ⟨z, hz⟩ : ∃ z, z = wr.heap.size := ⟨_, rfl⟩
      rw [← hz] at hZ ⊢
      have d0 : W1.cell? ⟨z, 0, none⟩ = some (.int .i64 y.kind) := by rw [hW1, hz]; simp [go_sem]
      have d1 : W1.cell? ⟨z, 1, none⟩ = some (.int .i64 y.one.op) := by rw [hW1, hz]; simp [go_sem]
      have d2 : W1.cell? ⟨z, 2, none⟩ = some (.slice p0 y.one.args.length r0) := by rw [hW1, hz]; simp [go_sem]
      have d3 : W1.cell? ⟨z, 3, none⟩ = some (.slice p1 y.kids.length r1) := by rw [hW1, hz]; simp [go_sem]
      have hb1 : Below wr.heap.size wr W1 := by rw [hW1]; exact below_alloc _ _
      have hk1 : Kept w.heap.size C W W1 := hk.t (Kept.of_below (Nat.le_trans HB.out.size hk.1.size) hb1)
      have hJ2 : J (pre ++ ys) W1.drew := HJJ.out _ _ _ hJ1 hb1.drew
      clear hW1 hb1 b0 b1 b2 x0 x1 x2 x3 hYz hBz hKz hJ1 hk hz
      obtain ⟨fn, tmps, assign, body, hyd, hR⟩ := HV.out W1.drew hJ2
      clear HV hJ2
      have HRR : Hid (∀ (e : Ending) (W2 : World), (e = .returned (.bool true) ∧ J (pre ++ ys ++ [x]) W2 ∧ Kept w.heap.size C W1.drew W2) → W2.cell? ⟨B, 0, none⟩ = some (.func (.func 60) #[] #[.pointer (some ⟨Y, 0, none⟩), .pointer (some ⟨B, 0, none⟩), .pointer (some ⟨K, 0, none⟩)]) ∧ W2.cell? ⟨K, 0, none⟩ = some (.func (.func 49) #[] #[]) ∧
          W2.cell? ⟨z, 0, none⟩ = some (.int .i64 y.kind) ∧ W2.cell? ⟨z, 1, none⟩ = some (.int .i64 y.one.op) ∧ W2.cell? ⟨z, 2, none⟩ = some (.slice p0 y.one.args.length r0) ∧ W2.cell? ⟨z, 3, none⟩ = some (.slice p1 y.kids.length r1)) :=
        fun e W2 h => ⟨h.2.2.2.cell hBC c1, h.2.2.2.cell hKC c2, h.2.2.2.cell hZ d0, h.2.2.2.cell hZ d1, h.2.2.2.cell hZ d2, h.2.2.2.cell hZ d3⟩
      have HKW : Hid (∀ W2 W3, Kept w.heap.size C W1.drew W2 → Below W2.heap.size W2 W3 → Kept w.heap.size C W W3) := fun W2 W3 h2 h3 =>
        ((hk1.t ⟨(Below.refl _ _).drew, (KeepC.refl _ _).drew⟩).t h2).t (Kept.of_below (Nat.le_trans (Nat.le_trans HB.out.size hk1.1.size) h2.1.size) h3)
      have HREC : Hid (∀ W3, J (pre ++ ys ++ [x]) W3 → Kept w.heap.size C W W3 → CallsIn Fence.wide (m - 1) Try.prog 60 #[.slice p1 y.kids.length r1, .pointer (some ⟨Y, 0, none⟩), .pointer (some ⟨B, 0, none⟩), .pointer (some ⟨K, 0, none⟩)] W3 fun e W' =>
          (e = .returned (.bool true) ∧ ∃ zs : List (NetV w P), zs.map NetV.net = Stil.netsPre y.kids ∧ J (pre ++ ys ++ [x] ++ zs) W' ∧ Kept w.heap.size C W3 W') ∨
          (e = .returned (.bool false) ∧ ∃ zs : List (NetV w P), zs.map NetV.net <+: Stil.netsPre y.kids ∧ Jx (pre ++ ys ++ [x] ++ zs) W')) := by
        intro W3 hj3 hk3
        have hbw : Below w.heap.size w W3 := HB.out.trans hk3.1
        refine IH.out y (by rw [HY2.out]; exact List.getElem_mem hlt) (m - 1) _ _ W3 (NetsSeen.of_at HKID.out hbw hC) (HBX.out W3 hk3.2) hj3 hbw (Nat.le_trans hM hk3.2.size) ?_
        have h1 := HN.out
        have h2 : ys.length = (Stil.netsPre (es.take j)).length := by rw [← hys, List.length_map]
        have h3 := (Stil.netsPre_pre es (j + 1)).length_le
        rw [Stil.netsPre_take es j hlt, ← HY2.out] at h3
        simp only [List.length_append, List.length_cons, List.length_nil] at h3 ⊢
        omega
      have HCONT : Hid (∀ zs : List (NetV w P), zs.map NetV.net = Stil.netsPre y.kids → (ys ++ [x] ++ zs).map NetV.net = Stil.netsPre (es.take (j + 1))) := by
        intro zs hzs
        rw [Stil.netsPre_take es j hlt, List.map_append, List.map_append, hys, hzs, ← HY2.out]
        simp [HXN.out]
      have HPRE : Hid (∀ zs : List (NetV w P), zs.map NetV.net <+: Stil.netsPre y.kids → (ys ++ [x] ++ zs).map NetV.net <+: Stil.netsPre es) := by
        intro zs hzs
        refine List.IsPrefix.trans ?_ (Stil.netsPre_pre es (j + 1))
        rw [Stil.netsPre_take es j hlt, List.map_append, List.map_append, hys, ← HY2.out]
        obtain ⟨t, ht⟩ := hzs
        exact ⟨t, by simp [HXN.out, ← ht]⟩
      have HPRE1 : Hid ((ys ++ [x]).map NetV.net <+: Stil.netsPre es) := by
        show _ <+: _
        have := HPRE.out [] (by simp)
        simpa using this
      refine wpIn_region_any (by kernel_rfl) ?_
      try (change wpAnyIn _ _ _ _ _ _ _ _ _ (World.drew _))
      apply share
      · intro key0
        refine wpAnyIn_ready (rs := [0, 1]) (by kernel_rfl) (by simp) ?_
        refine AllReadyIn.cons rfl (fun KK hKK => ?_) ?_
        · go_simp
          refine hKK _ _ ?_
          clear hKK KK
          refine wpAnyIn_ready (rs := [1]) (by kernel_rfl) (by simp) ?_
          refine AllReadyIn.cons rfl (fun KK hKK => ?_) AllReadyIn.nil
          go_simp
          refine hKK _ _ ?_
          clear hKK KK
          exact key0
        refine AllReadyIn.cons rfl (fun KK hKK => ?_) ?_
        · go_simp
          refine hKK _ _ ?_
          clear hKK KK
          refine wpAnyIn_ready (rs := [0]) (by kernel_rfl) (by simp) ?_
          refine AllReadyIn.cons rfl (fun KK hKK => ?_) AllReadyIn.nil
          go_simp
          refine hKK _ _ ?_
          clear hKK KK
          exact key0
        exact AllReadyIn.nil
      · refine wpAnyIn_ready (rs := [2]) (by kernel_rfl) (by simp) ?_
        refine AllReadyIn.cons rfl (fun KK hKK => ?_) AllReadyIn.nil
        go_simp
        refine ⟨fun h => (by cases h), ?_⟩
        refine hR.mono ?_
        rintro e W2 (⟨rfl, hJ3, hk3⟩ | ⟨rfl, hx3⟩)
        · refine hKK _ _ ?_
          clear hKK KK
          obtain ⟨f1, f2, g0, g1, g2, g3⟩ := HRR.out _ _ ⟨rfl, hJ3, hk3⟩
          apply share
          · intro key1
            apply share
            · intro key2
              refine wpAnyIn_ready (rs := [3]) (by kernel_rfl) (by simp) ?_
              refine AllReadyIn.cons rfl (fun KK hKK => ?_) AllReadyIn.nil
              go_simp
              refine hKK _ _ ?_
              clear hKK KK
              refine wpAnyIn_ready (rs := [4]) (by kernel_rfl) (by simp) ?_
              refine AllReadyIn.cons rfl (fun KK hKK => ?_) AllReadyIn.nil
              go_simp
              refine hKK _ _ ?_
              clear hKK KK
              refine wpAnyIn_ready (rs := [5, 6, 7]) (by kernel_rfl) (by simp) ?_
              refine AllReadyIn.cons rfl (fun KK hKK => ?_) ?_
              · go_simp
                refine hKK _ _ ?_
                clear hKK KK
                refine wpAnyIn_ready (rs := [6, 7]) (by kernel_rfl) (by simp) ?_
                refine AllReadyIn.cons rfl (fun KK hKK => ?_) ?_
                · go_simp
                  refine hKK _ _ ?_
                  clear hKK KK
                  refine wpAnyIn_ready (rs := [7]) (by kernel_rfl) (by simp) ?_
                  refine AllReadyIn.cons rfl (fun KK hKK => ?_) AllReadyIn.nil
                  go_simp
                  refine hKK _ _ ?_
                  clear hKK KK
                  exact key1
                refine AllReadyIn.cons rfl (fun KK hKK => ?_) ?_
                · go_simp
                  refine hKK _ _ ?_
                  clear hKK KK
                  refine wpAnyIn_ready (rs := [6]) (by kernel_rfl) (by simp) ?_
                  refine AllReadyIn.cons rfl (fun KK hKK => ?_) AllReadyIn.nil
                  go_simp
                  refine hKK _ _ ?_
                  clear hKK KK
                  exact key1
                exact AllReadyIn.nil
              refine AllReadyIn.cons rfl (fun KK hKK => ?_) ?_
              · go_simp
                refine hKK _ _ ?_
                clear hKK KK
                refine wpAnyIn_ready (rs := [5, 7]) (by kernel_rfl) (by simp) ?_
                refine AllReadyIn.cons rfl (fun KK hKK => ?_) ?_
                · go_simp
                  refine hKK _ _ ?_
                  clear hKK KK
                  refine wpAnyIn_ready (rs := [7]) (by kernel_rfl) (by simp) ?_
                  refine AllReadyIn.cons rfl (fun KK hKK => ?_) AllReadyIn.nil
                  go_simp
                  refine hKK _ _ ?_
                  clear hKK KK
                  exact key1
                refine AllReadyIn.cons rfl (fun KK hKK => ?_) ?_
                · go_simp
                  refine hKK _ _ ?_
                  clear hKK KK
                  exact key2
                exact AllReadyIn.nil
              refine AllReadyIn.cons rfl (fun KK hKK => ?_) ?_
              · go_simp
                refine hKK _ _ ?_
                clear hKK KK
                refine wpAnyIn_ready (rs := [5, 6]) (by kernel_rfl) (by simp) ?_
                refine AllReadyIn.cons rfl (fun KK hKK => ?_) ?_
                · go_simp
                  refine hKK _ _ ?_
                  clear hKK KK
                  refine wpAnyIn_ready (rs := [6]) (by kernel_rfl) (by simp) ?_
                  refine AllReadyIn.cons rfl (fun KK hKK => ?_) AllReadyIn.nil
                  go_simp
                  refine hKK _ _ ?_
                  clear hKK KK
                  exact key1
                refine AllReadyIn.cons rfl (fun KK hKK => ?_) ?_
                · go_simp
                  refine hKK _ _ ?_
                  clear hKK KK
                  exact key2
                exact AllReadyIn.nil
              exact AllReadyIn.nil
            · refine wpAnyIn_ready (rs := [5, 8]) (by kernel_rfl) (by simp) ?_
              refine AllReadyIn.cons rfl (fun KK hKK => ?_) ?_
              · go_simp
                refine hKK _ _ ?_
                clear hKK KK
                exact key1
              refine AllReadyIn.cons rfl (fun KK hKK => ?_) ?_
              · go_simp
                refine ⟨trivial, fun h => (by cases h), ?_⟩
                refine (callsIn_wide.2 (i_netKids _ _ _ _ _ _ _ _ _ rfl _)).mono ?_
                rintro e W3 ⟨rfl, hb3⟩
                refine hKK _ _ ?_
                clear hKK KK
                have h1 := (hb3.cell (p := ⟨B, 0, none⟩) (lt_of_cell3 f1)).trans f1
                have hJ3 := HJJ.out _ _ _ hJ3 hb3
                have hkW : Kept w.heap.size C W W3 := HKW.out _ _ hk3 hb3
                refine wpAnyIn_ready (rs := [5]) (by kernel_rfl) (by simp) ?_
                refine AllReadyIn.cons rfl (fun KK hKK => ?_) AllReadyIn.nil
                go_simp
                refine hKK _ _ ?_
                clear hKK KK
                refine wpAnyIn_ready (rs := [9]) (by kernel_rfl) (by simp) ?_
                refine AllReadyIn.cons rfl (fun KK hKK => ?_) AllReadyIn.nil
                go_simp
                refine ⟨trivial, fun h => (by cases h), ?_⟩
                refine (HREC.out _ hJ3 hkW).mono ?_
                rintro e W4 (⟨rfl, zs, hzs, hJ4, hk4⟩ | ⟨rfl, zs, hzs, hx4⟩)
                · refine hKK _ _ ?_
                  clear hKK KK
                  refine wpAnyIn_ready (rs := [10]) (by kernel_rfl) (by simp) ?_
                  refine AllReadyIn.cons rfl (fun KK hKK => ?_) AllReadyIn.nil
                  go_simp
                  refine hKK _ _ ?_
                  clear hKK KK
                  refine wpAnyIn_ready (rs := [11]) (by kernel_rfl) (by simp) ?_
                  refine AllReadyIn.cons rfl (fun KK hKK => ?_) AllReadyIn.nil
                  go_simp
                  refine hKK _ _ ?_
                  clear hKK KK
                  refine wpAnyIn_done (by kernel_rfl) ?_ _
                  gi_wp2
                  exact ⟨⟨j + 1, ys ++ [x] ++ zs, by omega, by go_num, HCONT.out zs hzs, by simpa [List.append_assoc] using hJ4, hkW.t hk4⟩, by simp [intOf]; omega⟩
                · refine hKK _ _ ?_
                  clear hKK KK
                  refine wpAnyIn_ready (rs := [10]) (by kernel_rfl) (by simp) ?_
                  refine AllReadyIn.cons rfl (fun KK hKK => ?_) AllReadyIn.nil
                  go_simp
                  refine hKK _ _ ?_
                  clear hKK KK
                  refine wpAnyIn_ready (rs := [11]) (by kernel_rfl) (by simp) ?_
                  refine AllReadyIn.cons rfl (fun KK hKK => ?_) AllReadyIn.nil
                  go_simp
                  refine hKK _ _ ?_
                  clear hKK KK
                  refine wpAnyIn_done (by kernel_rfl) ?_ _
                  gi_wp2
                  go_ret
                  exact .inr ⟨rfl, ys ++ [x] ++ zs, HPRE.out zs hzs, by simpa [List.append_assoc] using hx4⟩
              exact AllReadyIn.nil
          · refine wpAnyIn_ready (rs := [8]) (by kernel_rfl) (by simp) ?_
            refine AllReadyIn.cons rfl (fun KK hKK => ?_) AllReadyIn.nil
            go_simp
            refine ⟨trivial, fun h => (by cases h), ?_⟩
            refine (callsIn_wide.2 (i_netKids _ _ _ _ _ _ _ _ _ rfl _)).mono ?_
            rintro e W3 ⟨rfl, hb3⟩
            refine hKK _ _ ?_
            clear hKK KK
            have h1 := (hb3.cell (p := ⟨B, 0, none⟩) (lt_of_cell3 f1)).trans f1
            have hJ3 := HJJ.out _ _ _ hJ3 hb3
            have hkW : Kept w.heap.size C W W3 := HKW.out _ _ hk3 hb3
            refine wpAnyIn_ready (rs := [9]) (by kernel_rfl) (by simp) ?_
            refine AllReadyIn.cons rfl (fun KK hKK => ?_) AllReadyIn.nil
            go_simp
            refine ⟨trivial, fun h => (by cases h), ?_⟩
            refine (HREC.out _ hJ3 hkW).mono ?_
            rintro e W4 (⟨rfl, zs, hzs, hJ4, hk4⟩ | ⟨rfl, zs, hzs, hx4⟩)
            · refine hKK _ _ ?_
              clear hKK KK
              refine wpAnyIn_ready (rs := [10]) (by kernel_rfl) (by simp) ?_
              refine AllReadyIn.cons rfl (fun KK hKK => ?_) AllReadyIn.nil
              go_simp
              refine hKK _ _ ?_
              clear hKK KK
              refine wpAnyIn_ready (rs := [11]) (by kernel_rfl) (by simp) ?_
              refine AllReadyIn.cons rfl (fun KK hKK => ?_) AllReadyIn.nil
              go_simp
              refine hKK _ _ ?_
              clear hKK KK
              refine wpAnyIn_done (by kernel_rfl) ?_ _
              gi_wp2
              exact ⟨⟨j + 1, ys ++ [x] ++ zs, by omega, by go_num, HCONT.out zs hzs, by simpa [List.append_assoc] using hJ4, hkW.t hk4⟩, by simp [intOf]; omega⟩
            · refine hKK _ _ ?_
              clear hKK KK
              refine wpAnyIn_ready (rs := [10]) (by kernel_rfl) (by simp) ?_
              refine AllReadyIn.cons rfl (fun KK hKK => ?_) AllReadyIn.nil
              go_simp
              refine hKK _ _ ?_
              clear hKK KK
              refine wpAnyIn_ready (rs := [11]) (by kernel_rfl) (by simp) ?_
              refine AllReadyIn.cons rfl (fun KK hKK => ?_) AllReadyIn.nil
              go_simp
              refine hKK _ _ ?_
              clear hKK KK
              refine wpAnyIn_done (by kernel_rfl) ?_ _
              gi_wp2
              go_ret
              exact .inr ⟨rfl, ys ++ [x] ++ zs, HPRE.out zs hzs, by simpa [List.append_assoc] using hx4⟩
        · refine hKK _ _ ?_
          clear hKK KK
          refine wpAnyIn_ready (rs := [3]) (by kernel_rfl) (by simp) ?_
          refine AllReadyIn.cons rfl (fun KK hKK => ?_) AllReadyIn.nil
          go_simp
          refine hKK _ _ ?_
          clear hKK KK
          refine wpAnyIn_ready (rs := [4]) (by kernel_rfl) (by simp) ?_
          refine AllReadyIn.cons rfl (fun KK hKK => ?_) AllReadyIn.nil
          go_simp
          refine hKK _ _ ?_
          clear hKK KK
          refine wpAnyIn_take (i := 5) (v := undef) rfl rfl (by kernel_rfl) (by kernel_rfl) (by kernel_rfl) (fun _ _ _ h => h) ⟨Or.inr ⟨by rfl, rfl⟩, fun _ => rfl⟩ ?_
          refine wpAnyIn_take (i := 6) (v := undef) rfl rfl (by kernel_rfl) (by kernel_rfl) (by kernel_rfl) (fun _ _ _ h => h) ⟨Or.inr ⟨by rfl, rfl⟩, fun _ => rfl⟩ ?_
          refine wpAnyIn_take (i := 7) (v := undef) rfl rfl (by kernel_rfl) (by kernel_rfl) (by kernel_rfl) (fun _ _ _ h => h) ⟨Or.inr ⟨by rfl, rfl⟩, fun _ => rfl⟩ ?_
          refine wpAnyIn_take (i := 8) (v := undef) rfl rfl (by kernel_rfl) (by kernel_rfl) (by kernel_rfl) (fun _ _ _ h => h) ⟨Or.inr ⟨by rfl, rfl⟩, fun _ => rfl⟩ ?_
          refine wpAnyIn_take (i := 9) (v := undef) rfl rfl (by kernel_rfl) (by kernel_rfl) (by kernel_rfl) (fun _ _ _ h => h) ⟨Or.inr ⟨by rfl, rfl⟩, fun _ => rfl⟩ ?_
          refine wpAnyIn_take (i := 10) (v := undef) rfl rfl (by kernel_rfl) (by kernel_rfl) (by kernel_rfl) (fun _ _ _ h => h) ⟨Or.inr ⟨by rfl, rfl⟩, fun _ => rfl⟩ ?_
          refine wpAnyIn_ready (rs := [11]) (by kernel_rfl) (by simp) ?_
          refine AllReadyIn.cons rfl (fun KK hKK => ?_) AllReadyIn.nil
          go_simp
          refine hKK _ _ ?_
          clear hKK KK
          refine wpAnyIn_done (by kernel_rfl) ?_ _
          gi_wp2
          go_ret
          exact .inr ⟨rfl, ys ++ [x], HPRE1.out, by simpa [List.append_assoc] using hx3⟩
    · gi_wp2
      go_ret
      refine .inl ⟨rfl, ys, ?_, hJ1, hk⟩
      rw [hys, List.take_of_length_le (by omega)]
end Go.Proofs.Ytpeojflemfppgaa
/- Contracts of the program's chapter 3: the walk over arms. -/
namespace Go.Proofs.Ytpeojflemfppgaa
open Go.RowKit Go.Sort Go.BigFrame Go.Shelf
attribute [local go_sem] Oper.semAt_some
theorem WBoxArm.keep {l Y B K : Nat} {C : Nat → Prop} {W W' : World} (h : WBoxArm l Y B K W) (hY : ¬ C Y) (hB : ¬ C B) (hK : ¬ C K) (hk : KeepC C W W') : WBoxArm l Y B K W' := ⟨hk.cell hY h.1, hk.cell hB h.2.1, hk.cell hK h.2.2⟩
set_option maxHeartbeats 2000000 in
set_option maxRecDepth 100000 in
theorem i_walkArms (w : World) (P : Stil.Arm → Prop) (C : Nat → Prop) (hC : ∀ k, C k → w.heap.size ≤ k) (M l Y B K N : Nat) (hCM : ∀ k, C k → k < M) (hYC : ¬ C Y) (hBC : ¬ C B) (hKC : ¬ C K) (J Jx : List (ArmV w P) → World → Prop)
    (hJ : ∀ s W W', J s W → Below W.heap.size W W' → J s W')
    (hY : ∀ m pre (x : ArmV w P) W, J pre W → pre.length < N → YieldAt Fence.wide m Try.prog l #[.agg #[.int .i64 x.arm.net.kind, .int .i64 x.arm.net.one.op, x.av, x.nv, x.cv, x.kv]] W fun e W' =>
      (e = .returned (.bool true) ∧ J (pre ++ [x]) W' ∧ Kept w.heap.size C W W') ∨ (e = .returned (.bool false) ∧ Jx (pre ++ [x]) W'))
    (es : List Stil.Arm) (hl : es.length ≤ 1048576) (hf : ∀ x ∈ es, P x) (ih : ∀ x ∈ es, WalkArms w P C M l Y B K N J Jx x.kids) : WalkArms w P C M l Y B K N J Jx es := by
  intro m v pre W hs hbx hj hb hM hN
  have HS : Hid (∀ W', KeepC C W W' → ArmsSeen w C W' v es) := fun W' h => hs.keep h
  have HBX : Hid (∀ W', KeepC C W W' → WBoxArm l Y B K W') := fun W' h => hbx.keep hYC hBC hKC h
  have HYY : Hid (∀ m pre (x : ArmV w P) W, J pre W → pre.length < N → YieldAt Fence.wide m Try.prog l #[.agg #[.int .i64 x.arm.net.kind, .int .i64 x.arm.net.one.op, x.av, x.nv, x.cv, x.kv]] W fun e W' =>
      (e = .returned (.bool true) ∧ J (pre ++ [x]) W' ∧ Kept w.heap.size C W W') ∨ (e = .returned (.bool false) ∧ Jx (pre ++ [x]) W')) := hY
  have HJJ : Hid (∀ s W W', J s W → Below W.heap.size W W' → J s W') := hJ
  have IH : Hid (∀ x ∈ es, WalkArms w P C M l Y B K N J Jx x.kids) := ih
  have HN : Hid (pre.length + (Stil.armsPre es).length ≤ N) := hN
  have HB : Hid (Below w.heap.size w W) := hb
  obtain ⟨a, cap, rfl, _⟩ := hs
  clear hJ hY ih hN hb hbx
  refine callsIn_of_wp Try.func58 rfl trivial ?_ rfl
  simp only [Try.ntmps58, List.size_toArray, List.length_cons, List.length_nil, Nat.reduceAdd, Nat.reduceSub, Array.replicate_succ, Array.replicate_zero, List.push_toArray, List.append_toArray, List.nil_append, List.cons_append]
  gi_wp2
  gi_loopw [10] (fun i wr => ∃ (j : Nat) (ys : List (ArmV w P)), j ≤ es.length ∧ i = .int .i64 j ∧ ys.map ArmV.arm = Stil.armsPre (es.take j) ∧ J (pre ++ ys) wr ∧ Kept w.heap.size C W wr) (fun i _ => es.length - (intOf i).toNat)
  case atStart => exact ⟨0, [], by omega, rfl, by simp [Stil.armsPre], by simpa using hj, Kept.refl _ _ _⟩
  case round =>
    obtain ⟨j, ys, hjl, rfl, hys, hJ1, hk⟩ := hrel
    by_cases hlt : j < es.length
    · obtain ⟨a', cap', hv, hcs⟩ := HS.out wr hk.2
      obtain ⟨b, o, rfl, hCb, av, nv, cv, kv, x0, x1, x2, x3, x4, x5, hav, hnv, hcv, hkv⟩ := hcs j hlt
      simp only [Value.slice.injEq, true_and] at hv
      obtain ⟨rfl, rfl⟩ := hv
      obtain ⟨b0, b1, b2⟩ := HBX.out wr hk.2
      have hpl : (pre ++ ys).length < N := by
        have h1 := HN.out
        have h2 : ys.length = (Stil.armsPre (es.take j)).length := by rw [← hys, List.length_map]
        have h3 := (Stil.armsPre_pre es (j + 1)).length_le
        rw [Stil.armsPre_take es j hlt] at h3
        simp only [List.length_append, List.length_cons] at h3 ⊢
        omega
      obtain ⟨p0, r0, e0, _⟩ := id hav
      obtain ⟨p2, r2, e2, _⟩ := id hnv
      obtain ⟨p3, r3, e3, _⟩ := id hcv
      obtain ⟨p1, r1, e1, _⟩ := id hkv
      have hval : ∀ x : ArmV w P, x = ⟨es[j], av, nv, cv, kv, hav, hnv, hcv, hkv, hf _ (List.getElem_mem hlt)⟩ → ∀ W1, J (pre ++ ys) W1 → YieldAt Fence.wide (m - 1) Try.prog l #[.agg #[.int .i64 es[j].net.kind, .int .i64 es[j].net.one.op, .slice p0 es[j].net.one.args.length r0, .slice p2 es[j].net.kids.length r2, .slice p3 es[j].coils.length r3, .slice p1 es[j].kids.length r1]] W1 fun e W' =>
          (e = .returned (.bool true) ∧ J (pre ++ ys ++ [x]) W' ∧ Kept w.heap.size C W1 W') ∨ (e = .returned (.bool false) ∧ Jx (pre ++ ys ++ [x]) W') := by
        intro x hx W1 hj1
        have := HYY.out (m - 1) (pre ++ ys) x W1 hj1 hpl
        rw [hx] at this ⊢
        simp only [e0, e1, e2, e3] at this ⊢
        exact this
      obtain ⟨x, hx⟩ : ∃ x : ArmV w P, x = ⟨es[j], av, nv, cv, kv, hav, hnv, hcv, hkv, hf _ (List.getElem_mem hlt)⟩ := ⟨_, rfl⟩
      have HV : Hid (∀ W1, J (pre ++ ys) W1 → YieldAt Fence.wide (m - 1) Try.prog l #[.agg #[.int .i64 es[j].net.kind, .int .i64 es[j].net.one.op, .slice p0 es[j].net.one.args.length r0, .slice p2 es[j].net.kids.length r2, .slice p3 es[j].coils.length r3, .slice p1 es[j].kids.length r1]] W1 fun e W' =>
          (e = .returned (.bool true) ∧ J (pre ++ ys ++ [x]) W' ∧ Kept w.heap.size C W1 W') ∨ (e = .returned (.bool false) ∧ Jx (pre ++ ys ++ [x]) W')) := hval x hx
      have HXN : Hid (x.arm = es[j]) := by show _ = _; rw [hx]
      have HKID : Hid (ArmsAt w kv es[j].kids) := hkv
      clear hval hx
      obtain ⟨y, hy⟩ : ∃ y, y = es[j] := ⟨_, rfl⟩
      rw [← hy] at x0 x1 HV HXN HKID e0 e1 e2 e3
      have HY2 : Hid (y = es[j]) := hy
      rw [e0] at x2
      rw [e2] at x3
      rw [e3] at x4
      rw [e1] at x5 HKID
      clear hav hnv hcv hkv e0 e1 e2 e3 hy
      have hZ : ¬ C wr.heap.size := fun h => by have := hCM _ h; have := hk.2.size; omega
      have hYz := lt_of_cell3 b0
      have hBz := lt_of_cell3 b1
      have hKz := lt_of_cell3 b2
      gi_wp2
      obtain ⟨W1, hW1⟩ : ∃ W1, W1 = wr.alloc (.cells #[.int .i64 y.net.kind, .int .i64 y.net.one.op, .slice p0 y.net.one.args.length r0, .slice p2 y.net.kids.length r2, .slice p3 y.coils.length r3, .slice p1 y.kids.length r1] 55) := ⟨_, rfl⟩
      rw [← hW1]
      have c0 : W1.cell? ⟨Y, 0, none⟩ = some (.func (.yield l) #[] #[]) := by rw [hW1]; simp [go_sem, b0, hYz]
      have c1 : W1.cell? ⟨B, 0, none⟩ = some (.func (.func 58) #[] #[.pointer (some ⟨Y, 0, none⟩), .pointer (some ⟨B, 0, none⟩), .pointer (some ⟨K, 0, none⟩)]) := by rw [hW1]; simp [go_sem, b1, hBz]
      have c2 : W1.cell? ⟨K, 0, none⟩ = some (.func (.func 47) #[] #[]) := by rw [hW1]; simp [go_sem, b2, hKz]
      obtain ⟨z, hz⟩ : ∃ z, z = wr.heap.size := ⟨_, rfl⟩
      rw [← hz] at hZ ⊢
      have d0 : W1.cell? ⟨z, 0, none⟩ = some (.int .i64 y.net.kind) := by rw [hW1, hz]; simp [go_sem]
      have d1 : W1.cell? ⟨z, 1, none⟩ = some (.int .i64 y.net.one.op) := by rw [hW1, hz]; simp [go_sem]
      have d2 : W1.cell? ⟨z, 2, none⟩ = some (.slice p0 y.net.one.args.length r0) := by rw [hW1, hz]; simp [go_sem]
      have d3 : W1.cell? ⟨z, 3, none⟩ = some (.slice p2 y.net.kids.length r2) := by rw [hW1, hz]; simp [go_sem]
      have d4 : W1.cell? ⟨z, 4, none⟩ = some (.slice p3 y.coils.length r3) := by rw [hW1, hz]; simp [go_sem]
      have d5 : W1.cell? ⟨z, 5, none⟩ = some (.slice p1 y.kids.length r1) := by rw [hW1, hz]; simp [go_sem]
      have hb1 : Below wr.heap.size wr W1 := by rw [hW1]; exact below_alloc _ _
      have hk1 : Kept w.heap.size C W W1 := hk.t (Kept.of_below (Nat.le_trans HB.out.size hk.1.size) hb1)
      have hJ2 : J (pre ++ ys) W1.drew := HJJ.out _ _ _ hJ1 hb1.drew
      clear hW1 hb1 b0 b1 b2 x0 x1 x2 x3 x4 x5 hYz hBz hKz hJ1 hk hz
      obtain ⟨fn, tmps, assign, body, hyd, hR⟩ := HV.out W1.drew hJ2
      clear HV hJ2
      have HRR : Hid (∀ (e : Ending) (W2 : World), (e = .returned (.bool true) ∧ J (pre ++ ys ++ [x]) W2 ∧ Kept w.heap.size C W1.drew W2) → W2.cell? ⟨B, 0, none⟩ = some (.func (.func 58) #[] #[.pointer (some ⟨Y, 0, none⟩), .pointer (some ⟨B, 0, none⟩), .pointer (some ⟨K, 0, none⟩)]) ∧ W2.cell? ⟨K, 0, none⟩ = some (.func (.func 47) #[] #[]) ∧
          W2.cell? ⟨z, 0, none⟩ = some (.int .i64 y.net.kind) ∧ W2.cell? ⟨z, 1, none⟩ = some (.int .i64 y.net.one.op) ∧ W2.cell? ⟨z, 2, none⟩ = some (.slice p0 y.net.one.args.length r0) ∧ W2.cell? ⟨z, 3, none⟩ = some (.slice p2 y.net.kids.length r2) ∧ W2.cell? ⟨z, 4, none⟩ = some (.slice p3 y.coils.length r3) ∧ W2.cell? ⟨z, 5, none⟩ = some (.slice p1 y.kids.length r1)) :=
        fun e W2 h => ⟨h.2.2.2.cell hBC c1, h.2.2.2.cell hKC c2, h.2.2.2.cell hZ d0, h.2.2.2.cell hZ d1, h.2.2.2.cell hZ d2, h.2.2.2.cell hZ d3, h.2.2.2.cell hZ d4, h.2.2.2.cell hZ d5⟩
      have HKW : Hid (∀ W2 W3, Kept w.heap.size C W1.drew W2 → Below W2.heap.size W2 W3 → Kept w.heap.size C W W3) := fun W2 W3 h2 h3 =>
        ((hk1.t ⟨(Below.refl _ _).drew, (KeepC.refl _ _).drew⟩).t h2).t (Kept.of_below (Nat.le_trans (Nat.le_trans HB.out.size hk1.1.size) h2.1.size) h3)
      have HREC : Hid (∀ W3, J (pre ++ ys ++ [x]) W3 → Kept w.heap.size C W W3 → CallsIn Fence.wide (m - 1) Try.prog 58 #[.slice p1 y.kids.length r1, .pointer (some ⟨Y, 0, none⟩), .pointer (some ⟨B, 0, none⟩), .pointer (some ⟨K, 0, none⟩)] W3 fun e W' =>
          (e = .returned (.bool true) ∧ ∃ zs : List (ArmV w P), zs.map ArmV.arm = Stil.armsPre y.kids ∧ J (pre ++ ys ++ [x] ++ zs) W' ∧ Kept w.heap.size C W3 W') ∨
          (e = .returned (.bool false) ∧ ∃ zs : List (ArmV w P), zs.map ArmV.arm <+: Stil.armsPre y.kids ∧ Jx (pre ++ ys ++ [x] ++ zs) W')) := by
        intro W3 hj3 hk3
        have hbw : Below w.heap.size w W3 := HB.out.trans hk3.1
        refine IH.out y (by rw [HY2.out]; exact List.getElem_mem hlt) (m - 1) _ _ W3 (ArmsSeen.of_at HKID.out hbw hC) (HBX.out W3 hk3.2) hj3 hbw (Nat.le_trans hM hk3.2.size) ?_
        have h1 := HN.out
        have h2 : ys.length = (Stil.armsPre (es.take j)).length := by rw [← hys, List.length_map]
        have h3 := (Stil.armsPre_pre es (j + 1)).length_le
        rw [Stil.armsPre_take es j hlt, ← HY2.out] at h3
        simp only [List.length_append, List.length_cons, List.length_nil] at h3 ⊢
        omega
      have HCONT : Hid (∀ zs : List (ArmV w P), zs.map ArmV.arm = Stil.armsPre y.kids → (ys ++ [x] ++ zs).map ArmV.arm = Stil.armsPre (es.take (j + 1))) := by
        intro zs hzs
        rw [Stil.armsPre_take es j hlt, List.map_append, List.map_append, hys, hzs, ← HY2.out]
        simp [HXN.out]
      have HPRE : Hid (∀ zs : List (ArmV w P), zs.map ArmV.arm <+: Stil.armsPre y.kids → (ys ++ [x] ++ zs).map ArmV.arm <+: Stil.armsPre es) := by
        intro zs hzs
        refine List.IsPrefix.trans ?_ (Stil.armsPre_pre es (j + 1))
        rw [Stil.armsPre_take es j hlt, List.map_append, List.map_append, hys, ← HY2.out]
        obtain ⟨t, ht⟩ := hzs
        exact ⟨t, by simp [HXN.out, ← ht]⟩
      have HPRE1 : Hid ((ys ++ [x]).map ArmV.arm <+: Stil.armsPre es) := by
        show _ <+: _
        have := HPRE.out [] (by simp)
        simpa using this
      refine wpIn_region_any (by kernel_rfl) ?_
      try (change wpAnyIn _ _ _ _ _ _ _ _ _ (World.drew _))
      apply share
      · intro key0
        refine wpAnyIn_ready (rs := [0, 1]) (by kernel_rfl) (by simp) ?_
        refine AllReadyIn.cons rfl (fun KK hKK => ?_) ?_
        · go_simp
          refine hKK _ _ ?_
          clear hKK KK
          refine wpAnyIn_ready (rs := [1]) (by kernel_rfl) (by simp) ?_
          refine AllReadyIn.cons rfl (fun KK hKK => ?_) AllReadyIn.nil
          go_simp
          refine hKK _ _ ?_
          clear hKK KK
          exact key0
        refine AllReadyIn.cons rfl (fun KK hKK => ?_) ?_
        · go_simp
          refine hKK _ _ ?_
          clear hKK KK
          refine wpAnyIn_ready (rs := [0]) (by kernel_rfl) (by simp) ?_
          refine AllReadyIn.cons rfl (fun KK hKK => ?_) AllReadyIn.nil
          go_simp
          refine hKK _ _ ?_
          clear hKK KK
          exact key0
        exact AllReadyIn.nil
      · refine wpAnyIn_ready (rs := [2]) (by kernel_rfl) (by simp) ?_
        refine AllReadyIn.cons rfl (fun KK hKK => ?_) AllReadyIn.nil
        go_simp
        refine ⟨fun h => (by cases h), ?_⟩
        refine hR.mono ?_
        rintro e W2 (⟨rfl, hJ3, hk3⟩ | ⟨rfl, hx3⟩)
        · refine hKK _ _ ?_
          clear hKK KK
          obtain ⟨f1, f2, g0, g1, g2, g3, g4, g5⟩ := HRR.out _ _ ⟨rfl, hJ3, hk3⟩
          apply share
          · intro key1
            apply share
            · intro key2
              refine wpAnyIn_ready (rs := [3]) (by kernel_rfl) (by simp) ?_
              refine AllReadyIn.cons rfl (fun KK hKK => ?_) AllReadyIn.nil
              go_simp
              refine hKK _ _ ?_
              clear hKK KK
              refine wpAnyIn_ready (rs := [4]) (by kernel_rfl) (by simp) ?_
              refine AllReadyIn.cons rfl (fun KK hKK => ?_) AllReadyIn.nil
              go_simp
              refine hKK _ _ ?_
              clear hKK KK
              refine wpAnyIn_ready (rs := [5, 6, 7]) (by kernel_rfl) (by simp) ?_
              refine AllReadyIn.cons rfl (fun KK hKK => ?_) ?_
              · go_simp
                refine hKK _ _ ?_
                clear hKK KK
                refine wpAnyIn_ready (rs := [6, 7]) (by kernel_rfl) (by simp) ?_
                refine AllReadyIn.cons rfl (fun KK hKK => ?_) ?_
                · go_simp
                  refine hKK _ _ ?_
                  clear hKK KK
                  refine wpAnyIn_ready (rs := [7]) (by kernel_rfl) (by simp) ?_
                  refine AllReadyIn.cons rfl (fun KK hKK => ?_) AllReadyIn.nil
                  go_simp
                  refine hKK _ _ ?_
                  clear hKK KK
                  exact key1
                refine AllReadyIn.cons rfl (fun KK hKK => ?_) ?_
                · go_simp
                  refine hKK _ _ ?_
                  clear hKK KK
                  refine wpAnyIn_ready (rs := [6]) (by kernel_rfl) (by simp) ?_
                  refine AllReadyIn.cons rfl (fun KK hKK => ?_) AllReadyIn.nil
                  go_simp
                  refine hKK _ _ ?_
                  clear hKK KK
                  exact key1
                exact AllReadyIn.nil
              refine AllReadyIn.cons rfl (fun KK hKK => ?_) ?_
              · go_simp
                refine hKK _ _ ?_
                clear hKK KK
                refine wpAnyIn_ready (rs := [5, 7]) (by kernel_rfl) (by simp) ?_
                refine AllReadyIn.cons rfl (fun KK hKK => ?_) ?_
                · go_simp
                  refine hKK _ _ ?_
                  clear hKK KK
                  refine wpAnyIn_ready (rs := [7]) (by kernel_rfl) (by simp) ?_
                  refine AllReadyIn.cons rfl (fun KK hKK => ?_) AllReadyIn.nil
                  go_simp
                  refine hKK _ _ ?_
                  clear hKK KK
                  exact key1
                refine AllReadyIn.cons rfl (fun KK hKK => ?_) ?_
                · go_simp
                  refine hKK _ _ ?_
                  clear hKK KK
                  exact key2
                exact AllReadyIn.nil
              refine AllReadyIn.cons rfl (fun KK hKK => ?_) ?_
              · go_simp
                refine hKK _ _ ?_
                clear hKK KK
                refine wpAnyIn_ready (rs := [5, 6]) (by kernel_rfl) (by simp) ?_
                refine AllReadyIn.cons rfl (fun KK hKK => ?_) ?_
                · go_simp
                  refine hKK _ _ ?_
                  clear hKK KK
                  refine wpAnyIn_ready (rs := [6]) (by kernel_rfl) (by simp) ?_
                  refine AllReadyIn.cons rfl (fun KK hKK => ?_) AllReadyIn.nil
                  go_simp
                  refine hKK _ _ ?_
                  clear hKK KK
                  exact key1
                refine AllReadyIn.cons rfl (fun KK hKK => ?_) ?_
                · go_simp
                  refine hKK _ _ ?_
                  clear hKK KK
                  exact key2
                exact AllReadyIn.nil
              exact AllReadyIn.nil
            · refine wpAnyIn_ready (rs := [5, 8]) (by kernel_rfl) (by simp) ?_
              refine AllReadyIn.cons rfl (fun KK hKK => ?_) ?_
              · go_simp
                refine hKK _ _ ?_
                clear hKK KK
                exact key1
              refine AllReadyIn.cons rfl (fun KK hKK => ?_) ?_
              · go_simp
                refine ⟨trivial, fun h => (by cases h), ?_⟩
                refine (callsIn_wide.2 (i_armKids _ _ _ _ _ _ _ _ _ _ _ _ _ _ _)).mono ?_
                rintro e W3 ⟨rfl, hb3⟩
                refine hKK _ _ ?_
                clear hKK KK
                have h1 := (hb3.cell (p := ⟨B, 0, none⟩) (lt_of_cell3 f1)).trans f1
                have hJ3 := HJJ.out _ _ _ hJ3 hb3
                have hkW : Kept w.heap.size C W W3 := HKW.out _ _ hk3 hb3
                refine wpAnyIn_ready (rs := [5]) (by kernel_rfl) (by simp) ?_
                refine AllReadyIn.cons rfl (fun KK hKK => ?_) AllReadyIn.nil
                go_simp
                refine hKK _ _ ?_
                clear hKK KK
                refine wpAnyIn_ready (rs := [9]) (by kernel_rfl) (by simp) ?_
                refine AllReadyIn.cons rfl (fun KK hKK => ?_) AllReadyIn.nil
                go_simp
                refine ⟨trivial, fun h => (by cases h), ?_⟩
                refine (HREC.out _ hJ3 hkW).mono ?_
                rintro e W4 (⟨rfl, zs, hzs, hJ4, hk4⟩ | ⟨rfl, zs, hzs, hx4⟩)
                · refine hKK _ _ ?_
                  clear hKK KK
                  refine wpAnyIn_ready (rs := [10]) (by kernel_rfl) (by simp) ?_
                  refine AllReadyIn.cons rfl (fun KK hKK => ?_) AllReadyIn.nil
                  go_simp
                  refine hKK _ _ ?_
                  clear hKK KK
                  refine wpAnyIn_ready (rs := [11]) (by kernel_rfl) (by simp) ?_
                  refine AllReadyIn.cons rfl (fun KK hKK => ?_) AllReadyIn.nil
                  go_simp
                  refine hKK _ _ ?_
                  clear hKK KK
                  refine wpAnyIn_done (by kernel_rfl) ?_ _
                  gi_wp2
                  exact ⟨⟨j + 1, ys ++ [x] ++ zs, by omega, by go_num, HCONT.out zs hzs, by simpa [List.append_assoc] using hJ4, hkW.t hk4⟩, by simp [intOf]; omega⟩
                · refine hKK _ _ ?_
                  clear hKK KK
                  refine wpAnyIn_ready (rs := [10]) (by kernel_rfl) (by simp) ?_
                  refine AllReadyIn.cons rfl (fun KK hKK => ?_) AllReadyIn.nil
                  go_simp
                  refine hKK _ _ ?_
                  clear hKK KK
                  refine wpAnyIn_ready (rs := [11]) (by kernel_rfl) (by simp) ?_
                  refine AllReadyIn.cons rfl (fun KK hKK => ?_) AllReadyIn.nil
                  go_simp
                  refine hKK _ _ ?_
                  clear hKK KK
                  refine wpAnyIn_done (by kernel_rfl) ?_ _
                  gi_wp2
                  go_ret
                  exact .inr ⟨rfl, ys ++ [x] ++ zs, HPRE.out zs hzs, by simpa [List.append_assoc] using hx4⟩
              exact AllReadyIn.nil
          · refine wpAnyIn_ready (rs := [8]) (by kernel_rfl) (by simp) ?_
            refine AllReadyIn.cons rfl (fun KK hKK => ?_) AllReadyIn.nil
            go_simp
            refine ⟨trivial, fun h => (by cases h), ?_⟩
            refine (callsIn_wide.2 (i_armKids _ _ _ _ _ _ _ _ _ _ _ _ _ _ _)).mono ?_
            rintro e W3 ⟨rfl, hb3⟩
            refine hKK _ _ ?_
            clear hKK KK
            have h1 := (hb3.cell (p := ⟨B, 0, none⟩) (lt_of_cell3 f1)).trans f1
            have hJ3 := HJJ.out _ _ _ hJ3 hb3
            have hkW : Kept w.heap.size C W W3 := HKW.out _ _ hk3 hb3
            refine wpAnyIn_ready (rs := [9]) (by kernel_rfl) (by simp) ?_
            refine AllReadyIn.cons rfl (fun KK hKK => ?_) AllReadyIn.nil
            go_simp
            refine ⟨trivial, fun h => (by cases h), ?_⟩
            refine (HREC.out _ hJ3 hkW).mono ?_
            rintro e W4 (⟨rfl, zs, hzs, hJ4, hk4⟩ | ⟨rfl, zs, hzs, hx4⟩)
            · refine hKK _ _ ?_
              clear hKK KK
              refine wpAnyIn_ready (rs := [10]) (by kernel_rfl) (by simp) ?_
              refine AllReadyIn.cons rfl (fun KK hKK => ?_) AllReadyIn.nil
              go_simp
              refine hKK _ _ ?_
              clear hKK KK
              refine wpAnyIn_ready (rs := [11]) (by kernel_rfl) (by simp) ?_
              refine AllReadyIn.cons rfl (fun KK hKK => ?_) AllReadyIn.nil
              go_simp
              refine hKK _ _ ?_
              clear hKK KK
              refine wpAnyIn_done (by kernel_rfl) ?_ _
              gi_wp2
              exact ⟨⟨j + 1, ys ++ [x] ++ zs, by omega, by go_num, HCONT.out zs hzs, by simpa [List.append_assoc] using hJ4, hkW.t hk4⟩, by simp [intOf]; omega⟩
            · refine hKK _ _ ?_
              clear hKK KK
              refine wpAnyIn_ready (rs := [10]) (by kernel_rfl) (by simp) ?_
              refine AllReadyIn.cons rfl (fun KK hKK => ?_) AllReadyIn.nil
              go_simp
              refine hKK _ _ ?_
              clear hKK KK
              refine wpAnyIn_ready (rs := [11]) (by kernel_rfl) (by simp) ?_
              refine AllReadyIn.cons rfl (fun KK hKK => ?_) AllReadyIn.nil
              go_simp
              refine hKK _ _ ?_
              clear hKK KK
              refine wpAnyIn_done (by kernel_rfl) ?_ _
              gi_wp2
              go_ret
              exact .inr ⟨rfl, ys ++ [x] ++ zs, HPRE.out zs hzs, by simpa [List.append_assoc] using hx4⟩
        · refine hKK _ _ ?_
          clear hKK KK
          refine wpAnyIn_ready (rs := [3]) (by kernel_rfl) (by simp) ?_
          refine AllReadyIn.cons rfl (fun KK hKK => ?_) AllReadyIn.nil
          go_simp
          refine hKK _ _ ?_
          clear hKK KK
          refine wpAnyIn_ready (rs := [4]) (by kernel_rfl) (by simp) ?_
          refine AllReadyIn.cons rfl (fun KK hKK => ?_) AllReadyIn.nil
          go_simp
          refine hKK _ _ ?_
          clear hKK KK
          refine wpAnyIn_take (i := 5) (v := undef) rfl rfl (by kernel_rfl) (by kernel_rfl) (by kernel_rfl) (fun _ _ _ h => h) ⟨Or.inr ⟨by rfl, rfl⟩, fun _ => rfl⟩ ?_
          refine wpAnyIn_take (i := 6) (v := undef) rfl rfl (by kernel_rfl) (by kernel_rfl) (by kernel_rfl) (fun _ _ _ h => h) ⟨Or.inr ⟨by rfl, rfl⟩, fun _ => rfl⟩ ?_
          refine wpAnyIn_take (i := 7) (v := undef) rfl rfl (by kernel_rfl) (by kernel_rfl) (by kernel_rfl) (fun _ _ _ h => h) ⟨Or.inr ⟨by rfl, rfl⟩, fun _ => rfl⟩ ?_
          refine wpAnyIn_take (i := 8) (v := undef) rfl rfl (by kernel_rfl) (by kernel_rfl) (by kernel_rfl) (fun _ _ _ h => h) ⟨Or.inr ⟨by rfl, rfl⟩, fun _ => rfl⟩ ?_
          refine wpAnyIn_take (i := 9) (v := undef) rfl rfl (by kernel_rfl) (by kernel_rfl) (by kernel_rfl) (fun _ _ _ h => h) ⟨Or.inr ⟨by rfl, rfl⟩, fun _ => rfl⟩ ?_
          refine wpAnyIn_take (i := 10) (v := undef) rfl rfl (by kernel_rfl) (by kernel_rfl) (by kernel_rfl) (fun _ _ _ h => h) ⟨Or.inr ⟨by rfl, rfl⟩, fun _ => rfl⟩ ?_
          refine wpAnyIn_ready (rs := [11]) (by kernel_rfl) (by simp) ?_
          refine AllReadyIn.cons rfl (fun KK hKK => ?_) AllReadyIn.nil
          go_simp
          refine hKK _ _ ?_
          clear hKK KK
          refine wpAnyIn_done (by kernel_rfl) ?_ _
          gi_wp2
          go_ret
          exact .inr ⟨rfl, ys ++ [x], HPRE1.out, by simpa [List.append_assoc] using hx3⟩
    · gi_wp2
      go_ret
      refine .inl ⟨rfl, ys, ?_, hJ1, hk⟩
      rw [hys, List.take_of_length_le (by omega)]
end Go.Proofs.Ytpeojflemfppgaa
/- Contracts of the program's chapter 3: the functions that are ranged over, and those that make them. -/
namespace Go.Proofs.Ytpeojflemfppgaa
open Go.RowKit Go.Sort Go.BigFrame Go.Shelf
theorem i_walkNetsAll (w : World) (P : Stil.Net → Prop) (hP : ∀ x, P x → x.kids.length ≤ 1048576 ∧ ∀ y ∈ x.kids, P y) (C : Nat → Prop) (hC : ∀ k, C k → w.heap.size ≤ k) (M l Y B K N : Nat) (hCM : ∀ k, C k → k < M) (hYC : ¬ C Y) (hBC : ¬ C B) (hKC : ¬ C K) (J Jx : List (NetV w P) → World → Prop)
    (hJ : ∀ s W W', J s W → Below W.heap.size W W' → J s W')
    (hY : ∀ m pre (x : NetV w P) W, J pre W → pre.length < N → YieldAt Fence.wide m Try.prog l #[.agg #[.int .i64 x.net.kind, .int .i64 x.net.one.op, x.av, x.kv]] W fun e W' => (e = .returned (.bool true) ∧ J (pre ++ [x]) W' ∧ Kept w.heap.size C W W') ∨ (e = .returned (.bool false) ∧ Jx (pre ++ [x]) W'))
    (es : List Stil.Net) (hl : es.length ≤ 1048576) (hf : ∀ x ∈ es, P x) : WalkNets w P C M l Y B K N J Jx es := by
  refine i_walkNets w P C hC M l Y B K N hCM hYC hBC hKC J Jx hJ hY es hl hf (fun x hx => ?_)
  have key : ∀ n : Stil.Net, P n → WalkNets w P C M l Y B K N J Jx n.kids := by
    intro n
    induction n using Stil.net_ind with
    | h a b kids ih =>
      intro hp
      have hq := hP _ hp
      exact i_walkNets w P C hC M l Y B K N hCM hYC hBC hKC J Jx hJ hY kids hq.1 hq.2 (fun y hy => ih y hy (hq.2 y hy))
  exact key x (hf x hx)
set_option maxHeartbeats 2000000 in
set_option maxRecDepth 100000 in
theorem i_seqNets (w : World) (P : Stil.Net → Prop) (hP : ∀ x, P x → x.kids.length ≤ 1048576 ∧ ∀ y ∈ x.kids, P y) (C : Nat → Prop) (hC : ∀ k, C k → w.heap.size ≤ k) (M A K : Nat) (hCM : ∀ k, C k → k < M) (hKC : ¬ C K) (_hAC : ¬ C A) (es : List Stil.Net) (hl : es.length ≤ 1048576) (hf : ∀ x ∈ es, P x) (v : Value) (w0 : World)
    (hw0 : Below w.heap.size w w0) (hMw : M ≤ w0.heap.size) (hs : NetsSeen w C w0 v es) (hA : w0.cell? ⟨A, 0, none⟩ = some v) (hK : w0.cell? ⟨K, 0, none⟩ = some (.func (.func 49) #[] #[])) (n : Nat) :
    SeqStopsK Fence.wide n Try.prog 59 #[.pointer (some ⟨K, 0, none⟩), .pointer (some ⟨A, 0, none⟩)] (fun x : NetV w P => #[Value.agg #[.int .i64 x.net.kind, .int .i64 x.net.one.op, x.av, x.kv]]) (Kept w.heap.size C) (fun ys => ys.map NetV.net = Stil.netsPre es) (fun pre => pre.map NetV.net <+: Stil.netsPre es) (Stil.netsPre es).length w0 := by
  intro l J Jx W hW hJ _ hY h0
  have hmf : ∀ (fn : Fn) (first cap : Array Value) (w : World), (Instr.makeFunc fn first cap).run Try.prog w = .ok (.func fn first cap) w := fun _ _ _ _ => rfl
  have hst : ∀ (fn : Fn) (fi ca : Array Value) (P : Program) (w : World) (a : Addr) (m : Mode), (store a (.func fn fi ca) m).run P w = stored P w a (.func fn fi ca) m := fun fn fi ca P w a m => run_store P w a _ m rfl
  have hAW := (hW.cell (p := ⟨A, 0, none⟩) (lt_of_cell3 hA)).trans hA
  have hKW := (hW.cell (p := ⟨K, 0, none⟩) (lt_of_cell3 hK)).trans hK
  have hAz := lt_of_cell3 hAW
  have hKz := lt_of_cell3 hKW
  have hsz := hW.size
  have HREC : Hid (∀ W2, Below W.heap.size W W2 → W2.cell? ⟨W.heap.size, 0, none⟩ = some (.func (.yield l) #[] #[]) → W2.cell? ⟨W.heap.size + 1, 0, none⟩ = some (.func (.func 60) #[] #[.pointer (some ⟨W.heap.size, 0, none⟩), .pointer (some ⟨W.heap.size + 1, 0, none⟩), .pointer (some ⟨K, 0, none⟩)]) →
      CallsIn Fence.wide (n - 1) Try.prog 60 #[v, .pointer (some ⟨W.heap.size, 0, none⟩), .pointer (some ⟨W.heap.size + 1, 0, none⟩), .pointer (some ⟨K, 0, none⟩)] W2 fun e W' =>
        (e = .returned (.bool true) ∧ ∃ ys : List (NetV w P), ys.map NetV.net = Stil.netsPre es ∧ J ([] ++ ys) W' ∧ Kept w.heap.size C W2 W') ∨
        (e = .returned (.bool false) ∧ ∃ ys : List (NetV w P), ys.map NetV.net <+: Stil.netsPre es ∧ Jx ([] ++ ys) W')) := by
    intro W2 hb2 hy hbx
    have hj : ∀ (s : List (NetV w P)) (X Y : World), J s X → Below X.heap.size X Y → J s Y := fun s X Y hs hb => hJ s X Y none hs ⟨hb.os, hb.tape, hb.output, hb.size, fun k hk _ => hb.block k hk⟩ (fun r e => by cases e)
    have hw2 : Below w.heap.size w W2 := (hw0.trans (hW.mono hw0.size)).trans (hb2.mono (Nat.le_trans hw0.size hW.size))
    refine i_walkNetsAll w P hP C hC M l W.heap.size (W.heap.size + 1) K (Stil.netsPre es).length hCM (fun h => by have := hCM _ h; omega) (fun h => by have := hCM _ h; omega) hKC J Jx hj (fun m pre x X hjx hlx => YieldAt.anyDepth rfl m (hY pre x X hjx hlx)) es hl hf (n - 1) v [] W2 (hs.keep ((KeepC.of_below hW).call hb2)) ⟨hy, hbx, (hb2.cell (p := ⟨K, 0, none⟩) hKz).trans hKW⟩ (hj _ _ _ h0 hb2) hw2 (Nat.le_trans hMw (Nat.le_trans hW.size hb2.size)) (by simp)
  obtain ⟨sa, sl, sc, rfl⟩ : ∃ sa sl sc, v = .slice sa sl sc := by obtain ⟨a, cap, hv, _⟩ := hs; exact ⟨_, _, _, hv⟩
  clear hY hJ hs hl hf hC hCM
  refine callsIn_of_wp Try.func59 rfl trivial ?_ rfl
  simp only [Try.ntmps59, List.size_toArray, List.length_cons, List.length_nil, Nat.reduceAdd, Nat.reduceSub, Array.replicate_succ, Array.replicate_zero, List.push_toArray, List.append_toArray, List.nil_append, List.cons_append]
  gi_wp2_with (refine ⟨trivial, fun h => (by cases h), ?_⟩; refine (HREC.out _ (by (repeat (first | with_reducible exact Below.refl _ _ | with_reducible assumption | with_reducible refine bl_set (by first | exact Nat.le_refl _ | (simp; done) | (simp; omega) | omega) ?_ _ | with_reducible refine bl_alloc ?_ _ | with_reducible refine bl_drewN ?_ _ | with_reducible refine bl_drew ?_ | with_reducible refine bl_grow ?_ _ _ | with_reducible refine bl_call ?_ (by assumption)))) (by simp [go_sem]) (by simp [go_sem])).mono ?_; rintro e W3 (⟨rfl, ys, hys, hJ3, _⟩ | ⟨rfl, ys, hys, hx3⟩))
  · go_end0
    exact ⟨⟨_, rfl⟩, .inl ⟨ys, hys, by simpa using hJ3⟩⟩
  · go_end0
    exact ⟨⟨_, rfl⟩, .inr ⟨ys, hys, by simpa using hx3⟩⟩
set_option maxHeartbeats 1000000 in
theorem i_mkWalkNet (a : Option Addr) (ln cap : Nat) (w : World) : Calls Try.prog 48 #[.slice a ln cap, .func (.func 49) #[] #[]] w fun e w' => e = .returned (.func (.func 59) #[] #[.pointer (some ⟨w.heap.size + 1, 0, none⟩), .pointer (some ⟨w.heap.size, 0, none⟩)]) ∧
    w'.cell? ⟨w.heap.size, 0, none⟩ = some (.slice a ln cap) ∧ w'.cell? ⟨w.heap.size + 1, 0, none⟩ = some (.func (.func 49) #[] #[]) ∧ Below w.heap.size w w' := by
  have hmf : ∀ (fn : Fn) (first cap : Array Value) (w : World), (Instr.makeFunc fn first cap).run Try.prog w = .ok (.func fn first cap) w := fun _ _ _ _ => rfl
  have hst : ∀ (fn : Fn) (fi ca : Array Value) (P : Program) (w : World) (a : Addr) (m : Mode), (store a (.func fn fi ca) m).run P w = stored P w a (.func fn fi ca) m := fun fn fi ca P w a m => run_store P w a _ m rfl
  go_enter Try.func48, Try.ntmps48
  go_wp2
  go_ret
  exact ⟨rfl, by simp [go_sem], by simp [go_sem], by (repeat (first | with_reducible exact Below.refl _ _ | with_reducible assumption | with_reducible refine bl_set (by first | exact Nat.le_refl _ | (simp; done) | (simp; omega) | omega) ?_ _ | with_reducible refine bl_alloc ?_ _ | with_reducible refine bl_drewN ?_ _ | with_reducible refine bl_drew ?_ | with_reducible refine bl_grow ?_ _ _ | with_reducible refine bl_call ?_ (by assumption)))⟩
theorem i_walkArmsAll (w : World) (P : Stil.Arm → Prop) (hP : ∀ x, P x → x.kids.length ≤ 1048576 ∧ ∀ y ∈ x.kids, P y) (C : Nat → Prop) (hC : ∀ k, C k → w.heap.size ≤ k) (M l Y B K N : Nat) (hCM : ∀ k, C k → k < M) (hYC : ¬ C Y) (hBC : ¬ C B) (hKC : ¬ C K) (J Jx : List (ArmV w P) → World → Prop)
    (hJ : ∀ s W W', J s W → Below W.heap.size W W' → J s W')
    (hY : ∀ m pre (x : ArmV w P) W, J pre W → pre.length < N → YieldAt Fence.wide m Try.prog l #[.agg #[.int .i64 x.arm.net.kind, .int .i64 x.arm.net.one.op, x.av, x.nv, x.cv, x.kv]] W fun e W' => (e = .returned (.bool true) ∧ J (pre ++ [x]) W' ∧ Kept w.heap.size C W W') ∨ (e = .returned (.bool false) ∧ Jx (pre ++ [x]) W'))
    (es : List Stil.Arm) (hl : es.length ≤ 1048576) (hf : ∀ x ∈ es, P x) : WalkArms w P C M l Y B K N J Jx es := by
  refine i_walkArms w P C hC M l Y B K N hCM hYC hBC hKC J Jx hJ hY es hl hf (fun x hx => ?_)
  have key : ∀ n : Stil.Arm, P n → WalkArms w P C M l Y B K N J Jx n.kids := by
    intro n
    induction n using Stil.arm_ind with
    | h a b kids ih =>
      intro hp
      have hq := hP _ hp
      exact i_walkArms w P C hC M l Y B K N hCM hYC hBC hKC J Jx hJ hY kids hq.1 hq.2 (fun y hy => ih y hy (hq.2 y hy))
  exact key x (hf x hx)
set_option maxHeartbeats 2000000 in
set_option maxRecDepth 100000 in
theorem i_seqArms (w : World) (P : Stil.Arm → Prop) (hP : ∀ x, P x → x.kids.length ≤ 1048576 ∧ ∀ y ∈ x.kids, P y) (C : Nat → Prop) (hC : ∀ k, C k → w.heap.size ≤ k) (M A K : Nat) (hCM : ∀ k, C k → k < M) (hKC : ¬ C K) (_hAC : ¬ C A) (es : List Stil.Arm) (hl : es.length ≤ 1048576) (hf : ∀ x ∈ es, P x) (v : Value) (w0 : World)
    (hw0 : Below w.heap.size w w0) (hMw : M ≤ w0.heap.size) (hs : ArmsSeen w C w0 v es) (hA : w0.cell? ⟨A, 0, none⟩ = some v) (hK : w0.cell? ⟨K, 0, none⟩ = some (.func (.func 47) #[] #[])) (n : Nat) :
    SeqStopsK Fence.wide n Try.prog 57 #[.pointer (some ⟨K, 0, none⟩), .pointer (some ⟨A, 0, none⟩)] (fun x : ArmV w P => #[Value.agg #[.int .i64 x.arm.net.kind, .int .i64 x.arm.net.one.op, x.av, x.nv, x.cv, x.kv]]) (Kept w.heap.size C) (fun ys => ys.map ArmV.arm = Stil.armsPre es) (fun pre => pre.map ArmV.arm <+: Stil.armsPre es) (Stil.armsPre es).length w0 := by
  intro l J Jx W hW hJ _ hY h0
  have hmf : ∀ (fn : Fn) (first cap : Array Value) (w : World), (Instr.makeFunc fn first cap).run Try.prog w = .ok (.func fn first cap) w := fun _ _ _ _ => rfl
  have hst : ∀ (fn : Fn) (fi ca : Array Value) (P : Program) (w : World) (a : Addr) (m : Mode), (store a (.func fn fi ca) m).run P w = stored P w a (.func fn fi ca) m := fun fn fi ca P w a m => run_store P w a _ m rfl
  have hAW := (hW.cell (p := ⟨A, 0, none⟩) (lt_of_cell3 hA)).trans hA
  have hKW := (hW.cell (p := ⟨K, 0, none⟩) (lt_of_cell3 hK)).trans hK
  have hAz := lt_of_cell3 hAW
  have hKz := lt_of_cell3 hKW
  have hsz := hW.size
  have HREC : Hid (∀ W2, Below W.heap.size W W2 → W2.cell? ⟨W.heap.size, 0, none⟩ = some (.func (.yield l) #[] #[]) → W2.cell? ⟨W.heap.size + 1, 0, none⟩ = some (.func (.func 58) #[] #[.pointer (some ⟨W.heap.size, 0, none⟩), .pointer (some ⟨W.heap.size + 1, 0, none⟩), .pointer (some ⟨K, 0, none⟩)]) →
      CallsIn Fence.wide (n - 1) Try.prog 58 #[v, .pointer (some ⟨W.heap.size, 0, none⟩), .pointer (some ⟨W.heap.size + 1, 0, none⟩), .pointer (some ⟨K, 0, none⟩)] W2 fun e W' =>
        (e = .returned (.bool true) ∧ ∃ ys : List (ArmV w P), ys.map ArmV.arm = Stil.armsPre es ∧ J ([] ++ ys) W' ∧ Kept w.heap.size C W2 W') ∨
        (e = .returned (.bool false) ∧ ∃ ys : List (ArmV w P), ys.map ArmV.arm <+: Stil.armsPre es ∧ Jx ([] ++ ys) W')) := by
    intro W2 hb2 hy hbx
    have hj : ∀ (s : List (ArmV w P)) (X Y : World), J s X → Below X.heap.size X Y → J s Y := fun s X Y hs hb => hJ s X Y none hs ⟨hb.os, hb.tape, hb.output, hb.size, fun k hk _ => hb.block k hk⟩ (fun r e => by cases e)
    have hw2 : Below w.heap.size w W2 := (hw0.trans (hW.mono hw0.size)).trans (hb2.mono (Nat.le_trans hw0.size hW.size))
    refine i_walkArmsAll w P hP C hC M l W.heap.size (W.heap.size + 1) K (Stil.armsPre es).length hCM (fun h => by have := hCM _ h; omega) (fun h => by have := hCM _ h; omega) hKC J Jx hj (fun m pre x X hjx hlx => YieldAt.anyDepth rfl m (hY pre x X hjx hlx)) es hl hf (n - 1) v [] W2 (hs.keep ((KeepC.of_below hW).call hb2)) ⟨hy, hbx, (hb2.cell (p := ⟨K, 0, none⟩) hKz).trans hKW⟩ (hj _ _ _ h0 hb2) hw2 (Nat.le_trans hMw (Nat.le_trans hW.size hb2.size)) (by simp)
  obtain ⟨sa, sl, sc, rfl⟩ : ∃ sa sl sc, v = .slice sa sl sc := by obtain ⟨a, cap, hv, _⟩ := hs; exact ⟨_, _, _, hv⟩
  clear hY hJ hs hl hf hC hCM
  refine callsIn_of_wp Try.func57 rfl trivial ?_ rfl
  simp only [Try.ntmps57, List.size_toArray, List.length_cons, List.length_nil, Nat.reduceAdd, Nat.reduceSub, Array.replicate_succ, Array.replicate_zero, List.push_toArray, List.append_toArray, List.nil_append, List.cons_append]
  gi_wp2_with (refine ⟨trivial, fun h => (by cases h), ?_⟩; refine (HREC.out _ (by (repeat (first | with_reducible exact Below.refl _ _ | with_reducible assumption | with_reducible refine bl_set (by first | exact Nat.le_refl _ | (simp; done) | (simp; omega) | omega) ?_ _ | with_reducible refine bl_alloc ?_ _ | with_reducible refine bl_drewN ?_ _ | with_reducible refine bl_drew ?_ | with_reducible refine bl_grow ?_ _ _ | with_reducible refine bl_call ?_ (by assumption)))) (by simp [go_sem]) (by simp [go_sem])).mono ?_; rintro e W3 (⟨rfl, ys, hys, hJ3, _⟩ | ⟨rfl, ys, hys, hx3⟩))
  · go_end0
    exact ⟨⟨_, rfl⟩, .inl ⟨ys, hys, by simpa using hJ3⟩⟩
  · go_end0
    exact ⟨⟨_, rfl⟩, .inr ⟨ys, hys, by simpa using hx3⟩⟩
set_option maxHeartbeats 1000000 in
theorem i_mkWalkArm (a : Option Addr) (ln cap : Nat) (w : World) : Calls Try.prog 46 #[.slice a ln cap, .func (.func 47) #[] #[]] w fun e w' => e = .returned (.func (.func 57) #[] #[.pointer (some ⟨w.heap.size + 1, 0, none⟩), .pointer (some ⟨w.heap.size, 0, none⟩)]) ∧
    w'.cell? ⟨w.heap.size, 0, none⟩ = some (.slice a ln cap) ∧ w'.cell? ⟨w.heap.size + 1, 0, none⟩ = some (.func (.func 47) #[] #[]) ∧ Below w.heap.size w w' := by
  have hmf : ∀ (fn : Fn) (first cap : Array Value) (w : World), (Instr.makeFunc fn first cap).run Try.prog w = .ok (.func fn first cap) w := fun _ _ _ _ => rfl
  have hst : ∀ (fn : Fn) (fi ca : Array Value) (P : Program) (w : World) (a : Addr) (m : Mode), (store a (.func fn fi ca) m).run P w = stored P w a (.func fn fi ca) m := fun fn fi ca P w a m => run_store P w a _ m rfl
  go_enter Try.func46, Try.ntmps46
  go_wp2
  go_ret
  exact ⟨rfl, by simp [go_sem], by simp [go_sem], by (repeat (first | with_reducible exact Below.refl _ _ | with_reducible assumption | with_reducible refine bl_set (by first | exact Nat.le_refl _ | (simp; done) | (simp; omega) | omega) ?_ _ | with_reducible refine bl_alloc ?_ _ | with_reducible refine bl_drewN ?_ _ | with_reducible refine bl_drew ?_ | with_reducible refine bl_grow ?_ _ _ | with_reducible refine bl_call ?_ (by assumption)))⟩
end Go.Proofs.Ytpeojflemfppgaa
/- Contracts of the program's chapter 3: how many parts a ladder has. -/
namespace Go.Proofs.Ytpeojflemfppgaa
open Go.RowKit Go.Sort Go.BigFrame Go.Shelf
attribute [local go_sem] Oper.semAt_some
set_option maxHeartbeats 1000000 in
theorem i_isNothing (op : Int) (a : Option Addr) (ln cap : Nat) (w : World) (_h : ln ≤ 9223372036854775807) :
    Calls Try.prog 54 #[.agg #[.int .i64 op, .slice a ln cap]] w fun e w' => e = .returned (.bool (op == 0 && ln == 0)) ∧ Below w.heap.size w w' := by
  by_cases h0 : op = 0
  · subst h0
    go_enter Try.func54, Try.ntmps54
    go_wp2
    all_goals go_ret
    all_goals refine ⟨ret_bool ?_, by (repeat (first | with_reducible exact Below.refl _ _ | with_reducible assumption | with_reducible refine bl_set (by first | exact Nat.le_refl _ | (simp; done) | (simp; omega) | omega) ?_ _ | with_reducible refine bl_alloc ?_ _ | with_reducible refine bl_drewN ?_ _ | with_reducible refine bl_drew ?_ | with_reducible refine bl_grow ?_ _ _ | with_reducible refine bl_call ?_ (by assumption)))⟩
    all_goals (go_light; rw [Bool.eq_iff_iff]; simp; try omega)
  · have h1 : (op == 0) = false := by rw [beq_eq_false_iff_ne]; exact h0
    go_enter Try.func54, Try.ntmps54
    go_wp2
    all_goals go_ret
    all_goals refine ⟨ret_bool ?_, by (repeat (first | with_reducible exact Below.refl _ _ | with_reducible assumption | with_reducible refine bl_set (by first | exact Nat.le_refl _ | (simp; done) | (simp; omega) | omega) ?_ _ | with_reducible refine bl_alloc ?_ _ | with_reducible refine bl_drewN ?_ _ | with_reducible refine bl_drew ?_ | with_reducible refine bl_grow ?_ _ _ | with_reducible refine bl_call ?_ (by assumption)))⟩
    all_goals (go_light; simp [h1])
set_option maxHeartbeats 1000000 in
theorem i_treeNets (k op : Int) (pa p : Option Addr) (la ca ln cap : Nat) (w : World) :
    Calls Try.prog 31 #[.agg #[.int .i64 k, .int .i64 op, .slice pa la ca, .slice p ln cap]] w fun e w' => ∃ b A K, e = .returned (.func (.func 59) #[] #[.pointer (some ⟨K, 0, none⟩), .pointer (some ⟨A, 0, none⟩)]) ∧ w.heap.size ≤ b ∧ w.heap.size ≤ A ∧ w.heap.size ≤ K ∧
      w'.cell? ⟨A, 0, none⟩ = some (.slice (some ⟨b, 0, none⟩) 1 1) ∧ w'.cell? ⟨K, 0, none⟩ = some (.func (.func 49) #[] #[]) ∧
      w'.cell? ⟨b, 0, none⟩ = some (.int .i64 k) ∧ w'.cell? ⟨b, 1, none⟩ = some (.int .i64 op) ∧ w'.cell? ⟨b, 2, none⟩ = some (.slice pa la ca) ∧ w'.cell? ⟨b, 3, none⟩ = some (.slice p ln cap) ∧ Below w.heap.size w w' := by
  have hmf : ∀ (fn : Fn) (first cap : Array Value) (w : World), (Instr.makeFunc fn first cap).run Try.prog w = .ok (.func fn first cap) w := fun _ _ _ _ => rfl
  go_enter Try.func31, Try.ntmps31
  go_wp2_with (go_at_call 48; refine (i_mkWalkNet _ _ _ _).mono ?_; rintro e w1 ⟨rfl, hA, hK, hb⟩)
  simp only [World.size_alloc] at hA hK
  go_ret
  refine ⟨w.heap.size + 1, _, _, rfl, by omega, by omega, by omega, hA, hK, ?_, ?_, ?_, ?_, by (repeat (first | with_reducible exact Below.refl _ _ | with_reducible assumption | with_reducible refine bl_set (by first | exact Nat.le_refl _ | (simp; done) | (simp; omega) | omega) ?_ _ | with_reducible refine bl_alloc ?_ _ | with_reducible refine bl_drewN ?_ _ | with_reducible refine bl_drew ?_ | with_reducible refine bl_grow ?_ _ _ | with_reducible refine bl_call ?_ (by assumption)))⟩
  all_goals (rw [hb.cell (p := ⟨w.heap.size + 1, _, none⟩) (by simp)]; simp [go_sem])
set_option maxHeartbeats 1000000 in
theorem i_treeArms (a : Option Addr) (ln cap : Nat) (w : World) :
    Calls Try.prog 30 #[.slice a ln cap] w fun e w' => ∃ A K, e = .returned (.func (.func 57) #[] #[.pointer (some ⟨K, 0, none⟩), .pointer (some ⟨A, 0, none⟩)]) ∧ w.heap.size ≤ A ∧ w.heap.size ≤ K ∧
      w'.cell? ⟨A, 0, none⟩ = some (.slice a ln cap) ∧ w'.cell? ⟨K, 0, none⟩ = some (.func (.func 47) #[] #[]) ∧ Below w.heap.size w w' := by
  have hmf : ∀ (fn : Fn) (first cap : Array Value) (w : World), (Instr.makeFunc fn first cap).run Try.prog w = .ok (.func fn first cap) w := fun _ _ _ _ => rfl
  go_enter Try.func30, Try.ntmps30
  go_wp2_with (go_at_call 46; refine (i_mkWalkArm _ _ _ _).mono ?_; rintro e w1 ⟨rfl, hA, hK, hb⟩)
  go_ret
  exact ⟨_, _, rfl, by omega, by omega, hA, hK, by (repeat (first | with_reducible exact Below.refl _ _ | with_reducible assumption | with_reducible refine bl_set (by first | exact Nat.le_refl _ | (simp; done) | (simp; omega) | omega) ?_ _ | with_reducible refine bl_alloc ?_ _ | with_reducible refine bl_drewN ?_ _ | with_reducible refine bl_drew ?_ | with_reducible refine bl_grow ?_ _ _ | with_reducible refine bl_call ?_ (by assumption)))⟩
set_option maxHeartbeats 2000000 in
set_option maxRecDepth 100000 in
theorem i_countNets (n : Stil.Net) (av kv : Value) (limit : Int) (w : World) (hav : DevsAt w av n.one.args) (hkv : NetsAt w kv n.kids) (hf : Stil.netFits n) (hsz : Stil.netSize n ≤ 1000000000) (_hl1 : -9223372036854775808 ≤ limit) (_hl2 : limit ≤ 9223372036854775807) :
    Calls Try.prog 40 #[.agg #[.int .i64 n.kind, .int .i64 n.one.op, av, kv], .int .i64 limit] w fun e w' => ∃ r : Nat, e = .returned (.int .i64 r) ∧ ((Stil.netSize n : Int) ≤ limit → r = Stil.netSize n) ∧ (limit < Stil.netSize n → limit < r) ∧ r ≤ Stil.netSize n ∧ Below w.heap.size w w' := by
  have HLEN : Hid ((Stil.netsPre [n]).length = Stil.netSize n) := by show _ = _; rw [Stil.netsPre_one, Stil.netPre_len]
  obtain ⟨z, hz⟩ : ∃ z, z = Stil.netSize n := ⟨_, rfl⟩
  rw [← hz] at hsz HLEN ⊢
  clear hz
  refine (callsIn_wide (n := 9)).1 ?_
  have HAV : Hid (DevsAt w av n.one.args) := hav
  have HKV : Hid (NetsAt w kv n.kids) := hkv
  obtain ⟨p0, r0, rfl, _⟩ := hav
  obtain ⟨p1, r1, rfl, _⟩ := hkv
  refine callsIn_of_wp_marks Try.func40 rfl trivial ?_ rfl
  simp only [Try.ntmps40, List.size_toArray, List.length_cons, List.length_nil, Nat.reduceAdd, Nat.reduceSub, Array.replicate_succ, Array.replicate_zero, List.push_toArray, List.append_toArray, List.nil_append, List.cons_append]
  gi_wp2_with (refine ⟨trivial, ?_⟩; gi_at_call 31; refine (callsIn_wide.2 (i_treeNets _ _ _ _ _ _ _ _ _)).mono ?_; rintro e w1 ⟨b, A, K, rfl, hb0, hA0, hK0, hA, hK, x0, x1, x2, x3, hb⟩)
  simp only [World.size_alloc] at hb0 hA0 hK0
  have hbw : Below w.heap.size w w1 := by (repeat (first | with_reducible exact Below.refl _ _ | with_reducible assumption | with_reducible refine bl_set (by first | exact Nat.le_refl _ | (simp; done) | (simp; omega) | omega) ?_ _ | with_reducible refine bl_alloc ?_ _ | with_reducible refine bl_drewN ?_ _ | with_reducible refine bl_drew ?_ | with_reducible refine bl_grow ?_ _ _ | with_reducible refine bl_call ?_ (by assumption)))
  have hcl : w1.cell? ⟨w.heap.size + 1, 0, none⟩ = some (.int .i64 limit) := by rw [hb.cell (p := ⟨w.heap.size + 1, 0, none⟩) (by simp)]; simp [go_sem]
  have hcs : w1.cell? ⟨w.heap.size + 1 + 1, 0, none⟩ = some (.int .i64 0) := by rw [hb.cell (p := ⟨w.heap.size + 1 + 1, 0, none⟩) (by simp)]; simp [go_sem]
  have hcf : w1.frozen? ⟨w.heap.size + 1 + 1, 0, none⟩ = false := by rw [hb.frozen (p := ⟨w.heap.size + 1 + 1, 0, none⟩) (by simp)]; simp [go_sem]
  have hsz1 : w.heap.size + 3 ≤ w1.heap.size := by have := hb.size; simp at this; omega
  have hseen : NetsSeen w (fun k => k = w.heap.size + 1 + 1) w1 (.slice (some ⟨b, 0, none⟩) 1 1) [n] := by
    refine ⟨_, 1, rfl, fun i hi => ⟨b, 0, rfl, (fun h : b = _ => by omega), .slice p0 n.one.args.length r0, .slice p1 n.kids.length r1, ?_⟩⟩
    obtain rfl : i = 0 := by simpa using hi
    simp only [Nat.zero_mul, Nat.zero_add, List.getElem_cons_zero]
    exact ⟨x0, x1, x2, x3, HAV.out, HKV.out⟩
  have HS : Hid (SeqStopsK Fence.wide (9 - 1) Try.prog 59 #[.pointer (some ⟨K, 0, none⟩), .pointer (some ⟨A, 0, none⟩)] (fun x : NetV w Stil.netFits => #[Value.agg #[.int .i64 x.net.kind, .int .i64 x.net.one.op, x.av, x.kv]]) (Kept w.heap.size (fun k => k = w.heap.size + 1 + 1)) (fun ys => ys.map NetV.net = Stil.netsPre [n]) (fun pre => pre.map NetV.net <+: Stil.netsPre [n]) (Stil.netsPre [n]).length w1) :=
    i_seqNets w Stil.netFits (fun x hx => ⟨(Stil.netFits_parts hx).2.2.1, (Stil.netFits_parts hx).2.2.2⟩) (fun k => k = w.heap.size + 1 + 1) (fun k (h : k = _) => by omega) (w.heap.size + 3) A K (fun k (h : k = _) => by omega) (fun h : K = _ => by omega) (fun h : A = _ => by omega) [n] (by simp) (by simpa using hf) _ w1 hbw hsz1 hseen hA hK _
  clear hseen hb x0 x1 x2 x3 hA hK hf
  obtain ⟨N, hN⟩ : ∃ N, N = (Stil.netsPre [n]).length := ⟨_, rfl⟩
  rw [← hN] at HS
  have hNz : N = z := by rw [hN, HLEN.out]
  refine wpIn_rangeFunc_ownG rfl (by decide) (gf := 59) (lb := #[.pointer (some ⟨K, 0, none⟩), .pointer (some ⟨A, 0, none⟩)]) rfl trivial (enters_of Try.func59 (by kernel_rfl) rfl)
    HS.out Kept.t (Kept.b (by omega)) (Below.refl _ _) (fun _ => rfl)
    (fun pre W => (W.cell? ⟨w.heap.size + 1 + 1, 0, none⟩ = some (.int .i64 (pre.length : Int)) ∧ W.frozen? ⟨w.heap.size + 1 + 1, 0, none⟩ = false ∧ W.cell? ⟨w.heap.size + 1, 0, none⟩ = some (.int .i64 limit)) ∧ Below w.heap.size w W)
    (fun c pre W => (c = .exit 0 ∧ limit < pre.length ∧ W.cell? ⟨w.heap.size + 1 + 1, 0, none⟩ = some (.int .i64 (pre.length : Int))) ∧ Below w.heap.size w W)
    (OwnFrom.and (Own.from (fun s A B row hs hg hr => ⟨cell_kept hs.1 hg hr, (frozen_kept hs.1 hg hr).trans hs.2.1, cell_kept hs.2.2 hg hr⟩) _) (ownFrom_below (Nat.le_refl _) (by omega)))
    (fun c => OwnFrom.and (Own.from (fun s A B row hs hg hr => ⟨hs.1, hs.2.1, cell_kept hs.2.2 hg hr⟩) _) (ownFrom_below (Nat.le_refl _) (by omega)))
    ⟨⟨by simpa using hcs, hcf, hcl⟩, hbw⟩
    (fun x => { tmps := #[.agg #[.int .i64 n.kind, .int .i64 n.one.op, .slice p0 n.one.args.length r0, .slice p1 n.kids.length r1], .int .i64 limit, .pointer (some ⟨w.heap.size, 0, none⟩), .pointer (some ⟨w.heap.size + 1, 0, none⟩), .int .i64 0, .pointer (some ⟨w.heap.size + 1 + 1, 0, none⟩), .agg #[.int .i64 n.kind, .int .i64 n.one.op, .slice p0 n.one.args.length r0, .slice p1 n.kids.length r1], .func (.func 59) #[] #[.pointer (some ⟨K, 0, none⟩), .pointer (some ⟨A, 0, none⟩)], .agg #[.int .i64 x.net.kind, .int .i64 x.net.one.op, x.av, x.kv], undef, undef, undef, undef, undef, undef], defers := [] }) ?assign ?body ?done ?stop
  case assign =>
    intro l x W KK hKK
    gi_wp2
    simpa using hKK
  case body =>
    rintro l pre x W ⟨⟨hc, hfz, hlm⟩, hB⟩ hpl
    have hz0 : w.heap.size + 1 + 1 < W.heap.size := lt_of_cell3 hc
    have hw : IntKind.i64.wrap ((pre.length : Int) + 1) = (pre.length : Int) + 1 := by rw [IntKind.wrap_i64]; omega
    have hset : (W.setCell ⟨w.heap.size + 1 + 1, 0, none⟩ (.int .i64 ((pre.length : Int) + 1))).cell? ⟨w.heap.size + 1 + 1, 0, none⟩ = some (.int .i64 ((pre ++ [x]).length : Int)) := by
      rw [cellSetAt hc]; simp
    by_cases hgt : limit < (pre.length : Int) + 1
    · gi_wp2
      exact ⟨(KeepsOthers.setCell _ _ _).from _, ⟨rfl, by simp; omega, hset⟩, hB.setCell (p := ⟨w.heap.size + 1 + 1, 0, none⟩) (by simp; omega) _⟩
    · gi_wp2
      exact ⟨(KeepsOthers.setCell _ _ _).from _, ⟨(Below.refl _ W).setCell (p := ⟨w.heap.size + 1 + 1, 0, none⟩) (by simp; omega) _, KeepC.set (C := fun k => k = w.heap.size + 1 + 1) (KeepC.refl _ _) (show _ = _ from rfl) _⟩, ⟨hset, by rw [World.frozen?_setCell]; exact hfz, by rw [cellSetOther (by omega)]; exact hlm⟩, hB.setCell (p := ⟨w.heap.size + 1 + 1, 0, none⟩) (by simp; omega) _⟩
  case done =>
    rintro D ys W hD hS ⟨⟨hc, _⟩, hB⟩ hK
    have hyl : ys.length = z := by have := congrArg List.length hS; rw [List.length_map, HLEN.out] at this; exact this
    gi_wp2
    refine ⟨by simp, .inl ⟨_, _, rfl, run_takeDeferred hK, ?_⟩⟩
    exact ⟨_, results_tmp rfl _ _ _, z, rfl, fun _ => rfl, fun h => h, Nat.le_refl _, hB.trans (belowK_b (w := w) (Nat.le_refl _) W D _ _ (by omega) hK rfl rfl)⟩
  case stop =>
    rintro D c pre W hD hSp ⟨⟨rfl, hlim, hc⟩, hB⟩ hK
    have hyl : pre.length ≤ z := by have := hSp.length_le; rw [List.length_map, HLEN.out] at this; exact this
    gi_wp2
    refine ⟨by simp, .inl ⟨_, _, rfl, run_takeDeferred hK, ?_⟩⟩
    exact ⟨_, results_tmp rfl _ _ _, pre.length, rfl, fun h => by omega, fun h => by omega, by omega, hB.trans (belowK_b (w := w) (Nat.le_refl _) W D _ _ (by omega) hK rfl rfl)⟩
end Go.Proofs.Ytpeojflemfppgaa
/- Contracts of the program's chapter 3: how many parts a ladder has, arm by arm. -/
namespace Go.Proofs.Ytpeojflemfppgaa
open Go.RowKit Go.Sort Go.BigFrame Go.Shelf
attribute [local go_sem] Oper.semAt_some
set_option maxHeartbeats 1000000 in
theorem i_isNone (n : Stil.Net) (av kv : Value) (w : World) (hav : DevsAt w av n.one.args) (hkv : NetsAt w kv n.kids) (hf : Stil.netFits n) :
    Calls Try.prog 39 #[.agg #[.int .i64 n.kind, .int .i64 n.one.op, av, kv]] w fun e w' => e = .returned (.bool (Stil.netNone n)) ∧ Below w.heap.size w w' := by
  obtain ⟨_, he, hl, _⟩ := Stil.netFits_parts hf
  have hla := he.2.1
  obtain ⟨p0, r0, rfl, _⟩ := hav
  obtain ⟨p1, r1, rfl, _⟩ := hkv
  clear hf he
  have HN : Hid (Stil.netNone n = ((n.kind == 0 && (n.one.op == 0 && n.one.args.length == 0)) && n.kids.length == 0)) := by show _ = _; unfold Stil.netNone; simp only [Bool.and_assoc]
  have HC : Hid (∀ W, Calls Try.prog 54 #[.agg #[.int .i64 n.one.op, .slice p0 n.one.args.length r0]] W fun e w' => e = .returned (.bool (n.one.op == 0 && n.one.args.length == 0)) ∧ Below W.heap.size W w') := fun W => i_isNothing _ _ _ _ _ (by omega)
  obtain ⟨bb, hbb⟩ : ∃ bb, bb = (n.one.op == 0 && n.one.args.length == 0) := ⟨_, rfl⟩
  rw [← hbb] at HN HC
  obtain ⟨lk, hlk⟩ : ∃ lk, lk = n.kids.length := ⟨_, rfl⟩
  obtain ⟨la, hla2⟩ : ∃ la, la = n.one.args.length := ⟨_, rfl⟩
  rw [← hlk] at HN hl ⊢
  rw [← hla2] at HC hla ⊢
  obtain ⟨k, hk⟩ : ∃ k, k = n.kind := ⟨_, rfl⟩
  rw [← hk] at HN ⊢
  clear hbb hlk hla2 hk
  by_cases h0 : k = 0
  · subst h0
    cases bb
    · go_enter Try.func39, Try.ntmps39
      go_wp2_with (go_at_call 54; refine (HC.out _).mono ?_; rintro e w1 ⟨rfl, hb⟩)
      all_goals go_ret
      all_goals exact ⟨ret_bool (by rw [HN.out]; simp), by (repeat (first | with_reducible exact Below.refl _ _ | with_reducible assumption | with_reducible refine bl_set (by first | exact Nat.le_refl _ | (simp; done) | (simp; omega) | omega) ?_ _ | with_reducible refine bl_alloc ?_ _ | with_reducible refine bl_drewN ?_ _ | with_reducible refine bl_drew ?_ | with_reducible refine bl_grow ?_ _ _ | with_reducible refine bl_call ?_ (by assumption)))⟩
    · by_cases h1 : lk = 0
      · subst h1
        go_enter Try.func39, Try.ntmps39
        go_wp2_with (go_at_call 54; refine (HC.out _).mono ?_; rintro e w1 ⟨rfl, hb⟩; obtain ⟨hc, hf⟩ := bcell hb)
        all_goals go_ret
        all_goals exact ⟨ret_bool (by rw [HN.out]; simp), by (repeat (first | with_reducible exact Below.refl _ _ | with_reducible assumption | with_reducible refine bl_set (by first | exact Nat.le_refl _ | (simp; done) | (simp; omega) | omega) ?_ _ | with_reducible refine bl_alloc ?_ _ | with_reducible refine bl_drewN ?_ _ | with_reducible refine bl_drew ?_ | with_reducible refine bl_grow ?_ _ _ | with_reducible refine bl_call ?_ (by assumption)))⟩
      · have h2 : ((lk : Int) == 0) = false := by rw [beq_eq_false_iff_ne]; omega
        go_enter Try.func39, Try.ntmps39
        go_wp2_with (go_at_call 54; refine (HC.out _).mono ?_; rintro e w1 ⟨rfl, hb⟩; obtain ⟨hc, hf⟩ := bcell hb)
        all_goals go_ret
        all_goals exact ⟨ret_bool (by rw [HN.out]; simp [h1]), by (repeat (first | with_reducible exact Below.refl _ _ | with_reducible assumption | with_reducible refine bl_set (by first | exact Nat.le_refl _ | (simp; done) | (simp; omega) | omega) ?_ _ | with_reducible refine bl_alloc ?_ _ | with_reducible refine bl_drewN ?_ _ | with_reducible refine bl_drew ?_ | with_reducible refine bl_grow ?_ _ _ | with_reducible refine bl_call ?_ (by assumption)))⟩
  · have h1 : (k == 0) = false := by rw [beq_eq_false_iff_ne]; exact h0
    go_enter Try.func39, Try.ntmps39
    go_wp2
    all_goals go_ret
    all_goals exact ⟨ret_bool (by rw [HN.out, h1]; rfl), by (repeat (first | with_reducible exact Below.refl _ _ | with_reducible assumption | with_reducible refine bl_set (by first | exact Nat.le_refl _ | (simp; done) | (simp; omega) | omega) ?_ _ | with_reducible refine bl_alloc ?_ _ | with_reducible refine bl_drewN ?_ _ | with_reducible refine bl_drew ?_ | with_reducible refine bl_grow ?_ _ _ | with_reducible refine bl_call ?_ (by assumption)))⟩
end Go.Proofs.Ytpeojflemfppgaa
/- Contracts of the program's chapter 3: TreeSize. -/
namespace Go.Proofs.Ytpeojflemfppgaa
open Go.RowKit Go.Sort Go.BigFrame Go.Shelf
attribute [local go_sem] Oper.semAt_some
/-- The arm that a round was handed lies in a block of the round's own. -/
def ArmBox (W : World) (B : Nat) (k op : Int) (a n c d : Value) : Prop := W.cell? ⟨B, 0, none⟩ = some (.int .i64 k) ∧ W.cell? ⟨B, 1, none⟩ = some (.int .i64 op) ∧ W.cell? ⟨B, 2, none⟩ = some a ∧ W.cell? ⟨B, 3, none⟩ = some n ∧ W.cell? ⟨B, 4, none⟩ = some c ∧ W.cell? ⟨B, 5, none⟩ = some d
theorem armBox_own {β : Type} (B : Nat) (k op : Int) (a n c d : Value) : Own (fun (_ : β) W => ArmBox W B k op a n c d) := fun _ _ _ _ hs hg hr =>
  ⟨cell_kept hs.1 hg hr, cell_kept hs.2.1 hg hr, cell_kept hs.2.2.1 hg hr, cell_kept hs.2.2.2.1 hg hr, cell_kept hs.2.2.2.2.1 hg hr, cell_kept hs.2.2.2.2.2 hg hr⟩
theorem sum_snoc {α : Type} (f : α → Nat) (l : List α) (x : α) : ((l ++ [x]).map f).sum = (l.map f).sum + f x := by simp
set_option maxHeartbeats 4000000 in
set_option maxRecDepth 100000 in
theorem i_treeCount (la : List Stil.Arm) (v : Value) (limit : Int) (w : World) (hav : ArmsAt w v la) (hf : ∀ x ∈ la, Stil.armFits x) (hl : la.length ≤ 1048576) (hsz : Stil.treeSize la ≤ 1000000000) (hl1 : 0 ≤ limit) (hl2 : limit ≤ 9223372036854775807) :
    Calls Try.prog 19 #[v, .int .i64 limit] w fun e w' => ∃ r : Nat, e = .returned (.int .i64 r) ∧ ((Stil.treeSize la : Int) ≤ limit → r = Stil.treeSize la) ∧ (limit < Stil.treeSize la → limit < r) ∧ r ≤ Stil.treeSize la ∧ Below w.heap.size w w' := by
  have HSUM : Hid (((Stil.armsPre la).map Stil.armOwn).sum = Stil.treeSize la) := Stil.armsPre_sum la
  obtain ⟨z, hz⟩ : ∃ z, z = Stil.treeSize la := ⟨_, rfl⟩
  rw [← hz] at hsz HSUM ⊢
  clear hz
  have HSEEN : Hid (∀ W, Below w.heap.size w W → ArmsSeen w (fun k => k = w.heap.size + 1) W v la) := fun W h => ArmsSeen.of_at hav h (fun k (h : k = _) => by omega)
  obtain ⟨p0, r0, rfl, _⟩ := hav
  refine (callsIn_wide (n := 9)).1 ?_
  refine callsIn_of_wp_marks Try.func19 rfl trivial ?_ rfl
  simp only [Try.ntmps19, List.size_toArray, List.length_cons, List.length_nil, Nat.reduceAdd, Nat.reduceSub, Array.replicate_succ, Array.replicate_zero, List.push_toArray, List.append_toArray, List.nil_append, List.cons_append]
  gi_wp2_with (refine ⟨trivial, ?_⟩; gi_at_call 30; refine (callsIn_wide.2 (i_treeArms _ _ _ _)).mono ?_; rintro e w1 ⟨A, K, rfl, hA0, hK0, hA, hK, hb⟩)
  simp only [World.size_alloc] at hA0 hK0
  have hbw : Below w.heap.size w w1 := by (repeat (first | with_reducible exact Below.refl _ _ | with_reducible assumption | with_reducible refine bl_set (by first | exact Nat.le_refl _ | (simp; done) | (simp; omega) | omega) ?_ _ | with_reducible refine bl_alloc ?_ _ | with_reducible refine bl_drewN ?_ _ | with_reducible refine bl_drew ?_ | with_reducible refine bl_grow ?_ _ _ | with_reducible refine bl_call ?_ (by assumption)))
  have hcl : w1.cell? ⟨w.heap.size, 0, none⟩ = some (.int .i64 limit) := by rw [hb.cell (p := ⟨w.heap.size, 0, none⟩) (by simp; omega)]; simp [go_sem]
  have hcs : w1.cell? ⟨w.heap.size + 1, 0, none⟩ = some (.int .i64 0) := by rw [hb.cell (p := ⟨w.heap.size + 1, 0, none⟩) (by simp)]; simp [go_sem]
  have hcf : w1.frozen? ⟨w.heap.size + 1, 0, none⟩ = false := by rw [hb.frozen (p := ⟨w.heap.size + 1, 0, none⟩) (by simp)]; simp [go_sem]
  have hsz1 : w.heap.size + 2 ≤ w1.heap.size := by have := hb.size; simp at this; omega
  have HS : Hid (SeqStopsK Fence.wide (9 - 1) Try.prog 57 #[.pointer (some ⟨K, 0, none⟩), .pointer (some ⟨A, 0, none⟩)] (fun x : ArmV w (fun a => a ∈ Stil.armsPre la) => #[Value.agg #[.int .i64 x.arm.net.kind, .int .i64 x.arm.net.one.op, x.av, x.nv, x.cv, x.kv]]) (Kept w.heap.size (fun k => k = w.heap.size + 1)) (fun ys => ys.map ArmV.arm = Stil.armsPre la) (fun pre => pre.map ArmV.arm <+: Stil.armsPre la) (Stil.armsPre la).length w1) :=
    i_seqArms w (fun a => a ∈ Stil.armsPre la) (fun x hx => ⟨(Stil.armFits_parts (Stil.armsPre_fits la hf x hx)).2.2.2.1, Stil.armsPre_kids la x hx⟩) (fun k => k = w.heap.size + 1) (fun k (h : k = _) => by omega) (w.heap.size + 2) A K (fun k (h : k = _) => by omega) (fun h : K = _ => by omega) (fun h : A = _ => by omega) la hl (Stil.armsPre_mem la) _ w1 hbw hsz1 (HSEEN.out w1 hbw) hA hK _
  have HOWN : Hid (∀ x ∈ Stil.armsPre la, Stil.armOwn x ≤ z) := fun x hx => by rw [← HSUM.out]; exact Stil.mem_sum_le _ hx
  have HFIT : Hid (∀ x ∈ Stil.armsPre la, Stil.armFits x) := Stil.armsPre_fits la hf
  have hNz : (Stil.armsPre la).length ≤ z := by rw [← HSUM.out]; exact len_le_sum Stil.armOwn (fun x => by unfold Stil.armOwn; omega) _
  clear hb hA hK hf HSEEN
  refine wpIn_rangeFunc_ownH rfl (by decide) (gf := 57) (lb := #[.pointer (some ⟨K, 0, none⟩), .pointer (some ⟨A, 0, none⟩)]) rfl trivial (enters_of Try.func57 (by kernel_rfl) rfl)
    HS.out Kept.t (Kept.b (by omega)) (Below.refl _ _) (fun _ => rfl)
    (fun pre W => ((W.cell? ⟨w.heap.size + 1, 0, none⟩ = some (.int .i64 ((pre.map (Stil.armOwn ∘ ArmV.arm)).sum : Nat)) ∧ W.frozen? ⟨w.heap.size + 1, 0, none⟩ = false ∧ W.cell? ⟨w.heap.size, 0, none⟩ = some (.int .i64 limit)) ∧ Below w.heap.size w W) ∧ (((pre.map (Stil.armOwn ∘ ArmV.arm)).sum : Nat) : Int) ≤ limit ∧ (pre.map (Stil.armOwn ∘ ArmV.arm)).sum ≤ pre.length * z ∧ w1.heap.size ≤ W.heap.size)
    (fun c pre W => (c = .exit 0 ∧ ∃ t : Nat, limit < t ∧ t ≤ (pre.map (Stil.armOwn ∘ ArmV.arm)).sum ∧ W.cell? ⟨w.heap.size + 1, 0, none⟩ = some (.int .i64 t)) ∧ Below w.heap.size w W)
    (OwnFrom.and (OwnFrom.and (Own.from (fun s A B row hs hg hr => ⟨cell_kept hs.1 hg hr, (frozen_kept hs.1 hg hr).trans hs.2.1, cell_kept hs.2.2 hg hr⟩) _) (ownFrom_below (Nat.le_refl _) (by omega))) (OwnFrom.and (ownFrom_pure _ _) (OwnFrom.and (ownFrom_pure _ _) (fun _ _ _ _ hs hg _ => Nat.le_trans hs hg.size))))
    (fun c => OwnFrom.and (Own.from (fun s A B row hs hg hr => ⟨hs.1, hs.2.elim fun t ht => ⟨t, ht.1, ht.2.1, cell_kept ht.2.2 hg hr⟩⟩) _) (ownFrom_below (Nat.le_refl _) (by omega)))
    ⟨⟨⟨by simpa using hcs, hcf, hcl⟩, hbw⟩, by simpa using hl1, by simp, Nat.le_refl _⟩
    (fun x a' W => ∃ Bx, w1.heap.size ≤ Bx ∧ ArmBox W Bx x.arm.net.kind x.arm.net.one.op x.av x.nv x.cv x.kv ∧ a' = { tmps := #[.slice p0 la.length r0, .int .i64 limit, undef, .pointer (some ⟨w.heap.size, 0, none⟩), .int .i64 0, .pointer (some ⟨w.heap.size + 1, 0, none⟩), .pointer (some ⟨Bx, 0, none⟩), .slice p0 la.length r0, .func (.func 57) #[] #[.pointer (some ⟨K, 0, none⟩), .pointer (some ⟨A, 0, none⟩)], .agg #[.int .i64 x.arm.net.kind, .int .i64 x.arm.net.one.op, x.av, x.nv, x.cv, x.kv], undef, undef, undef, undef, undef, undef, undef, undef, undef, undef, undef, undef, undef, undef, undef, undef, undef, undef, undef, undef, undef, undef], defers := [] })
    (fun x a' s A B row hs hg hr => hs.elim fun Bx hx => ⟨Bx, hx.1, armBox_own (β := Unit) Bx _ _ _ _ _ _ s A B row hx.2.1 hg (fun r e => (hr r e).2), hx.2.2⟩) ?assign ?body ?done ?stop
  case assign =>
    rintro l pre x W KK ⟨⟨⟨hc, hfz, hlm⟩, hB⟩, hp, hpz, hsz2⟩ hKK
    have hz0 : w.heap.size + 1 < W.heap.size := lt_of_cell3 hc
    obtain ⟨x, av, nv, cv, kv, hav, hnv, hcv, hkv, hxf⟩ := x
    obtain ⟨q0, s0, rfl, _⟩ := id hav
    obtain ⟨q1, s1, rfl, _⟩ := id hnv
    obtain ⟨q2, s2, rfl, _⟩ := id hcv
    obtain ⟨q3, s3, rfl, _⟩ := id hkv
    gi_wp2
    exact hKK _ _ ((KeepsOthers.alloc _ _).from _) (Kept.of_below hB.size (below_alloc _ _)) ⟨⟨⟨cell_alloc_keep _ hc, frozen_alloc_keep _ hc hfz, cell_alloc_keep _ hlm⟩, by (repeat (first | with_reducible exact Below.refl _ _ | with_reducible assumption | with_reducible refine bl_set (by first | exact Nat.le_refl _ | (simp; done) | (simp; omega) | omega) ?_ _ | with_reducible refine bl_alloc ?_ _ | with_reducible refine bl_drewN ?_ _ | with_reducible refine bl_drew ?_ | with_reducible refine bl_grow ?_ _ _ | with_reducible refine bl_call ?_ (by assumption)))⟩, hp, hpz, by simp; omega⟩ ⟨W.heap.size, by omega, ⟨by simp [go_sem], by simp [go_sem], by simp [go_sem], by simp [go_sem], by simp [go_sem], by simp [go_sem]⟩, rfl⟩
  case body =>
    rintro l pre x a' W hlw _ ⟨⟨⟨hc, hfz, hlm⟩, hB⟩, hp, hpz, hsz2⟩ ⟨Bx, hBx, ⟨y0, y1, y2, y3, y4, y5⟩, rfl⟩ hpl
    have hz0 : w.heap.size + 1 < W.heap.size := lt_of_cell3 hc
    have hz1 : w.heap.size < W.heap.size := by omega
    have hBz : Bx < W.heap.size := lt_of_cell3 y0
    have hn : w.heap.size ≤ W.heap.size := by omega
    have hBx1 : ¬ Bx = w.heap.size + 1 := by omega
    have hBx2 : ¬ Bx = w.heap.size := by omega
    have HSN : Hid (((pre ++ [x]).map (Stil.armOwn ∘ ArmV.arm)).sum = (pre.map (Stil.armOwn ∘ ArmV.arm)).sum + Stil.armOwn x.arm) := by show _ = _; rw [List.map_append, List.sum_append]; simp
    have HPL : Hid ((pre ++ [x]).length * z = pre.length * z + z) := by show _ = _; rw [List.length_append, Nat.add_mul]; simp
    have hpb : pre.length * z ≤ 1000000000 * 1000000000 := Nat.mul_le_mul (by omega) hsz
    have hnf := (Stil.armFits_parts (HFIT.out _ x.mem)).1
    have hcl2 := (Stil.armFits_parts (HFIT.out _ x.mem)).2.1
    have hoz := HOWN.out _ x.mem
    have HOW : Hid (Stil.armOwn x.arm = 1 + x.arm.coils.length + (if Stil.netNone x.arm.net then 0 else Stil.netSize x.arm.net)) := rfl
    obtain ⟨q0, s0, e0, _⟩ := id x.hav
    obtain ⟨q1, s1, e1, _⟩ := id x.hnv
    obtain ⟨q2, s2, e2, _⟩ := id x.hcv
    obtain ⟨q3, s3, e3, _⟩ := id x.hkv
    have HIN : Hid (∀ X, Below w.heap.size w X → Calls Try.prog 39 #[.agg #[.int .i64 x.arm.net.kind, .int .i64 x.arm.net.one.op, x.av, x.nv]] X fun e w' => e = .returned (.bool (Stil.netNone x.arm.net)) ∧ Below X.heap.size X w') := fun X hX => i_isNone x.arm.net x.av x.nv X (x.hav.below hX) (x.hnv.below hX) hnf
    have HCN : Hid (∀ X, Below w.heap.size w X → Stil.netSize x.arm.net ≤ 1000000000 → ∀ lim, -9223372036854775808 ≤ lim → lim ≤ 9223372036854775807 → Calls Try.prog 40 #[.agg #[.int .i64 x.arm.net.kind, .int .i64 x.arm.net.one.op, x.av, x.nv], .int .i64 lim] X fun e w' => ∃ r : Nat, e = .returned (.int .i64 r) ∧ ((Stil.netSize x.arm.net : Int) ≤ lim → r = Stil.netSize x.arm.net) ∧ (lim < Stil.netSize x.arm.net → lim < r) ∧ r ≤ Stil.netSize x.arm.net ∧ Below X.heap.size X w') := fun X hX hs lim h1 h2 => i_countNets x.arm.net x.av x.nv lim X (x.hav.below hX) (x.hnv.below hX) hnf hs h1 h2
    rw [e0, e1] at HIN HCN
    rw [e0] at y2
    rw [e1] at y3
    rw [e2] at y4
    rw [e3] at y5
    obtain ⟨S, hS⟩ : ∃ S, S = (pre.map (Stil.armOwn ∘ ArmV.arm)).sum := ⟨_, rfl⟩
    obtain ⟨o, ho⟩ : ∃ o, o = Stil.armOwn x.arm := ⟨_, rfl⟩
    obtain ⟨cn, hcn⟩ : ∃ cn, cn = x.arm.coils.length := ⟨_, rfl⟩
    rw [← hS] at hc hp hpz HSN
    rw [← ho] at hoz HSN HOW
    rw [← hcn] at hcl2 HOW y4
    clear hnf hS ho hcn e0 e1 e2 e3 hpl hlw
    cases hnn : Stil.netNone x.arm.net
    · rw [hnn] at HIN HOW
      have hoe : o = 1 + cn + Stil.netSize x.arm.net := by rw [HOW.out]; simp
      obtain ⟨ns, hns⟩ : ∃ ns, ns = Stil.netSize x.arm.net := ⟨_, rfl⟩
      rw [← hns] at hoe HCN
      clear hns hnn HOW
      have hwr : IntKind.i64.wrap (limit - ((S : Int) + (1 + cn))) = limit - ((S : Int) + (1 + cn)) := by rw [IntKind.wrap_i64]; omega
      gi_wp2_with (refine ⟨trivial, ?_⟩; gi_at_call 39; refine (CallsIn.inRound l (callsIn_wide.2 (HIN.out _ (by (repeat (first | with_reducible exact Below.refl _ _ | with_reducible assumption | with_reducible refine bl_set (by first | exact Nat.le_refl _ | (simp; done) | (simp; omega) | omega) ?_ _ | with_reducible refine bl_alloc ?_ _ | with_reducible refine bl_drewN ?_ _ | with_reducible refine bl_drew ?_ | with_reducible refine bl_grow ?_ _ _ | with_reducible refine bl_call ?_ (by assumption))))))).mono ?_; rintro e W2 ⟨rfl, hb2⟩; have c2 : W2.cell? ⟨w.heap.size + 1, 0, none⟩ = some (.int .i64 ((S : Int) + (1 + cn))) := (hb2.cell (p := ⟨w.heap.size + 1, 0, none⟩) (by simp; omega)).trans (cellSetAt hc); have z2 : W2.frozen? ⟨w.heap.size + 1, 0, none⟩ = false := (hb2.frozen (p := ⟨w.heap.size + 1, 0, none⟩) (by simp; omega)).trans (by rw [World.frozen?_setCell]; exact hfz); have l2 : W2.cell? ⟨w.heap.size, 0, none⟩ = some (.int .i64 limit) := (hb2.cell (p := ⟨w.heap.size, 0, none⟩) (by simp; omega)).trans ((cellSetOther (by omega)).trans hlm); have v0 : W2.cell? ⟨Bx, 0, none⟩ = some (.int .i64 x.arm.net.kind) := (hb2.cell (p := ⟨Bx, 0, none⟩) (by simp; omega)).trans ((cellSetOther hBx1).trans y0); have v1 : W2.cell? ⟨Bx, 1, none⟩ = some (.int .i64 x.arm.net.one.op) := (hb2.cell (p := ⟨Bx, 1, none⟩) (by simp; omega)).trans ((cellSetOther hBx1).trans y1); have v2 : W2.cell? ⟨Bx, 2, none⟩ = some (.slice q0 x.arm.net.one.args.length s0) := (hb2.cell (p := ⟨Bx, 2, none⟩) (by simp; omega)).trans ((cellSetOther hBx1).trans y2); have v3 : W2.cell? ⟨Bx, 3, none⟩ = some (.slice q1 x.arm.net.kids.length s1) := (hb2.cell (p := ⟨Bx, 3, none⟩) (by simp; omega)).trans ((cellSetOther hBx1).trans y3))
      refine wpIn_region_any (by kernel_rfl) ?_
      try (change wpAnyIn _ _ _ _ _ _ _ _ _ (World.drew _))
      apply share
      · intro ky0
        apply share
        · intro ky1
          apply share
          · intro ky2
            apply share
            · intro ky3
              apply share
              · intro ky4
                apply share
                · intro ky5
                  apply share
                  · intro ky6
                    apply share
                    · intro ky7
                      apply share
                      · intro ky8
                        apply share
                        · intro ky9
                          apply share
                          · intro ky10
                            apply share
                            · intro ky11
                              apply share
                              · intro ky12
                                apply share
                                · intro ky13
                                  apply share
                                  · intro ky14
                                    apply share
                                    · intro ky15
                                      apply share
                                      · intro ky16
                                        apply share
                                        · intro ky17
                                          apply share
                                          · intro ky18
                                            apply share
                                            · intro ky19
                                              apply share
                                              · intro ky20
                                                apply share
                                                · intro ky21
                                                  apply share
                                                  · intro ky22
                                                    refine wpAnyIn_ready (rs := [0, 1, 3, 4]) (by kernel_rfl) (by simp) ?_
                                                    refine AllReadyIn.cons rfl (fun KK hKK => ?_) ?_
                                                    · go_simp
                                                      refine hKK _ _ ?_
                                                      clear hKK KK
                                                      refine wpAnyIn_ready (rs := [1, 3, 4]) (by kernel_rfl) (by simp) ?_
                                                      refine AllReadyIn.cons rfl (fun KK hKK => ?_) ?_
                                                      · go_simp
                                                        refine hKK _ _ ?_
                                                        clear hKK KK
                                                        exact ky17
                                                      refine AllReadyIn.cons rfl (fun KK hKK => ?_) ?_
                                                      · go_simp
                                                        refine hKK _ _ ?_
                                                        clear hKK KK
                                                        exact ky18
                                                      refine AllReadyIn.cons rfl (fun KK hKK => ?_) ?_
                                                      · go_simp
                                                        refine hKK _ _ ?_
                                                        clear hKK KK
                                                        exact ky19
                                                      exact AllReadyIn.nil
                                                    refine AllReadyIn.cons rfl (fun KK hKK => ?_) ?_
                                                    · go_simp
                                                      refine hKK _ _ ?_
                                                      clear hKK KK
                                                      refine wpAnyIn_ready (rs := [0, 2, 3, 4]) (by kernel_rfl) (by simp) ?_
                                                      refine AllReadyIn.cons rfl (fun KK hKK => ?_) ?_
                                                      · go_simp
                                                        refine hKK _ _ ?_
                                                        clear hKK KK
                                                        exact ky17
                                                      refine AllReadyIn.cons rfl (fun KK hKK => ?_) ?_
                                                      · go_simp
                                                        refine hKK _ _ ?_
                                                        clear hKK KK
                                                        refine wpAnyIn_ready (rs := [0, 3, 4]) (by kernel_rfl) (by simp) ?_
                                                        refine AllReadyIn.cons rfl (fun KK hKK => ?_) ?_
                                                        · go_simp
                                                          refine hKK _ _ ?_
                                                          clear hKK KK
                                                          exact ky10
                                                        refine AllReadyIn.cons rfl (fun KK hKK => ?_) ?_
                                                        · go_simp
                                                          refine hKK _ _ ?_
                                                          clear hKK KK
                                                          exact ky14
                                                        refine AllReadyIn.cons rfl (fun KK hKK => ?_) ?_
                                                        · go_simp
                                                          refine hKK _ _ ?_
                                                          clear hKK KK
                                                          exact ky15
                                                        exact AllReadyIn.nil
                                                      refine AllReadyIn.cons rfl (fun KK hKK => ?_) ?_
                                                      · go_simp
                                                        refine hKK _ _ ?_
                                                        clear hKK KK
                                                        exact ky20
                                                      refine AllReadyIn.cons rfl (fun KK hKK => ?_) ?_
                                                      · go_simp
                                                        refine hKK _ _ ?_
                                                        clear hKK KK
                                                        exact ky21
                                                      exact AllReadyIn.nil
                                                    refine AllReadyIn.cons rfl (fun KK hKK => ?_) ?_
                                                    · go_simp
                                                      refine hKK _ _ ?_
                                                      clear hKK KK
                                                      refine wpAnyIn_ready (rs := [0, 1, 4]) (by kernel_rfl) (by simp) ?_
                                                      refine AllReadyIn.cons rfl (fun KK hKK => ?_) ?_
                                                      · go_simp
                                                        refine hKK _ _ ?_
                                                        clear hKK KK
                                                        exact ky18
                                                      refine AllReadyIn.cons rfl (fun KK hKK => ?_) ?_
                                                      · go_simp
                                                        refine hKK _ _ ?_
                                                        clear hKK KK
                                                        exact ky20
                                                      refine AllReadyIn.cons rfl (fun KK hKK => ?_) ?_
                                                      · go_simp
                                                        refine hKK _ _ ?_
                                                        clear hKK KK
                                                        exact ky22
                                                      exact AllReadyIn.nil
                                                    refine AllReadyIn.cons rfl (fun KK hKK => ?_) ?_
                                                    · go_simp
                                                      refine hKK _ _ ?_
                                                      clear hKK KK
                                                      refine wpAnyIn_ready (rs := [0, 1, 3]) (by kernel_rfl) (by simp) ?_
                                                      refine AllReadyIn.cons rfl (fun KK hKK => ?_) ?_
                                                      · go_simp
                                                        refine hKK _ _ ?_
                                                        clear hKK KK
                                                        exact ky19
                                                      refine AllReadyIn.cons rfl (fun KK hKK => ?_) ?_
                                                      · go_simp
                                                        refine hKK _ _ ?_
                                                        clear hKK KK
                                                        exact ky21
                                                      refine AllReadyIn.cons rfl (fun KK hKK => ?_) ?_
                                                      · go_simp
                                                        refine hKK _ _ ?_
                                                        clear hKK KK
                                                        exact ky22
                                                      exact AllReadyIn.nil
                                                    exact AllReadyIn.nil
                                                  · refine wpAnyIn_ready (rs := [0, 1, 5]) (by kernel_rfl) (by simp) ?_
                                                    refine AllReadyIn.cons rfl (fun KK hKK => ?_) ?_
                                                    · go_simp
                                                      refine hKK _ _ ?_
                                                      clear hKK KK
                                                      exact ky13
                                                    refine AllReadyIn.cons rfl (fun KK hKK => ?_) ?_
                                                    · go_simp
                                                      refine hKK _ _ ?_
                                                      clear hKK KK
                                                      exact ky16
                                                    refine AllReadyIn.cons rfl (fun KK hKK => ?_) ?_
                                                    · go_simp
                                                      refine hKK _ _ ?_
                                                      clear hKK KK
                                                      refine wpAnyIn_ready (rs := [0, 1]) (by kernel_rfl) (by simp) ?_
                                                      refine AllReadyIn.cons rfl (fun KK hKK => ?_) ?_
                                                      · go_simp
                                                        refine hKK _ _ ?_
                                                        clear hKK KK
                                                        exact ky7
                                                      refine AllReadyIn.cons rfl (fun KK hKK => ?_) ?_
                                                      · go_simp
                                                        refine hKK _ _ ?_
                                                        clear hKK KK
                                                        exact ky9
                                                      exact AllReadyIn.nil
                                                    exact AllReadyIn.nil
                                                · refine wpAnyIn_ready (rs := [0, 2, 3]) (by kernel_rfl) (by simp) ?_
                                                  refine AllReadyIn.cons rfl (fun KK hKK => ?_) ?_
                                                  · go_simp
                                                    refine hKK _ _ ?_
                                                    clear hKK KK
                                                    exact ky12
                                                  refine AllReadyIn.cons rfl (fun KK hKK => ?_) ?_
                                                  · go_simp
                                                    refine hKK _ _ ?_
                                                    clear hKK KK
                                                    exact ky15
                                                  refine AllReadyIn.cons rfl (fun KK hKK => ?_) ?_
                                                  · go_simp
                                                    refine hKK _ _ ?_
                                                    clear hKK KK
                                                    exact ky16
                                                  exact AllReadyIn.nil
                                              · refine wpAnyIn_ready (rs := [0, 2, 4]) (by kernel_rfl) (by simp) ?_
                                                refine AllReadyIn.cons rfl (fun KK hKK => ?_) ?_
                                                · go_simp
                                                  refine hKK _ _ ?_
                                                  clear hKK KK
                                                  exact ky11
                                                refine AllReadyIn.cons rfl (fun KK hKK => ?_) ?_
                                                · go_simp
                                                  refine hKK _ _ ?_
                                                  clear hKK KK
                                                  exact ky14
                                                refine AllReadyIn.cons rfl (fun KK hKK => ?_) ?_
                                                · go_simp
                                                  refine hKK _ _ ?_
                                                  clear hKK KK
                                                  exact ky16
                                                exact AllReadyIn.nil
                                            · refine wpAnyIn_ready (rs := [1, 3]) (by kernel_rfl) (by simp) ?_
                                              refine AllReadyIn.cons rfl (fun KK hKK => ?_) ?_
                                              · go_simp
                                                refine hKK _ _ ?_
                                                clear hKK KK
                                                exact ky12
                                              refine AllReadyIn.cons rfl (fun KK hKK => ?_) ?_
                                              · go_simp
                                                refine hKK _ _ ?_
                                                clear hKK KK
                                                exact ky13
                                              exact AllReadyIn.nil
                                          · refine wpAnyIn_ready (rs := [1, 4]) (by kernel_rfl) (by simp) ?_
                                            refine AllReadyIn.cons rfl (fun KK hKK => ?_) ?_
                                            · go_simp
                                              refine hKK _ _ ?_
                                              clear hKK KK
                                              exact ky11
                                            refine AllReadyIn.cons rfl (fun KK hKK => ?_) ?_
                                            · go_simp
                                              refine hKK _ _ ?_
                                              clear hKK KK
                                              exact ky13
                                            exact AllReadyIn.nil
                                        · refine wpAnyIn_ready (rs := [2, 3, 4]) (by kernel_rfl) (by simp) ?_
                                          refine AllReadyIn.cons rfl (fun KK hKK => ?_) ?_
                                          · go_simp
                                            refine hKK _ _ ?_
                                            clear hKK KK
                                            exact ky10
                                          refine AllReadyIn.cons rfl (fun KK hKK => ?_) ?_
                                          · go_simp
                                            refine hKK _ _ ?_
                                            clear hKK KK
                                            exact ky11
                                          refine AllReadyIn.cons rfl (fun KK hKK => ?_) ?_
                                          · go_simp
                                            refine hKK _ _ ?_
                                            clear hKK KK
                                            exact ky12
                                          exact AllReadyIn.nil
                                      · refine wpAnyIn_ready (rs := [0, 2, 5]) (by kernel_rfl) (by simp) ?_
                                        refine AllReadyIn.cons rfl (fun KK hKK => ?_) ?_
                                        · go_simp
                                          refine hKK _ _ ?_
                                          clear hKK KK
                                          exact ky6
                                        refine AllReadyIn.cons rfl (fun KK hKK => ?_) ?_
                                        · go_simp
                                          refine hKK _ _ ?_
                                          clear hKK KK
                                          exact ky8
                                        refine AllReadyIn.cons rfl (fun KK hKK => ?_) ?_
                                        · go_simp
                                          refine hKK _ _ ?_
                                          clear hKK KK
                                          exact ky9
                                        exact AllReadyIn.nil
                                    · refine wpAnyIn_ready (rs := [0, 3]) (by kernel_rfl) (by simp) ?_
                                      refine AllReadyIn.cons rfl (fun KK hKK => ?_) ?_
                                      · go_simp
                                        refine hKK _ _ ?_
                                        clear hKK KK
                                        exact ky5
                                      refine AllReadyIn.cons rfl (fun KK hKK => ?_) ?_
                                      · go_simp
                                        refine hKK _ _ ?_
                                        clear hKK KK
                                        exact ky8
                                      exact AllReadyIn.nil
                                  · refine wpAnyIn_ready (rs := [0, 4]) (by kernel_rfl) (by simp) ?_
                                    refine AllReadyIn.cons rfl (fun KK hKK => ?_) ?_
                                    · go_simp
                                      refine hKK _ _ ?_
                                      clear hKK KK
                                      exact ky4
                                    refine AllReadyIn.cons rfl (fun KK hKK => ?_) ?_
                                    · go_simp
                                      refine hKK _ _ ?_
                                      clear hKK KK
                                      exact ky8
                                    exact AllReadyIn.nil
                                · refine wpAnyIn_ready (rs := [1, 5]) (by kernel_rfl) (by simp) ?_
                                  refine AllReadyIn.cons rfl (fun KK hKK => ?_) ?_
                                  · go_simp
                                    refine hKK _ _ ?_
                                    clear hKK KK
                                    exact ky6
                                  refine AllReadyIn.cons rfl (fun KK hKK => ?_) ?_
                                  · go_simp
                                    refine hKK _ _ ?_
                                    clear hKK KK
                                    exact ky7
                                  exact AllReadyIn.nil
                              · refine wpAnyIn_ready (rs := [2, 3]) (by kernel_rfl) (by simp) ?_
                                refine AllReadyIn.cons rfl (fun KK hKK => ?_) ?_
                                · go_simp
                                  refine hKK _ _ ?_
                                  clear hKK KK
                                  exact ky5
                                refine AllReadyIn.cons rfl (fun KK hKK => ?_) ?_
                                · go_simp
                                  refine hKK _ _ ?_
                                  clear hKK KK
                                  exact ky6
                                exact AllReadyIn.nil
                            · refine wpAnyIn_ready (rs := [2, 4]) (by kernel_rfl) (by simp) ?_
                              refine AllReadyIn.cons rfl (fun KK hKK => ?_) ?_
                              · go_simp
                                refine hKK _ _ ?_
                                clear hKK KK
                                exact ky4
                              refine AllReadyIn.cons rfl (fun KK hKK => ?_) ?_
                              · go_simp
                                refine hKK _ _ ?_
                                clear hKK KK
                                exact ky6
                              exact AllReadyIn.nil
                          · refine wpAnyIn_ready (rs := [3, 4]) (by kernel_rfl) (by simp) ?_
                            refine AllReadyIn.cons rfl (fun KK hKK => ?_) ?_
                            · go_simp
                              refine hKK _ _ ?_
                              clear hKK KK
                              exact ky4
                            refine AllReadyIn.cons rfl (fun KK hKK => ?_) ?_
                            · go_simp
                              refine hKK _ _ ?_
                              clear hKK KK
                              exact ky5
                            exact AllReadyIn.nil
                        · refine wpAnyIn_ready (rs := [0, 2]) (by kernel_rfl) (by simp) ?_
                          refine AllReadyIn.cons rfl (fun KK hKK => ?_) ?_
                          · go_simp
                            refine hKK _ _ ?_
                            clear hKK KK
                            exact ky2
                          refine AllReadyIn.cons rfl (fun KK hKK => ?_) ?_
                          · go_simp
                            refine hKK _ _ ?_
                            clear hKK KK
                            exact ky3
                          exact AllReadyIn.nil
                      · refine wpAnyIn_ready (rs := [0, 5]) (by kernel_rfl) (by simp) ?_
                        refine AllReadyIn.cons rfl (fun KK hKK => ?_) ?_
                        · go_simp
                          refine hKK _ _ ?_
                          clear hKK KK
                          exact ky1
                        refine AllReadyIn.cons rfl (fun KK hKK => ?_) ?_
                        · go_simp
                          refine hKK _ _ ?_
                          clear hKK KK
                          exact ky3
                        exact AllReadyIn.nil
                    · refine wpAnyIn_ready (rs := [1]) (by kernel_rfl) (by simp) ?_
                      refine AllReadyIn.cons rfl (fun KK hKK => ?_) AllReadyIn.nil
                      go_simp
                      refine hKK _ _ ?_
                      clear hKK KK
                      exact ky2
                  · refine wpAnyIn_ready (rs := [2, 5]) (by kernel_rfl) (by simp) ?_
                    refine AllReadyIn.cons rfl (fun KK hKK => ?_) ?_
                    · go_simp
                      refine hKK _ _ ?_
                      clear hKK KK
                      exact ky1
                    refine AllReadyIn.cons rfl (fun KK hKK => ?_) ?_
                    · go_simp
                      refine hKK _ _ ?_
                      clear hKK KK
                      exact ky2
                    exact AllReadyIn.nil
                · refine wpAnyIn_ready (rs := [3]) (by kernel_rfl) (by simp) ?_
                  refine AllReadyIn.cons rfl (fun KK hKK => ?_) AllReadyIn.nil
                  go_simp
                  refine hKK _ _ ?_
                  clear hKK KK
                  exact ky1
              · refine wpAnyIn_ready (rs := [4]) (by kernel_rfl) (by simp) ?_
                refine AllReadyIn.cons rfl (fun KK hKK => ?_) AllReadyIn.nil
                go_simp
                refine hKK _ _ ?_
                clear hKK KK
                exact ky1
            · refine wpAnyIn_ready (rs := [0, 6]) (by kernel_rfl) (by simp) ?_
              refine AllReadyIn.cons rfl (fun KK hKK => ?_) ?_
              · go_simp
                refine hKK _ _ ?_
                clear hKK KK
                exact ky0
              refine AllReadyIn.cons rfl (fun KK hKK => ?_) ?_
              · go_simp
                try simp only [hwr]
                refine ⟨trivial, ?_⟩
                refine (CallsIn.inRound l (callsIn_wide.2 (HCN.out _ (by (repeat (first | with_reducible exact Below.refl _ _ | with_reducible assumption | with_reducible refine bl_set (by first | exact Nat.le_refl _ | (simp; done) | (simp; omega) | omega) ?_ _ | with_reducible refine bl_alloc ?_ _ | with_reducible refine bl_drewN ?_ _ | with_reducible refine bl_drew ?_ | with_reducible refine bl_grow ?_ _ _ | with_reducible refine bl_call ?_ (by assumption)))) (by omega) (limit - ((S : Int) + (1 + cn))) (by omega) (by omega)))).mono ?_
                rintro e W3 ⟨r, rfl, hr1, hr2, hr3, hb3⟩
                refine hKK _ _ ?_
                clear hKK KK
                have c3 : W3.cell? ⟨w.heap.size + 1, 0, none⟩ = some (.int .i64 ((S : Int) + (1 + cn))) := (hb3.cell (p := ⟨w.heap.size + 1, 0, none⟩) (lt_of_cell3 c2)).trans c2
                have z3 : W3.frozen? ⟨w.heap.size + 1, 0, none⟩ = false := (hb3.frozen (p := ⟨w.heap.size + 1, 0, none⟩) (lt_of_cell3 c2)).trans z2
                have l3 : W3.cell? ⟨w.heap.size, 0, none⟩ = some (.int .i64 limit) := (hb3.cell (p := ⟨w.heap.size, 0, none⟩) (lt_of_cell3 l2)).trans l2
                have hwr2 : IntKind.i64.wrap ((S : Int) + (1 + cn) + r) = (S : Int) + (1 + cn) + r := by rw [IntKind.wrap_i64]; omega
                refine wpAnyIn_ready (rs := [0]) (by kernel_rfl) (by simp) ?_
                refine AllReadyIn.cons rfl (fun KK hKK => ?_) AllReadyIn.nil
                go_simp
                refine hKK _ _ ?_
                clear hKK KK
                refine wpAnyIn_ready (rs := [7]) (by kernel_rfl) (by simp) ?_
                refine AllReadyIn.cons rfl (fun KK hKK => ?_) AllReadyIn.nil
                go_simp
                try simp only [hwr2]
                refine hKK _ _ ?_
                clear hKK KK
                refine wpAnyIn_ready (rs := [8]) (by kernel_rfl) (by simp) ?_
                refine AllReadyIn.cons rfl (fun KK hKK => ?_) AllReadyIn.nil
                go_simp
                refine hKK _ _ ?_
                clear hKK KK
                refine wpAnyIn_done (by kernel_rfl) ?_ _
                by_cases hgt : limit < (S : Int) + (1 + cn) + r
                · gi_wp2
                  exact ⟨by (repeat (first | with_reducible exact KeepsFrom.refl _ _ | with_reducible refine kf_set ?_ _ _ | with_reducible refine kf_drew ?_ | with_reducible refine kf_alloc ?_ _ | with_reducible refine kf_call ?_ (by assumption))), ⟨rfl, S + (1 + cn) + r, by omega, by rw [HSN.out]; omega, by rw [cellSetAt c3]; simp⟩, by (repeat (first | with_reducible exact Below.refl _ _ | with_reducible assumption | with_reducible refine bl_set (by first | exact Nat.le_refl _ | (simp; done) | (simp; omega) | omega) ?_ _ | with_reducible refine bl_alloc ?_ _ | with_reducible refine bl_drewN ?_ _ | with_reducible refine bl_drew ?_ | with_reducible refine bl_grow ?_ _ _ | with_reducible refine bl_call ?_ (by assumption)))⟩
                · have hrn : r = ns := by
                    by_cases h : (ns : Int) ≤ limit - ((S : Int) + (1 + cn))
                    · exact hr1 h
                    · have := hr2 (by omega)
                      omega
                  gi_wp2
                  exact ⟨by (repeat (first | with_reducible exact KeepsFrom.refl _ _ | with_reducible refine kf_set ?_ _ _ | with_reducible refine kf_drew ?_ | with_reducible refine kf_alloc ?_ _ | with_reducible refine kf_call ?_ (by assumption))), kp_set (b := w.heap.size + 1) (kp_call (kp_drew (kp_call (kp_set (b := w.heap.size + 1) (Kept.refl w.heap.size (fun k => k = w.heap.size + 1) W) (by omega) rfl _) hn hb2)) hn hb3) (by omega) rfl _, ⟨⟨⟨by rw [cellSetAt c3, HSN.out, hoe]; simp; omega, by rw [World.frozen?_setCell]; exact z3, by rw [cellSetOther (by omega)]; exact l3⟩, by (repeat (first | with_reducible exact Below.refl _ _ | with_reducible assumption | with_reducible refine bl_set (by first | exact Nat.le_refl _ | (simp; done) | (simp; omega) | omega) ?_ _ | with_reducible refine bl_alloc ?_ _ | with_reducible refine bl_drewN ?_ _ | with_reducible refine bl_drew ?_ | with_reducible refine bl_grow ?_ _ _ | with_reducible refine bl_call ?_ (by assumption)))⟩, by rw [HSN.out]; omega, by rw [HSN.out, HPL.out]; omega, by have := hb2.size; have := hb3.size; simp at *; omega⟩⟩
              exact AllReadyIn.nil
          · refine wpAnyIn_ready (rs := [2]) (by kernel_rfl) (by simp) ?_
            refine AllReadyIn.cons rfl (fun KK hKK => ?_) AllReadyIn.nil
            go_simp
            refine hKK _ _ ?_
            clear hKK KK
            exact ky0
        · refine wpAnyIn_ready (rs := [5]) (by kernel_rfl) (by simp) ?_
          refine AllReadyIn.cons rfl (fun KK hKK => ?_) AllReadyIn.nil
          go_simp
          refine hKK _ _ ?_
          clear hKK KK
          exact ky0
      · refine wpAnyIn_ready (rs := [6]) (by kernel_rfl) (by simp) ?_
        refine AllReadyIn.cons rfl (fun KK hKK => ?_) AllReadyIn.nil
        go_simp
        try simp only [hwr]
        refine ⟨trivial, ?_⟩
        refine (CallsIn.inRound l (callsIn_wide.2 (HCN.out _ (by (repeat (first | with_reducible exact Below.refl _ _ | with_reducible assumption | with_reducible refine bl_set (by first | exact Nat.le_refl _ | (simp; done) | (simp; omega) | omega) ?_ _ | with_reducible refine bl_alloc ?_ _ | with_reducible refine bl_drewN ?_ _ | with_reducible refine bl_drew ?_ | with_reducible refine bl_grow ?_ _ _ | with_reducible refine bl_call ?_ (by assumption)))) (by omega) (limit - ((S : Int) + (1 + cn))) (by omega) (by omega)))).mono ?_
        rintro e W3 ⟨r, rfl, hr1, hr2, hr3, hb3⟩
        refine hKK _ _ ?_
        clear hKK KK
        have c3 : W3.cell? ⟨w.heap.size + 1, 0, none⟩ = some (.int .i64 ((S : Int) + (1 + cn))) := (hb3.cell (p := ⟨w.heap.size + 1, 0, none⟩) (lt_of_cell3 c2)).trans c2
        have z3 : W3.frozen? ⟨w.heap.size + 1, 0, none⟩ = false := (hb3.frozen (p := ⟨w.heap.size + 1, 0, none⟩) (lt_of_cell3 c2)).trans z2
        have l3 : W3.cell? ⟨w.heap.size, 0, none⟩ = some (.int .i64 limit) := (hb3.cell (p := ⟨w.heap.size, 0, none⟩) (lt_of_cell3 l2)).trans l2
        have hwr2 : IntKind.i64.wrap ((S : Int) + (1 + cn) + r) = (S : Int) + (1 + cn) + r := by rw [IntKind.wrap_i64]; omega
        refine wpAnyIn_ready (rs := [7]) (by kernel_rfl) (by simp) ?_
        refine AllReadyIn.cons rfl (fun KK hKK => ?_) AllReadyIn.nil
        go_simp
        try simp only [hwr2]
        refine hKK _ _ ?_
        clear hKK KK
        refine wpAnyIn_ready (rs := [8]) (by kernel_rfl) (by simp) ?_
        refine AllReadyIn.cons rfl (fun KK hKK => ?_) AllReadyIn.nil
        go_simp
        refine hKK _ _ ?_
        clear hKK KK
        refine wpAnyIn_done (by kernel_rfl) ?_ _
        by_cases hgt : limit < (S : Int) + (1 + cn) + r
        · gi_wp2
          exact ⟨by (repeat (first | with_reducible exact KeepsFrom.refl _ _ | with_reducible refine kf_set ?_ _ _ | with_reducible refine kf_drew ?_ | with_reducible refine kf_alloc ?_ _ | with_reducible refine kf_call ?_ (by assumption))), ⟨rfl, S + (1 + cn) + r, by omega, by rw [HSN.out]; omega, by rw [cellSetAt c3]; simp⟩, by (repeat (first | with_reducible exact Below.refl _ _ | with_reducible assumption | with_reducible refine bl_set (by first | exact Nat.le_refl _ | (simp; done) | (simp; omega) | omega) ?_ _ | with_reducible refine bl_alloc ?_ _ | with_reducible refine bl_drewN ?_ _ | with_reducible refine bl_drew ?_ | with_reducible refine bl_grow ?_ _ _ | with_reducible refine bl_call ?_ (by assumption)))⟩
        · have hrn : r = ns := by
            by_cases h : (ns : Int) ≤ limit - ((S : Int) + (1 + cn))
            · exact hr1 h
            · have := hr2 (by omega)
              omega
          gi_wp2
          exact ⟨by (repeat (first | with_reducible exact KeepsFrom.refl _ _ | with_reducible refine kf_set ?_ _ _ | with_reducible refine kf_drew ?_ | with_reducible refine kf_alloc ?_ _ | with_reducible refine kf_call ?_ (by assumption))), kp_set (b := w.heap.size + 1) (kp_call (kp_drew (kp_call (kp_set (b := w.heap.size + 1) (Kept.refl w.heap.size (fun k => k = w.heap.size + 1) W) (by omega) rfl _) hn hb2)) hn hb3) (by omega) rfl _, ⟨⟨⟨by rw [cellSetAt c3, HSN.out, hoe]; simp; omega, by rw [World.frozen?_setCell]; exact z3, by rw [cellSetOther (by omega)]; exact l3⟩, by (repeat (first | with_reducible exact Below.refl _ _ | with_reducible assumption | with_reducible refine bl_set (by first | exact Nat.le_refl _ | (simp; done) | (simp; omega) | omega) ?_ _ | with_reducible refine bl_alloc ?_ _ | with_reducible refine bl_drewN ?_ _ | with_reducible refine bl_drew ?_ | with_reducible refine bl_grow ?_ _ _ | with_reducible refine bl_call ?_ (by assumption)))⟩, by rw [HSN.out]; omega, by rw [HSN.out, HPL.out]; omega, by have := hb2.size; have := hb3.size; simp at *; omega⟩⟩
    · rw [hnn] at HIN HOW
      have hoe : o = 1 + cn := by rw [HOW.out]; simp
      clear hnn HOW HCN
      by_cases hgt : limit < (S : Int) + (1 + cn)
      · gi_wp2_with (refine ⟨trivial, ?_⟩; gi_at_call 39; refine (CallsIn.inRound l (callsIn_wide.2 (HIN.out _ (by (repeat (first | with_reducible exact Below.refl _ _ | with_reducible assumption | with_reducible refine bl_set (by first | exact Nat.le_refl _ | (simp; done) | (simp; omega) | omega) ?_ _ | with_reducible refine bl_alloc ?_ _ | with_reducible refine bl_drewN ?_ _ | with_reducible refine bl_drew ?_ | with_reducible refine bl_grow ?_ _ _ | with_reducible refine bl_call ?_ (by assumption))))))).mono ?_; rintro e W2 ⟨rfl, hb2⟩; have c2 : W2.cell? ⟨w.heap.size + 1, 0, none⟩ = some (.int .i64 ((S : Int) + (1 + cn))) := (hb2.cell (p := ⟨w.heap.size + 1, 0, none⟩) (by simp; omega)).trans (cellSetAt hc); have z2 : W2.frozen? ⟨w.heap.size + 1, 0, none⟩ = false := (hb2.frozen (p := ⟨w.heap.size + 1, 0, none⟩) (by simp; omega)).trans (by rw [World.frozen?_setCell]; exact hfz); have l2 : W2.cell? ⟨w.heap.size, 0, none⟩ = some (.int .i64 limit) := (hb2.cell (p := ⟨w.heap.size, 0, none⟩) (by simp; omega)).trans ((cellSetOther (by omega)).trans hlm))
        exact ⟨by (repeat (first | with_reducible exact KeepsFrom.refl _ _ | with_reducible refine kf_set ?_ _ _ | with_reducible refine kf_drew ?_ | with_reducible refine kf_alloc ?_ _ | with_reducible refine kf_call ?_ (by assumption))), ⟨rfl, S + (1 + cn), by omega, by rw [HSN.out]; omega, by rw [c2]; simp⟩, by (repeat (first | with_reducible exact Below.refl _ _ | with_reducible assumption | with_reducible refine bl_set (by first | exact Nat.le_refl _ | (simp; done) | (simp; omega) | omega) ?_ _ | with_reducible refine bl_alloc ?_ _ | with_reducible refine bl_drewN ?_ _ | with_reducible refine bl_drew ?_ | with_reducible refine bl_grow ?_ _ _ | with_reducible refine bl_call ?_ (by assumption)))⟩
      · gi_wp2_with (refine ⟨trivial, ?_⟩; gi_at_call 39; refine (CallsIn.inRound l (callsIn_wide.2 (HIN.out _ (by (repeat (first | with_reducible exact Below.refl _ _ | with_reducible assumption | with_reducible refine bl_set (by first | exact Nat.le_refl _ | (simp; done) | (simp; omega) | omega) ?_ _ | with_reducible refine bl_alloc ?_ _ | with_reducible refine bl_drewN ?_ _ | with_reducible refine bl_drew ?_ | with_reducible refine bl_grow ?_ _ _ | with_reducible refine bl_call ?_ (by assumption))))))).mono ?_; rintro e W2 ⟨rfl, hb2⟩; have c2 : W2.cell? ⟨w.heap.size + 1, 0, none⟩ = some (.int .i64 ((S : Int) + (1 + cn))) := (hb2.cell (p := ⟨w.heap.size + 1, 0, none⟩) (by simp; omega)).trans (cellSetAt hc); have z2 : W2.frozen? ⟨w.heap.size + 1, 0, none⟩ = false := (hb2.frozen (p := ⟨w.heap.size + 1, 0, none⟩) (by simp; omega)).trans (by rw [World.frozen?_setCell]; exact hfz); have l2 : W2.cell? ⟨w.heap.size, 0, none⟩ = some (.int .i64 limit) := (hb2.cell (p := ⟨w.heap.size, 0, none⟩) (by simp; omega)).trans ((cellSetOther (by omega)).trans hlm))
        exact ⟨by (repeat (first | with_reducible exact KeepsFrom.refl _ _ | with_reducible refine kf_set ?_ _ _ | with_reducible refine kf_drew ?_ | with_reducible refine kf_alloc ?_ _ | with_reducible refine kf_call ?_ (by assumption))), kp_call (kp_set (b := w.heap.size + 1) (Kept.refl w.heap.size (fun k => k = w.heap.size + 1) W) (by omega) rfl _) hn hb2, ⟨⟨⟨by rw [c2, HSN.out, hoe]; simp, z2, l2⟩, by (repeat (first | with_reducible exact Below.refl _ _ | with_reducible assumption | with_reducible refine bl_set (by first | exact Nat.le_refl _ | (simp; done) | (simp; omega) | omega) ?_ _ | with_reducible refine bl_alloc ?_ _ | with_reducible refine bl_drewN ?_ _ | with_reducible refine bl_drew ?_ | with_reducible refine bl_grow ?_ _ _ | with_reducible refine bl_call ?_ (by assumption)))⟩, by rw [HSN.out]; omega, by rw [HSN.out, HPL.out]; omega, by have := hb2.size; simp at *; omega⟩⟩
  case done =>
    rintro D ys W hD hS ⟨⟨⟨hc, _⟩, hB⟩, hp, _⟩ hK
    rw [← List.map_map, hS, HSUM.out] at hc hp
    gi_wp2
    refine ⟨by simp, .inl ⟨_, _, rfl, run_takeDeferred hK, ?_⟩⟩
    exact ⟨_, results_tmp rfl _ _ _, z, rfl, fun _ => rfl, fun h => h, Nat.le_refl _, hB.trans (belowK_b (w := w) (Nat.le_refl _) W D _ _ (by omega) hK rfl rfl)⟩
  case stop =>
    rintro D c pre W hD hSp ⟨⟨rfl, t, ht1, ht2, hc⟩, hB⟩ hK
    have htz : t ≤ z := by have := Stil.prefix_sum Stil.armOwn hSp; rw [HSUM.out, List.map_map] at this; omega
    gi_wp2
    refine ⟨by simp, .inl ⟨_, _, rfl, run_takeDeferred hK, ?_⟩⟩
    exact ⟨_, results_tmp rfl _ _ _, t, rfl, fun h => by omega, fun h => by omega, htz, hB.trans (belowK_b (w := w) (Nat.le_refl _) W D _ _ (by omega) hK rfl rfl)⟩
theorem i_treeSize (la : List Stil.Arm) (v : Value) (w : World) (hav : ArmsAt w v la) (hsz : Stil.treeSize la ≤ 1000000000) (hf : ∀ x ∈ la, Stil.armFits x) (hl : la.length ≤ 1048576) :
    Calls Try.prog 9 #[v] w fun e w' => e = .returned (.int .i64 (Stil.treeSize la)) ∧ Below w.heap.size w w' := by
  have H : Hid (∀ W, Below w.heap.size w W → Calls Try.prog 19 #[v, .int .i64 9223372036854775807] W fun e w' => e = .returned (.int .i64 (Stil.treeSize la)) ∧ Below W.heap.size W w') := fun W hW =>
    (i_treeCount la v 9223372036854775807 W (hav.below hW) hf hl hsz (by omega) (by omega)).mono fun e w' ⟨r, he, h1, _, _, hb⟩ => ⟨by rw [he, h1 (by omega)], hb⟩
  obtain ⟨p0, r0, rfl, _⟩ := hav
  obtain ⟨z, hz⟩ : ∃ z, z = Stil.treeSize la := ⟨_, rfl⟩
  rw [← hz] at H ⊢
  clear hz hf hsz
  go_enter Try.func9, Try.ntmps9
  go_wp2_with (go_at_call 19; refine (H.out _ (by (repeat (first | with_reducible exact Below.refl _ _ | with_reducible assumption | with_reducible refine bl_set (by first | exact Nat.le_refl _ | (simp; done) | (simp; omega) | omega) ?_ _ | with_reducible refine bl_alloc ?_ _ | with_reducible refine bl_drewN ?_ _ | with_reducible refine bl_drew ?_ | with_reducible refine bl_grow ?_ _ _ | with_reducible refine bl_call ?_ (by assumption))))).mono ?_; rintro e w1 ⟨rfl, hb⟩)
  go_ret
  exact ⟨rfl, by (repeat (first | with_reducible exact Below.refl _ _ | with_reducible assumption | with_reducible refine bl_set (by first | exact Nat.le_refl _ | (simp; done) | (simp; omega) | omega) ?_ _ | with_reducible refine bl_alloc ?_ _ | with_reducible refine bl_drewN ?_ _ | with_reducible refine bl_drew ?_ | with_reducible refine bl_grow ?_ _ _ | with_reducible refine bl_call ?_ (by assumption)))⟩
end Go.Proofs.Ytpeojflemfppgaa
