/- I7, I7a, I7b, I7c, I7n, I7d, I7e, I7f: texts put together. -/
import Derived.Test.YthhfnncehfkbfaaDoorGT
import Derived.Test.YthhfnncehfkbfaaDoorGU
import Derived.Shelf.RegionOpen
import Derived.OwnWalkIn
import Derived.TacticsInMore
import Derived.LoopNIn
import Derived.LoopIn
/- Contracts of the program's chapter 3: the kids of a net and of an arm; what a walk over a ladder is. -/
namespace Go.Proofs.YthhfnncehfkbfaaDoor
open Go.RowKit Go.Sort Go.BigFrame Go.Shelf
set_option maxHeartbeats 400000 in
theorem i_netKids (k op : Int) (av : Value) (p : Option Addr) (ln cap : Nat) (pa : Option Addr) (la ca : Nat) (hav : av = .slice pa la ca) (w : World) :
    Calls Tryd.prog 47 #[.agg #[.int .i64 k, .int .i64 op, av, .slice p ln cap]] w fun e w' => e = .returned (.slice p ln cap) ∧ Below w.heap.size w w' := by
  subst hav
  go_enter Tryd.func47, Tryd.ntmps47
  go_wp2
  go_ret
  exact ⟨rfl, by (repeat (first | with_reducible exact Below.refl _ _ | with_reducible assumption | with_reducible refine bl_set (by first | exact Nat.le_refl _ | (simp; done) | (simp; omega) | omega) ?_ _ | with_reducible refine bl_alloc ?_ _ | with_reducible refine bl_drewN ?_ _ | with_reducible refine bl_drew ?_ | with_reducible refine bl_grow ?_ _ _ | with_reducible refine bl_call ?_ (by assumption)))⟩
/-- The boxes of the walk over nets. -/
def WBoxNet (l Y B K : Nat) (W : World) : Prop := W.cell? ⟨Y, 0, none⟩ = some (.func (.yield l) #[] #[]) ∧ W.cell? ⟨B, 0, none⟩ = some (.func (.func 57) #[] #[.pointer (some ⟨Y, 0, none⟩), .pointer (some ⟨B, 0, none⟩), .pointer (some ⟨K, 0, none⟩)]) ∧ W.cell? ⟨K, 0, none⟩ = some (.func (.func 47) #[] #[])
def WalkNets (w : World) (P : Stil.Net → Prop) (C : Nat → Prop) (M l Y B K N : Nat) (J Jx : List (NetV w P) → World → Prop) (es : List Stil.Net) : Prop :=
  ∀ (m : Nat) (v : Value) (pre : List (NetV w P)) (W : World), NetsSeen w C W v es → WBoxNet l Y B K W → J pre W → Below w.heap.size w W → M ≤ W.heap.size → pre.length + (Stil.netsPre es).length ≤ N →
    CallsIn Fence.wide m Tryd.prog 57 #[v, .pointer (some ⟨Y, 0, none⟩), .pointer (some ⟨B, 0, none⟩), .pointer (some ⟨K, 0, none⟩)] W fun e W' =>
      (e = .returned (.bool true) ∧ ∃ ys : List (NetV w P), ys.map NetV.net = Stil.netsPre es ∧ J (pre ++ ys) W' ∧ Kept w.heap.size C W W') ∨
      (e = .returned (.bool false) ∧ ∃ ys : List (NetV w P), ys.map NetV.net <+: Stil.netsPre es ∧ Jx (pre ++ ys) W')
end Go.Proofs.YthhfnncehfkbfaaDoor
/- Contracts of the program's chapter 3: the walk over nets. -/
namespace Go.Proofs.YthhfnncehfkbfaaDoor
open Go.RowKit Go.Sort Go.BigFrame Go.Shelf
attribute [local go_sem] Oper.semAt_some
theorem WBoxNet.keep {l Y B K : Nat} {C : Nat → Prop} {W W' : World} (h : WBoxNet l Y B K W) (hY : ¬ C Y) (hB : ¬ C B) (hK : ¬ C K) (hk : KeepC C W W') : WBoxNet l Y B K W' := ⟨hk.cell hY h.1, hk.cell hB h.2.1, hk.cell hK h.2.2⟩
set_option maxHeartbeats 2000000 in
set_option maxRecDepth 100000 in
theorem i_walkNets (w : World) (P : Stil.Net → Prop) (C : Nat → Prop) (hC : ∀ k, C k → w.heap.size ≤ k) (M l Y B K N : Nat) (hCM : ∀ k, C k → k < M) (hYC : ¬ C Y) (hBC : ¬ C B) (hKC : ¬ C K) (J Jx : List (NetV w P) → World → Prop)
    (hJ : ∀ s W W', J s W → Below W.heap.size W W' → J s W')
    (hY : ∀ m pre (x : NetV w P) W, J pre W → pre.length < N → YieldAt Fence.wide m Tryd.prog l #[.agg #[.int .i64 x.net.kind, .int .i64 x.net.one.op, x.av, x.kv]] W fun e W' =>
      (e = .returned (.bool true) ∧ J (pre ++ [x]) W' ∧ Kept w.heap.size C W W') ∨ (e = .returned (.bool false) ∧ Jx (pre ++ [x]) W'))
    (es : List Stil.Net) (hl : es.length ≤ 1048576) (hf : ∀ x ∈ es, P x) (ih : ∀ x ∈ es, WalkNets w P C M l Y B K N J Jx x.kids) : WalkNets w P C M l Y B K N J Jx es := by
  intro m v pre W hs hbx hj hb hM hN
  have HS : Hid (∀ W', KeepC C W W' → NetsSeen w C W' v es) := fun W' h => hs.keep h
  have HBX : Hid (∀ W', KeepC C W W' → WBoxNet l Y B K W') := fun W' h => hbx.keep hYC hBC hKC h
  have HYY : Hid (∀ m pre (x : NetV w P) W, J pre W → pre.length < N → YieldAt Fence.wide m Tryd.prog l #[.agg #[.int .i64 x.net.kind, .int .i64 x.net.one.op, x.av, x.kv]] W fun e W' =>
      (e = .returned (.bool true) ∧ J (pre ++ [x]) W' ∧ Kept w.heap.size C W W') ∨ (e = .returned (.bool false) ∧ Jx (pre ++ [x]) W')) := hY
  have HJJ : Hid (∀ s W W', J s W → Below W.heap.size W W' → J s W') := hJ
  have IH : Hid (∀ x ∈ es, WalkNets w P C M l Y B K N J Jx x.kids) := ih
  have HN : Hid (pre.length + (Stil.netsPre es).length ≤ N) := hN
  have HB : Hid (Below w.heap.size w W) := hb
  obtain ⟨a, cap, rfl, _⟩ := hs
  clear hJ hY ih hN hb hbx
  refine callsIn_of_wp Tryd.func57 rfl trivial ?_ rfl
  simp only [Tryd.ntmps57, List.size_toArray, List.length_cons, List.length_nil, Nat.reduceAdd, Nat.reduceSub, Array.replicate_succ, Array.replicate_zero, List.push_toArray, List.append_toArray, List.nil_append, List.cons_append]
  gi_wp2
  gi_loopw [10] (fun i wr => ∃ (j : Nat) (ys : List (NetV w P)), j ≤ es.length ∧ i = .int .i64 j ∧ ys.map NetV.net = Stil.netsPre (es.take j) ∧ J (pre ++ ys) wr ∧ Kept w.heap.size C W wr) (fun i _ => es.length - (intOf i).toNat)
  case atStart => exact ⟨0, [], by omega, rfl, by simp [Stil.netsPre], by simpa using hj, Kept.refl _ _ _⟩
  case round =>
    obtain ⟨j, ys, hjl, rfl, hys, hJ1, hk⟩ := hrel
    by_cases hlt : j < es.length
    · obtain ⟨a', cap', hv, hcs⟩ := HS.out wr hk.2
      obtain ⟨b, o, rfl, hCb, av, kv, x0, x1, x2, x3, hav, hkv⟩ := hcs j hlt
      simp only [Value.slice.injEq, true_and] at hv
      obtain ⟨rfl, rfl⟩ := hv
      obtain ⟨b0, b1, b2⟩ := HBX.out wr hk.2
      have hpl : (pre ++ ys).length < N := by
        have h1 := HN.out
        have h2 : ys.length = (Stil.netsPre (es.take j)).length := by rw [← hys, List.length_map]
        have h3 := (Stil.netsPre_pre es (j + 1)).length_le
        rw [Stil.netsPre_take es j hlt] at h3
        simp only [List.length_append, List.length_cons] at h3 ⊢
        omega
      obtain ⟨p0, r0, e0, _⟩ := id hav
      obtain ⟨p1, r1, e1, _⟩ := id hkv
      have hval : ∀ x : NetV w P, x = ⟨es[j], av, kv, hav, hkv, hf _ (List.getElem_mem hlt)⟩ → ∀ W1, J (pre ++ ys) W1 → YieldAt Fence.wide (m - 1) Tryd.prog l #[.agg #[.int .i64 es[j].kind, .int .i64 es[j].one.op, .slice p0 es[j].one.args.length r0, .slice p1 es[j].kids.length r1]] W1 fun e W' =>
          (e = .returned (.bool true) ∧ J (pre ++ ys ++ [x]) W' ∧ Kept w.heap.size C W1 W') ∨ (e = .returned (.bool false) ∧ Jx (pre ++ ys ++ [x]) W') := by
        intro x hx W1 hj1
        have := HYY.out (m - 1) (pre ++ ys) x W1 hj1 hpl
        rw [hx] at this ⊢
        simp only [e0, e1] at this ⊢
        exact this
      obtain ⟨x, hx⟩ : ∃ x : NetV w P, x = ⟨es[j], av, kv, hav, hkv, hf _ (List.getElem_mem hlt)⟩ := ⟨_, rfl⟩
      have HV : Hid (∀ W1, J (pre ++ ys) W1 → YieldAt Fence.wide (m - 1) Tryd.prog l #[.agg #[.int .i64 es[j].kind, .int .i64 es[j].one.op, .slice p0 es[j].one.args.length r0, .slice p1 es[j].kids.length r1]] W1 fun e W' =>
          (e = .returned (.bool true) ∧ J (pre ++ ys ++ [x]) W' ∧ Kept w.heap.size C W1 W') ∨ (e = .returned (.bool false) ∧ Jx (pre ++ ys ++ [x]) W')) := hval x hx
      have HXN : Hid (x.net = es[j]) := by show _ = _; rw [hx]
      have HKID : Hid (NetsAt w kv es[j].kids) := hkv
      clear hval hx
      obtain ⟨y, hy⟩ : ∃ y, y = es[j] := ⟨_, rfl⟩
      rw [← hy] at x0 x1 HV HXN HKID e0 e1
      have HY2 : Hid (y = es[j]) := hy
      rw [e0] at x2
      rw [e1] at x3 HKID
      clear hav hkv e0 e1 hy
      have hZ : ¬ C wr.heap.size := fun h => by have := hCM _ h; have := hk.2.size; omega
      have hYz := lt_of_cell3 b0
      have hBz := lt_of_cell3 b1
      have hKz := lt_of_cell3 b2
      gi_wp2
      obtain ⟨W1, hW1⟩ : ∃ W1, W1 = wr.alloc (.cells #[.int .i64 y.kind, .int .i64 y.one.op, .slice p0 y.one.args.length r0, .slice p1 y.kids.length r1] 34) := ⟨_, rfl⟩
      rw [← hW1]
      have c0 : W1.cell? ⟨Y, 0, none⟩ = some (.func (.yield l) #[] #[]) := by rw [hW1]; simp [go_sem, b0, hYz]
      have c1 : W1.cell? ⟨B, 0, none⟩ = some (.func (.func 57) #[] #[.pointer (some ⟨Y, 0, none⟩), .pointer (some ⟨B, 0, none⟩), .pointer (some ⟨K, 0, none⟩)]) := by rw [hW1]; simp [go_sem, b1, hBz]
      have c2 : W1.cell? ⟨K, 0, none⟩ = some (.func (.func 47) #[] #[]) := by rw [hW1]; simp [go_sem, b2, hKz]
      obtain ⟨z, hz⟩ : ∃ z, z = wr.heap.size := ⟨_, rfl⟩
      rw [← hz] at hZ ⊢
      have d0 : W1.cell? ⟨z, 0, none⟩ = some (.int .i64 y.kind) := by rw [hW1, hz]; simp [go_sem]
      have d1 : W1.cell? ⟨z, 1, none⟩ = some (.int .i64 y.one.op) := by rw [hW1, hz]; simp [go_sem]
      have d2 : W1.cell? ⟨z, 2, none⟩ = some (.slice p0 y.one.args.length r0) := by rw [hW1, hz]; simp [go_sem]
      have d3 : W1.cell? ⟨z, 3, none⟩ = some (.slice p1 y.kids.length r1) := by rw [hW1, hz]; simp [go_sem]
      have hb1 : Below wr.heap.size wr W1 := by rw [hW1]; exact below_alloc _ _
      have hk1 : Kept w.heap.size C W W1 := hk.t (Kept.of_below (Nat.le_trans HB.out.size hk.1.size) hb1)
      have hJ2 : J (pre ++ ys) W1.drew := HJJ.out _ _ _ hJ1 hb1.drew
      clear hW1 hb1 b0 b1 b2 x0 x1 x2 x3 hYz hBz hKz hJ1 hk hz
      obtain ⟨fn, tmps, assign, body, hyd, hR⟩ := HV.out W1.drew hJ2
      clear HV hJ2
      have HRR : Hid (∀ (e : Ending) (W2 : World), (e = .returned (.bool true) ∧ J (pre ++ ys ++ [x]) W2 ∧ Kept w.heap.size C W1.drew W2) → W2.cell? ⟨B, 0, none⟩ = some (.func (.func 57) #[] #[.pointer (some ⟨Y, 0, none⟩), .pointer (some ⟨B, 0, none⟩), .pointer (some ⟨K, 0, none⟩)]) ∧ W2.cell? ⟨K, 0, none⟩ = some (.func (.func 47) #[] #[]) ∧
          W2.cell? ⟨z, 0, none⟩ = some (.int .i64 y.kind) ∧ W2.cell? ⟨z, 1, none⟩ = some (.int .i64 y.one.op) ∧ W2.cell? ⟨z, 2, none⟩ = some (.slice p0 y.one.args.length r0) ∧ W2.cell? ⟨z, 3, none⟩ = some (.slice p1 y.kids.length r1)) :=
        fun e W2 h => ⟨h.2.2.2.cell hBC c1, h.2.2.2.cell hKC c2, h.2.2.2.cell hZ d0, h.2.2.2.cell hZ d1, h.2.2.2.cell hZ d2, h.2.2.2.cell hZ d3⟩
      have HKW : Hid (∀ W2 W3, Kept w.heap.size C W1.drew W2 → Below W2.heap.size W2 W3 → Kept w.heap.size C W W3) := fun W2 W3 h2 h3 =>
        ((hk1.t ⟨(Below.refl _ _).drew, (KeepC.refl _ _).drew⟩).t h2).t (Kept.of_below (Nat.le_trans (Nat.le_trans HB.out.size hk1.1.size) h2.1.size) h3)
      have HREC : Hid (∀ W3, J (pre ++ ys ++ [x]) W3 → Kept w.heap.size C W W3 → CallsIn Fence.wide (m - 1) Tryd.prog 57 #[.slice p1 y.kids.length r1, .pointer (some ⟨Y, 0, none⟩), .pointer (some ⟨B, 0, none⟩), .pointer (some ⟨K, 0, none⟩)] W3 fun e W' =>
          (e = .returned (.bool true) ∧ ∃ zs : List (NetV w P), zs.map NetV.net = Stil.netsPre y.kids ∧ J (pre ++ ys ++ [x] ++ zs) W' ∧ Kept w.heap.size C W3 W') ∨
          (e = .returned (.bool false) ∧ ∃ zs : List (NetV w P), zs.map NetV.net <+: Stil.netsPre y.kids ∧ Jx (pre ++ ys ++ [x] ++ zs) W')) := by
        intro W3 hj3 hk3
        have hbw : Below w.heap.size w W3 := HB.out.trans hk3.1
        refine IH.out y (by rw [HY2.out]; exact List.getElem_mem hlt) (m - 1) _ _ W3 (NetsSeen.of_at HKID.out hbw hC) (HBX.out W3 hk3.2) hj3 hbw (Nat.le_trans hM hk3.2.size) ?_
        have h1 := HN.out
        have h2 : ys.length = (Stil.netsPre (es.take j)).length := by rw [← hys, List.length_map]
        have h3 := (Stil.netsPre_pre es (j + 1)).length_le
        rw [Stil.netsPre_take es j hlt, ← HY2.out] at h3
        simp only [List.length_append, List.length_cons, List.length_nil] at h3 ⊢
        omega
      have HCONT : Hid (∀ zs : List (NetV w P), zs.map NetV.net = Stil.netsPre y.kids → (ys ++ [x] ++ zs).map NetV.net = Stil.netsPre (es.take (j + 1))) := by
        intro zs hzs
        rw [Stil.netsPre_take es j hlt, List.map_append, List.map_append, hys, hzs, ← HY2.out]
        simp [HXN.out]
      have HPRE : Hid (∀ zs : List (NetV w P), zs.map NetV.net <+: Stil.netsPre y.kids → (ys ++ [x] ++ zs).map NetV.net <+: Stil.netsPre es) := by
        intro zs hzs
        refine List.IsPrefix.trans ?_ (Stil.netsPre_pre es (j + 1))
        rw [Stil.netsPre_take es j hlt, List.map_append, List.map_append, hys, ← HY2.out]
        obtain ⟨t, ht⟩ := hzs
        exact ⟨t, by simp [HXN.out, ← ht]⟩
      have HPRE1 : Hid ((ys ++ [x]).map NetV.net <+: Stil.netsPre es) := by
        show _ <+: _
        have := HPRE.out [] (by simp)
        simpa using this
      refine wpIn_region_any (by kernel_rfl) ?_
      try (change wpAnyIn _ _ _ _ _ _ _ _ _ (World.drew _))
      apply share
      · intro key0
        refine wpAnyIn_ready (rs := [0, 1]) (by kernel_rfl) (by simp) ?_
        refine AllReadyIn.cons rfl (fun KK hKK => ?_) ?_
        · go_simp
          refine hKK _ _ ?_
          clear hKK KK
          refine wpAnyIn_ready (rs := [1]) (by kernel_rfl) (by simp) ?_
          refine AllReadyIn.cons rfl (fun KK hKK => ?_) AllReadyIn.nil
          go_simp
          refine hKK _ _ ?_
          clear hKK KK
          exact key0
        refine AllReadyIn.cons rfl (fun KK hKK => ?_) ?_
        · go_simp
          refine hKK _ _ ?_
          clear hKK KK
          refine wpAnyIn_ready (rs := [0]) (by kernel_rfl) (by simp) ?_
          refine AllReadyIn.cons rfl (fun KK hKK => ?_) AllReadyIn.nil
          go_simp
          refine hKK _ _ ?_
          clear hKK KK
          exact key0
        exact AllReadyIn.nil
      · refine wpAnyIn_ready (rs := [2]) (by kernel_rfl) (by simp) ?_
        refine AllReadyIn.cons rfl (fun KK hKK => ?_) AllReadyIn.nil
        go_simp
        refine ⟨fun h => (by cases h), ?_⟩
        refine hR.mono ?_
        rintro e W2 (⟨rfl, hJ3, hk3⟩ | ⟨rfl, hx3⟩)
        · refine hKK _ _ ?_
          clear hKK KK
          obtain ⟨f1, f2, g0, g1, g2, g3⟩ := HRR.out _ _ ⟨rfl, hJ3, hk3⟩
          apply share
          · intro key1
            apply share
            · intro key2
              refine wpAnyIn_ready (rs := [3]) (by kernel_rfl) (by simp) ?_
              refine AllReadyIn.cons rfl (fun KK hKK => ?_) AllReadyIn.nil
              go_simp
              refine hKK _ _ ?_
              clear hKK KK
              refine wpAnyIn_ready (rs := [4]) (by kernel_rfl) (by simp) ?_
              refine AllReadyIn.cons rfl (fun KK hKK => ?_) AllReadyIn.nil
              go_simp
              refine hKK _ _ ?_
              clear hKK KK
              refine wpAnyIn_ready (rs := [5, 6, 7]) (by kernel_rfl) (by simp) ?_
              refine AllReadyIn.cons rfl (fun KK hKK => ?_) ?_
              · go_simp
                refine hKK _ _ ?_
                clear hKK KK
                refine wpAnyIn_ready (rs := [6, 7]) (by kernel_rfl) (by simp) ?_
                refine AllReadyIn.cons rfl (fun KK hKK => ?_) ?_
                · go_simp
                  refine hKK _ _ ?_
                  clear hKK KK
                  refine wpAnyIn_ready (rs := [7]) (by kernel_rfl) (by simp) ?_
                  refine AllReadyIn.cons rfl (fun KK hKK => ?_) AllReadyIn.nil
                  go_simp
                  refine hKK _ _ ?_
                  clear hKK KK
                  exact key1
                refine AllReadyIn.cons rfl (fun KK hKK => ?_) ?_
                · go_simp
                  refine hKK _ _ ?_
                  clear hKK KK
                  refine wpAnyIn_ready (rs := [6]) (by kernel_rfl) (by simp) ?_
                  refine AllReadyIn.cons rfl (fun KK hKK => ?_) AllReadyIn.nil
                  go_simp
                  refine hKK _ _ ?_
                  clear hKK KK
                  exact key1
                exact AllReadyIn.nil
              refine AllReadyIn.cons rfl (fun KK hKK => ?_) ?_
              · go_simp
                refine hKK _ _ ?_
                clear hKK KK
                refine wpAnyIn_ready (rs := [5, 7]) (by kernel_rfl) (by simp) ?_
                refine AllReadyIn.cons rfl (fun KK hKK => ?_) ?_
                · go_simp
                  refine hKK _ _ ?_
                  clear hKK KK
                  refine wpAnyIn_ready (rs := [7]) (by kernel_rfl) (by simp) ?_
                  refine AllReadyIn.cons rfl (fun KK hKK => ?_) AllReadyIn.nil
                  go_simp
                  refine hKK _ _ ?_
                  clear hKK KK
                  exact key1
                refine AllReadyIn.cons rfl (fun KK hKK => ?_) ?_
                · go_simp
                  refine hKK _ _ ?_
                  clear hKK KK
                  exact key2
                exact AllReadyIn.nil
              refine AllReadyIn.cons rfl (fun KK hKK => ?_) ?_
              · go_simp
                refine hKK _ _ ?_
                clear hKK KK
                refine wpAnyIn_ready (rs := [5, 6]) (by kernel_rfl) (by simp) ?_
                refine AllReadyIn.cons rfl (fun KK hKK => ?_) ?_
                · go_simp
                  refine hKK _ _ ?_
                  clear hKK KK
                  refine wpAnyIn_ready (rs := [6]) (by kernel_rfl) (by simp) ?_
                  refine AllReadyIn.cons rfl (fun KK hKK => ?_) AllReadyIn.nil
                  go_simp
                  refine hKK _ _ ?_
                  clear hKK KK
                  exact key1
                refine AllReadyIn.cons rfl (fun KK hKK => ?_) ?_
                · go_simp
                  refine hKK _ _ ?_
                  clear hKK KK
                  exact key2
                exact AllReadyIn.nil
              exact AllReadyIn.nil
            · refine wpAnyIn_ready (rs := [5, 8]) (by kernel_rfl) (by simp) ?_
              refine AllReadyIn.cons rfl (fun KK hKK => ?_) ?_
              · go_simp
                refine hKK _ _ ?_
                clear hKK KK
                exact key1
              refine AllReadyIn.cons rfl (fun KK hKK => ?_) ?_
              · go_simp
                refine ⟨trivial, fun h => (by cases h), ?_⟩
                refine (callsIn_wide.2 (i_netKids _ _ _ _ _ _ _ _ _ rfl _)).mono ?_
                rintro e W3 ⟨rfl, hb3⟩
                refine hKK _ _ ?_
                clear hKK KK
                have h1 := (hb3.cell (p := ⟨B, 0, none⟩) (lt_of_cell3 f1)).trans f1
                have hJ3 := HJJ.out _ _ _ hJ3 hb3
                have hkW : Kept w.heap.size C W W3 := HKW.out _ _ hk3 hb3
                refine wpAnyIn_ready (rs := [5]) (by kernel_rfl) (by simp) ?_
                refine AllReadyIn.cons rfl (fun KK hKK => ?_) AllReadyIn.nil
                go_simp
                refine hKK _ _ ?_
                clear hKK KK
                refine wpAnyIn_ready (rs := [9]) (by kernel_rfl) (by simp) ?_
                refine AllReadyIn.cons rfl (fun KK hKK => ?_) AllReadyIn.nil
                go_simp
                refine ⟨trivial, fun h => (by cases h), ?_⟩
                refine (HREC.out _ hJ3 hkW).mono ?_
                rintro e W4 (⟨rfl, zs, hzs, hJ4, hk4⟩ | ⟨rfl, zs, hzs, hx4⟩)
                · refine hKK _ _ ?_
                  clear hKK KK
                  refine wpAnyIn_ready (rs := [10]) (by kernel_rfl) (by simp) ?_
                  refine AllReadyIn.cons rfl (fun KK hKK => ?_) AllReadyIn.nil
                  go_simp
                  refine hKK _ _ ?_
                  clear hKK KK
                  refine wpAnyIn_ready (rs := [11]) (by kernel_rfl) (by simp) ?_
                  refine AllReadyIn.cons rfl (fun KK hKK => ?_) AllReadyIn.nil
                  go_simp
                  refine hKK _ _ ?_
                  clear hKK KK
                  refine wpAnyIn_done (by kernel_rfl) ?_ _
                  gi_wp2
                  exact ⟨⟨j + 1, ys ++ [x] ++ zs, by omega, by go_num, HCONT.out zs hzs, by simpa [List.append_assoc] using hJ4, hkW.t hk4⟩, by simp [intOf]; omega⟩
                · refine hKK _ _ ?_
                  clear hKK KK
                  refine wpAnyIn_ready (rs := [10]) (by kernel_rfl) (by simp) ?_
                  refine AllReadyIn.cons rfl (fun KK hKK => ?_) AllReadyIn.nil
                  go_simp
                  refine hKK _ _ ?_
                  clear hKK KK
                  refine wpAnyIn_ready (rs := [11]) (by kernel_rfl) (by simp) ?_
                  refine AllReadyIn.cons rfl (fun KK hKK => ?_) AllReadyIn.nil
                  go_simp
                  refine hKK _ _ ?_
                  clear hKK KK
                  refine wpAnyIn_done (by kernel_rfl) ?_ _
                  gi_wp2
                  go_ret
                  exact .inr ⟨rfl, ys ++ [x] ++ zs, HPRE.out zs hzs, by simpa [List.append_assoc] using hx4⟩
              exact AllReadyIn.nil
          · refine wpAnyIn_ready (rs := [8]) (by kernel_rfl) (by simp) ?_
            refine AllReadyIn.cons rfl (fun KK hKK => ?_) AllReadyIn.nil
            go_simp
            refine ⟨trivial, fun h => (by cases h), ?_⟩
            refine (callsIn_wide.2 (i_netKids _ _ _ _ _ _ _ _ _ rfl _)).mono ?_
            rintro e W3 ⟨rfl, hb3⟩
            refine hKK _ _ ?_
            clear hKK KK
            have h1 := (hb3.cell (p := ⟨B, 0, none⟩) (lt_of_cell3 f1)).trans f1
            have hJ3 := HJJ.out _ _ _ hJ3 hb3
            have hkW : Kept w.heap.size C W W3 := HKW.out _ _ hk3 hb3
            refine wpAnyIn_ready (rs := [9]) (by kernel_rfl) (by simp) ?_
            refine AllReadyIn.cons rfl (fun KK hKK => ?_) AllReadyIn.nil
            go_simp
            refine ⟨trivial, fun h => (by cases h), ?_⟩
            refine (HREC.out _ hJ3 hkW).mono ?_
            rintro e W4 (⟨rfl, zs, hzs, hJ4, hk4⟩ | ⟨rfl, zs, hzs, hx4⟩)
            · refine hKK _ _ ?_
              clear hKK KK
              refine wpAnyIn_ready (rs := [10]) (by kernel_rfl) (by simp) ?_
              refine AllReadyIn.cons rfl (fun KK hKK => ?_) AllReadyIn.nil
              go_simp
              refine hKK _ _ ?_
              clear hKK KK
              refine wpAnyIn_ready (rs := [11]) (by kernel_rfl) (by simp) ?_
              refine AllReadyIn.cons rfl (fun KK hKK => ?_) AllReadyIn.nil
              go_simp
              refine hKK _ _ ?_
              clear hKK KK
              refine wpAnyIn_done (by kernel_rfl) ?_ _
              gi_wp2
              exact ⟨⟨j + 1, ys ++ [x] ++ zs, by omega, by go_num, HCONT.out zs hzs, by simpa [List.append_assoc] using hJ4, hkW.t hk4⟩, by simp [intOf]; omega⟩
            · refine hKK _ _ ?_
              clear hKK KK
              refine wpAnyIn_ready (rs := [10]) (by kernel_rfl) (by simp) ?_
              refine AllReadyIn.cons rfl (fun KK hKK => ?_) AllReadyIn.nil
              go_simp
              refine hKK _ _ ?_
              clear hKK KK
              refine wpAnyIn_ready (rs := [11]) (by kernel_rfl) (by simp) ?_
              refine AllReadyIn.cons rfl (fun KK hKK => ?_) AllReadyIn.nil
              go_simp
              refine hKK _ _ ?_
              clear hKK KK
              refine wpAnyIn_done (by kernel_rfl) ?_ _
              gi_wp2
              go_ret
              exact .inr ⟨rfl, ys ++ [x] ++ zs, HPRE.out zs hzs, by simpa [List.append_assoc] using hx4⟩
        · refine hKK _ _ ?_
          clear hKK KK
          refine wpAnyIn_ready (rs := [3]) (by kernel_rfl) (by simp) ?_
          refine AllReadyIn.cons rfl (fun KK hKK => ?_) AllReadyIn.nil
          go_simp
          refine hKK _ _ ?_
          clear hKK KK
          refine wpAnyIn_ready (rs := [4]) (by kernel_rfl) (by simp) ?_
          refine AllReadyIn.cons rfl (fun KK hKK => ?_) AllReadyIn.nil
          go_simp
          refine hKK _ _ ?_
          clear hKK KK
          refine wpAnyIn_take (i := 5) (v := undef) rfl rfl (by kernel_rfl) (by kernel_rfl) (by kernel_rfl) (fun _ _ _ h => h) ⟨Or.inr ⟨by rfl, rfl⟩, fun _ => rfl⟩ ?_
          refine wpAnyIn_take (i := 6) (v := undef) rfl rfl (by kernel_rfl) (by kernel_rfl) (by kernel_rfl) (fun _ _ _ h => h) ⟨Or.inr ⟨by rfl, rfl⟩, fun _ => rfl⟩ ?_
          refine wpAnyIn_take (i := 7) (v := undef) rfl rfl (by kernel_rfl) (by kernel_rfl) (by kernel_rfl) (fun _ _ _ h => h) ⟨Or.inr ⟨by rfl, rfl⟩, fun _ => rfl⟩ ?_
          refine wpAnyIn_take (i := 8) (v := undef) rfl rfl (by kernel_rfl) (by kernel_rfl) (by kernel_rfl) (fun _ _ _ h => h) ⟨Or.inr ⟨by rfl, rfl⟩, fun _ => rfl⟩ ?_
          refine wpAnyIn_take (i := 9) (v := undef) rfl rfl (by kernel_rfl) (by kernel_rfl) (by kernel_rfl) (fun _ _ _ h => h) ⟨Or.inr ⟨by rfl, rfl⟩, fun _ => rfl⟩ ?_
          refine wpAnyIn_take (i := 10) (v := undef) rfl rfl (by kernel_rfl) (by kernel_rfl) (by kernel_rfl) (fun _ _ _ h => h) ⟨Or.inr ⟨by rfl, rfl⟩, fun _ => rfl⟩ ?_
          refine wpAnyIn_ready (rs := [11]) (by kernel_rfl) (by simp) ?_
          refine AllReadyIn.cons rfl (fun KK hKK => ?_) AllReadyIn.nil
          go_simp
          refine hKK _ _ ?_
          clear hKK KK
          refine wpAnyIn_done (by kernel_rfl) ?_ _
          gi_wp2
          go_ret
          exact .inr ⟨rfl, ys ++ [x], HPRE1.out, by simpa [List.append_assoc] using hx3⟩
    · gi_wp2
      go_ret
      refine .inl ⟨rfl, ys, ?_, hJ1, hk⟩
      rw [hys, List.take_of_length_le (by omega)]
end Go.Proofs.YthhfnncehfkbfaaDoor
/- Contracts of the program's chapter 3: the walk over arms. -/
namespace Go.Proofs.YthhfnncehfkbfaaDoor
open Go.RowKit Go.Sort Go.BigFrame Go.Shelf
attribute [local go_sem] Oper.semAt_some
end Go.Proofs.YthhfnncehfkbfaaDoor
/- Contracts of the program's chapter 3: the functions that are ranged over, and those that make them. -/
namespace Go.Proofs.YthhfnncehfkbfaaDoor
open Go.RowKit Go.Sort Go.BigFrame Go.Shelf
theorem i_walkNetsAll (w : World) (P : Stil.Net → Prop) (hP : ∀ x, P x → x.kids.length ≤ 1048576 ∧ ∀ y ∈ x.kids, P y) (C : Nat → Prop) (hC : ∀ k, C k → w.heap.size ≤ k) (M l Y B K N : Nat) (hCM : ∀ k, C k → k < M) (hYC : ¬ C Y) (hBC : ¬ C B) (hKC : ¬ C K) (J Jx : List (NetV w P) → World → Prop)
    (hJ : ∀ s W W', J s W → Below W.heap.size W W' → J s W')
    (hY : ∀ m pre (x : NetV w P) W, J pre W → pre.length < N → YieldAt Fence.wide m Tryd.prog l #[.agg #[.int .i64 x.net.kind, .int .i64 x.net.one.op, x.av, x.kv]] W fun e W' => (e = .returned (.bool true) ∧ J (pre ++ [x]) W' ∧ Kept w.heap.size C W W') ∨ (e = .returned (.bool false) ∧ Jx (pre ++ [x]) W'))
    (es : List Stil.Net) (hl : es.length ≤ 1048576) (hf : ∀ x ∈ es, P x) : WalkNets w P C M l Y B K N J Jx es := by
  refine i_walkNets w P C hC M l Y B K N hCM hYC hBC hKC J Jx hJ hY es hl hf (fun x hx => ?_)
  have key : ∀ n : Stil.Net, P n → WalkNets w P C M l Y B K N J Jx n.kids := by
    intro n
    induction n using Stil.net_ind with
    | h a b kids ih =>
      intro hp
      have hq := hP _ hp
      exact i_walkNets w P C hC M l Y B K N hCM hYC hBC hKC J Jx hJ hY kids hq.1 hq.2 (fun y hy => ih y hy (hq.2 y hy))
  exact key x (hf x hx)
set_option maxHeartbeats 2000000 in
set_option maxRecDepth 100000 in
theorem i_seqNets (w : World) (P : Stil.Net → Prop) (hP : ∀ x, P x → x.kids.length ≤ 1048576 ∧ ∀ y ∈ x.kids, P y) (C : Nat → Prop) (hC : ∀ k, C k → w.heap.size ≤ k) (M A K : Nat) (hCM : ∀ k, C k → k < M) (hKC : ¬ C K) (_hAC : ¬ C A) (es : List Stil.Net) (hl : es.length ≤ 1048576) (hf : ∀ x ∈ es, P x) (v : Value) (w0 : World)
    (hw0 : Below w.heap.size w w0) (hMw : M ≤ w0.heap.size) (hs : NetsSeen w C w0 v es) (hA : w0.cell? ⟨A, 0, none⟩ = some v) (hK : w0.cell? ⟨K, 0, none⟩ = some (.func (.func 47) #[] #[])) (n : Nat) :
    SeqStopsK Fence.wide n Tryd.prog 56 #[.pointer (some ⟨K, 0, none⟩), .pointer (some ⟨A, 0, none⟩)] (fun x : NetV w P => #[Value.agg #[.int .i64 x.net.kind, .int .i64 x.net.one.op, x.av, x.kv]]) (Kept w.heap.size C) (fun ys => ys.map NetV.net = Stil.netsPre es) (fun pre => pre.map NetV.net <+: Stil.netsPre es) (Stil.netsPre es).length w0 := by
  intro l J Jx W hW hJ _ hY h0
  have hmf : ∀ (fn : Fn) (first cap : Array Value) (w : World), (Instr.makeFunc fn first cap).run Tryd.prog w = .ok (.func fn first cap) w := fun _ _ _ _ => rfl
  have hst : ∀ (fn : Fn) (fi ca : Array Value) (P : Program) (w : World) (a : Addr) (m : Mode), (store a (.func fn fi ca) m).run P w = stored P w a (.func fn fi ca) m := fun fn fi ca P w a m => run_store P w a _ m rfl
  have hAW := (hW.cell (p := ⟨A, 0, none⟩) (lt_of_cell3 hA)).trans hA
  have hKW := (hW.cell (p := ⟨K, 0, none⟩) (lt_of_cell3 hK)).trans hK
  have hAz := lt_of_cell3 hAW
  have hKz := lt_of_cell3 hKW
  have hsz := hW.size
  have HREC : Hid (∀ W2, Below W.heap.size W W2 → W2.cell? ⟨W.heap.size, 0, none⟩ = some (.func (.yield l) #[] #[]) → W2.cell? ⟨W.heap.size + 1, 0, none⟩ = some (.func (.func 57) #[] #[.pointer (some ⟨W.heap.size, 0, none⟩), .pointer (some ⟨W.heap.size + 1, 0, none⟩), .pointer (some ⟨K, 0, none⟩)]) →
      CallsIn Fence.wide (n - 1) Tryd.prog 57 #[v, .pointer (some ⟨W.heap.size, 0, none⟩), .pointer (some ⟨W.heap.size + 1, 0, none⟩), .pointer (some ⟨K, 0, none⟩)] W2 fun e W' =>
        (e = .returned (.bool true) ∧ ∃ ys : List (NetV w P), ys.map NetV.net = Stil.netsPre es ∧ J ([] ++ ys) W' ∧ Kept w.heap.size C W2 W') ∨
        (e = .returned (.bool false) ∧ ∃ ys : List (NetV w P), ys.map NetV.net <+: Stil.netsPre es ∧ Jx ([] ++ ys) W')) := by
    intro W2 hb2 hy hbx
    have hj : ∀ (s : List (NetV w P)) (X Y : World), J s X → Below X.heap.size X Y → J s Y := fun s X Y hs hb => hJ s X Y none hs ⟨hb.os, hb.tape, hb.output, hb.size, fun k hk _ => hb.block k hk⟩ (fun r e => by cases e)
    have hw2 : Below w.heap.size w W2 := (hw0.trans (hW.mono hw0.size)).trans (hb2.mono (Nat.le_trans hw0.size hW.size))
    refine i_walkNetsAll w P hP C hC M l W.heap.size (W.heap.size + 1) K (Stil.netsPre es).length hCM (fun h => by have := hCM _ h; omega) (fun h => by have := hCM _ h; omega) hKC J Jx hj (fun m pre x X hjx hlx => YieldAt.anyDepth rfl m (hY pre x X hjx hlx)) es hl hf (n - 1) v [] W2 (hs.keep ((KeepC.of_below hW).call hb2)) ⟨hy, hbx, (hb2.cell (p := ⟨K, 0, none⟩) hKz).trans hKW⟩ (hj _ _ _ h0 hb2) hw2 (Nat.le_trans hMw (Nat.le_trans hW.size hb2.size)) (by simp)
  obtain ⟨sa, sl, sc, rfl⟩ : ∃ sa sl sc, v = .slice sa sl sc := by obtain ⟨a, cap, hv, _⟩ := hs; exact ⟨_, _, _, hv⟩
  clear hY hJ hs hl hf hC hCM
  refine callsIn_of_wp Tryd.func56 rfl trivial ?_ rfl
  simp only [Tryd.ntmps56, List.size_toArray, List.length_cons, List.length_nil, Nat.reduceAdd, Nat.reduceSub, Array.replicate_succ, Array.replicate_zero, List.push_toArray, List.append_toArray, List.nil_append, List.cons_append]
  gi_wp2_with (refine ⟨trivial, fun h => (by cases h), ?_⟩; refine (HREC.out _ (by (repeat (first | with_reducible exact Below.refl _ _ | with_reducible assumption | with_reducible refine bl_set (by first | exact Nat.le_refl _ | (simp; done) | (simp; omega) | omega) ?_ _ | with_reducible refine bl_alloc ?_ _ | with_reducible refine bl_drewN ?_ _ | with_reducible refine bl_drew ?_ | with_reducible refine bl_grow ?_ _ _ | with_reducible refine bl_call ?_ (by assumption)))) (by simp [go_sem]) (by simp [go_sem])).mono ?_; rintro e W3 (⟨rfl, ys, hys, hJ3, _⟩ | ⟨rfl, ys, hys, hx3⟩))
  · go_end0
    exact ⟨⟨_, rfl⟩, .inl ⟨ys, hys, by simpa using hJ3⟩⟩
  · go_end0
    exact ⟨⟨_, rfl⟩, .inr ⟨ys, hys, by simpa using hx3⟩⟩
set_option maxHeartbeats 1000000 in
theorem i_mkWalkNet (a : Option Addr) (ln cap : Nat) (w : World) : Calls Tryd.prog 46 #[.slice a ln cap, .func (.func 47) #[] #[]] w fun e w' => e = .returned (.func (.func 56) #[] #[.pointer (some ⟨w.heap.size + 1, 0, none⟩), .pointer (some ⟨w.heap.size, 0, none⟩)]) ∧
    w'.cell? ⟨w.heap.size, 0, none⟩ = some (.slice a ln cap) ∧ w'.cell? ⟨w.heap.size + 1, 0, none⟩ = some (.func (.func 47) #[] #[]) ∧ Below w.heap.size w w' := by
  have hmf : ∀ (fn : Fn) (first cap : Array Value) (w : World), (Instr.makeFunc fn first cap).run Tryd.prog w = .ok (.func fn first cap) w := fun _ _ _ _ => rfl
  have hst : ∀ (fn : Fn) (fi ca : Array Value) (P : Program) (w : World) (a : Addr) (m : Mode), (store a (.func fn fi ca) m).run P w = stored P w a (.func fn fi ca) m := fun fn fi ca P w a m => run_store P w a _ m rfl
  go_enter Tryd.func46, Tryd.ntmps46
  go_wp2
  go_ret
  exact ⟨rfl, by simp [go_sem], by simp [go_sem], by (repeat (first | with_reducible exact Below.refl _ _ | with_reducible assumption | with_reducible refine bl_set (by first | exact Nat.le_refl _ | (simp; done) | (simp; omega) | omega) ?_ _ | with_reducible refine bl_alloc ?_ _ | with_reducible refine bl_drewN ?_ _ | with_reducible refine bl_drew ?_ | with_reducible refine bl_grow ?_ _ _ | with_reducible refine bl_call ?_ (by assumption)))⟩
end Go.Proofs.YthhfnncehfkbfaaDoor
/- Contracts of the program's chapter 3: whether a contact or coil is nothing. -/
namespace Go.Proofs.YthhfnncehfkbfaaDoor
open Go.RowKit Go.Sort Go.BigFrame
set_option maxHeartbeats 1000000 in
theorem i_isNothing (op : Int) (a : Option Addr) (ln cap : Nat) (w : World) (_h : ln ≤ 9223372036854775807) :
    Calls Tryd.prog 48 #[.agg #[.int .i64 op, .slice a ln cap]] w fun e w' => e = .returned (.bool (op == 0 && ln == 0)) ∧ Below w.heap.size w w' := by
  by_cases h0 : op = 0
  · subst h0
    go_enter Tryd.func48, Tryd.ntmps48
    go_wp2
    all_goals go_ret
    all_goals refine ⟨ret_bool ?_, by (repeat (first | with_reducible exact Below.refl _ _ | with_reducible assumption | with_reducible refine bl_set (by first | exact Nat.le_refl _ | (simp; done) | (simp; omega) | omega) ?_ _ | with_reducible refine bl_alloc ?_ _ | with_reducible refine bl_drewN ?_ _ | with_reducible refine bl_drew ?_ | with_reducible refine bl_grow ?_ _ _ | with_reducible refine bl_call ?_ (by assumption)))⟩
    all_goals (go_light; rw [Bool.eq_iff_iff]; simp; try omega)
  · have h1 : (op == 0) = false := by rw [beq_eq_false_iff_ne]; exact h0
    go_enter Tryd.func48, Tryd.ntmps48
    go_wp2
    all_goals go_ret
    all_goals refine ⟨ret_bool ?_, by (repeat (first | with_reducible exact Below.refl _ _ | with_reducible assumption | with_reducible refine bl_set (by first | exact Nat.le_refl _ | (simp; done) | (simp; omega) | omega) ?_ _ | with_reducible refine bl_alloc ?_ _ | with_reducible refine bl_drewN ?_ _ | with_reducible refine bl_drew ?_ | with_reducible refine bl_grow ?_ _ _ | with_reducible refine bl_call ?_ (by assumption)))⟩
    all_goals (go_light; simp [h1])
end Go.Proofs.YthhfnncehfkbfaaDoor
/- Contracts of the program's chapter 3: how many parts a ladder has. -/
namespace Go.Proofs.YthhfnncehfkbfaaDoor
open Go.RowKit Go.Sort Go.BigFrame Go.Shelf
attribute [local go_sem] Oper.semAt_some
set_option maxHeartbeats 1000000 in
theorem i_treeNets (k op : Int) (pa p : Option Addr) (la ca ln cap : Nat) (w : World) :
    Calls Tryd.prog 31 #[.agg #[.int .i64 k, .int .i64 op, .slice pa la ca, .slice p ln cap]] w fun e w' => ∃ b A K, e = .returned (.func (.func 56) #[] #[.pointer (some ⟨K, 0, none⟩), .pointer (some ⟨A, 0, none⟩)]) ∧ w.heap.size ≤ b ∧ w.heap.size ≤ A ∧ w.heap.size ≤ K ∧
      w'.cell? ⟨A, 0, none⟩ = some (.slice (some ⟨b, 0, none⟩) 1 1) ∧ w'.cell? ⟨K, 0, none⟩ = some (.func (.func 47) #[] #[]) ∧
      w'.cell? ⟨b, 0, none⟩ = some (.int .i64 k) ∧ w'.cell? ⟨b, 1, none⟩ = some (.int .i64 op) ∧ w'.cell? ⟨b, 2, none⟩ = some (.slice pa la ca) ∧ w'.cell? ⟨b, 3, none⟩ = some (.slice p ln cap) ∧ Below w.heap.size w w' := by
  have hmf : ∀ (fn : Fn) (first cap : Array Value) (w : World), (Instr.makeFunc fn first cap).run Tryd.prog w = .ok (.func fn first cap) w := fun _ _ _ _ => rfl
  go_enter Tryd.func31, Tryd.ntmps31
  go_wp2_with (go_at_call 46; refine (i_mkWalkNet _ _ _ _).mono ?_; rintro e w1 ⟨rfl, hA, hK, hb⟩)
  simp only [World.size_alloc] at hA hK
  go_ret
  refine ⟨w.heap.size + 1, _, _, rfl, by omega, by omega, by omega, hA, hK, ?_, ?_, ?_, ?_, by (repeat (first | with_reducible exact Below.refl _ _ | with_reducible assumption | with_reducible refine bl_set (by first | exact Nat.le_refl _ | (simp; done) | (simp; omega) | omega) ?_ _ | with_reducible refine bl_alloc ?_ _ | with_reducible refine bl_drewN ?_ _ | with_reducible refine bl_drew ?_ | with_reducible refine bl_grow ?_ _ _ | with_reducible refine bl_call ?_ (by assumption)))⟩
  all_goals (rw [hb.cell (p := ⟨w.heap.size + 1, _, none⟩) (by simp)]; simp [go_sem])
set_option maxHeartbeats 2000000 in
set_option maxRecDepth 100000 in
theorem i_countNets (n : Stil.Net) (av kv : Value) (limit : Int) (w : World) (hav : DevsAt w av n.one.args) (hkv : NetsAt w kv n.kids) (hf : Stil.netFits n) (hsz : Stil.netSize n ≤ 1000000000) (_hl1 : -9223372036854775808 ≤ limit) (_hl2 : limit ≤ 9223372036854775807) :
    Calls Tryd.prog 18 #[.agg #[.int .i64 n.kind, .int .i64 n.one.op, av, kv], .int .i64 limit] w fun e w' => ∃ r : Nat, e = .returned (.int .i64 r) ∧ ((Stil.netSize n : Int) ≤ limit → r = Stil.netSize n) ∧ (limit < Stil.netSize n → limit < r) ∧ r ≤ Stil.netSize n ∧ Below w.heap.size w w' := by
  have HLEN : Hid ((Stil.netsPre [n]).length = Stil.netSize n) := by show _ = _; rw [Stil.netsPre_one, Stil.netPre_len]
  obtain ⟨z, hz⟩ : ∃ z, z = Stil.netSize n := ⟨_, rfl⟩
  rw [← hz] at hsz HLEN ⊢
  clear hz
  refine (callsIn_wide (n := 9)).1 ?_
  have HAV : Hid (DevsAt w av n.one.args) := hav
  have HKV : Hid (NetsAt w kv n.kids) := hkv
  obtain ⟨p0, r0, rfl, _⟩ := hav
  obtain ⟨p1, r1, rfl, _⟩ := hkv
  refine callsIn_of_wp_marks Tryd.func18 rfl trivial ?_ rfl
  simp only [Tryd.ntmps18, List.size_toArray, List.length_cons, List.length_nil, Nat.reduceAdd, Nat.reduceSub, Array.replicate_succ, Array.replicate_zero, List.push_toArray, List.append_toArray, List.nil_append, List.cons_append]
  gi_wp2_with (refine ⟨trivial, ?_⟩; gi_at_call 31; refine (callsIn_wide.2 (i_treeNets _ _ _ _ _ _ _ _ _)).mono ?_; rintro e w1 ⟨b, A, K, rfl, hb0, hA0, hK0, hA, hK, x0, x1, x2, x3, hb⟩)
  simp only [World.size_alloc] at hb0 hA0 hK0
  have hbw : Below w.heap.size w w1 := by (repeat (first | with_reducible exact Below.refl _ _ | with_reducible assumption | with_reducible refine bl_set (by first | exact Nat.le_refl _ | (simp; done) | (simp; omega) | omega) ?_ _ | with_reducible refine bl_alloc ?_ _ | with_reducible refine bl_drewN ?_ _ | with_reducible refine bl_drew ?_ | with_reducible refine bl_grow ?_ _ _ | with_reducible refine bl_call ?_ (by assumption)))
  have hcl : w1.cell? ⟨w.heap.size + 1, 0, none⟩ = some (.int .i64 limit) := by rw [hb.cell (p := ⟨w.heap.size + 1, 0, none⟩) (by simp)]; simp [go_sem]
  have hcs : w1.cell? ⟨w.heap.size + 1 + 1, 0, none⟩ = some (.int .i64 0) := by rw [hb.cell (p := ⟨w.heap.size + 1 + 1, 0, none⟩) (by simp)]; simp [go_sem]
  have hcf : w1.frozen? ⟨w.heap.size + 1 + 1, 0, none⟩ = false := by rw [hb.frozen (p := ⟨w.heap.size + 1 + 1, 0, none⟩) (by simp)]; simp [go_sem]
  have hsz1 : w.heap.size + 3 ≤ w1.heap.size := by have := hb.size; simp at this; omega
  have hseen : NetsSeen w (fun k => k = w.heap.size + 1 + 1) w1 (.slice (some ⟨b, 0, none⟩) 1 1) [n] := by
    refine ⟨_, 1, rfl, fun i hi => ⟨b, 0, rfl, (fun h : b = _ => by omega), .slice p0 n.one.args.length r0, .slice p1 n.kids.length r1, ?_⟩⟩
    obtain rfl : i = 0 := by simpa using hi
    simp only [Nat.zero_mul, Nat.zero_add, List.getElem_cons_zero]
    exact ⟨x0, x1, x2, x3, HAV.out, HKV.out⟩
  have HS : Hid (SeqStopsK Fence.wide (9 - 1) Tryd.prog 56 #[.pointer (some ⟨K, 0, none⟩), .pointer (some ⟨A, 0, none⟩)] (fun x : NetV w Stil.netFits => #[Value.agg #[.int .i64 x.net.kind, .int .i64 x.net.one.op, x.av, x.kv]]) (Kept w.heap.size (fun k => k = w.heap.size + 1 + 1)) (fun ys => ys.map NetV.net = Stil.netsPre [n]) (fun pre => pre.map NetV.net <+: Stil.netsPre [n]) (Stil.netsPre [n]).length w1) :=
    i_seqNets w Stil.netFits (fun x hx => ⟨(Stil.netFits_parts hx).2.2.1, (Stil.netFits_parts hx).2.2.2⟩) (fun k => k = w.heap.size + 1 + 1) (fun k (h : k = _) => by omega) (w.heap.size + 3) A K (fun k (h : k = _) => by omega) (fun h : K = _ => by omega) (fun h : A = _ => by omega) [n] (by simp) (by simpa using hf) _ w1 hbw hsz1 hseen hA hK _
  clear hseen hb x0 x1 x2 x3 hA hK hf
  obtain ⟨N, hN⟩ : ∃ N, N = (Stil.netsPre [n]).length := ⟨_, rfl⟩
  rw [← hN] at HS
  have hNz : N = z := by rw [hN, HLEN.out]
  refine wpIn_rangeFunc_ownG rfl (by decide) (gf := 56) (lb := #[.pointer (some ⟨K, 0, none⟩), .pointer (some ⟨A, 0, none⟩)]) rfl trivial (enters_of Tryd.func56 (by kernel_rfl) rfl)
    HS.out Kept.t (Kept.b (by omega)) (Below.refl _ _) (fun _ => rfl)
    (fun pre W => (W.cell? ⟨w.heap.size + 1 + 1, 0, none⟩ = some (.int .i64 (pre.length : Int)) ∧ W.frozen? ⟨w.heap.size + 1 + 1, 0, none⟩ = false ∧ W.cell? ⟨w.heap.size + 1, 0, none⟩ = some (.int .i64 limit)) ∧ Below w.heap.size w W)
    (fun c pre W => (c = .exit 0 ∧ limit < pre.length ∧ W.cell? ⟨w.heap.size + 1 + 1, 0, none⟩ = some (.int .i64 (pre.length : Int))) ∧ Below w.heap.size w W)
    (OwnFrom.and (Own.from (fun s A B row hs hg hr => ⟨cell_kept hs.1 hg hr, (frozen_kept hs.1 hg hr).trans hs.2.1, cell_kept hs.2.2 hg hr⟩) _) (ownFrom_below (Nat.le_refl _) (by omega)))
    (fun c => OwnFrom.and (Own.from (fun s A B row hs hg hr => ⟨hs.1, hs.2.1, cell_kept hs.2.2 hg hr⟩) _) (ownFrom_below (Nat.le_refl _) (by omega)))
    ⟨⟨by simpa using hcs, hcf, hcl⟩, hbw⟩
    (fun x => { tmps := #[.agg #[.int .i64 n.kind, .int .i64 n.one.op, .slice p0 n.one.args.length r0, .slice p1 n.kids.length r1], .int .i64 limit, .pointer (some ⟨w.heap.size, 0, none⟩), .pointer (some ⟨w.heap.size + 1, 0, none⟩), .int .i64 0, .pointer (some ⟨w.heap.size + 1 + 1, 0, none⟩), .agg #[.int .i64 n.kind, .int .i64 n.one.op, .slice p0 n.one.args.length r0, .slice p1 n.kids.length r1], .func (.func 56) #[] #[.pointer (some ⟨K, 0, none⟩), .pointer (some ⟨A, 0, none⟩)], .agg #[.int .i64 x.net.kind, .int .i64 x.net.one.op, x.av, x.kv], undef, undef, undef, undef, undef, undef], defers := [] }) ?assign ?body ?done ?stop
  case assign =>
    intro l x W KK hKK
    gi_wp2
    simpa using hKK
  case body =>
    rintro l pre x W ⟨⟨hc, hfz, hlm⟩, hB⟩ hpl
    have hz0 : w.heap.size + 1 + 1 < W.heap.size := lt_of_cell3 hc
    have hw : IntKind.i64.wrap ((pre.length : Int) + 1) = (pre.length : Int) + 1 := by rw [IntKind.wrap_i64]; omega
    have hset : (W.setCell ⟨w.heap.size + 1 + 1, 0, none⟩ (.int .i64 ((pre.length : Int) + 1))).cell? ⟨w.heap.size + 1 + 1, 0, none⟩ = some (.int .i64 ((pre ++ [x]).length : Int)) := by
      rw [cellSetAt hc]; simp
    by_cases hgt : limit < (pre.length : Int) + 1
    · gi_wp2
      exact ⟨(KeepsOthers.setCell _ _ _).from _, ⟨rfl, by simp; omega, hset⟩, hB.setCell (p := ⟨w.heap.size + 1 + 1, 0, none⟩) (by simp; omega) _⟩
    · gi_wp2
      exact ⟨(KeepsOthers.setCell _ _ _).from _, ⟨(Below.refl _ W).setCell (p := ⟨w.heap.size + 1 + 1, 0, none⟩) (by simp; omega) _, KeepC.set (C := fun k => k = w.heap.size + 1 + 1) (KeepC.refl _ _) (show _ = _ from rfl) _⟩, ⟨hset, by rw [World.frozen?_setCell]; exact hfz, by rw [cellSetOther (by omega)]; exact hlm⟩, hB.setCell (p := ⟨w.heap.size + 1 + 1, 0, none⟩) (by simp; omega) _⟩
  case done =>
    rintro D ys W hD hS ⟨⟨hc, _⟩, hB⟩ hK
    have hyl : ys.length = z := by have := congrArg List.length hS; rw [List.length_map, HLEN.out] at this; exact this
    gi_wp2
    refine ⟨by simp, .inl ⟨_, _, rfl, run_takeDeferred hK, ?_⟩⟩
    exact ⟨_, results_tmp rfl _ _ _, z, rfl, fun _ => rfl, fun h => h, Nat.le_refl _, hB.trans (belowK_b (w := w) (Nat.le_refl _) W D _ _ (by omega) hK rfl rfl)⟩
  case stop =>
    rintro D c pre W hD hSp ⟨⟨rfl, hlim, hc⟩, hB⟩ hK
    have hyl : pre.length ≤ z := by have := hSp.length_le; rw [List.length_map, HLEN.out] at this; exact this
    gi_wp2
    refine ⟨by simp, .inl ⟨_, _, rfl, run_takeDeferred hK, ?_⟩⟩
    exact ⟨_, results_tmp rfl _ _ _, pre.length, rfl, fun h => by omega, fun h => by omega, by omega, hB.trans (belowK_b (w := w) (Nat.le_refl _) W D _ _ (by omega) hK rfl rfl)⟩
end Go.Proofs.YthhfnncehfkbfaaDoor
/- Contracts of the program's chapter 3: how many parts a ladder has, arm by arm. -/
namespace Go.Proofs.YthhfnncehfkbfaaDoor
open Go.RowKit Go.Sort Go.BigFrame Go.Shelf
attribute [local go_sem] Oper.semAt_some
end Go.Proofs.YthhfnncehfkbfaaDoor
/- Contracts of the program's chapter 3: TreeSize. -/
namespace Go.Proofs.YthhfnncehfkbfaaDoor
open Go.RowKit Go.Sort Go.BigFrame Go.Shelf
attribute [local go_sem] Oper.semAt_some
/-- The arm that a round was handed lies in a block of the round's own. -/
def ArmBox (W : World) (B : Nat) (k op : Int) (a n c d : Value) : Prop := W.cell? ⟨B, 0, none⟩ = some (.int .i64 k) ∧ W.cell? ⟨B, 1, none⟩ = some (.int .i64 op) ∧ W.cell? ⟨B, 2, none⟩ = some a ∧ W.cell? ⟨B, 3, none⟩ = some n ∧ W.cell? ⟨B, 4, none⟩ = some c ∧ W.cell? ⟨B, 5, none⟩ = some d
theorem armBox_own {β : Type} (B : Nat) (k op : Int) (a n c d : Value) : Own (fun (_ : β) W => ArmBox W B k op a n c d) := fun _ _ _ _ hs hg hr =>
  ⟨cell_kept hs.1 hg hr, cell_kept hs.2.1 hg hr, cell_kept hs.2.2.1 hg hr, cell_kept hs.2.2.2.1 hg hr, cell_kept hs.2.2.2.2.1 hg hr, cell_kept hs.2.2.2.2.2 hg hr⟩
theorem sum_snoc {α : Type} (f : α → Nat) (l : List α) (x : α) : ((l ++ [x]).map f).sum = (l.map f).sum + f x := by simp
end Go.Proofs.YthhfnncehfkbfaaDoor
