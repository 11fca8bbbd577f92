/- Marks of one net. -/
import Derived.Test.YthhfnncehfkbfaaDoorY3
import Derived.Test.YthhfnncehfkbfaaDoorY4
namespace Go.Proofs.YthhfnncehfkbfaaDoor
open Go.RowKit Go.Sort Go.BigFrame
theorem Marked.pre {w w1 w2 : World} {ps : List Pl} {k : Int} (hb : Below w.heap.size w w1) (hm : Marked w1 w2 ps k) : Marked w w2 ps k :=
  Marked.append (ps := []) (Marked.of_below hb) (by simpa using hm) (fun p hp => by cases hp) (fun p hp => by cases hp)
set_option maxHeartbeats 1000000 in
set_option maxRecDepth 100000 in
theorem p_markNet (Q : Pl → Prop) (k op : Int) (ds : List Stil.Dev) (a1 : Option Addr) (c1 : Nat) (a2 : Option Addr) (c2 : Nat) (ms : List MNet) (kk : Int) (w : World) (m : MNet) (he : m = ⟨k, op, ds, .slice a1 ds.length c1, .slice a2 ms.length c2, ms⟩)
    (hsh : MSh Q w m) (hi : NumsAt w m.inner) (hnd : m.inner.Nodup) (hq : ∀ p ∈ m.inner, ¬ Q p) (hk0 : 0 ≤ kk) (hkl : kk + m.inner.length ≤ 4611686018427387904) :
    Calls Tryd.prog 9 #[.agg #[.int .i64 k, .int .i64 op, .slice a1 ds.length c1, .slice a2 ms.length c2], .int .i64 kk] w fun e w' => e = .returned (.int .i64 (kk + m.inner.length)) ∧ Marked w w' m.inner kk := by
  rw [MNet.inner_eq] at hi hnd hq hkl ⊢
  have hNA := List.nodup_append.1 hnd
  have hsD := ((MSh_iff Q w m).1 hsh).1
  obtain ⟨D, hD⟩ : ∃ D, D = m.dps := ⟨_, rfl⟩
  obtain ⟨R, hR⟩ : ∃ R, R = m.rps := ⟨_, rfl⟩
  simp only [List.length_append] at hkl
  have eav : m.av = .slice a1 ds.length c1 := by rw [he]
  have ekv : m.kv = .slice a2 ms.length c2 := by rw [he]
  have H1 : Hid (∀ W, Below w.heap.size w W → Calls Tryd.prog 23 #[.agg #[.int .i64 op, .slice a1 ds.length c1], .int .i64 kk] W fun e w' => e = .returned (.int .i64 (kk + D.length)) ∧ Marked W w' D kk) := by
    intro W hW
    rw [← eav, hD]
    exact p_markElem op m.av m.dps kk W hsD (hi.left.below hW) hNA.1 hk0 (by omega)
  have H2 : Hid (∀ W, MSh Q W m → NumsAt W R → Calls Tryd.prog 24 #[.slice a2 ms.length c2, .int .i64 (kk + D.length)] W fun e w' => e = .returned (.int .i64 (kk + D.length + R.length)) ∧ Marked W w' R (kk + D.length)) := by
    intro W h1 h2
    rw [← ekv]
    rw [hR] at h2 ⊢
    exact p_markNets Q m (kk + D.length) W h1 h2 hNA.2.1 (fun p hp => hq p (List.mem_append_right _ hp)) (by omega) (by rw [hD]; omega)
  rw [← hD, ← hR] at hi hq ⊢
  have HSH : Hid (∀ W, Below w.heap.size w W → MSh Q W m) := fun W h => hsh.below h
  have HIR : Hid (∀ W, Below w.heap.size w W → NumsAt W R) := fun W h => hi.right.below h
  have HID : Hid (∀ p ∈ D, p.1 < w.heap.size) := fun p hp => (hi p (List.mem_append_left _ hp)).1
  have HQD : Hid (∀ p ∈ D, ¬ Q p) := fun p hp => hq p (List.mem_append_left _ hp)
  have HDR : Hid (∀ p ∈ D, p ∉ R) := fun p hp hpr => hNA.2.2 p (by rw [← hD]; exact hp) p (by rw [← hR]; exact hpr) rfl
  have HWL : Hid (kk + (D.length : Int) + R.length ≤ 4611686018427387904) := by show _ ≤ _; rw [hD, hR]; omega
  clear hsh hi hnd hq hNA hsD hD hR eav ekv he hkl
  obtain ⟨nD, hnD⟩ : ∃ n, n = D.length := ⟨_, rfl⟩
  obtain ⟨nR, hnR⟩ : ∃ n, n = R.length := ⟨_, rfl⟩
  have HLE : Hid ((D ++ R).length = nD + nR) := by show _ = _; rw [List.length_append, hnD, hnR]
  have HND : Hid (nD = D.length) := hnD
  rw [← hnD] at H1 H2
  rw [← hnR] at H2
  rw [HLE.out]
  clear hnD hnR HLE HWL
  go_enter Tryd.func9, Tryd.ntmps9
  go_wp2_with (first | (go_at_call 23; refine (H1.out _ (by (repeat (first | with_reducible exact Below.refl _ _ | with_reducible assumption | with_reducible refine bl_set (by first | exact Nat.le_refl _ | (simp; done) | (simp; omega) | omega) ?_ _ | with_reducible refine bl_alloc ?_ _ | with_reducible refine bl_drewN ?_ _ | with_reducible refine bl_drew ?_ | with_reducible refine bl_grow ?_ _ _ | with_reducible refine bl_call ?_ (by assumption))))).mono ?_; rintro e w1 ⟨rfl, hm1⟩; have hbp : Below w.heap.size w _ := below_alloc w (.cells #[.int .i64 k, .int .i64 op, .slice a1 ds.length c1, .slice a2 ms.length c2] 34); have HM1 : Hid (Marked w w1 D kk) := Marked.pre hbp hm1; have hz1 : w.heap.size < w1.heap.size := Nat.lt_of_lt_of_le (by simp) hm1.1; have hx3 : w1.cell? ⟨w.heap.size, 3, none⟩ = some (.slice a2 ms.length c2) := (hm1.2.1 (w.heap.size, 3) (by simp) (fun h => by have := HID.out _ h; simp at this)).trans (by simp [ad, go_sem]); clear hm1) | (go_at_call 24; refine (H2.out _ ((HSH.out _ (Below.refl _ _)).marked HM1.out HQD.out) ((HIR.out _ (Below.refl _ _)).marked HM1.out (fun p hp hpd => HDR.out p hpd hp))).mono ?_; rintro e w2 ⟨rfl, hm2⟩))
  go_ret
  refine ⟨ret_int (by omega), ?_⟩
  refine Marked.append HM1.out ?_ HID.out HDR.out
  rw [← HND.out]
  exact hm2
set_option maxHeartbeats 1000000 in
set_option maxRecDepth 100000 in
theorem p_heldNet (Q : Pl → Prop) (k op : Int) (ds : List Stil.Dev) (a1 : Option Addr) (c1 : Nat) (a2 : Option Addr) (c2 : Nat) (ms : List MNet) (kk : Int) (w : World) (m : MNet) (he : m = ⟨k, op, ds, .slice a1 ds.length c1, .slice a2 ms.length c2, ms⟩)
    (hsh : MSh Q w m) (hi : HeldAt w m.inner kk) (hlt : ∀ p ∈ m.inner, p.1 < w.heap.size) (hk0 : 0 ≤ kk) (hkl : kk + m.inner.length ≤ 4611686018427387904) :
    Calls Tryd.prog 10 #[.agg #[.int .i64 k, .int .i64 op, .slice a1 ds.length c1, .slice a2 ms.length c2], .int .i64 kk] w fun e w' => e = .returned (.int .i64 (kk + m.inner.length)) ∧ Below w.heap.size w w' := by
  rw [MNet.inner_eq] at hi hlt hkl ⊢
  have hsD := ((MSh_iff Q w m).1 hsh).1
  simp only [List.length_append] at hkl
  have eav : m.av = .slice a1 ds.length c1 := by rw [he]
  have ekv : m.kv = .slice a2 ms.length c2 := by rw [he]
  have H1 : Hid (∀ W, Below w.heap.size w W → Calls Tryd.prog 25 #[.agg #[.int .i64 op, .slice a1 ds.length c1], .int .i64 kk] W fun e w' => e = .returned (.int .i64 (kk + m.dps.length)) ∧ Below W.heap.size W w') := by
    intro W hW
    rw [← eav]
    exact p_heldElem op m.av m.dps kk W hsD (hi.left.below hW (fun p hp => hlt p (List.mem_append_left _ hp))) (fun p hp => Nat.lt_of_lt_of_le (hlt p (List.mem_append_left _ hp)) hW.size) hk0 (by omega)
  have H2 : Hid (∀ W, Below w.heap.size w W → Calls Tryd.prog 26 #[.slice a2 ms.length c2, .int .i64 (kk + m.dps.length)] W fun e w' => e = .returned (.int .i64 (kk + m.dps.length + m.rps.length)) ∧ Below W.heap.size W w') := by
    intro W hW
    rw [← ekv]
    refine (p_heldNets Q m (kk + m.dps.length) W (hsh.below hW) (hi.right.below hW (fun p hp => hlt p (List.mem_append_right _ hp))) (by omega) (by omega)).mono ?_
    rintro e w' ⟨rfl, rfl⟩
    exact ⟨rfl, Below.refl _ _⟩
  obtain ⟨nD, hnD⟩ : ∃ n, n = m.dps.length := ⟨_, rfl⟩
  obtain ⟨nR, hnR⟩ : ∃ n, n = m.rps.length := ⟨_, rfl⟩
  have HLE : Hid ((m.dps ++ m.rps).length = nD + nR) := by show _ = _; rw [List.length_append, hnD, hnR]
  rw [← hnD] at H1 H2
  rw [← hnR] at H2
  rw [HLE.out]
  have hp1 : ¬ (kk + (nD : Int) < 0) := by omega
  have hp2 : ¬ (kk + (nD : Int) + nR < 0) := by omega
  clear hnD hnR HLE hsh hi hlt hsD eav ekv he hkl
  go_enter Tryd.func10, Tryd.ntmps10
  go_wp2_with (first | (go_at_call 25; refine (H1.out _ (by (repeat (first | with_reducible exact Below.refl _ _ | with_reducible assumption | with_reducible refine bl_set (by first | exact Nat.le_refl _ | (simp; done) | (simp; omega) | omega) ?_ _ | with_reducible refine bl_alloc ?_ _ | with_reducible refine bl_drewN ?_ _ | with_reducible refine bl_drew ?_ | with_reducible refine bl_grow ?_ _ _ | with_reducible refine bl_call ?_ (by assumption))))).mono ?_; rintro e w1 ⟨rfl, hb1⟩; obtain ⟨hc, hf⟩ := bcell hb1; have hz1 : w.heap.size < w1.heap.size := Nat.lt_of_lt_of_le (by simp) hb1.size) | (go_at_call 26; refine (H2.out _ (by (repeat (first | with_reducible exact Below.refl _ _ | with_reducible assumption | with_reducible refine bl_set (by first | exact Nat.le_refl _ | (simp; done) | (simp; omega) | omega) ?_ _ | with_reducible refine bl_alloc ?_ _ | with_reducible refine bl_drewN ?_ _ | with_reducible refine bl_drew ?_ | with_reducible refine bl_grow ?_ _ _ | with_reducible refine bl_call ?_ (by assumption))))).mono ?_; rintro e w2 ⟨rfl, hb2⟩))
  go_ret
  exact ⟨ret_int (by omega), by (repeat (first | with_reducible exact Below.refl _ _ | with_reducible assumption | with_reducible refine bl_set (by first | exact Nat.le_refl _ | (simp; done) | (simp; omega) | omega) ?_ _ | with_reducible refine bl_alloc ?_ _ | with_reducible refine bl_drewN ?_ _ | with_reducible refine bl_drew ?_ | with_reducible refine bl_grow ?_ _ _ | with_reducible refine bl_call ?_ (by assumption)))⟩
end Go.Proofs.YthhfnncehfkbfaaDoor
