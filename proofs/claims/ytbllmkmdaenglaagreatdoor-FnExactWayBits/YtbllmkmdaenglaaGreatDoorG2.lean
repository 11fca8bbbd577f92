/- V5, V6, V7: texts put together. -/
import Derived.Test.YtbllmkmdaenglaaGreatDoorGy
import Derived.Test.YtbllmkmdaenglaaGreatDoorGx
import Derived.Lib.QuietBelow
import Derived.Test.YtbllmkmdaenglaaGreatDoorGw
import Derived.Test.YtbllmkmdaenglaaGreatDoorGO
import Derived.Deep.RegionHeld3
/- The program's chapter 7: bits of nets. -/
namespace Go.Proofs.YtbllmkmdaenglaaGreatDoor
open Go.RowKit Go.Sort Go.BigFrame
theorem NetsT.tail {w : World} {b o c : Nat} {x : Stil.Net} {r : List Stil.Net} (h : NetsT w (.slice (some ⟨b, o, none⟩) (r.length + 1) c) (x :: r)) : NetsT w (.slice (some ⟨b, o + 4, none⟩) r.length (c - 1)) r := by
  obtain ⟨a', c2, e, hc, hx⟩ := h
  simp only [List.length_cons, Value.slice.injEq, true_and] at e
  obtain ⟨rfl, rfl⟩ := e
  have hc1 := hc.1
  rw [List.length_cons] at hc1
  refine ⟨_, c - 1, rfl, ⟨by omega, fun h => by cases h⟩, fun i hi => ?_⟩
  obtain ⟨b', o', h1, h2, h3, h4⟩ := hx (i + 1) (by simp only [List.length_cons]; omega)
  simp only [Option.some.injEq, Addr.mk.injEq, and_true] at h1
  obtain ⟨rfl, rfl⟩ := h1
  refine ⟨b, o + 4, rfl, h2, h3, ?_⟩
  rw [List.getElem_cons_succ] at h4
  have e2 : o + (i + 1) * 4 = o + 4 + i * 4 := by omega
  rw [← e2]
  exact h4
set_option maxHeartbeats 2000000 in
set_option maxRecDepth 100000 in
theorem i_takeBits (x : Stil.Net) (hs : Stil.netSize x ≤ 1000000) (ih : NeedN 61 x (Stil.beginBits x)) : NeedN 83 x (Stil.takeBits x) := by
  intro av nv w hav hnv
  have IH : Hid (∀ W, Below w.heap.size w W → Calls Tryz.prog 61 #[.agg #[.int .i64 x.kind, .int .i64 x.one.op, av, nv]] W fun e w' => e = .returned (.int .i64 (Stil.beginBits x)) ∧ Below W.heap.size W w') := fun W h => ih av nv W (hav.below h) (hnv.below h)
  have hle := Stil.beginBits_le x
  have HT : Hid (Stil.takeBits x = if x.kind = 1 then 1 else 1 + Stil.beginBits x) := rfl
  obtain ⟨bx, hbx⟩ : ∃ bx, bx = Stil.beginBits x := ⟨_, rfl⟩
  obtain ⟨T, hT⟩ : ∃ T, T = Stil.takeBits x := ⟨_, rfl⟩
  rw [← hbx] at IH hle HT
  rw [← hT] at HT ⊢
  obtain ⟨k, hk⟩ : ∃ k, k = x.kind := ⟨_, rfl⟩
  rw [← hk] at IH HT ⊢
  obtain ⟨p0, r0, rfl, hz0⟩ := hav.shape
  obtain ⟨p1, r1, rfl, hz1, _⟩ := hnv.shape
  clear ih hz0 hz1 hbx hT hk hav hnv
  by_cases h1 : k = 1
  · subst h1
    have HT2 : Hid (T = 1) := by show _ = _; rw [HT.out]; rfl
    clear HT
    go_enter Tryz.func83, Tryz.ntmps83
    go_wp2
    go_ret
    exact ⟨ret_int (by rw [HT2.out]; rfl), by (repeat (first | with_reducible exact Below.refl _ _ | with_reducible assumption | with_reducible refine bl_set (by first | exact Nat.le_refl _ | (simp; done) | (simp; omega) | omega) ?_ _ | with_reducible refine bl_alloc ?_ _ | with_reducible refine bl_drewN ?_ _ | with_reducible refine bl_drew ?_ | with_reducible refine bl_grow ?_ _ _ | with_reducible refine bl_call ?_ (by assumption)))⟩
  · have HT2 : Hid (T = 1 + bx) := by show _ = _; rw [HT.out, if_neg h1]
    have hkb : (k == 1) = false := by rw [beq_eq_false_iff_ne]; exact h1
    clear HT
    go_enter Tryz.func83, Tryz.ntmps83
    go_wp2_with (go_at_call 61; refine (IH.out _ (by (repeat (first | with_reducible exact Below.refl _ _ | with_reducible assumption | with_reducible refine bl_set (by first | exact Nat.le_refl _ | (simp; done) | (simp; omega) | omega) ?_ _ | with_reducible refine bl_alloc ?_ _ | with_reducible refine bl_drewN ?_ _ | with_reducible refine bl_drew ?_ | with_reducible refine bl_grow ?_ _ _ | with_reducible refine bl_call ?_ (by assumption))))).mono ?_; rintro e w1 ⟨rfl, hb1⟩)
    go_ret
    exact ⟨ret_int (by rw [HT2.out]; go_num), by (repeat (first | with_reducible exact Below.refl _ _ | with_reducible assumption | with_reducible refine bl_set (by first | exact Nat.le_refl _ | (simp; done) | (simp; omega) | omega) ?_ _ | with_reducible refine bl_alloc ?_ _ | with_reducible refine bl_drewN ?_ _ | with_reducible refine bl_drew ?_ | with_reducible refine bl_grow ?_ _ _ | with_reducible refine bl_call ?_ (by assumption)))⟩
set_option maxHeartbeats 2000000 in
set_option maxRecDepth 100000 in
theorem i_beginBits (n : Stil.Net) : Stil.fullNet n → Stil.netSize n ≤ 1000000 → NeedN 61 n (Stil.beginBits n) := by
  induction n using Stil.net_ind with
  | h k e kids ih =>
    intro hfu hs av nv w hav hnv
    simp only at hav hnv
    obtain ⟨hne, hfk⟩ := (Stil.fullNet_eq _ _ _).1 hfu
    rw [Stil.netSize_kids] at hs
    simp only at hs
    have hks : ∀ x ∈ kids, Stil.netSize x ≤ 1000000 := fun x hx => by have : Stil.netSize x ≤ Stil.sizes kids := Stil.mem_le_sum Stil.netSize kids x hx; omega
    have hkl : kids.length ≤ 999999 := by have := Stil.len_sizes kids; omega
    obtain ⟨p0, r0, rfl, hz0⟩ := hav.shape
    by_cases h1 : k = 1
    · subst h1
      rw [Stil.begin_one]
      obtain ⟨p1, r1, rfl, hz1, _⟩ := hnv.shape
      clear hz0 hz1 ih hks hkl hfu hne hfk hs hav hnv
      go_enter Tryz.func61, Tryz.ntmps61
      go_wp2
      go_ret
      exact ⟨rfl, by (repeat (first | with_reducible exact Below.refl _ _ | with_reducible assumption | with_reducible refine bl_set (by first | exact Nat.le_refl _ | (simp; done) | (simp; omega) | omega) ?_ _ | with_reducible refine bl_alloc ?_ _ | with_reducible refine bl_drewN ?_ _ | with_reducible refine bl_drew ?_ | with_reducible refine bl_grow ?_ _ _ | with_reducible refine bl_call ?_ (by assumption)))⟩
    · obtain ⟨x, r, rfl⟩ := List.exists_cons_of_ne_nil (hne h1)
      rw [Stil.begin_kids e x r h1]
      have hnv0 := hnv
      obtain ⟨p1, r1, rfl, hcap, hpc⟩ := hnv.shape
      obtain ⟨b, o, rfl, hbl, hn⟩ := hpc 0 (by simp)
      simp only [List.getElem_cons_zero, Nat.zero_mul, Nat.add_zero] at hn
      have hcp1 : r.length + 1 ≤ r1 := by have := hcap.1; simp only [List.length_cons] at this; exact this
      have hat : NetsT w (.slice (if r1 = 1 then some ⟨b, o, none⟩ else some ⟨b, o + 4, none⟩) r.length (r1 - 1)) r := by
        by_cases h2 : r1 = 1
        · rw [if_pos h2]
          have hr0 : r = [] := List.length_eq_zero_iff.1 (by omega)
          subst hr0
          exact ⟨_, _, rfl, ⟨Nat.zero_le _, fun h => by cases h⟩, fun i hi => by simp at hi⟩
        · rw [if_neg h2]
          exact NetsT.tail (by simpa only [List.length_cons] using hnv0)
      have hE : ∀ args w, (callFunc 83 args).run Tryz.prog w = .ok (.enter 83 args) w := enters_of Tryz.func83 (by kernel_rfl) rfl
      have hrl : r.length ≤ 999999 := by simp only [List.length_cons] at hkl; omega
      have HMO : Hid (∀ W, Below w.heap.size w W → Calls Tryz.prog 82 #[.slice (if r1 = 1 then some ⟨b, o, none⟩ else some ⟨b, o + 4, none⟩) r.length (r1 - 1), .int .i64 (Stil.beginBits x), .func (.func 83) #[] #[]] W fun e w' => e = .returned (.int .i64 (Stil.mostOf (Stil.beginBits x) (r.map Stil.takeBits))) ∧ Below W.heap.size W w') := by
        intro W h
        refine i_mostN r Stil.takeBits 83 hE (fun y hy => ?_) _ _ W (hat.below h) hrl
        have hy2 : y ∈ x :: r := List.mem_cons_of_mem _ hy
        exact i_takeBits y (hks y hy2) (ih y hy2 (hfk y hy2) (hks y hy2))
      obtain ⟨x0, x1, av', nv', x2, x3, hav', hnv'⟩ := hn.open
      have HZ : Hid (∀ W, Below w.heap.size w W → Calls Tryz.prog 61 #[.agg #[.int .i64 x.kind, .int .i64 x.one.op, av', nv']] W fun e w' => e = .returned (.int .i64 (Stil.beginBits x)) ∧ Below W.heap.size W w') := fun W h => ih x (by simp) (hfk x (by simp)) (hks x (by simp)) av' nv' W (hav'.below h) (hnv'.below h)
      obtain ⟨bz, hbz⟩ : ∃ bz, bz = Stil.beginBits x := ⟨_, rfl⟩
      rw [← hbz] at HMO HZ ⊢
      obtain ⟨R, hR⟩ : ∃ R, R = Stil.mostOf bz (r.map Stil.takeBits) := ⟨_, rfl⟩
      rw [← hR] at HMO ⊢
      simp only [List.length_cons]
      obtain ⟨m, hm⟩ : ∃ m, m = r.length := ⟨_, rfl⟩
      have hcp : m + 1 ≤ r1 := by have := hcap.1; simp only [List.length_cons] at this; omega
      rw [← hm] at HMO hrl ⊢
      obtain ⟨q0, s0, rfl, hz0'⟩ := hav'.shape
      obtain ⟨q1, s1, rfl, hz1', _⟩ := hnv'.shape
      have hkb : (k == 1) = false := by rw [beq_eq_false_iff_ne]; exact h1
      clear hz0 hz0' hz1' hat hnv0 hpc hn hE hbz hR ih hks hkl hm hcap hav hnv hav' hnv' hfu hne hfk hs hcp1
      go_enter Tryz.func61, Tryz.ntmps61
      go_wp2
      obtain ⟨W, hW⟩ : ∃ W, W = w.alloc (.cells #[.int .i64 k, .int .i64 e.op, .slice p0 e.args.length r0, .slice (some ⟨b, o, none⟩) (m + 1) r1] 49) := ⟨_, rfl⟩
      rw [← hW]
      have hbW : Below w.heap.size w W := by rw [hW]; exact below_alloc _ _
      have y3 : W.cell? ⟨w.heap.size, 3, none⟩ = some (.slice (some ⟨b, o, none⟩) (m + 1) r1) := by rw [hW]; simp [go_sem]
      have k0 := cell_regrown ((hbW.cell (p := ⟨b, o, none⟩) hbl).trans x0)
      have k1 := cell_regrown ((hbW.cell (p := ⟨b, o + 1, none⟩) hbl).trans x1)
      have k2 := cell_regrown ((hbW.cell (p := ⟨b, o + 2, none⟩) hbl).trans x2)
      have k3 := cell_regrown ((hbW.cell (p := ⟨b, o + 3, none⟩) hbl).trans x3)
      have k6 := cell_regrown y3
      have hj1 : (1 : Int) ≤ (m : Int) + 1 := by omega
      have hj2 : (m : Int) + 1 ≤ (r1 : Int) := by omega
      have hj3 : (0 : Int) < (m : Int) + 1 := by omega
      clear hW y3 x0 x1 x2 x3
      refine wp_region_quiet_below (by kernel_rfl) (by kernel_rfl) ?_
      repeat (go_big_quiet_step ((first | exact Calls.regrown_of (HZ.out _ (bl_grow hbW _ _)) | exact Calls.regrown_of (HMO.out _ (bl_grow hbW _ _)))))
      refine wpQuiet_nil ?_
      intro _ hw'
      obtain ⟨⟨dq, osq⟩, hw''⟩ := hw'
      subst hw''
      go_wp2
      all_goals go_ret
      all_goals exact ⟨rfl, bl_grow hbW _ _⟩
end Go.Proofs.YtbllmkmdaenglaaGreatDoor
/- The program's chapter 7: bits of arms. -/
namespace Go.Proofs.YtbllmkmdaenglaaGreatDoor
open Go.RowKit Go.Sort Go.BigFrame
theorem netsT_nil (w : World) : NetsT w (.slice none 0 0) [] := ⟨none, 0, rfl, ⟨Nat.le_refl _, fun _ => rfl⟩, fun i hi => by simp at hi⟩
theorem netsT_one {W : World} {n : Stil.Net} {av nv : Value} (hav : DevsT W av n.one.args) (hnv : NetsT W nv n.kids) : NetsT (W.alloc (.cells #[.int .i64 n.kind, .int .i64 n.one.op, av, nv] 49)) (.slice (some ⟨W.heap.size, 0, none⟩) 1 1) [n] := by
  have hb := below_alloc W (.cells #[.int .i64 n.kind, .int .i64 n.one.op, av, nv] 49)
  refine ⟨_, 1, rfl, ⟨Nat.le_refl _, fun h => by cases h⟩, fun i hi => ?_⟩
  have hi0 : i = 0 := by simp at hi; exact hi
  subst hi0
  refine ⟨W.heap.size, 0, rfl, trivial, by simp, ?_⟩
  rw [List.getElem_cons_zero, NetIn_iff]
  exact ⟨by simp [go_sem], by simp [go_sem], ⟨av, by simp [go_sem], hav.below hb⟩, ⟨nv, by simp [go_sem], hnv.below hb⟩⟩
set_option maxHeartbeats 2000000 in
set_option maxRecDepth 100000 in
theorem i_behind (n : Stil.Net) (av nv : Value) (w : World) (hav : DevsT w av n.one.args) (hnv : NetsT w nv n.kids) (hf : Stil.netFits n) :
    Calls Tryz.prog 85 #[.agg #[.int .i64 n.kind, .int .i64 n.one.op, av, nv]] w fun e w' => ∃ a c, e = .returned (.slice a (Stil.behindOf n).length c) ∧ NetsT w' (.slice a (Stil.behindOf n).length c) (Stil.behindOf n) ∧ Below w.heap.size w w' := by
  have HN : Hid (∀ W, Below w.heap.size w W → Calls Tryz.prog 53 #[.agg #[.int .i64 n.kind, .int .i64 n.one.op, av, nv]] W fun e w' => e = .returned (.bool (Stil.netNone n)) ∧ Below W.heap.size W w') := fun W h => i_isNone n av nv W (hav.below h).at (hnv.below h).at hf
  have HAV : Hid (∀ W, Below w.heap.size w W → DevsT W av n.one.args ∧ NetsT W nv n.kids) := fun W h => ⟨hav.below h, hnv.below h⟩
  obtain ⟨p0, r0, rfl, _⟩ := hav.shape
  obtain ⟨p1, r1, rfl, _, _⟩ := hnv.shape
  have HB : Hid (Stil.behindOf n = if Stil.netNone n then [] else if n.kind = 2 then n.kids else [n]) := rfl
  obtain ⟨t, ht⟩ : ∃ t, t = Stil.netNone n := ⟨_, rfl⟩
  rw [← ht] at HN HB
  clear hav hnv ht
  cases t with
  | true =>
    have e : Stil.behindOf n = [] := HB.out
    rw [e]
    clear e HB
    go_enter Tryz.func85, Tryz.ntmps85
    go_wp2_with (go_at_call 53; refine (HN.out _ (by (repeat (first | with_reducible exact Below.refl _ _ | with_reducible assumption | with_reducible refine bl_set (by first | exact Nat.le_refl _ | (simp; done) | (simp; omega) | omega) ?_ _ | with_reducible refine bl_alloc ?_ _ | with_reducible refine bl_drewN ?_ _ | with_reducible refine bl_drew ?_ | with_reducible refine bl_grow ?_ _ _ | with_reducible refine bl_call ?_ (by assumption))))).mono ?_; rintro e w1 ⟨rfl, hb1⟩)
    go_ret
    exact ⟨none, 0, rfl, netsT_nil _, by (repeat (first | with_reducible exact Below.refl _ _ | with_reducible assumption | with_reducible refine bl_set (by first | exact Nat.le_refl _ | (simp; done) | (simp; omega) | omega) ?_ _ | with_reducible refine bl_alloc ?_ _ | with_reducible refine bl_drewN ?_ _ | with_reducible refine bl_drew ?_ | with_reducible refine bl_grow ?_ _ _ | with_reducible refine bl_call ?_ (by assumption)))⟩
  | false =>
    by_cases h2 : n.kind = 2
    · have e : Stil.behindOf n = n.kids := by rw [HB.out]; simp [h2]
      rw [e]
      rw [h2] at HN ⊢
      clear e HB
      go_enter Tryz.func85, Tryz.ntmps85
      go_wp2_with (go_at_call 53; refine (HN.out _ (by (repeat (first | with_reducible exact Below.refl _ _ | with_reducible assumption | with_reducible refine bl_set (by first | exact Nat.le_refl _ | (simp; done) | (simp; omega) | omega) ?_ _ | with_reducible refine bl_alloc ?_ _ | with_reducible refine bl_drewN ?_ _ | with_reducible refine bl_drew ?_ | with_reducible refine bl_grow ?_ _ _ | with_reducible refine bl_call ?_ (by assumption))))).mono ?_; rintro e w1 ⟨rfl, hb1⟩; obtain ⟨hc1, hf1⟩ := bcell hb1; have hz1 : w.heap.size < w1.heap.size := Nat.lt_of_lt_of_le (by simp) hb1.size; have y0 : w1.cell? ⟨w.heap.size, 0, none⟩ = some (.int .i64 2) := (by rw [hc1 _ _ (by simp)]; simp [go_sem]); have y3 : w1.cell? ⟨w.heap.size, 3, none⟩ = some (.slice p1 n.kids.length r1) := (by rw [hc1 _ _ (by simp)]; simp [go_sem]); clear hc1 hf1)
      go_ret
      have hbw : Below w.heap.size w w1 := by (repeat (first | with_reducible exact Below.refl _ _ | with_reducible assumption | with_reducible refine bl_set (by first | exact Nat.le_refl _ | (simp; done) | (simp; omega) | omega) ?_ _ | with_reducible refine bl_alloc ?_ _ | with_reducible refine bl_drewN ?_ _ | with_reducible refine bl_drew ?_ | with_reducible refine bl_grow ?_ _ _ | with_reducible refine bl_call ?_ (by assumption)))
      exact ⟨p1, r1, rfl, (HAV.out _ hbw).2, hbw⟩
    · have e : Stil.behindOf n = [n] := by rw [HB.out]; simp [h2]
      rw [e]
      have hkb : (n.kind == 2) = false := by rw [beq_eq_false_iff_ne]; exact h2
      clear e HB
      go_enter Tryz.func85, Tryz.ntmps85
      go_wp2_with (go_at_call 53; refine (HN.out _ (by (repeat (first | with_reducible exact Below.refl _ _ | with_reducible assumption | with_reducible refine bl_set (by first | exact Nat.le_refl _ | (simp; done) | (simp; omega) | omega) ?_ _ | with_reducible refine bl_alloc ?_ _ | with_reducible refine bl_drewN ?_ _ | with_reducible refine bl_drew ?_ | with_reducible refine bl_grow ?_ _ _ | with_reducible refine bl_call ?_ (by assumption))))).mono ?_; rintro e w1 ⟨rfl, hb1⟩; obtain ⟨hc1, hf1⟩ := bcell hb1; have hz1 : w.heap.size < w1.heap.size := Nat.lt_of_lt_of_le (by simp) hb1.size; have y0 : w1.cell? ⟨w.heap.size, 0, none⟩ = some (.int .i64 n.kind) := (by rw [hc1 _ _ (by simp)]; simp [go_sem]); have y1 : w1.cell? ⟨w.heap.size, 1, none⟩ = some (.int .i64 n.one.op) := (by rw [hc1 _ _ (by simp)]; simp [go_sem]); have y2 : w1.cell? ⟨w.heap.size, 2, none⟩ = some (.slice p0 n.one.args.length r0) := (by rw [hc1 _ _ (by simp)]; simp [go_sem]); have y3 : w1.cell? ⟨w.heap.size, 3, none⟩ = some (.slice p1 n.kids.length r1) := (by rw [hc1 _ _ (by simp)]; simp [go_sem]); clear hc1 hf1)
      go_ret
      have hbw : Below w.heap.size w w1 := by (repeat (first | with_reducible exact Below.refl _ _ | with_reducible assumption | with_reducible refine bl_set (by first | exact Nat.le_refl _ | (simp; done) | (simp; omega) | omega) ?_ _ | with_reducible refine bl_alloc ?_ _ | with_reducible refine bl_drewN ?_ _ | with_reducible refine bl_drew ?_ | with_reducible refine bl_grow ?_ _ _ | with_reducible refine bl_call ?_ (by assumption)))
      exact ⟨_, _, rfl, netsT_one (HAV.out _ hbw).1 (HAV.out _ hbw).2, by (repeat (first | with_reducible exact Below.refl _ _ | with_reducible assumption | with_reducible refine bl_set (by first | exact Nat.le_refl _ | (simp; done) | (simp; omega) | omega) ?_ _ | with_reducible refine bl_alloc ?_ _ | with_reducible refine bl_drewN ?_ _ | with_reducible refine bl_drew ?_ | with_reducible refine bl_grow ?_ _ _ | with_reducible refine bl_call ?_ (by assumption)))⟩
set_option maxHeartbeats 2000000 in
set_option maxRecDepth 100000 in
theorem i_tail1 (x : Stil.Arm) (hs : Stil.armSize x ≤ 1000000) (hf : Stil.armFits x) (hfi : Stil.armFine x) (ih : NeedA 62 x (Stil.tailBits x)) : NeedA 84 x (Stil.kidNeed x.net (Stil.tailBits x)) := by
  intro av nv cv kv w hav hnv hcv hkv
  have hfn : Stil.netFits x.net ∧ Stil.fineOr x.net ∧ Stil.nsz x.net ≤ 999999 := by
    obtain ⟨n, c, k⟩ := x
    rw [Stil.armSize_nsz] at hs
    exact ⟨((Stil.armFits_eq _ _ _).1 hf).1, ((Stil.armFine_eq _ _ _).1 hfi).1, by simp only; omega⟩
  have hE : ∀ args w, (callFunc 83 args).run Tryz.prog w = .ok (.enter 83 args) w := enters_of Tryz.func83 (by kernel_rfl) rfl
  have HT : Hid (∀ W, Below w.heap.size w W → Calls Tryz.prog 62 #[.agg #[.int .i64 x.net.kind, .int .i64 x.net.one.op, av, nv, cv, kv]] W fun e w' => e = .returned (.int .i64 (Stil.tailBits x)) ∧ Below W.heap.size W w') := fun W h => ih av nv cv kv W (hav.below h) (hnv.below h) (hcv.below h) (hkv.below h)
  have HB : Hid (∀ W, Below w.heap.size w W → Calls Tryz.prog 85 #[.agg #[.int .i64 x.net.kind, .int .i64 x.net.one.op, av, nv]] W fun e w' => ∃ a c, e = .returned (.slice a (Stil.behindOf x.net).length c) ∧ NetsT w' (.slice a (Stil.behindOf x.net).length c) (Stil.behindOf x.net) ∧ Below W.heap.size W w') := fun W h => i_behind x.net av nv W (hav.below h) (hnv.below h) hfn.1
  have hbl : (Stil.behindOf x.net).length ≤ 999999 := by
    unfold Stil.behindOf
    split
    · simp
    · rename_i h0
      have e : Stil.nsz x.net = Stil.netSize x.net := if_neg h0
      split
      · have h1 := Stil.len_sizes x.net.kids
        have h2 := Stil.netSize_kids x.net
        have h3 := hfn.2.2
        omega
      · simp
  have HM : Hid (∀ W v, NetsT W v (Stil.behindOf x.net) → Calls Tryz.prog 82 #[v, .int .i64 (Stil.tailBits x), .func (.func 83) #[] #[]] W fun e w' => e = .returned (.int .i64 (Stil.kidNeed x.net (Stil.tailBits x))) ∧ Below W.heap.size W w') := by
    intro W v h
    refine i_mostN (Stil.behindOf x.net) Stil.takeBits 83 hE (fun y hy => ?_) _ v W h hbl
    have hsy : Stil.netSize y ≤ 1000000 := by have := Stil.behind_le x.net y hy; have := hfn.2.2; omega
    exact i_takeBits y hsy (i_beginBits y (Stil.behind_full hfn.2.1 y hy) hsy)
  obtain ⟨B, hB⟩ : ∃ B, B = Stil.behindOf x.net := ⟨_, rfl⟩
  obtain ⟨tb, htb⟩ : ∃ tb, tb = Stil.tailBits x := ⟨_, rfl⟩
  obtain ⟨R, hR⟩ : ∃ R, R = Stil.kidNeed x.net (Stil.tailBits x) := ⟨_, rfl⟩
  rw [← hR] at HM ⊢
  rw [← hB] at HB HM
  rw [← htb] at HT HM
  obtain ⟨p0, r0, rfl, _⟩ := hav.shape
  obtain ⟨p1, r1, rfl, _, _⟩ := hnv.shape
  obtain ⟨p2, r2, rfl, _⟩ := hcv.shape
  obtain ⟨p3, r3, rfl, _, _⟩ := hkv.shape
  clear ih hB htb hR hE hfn hbl hav hnv hcv hkv hf hfi
  go_enter Tryz.func84, Tryz.ntmps84
  go_upto_region 1 with fail
  obtain ⟨W, hW⟩ : ∃ W, W = w.alloc (.cells #[.int .i64 x.net.kind, .int .i64 x.net.one.op, .slice p0 x.net.one.args.length r0, .slice p1 x.net.kids.length r1, .slice p2 x.coils.length r2, .slice p3 x.kids.length r3] 52) := ⟨_, rfl⟩
  rw [← hW]
  have hbW : Below w.heap.size w W := by rw [hW]; exact below_alloc _ _
  have hlW : w.heap.size < W.heap.size := by rw [hW]; simp
  obtain ⟨_, ⟨y0, y1, y2, y3, y4, y5⟩, _⟩ : B6 W w.heap.size (.int .i64 x.net.kind) (.int .i64 x.net.one.op) (.slice p0 x.net.one.args.length r0) (.slice p1 x.net.kids.length r1) (.slice p2 x.coils.length r2) (.slice p3 x.kids.length r3) := by rw [hW]; exact B6.new _ _ _ _ _ _ _ _
  have HSW : Hid (∀ V, Below W.heap.size W V → (V.cell? ⟨w.heap.size, 0, none⟩ = some (.int .i64 x.net.kind) ∧ V.cell? ⟨w.heap.size, 1, none⟩ = some (.int .i64 x.net.one.op) ∧ V.cell? ⟨w.heap.size, 2, none⟩ = some (.slice p0 x.net.one.args.length r0) ∧ V.cell? ⟨w.heap.size, 3, none⟩ = some (.slice p1 x.net.kids.length r1) ∧ V.cell? ⟨w.heap.size, 4, none⟩ = some (.slice p2 x.coils.length r2) ∧ V.cell? ⟨w.heap.size, 5, none⟩ = some (.slice p3 x.kids.length r3))) := fun V h => ⟨(h.cell (p := ⟨w.heap.size, 0, none⟩) hlW).trans y0, (h.cell (p := ⟨w.heap.size, 1, none⟩) hlW).trans y1, (h.cell (p := ⟨w.heap.size, 2, none⟩) hlW).trans y2, (h.cell (p := ⟨w.heap.size, 3, none⟩) hlW).trans y3, (h.cell (p := ⟨w.heap.size, 4, none⟩) hlW).trans y4, (h.cell (p := ⟨w.heap.size, 5, none⟩) hlW).trans y5⟩
  clear hW
  go_region_held3 (fun W' => (W'.cell? ⟨w.heap.size, 0, none⟩ = some (.int .i64 x.net.kind) ∧ W'.cell? ⟨w.heap.size, 1, none⟩ = some (.int .i64 x.net.one.op) ∧ W'.cell? ⟨w.heap.size, 2, none⟩ = some (.slice p0 x.net.one.args.length r0) ∧ W'.cell? ⟨w.heap.size, 3, none⟩ = some (.slice p1 x.net.kids.length r1) ∧ W'.cell? ⟨w.heap.size, 4, none⟩ = some (.slice p2 x.coils.length r2) ∧ W'.cell? ⟨w.heap.size, 5, none⟩ = some (.slice p3 x.kids.length r3))) (first | with_reducible assumption | with_reducible exact ⟨cellDrew.trans y0, cellDrew.trans y1, cellDrew.trans y2, cellDrew.trans y3, cellDrew.trans y4, cellDrew.trans y5⟩ | skip) (first | (go_at_call 85; refine (HB.out _ (by exact hbW.drew)).mono ?_; rintro e w1 ⟨a1, c1, rfl, hn1, hb1⟩; have hC1 : Below W.heap.size W w1 := bl_call (Below.refl _ _).drew hb1; have HN1 : Hid (∀ V, Below w1.heap.size w1 V → NetsT V (.slice a1 B.length c1) B) := (fun V h => hn1.below h); have hS1 : (w1.cell? ⟨w.heap.size, 0, none⟩ = some (.int .i64 x.net.kind) ∧ w1.cell? ⟨w.heap.size, 1, none⟩ = some (.int .i64 x.net.one.op) ∧ w1.cell? ⟨w.heap.size, 2, none⟩ = some (.slice p0 x.net.one.args.length r0) ∧ w1.cell? ⟨w.heap.size, 3, none⟩ = some (.slice p1 x.net.kids.length r1) ∧ w1.cell? ⟨w.heap.size, 4, none⟩ = some (.slice p2 x.coils.length r2) ∧ w1.cell? ⟨w.heap.size, 5, none⟩ = some (.slice p3 x.kids.length r3)) := HSW.out w1 hC1; clear hn1) | (go_at_call 62; refine (HT.out _ (by exact bl_call hbW hC1)).mono ?_; rintro e w2 ⟨rfl, hb2⟩; have hC2 : Below W.heap.size W w2 := bl_call hC1 hb2; have hS2 : (w2.cell? ⟨w.heap.size, 0, none⟩ = some (.int .i64 x.net.kind) ∧ w2.cell? ⟨w.heap.size, 1, none⟩ = some (.int .i64 x.net.one.op) ∧ w2.cell? ⟨w.heap.size, 2, none⟩ = some (.slice p0 x.net.one.args.length r0) ∧ w2.cell? ⟨w.heap.size, 3, none⟩ = some (.slice p1 x.net.kids.length r1) ∧ w2.cell? ⟨w.heap.size, 4, none⟩ = some (.slice p2 x.coils.length r2) ∧ w2.cell? ⟨w.heap.size, 5, none⟩ = some (.slice p3 x.kids.length r3)) := HSW.out w2 hC2) | (go_at_call 82; refine (HM.out _ _ (HN1.out _ (by first | exact hb2 | exact Below.refl _ _))).mono ?_; rintro e w3 ⟨rfl, hb3⟩; have hC3 : Below W.heap.size W w3 := bl_call hC2 hb3; have hS3 : (w3.cell? ⟨w.heap.size, 0, none⟩ = some (.int .i64 x.net.kind) ∧ w3.cell? ⟨w.heap.size, 1, none⟩ = some (.int .i64 x.net.one.op) ∧ w3.cell? ⟨w.heap.size, 2, none⟩ = some (.slice p0 x.net.one.args.length r0) ∧ w3.cell? ⟨w.heap.size, 3, none⟩ = some (.slice p1 x.net.kids.length r1) ∧ w3.cell? ⟨w.heap.size, 4, none⟩ = some (.slice p2 x.coils.length r2) ∧ w3.cell? ⟨w.heap.size, 5, none⟩ = some (.slice p3 x.kids.length r3)) := HSW.out w3 hC3))
  all_goals
    go_wp2
    go_ret
    exact ⟨rfl, bl_call hbW hC3⟩
set_option maxHeartbeats 2000000 in
set_option maxRecDepth 100000 in
theorem i_tailBits (a : Stil.Arm) : Stil.armSize a ≤ 1000000 → Stil.armFits a → Stil.armFine a → NeedA 62 a (Stil.tailBits a) := by
  induction a using Stil.arm_ind with
  | h n cs kids ih =>
    intro hs hf hfi av nv cv kv w hav hnv hcv hkv
    simp only at hav hnv hcv hkv
    rw [Stil.armSize_nsz] at hs
    obtain ⟨_, _, _, _, hkf⟩ := (Stil.armFits_eq _ _ _).1 hf
    obtain ⟨_, hkfi⟩ := (Stil.armFine_eq _ _ _).1 hfi
    have hks : ∀ x ∈ kids, Stil.armSize x ≤ 1000000 := fun x hx => by have : Stil.armSize x ≤ Stil.ksize kids := Stil.mem_le_sum Stil.armSize kids x hx; omega
    have hkl : kids.length ≤ 999999 := by have := Stil.len_ksize kids; omega
    have hE : ∀ args w, (callFunc 84 args).run Tryz.prog w = .ok (.enter 84 args) w := enters_of Tryz.func84 (by kernel_rfl) rfl
    have HM : Hid (∀ W, Below w.heap.size w W → Calls Tryz.prog 34 #[kv, .int .i64 1, .func (.func 84) #[] #[]] W fun e w' => e = .returned (.int .i64 (Stil.mostOf 1 (kids.map (fun k => Stil.kidNeed k.net (Stil.tailBits k))))) ∧ Below W.heap.size W w') := fun W h => i_mostA kids (fun k => Stil.kidNeed k.net (Stil.tailBits k)) 84 hE (fun x hx => i_tail1 x (hks x hx) (hkf x hx) (hkfi x hx) (ih x hx (hks x hx) (hkf x hx) (hkfi x hx))) 1 kv W (hkv.below h) hkl
    rw [Stil.tailBits_eq]
    obtain ⟨R, hR⟩ : ∃ R, R = Stil.mostOf 1 (kids.map (fun k => Stil.kidNeed k.net (Stil.tailBits k))) := ⟨_, rfl⟩
    rw [← hR] at HM ⊢
    obtain ⟨p0, r0, rfl, _⟩ := hav.shape
    obtain ⟨p1, r1, rfl, _, _⟩ := hnv.shape
    obtain ⟨p2, r2, rfl, _⟩ := hcv.shape
    obtain ⟨p3, r3, rfl, _, _⟩ := hkv.shape
    clear ih hR hE hs hf hfi hkf hkfi hks hkl hav hnv hcv hkv
    go_enter Tryz.func62, Tryz.ntmps62
    go_wp2_with (go_at_call 34; refine (HM.out _ (by (repeat (first | with_reducible exact Below.refl _ _ | with_reducible assumption | with_reducible refine bl_set (by first | exact Nat.le_refl _ | (simp; done) | (simp; omega) | omega) ?_ _ | with_reducible refine bl_alloc ?_ _ | with_reducible refine bl_drewN ?_ _ | with_reducible refine bl_drew ?_ | with_reducible refine bl_grow ?_ _ _ | with_reducible refine bl_call ?_ (by assumption))))).mono ?_; rintro e w1 ⟨rfl, hb1⟩)
    go_ret
    exact ⟨rfl, by (repeat (first | with_reducible exact Below.refl _ _ | with_reducible assumption | with_reducible refine bl_set (by first | exact Nat.le_refl _ | (simp; done) | (simp; omega) | omega) ?_ _ | with_reducible refine bl_alloc ?_ _ | with_reducible refine bl_drewN ?_ _ | with_reducible refine bl_drew ?_ | with_reducible refine bl_grow ?_ _ _ | with_reducible refine bl_call ?_ (by assumption)))⟩
end Go.Proofs.YtbllmkmdaenglaaGreatDoor
/- The program's chapter 7: the bits of a ladder. -/
namespace Go.Proofs.YtbllmkmdaenglaaGreatDoor
open Go.RowKit Go.Sort Go.BigFrame
set_option maxHeartbeats 2000000 in
set_option maxRecDepth 100000 in
theorem i_rungBits (x : Stil.Arm) (hs : Stil.armSize x ≤ 1000000) (hf : Stil.armFits x) (hfi : Stil.armFine x) (hnn : Stil.netNone x.net = false) : NeedA 35 x (Stil.rungBits x) := by
  intro av nv cv kv w hav hnv hcv hkv
  have hfn : Stil.fineOr x.net ∧ Stil.netSize x.net ≤ 1000000 := by
    obtain ⟨n, c, k⟩ := x
    rw [Stil.armSize_nsz] at hs
    have e : Stil.nsz n = Stil.netSize n := if_neg (by rw [show Stil.netNone n = false from hnn]; exact Bool.false_ne_true)
    exact ⟨((Stil.armFine_eq _ _ _).1 hfi).1, by simp only; omega⟩
  have hfu : Stil.fullNet x.net := Stil.full_of _ (hfn.1.resolve_left (by rw [hnn]; exact Bool.false_ne_true)).2.2
  have HT : Hid (∀ W, Below w.heap.size w W → Calls Tryz.prog 62 #[.agg #[.int .i64 x.net.kind, .int .i64 x.net.one.op, av, nv, cv, kv]] W fun e w' => e = .returned (.int .i64 (Stil.tailBits x)) ∧ Below W.heap.size W w') := fun W h => i_tailBits x hs hf hfi av nv cv kv W (hav.below h) (hnv.below h) (hcv.below h) (hkv.below h)
  have HB : Hid (∀ W, Below w.heap.size w W → Calls Tryz.prog 61 #[.agg #[.int .i64 x.net.kind, .int .i64 x.net.one.op, av, nv]] W fun e w' => e = .returned (.int .i64 (Stil.beginBits x.net)) ∧ Below W.heap.size W w') := fun W h => i_beginBits x.net hfu hfn.2 av nv W (hav.below h) (hnv.below h)
  have HR : Hid (Stil.rungBits x = max (Stil.beginBits x.net) (Stil.tailBits x)) := rfl
  rw [HR.out]
  obtain ⟨tb, htb⟩ : ∃ tb, tb = Stil.tailBits x := ⟨_, rfl⟩
  obtain ⟨bb, hbb⟩ : ∃ bb, bb = Stil.beginBits x.net := ⟨_, rfl⟩
  rw [← htb] at HT ⊢
  rw [← hbb] at HB ⊢
  obtain ⟨p0, r0, rfl, _⟩ := hav.shape
  obtain ⟨p1, r1, rfl, _, _⟩ := hnv.shape
  obtain ⟨p2, r2, rfl, _⟩ := hcv.shape
  obtain ⟨p3, r3, rfl, _, _⟩ := hkv.shape
  clear htb hbb hfn hfu hnn hav hnv hcv hkv hf hfi HR
  have hdec : bb < tb ∨ ¬ bb < tb := by omega
  rcases hdec with hlt | hlt
  all_goals
    go_enter Tryz.func35, Tryz.ntmps35
    go_wp2_with fail
    obtain ⟨W, hW⟩ : ∃ W, W = w.alloc (.cells #[.int .i64 x.net.kind, .int .i64 x.net.one.op, .slice p0 x.net.one.args.length r0, .slice p1 x.net.kids.length r1, .slice p2 x.coils.length r2, .slice p3 x.kids.length r3] 52) := ⟨_, rfl⟩
    rw [← hW]
    have hbW : Below w.heap.size w W := by rw [hW]; exact below_alloc _ _
    obtain ⟨_, ⟨y0, y1, y2, y3, y4, y5⟩, _⟩ : B6 W w.heap.size (.int .i64 x.net.kind) (.int .i64 x.net.one.op) (.slice p0 x.net.one.args.length r0) (.slice p1 x.net.kids.length r1) (.slice p2 x.coils.length r2) (.slice p3 x.kids.length r3) := by rw [hW]; exact B6.new _ _ _ _ _ _ _ _
    have k0 := cell_regrown y0
    have k1 := cell_regrown y1
    have k2 := cell_regrown y2
    have k3 := cell_regrown y3
    have k4 := cell_regrown y4
    have k5 := cell_regrown y5
    clear hW y0 y1 y2 y3 y4 y5
    refine wp_region_quiet_below (by kernel_rfl) (by kernel_rfl) ?_
    repeat (go_big_quiet_step ((first | exact Calls.regrown_of (HB.out _ (bl_grow hbW _ _)) | exact Calls.regrown_of (HT.out _ (bl_grow hbW _ _)))))
    refine wpQuiet_nil ?_
    intro _ hw'
    obtain ⟨⟨dq, osq⟩, hw''⟩ := hw'
    subst hw''
    go_wp2
    go_ret
    exact ⟨ret_int (by congr 1; omega), bl_grow hbW _ _⟩
set_option maxHeartbeats 2000000 in
set_option maxRecDepth 100000 in
theorem i_WayBits (l : List Stil.Arm) (kv : Value) (w : World) (hr : RowsAt w) (hg : ErrTypeAt w) (hkv : ArmsAt w kv l) (hl : l.length ≤ 1048576) (hsz : Stil.treeSize l ≤ 1000000000) (hft : ∀ x ∈ l, Stil.armFits x) :
    Calls Tryz.prog 14 #[kv] w fun e w' => e = .returned (.int .i64 (Stil.wayBits l)) ∧ Below w.heap.size w w' := by
  have HC : Hid (∀ W, Below w.heap.size w W → Calls Tryz.prog 9 #[kv] W fun e w' => ArmsRet w' W.heap.size (Stil.normMake l) e ∧ Below W.heap.size W w') := fun W h => i_NormMake l kv W (hr.below h) (hg.below h) (hkv.below h) hl hsz hft
  obtain ⟨hLF, hLS, hLL⟩ := Stil.normMake_fits hft
  have hLN := Stil.normMake_right l
  have hR : Hid (Stil.wayBits l = Stil.mostOf 0 ((Stil.normMake l).map Stil.rungBits)) := rfl
  obtain ⟨L, hL⟩ : ∃ L, L = Stil.normMake l := ⟨_, rfl⟩
  rw [← hL] at HC hLF hLS hLL hR hLN
  have hE : ∀ args w, (callFunc 35 args).run Tryz.prog w = .ok (.enter 35 args) w := enters_of Tryz.func35 (by kernel_rfl) rfl
  have HM : Hid (∀ W v, ArmsT W v L → Calls Tryz.prog 34 #[v, .int .i64 0, .func (.func 35) #[] #[]] W fun e w' => e = .returned (.int .i64 (Stil.mostOf 0 (L.map Stil.rungBits))) ∧ Below W.heap.size W w') := fun W v h => i_mostA L Stil.rungBits 35 hE (fun x hx => i_rungBits x (by have := Stil.arm_le_tree hx; omega) (hLF x hx) (hLN x hx).1 (hLN x hx).2) 0 v W h (by omega)
  rw [hR.out]
  obtain ⟨R, hRR⟩ : ∃ R, R = Stil.mostOf 0 (L.map Stil.rungBits) := ⟨_, rfl⟩
  rw [← hRR] at HM ⊢
  obtain ⟨p0, r0, rfl, hz⟩ := hkv
  clear hz hr hg hft hLF hLS hLL hR hL hE hRR hLN
  go_enter Tryz.func14, Tryz.ntmps14
  go_wp2_with (first | (go_at_call 9; refine (HC.out _ (by (repeat (first | with_reducible exact Below.refl _ _ | with_reducible assumption | with_reducible refine bl_set (by first | exact Nat.le_refl _ | (simp; done) | (simp; omega) | omega) ?_ _ | with_reducible refine bl_alloc ?_ _ | with_reducible refine bl_drewN ?_ _ | with_reducible refine bl_drew ?_ | with_reducible refine bl_grow ?_ _ _ | with_reducible refine bl_call ?_ (by assumption))))).mono ?_; rintro e w1 ⟨⟨a, c, ms, rfl, hm, hrw⟩, hb1⟩; have hat : ArmsT w1 (.slice a ms.length c) L := (by have h := (AOk.T _ (rowArm_own hrw).1).2.2.2; rw [MArm.arm_eq] at h; rw [← hm]; exact h); have HAT : Hid (ArmsT w1 (.slice a ms.length c) L) := hat; clear hat hrw hm) | (go_at_call 34; refine (HM.out _ _ HAT.out).mono ?_; rintro e w2 ⟨rfl, hb2⟩))
  go_ret
  exact ⟨rfl, by (repeat (first | with_reducible exact Below.refl _ _ | with_reducible assumption | with_reducible refine bl_set (by first | exact Nat.le_refl _ | (simp; done) | (simp; omega) | omega) ?_ _ | with_reducible refine bl_alloc ?_ _ | with_reducible refine bl_drewN ?_ _ | with_reducible refine bl_drew ?_ | with_reducible refine bl_grow ?_ _ _ | with_reducible refine bl_call ?_ (by assumption)))⟩
end Go.Proofs.YtbllmkmdaenglaaGreatDoor
