/- V8, V9: texts put together. -/
import Derived.Test.YtbllmkmdaenglaaGreatDoorGy
import Derived.Test.YtbllmkmdaenglaaGreatDoorGx
import Derived.Test.YtbllmkmdaenglaaGreatDoorG1
/- The specification's chapter 7: bits of nets. -/
namespace Go.Proofs.YtbllmkmdaenglaaGreatDoor
open Go.RowKit Go.Sort Go.BigFrame
set_option maxHeartbeats 2000000 in
set_option maxRecDepth 100000 in
theorem s_moreBits (x : Stil.Net) (hs : Stil.netSize x ≤ 1000000) (ih : NeedN 32 x (Stil.beginBits x)) : NeedN 58 x (Stil.takeBits x) := by
 intro av nv w hav hnv
 have IH : Hid (∀ W, Below w.heap.size w W → Calls Tryz.prog 32 #[.agg #[.int .i64 x.kind, .int .i64 x.one.op, av, nv]] W fun e w' => e = .returned (.int .i64 (Stil.beginBits x)) ∧ Below W.heap.size W w') := fun W h => ih av nv W (hav.below h) (hnv.below h)
 have hle := Stil.beginBits_le x
 have HT : Hid (Stil.takeBits x = if x.kind = 1 then 1 else 1 + Stil.beginBits x) := rfl
 obtain ⟨bx, hbx⟩ : ∃ bx, bx = Stil.beginBits x := ⟨_, rfl⟩
 obtain ⟨T, hT⟩ : ∃ T, T = Stil.takeBits x := ⟨_, rfl⟩
 rw [← hbx] at IH hle HT
 rw [← hT] at HT ⊢
 obtain ⟨k, hk⟩ : ∃ k, k = x.kind := ⟨_, rfl⟩
 rw [← hk] at IH HT ⊢
 obtain ⟨p0, r0, rfl, hz0⟩ := hav.shape
 obtain ⟨p1, r1, rfl, hz1, _⟩ := hnv.shape
 clear ih hz0 hz1 hbx hT hk hav hnv
 by_cases h1 : k = 1
 ·subst h1
  have HT2 : Hid (T = 1) := by show _ = _; rw [HT.out]; rfl
  clear HT
  go_enter Tryz.func58, Tryz.ntmps58
  go_wp2
  go_ret
  exact ⟨ret_int (by rw [HT2.out]; rfl), by (repeat (first | with_reducible exact Below.refl _ _ | with_reducible assumption | with_reducible refine bl_set (by first | exact Nat.le_refl _ | (simp; done) | (simp; omega) | omega) ?_ _ | with_reducible refine bl_alloc ?_ _ | with_reducible refine bl_drewN ?_ _ | with_reducible refine bl_drew ?_ | with_reducible refine bl_grow ?_ _ _ | with_reducible refine bl_call ?_ (by assumption)))⟩
 ·have HT2 : Hid (T = 1 + bx) := by show _ = _; rw [HT.out, if_neg h1]
  have hkb : (k == 1) = false := by rw [beq_eq_false_iff_ne]; exact h1
  clear HT
  go_enter Tryz.func58, Tryz.ntmps58
  go_wp2_with (go_at_call 32; refine (IH.out _ (by (repeat (first | with_reducible exact Below.refl _ _ | with_reducible assumption | with_reducible refine bl_set (by first | exact Nat.le_refl _ | (simp; done) | (simp; omega) | omega) ?_ _ | with_reducible refine bl_alloc ?_ _ | with_reducible refine bl_drewN ?_ _ | with_reducible refine bl_drew ?_ | with_reducible refine bl_grow ?_ _ _ | with_reducible refine bl_call ?_ (by assumption))))).mono ?_; rintro e w1 ⟨rfl, hb1⟩)
  go_ret
  exact ⟨ret_int (by rw [HT2.out]; go_num), by (repeat (first | with_reducible exact Below.refl _ _ | with_reducible assumption | with_reducible refine bl_set (by first | exact Nat.le_refl _ | (simp; done) | (simp; omega) | omega) ?_ _ | with_reducible refine bl_alloc ?_ _ | with_reducible refine bl_drewN ?_ _ | with_reducible refine bl_drew ?_ | with_reducible refine bl_grow ?_ _ _ | with_reducible refine bl_call ?_ (by assumption)))⟩
set_option maxHeartbeats 2000000 in
set_option maxRecDepth 100000 in
theorem s_netBits (n : Stil.Net) : Stil.netWrong n = 0 → Stil.netSize n ≤ 1000000 → NeedN 32 n (Stil.beginBits n) := by
 induction n using Stil.net_ind with
 | h k e kids ih =>
  intro hw hs av nv w hav hnv
  simp only at hav hnv
  have hkw := Stil.right_all hw
  simp only at hkw
  have hpt := Stil.right_parts hw
  rw [Stil.netSize_kids] at hs
  simp only at hs
  have hks : ∀ x ∈ kids, Stil.netSize x ≤ 1000000 := fun x hx => by have : Stil.netSize x ≤ Stil.sizes kids := Stil.mem_le_sum Stil.netSize kids x hx; omega
  have hkl : kids.length ≤ 999999 := by have := Stil.len_sizes kids; omega
  obtain ⟨p0, r0, rfl, hz0⟩ := hav.shape
  by_cases h1 : k = 1
  ·subst h1
   rw [Stil.begin_one]
   obtain ⟨p1, r1, rfl, hz1, _⟩ := hnv.shape
   clear hz0 hz1 ih hks hkl hw hkw hpt hs hav hnv
   go_enter Tryz.func32, Tryz.ntmps32
   go_wp2
   go_ret
   exact ⟨rfl, by (repeat (first | with_reducible exact Below.refl _ _ | with_reducible assumption | with_reducible refine bl_set (by first | exact Nat.le_refl _ | (simp; done) | (simp; omega) | omega) ?_ _ | with_reducible refine bl_alloc ?_ _ | with_reducible refine bl_drewN ?_ _ | with_reducible refine bl_drew ?_ | with_reducible refine bl_grow ?_ _ _ | with_reducible refine bl_call ?_ (by assumption)))⟩
  ·have hne : kids ≠ [] := by
    rcases hpt with ⟨h, _⟩ | ⟨_, h, _⟩ | ⟨_, _, x, h, _⟩
    ·exact absurd h h1
    ·intro h0; rw [h0] at h; simp at h
    ·intro h0; rw [h0] at h; cases h
   obtain ⟨x, r, rfl⟩ := List.exists_cons_of_ne_nil hne
   rw [Stil.begin_kids e x r h1]
   have HAK : Hid (∀ W, Below w.heap.size w W → NetsT W nv (x :: r)) := fun W h => hnv.below h
   obtain ⟨p1, r1, rfl, hcap, hpc⟩ := hnv.shape
   obtain ⟨b, o, rfl, hbl, hn⟩ := hpc 0 (by simp)
   simp only [List.getElem_cons_zero, Nat.zero_mul, Nat.add_zero] at hn
   obtain ⟨x0, x1, av', nv', x2, x3, hav', hnv'⟩ := hn.open
   have HZ : Hid (∀ W, Below w.heap.size w W → Calls Tryz.prog 32 #[.agg #[.int .i64 x.kind, .int .i64 x.one.op, av', nv']] W fun e w' => e = .returned (.int .i64 (Stil.beginBits x)) ∧ Below W.heap.size W w') := fun W h => ih x (by simp) (hkw x (by simp)) (hks x (by simp)) av' nv' W (hav'.below h) (hnv'.below h)
   have HY : Hid (∀ y ∈ r, NeedN 58 y (Stil.takeBits y)) := fun y hy => s_moreBits y (hks y (List.mem_cons_of_mem _ hy)) (ih y (List.mem_cons_of_mem _ hy) (hkw y (List.mem_cons_of_mem _ hy)) (hks y (List.mem_cons_of_mem _ hy)))
   have HG : Hid (∀ (p q : Nat) (V : World), Calls Tryz.prog 31 #[.int .i64 p, .int .i64 q] V fun e w' => e = .returned (.int .i64 (max p q : Nat)) ∧ w' = V) := s_greater
   obtain ⟨bz, hbz⟩ : ∃ bz, bz = Stil.beginBits x := ⟨_, rfl⟩
   rw [← hbz] at HZ ⊢
   obtain ⟨q0, s0, rfl, hz0'⟩ := hav'.shape
   obtain ⟨q1, s1, rfl, hz1', _⟩ := hnv'.shape
   have hrl : r.length ≤ 999998 := by simp only [List.length_cons] at hkl; omega
   have hk4 : k = 4 → r = [] := by
    intro h4
    rcases hpt with ⟨h, _⟩ | ⟨h, _, _⟩ | ⟨_, _, z, h, _⟩
    ·omega
    ·omega
    ·simp only [List.cons.injEq] at h; exact h.2
   simp only [List.length_cons]
   obtain ⟨m, hm⟩ : ∃ m, m = r.length := ⟨_, rfl⟩
   have HMR : Hid (m = r.length) := hm
   rw [← hm] at hrl ⊢
   by_cases h4 : k = 4
   ·subst h4
    have hr0 := hk4 rfl
    have HR : Hid (Stil.mostOf bz (r.map Stil.takeBits) = bz) := by show _ = _; rw [hr0]; rfl
    rw [HR.out]
    have hm0 : m = 0 := by rw [hm, hr0]; rfl
    subst hm0
    clear hz0 hz0' hz1' hpc hn hbz ih hks hkl hm hcap hav hnv hav' hnv' hw hkw hpt hs hr0 hk4 HY HG HAK HMR
    go_enter Tryz.func32, Tryz.ntmps32
    go_wp2_with (go_at_call 32; refine (HZ.out _ (by (repeat (first | with_reducible exact Below.refl _ _ | with_reducible assumption | with_reducible refine bl_set (by first | exact Nat.le_refl _ | (simp; done) | (simp; omega) | omega) ?_ _ | with_reducible refine bl_alloc ?_ _ | with_reducible refine bl_drewN ?_ _ | with_reducible refine bl_drew ?_ | with_reducible refine bl_grow ?_ _ _ | with_reducible refine bl_call ?_ (by assumption))))).mono ?_; rintro e w1 ⟨rfl, hb1⟩)
    go_ret
    exact ⟨rfl, by (repeat (first | with_reducible exact Below.refl _ _ | with_reducible assumption | with_reducible refine bl_set (by first | exact Nat.le_refl _ | (simp; done) | (simp; omega) | omega) ?_ _ | with_reducible refine bl_alloc ?_ _ | with_reducible refine bl_drewN ?_ _ | with_reducible refine bl_drew ?_ | with_reducible refine bl_grow ?_ _ _ | with_reducible refine bl_call ?_ (by assumption)))⟩
   ·have hkb : (k == 1) = false := by rw [beq_eq_false_iff_ne]; exact h1
    have hkb4 : (k == 4) = false := by rw [beq_eq_false_iff_ne]; exact h4
    clear hz0 hz0' hz1' hpc hn hbz ih hks hkl hm hcap hav hnv hav' hnv' hw hkw hpt hs hk4
    have hj0 : (0 : Int) < (m : Int) + 1 := by omega
    go_enter Tryz.func32, Tryz.ntmps32
    go_wp2_with (go_at_call 32; refine (HZ.out _ (by (repeat (first | with_reducible exact Below.refl _ _ | with_reducible assumption | with_reducible refine bl_set (by first | exact Nat.le_refl _ | (simp; done) | (simp; omega) | omega) ?_ _ | with_reducible refine bl_alloc ?_ _ | with_reducible refine bl_drewN ?_ _ | with_reducible refine bl_drew ?_ | with_reducible refine bl_grow ?_ _ _ | with_reducible refine bl_call ?_ (by assumption))))).mono ?_; rintro e w1 ⟨rfl, hb1⟩; have y3 : w1.cell? ⟨w.heap.size, 3, none⟩ = some (.slice (some ⟨b, o, none⟩) (m + 1) r1) := (by rw [hb1.cell (p := ⟨w.heap.size, 3, none⟩) (by simp)]; simp [go_sem]); have hz1 : w.heap.size < w1.heap.size := Nat.lt_of_lt_of_le (by simp) hb1.size)
    have hbw1 : Below w.heap.size w w1 := by (repeat (first | with_reducible exact Below.refl _ _ | with_reducible assumption | with_reducible refine bl_set (by first | exact Nat.le_refl _ | (simp; done) | (simp; omega) | omega) ?_ _ | with_reducible refine bl_alloc ?_ _ | with_reducible refine bl_drewN ?_ _ | with_reducible refine bl_drew ?_ | with_reducible refine bl_grow ?_ _ _ | with_reducible refine bl_call ?_ (by assumption)))
    clear hb1 x0 x1 x2 x3 hbl HZ
    go_loopw [3, 4] (fun d i wr => ∃ (j mm : Nat), j ≤ m ∧ i = .int .i64 ((j : Int) + 1) ∧ d = .int .i64 mm ∧ mm = Stil.mostOf bz ((r.map Stil.takeBits).take j) ∧ Below w1.heap.size w1 wr) (fun _ i _ => m + 1 - (intOf i).toNat)
    case atStart => exact ⟨0, bz, by omega, rfl, rfl, rfl, Below.refl _ _⟩
    case round =>
     obtain ⟨j, mm, hj, rfl, rfl, hmm, hb⟩ := hrel
     have HM : Hid (mm = Stil.mostOf bz ((r.map Stil.takeBits).take j)) := hmm
     clear hmm
     have hbw : Below w.heap.size w wr := bl_call hbw1 hb
     have y3r : wr.cell? ⟨w.heap.size, 3, none⟩ = some (.slice (some ⟨b, o, none⟩) (m + 1) r1) := (hb.cell (p := ⟨w.heap.size, 3, none⟩) hz1).trans y3
     by_cases hlt : j < m
     ·have hlr : j < r.length := by have := HMR.out; omega
      obtain ⟨pa, pc, hpe, _, hpc⟩ := (HAK.out wr hbw).shape
      simp only [List.length_cons, Value.slice.injEq, true_and] at hpe
      obtain ⟨rfl, rfl⟩ := hpe
      obtain ⟨b2, o2, hbo, hbl, hn⟩ := hpc (j + 1) (by simp only [List.length_cons]; omega)
      simp only [Option.some.injEq, Addr.mk.injEq, and_true] at hbo
      obtain ⟨rfl, rfl⟩ := hbo
      simp only [List.getElem_cons_succ] at hn
      obtain ⟨x0, x1, av, nv, x2, x3, hav, hnv⟩ := hn.open
      have HI : Hid (∀ V, Below wr.heap.size wr V → Calls Tryz.prog 58 #[.agg #[.int .i64 r[j].kind, .int .i64 r[j].one.op, av, nv]] V fun e w' => e = .returned (.int .i64 (Stil.takeBits r[j])) ∧ Below V.heap.size V w') := fun V h => HY.out r[j] (List.getElem_mem hlr) av nv V (hav.below h) (hnv.below h)
      have HTS : Hid (Stil.mostOf bz ((r.map Stil.takeBits).take (j + 1)) = max (Stil.mostOf bz ((r.map Stil.takeBits).take j)) (Stil.takeBits r[j])) := by
       show _ = _
       rw [Stil.mostOf_take (by rw [List.length_map]; exact hlr), List.getElem_map]
      obtain ⟨y, hy⟩ : ∃ y, y = r[j] := ⟨_, rfl⟩
      rw [← hy] at HI HTS x0 x1 hav hnv
      obtain ⟨fx, hfx⟩ : ∃ fx, fx = Stil.takeBits y := ⟨_, rfl⟩
      rw [← hfx] at HI HTS
      obtain ⟨q0', s0', rfl, hz0⟩ := hav.shape
      obtain ⟨q1', s1', rfl, hz1'', _⟩ := hnv.shape
      have hj1 : (0 : Int) ≤ (j : Int) + 1 := by omega
      have hj2 : (j : Int) + 1 < (m : Int) + 1 := by omega
      have htn : ((j : Int) + 1).toNat = j + 1 := by omega
      clear hz0 hz1'' hy hfx hn hpc hav hnv hbl
      go_wp2_with (first | (go_at_call 58; refine (HI.out _ (by (repeat (first | with_reducible exact Below.refl _ _ | with_reducible assumption | with_reducible refine bl_set (by first | exact Nat.le_refl _ | (simp; done) | (simp; omega) | omega) ?_ _ | with_reducible refine bl_alloc ?_ _ | with_reducible refine bl_drewN ?_ _ | with_reducible refine bl_drew ?_ | with_reducible refine bl_grow ?_ _ _ | with_reducible refine bl_call ?_ (by assumption))))).mono ?_; rintro e w2 ⟨rfl, hb2⟩) | (go_at_call 31; refine (HG.out _ _ _).mono ?_; rintro e w3 ⟨rfl, rfl⟩))
      refine ⟨⟨j + 1, max mm fx, by omega, by go_num, rfl, ?_, bl_call hb hb2⟩, by simp [intOf]; omega⟩
      rw [HTS.out, ← HM.out]
     ·obtain rfl : j = m := by omega
      have hmn := HM.out
      rw [List.take_of_length_le (by rw [List.length_map, ← HMR.out]; exact Nat.le_refl _)] at hmn
      have HM2 : Hid (mm = Stil.mostOf bz (r.map Stil.takeBits)) := hmn
      clear hmn
      go_wp2
      go_ret
      exact ⟨ret_int (by rw [HM2.out]), hbw⟩
end Go.Proofs.YtbllmkmdaenglaaGreatDoor
/- The specification's chapter 7: bits of arms. -/
namespace Go.Proofs.YtbllmkmdaenglaaGreatDoor
open Go.RowKit Go.Sort Go.BigFrame
set_option maxHeartbeats 4000000 in
set_option maxRecDepth 100000 in
theorem s_kidsBits (a : Stil.Arm) : Stil.armSize a ≤ 1000000 → Stil.armFine a → NeedA 33 a (Stil.tailBits a) := by
 induction a using Stil.arm_ind with
 | h n cs kids ih =>
  intro hs hfi av nv cv kv w hav hnv hcv hkv
  simp only at hav hnv hcv hkv
  rw [Stil.armSize_nsz] at hs
  obtain ⟨_, hkfi⟩ := (Stil.armFine_eq _ _ _).1 hfi
  have hks : ∀ x ∈ kids, Stil.armSize x ≤ 1000000 := fun x hx => by have : Stil.armSize x ≤ Stil.ksize kids := Stil.mem_le_sum Stil.armSize kids x hx; omega
  have hkl : kids.length ≤ 999999 := by have := Stil.len_ksize kids; omega
  have IH : Hid (∀ x ∈ kids, NeedA 33 x (Stil.tailBits x)) := fun x hx => ih x hx (hks x hx) (hkfi x hx)
  have HFN : Hid (∀ x ∈ kids, Stil.fineOr x.net ∧ Stil.nsz x.net ≤ 999999) := by
   intro x hx
   have h1 := hkfi x hx
   have h2 := hks x hx
   obtain ⟨xn, xc, xk⟩ := x
   rw [Stil.armSize_nsz] at h2
   exact ⟨((Stil.armFine_eq _ _ _).1 h1).1, by simp only; omega⟩
  have HAK : Hid (∀ W, Below w.heap.size w W → ArmsT W kv kids) := fun W h => hkv.below h
  have HG : Hid (∀ (p q : Nat) (V : World), Calls Tryz.prog 31 #[.int .i64 p, .int .i64 q] V fun e w' => e = .returned (.int .i64 (max p q : Nat)) ∧ w' = V) := s_greater
  rw [Stil.tailBits_eq]
  obtain ⟨p0, r0, rfl, hz0⟩ := hav.shape
  obtain ⟨p1, r1, rfl, hz1, _⟩ := hnv.shape
  obtain ⟨p2, r2, rfl, hz2⟩ := hcv.shape
  obtain ⟨p3, r3, rfl, hz3, _⟩ := hkv.shape
  clear hz0 hz1 hz2 hz3 hs ih hks hav hnv hcv hkv hkfi hfi
  go_enter Tryz.func33, Tryz.ntmps33
  go_wp2
  obtain ⟨W, hW⟩ : ∃ W, W = w.alloc (.cells #[.int .i64 n.kind, .int .i64 n.one.op, .slice p0 n.one.args.length r0, .slice p1 n.kids.length r1, .slice p2 cs.length r2, .slice p3 kids.length r3] 52) := ⟨_, rfl⟩
  rw [← hW]
  have hbW : Below w.heap.size w W := by rw [hW]; exact below_alloc _ _
  have hlW : w.heap.size < W.heap.size := by rw [hW]; simp
  have y5 : W.cell? ⟨w.heap.size, 5, none⟩ = some (.slice p3 kids.length r3) := by rw [hW]; simp [go_sem]
  clear hW
  go_loopw [3, 4] (fun d i wr => ∃ (j m : Nat), j ≤ kids.length ∧ i = .int .i64 j ∧ d = .int .i64 m ∧ m = Stil.mostOf 1 ((kids.map (fun k => Stil.kidNeed k.net (Stil.tailBits k))).take j) ∧ Below W.heap.size W wr) (fun _ i _ => kids.length - (intOf i).toNat)
  case atStart => exact ⟨0, 1, by omega, rfl, rfl, rfl, Below.refl _ _⟩
  case round =>
   obtain ⟨j, m, hj, rfl, rfl, hm, hb⟩ := hrel
   have HM : Hid (m = Stil.mostOf 1 ((kids.map (fun k => Stil.kidNeed k.net (Stil.tailBits k))).take j)) := hm
   clear hm
   by_cases hlt : j < kids.length
   ·have hbw : Below w.heap.size w wr := bl_call hbW hb
    obtain ⟨pa, pc, hpe, _, hpc⟩ := (HAK.out wr hbw).shape
    simp only [Value.slice.injEq, true_and] at hpe
    obtain ⟨rfl, rfl⟩ := hpe
    obtain ⟨b, o, rfl, hbl, hn⟩ := hpc j hlt
    obtain ⟨hna, cv, kv, x4, x5, hcv, hkv⟩ := hn.open
    obtain ⟨x0, x1, av, nv, x2, x3, hav, hnv⟩ := hna.open
    have HI : Hid (∀ V, Below wr.heap.size wr V → Calls Tryz.prog 33 #[.agg #[.int .i64 kids[j].net.kind, .int .i64 kids[j].net.one.op, av, nv, cv, kv]] V fun e w' => e = .returned (.int .i64 (Stil.tailBits kids[j])) ∧ Below V.heap.size V w') := fun V h => IH.out kids[j] (List.getElem_mem hlt) av nv cv kv V (hav.below h) (hnv.below h) (hcv.below h) (hkv.below h)
    obtain ⟨hfo, hns⟩ := HFN.out kids[j] (List.getElem_mem hlt)
    have HTS : Hid (Stil.mostOf 1 ((kids.map (fun k => Stil.kidNeed k.net (Stil.tailBits k))).take (j + 1)) = max (Stil.mostOf 1 ((kids.map (fun k => Stil.kidNeed k.net (Stil.tailBits k))).take j)) (Stil.kidNeed kids[j].net (Stil.tailBits kids[j]))) := by
     show _ = _
     rw [Stil.mostOf_take (by rw [List.length_map]; exact hlt), List.getElem_map]
    obtain ⟨x, hx⟩ : ∃ x, x = kids[j] := ⟨_, rfl⟩
    rw [← hx] at HI HTS x0 x1 hav hnv hcv hkv hfo hns
    have HNX : Hid (∀ V, Below wr.heap.size wr V → NetsT V nv x.net.kids) := fun V h => hnv.below h
    have HMB : Hid (∀ y, y ∈ Stil.behindOf x.net → NeedN 58 y (Stil.takeBits y)) := by
     intro y hy
     have h1 := Stil.behind_le x.net y hy
     have h2 : Stil.netWrong y = 0 := by
      unfold Stil.behindOf at hy
      split at hy
      ·cases hy
      ·rename_i h3
       have h4 := hfo.resolve_left h3
       split at hy
       ·exact Stil.right_all h4.2.2 y hy
       ·rw [List.mem_singleton.1 hy]; exact h4.2.2
     exact s_moreBits y (by omega) (s_netBits y h2 (by omega))
    have HMN : Hid (∀ V, Below wr.heap.size wr V → x.net ∈ Stil.behindOf x.net → Calls Tryz.prog 58 #[.agg #[.int .i64 x.net.kind, .int .i64 x.net.one.op, av, nv]] V fun e w' => e = .returned (.int .i64 (Stil.takeBits x.net)) ∧ Below V.heap.size V w') := fun V h hm => HMB.out x.net hm av nv V (hav.below h) (hnv.below h)
    obtain ⟨tb, htb⟩ : ∃ tb, tb = Stil.tailBits x := ⟨_, rfl⟩
    rw [← htb] at HI HTS
    obtain ⟨q0, s0, rfl, hz0⟩ := hav.shape
    obtain ⟨q1, s1, rfl, hz1, _⟩ := hnv.shape
    obtain ⟨q2, s2, rfl, hz2⟩ := hcv.shape
    obtain ⟨q3, s3, rfl, hz3, _⟩ := hkv.shape
    have y5r : wr.cell? ⟨w.heap.size, 5, none⟩ = some (.slice (some ⟨b, o, none⟩) kids.length r3) := (hb.cell (p := ⟨w.heap.size, 5, none⟩) hlW).trans y5
    have hlr : w.heap.size < wr.heap.size := Nat.lt_of_lt_of_le hlW hb.size
    have hj1 : (0 : Int) ≤ (j : Int) := by omega
    have hj2 : (j : Int) < (kids.length : Int) := by omega
    have HK0 : Hid (∀ bs : List Nat, max m (Stil.mostOf tb bs) = max (Stil.mostOf m bs) tb) := by
     intro bs
     rw [Stil.mostOf_zero bs tb, Stil.mostOf_zero bs m]
     omega
    clear hz0 hz1 hz2 hz3 hx htb hn hna hpc hav hnv hcv hkv
    by_cases hnone : Stil.netNone x.net = true
    ·have hk0 : x.net.kind = 0 := by rw [Stil.none_eq hnone]; rfl
     have HKN : Hid (max (Stil.mostOf 1 ((kids.map (fun k => Stil.kidNeed k.net (Stil.tailBits k))).take j)) (Stil.kidNeed x.net tb) = max (Stil.mostOf 1 ((kids.map (fun k => Stil.kidNeed k.net (Stil.tailBits k))).take j)) tb) := by
      show _ = _
      have e : Stil.behindOf x.net = [] := if_pos hnone
      unfold Stil.kidNeed
      rw [e]; rfl
     rw [hk0] at HI x0
     clear hnone hfo hns HMB HMN HK0 HNX
     go_wp2_with (first | (go_at_call 33; refine (HI.out _ (by (repeat (first | with_reducible exact Below.refl _ _ | with_reducible assumption | with_reducible refine bl_set (by first | exact Nat.le_refl _ | (simp; done) | (simp; omega) | omega) ?_ _ | with_reducible refine bl_alloc ?_ _ | with_reducible refine bl_drewN ?_ _ | with_reducible refine bl_drew ?_ | with_reducible refine bl_grow ?_ _ _ | with_reducible refine bl_call ?_ (by assumption))))).mono ?_; rintro e w7 ⟨rfl, hb7⟩; have hb77 : Below wr.heap.size wr w7 := bl_call (by (repeat (first | with_reducible exact Below.refl _ _ | with_reducible assumption | with_reducible refine bl_set (by first | exact Nat.le_refl _ | (simp; done) | (simp; omega) | omega) ?_ _ | with_reducible refine bl_alloc ?_ _ | with_reducible refine bl_drewN ?_ _ | with_reducible refine bl_drew ?_ | with_reducible refine bl_grow ?_ _ _ | with_reducible refine bl_call ?_ (by assumption)))) hb7) | (go_at_call 31; refine (HG.out _ _ _).mono ?_; rintro e w8 ⟨rfl, rfl⟩))
     refine ⟨⟨j + 1, max m tb, by omega, by go_num, rfl, ?_, bl_call hb hb77⟩, by simp [intOf]; omega⟩
     rw [HTS.out, HKN.out, ← HM.out]
    ·have hfine := hfo.resolve_left hnone
     have hkk := Stil.fine_kind hfine
     by_cases hk2 : x.net.kind = 2
     ·have hbe : Stil.behindOf x.net = x.net.kids := by unfold Stil.behindOf; rw [if_neg hnone, if_pos hk2]
      have HKN : Hid (max (Stil.mostOf 1 ((kids.map (fun k => Stil.kidNeed k.net (Stil.tailBits k))).take j)) (Stil.kidNeed x.net tb) = max (Stil.mostOf m (x.net.kids.map Stil.takeBits)) tb) := by
       show _ = _
       rw [← HM.out]
       unfold Stil.kidNeed
       rw [hbe]
       exact HK0.out _
      have HMB2 : Hid (∀ y, y ∈ x.net.kids → NeedN 58 y (Stil.takeBits y)) := by rw [hbe] at HMB; exact HMB.out
      have hnl : x.net.kids.length ≤ 999999 := by
       have e : Stil.nsz x.net = Stil.netSize x.net := if_neg hnone
       have h1 := Stil.len_sizes x.net.kids
       have h2 := Stil.netSize_kids x.net
       omega
      rw [hk2] at HI x0
      clear hnone hfo hns HMB HMN HK0 hfine hkk hbe
      obtain ⟨wo, hwo⟩ : ∃ wo : World, wo = wr := ⟨wr, rfl⟩
      subst hwo
      go_wp2
      obtain ⟨V5, hV5⟩ : ∃ V5, V5 = wo.alloc (.cells #[.int .i64 2, .int .i64 x.net.one.op, .slice q0 x.net.one.args.length s0, .slice q1 x.net.kids.length s1] 49) := ⟨_, rfl⟩
      rw [← hV5]
      have hbV : Below wo.heap.size wo V5 := by rw [hV5]; exact below_alloc _ _
      have hlV : wo.heap.size < V5.heap.size := by rw [hV5]; simp
      have v3 : V5.cell? ⟨wo.heap.size, 3, none⟩ = some (.slice q1 x.net.kids.length s1) := by rw [hV5]; simp [go_sem]
      clear hV5
      go_loopw [3, 6] (fun d i wr => ∃ (u m2 : Nat), u ≤ x.net.kids.length ∧ i = .int .i64 u ∧ d = .int .i64 m2 ∧ m2 = Stil.mostOf m ((x.net.kids.map Stil.takeBits).take u) ∧ Below V5.heap.size V5 wr) (fun _ i _ => x.net.kids.length - (intOf i).toNat)
      case atStart => exact ⟨0, m, by omega, rfl, rfl, rfl, Below.refl _ _⟩
      case round =>
       obtain ⟨u, m2, hu, rfl, rfl, hm2, hbq⟩ := hrel
       have HM2 : Hid (m2 = Stil.mostOf m ((x.net.kids.map Stil.takeBits).take u)) := hm2
       clear hm2
       have hbi : Below wo.heap.size wo wr := bl_call hbV hbq
       have v3r : wr.cell? ⟨wo.heap.size, 3, none⟩ = some (.slice q1 x.net.kids.length s1) := (hbq.cell (p := ⟨wo.heap.size, 3, none⟩) hlV).trans v3
       by_cases hul : u < x.net.kids.length
       ·obtain ⟨pa, pc, hpe, _, hpc⟩ := (HNX.out wr hbi).shape
        simp only [Value.slice.injEq, true_and] at hpe
        obtain ⟨rfl, rfl⟩ := hpe
        obtain ⟨bb, oo, rfl, hbbl, hnn⟩ := hpc u hul
        obtain ⟨e0, e1, av2, nv2, e2, e3, hav2, hnv2⟩ := hnn.open
        have HY : Hid (∀ V, Below wr.heap.size wr V → Calls Tryz.prog 58 #[.agg #[.int .i64 x.net.kids[u].kind, .int .i64 x.net.kids[u].one.op, av2, nv2]] V fun e w' => e = .returned (.int .i64 (Stil.takeBits x.net.kids[u])) ∧ Below V.heap.size V w') := fun V h => HMB2.out _ (List.getElem_mem hul) av2 nv2 V (hav2.below h) (hnv2.below h)
        have HT3 : Hid (Stil.mostOf m ((x.net.kids.map Stil.takeBits).take (u + 1)) = max (Stil.mostOf m ((x.net.kids.map Stil.takeBits).take u)) (Stil.takeBits x.net.kids[u])) := by
         show _ = _
         rw [Stil.mostOf_take (by rw [List.length_map]; exact hul), List.getElem_map]
        obtain ⟨y, hy⟩ : ∃ y, y = x.net.kids[u] := ⟨_, rfl⟩
        rw [← hy] at HY HT3 e0 e1 hav2 hnv2
        obtain ⟨fy, hfy⟩ : ∃ fy, fy = Stil.takeBits y := ⟨_, rfl⟩
        rw [← hfy] at HY HT3
        obtain ⟨g0, f0, rfl, hz0⟩ := hav2.shape
        obtain ⟨g1, f1, rfl, hz1, _⟩ := hnv2.shape
        have hu1 : (0 : Int) ≤ (u : Int) := by omega
        have hu2 : (u : Int) < (x.net.kids.length : Int) := by omega
        clear hz0 hz1 hy hfy hnn hpc hav2 hnv2
        go_wp2_with (first | (go_at_call 58; refine (HY.out _ (by exact Below.refl _ _)).mono ?_; rintro e w6 ⟨rfl, hb6⟩) | (go_at_call 31; refine (HG.out _ _ _).mono ?_; rintro e w8 ⟨rfl, rfl⟩))
        refine ⟨⟨u + 1, max m2 fy, by omega, by go_num, rfl, ?_, bl_call hbq hb6⟩, by simp [intOf]; omega⟩
        rw [HT3.out, ← HM2.out]
       ·obtain rfl : u = x.net.kids.length := by omega
        have hmn := HM2.out
        rw [List.take_of_length_le (by rw [List.length_map]; exact Nat.le_refl _)] at hmn
        have HM3 : Hid (m2 = Stil.mostOf m (x.net.kids.map Stil.takeBits)) := hmn
        have z5 : wr.cell? ⟨w.heap.size, 5, none⟩ = _ := (hbi.cell (p := ⟨w.heap.size, 5, none⟩) hlr).trans y5r
        have z0 : wr.cell? ⟨b, o + j * 6, none⟩ = _ := (hbi.cell (p := ⟨b, o + j * 6, none⟩) hbl).trans x0
        have z1 : wr.cell? ⟨b, o + j * 6 + 1, none⟩ = _ := (hbi.cell (p := ⟨b, o + j * 6 + 1, none⟩) hbl).trans x1
        have z2 : wr.cell? ⟨b, o + j * 6 + 2, none⟩ = _ := (hbi.cell (p := ⟨b, o + j * 6 + 2, none⟩) hbl).trans x2
        have z3 : wr.cell? ⟨b, o + j * 6 + 3, none⟩ = _ := (hbi.cell (p := ⟨b, o + j * 6 + 3, none⟩) hbl).trans x3
        have z4 : wr.cell? ⟨b, o + j * 6 + 4, none⟩ = _ := (hbi.cell (p := ⟨b, o + j * 6 + 4, none⟩) hbl).trans x4
        have z6 : wr.cell? ⟨b, o + j * 6 + 5, none⟩ = _ := (hbi.cell (p := ⟨b, o + j * 6 + 5, none⟩) hbl).trans x5
        clear hmn
        go_wp2_with (first | (go_at_call 33; refine (HI.out _ (by exact hbi)).mono ?_; rintro e w7 ⟨rfl, hb7⟩; have hb77 : Below wo.heap.size wo w7 := bl_call hbi hb7) | (go_at_call 31; refine (HG.out _ _ _).mono ?_; rintro e w8 ⟨rfl, rfl⟩))
        refine ⟨⟨j + 1, max m2 tb, by omega, by go_num, rfl, ?_, bl_call hb hb77⟩, by simp [intOf]; omega⟩
        rw [HTS.out, HKN.out, ← HM3.out]
     ·have hbe : Stil.behindOf x.net = [x.net] := by unfold Stil.behindOf; rw [if_neg hnone, if_neg hk2]
      have HKN : Hid (max (Stil.mostOf 1 ((kids.map (fun k => Stil.kidNeed k.net (Stil.tailBits k))).take j)) (Stil.kidNeed x.net tb) = max (max m (Stil.takeBits x.net)) tb) := by
       show _ = _
       rw [← HM.out]
       unfold Stil.kidNeed
       rw [hbe]
       exact HK0.out _
      have HM1 : Hid (∀ V, Below wr.heap.size wr V → Calls Tryz.prog 58 #[.agg #[.int .i64 x.net.kind, .int .i64 x.net.one.op, .slice q0 x.net.one.args.length s0, .slice q1 x.net.kids.length s1]] V fun e w' => e = .returned (.int .i64 (Stil.takeBits x.net)) ∧ Below V.heap.size V w') := fun V h => HMN.out V h (by rw [hbe]; simp)
      obtain ⟨tk, htk⟩ : ∃ tk, tk = Stil.takeBits x.net := ⟨_, rfl⟩
      rw [← htk] at HM1 HKN
      have hkb0 : (x.net.kind == 0) = false := by rw [beq_eq_false_iff_ne]; omega
      have hkb2 : (x.net.kind == 2) = false := by rw [beq_eq_false_iff_ne]; exact hk2
      clear hnone hfo hns HMB HMN HK0 hfine hkk hbe htk HNX
      go_upto_region 14 with (first | (go_at_call 58; refine (HM1.out _ (by exact below_alloc _ _)).mono ?_; rintro e w6 ⟨rfl, hb6⟩; have hb66 : Below wr.heap.size wr w6 := bl_call (below_alloc _ _) hb6) | (go_at_call 31; refine (HG.out _ _ _).mono ?_; rintro e w8 ⟨rfl, rfl⟩))
      have z5 : w8.cell? ⟨w.heap.size, 5, none⟩ = _ := (hb66.cell (p := ⟨w.heap.size, 5, none⟩) hlr).trans y5r
      have z0 : w8.cell? ⟨b, o + j * 6, none⟩ = _ := (hb66.cell (p := ⟨b, o + j * 6, none⟩) hbl).trans x0
      have z1 : w8.cell? ⟨b, o + j * 6 + 1, none⟩ = _ := (hb66.cell (p := ⟨b, o + j * 6 + 1, none⟩) hbl).trans x1
      have z2 : w8.cell? ⟨b, o + j * 6 + 2, none⟩ = _ := (hb66.cell (p := ⟨b, o + j * 6 + 2, none⟩) hbl).trans x2
      have z3 : w8.cell? ⟨b, o + j * 6 + 3, none⟩ = _ := (hb66.cell (p := ⟨b, o + j * 6 + 3, none⟩) hbl).trans x3
      have z4 : w8.cell? ⟨b, o + j * 6 + 4, none⟩ = _ := (hb66.cell (p := ⟨b, o + j * 6 + 4, none⟩) hbl).trans x4
      have z6 : w8.cell? ⟨b, o + j * 6 + 5, none⟩ = _ := (hb66.cell (p := ⟨b, o + j * 6 + 5, none⟩) hbl).trans x5
      clear hb6
      go_wp2_with (first | (go_at_call 33; refine (HI.out _ (by exact hb66)).mono ?_; rintro e w7 ⟨rfl, hb7⟩; have hb77 : Below wr.heap.size wr w7 := bl_call (by exact hb66) hb7) | (go_at_call 31; refine (HG.out _ _ _).mono ?_; rintro e w8 ⟨rfl, rfl⟩))
      refine ⟨⟨j + 1, max m (max tk tb), by omega, by go_num, rfl, ?_, bl_call hb hb77⟩, by simp [intOf]; omega⟩
      rw [HTS.out, HKN.out, Nat.max_assoc]
   ·obtain rfl : j = kids.length := by omega
    have hmn := HM.out
    rw [List.take_of_length_le (by rw [List.length_map]; exact Nat.le_refl _)] at hmn
    have HM2 : Hid (m = Stil.mostOf 1 (kids.map (fun k => Stil.kidNeed k.net (Stil.tailBits k)))) := hmn
    clear hmn
    have y5r : wr.cell? ⟨w.heap.size, 5, none⟩ = some (.slice p3 kids.length r3) := (hb.cell (p := ⟨w.heap.size, 5, none⟩) hlW).trans y5
    go_wp2
    go_ret
    exact ⟨ret_int (by rw [HM2.out]), bl_call hbW hb⟩
set_option maxHeartbeats 2000000 in
set_option maxRecDepth 100000 in
theorem s_WayBits (l : List Stil.Arm) (kv : Value) (w : World) (hkv : ArmsAt w kv l) (hl : l.length ≤ 1048576) (hsz : Stil.treeSize l ≤ 1000000000) (hft : ∀ x ∈ l, Stil.armFits x) :
  Calls Tryz.prog 13 #[kv] w fun e w' => e = .returned (.int .i64 (Stil.wayBits l)) ∧ Below w.heap.size w w' := by
 have HC : Hid (∀ W, Below w.heap.size w W → Calls Tryz.prog 7 #[kv] W fun e w' => ArmsRet w' W.heap.size (Stil.normMake l) e ∧ Below W.heap.size W w') := fun W h => s_NormMake l kv W (hkv.below h) hl hsz hft
 obtain ⟨hLF, hLS, hLL⟩ := Stil.normMake_fits hft
 have hLN := Stil.normMake_right l
 have hR : Hid (Stil.wayBits l = Stil.mostOf 0 ((Stil.normMake l).map Stil.rungBits)) := rfl
 obtain ⟨L, hL⟩ : ∃ L, L = Stil.normMake l := ⟨_, rfl⟩
 rw [← hL] at HC hLF hLS hLL hR hLN
 have hsx : ∀ x ∈ L, Stil.armSize x ≤ 400 := fun x hx => Nat.le_trans (Stil.arm_le_tree hx) hLS
 have IK : Hid (∀ x ∈ L, NeedA 33 x (Stil.tailBits x)) := fun x hx => s_kidsBits x (by have := hsx x hx; omega) (hLN x hx).1
 have IB : Hid (∀ x ∈ L, NeedN 32 x.net (Stil.beginBits x.net)) := by
  intro x hx
  have h1 := hsx x hx
  obtain ⟨h2, h3⟩ := hLN x hx
  obtain ⟨xn, xc, xk⟩ := x
  rw [Stil.armSize_nsz] at h1
  simp only at h3 ⊢
  have e : Stil.nsz xn = Stil.netSize xn := if_neg (by rw [h3]; exact Bool.false_ne_true)
  exact s_netBits xn (((Stil.armFine_eq _ _ _).1 h2).1.resolve_left (by rw [h3]; exact Bool.false_ne_true)).2.2 (by omega)
 have HG : Hid (∀ (p q : Nat) (V : World), Calls Tryz.prog 31 #[.int .i64 p, .int .i64 q] V fun e w' => e = .returned (.int .i64 (max p q : Nat)) ∧ w' = V) := s_greater
 rw [hR.out]
 obtain ⟨p0, r0, rfl, hz⟩ := hkv
 clear hz hft hLF hLS hR hL hLN hsx
 go_enter Tryz.func13, Tryz.ntmps13
 go_wp2_with (go_at_call 7; refine (HC.out _ (by (repeat (first | with_reducible exact Below.refl _ _ | with_reducible assumption | with_reducible refine bl_set (by first | exact Nat.le_refl _ | (simp; done) | (simp; omega) | omega) ?_ _ | with_reducible refine bl_alloc ?_ _ | with_reducible refine bl_drewN ?_ _ | with_reducible refine bl_drew ?_ | with_reducible refine bl_grow ?_ _ _ | with_reducible refine bl_call ?_ (by assumption))))).mono ?_; rintro e w1 ⟨⟨a, c, ms, rfl, hm, hrw⟩, hb1⟩; have hat : ArmsT w1 (.slice a ms.length c) L := (by have h := (AOk.T _ (rowArm_own hrw).1).2.2.2; rw [MArm.arm_eq] at h; rw [← hm]; exact h); have HAT : Hid (ArmsT w1 (.slice a ms.length c) L) := hat; have hml : ms.length = L.length := (by rw [← hm, List.length_map]); rw [hml] at HAT; rw [hml]; clear hat hrw hm hml)
 go_loopw [4, 5] (fun d i wr => ∃ (j m : Nat), j ≤ L.length ∧ i = .int .i64 j ∧ d = .int .i64 m ∧ m = Stil.mostOf 0 ((L.map Stil.rungBits).take j) ∧ Below w1.heap.size w1 wr) (fun _ i _ => L.length - (intOf i).toNat)
 case atStart => exact ⟨0, 0, by omega, rfl, rfl, rfl, Below.refl _ _⟩
 case round =>
  obtain ⟨j, m, hj, rfl, rfl, hm, hb⟩ := hrel
  have HM : Hid (m = Stil.mostOf 0 ((L.map Stil.rungBits).take j)) := hm
  clear hm
  by_cases hlt : j < L.length
  ·obtain ⟨pa, pc, hpe, _, hpc⟩ := (HAT.out.below hb).shape
   simp only [Value.slice.injEq, true_and] at hpe
   obtain ⟨rfl, rfl⟩ := hpe
   obtain ⟨b, o, rfl, hbl, hn⟩ := hpc j hlt
   obtain ⟨hna, cv, kv, x4, x5, hcv, hkv⟩ := hn.open
   obtain ⟨x0, x1, av, nv, x2, x3, hav, hnv⟩ := hna.open
   have HI : Hid (∀ V, Below wr.heap.size wr V → Calls Tryz.prog 33 #[.agg #[.int .i64 L[j].net.kind, .int .i64 L[j].net.one.op, av, nv, cv, kv]] V fun e w' => e = .returned (.int .i64 (Stil.tailBits L[j])) ∧ Below V.heap.size V w') := fun V h => IK.out L[j] (List.getElem_mem hlt) av nv cv kv V (hav.below h) (hnv.below h) (hcv.below h) (hkv.below h)
   have HB : Hid (∀ V, Below wr.heap.size wr V → Calls Tryz.prog 32 #[.agg #[.int .i64 L[j].net.kind, .int .i64 L[j].net.one.op, av, nv]] V fun e w' => e = .returned (.int .i64 (Stil.beginBits L[j].net)) ∧ Below V.heap.size V w') := fun V h => IB.out L[j] (List.getElem_mem hlt) av nv V (hav.below h) (hnv.below h)
   have HTS : Hid (Stil.mostOf 0 ((L.map Stil.rungBits).take (j + 1)) = max (Stil.mostOf 0 ((L.map Stil.rungBits).take j)) (max (Stil.beginBits L[j].net) (Stil.tailBits L[j]))) := by
    show _ = _
    rw [Stil.mostOf_take (by rw [List.length_map]; exact hlt), List.getElem_map]
    rfl
   obtain ⟨x, hx⟩ : ∃ x, x = L[j] := ⟨_, rfl⟩
   rw [← hx] at HI HB HTS x0 x1 hav hnv hcv hkv
   obtain ⟨tb, htb⟩ : ∃ tb, tb = Stil.tailBits x := ⟨_, rfl⟩
   obtain ⟨bb, hbb⟩ : ∃ bb, bb = Stil.beginBits x.net := ⟨_, rfl⟩
   rw [← htb] at HI HTS
   rw [← hbb] at HB HTS
   obtain ⟨q0, s0, rfl, hz0⟩ := hav.shape
   obtain ⟨q1, s1, rfl, hz1, _⟩ := hnv.shape
   obtain ⟨q2, s2, rfl, hz2⟩ := hcv.shape
   obtain ⟨q3, s3, rfl, hz3, _⟩ := hkv.shape
   have hj1 : (0 : Int) ≤ (j : Int) := by omega
   have hj2 : (j : Int) < (L.length : Int) := by omega
   clear hz0 hz1 hz2 hz3 hx htb hbb hn hna hpc hav hnv hcv hkv
   go_upto_region 6 with fail
   have k0 := cell_regrown x0
   have k1 := cell_regrown x1
   have k2 := cell_regrown x2
   have k3 := cell_regrown x3
   have k4 := cell_regrown x4
   have k5 := cell_regrown x5
   have HG1 : Hid (∀ V, Calls Tryz.prog 31 #[.int .i64 bb, .int .i64 tb] V fun e w' => e = .returned (.int .i64 (max bb tb : Nat)) ∧ Below V.heap.size V w') := fun V => same_below (HG.out bb tb V)
   have HG2 : Hid (∀ V, Calls Tryz.prog 31 #[.int .i64 m, .int .i64 (max bb tb : Nat)] V fun e w' => e = .returned (.int .i64 (max m (max bb tb) : Nat)) ∧ Below V.heap.size V w') := fun V => same_below (HG.out m _ V)
   obtain ⟨g1, hg1⟩ : ∃ g1, g1 = max bb tb := ⟨_, rfl⟩
   rw [← hg1] at HG1 HG2 HTS
   obtain ⟨g2, hg2⟩ : ∃ g2, g2 = max m g1 := ⟨_, rfl⟩
   rw [← hg2] at HG2
   have HG3 : Hid (g2 = max m g1) := hg2
   clear x0 x1 x2 x3 x4 x5 hg1 hg2
   refine wp_region_quiet_below (by kernel_rfl) (by kernel_rfl) ?_
   repeat (go_big_quiet_step ((first | exact Calls.regrown_of (HB.out _ (bl_grow (Below.refl _ _) _ _)) | exact Calls.regrown_of (HI.out _ (bl_grow (Below.refl _ _) _ _)) | exact Calls.regrown_of (HG1.out _) | exact Calls.regrown_of (HG2.out _))))
   refine wpQuiet_nil ?_
   intro _ hw'
   obtain ⟨⟨dq, osq⟩, hw''⟩ := hw'
   subst hw''
   go_wp2
   refine ⟨⟨j + 1, g2, by omega, by go_num, rfl, ?_, bl_grow hb _ _⟩, by simp [intOf]; omega⟩
   rw [HTS.out, ← HM.out, HG3.out]
  ·obtain rfl : j = L.length := by omega
   have hmn := HM.out
   rw [List.take_of_length_le (by rw [List.length_map]; exact Nat.le_refl _)] at hmn
   have HM2 : Hid (m = Stil.mostOf 0 (L.map Stil.rungBits)) := hmn
   clear hmn
   go_wp2
   go_ret
   exact ⟨ret_int (by rw [HM2.out]), bl_call hb1 hb⟩
end Go.Proofs.YtbllmkmdaenglaaGreatDoor
