/- S3, S3d, S3e, S3f, S3g: texts put together. -/
import Derived.Test.YtpeojflemfppgaaGT
import Derived.Deep.DeepCutAuto
import Derived.Deep.RegionWith
import Derived.Test.YtpeojflemfppgaaGM
/- Contracts of the specification's chapter 3, first part: sizes. -/
namespace Go.Proofs.Ytpeojflemfppgaa
open Go.RowKit Go.Sort Go.BigFrame
theorem sum_take_succ (l : List Nat) (i : Nat) (h : i < l.length) : (l.take (i + 1)).sum = (l.take i).sum + l[i] := by
  rw [List.take_succ_eq_append_getElem h, List.sum_append, List.sum_cons, List.sum_nil, Nat.add_zero]
theorem sum_take_le : ∀ (l : List Nat) (i : Nat), (l.take i).sum ≤ l.sum
  | [], i => by simp
  | x :: r, 0 => by simp
  | x :: r, i + 1 => by have := sum_take_le r i; simp; omega
set_option maxHeartbeats 1000000 in
set_option maxRecDepth 100000 in
theorem s_netSize (n : Stil.Net) : ∀ (av kv : Value) (w : World), DevsAt w av n.one.args → NetsAt w kv n.kids → Stil.netSize n ≤ 1000000000 →
    Calls Try.prog 36 #[.agg #[.int .i64 n.kind, .int .i64 n.one.op, av, kv]] w fun e w' => e = .returned (.int .i64 (Stil.netSize n)) ∧ Below w.heap.size w w' := by
  induction n using Stil.net_ind with
  | h k e kids ih =>
    intro av kv w hav hkv hsz
    have IH : Hid (∀ x ∈ kids, ∀ (av kv : Value) (w : World), DevsAt w av x.one.args → NetsAt w kv x.kids → Stil.netSize x ≤ 1000000000 →
      Calls Try.prog 36 #[.agg #[.int .i64 x.kind, .int .i64 x.one.op, av, kv]] w fun e w' => e = .returned (.int .i64 (Stil.netSize x)) ∧ Below w.heap.size w w') := ih
    clear ih
    have HZ : Hid (Stil.netSize ⟨k, e, kids⟩ = 1 + (kids.map Stil.netSize).sum) := Stil.netSize_eq k e kids
    have hsum : (kids.map Stil.netSize).sum ≤ 1000000000 := by have := HZ.out; omega
    obtain ⟨a, cap, rfl, hc⟩ := hkv
    have HC : Hid (∀ i (h : i < kids.length), ∃ b o, a = some ⟨b, o, none⟩ ∧ b < w.heap.size ∧ NetAt w b (o + i * 4) kids[i]) := hc
    obtain ⟨aa, acap, rfl, _⟩ := hav
    have hlen : kids.length ≤ 1000000000 := by
      have : ∀ l : List Stil.Net, l.length ≤ (l.map Stil.netSize).sum := by
        intro l
        induction l with
        | nil => simp
        | cons x r ih => simp only [List.map_cons, List.sum_cons, List.length_cons]; have : 1 ≤ Stil.netSize x := by (obtain ⟨_, _, _⟩ := x; rw [Stil.netSize_eq]; omega)
                         omega
      have := this kids; omega
    clear hc hsz
    go_enter Try.func36, Try.ntmps36
    go_wp2
    go_loopw [3, 4] (fun acc i wr => ∃ j : Nat, j ≤ kids.length ∧ i = .int .i64 j ∧ acc = .int .i64 (1 + ((kids.map Stil.netSize).take j).sum : Nat) ∧ Below (w.heap.size + 1) (w.alloc (.cells #[.int .i64 k, .int .i64 e.op, .slice aa e.args.length acap, .slice a kids.length cap] 52)) wr) (fun _ i _ => kids.length - (intOf i).toNat)
    case atStart => exact ⟨0, by omega, rfl, by simp, Below.refl _ _⟩
    case round =>
      obtain ⟨j, hj, rfl, rfl, hB⟩ := hrel
      have hz : w.heap.size < wr.heap.size := by have := hB.size; simp at this; omega
      have c0 : wr.cell? ⟨w.heap.size, 0, none⟩ = some (.int .i64 k) := by rw [hB.cell (p := ⟨w.heap.size, 0, none⟩) (by simp)]; simp [go_sem]
      have f0 : wr.frozen? ⟨w.heap.size, 0, none⟩ = false := by rw [hB.frozen (p := ⟨w.heap.size, 0, none⟩) (by simp)]; simp [go_sem]
      have c1 : wr.cell? ⟨w.heap.size, 1, none⟩ = some (.int .i64 e.op) := by rw [hB.cell (p := ⟨w.heap.size, 1, none⟩) (by simp)]; simp [go_sem]
      have f1 : wr.frozen? ⟨w.heap.size, 1, none⟩ = false := by rw [hB.frozen (p := ⟨w.heap.size, 1, none⟩) (by simp)]; simp [go_sem]
      have c2 : wr.cell? ⟨w.heap.size, 2, none⟩ = some (.slice aa e.args.length acap) := by rw [hB.cell (p := ⟨w.heap.size, 2, none⟩) (by simp)]; simp [go_sem]
      have f2 : wr.frozen? ⟨w.heap.size, 2, none⟩ = false := by rw [hB.frozen (p := ⟨w.heap.size, 2, none⟩) (by simp)]; simp [go_sem]
      have c3 : wr.cell? ⟨w.heap.size, 3, none⟩ = some (.slice a kids.length cap) := by rw [hB.cell (p := ⟨w.heap.size, 3, none⟩) (by simp)]; simp [go_sem]
      have f3 : wr.frozen? ⟨w.heap.size, 3, none⟩ = false := by rw [hB.frozen (p := ⟨w.heap.size, 3, none⟩) (by simp)]; simp [go_sem]
      have hbw : Below w.heap.size w wr := (below_alloc _ _).trans (hB.mono (by omega))
      have hle := sum_take_le (kids.map Stil.netSize) j
      by_cases hlt : j < kids.length
      · obtain ⟨b, o, rfl, hbl, hn⟩ := HC.out j hlt
        obtain ⟨x0, x1, av, kv, x2, x3, hav, hkv⟩ := (NetAt.below hbw _ _ _ hn hbl).open
        have hsucc := sum_take_succ (kids.map Stil.netSize) j (by simpa using hlt)
        have hle2 := sum_take_le (kids.map Stil.netSize) (j + 1)
        rw [List.getElem_map] at hsucc
        have HI : Hid (∀ W, Below wr.heap.size wr W → Calls Try.prog 36 #[.agg #[.int .i64 kids[j].kind, .int .i64 kids[j].one.op, av, kv]] W fun e w' => e = .returned (.int .i64 (Stil.netSize kids[j])) ∧ Below W.heap.size W w') := fun W hW => IH.out kids[j] (List.getElem_mem hlt) av kv W (hav.below hW) (hkv.below hW) (by omega)
        obtain ⟨s, hs⟩ : ∃ s, s = Stil.netSize kids[j] := ⟨_, rfl⟩
        obtain ⟨x, hx⟩ : ∃ x, x = kids[j] := ⟨_, rfl⟩
        rw [← hs] at HI hsucc
        rw [← hx] at HI x0 x1
        obtain ⟨aa', acap', rfl, _⟩ := hav
        obtain ⟨a', cap', rfl, _⟩ := hkv
        generalize hA1 : ((kids.map Stil.netSize).take j).sum = A1 at hsucc hle ⊢
        have HS : Hid (((kids.map Stil.netSize).take (j + 1)).sum = A1 + s) := hsucc
        have hsb : A1 + s ≤ 1000000000 := by omega
        clear hs hx hn hA1 hsucc hle2 hle hsum
        go_wp2_with (go_at_call 36; refine (HI.out _ (by (repeat (first | exact Below.refl _ _ | assumption | refine bl_alloc ?_ _ | refine bl_drewN ?_ _ | refine bl_drew ?_ | refine bl_grow ?_ _ _ | refine bl_set (Nat.le_refl _) ?_ _ | refine bl_call ?_ (by assumption))))).mono ?_; rintro e w2 ⟨rfl, hb2⟩)
        refine ⟨⟨j + 1, by omega, by go_num, ?_, hB.trans (hb2.mono hz)⟩, by simp [intOf]; omega⟩
        rw [HS.out]; congr 1; omega
      · go_wp2
        go_ret
        refine ⟨ret_int ?_, hbw⟩
        rw [HZ.out, List.take_of_length_le (by simp; omega)]
set_option maxHeartbeats 1000000 in
set_option maxRecDepth 100000 in
theorem s_netNone (n : Stil.Net) (av kv : Value) (w : World) (hav : DevsAt w av n.one.args) (hkv : NetsAt w kv n.kids) (_h1 : n.one.args.length ≤ 9223372036854775807) (_h2 : n.kids.length ≤ 9223372036854775807) :
    Calls Try.prog 35 #[.agg #[.int .i64 n.kind, .int .i64 n.one.op, av, kv]] w fun e w' => e = .returned (.bool (Stil.netNone n)) ∧ Below w.heap.size w w' := by
  obtain ⟨aa, acap, rfl, _⟩ := hav
  obtain ⟨a, cap, rfl, _⟩ := hkv
  obtain ⟨la, hla⟩ : ∃ la, la = n.one.args.length := ⟨_, rfl⟩
  obtain ⟨lk, hlk⟩ : ∃ lk, lk = n.kids.length := ⟨_, rfl⟩
  have HN : Hid (Stil.netNone n = (n.kind == 0 && n.one.op == 0 && la == 0 && lk == 0)) := by
    show _ = _
    unfold Stil.netNone; rw [hla, hlk]
  rw [← hla, ← hlk]
  rw [← hla] at _h1
  rw [← hlk] at _h2
  clear hla hlk
  go_enter Try.func35, Try.ntmps35
  go_wp2
  all_goals go_ret
  all_goals (refine ⟨ret_bool ?_, by (repeat (first | exact Below.refl _ _ | assumption | refine bl_alloc ?_ _ | refine bl_drewN ?_ _ | refine bl_drew ?_ | refine bl_grow ?_ _ _ | refine bl_set (Nat.le_refl _) ?_ _ | refine bl_call ?_ (by assumption)))⟩)
  all_goals rw [HN.out]
  all_goals go_light
  all_goals (rw [Bool.eq_iff_iff]; simp [*]; try omega)
theorem netSize_pos (x : Stil.Net) : 1 ≤ Stil.netSize x := by obtain ⟨_, _, _⟩ := x; rw [Stil.netSize_eq]; omega
theorem armSize_pos (x : Stil.Arm) : 1 ≤ Stil.armSize x := by obtain ⟨_, _, _⟩ := x; rw [Stil.armSize_eq]; omega
theorem len_le_sum {α : Type} (f : α → Nat) (hf : ∀ x, 1 ≤ f x) : ∀ l : List α, l.length ≤ (l.map f).sum
  | [] => by simp
  | x :: r => by have := len_le_sum f hf r; have := hf x; simp only [List.map_cons, List.sum_cons, List.length_cons]; omega
set_option maxHeartbeats 2000000 in
set_option maxRecDepth 100000 in
theorem s_armSize (n : Stil.Arm) : ∀ (av nv cv kv : Value) (w : World), DevsAt w av n.net.one.args → NetsAt w nv n.net.kids → ElemsAt w cv n.coils → ArmsAt w kv n.kids → Stil.armSize n ≤ 1000000000 → Stil.armFits n →
    Calls Try.prog 17 #[.agg #[.int .i64 n.net.kind, .int .i64 n.net.one.op, av, nv, cv, kv]] w fun e w' => e = .returned (.int .i64 (Stil.armSize n)) ∧ Below w.heap.size w w' := by
  induction n using Stil.arm_ind with
  | h n coils kids ih =>
    intro av nv cv kv w hav hnv hcv hkv hsz hft
    simp only at hav hnv hcv hkv
    obtain ⟨hf1, hf2, _, hf4, hf5⟩ := (Stil.armFits_eq _ _ _).1 hft
    obtain ⟨_, he, hf6, _⟩ := Stil.netFits_parts hf1
    have hf7 := he.2.1
    have IH : Hid (∀ x ∈ kids, ∀ (av nv cv kv : Value) (w : World), DevsAt w av x.net.one.args → NetsAt w nv x.net.kids → ElemsAt w cv x.coils → ArmsAt w kv x.kids → Stil.armSize x ≤ 1000000000 → Stil.armFits x →
      Calls Try.prog 17 #[.agg #[.int .i64 x.net.kind, .int .i64 x.net.one.op, av, nv, cv, kv]] w fun e w' => e = .returned (.int .i64 (Stil.armSize x)) ∧ Below w.heap.size w w') := ih
    have HF : Hid (∀ x ∈ kids, Stil.armFits x) := hf5
    clear ih hf5 hft he hf1
    obtain ⟨ns, hns⟩ : ∃ ns, ns = if Stil.netNone n then 0 else Stil.netSize n := ⟨_, rfl⟩
    have HZ : Hid (Stil.armSize ⟨n, coils, kids⟩ = 1 + coils.length + ns + (kids.map Stil.armSize).sum) := by show _ = _; rw [Stil.armSize_eq, hns]
    have hsum : 1 + coils.length + ns + (kids.map Stil.armSize).sum ≤ 1000000000 := by have := HZ.out; omega
    have HN1 : Hid (∀ W, Below w.heap.size w W → Calls Try.prog 35 #[.agg #[.int .i64 n.kind, .int .i64 n.one.op, av, nv]] W fun e w' => e = .returned (.bool (Stil.netNone n)) ∧ Below W.heap.size W w') := fun W hW => s_netNone n av nv W (hav.below hW) (hnv.below hW) (by omega) (by omega)
    have HN2 : Hid (Stil.netNone n = false → ∀ W, Below w.heap.size w W → Calls Try.prog 36 #[.agg #[.int .i64 n.kind, .int .i64 n.one.op, av, nv]] W fun e w' => e = .returned (.int .i64 ns) ∧ Below W.heap.size W w') := fun h0 W hW => by
      have e0 : ns = Stil.netSize n := by rw [hns, h0]; rfl
      rw [e0]
      exact s_netSize n av nv W (hav.below hW) (hnv.below hW) (by omega)
    have HN3 : Hid (Stil.netNone n = true → ns = 0) := fun h0 => by rw [hns, h0]; rfl
    obtain ⟨a, cap, rfl, hc⟩ := hkv
    have HC : Hid (∀ i (h : i < kids.length), ∃ b o, a = some ⟨b, o, none⟩ ∧ b < w.heap.size ∧ ArmAt w b (o + i * 6) kids[i]) := hc
    obtain ⟨aa, acap, rfl, _⟩ := hav
    obtain ⟨na, ncap, rfl, _⟩ := hnv
    obtain ⟨ca, ccap, rfl, _⟩ := hcv
    clear hc hsz hns
    cases hnn : Stil.netNone n
    · go_enter Try.func17, Try.ntmps17
      go_wp2_with (first | (go_at_call 35; refine (HN1.out _ (by (repeat (first | exact Below.refl _ _ | assumption | refine bl_alloc ?_ _ | refine bl_drewN ?_ _ | refine bl_drew ?_ | refine bl_grow ?_ _ _ | refine bl_set (Nat.le_refl _) ?_ _ | refine bl_call ?_ (by assumption))))).mono ?_; rw [hnn]; rintro e w1 ⟨rfl, hb1⟩; obtain ⟨hc, hf⟩ := bcell hb1) | (go_at_call 36; refine (HN2.out hnn _ (by (repeat (first | exact Below.refl _ _ | assumption | refine bl_alloc ?_ _ | refine bl_drewN ?_ _ | refine bl_drew ?_ | refine bl_grow ?_ _ _ | refine bl_set (Nat.le_refl _) ?_ _ | refine bl_call ?_ (by assumption))))).mono ?_; rintro e w2 ⟨rfl, hb2⟩))
      go_loopw [3, 4] (fun acc i wr => ∃ j : Nat, j ≤ kids.length ∧ i = .int .i64 j ∧ acc = .int .i64 (1 + coils.length + ns + ((kids.map Stil.armSize).take j).sum : Nat) ∧ Below (w.heap.size + 1) (w.alloc (.cells #[.int .i64 n.kind, .int .i64 n.one.op, .slice aa n.one.args.length acap, .slice na n.kids.length ncap, .slice ca coils.length ccap, .slice a kids.length cap] 55)) wr) (fun _ i _ => kids.length - (intOf i).toNat)
      case atStart => exact ⟨0, by omega, rfl, by simp, (hb1.mono (by simp)).trans (hb2.mono (by have := hb1.size; simpa using this))⟩
      case round =>
        clear hc hf hb1 hb2
        obtain ⟨j, hj, rfl, rfl, hB⟩ := hrel
        have hz : w.heap.size < wr.heap.size := by have := hB.size; simp at this; omega
        have c0 : wr.cell? ⟨w.heap.size, 0, none⟩ = some (.int .i64 n.kind) := by rw [hB.cell (p := ⟨w.heap.size, 0, none⟩) (by simp)]; simp [go_sem]
        have f0 : wr.frozen? ⟨w.heap.size, 0, none⟩ = false := by rw [hB.frozen (p := ⟨w.heap.size, 0, none⟩) (by simp)]; simp [go_sem]
        have c1 : wr.cell? ⟨w.heap.size, 1, none⟩ = some (.int .i64 n.one.op) := by rw [hB.cell (p := ⟨w.heap.size, 1, none⟩) (by simp)]; simp [go_sem]
        have f1 : wr.frozen? ⟨w.heap.size, 1, none⟩ = false := by rw [hB.frozen (p := ⟨w.heap.size, 1, none⟩) (by simp)]; simp [go_sem]
        have c2 : wr.cell? ⟨w.heap.size, 2, none⟩ = some (.slice aa n.one.args.length acap) := by rw [hB.cell (p := ⟨w.heap.size, 2, none⟩) (by simp)]; simp [go_sem]
        have f2 : wr.frozen? ⟨w.heap.size, 2, none⟩ = false := by rw [hB.frozen (p := ⟨w.heap.size, 2, none⟩) (by simp)]; simp [go_sem]
        have c3 : wr.cell? ⟨w.heap.size, 3, none⟩ = some (.slice na n.kids.length ncap) := by rw [hB.cell (p := ⟨w.heap.size, 3, none⟩) (by simp)]; simp [go_sem]
        have f3 : wr.frozen? ⟨w.heap.size, 3, none⟩ = false := by rw [hB.frozen (p := ⟨w.heap.size, 3, none⟩) (by simp)]; simp [go_sem]
        have c4 : wr.cell? ⟨w.heap.size, 4, none⟩ = some (.slice ca coils.length ccap) := by rw [hB.cell (p := ⟨w.heap.size, 4, none⟩) (by simp)]; simp [go_sem]
        have f4 : wr.frozen? ⟨w.heap.size, 4, none⟩ = false := by rw [hB.frozen (p := ⟨w.heap.size, 4, none⟩) (by simp)]; simp [go_sem]
        have c5 : wr.cell? ⟨w.heap.size, 5, none⟩ = some (.slice a kids.length cap) := by rw [hB.cell (p := ⟨w.heap.size, 5, none⟩) (by simp)]; simp [go_sem]
        have f5 : wr.frozen? ⟨w.heap.size, 5, none⟩ = false := by rw [hB.frozen (p := ⟨w.heap.size, 5, none⟩) (by simp)]; simp [go_sem]
        have hbw : Below w.heap.size w wr := (below_alloc _ _).trans (hB.mono (by omega))
        have hle := sum_take_le (kids.map Stil.armSize) j
        by_cases hlt : j < kids.length
        · obtain ⟨b, o, rfl, hbl, hn⟩ := HC.out j hlt
          obtain ⟨hna, cv, kv, x4, x5, hcv, hkv⟩ := (ArmAt.below hbw _ _ _ hn hbl).open
          obtain ⟨x0, x1, av, nv, x2, x3, hav, hnv⟩ := hna.open
          have hsucc := sum_take_succ (kids.map Stil.armSize) j (by simpa using hlt)
          have hle2 := sum_take_le (kids.map Stil.armSize) (j + 1)
          rw [List.getElem_map] at hsucc
          have HI : Hid (∀ W, Below wr.heap.size wr W → Calls Try.prog 17 #[.agg #[.int .i64 kids[j].net.kind, .int .i64 kids[j].net.one.op, av, nv, cv, kv]] W fun e w' => e = .returned (.int .i64 (Stil.armSize kids[j])) ∧ Below W.heap.size W w') := fun W hW => IH.out kids[j] (List.getElem_mem hlt) av nv cv kv W (hav.below hW) (hnv.below hW) (hcv.below hW) (hkv.below hW) (by omega) (HF.out _ (List.getElem_mem hlt))
          obtain ⟨s, hs⟩ : ∃ s, s = Stil.armSize kids[j] := ⟨_, rfl⟩
          obtain ⟨x, hx⟩ : ∃ x, x = kids[j] := ⟨_, rfl⟩
          rw [← hs] at HI hsucc
          rw [← hx] at HI x0 x1
          obtain ⟨q1, q2, rfl, _⟩ := hav
          obtain ⟨q3, q4, rfl, _⟩ := hnv
          obtain ⟨q5, q6, rfl, _⟩ := hcv
          obtain ⟨q7, q8, rfl, _⟩ := hkv
          generalize hA1 : ((kids.map Stil.armSize).take j).sum = A1 at hsucc hle ⊢
          have HS : Hid (((kids.map Stil.armSize).take (j + 1)).sum = A1 + s) := hsucc
          have hsb : 1 + coils.length + ns + A1 + s ≤ 1000000000 := by omega
          clear hs hx hn hna hA1 hsucc hle2 hle hsum
          go_wp2_with (go_at_call 17; refine (HI.out _ (by (repeat (first | exact Below.refl _ _ | assumption | refine bl_alloc ?_ _ | refine bl_drewN ?_ _ | refine bl_drew ?_ | refine bl_grow ?_ _ _ | refine bl_set (Nat.le_refl _) ?_ _ | refine bl_call ?_ (by assumption))))).mono ?_; rintro e w2 ⟨rfl, hb2⟩)
          refine ⟨⟨j + 1, by omega, by go_num, ?_, hB.trans (hb2.mono hz)⟩, by simp [intOf]; omega⟩
          rw [HS.out]; congr 1; omega
        · go_wp2
          go_ret
          refine ⟨ret_int ?_, hbw⟩
          rw [HZ.out, List.take_of_length_le (by simp; omega)]
    · have hns0 := HN3.out hnn
      subst hns0
      go_enter Try.func17, Try.ntmps17
      go_wp2_with (first | (go_at_call 35; refine (HN1.out _ (by (repeat (first | exact Below.refl _ _ | assumption | refine bl_alloc ?_ _ | refine bl_drewN ?_ _ | refine bl_drew ?_ | refine bl_grow ?_ _ _ | refine bl_set (Nat.le_refl _) ?_ _ | refine bl_call ?_ (by assumption))))).mono ?_; rw [hnn]; rintro e w1 ⟨rfl, hb1⟩; obtain ⟨hc, hf⟩ := bcell hb1))
      go_loopw [3, 4] (fun acc i wr => ∃ j : Nat, j ≤ kids.length ∧ i = .int .i64 j ∧ acc = .int .i64 (1 + coils.length + 0 + ((kids.map Stil.armSize).take j).sum : Nat) ∧ Below (w.heap.size + 1) (w.alloc (.cells #[.int .i64 n.kind, .int .i64 n.one.op, .slice aa n.one.args.length acap, .slice na n.kids.length ncap, .slice ca coils.length ccap, .slice a kids.length cap] 55)) wr) (fun _ i _ => kids.length - (intOf i).toNat)
      case atStart => exact ⟨0, by omega, rfl, by simp, hb1.mono (by simp)⟩
      case round =>
        clear hc hf hb1
        obtain ⟨j, hj, rfl, rfl, hB⟩ := hrel
        have hz : w.heap.size < wr.heap.size := by have := hB.size; simp at this; omega
        have c0 : wr.cell? ⟨w.heap.size, 0, none⟩ = some (.int .i64 n.kind) := by rw [hB.cell (p := ⟨w.heap.size, 0, none⟩) (by simp)]; simp [go_sem]
        have f0 : wr.frozen? ⟨w.heap.size, 0, none⟩ = false := by rw [hB.frozen (p := ⟨w.heap.size, 0, none⟩) (by simp)]; simp [go_sem]
        have c1 : wr.cell? ⟨w.heap.size, 1, none⟩ = some (.int .i64 n.one.op) := by rw [hB.cell (p := ⟨w.heap.size, 1, none⟩) (by simp)]; simp [go_sem]
        have f1 : wr.frozen? ⟨w.heap.size, 1, none⟩ = false := by rw [hB.frozen (p := ⟨w.heap.size, 1, none⟩) (by simp)]; simp [go_sem]
        have c2 : wr.cell? ⟨w.heap.size, 2, none⟩ = some (.slice aa n.one.args.length acap) := by rw [hB.cell (p := ⟨w.heap.size, 2, none⟩) (by simp)]; simp [go_sem]
        have f2 : wr.frozen? ⟨w.heap.size, 2, none⟩ = false := by rw [hB.frozen (p := ⟨w.heap.size, 2, none⟩) (by simp)]; simp [go_sem]
        have c3 : wr.cell? ⟨w.heap.size, 3, none⟩ = some (.slice na n.kids.length ncap) := by rw [hB.cell (p := ⟨w.heap.size, 3, none⟩) (by simp)]; simp [go_sem]
        have f3 : wr.frozen? ⟨w.heap.size, 3, none⟩ = false := by rw [hB.frozen (p := ⟨w.heap.size, 3, none⟩) (by simp)]; simp [go_sem]
        have c4 : wr.cell? ⟨w.heap.size, 4, none⟩ = some (.slice ca coils.length ccap) := by rw [hB.cell (p := ⟨w.heap.size, 4, none⟩) (by simp)]; simp [go_sem]
        have f4 : wr.frozen? ⟨w.heap.size, 4, none⟩ = false := by rw [hB.frozen (p := ⟨w.heap.size, 4, none⟩) (by simp)]; simp [go_sem]
        have c5 : wr.cell? ⟨w.heap.size, 5, none⟩ = some (.slice a kids.length cap) := by rw [hB.cell (p := ⟨w.heap.size, 5, none⟩) (by simp)]; simp [go_sem]
        have f5 : wr.frozen? ⟨w.heap.size, 5, none⟩ = false := by rw [hB.frozen (p := ⟨w.heap.size, 5, none⟩) (by simp)]; simp [go_sem]
        have hbw : Below w.heap.size w wr := (below_alloc _ _).trans (hB.mono (by omega))
        have hle := sum_take_le (kids.map Stil.armSize) j
        by_cases hlt : j < kids.length
        · obtain ⟨b, o, rfl, hbl, hn⟩ := HC.out j hlt
          obtain ⟨hna, cv, kv, x4, x5, hcv, hkv⟩ := (ArmAt.below hbw _ _ _ hn hbl).open
          obtain ⟨x0, x1, av, nv, x2, x3, hav, hnv⟩ := hna.open
          have hsucc := sum_take_succ (kids.map Stil.armSize) j (by simpa using hlt)
          have hle2 := sum_take_le (kids.map Stil.armSize) (j + 1)
          rw [List.getElem_map] at hsucc
          have HI : Hid (∀ W, Below wr.heap.size wr W → Calls Try.prog 17 #[.agg #[.int .i64 kids[j].net.kind, .int .i64 kids[j].net.one.op, av, nv, cv, kv]] W fun e w' => e = .returned (.int .i64 (Stil.armSize kids[j])) ∧ Below W.heap.size W w') := fun W hW => IH.out kids[j] (List.getElem_mem hlt) av nv cv kv W (hav.below hW) (hnv.below hW) (hcv.below hW) (hkv.below hW) (by omega) (HF.out _ (List.getElem_mem hlt))
          obtain ⟨s, hs⟩ : ∃ s, s = Stil.armSize kids[j] := ⟨_, rfl⟩
          obtain ⟨x, hx⟩ : ∃ x, x = kids[j] := ⟨_, rfl⟩
          rw [← hs] at HI hsucc
          rw [← hx] at HI x0 x1
          obtain ⟨q1, q2, rfl, _⟩ := hav
          obtain ⟨q3, q4, rfl, _⟩ := hnv
          obtain ⟨q5, q6, rfl, _⟩ := hcv
          obtain ⟨q7, q8, rfl, _⟩ := hkv
          generalize hA1 : ((kids.map Stil.armSize).take j).sum = A1 at hsucc hle ⊢
          have HS : Hid (((kids.map Stil.armSize).take (j + 1)).sum = A1 + s) := hsucc
          have hsb : 1 + coils.length + 0 + A1 + s ≤ 1000000000 := by omega
          clear hs hx hn hna hA1 hsucc hle2 hle hsum
          go_wp2_with (go_at_call 17; refine (HI.out _ (by (repeat (first | exact Below.refl _ _ | assumption | refine bl_alloc ?_ _ | refine bl_drewN ?_ _ | refine bl_drew ?_ | refine bl_grow ?_ _ _ | refine bl_set (Nat.le_refl _) ?_ _ | refine bl_call ?_ (by assumption))))).mono ?_; rintro e w2 ⟨rfl, hb2⟩)
          refine ⟨⟨j + 1, by omega, by go_num, ?_, hB.trans (hb2.mono hz)⟩, by simp [intOf]; omega⟩
          rw [HS.out]; congr 1; omega
        · go_wp2
          go_ret
          refine ⟨ret_int ?_, hbw⟩
          rw [HZ.out, List.take_of_length_le (by simp; omega)]
end Go.Proofs.Ytpeojflemfppgaa
/- Contracts of the specification's chapter 3: when two contacts, nets, ladders are the same. -/
namespace Go.Proofs.Ytpeojflemfppgaa
open Go.RowKit Go.Sort Go.BigFrame
open Classical in
set_option maxHeartbeats 1000000 in
set_option maxRecDepth 100000 in
theorem s_elemSame (op oq : Int) (ds fs : List Stil.Dev) (av bv : Value) (w : World) (hat : DevsAt w av ds) (hau : DevsAt w bv fs) (hl : ds.length ≤ 1048576) (hk : fs.length ≤ 1048576) :
    Calls Try.prog 44 #[.agg #[.int .i64 op, av], .agg #[.int .i64 oq, bv]] w fun r w' => r = .returned (.bool (decide ((⟨op, ds⟩ : Stil.Elem) = ⟨oq, fs⟩))) ∧ Below w.heap.size w w' := by
  obtain ⟨a, cap, rfl, hc1⟩ := hat
  obtain ⟨b, cap2, rfl, hc2⟩ := hau
  by_cases ho : op = oq
  · subst ho
    by_cases hlen : ds.length = fs.length
    · have HA : Hid (∀ i (h : i < ds.length), ∃ b o, a = some ⟨b, o, none⟩ ∧ b < w.heap.size ∧ DevAt w b (o + i * 3) ds[i]) := hc1
      have HB : Hid (∀ i (h : i < fs.length), ∃ b' o, b = some ⟨b', o, none⟩ ∧ b' < w.heap.size ∧ DevAt w b' (o + i * 3) fs[i]) := hc2
      clear hc1 hc2
      have hlb : ((ds.length : Int) != (fs.length : Int)) = false := by rw [bne_eq_false_iff_eq]; omega
      have hl1 : ds.length ≤ fs.length := by omega
      have hl2 : fs.length ≤ ds.length := by omega
      clear hlen
      go_enter Try.func44, Try.ntmps44
      go_wp2
      go_loopw [5] (fun i wr => ∃ k : Nat, k ≤ ds.length ∧ i = .int .i64 k ∧ ds.take k = fs.take k ∧ Below (w.heap.size + 2) ((w.alloc (.cells #[.int .i64 op, .slice a ds.length cap] 49)).alloc (.cells #[.int .i64 op, .slice b fs.length cap2] 49)) wr) (fun i _ => ds.length - (intOf i).toNat)
      case atStart => exact ⟨0, by omega, rfl, by simp, Below.refl _ _⟩
      case round =>
        obtain ⟨k, hk, rfl, heq, hB⟩ := hrel
        have hz0 : w.heap.size < wr.heap.size := by have := hB.size; simp at this; omega
        have c00 : wr.cell? ⟨w.heap.size, 0, none⟩ = some (.int .i64 op) := by rw [hB.cell (p := ⟨w.heap.size, 0, none⟩) (by simp)]; simp [go_sem]
        have f00 : wr.frozen? ⟨w.heap.size, 0, none⟩ = false := by rw [hB.frozen (p := ⟨w.heap.size, 0, none⟩) (by simp)]; simp [go_sem]
        have c01 : wr.cell? ⟨w.heap.size, 1, none⟩ = some (.slice a ds.length cap) := by rw [hB.cell (p := ⟨w.heap.size, 1, none⟩) (by simp)]; simp [go_sem]
        have f01 : wr.frozen? ⟨w.heap.size, 1, none⟩ = false := by rw [hB.frozen (p := ⟨w.heap.size, 1, none⟩) (by simp)]; simp [go_sem]
        have hz1 : w.heap.size + 1 < wr.heap.size := by have := hB.size; simp at this; omega
        have c10 : wr.cell? ⟨w.heap.size + 1, 0, none⟩ = some (.int .i64 op) := by rw [hB.cell (p := ⟨w.heap.size + 1, 0, none⟩) (by simp)]; simp [go_sem]
        have f10 : wr.frozen? ⟨w.heap.size + 1, 0, none⟩ = false := by rw [hB.frozen (p := ⟨w.heap.size + 1, 0, none⟩) (by simp)]; simp [go_sem]
        have c11 : wr.cell? ⟨w.heap.size + 1, 1, none⟩ = some (.slice b fs.length cap2) := by rw [hB.cell (p := ⟨w.heap.size + 1, 1, none⟩) (by simp)]; simp [go_sem]
        have f11 : wr.frozen? ⟨w.heap.size + 1, 1, none⟩ = false := by rw [hB.frozen (p := ⟨w.heap.size + 1, 1, none⟩) (by simp)]; simp [go_sem]
        have hbw : Below w.heap.size w wr := (bl_alloc (below_alloc _ _) _).trans (hB.mono (by omega))
        have HE : Hid (ds.take k = fs.take k) := heq
        clear heq
        by_cases hlt : k < ds.length
        · have hlt2 : k < fs.length := by omega
          obtain ⟨b1, o1, rfl, hbl1, hd1⟩ := HA.out k hlt
          obtain ⟨b2, o2, rfl, hbl2, hd2⟩ := HB.out k hlt2
          obtain ⟨x0, x1, x2⟩ := hd1.below hbw hbl1
          obtain ⟨y0, y1, y2⟩ := hd2.below hbw hbl2
          by_cases hxy : ds[k] = fs[k]
          · have HXY : Hid (ds.take (k + 1) = fs.take (k + 1)) := by
              show _ = _
              rw [List.take_succ_eq_append_getElem hlt, List.take_succ_eq_append_getElem hlt2, HE.out, hxy]
            rw [← hxy] at y0 y1 y2
            obtain ⟨x, hx⟩ : ∃ x, x = ds[k] := ⟨_, rfl⟩
            rw [← hx] at x0 x1 x2 y0 y1 y2
            clear hx hxy hd1 hd2
            go_wp2
            go_region
            all_goals go_wp2
            exact ⟨⟨k + 1, by omega, by go_num, HXY.out, hB.drew⟩, by simp [intOf]; omega⟩
          · have HXY : Hid (¬ ds = fs) := by
              show ¬ _
              intro h; subst h; exact hxy rfl
            obtain ⟨x, hx⟩ : ∃ x, x = ds[k] := ⟨_, rfl⟩
            obtain ⟨y, hy⟩ : ∃ y, y = fs[k] := ⟨_, rfl⟩
            rw [← hx] at x0 x1 x2
            rw [← hy] at y0 y1 y2
            rw [← hx, ← hy] at hxy
            have hcase : (x.kind == y.kind) = false ∨ (x.kind = y.kind ∧ (x.n == y.n) = false) ∨ (x.kind = y.kind ∧ x.n = y.n ∧ (x.p == y.p) = false) := by
              simp only [beq_eq_false_iff_ne]
              by_cases h1 : x.kind = y.kind
              · by_cases h2 : x.n = y.n
                · exact .inr (.inr ⟨h1, h2, fun h3 => hxy ((dev_eta _ _).2 ⟨h1, h2, h3⟩)⟩)
                · exact .inr (.inl ⟨h1, h2⟩)
              · exact .inl h1
            clear hx hy hxy hd1 hd2
            rcases hcase with h1 | ⟨h1, h2⟩ | ⟨h1, h2, h3⟩
            · go_wp2
              go_region
              all_goals go_wp2
              go_ret
              exact ⟨ret_bool (by rw [decide_eq_false (fun h => HXY.out (Stil.Elem.mk.inj h).2)]), hbw.drew⟩
            · rw [← h1] at y0
              clear h1
              go_wp2
              go_region
              all_goals go_wp2
              go_ret
              exact ⟨ret_bool (by rw [decide_eq_false (fun h => HXY.out (Stil.Elem.mk.inj h).2)]), hbw.drew⟩
            · rw [← h1] at y0
              rw [← h2] at y1
              clear h1 h2
              go_wp2
              go_region
              all_goals go_wp2
              go_ret
              exact ⟨ret_bool (by rw [decide_eq_false (fun h => HXY.out (Stil.Elem.mk.inj h).2)]), hbw.drew⟩
        · go_wp2
          go_ret
          have e : ds = fs := by
            have := HE.out
            rwa [List.take_of_length_le (by omega), List.take_of_length_le (by omega)] at this
          exact ⟨ret_bool (by rw [decide_eq_true (by rw [e])]), hbw⟩
    · have hlb : ((ds.length : Int) != (fs.length : Int)) = true := by rw [bne_iff_ne]; omega
      have HN : Hid (¬ ds = fs) := by show ¬ _; intro h; exact hlen (by rw [h])
      clear hlen hc1 hc2
      go_enter Try.func44, Try.ntmps44
      go_wp2
      go_ret
      exact ⟨ret_bool (by rw [decide_eq_false (fun h => HN.out (Stil.Elem.mk.inj h).2)]), by (repeat (first | exact Below.refl _ _ | assumption | refine bl_alloc ?_ _ | refine bl_drewN ?_ _ | refine bl_drew ?_ | refine bl_grow ?_ _ _ | refine bl_set (Nat.le_refl _) ?_ _ | refine bl_call ?_ (by assumption)))⟩
  · have hob : (op != oq) = true := by rw [bne_iff_ne]; exact ho
    have HN : Hid (¬ op = oq) := ho
    clear ho hc1 hc2
    go_enter Try.func44, Try.ntmps44
    go_wp2
    go_ret
    exact ⟨ret_bool (by rw [decide_eq_false (fun h => HN.out (Stil.Elem.mk.inj h).1)]), by (repeat (first | exact Below.refl _ _ | assumption | refine bl_alloc ?_ _ | refine bl_drewN ?_ _ | refine bl_drew ?_ | refine bl_grow ?_ _ _ | refine bl_set (Nat.le_refl _) ?_ _ | refine bl_call ?_ (by assumption)))⟩
end Go.Proofs.Ytpeojflemfppgaa
/- Contracts of the specification's chapter 3: when two ladders are the same, given it of their arms. -/
namespace Go.Proofs.Ytpeojflemfppgaa
open Go.RowKit Go.Sort Go.BigFrame
open Classical in
set_option maxHeartbeats 1000000 in
set_option maxRecDepth 100000 in
theorem s_armsSame (es fs : List Stil.Arm) (ih : ∀ x ∈ es, ∀ y ∈ fs, ∀ (av nv cv kv avq nvq cvq kvq : Value) (w : World), DevsAt w av x.net.one.args → NetsAt w nv x.net.kids → ElemsAt w cv x.coils → ArmsAt w kv x.kids → DevsAt w avq y.net.one.args → NetsAt w nvq y.net.kids → ElemsAt w cvq y.coils → ArmsAt w kvq y.kids → Calls Try.prog 21 #[.agg #[.int .i64 x.net.kind, .int .i64 x.net.one.op, av, nv, cv, kv], .agg #[.int .i64 y.net.kind, .int .i64 y.net.one.op, avq, nvq, cvq, kvq]] w fun e w' => e = .returned (.bool (decide (x = y))) ∧ Below w.heap.size w w') (v u : Value) (w : World) (hat : ArmsAt w v es) (hau : ArmsAt w u fs) (hl : es.length ≤ 1048576) (hm : fs.length ≤ 1048576) :
    Calls Try.prog 11 #[v, u] w fun e w' => e = .returned (.bool (decide (es = fs))) ∧ Below w.heap.size w w' := by
  obtain ⟨a, cap, rfl, hc⟩ := hat
  obtain ⟨a2, cap2, rfl, hc2⟩ := hau
  by_cases hlen : es.length = fs.length
  · have HA : Hid (∀ i (h : i < es.length), ∃ b o, a = some ⟨b, o, none⟩ ∧ b < w.heap.size ∧ ArmAt w b (o + i * 6) es[i]) := hc
    have HB : Hid (∀ i (h : i < fs.length), ∃ b o, a2 = some ⟨b, o, none⟩ ∧ b < w.heap.size ∧ ArmAt w b (o + i * 6) fs[i]) := hc2
    have IH : Hid (∀ x ∈ es, ∀ y ∈ fs, ∀ (av nv cv kv avq nvq cvq kvq : Value) (w : World), DevsAt w av x.net.one.args → NetsAt w nv x.net.kids → ElemsAt w cv x.coils → ArmsAt w kv x.kids → DevsAt w avq y.net.one.args → NetsAt w nvq y.net.kids → ElemsAt w cvq y.coils → ArmsAt w kvq y.kids → Calls Try.prog 21 #[.agg #[.int .i64 x.net.kind, .int .i64 x.net.one.op, av, nv, cv, kv], .agg #[.int .i64 y.net.kind, .int .i64 y.net.one.op, avq, nvq, cvq, kvq]] w fun e w' => e = .returned (.bool (decide (x = y))) ∧ Below w.heap.size w w') := ih
    clear hc hc2 ih
    have hlb : ((es.length : Int) != (fs.length : Int)) = false := by rw [bne_eq_false_iff_eq]; omega
    have hl1 : es.length ≤ fs.length := by omega
    have hl2 : fs.length ≤ es.length := by omega
    clear hlen
    go_enter Try.func11, Try.ntmps11
    go_wp2
    go_loopw [5] (fun i wr => ∃ k : Nat, k ≤ es.length ∧ i = .int .i64 k ∧ es.take k = fs.take k ∧ Below w.heap.size w wr) (fun i _ => es.length - (intOf i).toNat)
    case atStart => exact ⟨0, by omega, rfl, by simp, Below.refl _ _⟩
    case round =>
      obtain ⟨k, hk, rfl, heq, hb⟩ := hrel
      have HE : Hid (es.take k = fs.take k) := heq
      clear heq
      by_cases hlt : k < es.length
      · have hlt2 : k < fs.length := by omega
        obtain ⟨b, o, rfl, hbl, hn⟩ := HA.out k hlt
        have hn2 := (ArmAt.below hb _ _ _ hn hbl)
        obtain ⟨b2, o2, rfl, hbl2, hm1⟩ := HB.out k hlt2
        have hm2 := (ArmAt.below hb _ _ _ hm1 hbl2)
        obtain ⟨hna, cv, kv, x4, x5, hcv, hkv⟩ := (hn2).open
        obtain ⟨x0, x1, av, nv, x2, x3, hav, hnv⟩ := hna.open
        obtain ⟨hnaq, cvq, kvq, y4, y5, hcvq, hkvq⟩ := (hm2).open
        obtain ⟨y0, y1, avq, nvq, y2, y3, havq, hnvq⟩ := hnaq.open
        obtain ⟨bb, hbb⟩ : ∃ bb, decide (es[k] = fs[k]) = bb := ⟨_, rfl⟩
        have HI : Hid (∀ W, Below wr.heap.size wr W → Calls Try.prog 21 #[.agg #[.int .i64 es[k].net.kind, .int .i64 es[k].net.one.op, av, nv, cv, kv], .agg #[.int .i64 fs[k].net.kind, .int .i64 fs[k].net.one.op, avq, nvq, cvq, kvq]] W fun e w' => e = .returned (.bool (decide (es[k] = fs[k]))) ∧ Below W.heap.size W w') := fun W hW => IH.out es[k] (List.getElem_mem hlt) fs[k] (List.getElem_mem hlt2) _ _ _ _ _ _ _ _ W (hav.below hW) (hnv.below hW) (hcv.below hW) (hkv.below hW) (havq.below hW) (hnvq.below hW) (hcvq.below hW) (hkvq.below hW)
        have HT : Hid (bb = true → es.take (k + 1) = fs.take (k + 1)) := by
          show _ → _
          intro h
          rw [h, decide_eq_true_iff] at hbb
          rw [List.take_succ_eq_append_getElem hlt, List.take_succ_eq_append_getElem hlt2, HE.out, hbb]
        have HF : Hid (bb = false → ¬ es = fs) := by
          show _ → _
          intro h he
          rw [h, decide_eq_false_iff_not] at hbb
          subst he
          exact hbb rfl
        rw [hbb] at HI
        obtain ⟨x, hx⟩ : ∃ x, x = es[k] := ⟨_, rfl⟩
        obtain ⟨y, hy⟩ : ∃ y, y = fs[k] := ⟨_, rfl⟩
        rw [← hx] at HI x0 x1
        rw [← hy] at HI y0 y1
        clear hx hy hbb hn hn2 hm1 hm2 HE
        · obtain ⟨p0, r0, rfl, _⟩ := hav
          obtain ⟨pq0, rq0, rfl, _⟩ := havq
          obtain ⟨p1, r1, rfl, _⟩ := hnv
          obtain ⟨pq1, rq1, rfl, _⟩ := hnvq
          obtain ⟨p2, r2, rfl, _⟩ := hcv
          obtain ⟨pq2, rq2, rfl, _⟩ := hcvq
          obtain ⟨p3, r3, rfl, _⟩ := hkv
          obtain ⟨pq3, rq3, rfl, _⟩ := hkvq
          have rx0 := cell_regrown x0
          have ry0 := cell_regrown y0
          have rx1 := cell_regrown x1
          have ry1 := cell_regrown y1
          have rx2 := cell_regrown x2
          have ry2 := cell_regrown y2
          have rx3 := cell_regrown x3
          have ry3 := cell_regrown y3
          have rx4 := cell_regrown x4
          have ry4 := cell_regrown y4
          have rx5 := cell_regrown x5
          have ry5 := cell_regrown y5
          cases bb
          · have HF2 : Hid (¬ es = fs) := HF.out rfl
            clear HF HT
            go_wp2
            refine wp_region_quiet_below (by kernel_rfl) (by kernel_rfl) ?_
            repeat (go_big_quiet_step ((exact Calls.regrown_of (HI.out _ (by (repeat (first | exact Below.refl _ _ | assumption | refine bl_alloc ?_ _ | refine bl_drewN ?_ _ | refine bl_drew ?_ | refine bl_grow ?_ _ _ | refine bl_set (Nat.le_refl _) ?_ _ | refine bl_call ?_ (by assumption))))))))
            refine wpQuiet_nil ?_
            intro _ hw'
            obtain ⟨⟨dq, osq⟩, hw''⟩ := hw'
            subst hw''
            go_wp2
            go_ret
            exact ⟨ret_bool (by rw [decide_eq_false HF2.out]), bl_grow hb _ _⟩
          · have HT2 : Hid (es.take (k + 1) = fs.take (k + 1)) := HT.out rfl
            clear HF HT
            go_wp2
            refine wp_region_quiet_below (by kernel_rfl) (by kernel_rfl) ?_
            repeat (go_big_quiet_step ((exact Calls.regrown_of (HI.out _ (by (repeat (first | exact Below.refl _ _ | assumption | refine bl_alloc ?_ _ | refine bl_drewN ?_ _ | refine bl_drew ?_ | refine bl_grow ?_ _ _ | refine bl_set (Nat.le_refl _) ?_ _ | refine bl_call ?_ (by assumption))))))))
            refine wpQuiet_nil ?_
            intro _ hw'
            obtain ⟨⟨dq, osq⟩, hw''⟩ := hw'
            subst hw''
            go_wp2
            exact ⟨⟨k + 1, by omega, by go_num, HT2.out, bl_grow hb _ _⟩, by simp [intOf]; omega⟩
      · go_wp2
        go_ret
        have e : es = fs := by
          have := HE.out
          rwa [List.take_of_length_le (by omega), List.take_of_length_le (by omega)] at this
        exact ⟨ret_bool (by rw [decide_eq_true e]), hb⟩
  · have hlb : ((es.length : Int) != (fs.length : Int)) = true := by rw [bne_iff_ne]; omega
    have HN : Hid (¬ es = fs) := by show ¬ _; intro h; exact hlen (by rw [h])
    clear hlen hc hc2 ih
    go_enter Try.func11, Try.ntmps11
    go_wp2
    go_ret
    exact ⟨ret_bool (by rw [decide_eq_false HN.out]), Below.refl _ _⟩
end Go.Proofs.Ytpeojflemfppgaa
/- Contracts of the specification's chapter 3: when two nets are the same. -/
namespace Go.Proofs.Ytpeojflemfppgaa
open Go.RowKit Go.Sort Go.BigFrame
open Classical in
theorem s_elemSame' (x y : Stil.Elem) (hx : x.fits) (hy : y.fits) : ∀ (av avq : Value) (w : World), DevsAt w av x.args → DevsAt w avq y.args → Calls Try.prog 44 #[.agg #[.int .i64 x.op, av], .agg #[.int .i64 y.op, avq]] w fun e w' => e = .returned (.bool (decide (x = y))) ∧ Below w.heap.size w w' := by
  intro av avq w hav havq
  obtain ⟨op, ds⟩ := x
  obtain ⟨oq, fs⟩ := y
  exact s_elemSame op oq ds fs av avq w hav havq hx.2.1 hy.2.1
open Classical in
set_option maxHeartbeats 2000000 in
set_option maxRecDepth 100000 in
theorem s_netSame (n : Stil.Net) : ∀ m : Stil.Net, Stil.netFits n → Stil.netFits m → ∀ (av kv avq kvq : Value) (w : World), DevsAt w av n.one.args → NetsAt w kv n.kids → DevsAt w avq m.one.args → NetsAt w kvq m.kids → Calls Try.prog 43 #[.agg #[.int .i64 n.kind, .int .i64 n.one.op, av, kv], .agg #[.int .i64 m.kind, .int .i64 m.one.op, avq, kvq]] w fun e w' => e = .returned (.bool (decide (n = m))) ∧ Below w.heap.size w w' := by
  induction n using Stil.net_ind with
  | h k e kids ih =>
    intro m hft hfm av kv avq kvq w hav hkv havq hkvq
    obtain ⟨k2, f, kids2⟩ := m
    obtain ⟨_, he, hl, hk⟩ := (Stil.netFits_eq _ _ _).1 hft
    obtain ⟨_, he2, hl2, hk2⟩ := (Stil.netFits_eq _ _ _).1 hfm
    simp only at hav hkv havq hkvq
    have H1 : Hid (∀ W, Below w.heap.size w W → Calls Try.prog 44 #[.agg #[.int .i64 e.op, av], .agg #[.int .i64 f.op, avq]] W fun r w' => r = .returned (.bool (decide (e = f))) ∧ Below W.heap.size W w') := fun W hW => s_elemSame' e f he he2 av avq W (hav.below hW) (havq.below hW)
    have IH : Hid (∀ x ∈ kids, ∀ y ∈ kids2, ∀ (av kv avq kvq : Value) (w : World), DevsAt w av x.one.args → NetsAt w kv x.kids → DevsAt w avq y.one.args → NetsAt w kvq y.kids → Calls Try.prog 43 #[.agg #[.int .i64 x.kind, .int .i64 x.one.op, av, kv], .agg #[.int .i64 y.kind, .int .i64 y.one.op, avq, kvq]] w fun e w' => e = .returned (.bool (decide (x = y))) ∧ Below w.heap.size w w') := fun x hx y hy => ih x hx y (hk x hx) (hk2 y hy)
    obtain ⟨p0, r0, rfl, _⟩ := hav
    obtain ⟨a, cap, rfl, hc⟩ := hkv
    obtain ⟨p2, r2, rfl, _⟩ := havq
    obtain ⟨a2, cap2, rfl, hc2⟩ := hkvq
    clear ih hft he hk hfm he2 hk2
    by_cases hkk : k = k2
    · subst hkk
      cases hd : decide (e = f)
      · have HD : Hid (¬ (⟨k, e, kids⟩ : Stil.Net) = ⟨k, f, kids2⟩) := by show ¬ _; rw [decide_eq_false_iff_not] at hd; intro h; exact hd (Stil.Net.mk.inj h).2.1
        rw [hd] at H1
        clear hd hc hc2
        go_enter Try.func43, Try.ntmps43
        go_wp2_with (go_at_call 44; refine (H1.out _ (by (repeat (first | with_reducible exact Below.refl _ _ | with_reducible assumption | with_reducible refine bl_set (by first | exact Nat.le_refl _ | (simp; done) | (simp; omega) | omega) ?_ _ | with_reducible refine bl_alloc ?_ _ | with_reducible refine bl_drewN ?_ _ | with_reducible refine bl_drew ?_ | with_reducible refine bl_grow ?_ _ _ | with_reducible refine bl_call ?_ (by assumption))))).mono ?_; rintro e w1 ⟨rfl, hb⟩)
        go_ret
        exact ⟨ret_bool (by rw [decide_eq_false HD.out]), by (repeat (first | with_reducible exact Below.refl _ _ | with_reducible assumption | with_reducible refine bl_set (by first | exact Nat.le_refl _ | (simp; done) | (simp; omega) | omega) ?_ _ | with_reducible refine bl_alloc ?_ _ | with_reducible refine bl_drewN ?_ _ | with_reducible refine bl_drew ?_ | with_reducible refine bl_grow ?_ _ _ | with_reducible refine bl_call ?_ (by assumption)))⟩
      · have HD : Hid (decide ((⟨k, e, kids⟩ : Stil.Net) = ⟨k, f, kids2⟩) = decide (kids = kids2)) := by show _ = _; rw [decide_eq_true_iff] at hd; simp [hd]
        rw [hd] at H1
        clear hd
        by_cases hlen : kids.length = kids2.length
        · have hlb : ((kids.length : Int) != (kids2.length : Int)) = false := by rw [bne_eq_false_iff_eq]; omega
          have hl3 : kids.length ≤ kids2.length := by omega
          have hl4 : kids2.length ≤ kids.length := by omega
          have HA : Hid (∀ i (h : i < kids.length), ∃ b o, a = some ⟨b, o, none⟩ ∧ b < w.heap.size ∧ NetAt w b (o + i * 4) kids[i]) := hc
          have HB : Hid (∀ i (h : i < kids2.length), ∃ b o, a2 = some ⟨b, o, none⟩ ∧ b < w.heap.size ∧ NetAt w b (o + i * 4) kids2[i]) := hc2
          clear hlen hc hc2
          go_enter Try.func43, Try.ntmps43
          go_wp2_with (go_at_call 44; refine (H1.out _ (by (repeat (first | with_reducible exact Below.refl _ _ | with_reducible assumption | with_reducible refine bl_set (by first | exact Nat.le_refl _ | (simp; done) | (simp; omega) | omega) ?_ _ | with_reducible refine bl_alloc ?_ _ | with_reducible refine bl_drewN ?_ _ | with_reducible refine bl_drew ?_ | with_reducible refine bl_grow ?_ _ _ | with_reducible refine bl_call ?_ (by assumption))))).mono ?_; rintro e w1 ⟨rfl, hb1⟩; obtain ⟨hc, hf⟩ := bcell hb1)
          go_loopw [5] (fun i wr => ∃ j : Nat, j ≤ kids.length ∧ i = .int .i64 j ∧ kids.take j = kids2.take j ∧ Below (w.heap.size + 2) ((w.alloc (.cells #[.int .i64 k, .int .i64 e.op, .slice p0 e.args.length r0, .slice a kids.length cap] 52)).alloc (.cells #[.int .i64 k, .int .i64 f.op, .slice p2 f.args.length r2, .slice a2 kids2.length cap2] 52)) wr) (fun i _ => kids.length - (intOf i).toNat)
          case atStart => exact ⟨0, by omega, rfl, by simp, by simpa using hb1⟩
          case round =>
            clear hc hf hb1
            obtain ⟨j, hj, rfl, heq, hB⟩ := hrel
            have hz0 : w.heap.size < wr.heap.size := by have := hB.size; simp at this; omega
            have c00 : wr.cell? ⟨w.heap.size, 0, none⟩ = some (.int .i64 k) := by rw [hB.cell (p := ⟨w.heap.size, 0, none⟩) (by simp)]; simp [go_sem]
            have f00 : wr.frozen? ⟨w.heap.size, 0, none⟩ = false := by rw [hB.frozen (p := ⟨w.heap.size, 0, none⟩) (by simp)]; simp [go_sem]
            have c01 : wr.cell? ⟨w.heap.size, 1, none⟩ = some (.int .i64 e.op) := by rw [hB.cell (p := ⟨w.heap.size, 1, none⟩) (by simp)]; simp [go_sem]
            have f01 : wr.frozen? ⟨w.heap.size, 1, none⟩ = false := by rw [hB.frozen (p := ⟨w.heap.size, 1, none⟩) (by simp)]; simp [go_sem]
            have c02 : wr.cell? ⟨w.heap.size, 2, none⟩ = some (.slice p0 e.args.length r0) := by rw [hB.cell (p := ⟨w.heap.size, 2, none⟩) (by simp)]; simp [go_sem]
            have f02 : wr.frozen? ⟨w.heap.size, 2, none⟩ = false := by rw [hB.frozen (p := ⟨w.heap.size, 2, none⟩) (by simp)]; simp [go_sem]
            have c03 : wr.cell? ⟨w.heap.size, 3, none⟩ = some (.slice a kids.length cap) := by rw [hB.cell (p := ⟨w.heap.size, 3, none⟩) (by simp)]; simp [go_sem]
            have f03 : wr.frozen? ⟨w.heap.size, 3, none⟩ = false := by rw [hB.frozen (p := ⟨w.heap.size, 3, none⟩) (by simp)]; simp [go_sem]
            have hz1 : w.heap.size + 1 < wr.heap.size := by have := hB.size; simp at this; omega
            have c10 : wr.cell? ⟨w.heap.size + 1, 0, none⟩ = some (.int .i64 k) := by rw [hB.cell (p := ⟨w.heap.size + 1, 0, none⟩) (by simp)]; simp [go_sem]
            have f10 : wr.frozen? ⟨w.heap.size + 1, 0, none⟩ = false := by rw [hB.frozen (p := ⟨w.heap.size + 1, 0, none⟩) (by simp)]; simp [go_sem]
            have c11 : wr.cell? ⟨w.heap.size + 1, 1, none⟩ = some (.int .i64 f.op) := by rw [hB.cell (p := ⟨w.heap.size + 1, 1, none⟩) (by simp)]; simp [go_sem]
            have f11 : wr.frozen? ⟨w.heap.size + 1, 1, none⟩ = false := by rw [hB.frozen (p := ⟨w.heap.size + 1, 1, none⟩) (by simp)]; simp [go_sem]
            have c12 : wr.cell? ⟨w.heap.size + 1, 2, none⟩ = some (.slice p2 f.args.length r2) := by rw [hB.cell (p := ⟨w.heap.size + 1, 2, none⟩) (by simp)]; simp [go_sem]
            have f12 : wr.frozen? ⟨w.heap.size + 1, 2, none⟩ = false := by rw [hB.frozen (p := ⟨w.heap.size + 1, 2, none⟩) (by simp)]; simp [go_sem]
            have c13 : wr.cell? ⟨w.heap.size + 1, 3, none⟩ = some (.slice a2 kids2.length cap2) := by rw [hB.cell (p := ⟨w.heap.size + 1, 3, none⟩) (by simp)]; simp [go_sem]
            have f13 : wr.frozen? ⟨w.heap.size + 1, 3, none⟩ = false := by rw [hB.frozen (p := ⟨w.heap.size + 1, 3, none⟩) (by simp)]; simp [go_sem]
            have hb : Below w.heap.size w wr := (bl_alloc (below_alloc _ _) _).trans (hB.mono (by omega))
            have HE : Hid (kids.take j = kids2.take j) := heq
            clear heq
            by_cases hlt : j < kids.length
            · have hlt2 : j < kids2.length := by omega
              obtain ⟨b, o, rfl, hbl, hn⟩ := HA.out j hlt
              have hn2 := (NetAt.below hb _ _ _ hn hbl)
              obtain ⟨b2, o2, rfl, hbl2, hm1⟩ := HB.out j hlt2
              have hm2 := (NetAt.below hb _ _ _ hm1 hbl2)
              obtain ⟨x0, x1, av, kv, x2, x3, hav, hkv⟩ := (hn2).open
              obtain ⟨y0, y1, avq, kvq, y2, y3, havq, hkvq⟩ := (hm2).open
              obtain ⟨bb, hbb⟩ : ∃ bb, decide (kids[j] = kids2[j]) = bb := ⟨_, rfl⟩
              have HI : Hid (∀ W, Below wr.heap.size wr W → Calls Try.prog 43 #[.agg #[.int .i64 kids[j].kind, .int .i64 kids[j].one.op, av, kv], .agg #[.int .i64 kids2[j].kind, .int .i64 kids2[j].one.op, avq, kvq]] W fun e w' => e = .returned (.bool (decide (kids[j] = kids2[j]))) ∧ Below W.heap.size W w') := fun W hW => IH.out kids[j] (List.getElem_mem hlt) kids2[j] (List.getElem_mem hlt2) _ _ _ _ W (hav.below hW) (hkv.below hW) (havq.below hW) (hkvq.below hW)
              have HT : Hid (bb = true → kids.take (j + 1) = kids2.take (j + 1)) := by
                show _ → _
                intro h
                rw [h, decide_eq_true_iff] at hbb
                rw [List.take_succ_eq_append_getElem hlt, List.take_succ_eq_append_getElem hlt2, HE.out, hbb]
              have HF : Hid (bb = false → ¬ kids = kids2) := by
                show _ → _
                intro h he
                rw [h, decide_eq_false_iff_not] at hbb
                subst he
                exact hbb rfl
              rw [hbb] at HI
              obtain ⟨x, hx⟩ : ∃ x, x = kids[j] := ⟨_, rfl⟩
              obtain ⟨y, hy⟩ : ∃ y, y = kids2[j] := ⟨_, rfl⟩
              rw [← hx] at HI x0 x1
              rw [← hy] at HI y0 y1
              clear hx hy hbb hn hn2 hm1 hm2 HE
              obtain ⟨s0, t0, rfl, _⟩ := hav
              obtain ⟨s1, t1, rfl, _⟩ := hkv
              obtain ⟨s2, t2, rfl, _⟩ := havq
              obtain ⟨s3, t3, rfl, _⟩ := hkvq
              have rx0 := cell_regrown x0
              have rx1 := cell_regrown x1
              have rx2 := cell_regrown x2
              have rx3 := cell_regrown x3
              have ry0 := cell_regrown y0
              have ry1 := cell_regrown y1
              have ry2 := cell_regrown y2
              have ry3 := cell_regrown y3
              have rc0 := cell_regrown c03
              have rc1 := cell_regrown c13
              cases bb
              · have HF2 : Hid (¬ kids = kids2) := HF.out rfl
                clear HF HT
                go_wp2
                refine wp_region_quiet_below (by kernel_rfl) (by kernel_rfl) ?_
                repeat (go_big_quiet_step ((exact Calls.regrown_of (HI.out _ (by (repeat (first | exact Below.refl _ _ | assumption | refine bl_alloc ?_ _ | refine bl_drewN ?_ _ | refine bl_drew ?_ | refine bl_grow ?_ _ _ | refine bl_set (Nat.le_refl _) ?_ _ | refine bl_call ?_ (by assumption))))))))
                refine wpQuiet_nil ?_
                intro _ hw'
                obtain ⟨⟨dq, osq⟩, hw''⟩ := hw'
                subst hw''
                go_wp2
                go_ret
                exact ⟨ret_bool (by rw [HD.out, decide_eq_false HF2.out]), bl_grow hb _ _⟩
              · have HT2 : Hid (kids.take (j + 1) = kids2.take (j + 1)) := HT.out rfl
                clear HF HT
                go_wp2
                refine wp_region_quiet_below (by kernel_rfl) (by kernel_rfl) ?_
                repeat (go_big_quiet_step ((exact Calls.regrown_of (HI.out _ (by (repeat (first | exact Below.refl _ _ | assumption | refine bl_alloc ?_ _ | refine bl_drewN ?_ _ | refine bl_drew ?_ | refine bl_grow ?_ _ _ | refine bl_set (Nat.le_refl _) ?_ _ | refine bl_call ?_ (by assumption))))))))
                refine wpQuiet_nil ?_
                intro _ hw'
                obtain ⟨⟨dq, osq⟩, hw''⟩ := hw'
                subst hw''
                go_wp2
                exact ⟨⟨j + 1, by omega, by go_num, HT2.out, hB.trans ((below_regrown _ dq osq).mono (by omega))⟩, by simp [intOf]; omega⟩
            · go_wp2
              go_ret
              have e : kids = kids2 := by
                have := HE.out
                rwa [List.take_of_length_le (by omega), List.take_of_length_le (by omega)] at this
              exact ⟨ret_bool (by rw [HD.out, decide_eq_true e]), hb⟩
        · have hlb : ((kids.length : Int) != (kids2.length : Int)) = true := by rw [bne_iff_ne]; omega
          have HN : Hid (¬ kids = kids2) := by show ¬ _; intro h; exact hlen (by rw [h])
          clear hlen hc hc2
          go_enter Try.func43, Try.ntmps43
          go_wp2_with (go_at_call 44; refine (H1.out _ (by (repeat (first | with_reducible exact Below.refl _ _ | with_reducible assumption | with_reducible refine bl_set (by first | exact Nat.le_refl _ | (simp; done) | (simp; omega) | omega) ?_ _ | with_reducible refine bl_alloc ?_ _ | with_reducible refine bl_drewN ?_ _ | with_reducible refine bl_drew ?_ | with_reducible refine bl_grow ?_ _ _ | with_reducible refine bl_call ?_ (by assumption))))).mono ?_; rintro e w1 ⟨rfl, hb1⟩; obtain ⟨hc, hf⟩ := bcell hb1)
          go_ret
          exact ⟨ret_bool (by rw [HD.out, decide_eq_false HN.out]), by (repeat (first | with_reducible exact Below.refl _ _ | with_reducible assumption | with_reducible refine bl_set (by first | exact Nat.le_refl _ | (simp; done) | (simp; omega) | omega) ?_ _ | with_reducible refine bl_alloc ?_ _ | with_reducible refine bl_drewN ?_ _ | with_reducible refine bl_drew ?_ | with_reducible refine bl_grow ?_ _ _ | with_reducible refine bl_call ?_ (by assumption)))⟩
    · have hob : (k != k2) = true := by rw [bne_iff_ne]; exact hkk
      have HD : Hid (¬ (⟨k, e, kids⟩ : Stil.Net) = ⟨k2, f, kids2⟩) := by show ¬ _; intro h; exact hkk (Stil.Net.mk.inj h).1
      clear hkk hc hc2
      go_enter Try.func43, Try.ntmps43
      go_wp2
      go_ret
      exact ⟨ret_bool (by rw [decide_eq_false HD.out]), by (repeat (first | with_reducible exact Below.refl _ _ | with_reducible assumption | with_reducible refine bl_set (by first | exact Nat.le_refl _ | (simp; done) | (simp; omega) | omega) ?_ _ | with_reducible refine bl_alloc ?_ _ | with_reducible refine bl_drewN ?_ _ | with_reducible refine bl_drew ?_ | with_reducible refine bl_grow ?_ _ _ | with_reducible refine bl_call ?_ (by assumption)))⟩
end Go.Proofs.Ytpeojflemfppgaa
/- Contracts of the specification's chapter 3: when two arms, two ladders are the same. -/
namespace Go.Proofs.Ytpeojflemfppgaa
open Go.RowKit Go.Sort Go.BigFrame
open Classical in
set_option maxHeartbeats 2000000 in
set_option maxRecDepth 100000 in
theorem s_armSame (n : Stil.Arm) : ∀ m : Stil.Arm, Stil.armFits n → Stil.armFits m → ∀ (av nv cv kv avq nvq cvq kvq : Value) (w : World), DevsAt w av n.net.one.args → NetsAt w nv n.net.kids → ElemsAt w cv n.coils → ArmsAt w kv n.kids → DevsAt w avq m.net.one.args → NetsAt w nvq m.net.kids → ElemsAt w cvq m.coils → ArmsAt w kvq m.kids → Calls Try.prog 21 #[.agg #[.int .i64 n.net.kind, .int .i64 n.net.one.op, av, nv, cv, kv], .agg #[.int .i64 m.net.kind, .int .i64 m.net.one.op, avq, nvq, cvq, kvq]] w fun e w' => e = .returned (.bool (decide (n = m))) ∧ Below w.heap.size w w' := by
  induction n using Stil.arm_ind with
  | h n coils kids ih =>
    intro m hft hfm av nv cv kv avq nvq cvq kvq w hav hnv hcv hkv havq hnvq hcvq hkvq
    obtain ⟨n2, coils2, kids2⟩ := m
    obtain ⟨hn, hl1, hcw, hl, hk⟩ := (Stil.armFits_eq _ _ _).1 hft
    obtain ⟨hn2, hl12, hcw2, hl2, hk2⟩ := (Stil.armFits_eq _ _ _).1 hfm
    simp only at hav hnv hcv hkv havq hnvq hcvq hkvq
    have H1 : Hid (∀ W, Below w.heap.size w W → Calls Try.prog 43 #[.agg #[.int .i64 n.kind, .int .i64 n.one.op, av, nv], .agg #[.int .i64 n2.kind, .int .i64 n2.one.op, avq, nvq]] W fun r w' => r = .returned (.bool (decide (n = n2))) ∧ Below W.heap.size W w') := fun W hW => s_netSame n n2 hn hn2 av nv avq nvq W (hav.below hW) (hnv.below hW) (havq.below hW) (hnvq.below hW)
    have IH : Hid (∀ x ∈ coils, ∀ y ∈ coils2, ∀ (av avq : Value) (w : World), DevsAt w av x.args → DevsAt w avq y.args → Calls Try.prog 44 #[.agg #[.int .i64 x.op, av], .agg #[.int .i64 y.op, avq]] w fun e w' => e = .returned (.bool (decide (x = y))) ∧ Below w.heap.size w w') := fun x hx y hy => s_elemSame' x y (hcw x hx) (hcw2 y hy)
    have H3 : Hid (∀ W, Below w.heap.size w W → Calls Try.prog 11 #[kv, kvq] W fun r w' => r = .returned (.bool (decide (kids = kids2))) ∧ Below W.heap.size W w') := fun W hW => s_armsSame kids kids2 (fun x hx y hy => ih x hx y (hk x hx) (hk2 y hy)) kv kvq W (hkv.below hW) (hkvq.below hW) hl hl2
    obtain ⟨p0, r0, rfl, _⟩ := hav
    obtain ⟨p1, r1, rfl, _⟩ := hnv
    obtain ⟨a, cap, rfl, hc⟩ := hcv
    obtain ⟨p3, r3, rfl, _⟩ := hkv
    obtain ⟨p4, r4, rfl, _⟩ := havq
    obtain ⟨p5, r5, rfl, _⟩ := hnvq
    obtain ⟨a2, cap2, rfl, hc2⟩ := hcvq
    obtain ⟨p7, r7, rfl, _⟩ := hkvq
    clear ih hft hn hcw hl hk hfm hn2 hcw2 hl2 hk2
    cases hd : decide (n = n2)
    · have HD : Hid (¬ (⟨n, coils, kids⟩ : Stil.Arm) = ⟨n2, coils2, kids2⟩) := by show ¬ _; rw [decide_eq_false_iff_not] at hd; intro h; exact hd (Stil.Arm.mk.inj h).1
      rw [hd] at H1
      clear hd hc hc2
      go_enter Try.func21, Try.ntmps21
      go_wp2_with (go_at_call 43; refine (H1.out _ (by (repeat (first | with_reducible exact Below.refl _ _ | with_reducible assumption | with_reducible refine bl_set (by first | exact Nat.le_refl _ | (simp; done) | (simp; omega) | omega) ?_ _ | with_reducible refine bl_alloc ?_ _ | with_reducible refine bl_drewN ?_ _ | with_reducible refine bl_drew ?_ | with_reducible refine bl_grow ?_ _ _ | with_reducible refine bl_call ?_ (by assumption))))).mono ?_; rintro e w1 ⟨rfl, hb⟩)
      go_ret
      exact ⟨ret_bool (by rw [decide_eq_false HD.out]), by (repeat (first | with_reducible exact Below.refl _ _ | with_reducible assumption | with_reducible refine bl_set (by first | exact Nat.le_refl _ | (simp; done) | (simp; omega) | omega) ?_ _ | with_reducible refine bl_alloc ?_ _ | with_reducible refine bl_drewN ?_ _ | with_reducible refine bl_drew ?_ | with_reducible refine bl_grow ?_ _ _ | with_reducible refine bl_call ?_ (by assumption)))⟩
    · rw [hd] at H1
      rw [decide_eq_true_iff] at hd
      have HDN : Hid (n = n2) := hd
      clear hd
      by_cases hlen : coils.length = coils2.length
      · have hlb : ((coils.length : Int) != (coils2.length : Int)) = false := by rw [bne_eq_false_iff_eq]; omega
        have hl3 : coils.length ≤ coils2.length := by omega
        have hl4 : coils2.length ≤ coils.length := by omega
        have HA : Hid (∀ i (h : i < coils.length), ∃ b o, a = some ⟨b, o, none⟩ ∧ b < w.heap.size ∧ ElemAt w b (o + i * 2) coils[i]) := hc
        have HB : Hid (∀ i (h : i < coils2.length), ∃ b o, a2 = some ⟨b, o, none⟩ ∧ b < w.heap.size ∧ ElemAt w b (o + i * 2) coils2[i]) := hc2
        clear hlen hc hc2
        go_enter Try.func21, Try.ntmps21
        go_wp2_with (go_at_call 43; refine (H1.out _ (by (repeat (first | with_reducible exact Below.refl _ _ | with_reducible assumption | with_reducible refine bl_set (by first | exact Nat.le_refl _ | (simp; done) | (simp; omega) | omega) ?_ _ | with_reducible refine bl_alloc ?_ _ | with_reducible refine bl_drewN ?_ _ | with_reducible refine bl_drew ?_ | with_reducible refine bl_grow ?_ _ _ | with_reducible refine bl_call ?_ (by assumption))))).mono ?_; rintro e w1 ⟨rfl, hb1⟩; obtain ⟨hc, hf⟩ := bcell hb1)
        go_loopw [5] (fun i wr => ∃ j : Nat, j ≤ coils.length ∧ i = .int .i64 j ∧ coils.take j = coils2.take j ∧ Below (w.heap.size + 2) ((w.alloc (.cells #[.int .i64 n.kind, .int .i64 n.one.op, .slice p0 n.one.args.length r0, .slice p1 n.kids.length r1, .slice a coils.length cap, .slice p3 kids.length r3] 55)).alloc (.cells #[.int .i64 n2.kind, .int .i64 n2.one.op, .slice p4 n2.one.args.length r4, .slice p5 n2.kids.length r5, .slice a2 coils2.length cap2, .slice p7 kids2.length r7] 55)) wr) (fun i _ => coils.length - (intOf i).toNat)
        case atStart => exact ⟨0, by omega, rfl, by simp, by simpa using hb1⟩
        case round =>
          clear hc hf hb1
          obtain ⟨j, hj, rfl, heq, hB⟩ := hrel
          have hz0 : w.heap.size < wr.heap.size := by have := hB.size; simp at this; omega
          have c00 : wr.cell? ⟨w.heap.size, 0, none⟩ = some (.int .i64 n.kind) := by rw [hB.cell (p := ⟨w.heap.size, 0, none⟩) (by simp)]; simp [go_sem]
          have f00 : wr.frozen? ⟨w.heap.size, 0, none⟩ = false := by rw [hB.frozen (p := ⟨w.heap.size, 0, none⟩) (by simp)]; simp [go_sem]
          have c01 : wr.cell? ⟨w.heap.size, 1, none⟩ = some (.int .i64 n.one.op) := by rw [hB.cell (p := ⟨w.heap.size, 1, none⟩) (by simp)]; simp [go_sem]
          have f01 : wr.frozen? ⟨w.heap.size, 1, none⟩ = false := by rw [hB.frozen (p := ⟨w.heap.size, 1, none⟩) (by simp)]; simp [go_sem]
          have c02 : wr.cell? ⟨w.heap.size, 2, none⟩ = some (.slice p0 n.one.args.length r0) := by rw [hB.cell (p := ⟨w.heap.size, 2, none⟩) (by simp)]; simp [go_sem]
          have f02 : wr.frozen? ⟨w.heap.size, 2, none⟩ = false := by rw [hB.frozen (p := ⟨w.heap.size, 2, none⟩) (by simp)]; simp [go_sem]
          have c03 : wr.cell? ⟨w.heap.size, 3, none⟩ = some (.slice p1 n.kids.length r1) := by rw [hB.cell (p := ⟨w.heap.size, 3, none⟩) (by simp)]; simp [go_sem]
          have f03 : wr.frozen? ⟨w.heap.size, 3, none⟩ = false := by rw [hB.frozen (p := ⟨w.heap.size, 3, none⟩) (by simp)]; simp [go_sem]
          have c04 : wr.cell? ⟨w.heap.size, 4, none⟩ = some (.slice a coils.length cap) := by rw [hB.cell (p := ⟨w.heap.size, 4, none⟩) (by simp)]; simp [go_sem]
          have f04 : wr.frozen? ⟨w.heap.size, 4, none⟩ = false := by rw [hB.frozen (p := ⟨w.heap.size, 4, none⟩) (by simp)]; simp [go_sem]
          have c05 : wr.cell? ⟨w.heap.size, 5, none⟩ = some (.slice p3 kids.length r3) := by rw [hB.cell (p := ⟨w.heap.size, 5, none⟩) (by simp)]; simp [go_sem]
          have f05 : wr.frozen? ⟨w.heap.size, 5, none⟩ = false := by rw [hB.frozen (p := ⟨w.heap.size, 5, none⟩) (by simp)]; simp [go_sem]
          have hz1 : w.heap.size + 1 < wr.heap.size := by have := hB.size; simp at this; omega
          have c10 : wr.cell? ⟨w.heap.size + 1, 0, none⟩ = some (.int .i64 n2.kind) := by rw [hB.cell (p := ⟨w.heap.size + 1, 0, none⟩) (by simp)]; simp [go_sem]
          have f10 : wr.frozen? ⟨w.heap.size + 1, 0, none⟩ = false := by rw [hB.frozen (p := ⟨w.heap.size + 1, 0, none⟩) (by simp)]; simp [go_sem]
          have c11 : wr.cell? ⟨w.heap.size + 1, 1, none⟩ = some (.int .i64 n2.one.op) := by rw [hB.cell (p := ⟨w.heap.size + 1, 1, none⟩) (by simp)]; simp [go_sem]
          have f11 : wr.frozen? ⟨w.heap.size + 1, 1, none⟩ = false := by rw [hB.frozen (p := ⟨w.heap.size + 1, 1, none⟩) (by simp)]; simp [go_sem]
          have c12 : wr.cell? ⟨w.heap.size + 1, 2, none⟩ = some (.slice p4 n2.one.args.length r4) := by rw [hB.cell (p := ⟨w.heap.size + 1, 2, none⟩) (by simp)]; simp [go_sem]
          have f12 : wr.frozen? ⟨w.heap.size + 1, 2, none⟩ = false := by rw [hB.frozen (p := ⟨w.heap.size + 1, 2, none⟩) (by simp)]; simp [go_sem]
          have c13 : wr.cell? ⟨w.heap.size + 1, 3, none⟩ = some (.slice p5 n2.kids.length r5) := by rw [hB.cell (p := ⟨w.heap.size + 1, 3, none⟩) (by simp)]; simp [go_sem]
          have f13 : wr.frozen? ⟨w.heap.size + 1, 3, none⟩ = false := by rw [hB.frozen (p := ⟨w.heap.size + 1, 3, none⟩) (by simp)]; simp [go_sem]
          have c14 : wr.cell? ⟨w.heap.size + 1, 4, none⟩ = some (.slice a2 coils2.length cap2) := by rw [hB.cell (p := ⟨w.heap.size + 1, 4, none⟩) (by simp)]; simp [go_sem]
          have f14 : wr.frozen? ⟨w.heap.size + 1, 4, none⟩ = false := by rw [hB.frozen (p := ⟨w.heap.size + 1, 4, none⟩) (by simp)]; simp [go_sem]
          have c15 : wr.cell? ⟨w.heap.size + 1, 5, none⟩ = some (.slice p7 kids2.length r7) := by rw [hB.cell (p := ⟨w.heap.size + 1, 5, none⟩) (by simp)]; simp [go_sem]
          have f15 : wr.frozen? ⟨w.heap.size + 1, 5, none⟩ = false := by rw [hB.frozen (p := ⟨w.heap.size + 1, 5, none⟩) (by simp)]; simp [go_sem]
          have hb : Below w.heap.size w wr := (bl_alloc (below_alloc _ _) _).trans (hB.mono (by omega))
          have HE : Hid (coils.take j = coils2.take j) := heq
          clear heq
          by_cases hlt : j < coils.length
          · have hlt2 : j < coils2.length := by omega
            obtain ⟨b, o, rfl, hbl, hn⟩ := HA.out j hlt
            obtain ⟨b2, o2, rfl, hbl2, hm1⟩ := HB.out j hlt2
            obtain ⟨x0, av, x1, hav⟩ := hn.below hb hbl
            obtain ⟨y0, avq, y1, havq⟩ := hm1.below hb hbl2
            obtain ⟨bb, hbb⟩ : ∃ bb, decide (coils[j] = coils2[j]) = bb := ⟨_, rfl⟩
            have HI : Hid (∀ W, Below wr.heap.size wr W → Calls Try.prog 44 #[.agg #[.int .i64 coils[j].op, av], .agg #[.int .i64 coils2[j].op, avq]] W fun e w' => e = .returned (.bool (decide (coils[j] = coils2[j]))) ∧ Below W.heap.size W w') := fun W hW => IH.out coils[j] (List.getElem_mem hlt) coils2[j] (List.getElem_mem hlt2) _ _ W (hav.below hW) (havq.below hW)
            have HT : Hid (bb = true → coils.take (j + 1) = coils2.take (j + 1)) := by
              show _ → _
              intro h
              rw [h, decide_eq_true_iff] at hbb
              rw [List.take_succ_eq_append_getElem hlt, List.take_succ_eq_append_getElem hlt2, HE.out, hbb]
            have HF : Hid (bb = false → ¬ coils = coils2) := by
              show _ → _
              intro h he
              rw [h, decide_eq_false_iff_not] at hbb
              subst he
              exact hbb rfl
            rw [hbb] at HI
            obtain ⟨x, hx⟩ : ∃ x, x = coils[j] := ⟨_, rfl⟩
            obtain ⟨y, hy⟩ : ∃ y, y = coils2[j] := ⟨_, rfl⟩
            rw [← hx] at HI x0
            rw [← hy] at HI y0
            clear hx hy hbb hn hm1 HE
            obtain ⟨s0, t0, rfl, _⟩ := hav
            obtain ⟨s2, t2, rfl, _⟩ := havq
            have rx0 := cell_regrown x0
            have rx1 := cell_regrown x1
            have ry0 := cell_regrown y0
            have ry1 := cell_regrown y1
            have rc0 := cell_regrown c04
            have rc1 := cell_regrown c14
            cases bb
            · have HF2 : Hid (¬ (⟨n, coils, kids⟩ : Stil.Arm) = ⟨n2, coils2, kids2⟩) := by show ¬ _; intro h; exact HF.out rfl (Stil.Arm.mk.inj h).2.1
              clear HF HT
              go_wp2
              refine wp_region_quiet_below (by kernel_rfl) (by kernel_rfl) ?_
              repeat (go_big_quiet_step ((exact Calls.regrown_of (HI.out _ (by (repeat (first | exact Below.refl _ _ | assumption | refine bl_alloc ?_ _ | refine bl_drewN ?_ _ | refine bl_drew ?_ | refine bl_grow ?_ _ _ | refine bl_set (Nat.le_refl _) ?_ _ | refine bl_call ?_ (by assumption))))))))
              refine wpQuiet_nil ?_
              intro _ hw'
              obtain ⟨⟨dq, osq⟩, hw''⟩ := hw'
              subst hw''
              go_wp2
              go_ret
              exact ⟨ret_bool (by rw [decide_eq_false HF2.out]), bl_grow hb _ _⟩
            · have HT2 : Hid (coils.take (j + 1) = coils2.take (j + 1)) := HT.out rfl
              clear HF HT
              go_wp2
              refine wp_region_quiet_below (by kernel_rfl) (by kernel_rfl) ?_
              repeat (go_big_quiet_step ((exact Calls.regrown_of (HI.out _ (by (repeat (first | exact Below.refl _ _ | assumption | refine bl_alloc ?_ _ | refine bl_drewN ?_ _ | refine bl_drew ?_ | refine bl_grow ?_ _ _ | refine bl_set (Nat.le_refl _) ?_ _ | refine bl_call ?_ (by assumption))))))))
              refine wpQuiet_nil ?_
              intro _ hw'
              obtain ⟨⟨dq, osq⟩, hw''⟩ := hw'
              subst hw''
              go_wp2
              exact ⟨⟨j + 1, by omega, by go_num, HT2.out, hB.trans ((below_regrown _ dq osq).mono (by omega))⟩, by simp [intOf]; omega⟩
          · have HD : Hid (decide ((⟨n, coils, kids⟩ : Stil.Arm) = ⟨n2, coils2, kids2⟩) = decide (kids = kids2)) := by
              show _ = _
              have e : coils = coils2 := by
                have := HE.out
                rwa [List.take_of_length_le (by omega), List.take_of_length_le (by omega)] at this
              simp [HDN.out, e]
            obtain ⟨bb, hbb⟩ : ∃ bb, bb = decide (kids = kids2) := ⟨_, rfl⟩
            rw [← hbb] at H3 HD
            clear hbb HE
            go_wp2_with (go_at_call 11; refine (H3.out _ (by (repeat (first | with_reducible exact Below.refl _ _ | with_reducible assumption | with_reducible refine bl_set (by first | exact Nat.le_refl _ | (simp; done) | (simp; omega) | omega) ?_ _ | with_reducible refine bl_alloc ?_ _ | with_reducible refine bl_drewN ?_ _ | with_reducible refine bl_drew ?_ | with_reducible refine bl_grow ?_ _ _ | with_reducible refine bl_call ?_ (by assumption))))).mono ?_; rintro e w3 ⟨rfl, hb3⟩)
            go_ret
            exact ⟨ret_bool (by rw [HD.out]), by (repeat (first | with_reducible exact Below.refl _ _ | with_reducible assumption | with_reducible refine bl_set (by first | exact Nat.le_refl _ | (simp; done) | (simp; omega) | omega) ?_ _ | with_reducible refine bl_alloc ?_ _ | with_reducible refine bl_drewN ?_ _ | with_reducible refine bl_drew ?_ | with_reducible refine bl_grow ?_ _ _ | with_reducible refine bl_call ?_ (by assumption)))⟩
      · have hlb : ((coils.length : Int) != (coils2.length : Int)) = true := by rw [bne_iff_ne]; omega
        have HN : Hid (¬ (⟨n, coils, kids⟩ : Stil.Arm) = ⟨n2, coils2, kids2⟩) := by show ¬ _; intro h; exact hlen (by rw [(Stil.Arm.mk.inj h).2.1])
        clear hlen hc hc2
        go_enter Try.func21, Try.ntmps21
        go_wp2_with (go_at_call 43; refine (H1.out _ (by (repeat (first | with_reducible exact Below.refl _ _ | with_reducible assumption | with_reducible refine bl_set (by first | exact Nat.le_refl _ | (simp; done) | (simp; omega) | omega) ?_ _ | with_reducible refine bl_alloc ?_ _ | with_reducible refine bl_drewN ?_ _ | with_reducible refine bl_drew ?_ | with_reducible refine bl_grow ?_ _ _ | with_reducible refine bl_call ?_ (by assumption))))).mono ?_; rintro e w1 ⟨rfl, hb1⟩; obtain ⟨hc, hf⟩ := bcell hb1)
        go_ret
        exact ⟨ret_bool (by rw [decide_eq_false HN.out]), by (repeat (first | with_reducible exact Below.refl _ _ | with_reducible assumption | with_reducible refine bl_set (by first | exact Nat.le_refl _ | (simp; done) | (simp; omega) | omega) ?_ _ | with_reducible refine bl_alloc ?_ _ | with_reducible refine bl_drewN ?_ _ | with_reducible refine bl_drew ?_ | with_reducible refine bl_grow ?_ _ _ | with_reducible refine bl_call ?_ (by assumption)))⟩
open Classical in
theorem s_treeSame (la lb : List Stil.Arm) (v u : Value) (w : World) (hav : ArmsAt w v la) (hbv : ArmsAt w u lb) (hfa : ∀ x ∈ la, Stil.armFits x) (hfb : ∀ x ∈ lb, Stil.armFits x) (hl : la.length ≤ 1048576) (hm : lb.length ≤ 1048576) :
    Calls Try.prog 11 #[v, u] w fun r w' => r = .returned (.bool (decide (la = lb))) ∧ Below w.heap.size w w' :=
  s_armsSame la lb (fun x hx y hy => s_armSame x y (hfa x hx) (hfb y hy)) v u w hav hbv hl hm
end Go.Proofs.Ytpeojflemfppgaa
