/- S3: texts put together. -/
import Derived.Test.YtpeojflemfppgaaGT
import Derived.Deep.DeepCutAuto
/- Contracts of the specification's chapter 3, first part: sizes. -/
namespace Go.Proofs.Ytpeojflemfppgaa
open Go.RowKit Go.Sort Go.BigFrame
theorem sum_take_succ (l : List Nat) (i : Nat) (h : i < l.length) : (l.take (i + 1)).sum = (l.take i).sum + l[i] := by
  rw [List.take_succ_eq_append_getElem h, List.sum_append, List.sum_cons, List.sum_nil, Nat.add_zero]
theorem sum_take_le : ∀ (l : List Nat) (i : Nat), (l.take i).sum ≤ l.sum
  | [], i => by simp
  | x :: r, 0 => by simp
  | x :: r, i + 1 => by have := sum_take_le r i; simp; omega
set_option maxHeartbeats 1000000 in
set_option maxRecDepth 100000 in
theorem s_netSize (n : Stil.Net) : ∀ (av kv : Value) (w : World), DevsAt w av n.one.args → NetsAt w kv n.kids → Stil.netSize n ≤ 1000000000 →
    Calls Try.prog 36 #[.agg #[.int .i64 n.kind, .int .i64 n.one.op, av, kv]] w fun e w' => e = .returned (.int .i64 (Stil.netSize n)) ∧ Below w.heap.size w w' := by
  induction n using Stil.net_ind with
  | h k e kids ih =>
    intro av kv w hav hkv hsz
    have IH : Hid (∀ x ∈ kids, ∀ (av kv : Value) (w : World), DevsAt w av x.one.args → NetsAt w kv x.kids → Stil.netSize x ≤ 1000000000 →
      Calls Try.prog 36 #[.agg #[.int .i64 x.kind, .int .i64 x.one.op, av, kv]] w fun e w' => e = .returned (.int .i64 (Stil.netSize x)) ∧ Below w.heap.size w w') := ih
    clear ih
    have HZ : Hid (Stil.netSize ⟨k, e, kids⟩ = 1 + (kids.map Stil.netSize).sum) := Stil.netSize_eq k e kids
    have hsum : (kids.map Stil.netSize).sum ≤ 1000000000 := by have := HZ.out; omega
    obtain ⟨a, cap, rfl, hc⟩ := hkv
    have HC : Hid (∀ i (h : i < kids.length), ∃ b o, a = some ⟨b, o, none⟩ ∧ b < w.heap.size ∧ NetAt w b (o + i * 4) kids[i]) := hc
    obtain ⟨aa, acap, rfl, _⟩ := hav
    have hlen : kids.length ≤ 1000000000 := by
      have : ∀ l : List Stil.Net, l.length ≤ (l.map Stil.netSize).sum := by
        intro l
        induction l with
        | nil => simp
        | cons x r ih => simp only [List.map_cons, List.sum_cons, List.length_cons]; have : 1 ≤ Stil.netSize x := by (obtain ⟨_, _, _⟩ := x; rw [Stil.netSize_eq]; omega)
                         omega
      have := this kids; omega
    clear hc hsz
    go_enter Try.func36, Try.ntmps36
    go_wp2
    go_loopw [3, 4] (fun acc i wr => ∃ j : Nat, j ≤ kids.length ∧ i = .int .i64 j ∧ acc = .int .i64 (1 + ((kids.map Stil.netSize).take j).sum : Nat) ∧ Below (w.heap.size + 1) (w.alloc (.cells #[.int .i64 k, .int .i64 e.op, .slice aa e.args.length acap, .slice a kids.length cap] 52)) wr) (fun _ i _ => kids.length - (intOf i).toNat)
    case atStart => exact ⟨0, by omega, rfl, by simp, Below.refl _ _⟩
    case round =>
      obtain ⟨j, hj, rfl, rfl, hB⟩ := hrel
      have hz : w.heap.size < wr.heap.size := by have := hB.size; simp at this; omega
      have c0 : wr.cell? ⟨w.heap.size, 0, none⟩ = some (.int .i64 k) := by rw [hB.cell (p := ⟨w.heap.size, 0, none⟩) (by simp)]; simp [go_sem]
      have f0 : wr.frozen? ⟨w.heap.size, 0, none⟩ = false := by rw [hB.frozen (p := ⟨w.heap.size, 0, none⟩) (by simp)]; simp [go_sem]
      have c1 : wr.cell? ⟨w.heap.size, 1, none⟩ = some (.int .i64 e.op) := by rw [hB.cell (p := ⟨w.heap.size, 1, none⟩) (by simp)]; simp [go_sem]
      have f1 : wr.frozen? ⟨w.heap.size, 1, none⟩ = false := by rw [hB.frozen (p := ⟨w.heap.size, 1, none⟩) (by simp)]; simp [go_sem]
      have c2 : wr.cell? ⟨w.heap.size, 2, none⟩ = some (.slice aa e.args.length acap) := by rw [hB.cell (p := ⟨w.heap.size, 2, none⟩) (by simp)]; simp [go_sem]
      have f2 : wr.frozen? ⟨w.heap.size, 2, none⟩ = false := by rw [hB.frozen (p := ⟨w.heap.size, 2, none⟩) (by simp)]; simp [go_sem]
      have c3 : wr.cell? ⟨w.heap.size, 3, none⟩ = some (.slice a kids.length cap) := by rw [hB.cell (p := ⟨w.heap.size, 3, none⟩) (by simp)]; simp [go_sem]
      have f3 : wr.frozen? ⟨w.heap.size, 3, none⟩ = false := by rw [hB.frozen (p := ⟨w.heap.size, 3, none⟩) (by simp)]; simp [go_sem]
      have hbw : Below w.heap.size w wr := (below_alloc _ _).trans (hB.mono (by omega))
      have hle := sum_take_le (kids.map Stil.netSize) j
      by_cases hlt : j < kids.length
      · obtain ⟨b, o, rfl, hbl, hn⟩ := HC.out j hlt
        obtain ⟨x0, x1, av, kv, x2, x3, hav, hkv⟩ := (NetAt.below hbw _ _ _ hn hbl).open
        have hsucc := sum_take_succ (kids.map Stil.netSize) j (by simpa using hlt)
        have hle2 := sum_take_le (kids.map Stil.netSize) (j + 1)
        rw [List.getElem_map] at hsucc
        have HI : Hid (∀ W, Below wr.heap.size wr W → Calls Try.prog 36 #[.agg #[.int .i64 kids[j].kind, .int .i64 kids[j].one.op, av, kv]] W fun e w' => e = .returned (.int .i64 (Stil.netSize kids[j])) ∧ Below W.heap.size W w') := fun W hW => IH.out kids[j] (List.getElem_mem hlt) av kv W (hav.below hW) (hkv.below hW) (by omega)
        obtain ⟨s, hs⟩ : ∃ s, s = Stil.netSize kids[j] := ⟨_, rfl⟩
        obtain ⟨x, hx⟩ : ∃ x, x = kids[j] := ⟨_, rfl⟩
        rw [← hs] at HI hsucc
        rw [← hx] at HI x0 x1
        obtain ⟨aa', acap', rfl, _⟩ := hav
        obtain ⟨a', cap', rfl, _⟩ := hkv
        generalize hA1 : ((kids.map Stil.netSize).take j).sum = A1 at hsucc hle ⊢
        have HS : Hid (((kids.map Stil.netSize).take (j + 1)).sum = A1 + s) := hsucc
        have hsb : A1 + s ≤ 1000000000 := by omega
        clear hs hx hn hA1 hsucc hle2 hle hsum
        go_wp2_with (go_at_call 36; refine (HI.out _ (by (repeat (first | exact Below.refl _ _ | assumption | refine bl_alloc ?_ _ | refine bl_drewN ?_ _ | refine bl_drew ?_ | refine bl_grow ?_ _ _ | refine bl_set (Nat.le_refl _) ?_ _ | refine bl_call ?_ (by assumption))))).mono ?_; rintro e w2 ⟨rfl, hb2⟩)
        refine ⟨⟨j + 1, by omega, by go_num, ?_, hB.trans (hb2.mono hz)⟩, by simp [intOf]; omega⟩
        rw [HS.out]; congr 1; omega
      · go_wp2
        go_ret
        refine ⟨ret_int ?_, hbw⟩
        rw [HZ.out, List.take_of_length_le (by simp; omega)]
set_option maxHeartbeats 1000000 in
set_option maxRecDepth 100000 in
theorem s_netNone (n : Stil.Net) (av kv : Value) (w : World) (hav : DevsAt w av n.one.args) (hkv : NetsAt w kv n.kids) (_h1 : n.one.args.length ≤ 9223372036854775807) (_h2 : n.kids.length ≤ 9223372036854775807) :
    Calls Try.prog 35 #[.agg #[.int .i64 n.kind, .int .i64 n.one.op, av, kv]] w fun e w' => e = .returned (.bool (Stil.netNone n)) ∧ Below w.heap.size w w' := by
  obtain ⟨aa, acap, rfl, _⟩ := hav
  obtain ⟨a, cap, rfl, _⟩ := hkv
  obtain ⟨la, hla⟩ : ∃ la, la = n.one.args.length := ⟨_, rfl⟩
  obtain ⟨lk, hlk⟩ : ∃ lk, lk = n.kids.length := ⟨_, rfl⟩
  have HN : Hid (Stil.netNone n = (n.kind == 0 && n.one.op == 0 && la == 0 && lk == 0)) := by
    show _ = _
    unfold Stil.netNone; rw [hla, hlk]
  rw [← hla, ← hlk]
  rw [← hla] at _h1
  rw [← hlk] at _h2
  clear hla hlk
  go_enter Try.func35, Try.ntmps35
  go_wp2
  all_goals go_ret
  all_goals (refine ⟨ret_bool ?_, by (repeat (first | exact Below.refl _ _ | assumption | refine bl_alloc ?_ _ | refine bl_drewN ?_ _ | refine bl_drew ?_ | refine bl_grow ?_ _ _ | refine bl_set (Nat.le_refl _) ?_ _ | refine bl_call ?_ (by assumption)))⟩)
  all_goals rw [HN.out]
  all_goals go_light
  all_goals (rw [Bool.eq_iff_iff]; simp [*]; try omega)
theorem netSize_pos (x : Stil.Net) : 1 ≤ Stil.netSize x := by obtain ⟨_, _, _⟩ := x; rw [Stil.netSize_eq]; omega
theorem armSize_pos (x : Stil.Arm) : 1 ≤ Stil.armSize x := by obtain ⟨_, _, _⟩ := x; rw [Stil.armSize_eq]; omega
theorem len_le_sum {α : Type} (f : α → Nat) (hf : ∀ x, 1 ≤ f x) : ∀ l : List α, l.length ≤ (l.map f).sum
  | [] => by simp
  | x :: r => by have := len_le_sum f hf r; have := hf x; simp only [List.map_cons, List.sum_cons, List.length_cons]; omega
set_option maxHeartbeats 2000000 in
set_option maxRecDepth 100000 in
theorem s_armSize (n : Stil.Arm) : ∀ (av nv cv kv : Value) (w : World), DevsAt w av n.net.one.args → NetsAt w nv n.net.kids → ElemsAt w cv n.coils → ArmsAt w kv n.kids → Stil.armSize n ≤ 1000000000 → Stil.armFits n →
    Calls Try.prog 17 #[.agg #[.int .i64 n.net.kind, .int .i64 n.net.one.op, av, nv, cv, kv]] w fun e w' => e = .returned (.int .i64 (Stil.armSize n)) ∧ Below w.heap.size w w' := by
  induction n using Stil.arm_ind with
  | h n coils kids ih =>
    intro av nv cv kv w hav hnv hcv hkv hsz hft
    simp only at hav hnv hcv hkv
    obtain ⟨hf1, hf2, _, hf4, hf5⟩ := (Stil.armFits_eq _ _ _).1 hft
    obtain ⟨_, he, hf6, _⟩ := Stil.netFits_parts hf1
    have hf7 := he.2.1
    have IH : Hid (∀ x ∈ kids, ∀ (av nv cv kv : Value) (w : World), DevsAt w av x.net.one.args → NetsAt w nv x.net.kids → ElemsAt w cv x.coils → ArmsAt w kv x.kids → Stil.armSize x ≤ 1000000000 → Stil.armFits x →
      Calls Try.prog 17 #[.agg #[.int .i64 x.net.kind, .int .i64 x.net.one.op, av, nv, cv, kv]] w fun e w' => e = .returned (.int .i64 (Stil.armSize x)) ∧ Below w.heap.size w w') := ih
    have HF : Hid (∀ x ∈ kids, Stil.armFits x) := hf5
    clear ih hf5 hft he hf1
    obtain ⟨ns, hns⟩ : ∃ ns, ns = if Stil.netNone n then 0 else Stil.netSize n := ⟨_, rfl⟩
    have HZ : Hid (Stil.armSize ⟨n, coils, kids⟩ = 1 + coils.length + ns + (kids.map Stil.armSize).sum) := by show _ = _; rw [Stil.armSize_eq, hns]
    have hsum : 1 + coils.length + ns + (kids.map Stil.armSize).sum ≤ 1000000000 := by have := HZ.out; omega
    have HN1 : Hid (∀ W, Below w.heap.size w W → Calls Try.prog 35 #[.agg #[.int .i64 n.kind, .int .i64 n.one.op, av, nv]] W fun e w' => e = .returned (.bool (Stil.netNone n)) ∧ Below W.heap.size W w') := fun W hW => s_netNone n av nv W (hav.below hW) (hnv.below hW) (by omega) (by omega)
    have HN2 : Hid (Stil.netNone n = false → ∀ W, Below w.heap.size w W → Calls Try.prog 36 #[.agg #[.int .i64 n.kind, .int .i64 n.one.op, av, nv]] W fun e w' => e = .returned (.int .i64 ns) ∧ Below W.heap.size W w') := fun h0 W hW => by
      have e0 : ns = Stil.netSize n := by rw [hns, h0]; rfl
      rw [e0]
      exact s_netSize n av nv W (hav.below hW) (hnv.below hW) (by omega)
    have HN3 : Hid (Stil.netNone n = true → ns = 0) := fun h0 => by rw [hns, h0]; rfl
    obtain ⟨a, cap, rfl, hc⟩ := hkv
    have HC : Hid (∀ i (h : i < kids.length), ∃ b o, a = some ⟨b, o, none⟩ ∧ b < w.heap.size ∧ ArmAt w b (o + i * 6) kids[i]) := hc
    obtain ⟨aa, acap, rfl, _⟩ := hav
    obtain ⟨na, ncap, rfl, _⟩ := hnv
    obtain ⟨ca, ccap, rfl, _⟩ := hcv
    clear hc hsz hns
    cases hnn : Stil.netNone n
    · go_enter Try.func17, Try.ntmps17
      go_wp2_with (first | (go_at_call 35; refine (HN1.out _ (by (repeat (first | exact Below.refl _ _ | assumption | refine bl_alloc ?_ _ | refine bl_drewN ?_ _ | refine bl_drew ?_ | refine bl_grow ?_ _ _ | refine bl_set (Nat.le_refl _) ?_ _ | refine bl_call ?_ (by assumption))))).mono ?_; rw [hnn]; rintro e w1 ⟨rfl, hb1⟩; obtain ⟨hc, hf⟩ := bcell hb1) | (go_at_call 36; refine (HN2.out hnn _ (by (repeat (first | exact Below.refl _ _ | assumption | refine bl_alloc ?_ _ | refine bl_drewN ?_ _ | refine bl_drew ?_ | refine bl_grow ?_ _ _ | refine bl_set (Nat.le_refl _) ?_ _ | refine bl_call ?_ (by assumption))))).mono ?_; rintro e w2 ⟨rfl, hb2⟩))
      go_loopw [3, 4] (fun acc i wr => ∃ j : Nat, j ≤ kids.length ∧ i = .int .i64 j ∧ acc = .int .i64 (1 + coils.length + ns + ((kids.map Stil.armSize).take j).sum : Nat) ∧ Below (w.heap.size + 1) (w.alloc (.cells #[.int .i64 n.kind, .int .i64 n.one.op, .slice aa n.one.args.length acap, .slice na n.kids.length ncap, .slice ca coils.length ccap, .slice a kids.length cap] 55)) wr) (fun _ i _ => kids.length - (intOf i).toNat)
      case atStart => exact ⟨0, by omega, rfl, by simp, (hb1.mono (by simp)).trans (hb2.mono (by have := hb1.size; simpa using this))⟩
      case round =>
        clear hc hf hb1 hb2
        obtain ⟨j, hj, rfl, rfl, hB⟩ := hrel
        have hz : w.heap.size < wr.heap.size := by have := hB.size; simp at this; omega
        have c0 : wr.cell? ⟨w.heap.size, 0, none⟩ = some (.int .i64 n.kind) := by rw [hB.cell (p := ⟨w.heap.size, 0, none⟩) (by simp)]; simp [go_sem]
        have f0 : wr.frozen? ⟨w.heap.size, 0, none⟩ = false := by rw [hB.frozen (p := ⟨w.heap.size, 0, none⟩) (by simp)]; simp [go_sem]
        have c1 : wr.cell? ⟨w.heap.size, 1, none⟩ = some (.int .i64 n.one.op) := by rw [hB.cell (p := ⟨w.heap.size, 1, none⟩) (by simp)]; simp [go_sem]
        have f1 : wr.frozen? ⟨w.heap.size, 1, none⟩ = false := by rw [hB.frozen (p := ⟨w.heap.size, 1, none⟩) (by simp)]; simp [go_sem]
        have c2 : wr.cell? ⟨w.heap.size, 2, none⟩ = some (.slice aa n.one.args.length acap) := by rw [hB.cell (p := ⟨w.heap.size, 2, none⟩) (by simp)]; simp [go_sem]
        have f2 : wr.frozen? ⟨w.heap.size, 2, none⟩ = false := by rw [hB.frozen (p := ⟨w.heap.size, 2, none⟩) (by simp)]; simp [go_sem]
        have c3 : wr.cell? ⟨w.heap.size, 3, none⟩ = some (.slice na n.kids.length ncap) := by rw [hB.cell (p := ⟨w.heap.size, 3, none⟩) (by simp)]; simp [go_sem]
        have f3 : wr.frozen? ⟨w.heap.size, 3, none⟩ = false := by rw [hB.frozen (p := ⟨w.heap.size, 3, none⟩) (by simp)]; simp [go_sem]
        have c4 : wr.cell? ⟨w.heap.size, 4, none⟩ = some (.slice ca coils.length ccap) := by rw [hB.cell (p := ⟨w.heap.size, 4, none⟩) (by simp)]; simp [go_sem]
        have f4 : wr.frozen? ⟨w.heap.size, 4, none⟩ = false := by rw [hB.frozen (p := ⟨w.heap.size, 4, none⟩) (by simp)]; simp [go_sem]
        have c5 : wr.cell? ⟨w.heap.size, 5, none⟩ = some (.slice a kids.length cap) := by rw [hB.cell (p := ⟨w.heap.size, 5, none⟩) (by simp)]; simp [go_sem]
        have f5 : wr.frozen? ⟨w.heap.size, 5, none⟩ = false := by rw [hB.frozen (p := ⟨w.heap.size, 5, none⟩) (by simp)]; simp [go_sem]
        have hbw : Below w.heap.size w wr := (below_alloc _ _).trans (hB.mono (by omega))
        have hle := sum_take_le (kids.map Stil.armSize) j
        by_cases hlt : j < kids.length
        · obtain ⟨b, o, rfl, hbl, hn⟩ := HC.out j hlt
          obtain ⟨hna, cv, kv, x4, x5, hcv, hkv⟩ := (ArmAt.below hbw _ _ _ hn hbl).open
          obtain ⟨x0, x1, av, nv, x2, x3, hav, hnv⟩ := hna.open
          have hsucc := sum_take_succ (kids.map Stil.armSize) j (by simpa using hlt)
          have hle2 := sum_take_le (kids.map Stil.armSize) (j + 1)
          rw [List.getElem_map] at hsucc
          have HI : Hid (∀ W, Below wr.heap.size wr W → Calls Try.prog 17 #[.agg #[.int .i64 kids[j].net.kind, .int .i64 kids[j].net.one.op, av, nv, cv, kv]] W fun e w' => e = .returned (.int .i64 (Stil.armSize kids[j])) ∧ Below W.heap.size W w') := fun W hW => IH.out kids[j] (List.getElem_mem hlt) av nv cv kv W (hav.below hW) (hnv.below hW) (hcv.below hW) (hkv.below hW) (by omega) (HF.out _ (List.getElem_mem hlt))
          obtain ⟨s, hs⟩ : ∃ s, s = Stil.armSize kids[j] := ⟨_, rfl⟩
          obtain ⟨x, hx⟩ : ∃ x, x = kids[j] := ⟨_, rfl⟩
          rw [← hs] at HI hsucc
          rw [← hx] at HI x0 x1
          obtain ⟨q1, q2, rfl, _⟩ := hav
          obtain ⟨q3, q4, rfl, _⟩ := hnv
          obtain ⟨q5, q6, rfl, _⟩ := hcv
          obtain ⟨q7, q8, rfl, _⟩ := hkv
          generalize hA1 : ((kids.map Stil.armSize).take j).sum = A1 at hsucc hle ⊢
          have HS : Hid (((kids.map Stil.armSize).take (j + 1)).sum = A1 + s) := hsucc
          have hsb : 1 + coils.length + ns + A1 + s ≤ 1000000000 := by omega
          clear hs hx hn hna hA1 hsucc hle2 hle hsum
          go_wp2_with (go_at_call 17; refine (HI.out _ (by (repeat (first | exact Below.refl _ _ | assumption | refine bl_alloc ?_ _ | refine bl_drewN ?_ _ | refine bl_drew ?_ | refine bl_grow ?_ _ _ | refine bl_set (Nat.le_refl _) ?_ _ | refine bl_call ?_ (by assumption))))).mono ?_; rintro e w2 ⟨rfl, hb2⟩)
          refine ⟨⟨j + 1, by omega, by go_num, ?_, hB.trans (hb2.mono hz)⟩, by simp [intOf]; omega⟩
          rw [HS.out]; congr 1; omega
        · go_wp2
          go_ret
          refine ⟨ret_int ?_, hbw⟩
          rw [HZ.out, List.take_of_length_le (by simp; omega)]
    · have hns0 := HN3.out hnn
      subst hns0
      go_enter Try.func17, Try.ntmps17
      go_wp2_with (first | (go_at_call 35; refine (HN1.out _ (by (repeat (first | exact Below.refl _ _ | assumption | refine bl_alloc ?_ _ | refine bl_drewN ?_ _ | refine bl_drew ?_ | refine bl_grow ?_ _ _ | refine bl_set (Nat.le_refl _) ?_ _ | refine bl_call ?_ (by assumption))))).mono ?_; rw [hnn]; rintro e w1 ⟨rfl, hb1⟩; obtain ⟨hc, hf⟩ := bcell hb1))
      go_loopw [3, 4] (fun acc i wr => ∃ j : Nat, j ≤ kids.length ∧ i = .int .i64 j ∧ acc = .int .i64 (1 + coils.length + 0 + ((kids.map Stil.armSize).take j).sum : Nat) ∧ Below (w.heap.size + 1) (w.alloc (.cells #[.int .i64 n.kind, .int .i64 n.one.op, .slice aa n.one.args.length acap, .slice na n.kids.length ncap, .slice ca coils.length ccap, .slice a kids.length cap] 55)) wr) (fun _ i _ => kids.length - (intOf i).toNat)
      case atStart => exact ⟨0, by omega, rfl, by simp, hb1.mono (by simp)⟩
      case round =>
        clear hc hf hb1
        obtain ⟨j, hj, rfl, rfl, hB⟩ := hrel
        have hz : w.heap.size < wr.heap.size := by have := hB.size; simp at this; omega
        have c0 : wr.cell? ⟨w.heap.size, 0, none⟩ = some (.int .i64 n.kind) := by rw [hB.cell (p := ⟨w.heap.size, 0, none⟩) (by simp)]; simp [go_sem]
        have f0 : wr.frozen? ⟨w.heap.size, 0, none⟩ = false := by rw [hB.frozen (p := ⟨w.heap.size, 0, none⟩) (by simp)]; simp [go_sem]
        have c1 : wr.cell? ⟨w.heap.size, 1, none⟩ = some (.int .i64 n.one.op) := by rw [hB.cell (p := ⟨w.heap.size, 1, none⟩) (by simp)]; simp [go_sem]
        have f1 : wr.frozen? ⟨w.heap.size, 1, none⟩ = false := by rw [hB.frozen (p := ⟨w.heap.size, 1, none⟩) (by simp)]; simp [go_sem]
        have c2 : wr.cell? ⟨w.heap.size, 2, none⟩ = some (.slice aa n.one.args.length acap) := by rw [hB.cell (p := ⟨w.heap.size, 2, none⟩) (by simp)]; simp [go_sem]
        have f2 : wr.frozen? ⟨w.heap.size, 2, none⟩ = false := by rw [hB.frozen (p := ⟨w.heap.size, 2, none⟩) (by simp)]; simp [go_sem]
        have c3 : wr.cell? ⟨w.heap.size, 3, none⟩ = some (.slice na n.kids.length ncap) := by rw [hB.cell (p := ⟨w.heap.size, 3, none⟩) (by simp)]; simp [go_sem]
        have f3 : wr.frozen? ⟨w.heap.size, 3, none⟩ = false := by rw [hB.frozen (p := ⟨w.heap.size, 3, none⟩) (by simp)]; simp [go_sem]
        have c4 : wr.cell? ⟨w.heap.size, 4, none⟩ = some (.slice ca coils.length ccap) := by rw [hB.cell (p := ⟨w.heap.size, 4, none⟩) (by simp)]; simp [go_sem]
        have f4 : wr.frozen? ⟨w.heap.size, 4, none⟩ = false := by rw [hB.frozen (p := ⟨w.heap.size, 4, none⟩) (by simp)]; simp [go_sem]
        have c5 : wr.cell? ⟨w.heap.size, 5, none⟩ = some (.slice a kids.length cap) := by rw [hB.cell (p := ⟨w.heap.size, 5, none⟩) (by simp)]; simp [go_sem]
        have f5 : wr.frozen? ⟨w.heap.size, 5, none⟩ = false := by rw [hB.frozen (p := ⟨w.heap.size, 5, none⟩) (by simp)]; simp [go_sem]
        have hbw : Below w.heap.size w wr := (below_alloc _ _).trans (hB.mono (by omega))
        have hle := sum_take_le (kids.map Stil.armSize) j
        by_cases hlt : j < kids.length
        · obtain ⟨b, o, rfl, hbl, hn⟩ := HC.out j hlt
          obtain ⟨hna, cv, kv, x4, x5, hcv, hkv⟩ := (ArmAt.below hbw _ _ _ hn hbl).open
          obtain ⟨x0, x1, av, nv, x2, x3, hav, hnv⟩ := hna.open
          have hsucc := sum_take_succ (kids.map Stil.armSize) j (by simpa using hlt)
          have hle2 := sum_take_le (kids.map Stil.armSize) (j + 1)
          rw [List.getElem_map] at hsucc
          have HI : Hid (∀ W, Below wr.heap.size wr W → Calls Try.prog 17 #[.agg #[.int .i64 kids[j].net.kind, .int .i64 kids[j].net.one.op, av, nv, cv, kv]] W fun e w' => e = .returned (.int .i64 (Stil.armSize kids[j])) ∧ Below W.heap.size W w') := fun W hW => IH.out kids[j] (List.getElem_mem hlt) av nv cv kv W (hav.below hW) (hnv.below hW) (hcv.below hW) (hkv.below hW) (by omega) (HF.out _ (List.getElem_mem hlt))
          obtain ⟨s, hs⟩ : ∃ s, s = Stil.armSize kids[j] := ⟨_, rfl⟩
          obtain ⟨x, hx⟩ : ∃ x, x = kids[j] := ⟨_, rfl⟩
          rw [← hs] at HI hsucc
          rw [← hx] at HI x0 x1
          obtain ⟨q1, q2, rfl, _⟩ := hav
          obtain ⟨q3, q4, rfl, _⟩ := hnv
          obtain ⟨q5, q6, rfl, _⟩ := hcv
          obtain ⟨q7, q8, rfl, _⟩ := hkv
          generalize hA1 : ((kids.map Stil.armSize).take j).sum = A1 at hsucc hle ⊢
          have HS : Hid (((kids.map Stil.armSize).take (j + 1)).sum = A1 + s) := hsucc
          have hsb : 1 + coils.length + 0 + A1 + s ≤ 1000000000 := by omega
          clear hs hx hn hna hA1 hsucc hle2 hle hsum
          go_wp2_with (go_at_call 17; refine (HI.out _ (by (repeat (first | exact Below.refl _ _ | assumption | refine bl_alloc ?_ _ | refine bl_drewN ?_ _ | refine bl_drew ?_ | refine bl_grow ?_ _ _ | refine bl_set (Nat.le_refl _) ?_ _ | refine bl_call ?_ (by assumption))))).mono ?_; rintro e w2 ⟨rfl, hb2⟩)
          refine ⟨⟨j + 1, by omega, by go_num, ?_, hB.trans (hb2.mono hz)⟩, by simp [intOf]; omega⟩
          rw [HS.out]; congr 1; omega
        · go_wp2
          go_ret
          refine ⟨ret_int ?_, hbw⟩
          rw [HZ.out, List.take_of_length_le (by simp; omega)]
end Go.Proofs.Ytpeojflemfppgaa
