/- S3: texts put together. -/
import Derived.Test.YtpaljcoojkbhnaaGreatDoorGT
import Derived.Deep.DeepCutAuto
/- Contracts of the specification's chapter 3, first part: sizes. -/
namespace Go.Proofs.YtpaljcoojkbhnaaGreatDoor
open Go.RowKit Go.Sort Go.BigFrame
theorem sum_take_succ (l : List Nat) (i : Nat) (h : i < l.length) : (l.take (i + 1)).sum = (l.take i).sum + l[i] := by
  rw [List.take_succ_eq_append_getElem h, List.sum_append, List.sum_cons, List.sum_nil, Nat.add_zero]
theorem sum_take_le : ∀ (l : List Nat) (i : Nat), (l.take i).sum ≤ l.sum
  | [], i => by simp
  | x :: r, 0 => by simp
  | x :: r, i + 1 => by have := sum_take_le r i; simp; omega
set_option maxHeartbeats 1000000 in
set_option maxRecDepth 100000 in
theorem s_netSize (n : Stil.Net) : ∀ (av kv : Value) (w : World), DevsAt w av n.one.args → NetsAt w kv n.kids → Stil.netSize n ≤ 1000000000 →
    Calls Tryz.prog 23 #[.agg #[.int .i64 n.kind, .int .i64 n.one.op, av, kv]] w fun e w' => e = .returned (.int .i64 (Stil.netSize n)) ∧ Below w.heap.size w w' := by
  induction n using Stil.net_ind with
  | h k e kids ih =>
    intro av kv w hav hkv hsz
    have IH : Hid (∀ x ∈ kids, ∀ (av kv : Value) (w : World), DevsAt w av x.one.args → NetsAt w kv x.kids → Stil.netSize x ≤ 1000000000 →
      Calls Tryz.prog 23 #[.agg #[.int .i64 x.kind, .int .i64 x.one.op, av, kv]] w fun e w' => e = .returned (.int .i64 (Stil.netSize x)) ∧ Below w.heap.size w w') := ih
    clear ih
    have HZ : Hid (Stil.netSize ⟨k, e, kids⟩ = 1 + (kids.map Stil.netSize).sum) := Stil.netSize_eq k e kids
    have hsum : (kids.map Stil.netSize).sum ≤ 1000000000 := by have := HZ.out; omega
    obtain ⟨a, cap, rfl, hc⟩ := hkv
    have HC : Hid (∀ i (h : i < kids.length), ∃ b o, a = some ⟨b, o, none⟩ ∧ b < w.heap.size ∧ NetAt w b (o + i * 4) kids[i]) := hc
    obtain ⟨aa, acap, rfl, _⟩ := hav
    have hlen : kids.length ≤ 1000000000 := by
      have : ∀ l : List Stil.Net, l.length ≤ (l.map Stil.netSize).sum := by
        intro l
        induction l with
        | nil => simp
        | cons x r ih => simp only [List.map_cons, List.sum_cons, List.length_cons]; have : 1 ≤ Stil.netSize x := by (obtain ⟨_, _, _⟩ := x; rw [Stil.netSize_eq]; omega)
                         omega
      have := this kids; omega
    clear hc hsz
    go_enter Tryz.func23, Tryz.ntmps23
    go_wp2
    go_loopw [3, 4] (fun acc i wr => ∃ j : Nat, j ≤ kids.length ∧ i = .int .i64 j ∧ acc = .int .i64 (1 + ((kids.map Stil.netSize).take j).sum : Nat) ∧ Below (w.heap.size + 1) (w.alloc (.cells #[.int .i64 k, .int .i64 e.op, .slice aa e.args.length acap, .slice a kids.length cap] 29)) wr) (fun _ i _ => kids.length - (intOf i).toNat)
    case atStart => exact ⟨0, by omega, rfl, by simp, Below.refl _ _⟩
    case round =>
      obtain ⟨j, hj, rfl, rfl, hB⟩ := hrel
      have hz : w.heap.size < wr.heap.size := by have := hB.size; simp at this; omega
      have c0 : wr.cell? ⟨w.heap.size, 0, none⟩ = some (.int .i64 k) := by rw [hB.cell (p := ⟨w.heap.size, 0, none⟩) (by simp)]; simp [go_sem]
      have f0 : wr.frozen? ⟨w.heap.size, 0, none⟩ = false := by rw [hB.frozen (p := ⟨w.heap.size, 0, none⟩) (by simp)]; simp [go_sem]
      have c1 : wr.cell? ⟨w.heap.size, 1, none⟩ = some (.int .i64 e.op) := by rw [hB.cell (p := ⟨w.heap.size, 1, none⟩) (by simp)]; simp [go_sem]
      have f1 : wr.frozen? ⟨w.heap.size, 1, none⟩ = false := by rw [hB.frozen (p := ⟨w.heap.size, 1, none⟩) (by simp)]; simp [go_sem]
      have c2 : wr.cell? ⟨w.heap.size, 2, none⟩ = some (.slice aa e.args.length acap) := by rw [hB.cell (p := ⟨w.heap.size, 2, none⟩) (by simp)]; simp [go_sem]
      have f2 : wr.frozen? ⟨w.heap.size, 2, none⟩ = false := by rw [hB.frozen (p := ⟨w.heap.size, 2, none⟩) (by simp)]; simp [go_sem]
      have c3 : wr.cell? ⟨w.heap.size, 3, none⟩ = some (.slice a kids.length cap) := by rw [hB.cell (p := ⟨w.heap.size, 3, none⟩) (by simp)]; simp [go_sem]
      have f3 : wr.frozen? ⟨w.heap.size, 3, none⟩ = false := by rw [hB.frozen (p := ⟨w.heap.size, 3, none⟩) (by simp)]; simp [go_sem]
      have hbw : Below w.heap.size w wr := (below_alloc _ _).trans (hB.mono (by omega))
      have hle := sum_take_le (kids.map Stil.netSize) j
      by_cases hlt : j < kids.length
      · obtain ⟨b, o, rfl, hbl, hn⟩ := HC.out j hlt
        obtain ⟨x0, x1, av, kv, x2, x3, hav, hkv⟩ := (NetAt.below hbw _ _ _ hn hbl).open
        have hsucc := sum_take_succ (kids.map Stil.netSize) j (by simpa using hlt)
        have hle2 := sum_take_le (kids.map Stil.netSize) (j + 1)
        rw [List.getElem_map] at hsucc
        have HI : Hid (∀ W, Below wr.heap.size wr W → Calls Tryz.prog 23 #[.agg #[.int .i64 kids[j].kind, .int .i64 kids[j].one.op, av, kv]] W fun e w' => e = .returned (.int .i64 (Stil.netSize kids[j])) ∧ Below W.heap.size W w') := fun W hW => IH.out kids[j] (List.getElem_mem hlt) av kv W (hav.below hW) (hkv.below hW) (by omega)
        obtain ⟨s, hs⟩ : ∃ s, s = Stil.netSize kids[j] := ⟨_, rfl⟩
        obtain ⟨x, hx⟩ : ∃ x, x = kids[j] := ⟨_, rfl⟩
        rw [← hs] at HI hsucc
        rw [← hx] at HI x0 x1
        obtain ⟨aa', acap', rfl, _⟩ := hav
        obtain ⟨a', cap', rfl, _⟩ := hkv
        generalize hA1 : ((kids.map Stil.netSize).take j).sum = A1 at hsucc hle ⊢
        have HS : Hid (((kids.map Stil.netSize).take (j + 1)).sum = A1 + s) := hsucc
        have hsb : A1 + s ≤ 1000000000 := by omega
        clear hs hx hn hA1 hsucc hle2 hle hsum
        go_wp2_with (go_at_call 23; refine (HI.out _ (by (repeat (first | exact Below.refl _ _ | assumption | refine bl_alloc ?_ _ | refine bl_drewN ?_ _ | refine bl_drew ?_ | refine bl_grow ?_ _ _ | refine bl_set (Nat.le_refl _) ?_ _ | refine bl_call ?_ (by assumption))))).mono ?_; rintro e w2 ⟨rfl, hb2⟩)
        refine ⟨⟨j + 1, by omega, by go_num, ?_, hB.trans (hb2.mono hz)⟩, by simp [intOf]; omega⟩
        rw [HS.out]; congr 1; omega
      · go_wp2
        go_ret
        refine ⟨ret_int ?_, hbw⟩
        rw [HZ.out, List.take_of_length_le (by simp; omega)]
end Go.Proofs.YtpaljcoojkbhnaaGreatDoor
