/- S3, S3b, S3c: texts put together. -/
import Derived.Test.YthhfnncehfkbfaaDoorGT
import Derived.Deep.DeepCutAuto
import Derived.Test.YthhfnncehfkbfaaDoorGM
/- Contracts of the specification's chapter 3, first part: sizes. -/
namespace Go.Proofs.YthhfnncehfkbfaaDoor
open Go.RowKit Go.Sort Go.BigFrame
theorem sum_take_succ (l : List Nat) (i : Nat) (h : i < l.length) : (l.take (i + 1)).sum = (l.take i).sum + l[i] := by
  rw [List.take_succ_eq_append_getElem h, List.sum_append, List.sum_cons, List.sum_nil, Nat.add_zero]
theorem sum_take_le : ∀ (l : List Nat) (i : Nat), (l.take i).sum ≤ l.sum
  | [], i => by simp
  | x :: r, 0 => by simp
  | x :: r, i + 1 => by have := sum_take_le r i; simp; omega
set_option maxHeartbeats 1000000 in
set_option maxRecDepth 100000 in
theorem s_netSize (n : Stil.Net) : ∀ (av kv : Value) (w : World), DevsAt w av n.one.args → NetsAt w kv n.kids → Stil.netSize n ≤ 1000000000 →
    Calls Tryd.prog 13 #[.agg #[.int .i64 n.kind, .int .i64 n.one.op, av, kv]] w fun e w' => e = .returned (.int .i64 (Stil.netSize n)) ∧ Below w.heap.size w w' := by
  induction n using Stil.net_ind with
  | h k e kids ih =>
    intro av kv w hav hkv hsz
    have IH : Hid (∀ x ∈ kids, ∀ (av kv : Value) (w : World), DevsAt w av x.one.args → NetsAt w kv x.kids → Stil.netSize x ≤ 1000000000 →
      Calls Tryd.prog 13 #[.agg #[.int .i64 x.kind, .int .i64 x.one.op, av, kv]] w fun e w' => e = .returned (.int .i64 (Stil.netSize x)) ∧ Below w.heap.size w w') := ih
    clear ih
    have HZ : Hid (Stil.netSize ⟨k, e, kids⟩ = 1 + (kids.map Stil.netSize).sum) := Stil.netSize_eq k e kids
    have hsum : (kids.map Stil.netSize).sum ≤ 1000000000 := by have := HZ.out; omega
    obtain ⟨a, cap, rfl, hc⟩ := hkv
    have HC : Hid (∀ i (h : i < kids.length), ∃ b o, a = some ⟨b, o, none⟩ ∧ b < w.heap.size ∧ NetAt w b (o + i * 4) kids[i]) := hc
    obtain ⟨aa, acap, rfl, _⟩ := hav
    have hlen : kids.length ≤ 1000000000 := by
      have : ∀ l : List Stil.Net, l.length ≤ (l.map Stil.netSize).sum := by
        intro l
        induction l with
        | nil => simp
        | cons x r ih => simp only [List.map_cons, List.sum_cons, List.length_cons]; have : 1 ≤ Stil.netSize x := by (obtain ⟨_, _, _⟩ := x; rw [Stil.netSize_eq]; omega)
                         omega
      have := this kids; omega
    clear hc hsz
    go_enter Tryd.func13, Tryd.ntmps13
    go_wp2
    go_loopw [3, 4] (fun acc i wr => ∃ j : Nat, j ≤ kids.length ∧ i = .int .i64 j ∧ acc = .int .i64 (1 + ((kids.map Stil.netSize).take j).sum : Nat) ∧ Below (w.heap.size + 1) (w.alloc (.cells #[.int .i64 k, .int .i64 e.op, .slice aa e.args.length acap, .slice a kids.length cap] 34)) wr) (fun _ i _ => kids.length - (intOf i).toNat)
    case atStart => exact ⟨0, by omega, rfl, by simp, Below.refl _ _⟩
    case round =>
      obtain ⟨j, hj, rfl, rfl, hB⟩ := hrel
      have hz : w.heap.size < wr.heap.size := by have := hB.size; simp at this; omega
      have c0 : wr.cell? ⟨w.heap.size, 0, none⟩ = some (.int .i64 k) := by rw [hB.cell (p := ⟨w.heap.size, 0, none⟩) (by simp)]; simp [go_sem]
      have f0 : wr.frozen? ⟨w.heap.size, 0, none⟩ = false := by rw [hB.frozen (p := ⟨w.heap.size, 0, none⟩) (by simp)]; simp [go_sem]
      have c1 : wr.cell? ⟨w.heap.size, 1, none⟩ = some (.int .i64 e.op) := by rw [hB.cell (p := ⟨w.heap.size, 1, none⟩) (by simp)]; simp [go_sem]
      have f1 : wr.frozen? ⟨w.heap.size, 1, none⟩ = false := by rw [hB.frozen (p := ⟨w.heap.size, 1, none⟩) (by simp)]; simp [go_sem]
      have c2 : wr.cell? ⟨w.heap.size, 2, none⟩ = some (.slice aa e.args.length acap) := by rw [hB.cell (p := ⟨w.heap.size, 2, none⟩) (by simp)]; simp [go_sem]
      have f2 : wr.frozen? ⟨w.heap.size, 2, none⟩ = false := by rw [hB.frozen (p := ⟨w.heap.size, 2, none⟩) (by simp)]; simp [go_sem]
      have c3 : wr.cell? ⟨w.heap.size, 3, none⟩ = some (.slice a kids.length cap) := by rw [hB.cell (p := ⟨w.heap.size, 3, none⟩) (by simp)]; simp [go_sem]
      have f3 : wr.frozen? ⟨w.heap.size, 3, none⟩ = false := by rw [hB.frozen (p := ⟨w.heap.size, 3, none⟩) (by simp)]; simp [go_sem]
      have hbw : Below w.heap.size w wr := (below_alloc _ _).trans (hB.mono (by omega))
      have hle := sum_take_le (kids.map Stil.netSize) j
      by_cases hlt : j < kids.length
      · obtain ⟨b, o, rfl, hbl, hn⟩ := HC.out j hlt
        obtain ⟨x0, x1, av, kv, x2, x3, hav, hkv⟩ := (NetAt.below hbw _ _ _ hn hbl).open
        have hsucc := sum_take_succ (kids.map Stil.netSize) j (by simpa using hlt)
        have hle2 := sum_take_le (kids.map Stil.netSize) (j + 1)
        rw [List.getElem_map] at hsucc
        have HI : Hid (∀ W, Below wr.heap.size wr W → Calls Tryd.prog 13 #[.agg #[.int .i64 kids[j].kind, .int .i64 kids[j].one.op, av, kv]] W fun e w' => e = .returned (.int .i64 (Stil.netSize kids[j])) ∧ Below W.heap.size W w') := fun W hW => IH.out kids[j] (List.getElem_mem hlt) av kv W (hav.below hW) (hkv.below hW) (by omega)
        obtain ⟨s, hs⟩ : ∃ s, s = Stil.netSize kids[j] := ⟨_, rfl⟩
        obtain ⟨x, hx⟩ : ∃ x, x = kids[j] := ⟨_, rfl⟩
        rw [← hs] at HI hsucc
        rw [← hx] at HI x0 x1
        obtain ⟨aa', acap', rfl, _⟩ := hav
        obtain ⟨a', cap', rfl, _⟩ := hkv
        generalize hA1 : ((kids.map Stil.netSize).take j).sum = A1 at hsucc hle ⊢
        have HS : Hid (((kids.map Stil.netSize).take (j + 1)).sum = A1 + s) := hsucc
        have hsb : A1 + s ≤ 1000000000 := by omega
        clear hs hx hn hA1 hsucc hle2 hle hsum
        go_wp2_with (go_at_call 13; refine (HI.out _ (by (repeat (first | exact Below.refl _ _ | assumption | refine bl_alloc ?_ _ | refine bl_drewN ?_ _ | refine bl_drew ?_ | refine bl_grow ?_ _ _ | refine bl_set (Nat.le_refl _) ?_ _ | refine bl_call ?_ (by assumption))))).mono ?_; rintro e w2 ⟨rfl, hb2⟩)
        refine ⟨⟨j + 1, by omega, by go_num, ?_, hB.trans (hb2.mono hz)⟩, by simp [intOf]; omega⟩
        rw [HS.out]; congr 1; omega
      · go_wp2
        go_ret
        refine ⟨ret_int ?_, hbw⟩
        rw [HZ.out, List.take_of_length_le (by simp; omega)]
theorem netSize_pos (x : Stil.Net) : 1 ≤ Stil.netSize x := by obtain ⟨_, _, _⟩ := x; rw [Stil.netSize_eq]; omega
theorem armSize_pos (x : Stil.Arm) : 1 ≤ Stil.armSize x := by obtain ⟨_, _, _⟩ := x; rw [Stil.armSize_eq]; omega
theorem len_le_sum {α : Type} (f : α → Nat) (hf : ∀ x, 1 ≤ f x) : ∀ l : List α, l.length ≤ (l.map f).sum
  | [] => by simp
  | x :: r => by have := len_le_sum f hf r; have := hf x; simp only [List.map_cons, List.sum_cons, List.length_cons]; omega
end Go.Proofs.YthhfnncehfkbfaaDoor
/- Contracts of the specification's chapter 3, second part: TreeSize; what is wrong with a net. -/
namespace Go.Proofs.YthhfnncehfkbfaaDoor
open Go.RowKit Go.Sort Go.BigFrame
end Go.Proofs.YthhfnncehfkbfaaDoor
/- Contracts of the specification's chapter 3, third part: what is wrong with a net. -/
namespace Go.Proofs.YthhfnncehfkbfaaDoor
open Go.RowKit Go.Sort Go.BigFrame
set_option maxHeartbeats 2000000 in
set_option maxRecDepth 100000 in
theorem s_netWrong (n : Stil.Net) : ∀ (av kv : Value) (w : World), DevsAt w av n.one.args → NetsAt w kv n.kids → Stil.netFits n →
    Calls Tryd.prog 14 #[.agg #[.int .i64 n.kind, .int .i64 n.one.op, av, kv]] w fun e w' => e = .returned (.int .i64 (Stil.netWrong n)) ∧ Below w.heap.size w w' := by
  induction n using Stil.net_ind with
  | h k e kids ih =>
    intro av kv w hav hkv hft
    simp only at hav hkv
    obtain ⟨_, he, hf3, hf4⟩ := (Stil.netFits_eq _ _ _).1 hft
    obtain ⟨_, hal, hdf⟩ := he
    have HF : Hid (∀ x ∈ kids, Stil.netFits x) := hf4
    have IH : Hid (∀ x ∈ kids, ∀ (av kv : Value) (w : World), DevsAt w av x.one.args → NetsAt w kv x.kids → Stil.netFits x →
      Calls Tryd.prog 14 #[.agg #[.int .i64 x.kind, .int .i64 x.one.op, av, kv]] w fun e w' => e = .returned (.int .i64 (Stil.netWrong x)) ∧ Below w.heap.size w w') := ih
    have HK : Hid (∀ W, Below w.heap.size w W → Calls Tryd.prog 28 #[.agg #[.int .i64 e.op, av]] W fun e' w' => e' = .returned (.bool (Stil.isContact e.op e.args)) ∧ Below W.heap.size W w') := fun W hW => s_isContact e.op av e.args W (hav.below hW) hdf (by omega)
    clear ih hf4 hft
    obtain ⟨a, cap, rfl, hc⟩ := hkv
    have HC : Hid (∀ i (h : i < kids.length), ∃ b o, a = some ⟨b, o, none⟩ ∧ b < w.heap.size ∧ NetAt w b (o + i * 4) kids[i]) := hc
    obtain ⟨aa, acap, rfl, _⟩ := hav
    have HZ : Hid (Stil.netWrong ⟨k, e, kids⟩ = if k = 1 then (if 0 < kids.length then 2 else if Stil.isContact e.op e.args then 0 else 3)
      else if Stil.badNet k e.op e.args.length kids.length then 2 else Stil.firstPos (kids.map Stil.netWrong)) := Stil.netWrong_eq k e kids
    clear hc hdf
    obtain ⟨la, hla⟩ : ∃ la, la = e.args.length := ⟨_, rfl⟩
    obtain ⟨lk, hlk⟩ : ∃ lk, lk = kids.length := ⟨_, rfl⟩
    have HLK : Hid (lk = kids.length) := hlk
    rw [← hla] at hal HZ HK ⊢
    rw [← hlk] at hf3 HZ ⊢
    clear hla hlk
    by_cases hk1 : k = 1
    · subst hk1
      by_cases hkl : 0 < lk
      · have HX : Hid (Stil.netWrong ⟨1, e, kids⟩ = 2) := by show _ = _; rw [HZ.out, if_pos rfl, if_pos hkl]
        go_enter Tryd.func14, Tryd.ntmps14
        go_wp2
        go_ret
        exact ⟨ret_int (by rw [HX.out]), by (repeat (first | exact Below.refl _ _ | assumption | refine bl_alloc ?_ _ | refine bl_drewN ?_ _ | refine bl_drew ?_ | refine bl_grow ?_ _ _ | refine bl_set (Nat.le_refl _) ?_ _ | refine bl_call ?_ (by assumption)))⟩
      · have hkz : decide (0 < (lk : Int)) = false := by rw [decide_eq_false_iff_not]; omega
        cases hct : Stil.isContact e.op e.args
        · have HX : Hid (Stil.netWrong ⟨1, e, kids⟩ = 3) := by show _ = _; rw [HZ.out, if_pos rfl, if_neg hkl, hct]; rfl
          go_enter Tryd.func14, Tryd.ntmps14
          go_wp2_with (go_at_call 28; refine (HK.out _ (by (repeat (first | exact Below.refl _ _ | assumption | refine bl_alloc ?_ _ | refine bl_drewN ?_ _ | refine bl_drew ?_ | refine bl_grow ?_ _ _ | refine bl_set (Nat.le_refl _) ?_ _ | refine bl_call ?_ (by assumption))))).mono ?_; rw [hct]; rintro e' w1 ⟨rfl, hb1⟩)
          go_ret
          exact ⟨ret_int (by rw [HX.out]), by (repeat (first | exact Below.refl _ _ | assumption | refine bl_alloc ?_ _ | refine bl_drewN ?_ _ | refine bl_drew ?_ | refine bl_grow ?_ _ _ | refine bl_set (Nat.le_refl _) ?_ _ | refine bl_call ?_ (by assumption)))⟩
        · have HX : Hid (Stil.netWrong ⟨1, e, kids⟩ = 0) := by show _ = _; rw [HZ.out, if_pos rfl, if_neg hkl, hct]; rfl
          go_enter Tryd.func14, Tryd.ntmps14
          go_wp2_with (go_at_call 28; refine (HK.out _ (by (repeat (first | exact Below.refl _ _ | assumption | refine bl_alloc ?_ _ | refine bl_drewN ?_ _ | refine bl_drew ?_ | refine bl_grow ?_ _ _ | refine bl_set (Nat.le_refl _) ?_ _ | refine bl_call ?_ (by assumption))))).mono ?_; rw [hct]; rintro e' w1 ⟨rfl, hb1⟩)
          go_ret
          exact ⟨ret_int (by rw [HX.out]), by (repeat (first | exact Below.refl _ _ | assumption | refine bl_alloc ?_ _ | refine bl_drewN ?_ _ | refine bl_drew ?_ | refine bl_grow ?_ _ _ | refine bl_set (Nat.le_refl _) ?_ _ | refine bl_call ?_ (by assumption)))⟩
    · have hkb : (k == 1) = false := by rw [beq_eq_false_iff_ne]; exact hk1
      have HZ2 : Hid (Stil.netWrong ⟨k, e, kids⟩ = if Stil.badNet k e.op la lk then 2 else Stil.firstPos (kids.map Stil.netWrong)) := by show _ = _; rw [HZ.out, if_neg hk1]
      clear HZ hk1
      go_enter Tryd.func14, Tryd.ntmps14
      go_upto_region 7 with fail
      go_cut [0, 53] (fun s0 s53 wc => s0 = .agg #[.int .i64 k, .int .i64 e.op, .slice aa la acap, .slice a lk cap] ∧ s53 = .bool (Stil.badNet k e.op la lk) ∧ wc = w.alloc (.cells #[.int .i64 k, .int .i64 e.op, .slice aa la acap, .slice a lk cap] 34))
      case first =>
        have HBN : Hid (Stil.badNet k e.op la lk = (decide (k < 2) || decide (4 < k) || e.op != 0 || decide ((0 : Int) < (la : Int)) || (lk : Int) == 0 || (k == 4 && (lk : Int) != 1))) := rfl
        cases t1 : decide (k < 2)
        · cases t2 : decide (4 < k)
          · cases t3 : (e.op != 0)
            · have HE : Hid (e.op = 0) := (by simpa using t3 : e.op = 0)
              cases t4 : decide ((0 : Int) < (la : Int))
              · have HA0 : Hid (la = 0) := (by have := of_decide_eq_false t4; omega : la = 0)
                cases t5 : ((lk : Int) == 0)
                · cases t6 : (k == 4)
                  · (go_wp2_with fail; go_meet; exact ⟨by first | rfl | simp [HE.out, HA0.out], by rw [HBN.out, t1, t2, t3, t4, t5, t6]; rfl, by first | rfl | simp [HE.out, HA0.out]⟩)
                  · have H4 : Hid (k = 4) := (by simpa using t6 : k = 4)
                    cases t7 : ((lk : Int) != 1)
                    · have H1 : Hid (lk = 1) := (by have := bne_eq_false_iff_eq.1 t7; omega : lk = 1)
                      (go_wp2_with fail; go_meet; exact ⟨by first | rfl | simp [HE.out, HA0.out, H4.out, H1.out], by rw [HBN.out, t1, t2, t3, t4, t5, t6, t7]; rfl, by first | rfl | simp [HE.out, HA0.out, H4.out, H1.out]⟩)
                    · (go_wp2_with fail; go_meet; exact ⟨by first | rfl | simp [HE.out, HA0.out, H4.out], by rw [HBN.out, t1, t2, t3, t4, t5, t6, t7]; rfl, by first | rfl | simp [HE.out, HA0.out, H4.out]⟩)
                · have HL : Hid (lk = 0) := (by have := beq_iff_eq.1 t5; omega : lk = 0)
                  (go_wp2_with fail; go_meet; exact ⟨by first | rfl | simp [HE.out, HA0.out, HL.out], by rw [HBN.out, t1, t2, t3, t4, t5]; rfl, by first | rfl | simp [HE.out, HA0.out, HL.out]⟩)
              · have p4 : 0 < la := (by have := of_decide_eq_true t4; omega : 0 < la)
                have p5 : (0 : Int) < (la : Int) := (by omega : (0 : Int) < (la : Int))
                (go_wp2_with fail; go_meet; exact ⟨by first | rfl | simp [HE.out], by rw [HBN.out, t1, t2, t3, t4]; rfl, by first | rfl | simp [HE.out]⟩)
            · (go_wp2_with fail; go_meet; exact ⟨by rfl, by rw [HBN.out, t1, t2, t3]; rfl, by rfl⟩)
          · (go_wp2_with fail; go_meet; exact ⟨by rfl, by rw [HBN.out, t1, t2]; rfl, by rfl⟩)
        · (go_wp2_with fail; go_meet; exact ⟨by rfl, by rw [HBN.out, t1]; rfl, by rfl⟩)
      case rest =>
        obtain ⟨rfl, rfl, rfl⟩ := hcut
        cases hbn : Stil.badNet k e.op la lk
        · rw [hbn] at HZ2
          have HZ3 : Hid (Stil.netWrong ⟨k, e, kids⟩ = Stil.firstPos (kids.map Stil.netWrong)) := HZ2.out
          clear HZ2
          go_wp2
          go_loopw [3, 4] (fun i _ wr => ∃ j : Nat, j ≤ lk ∧ i = .int .i64 j ∧ Stil.firstPos (kids.map Stil.netWrong) = Stil.firstPos ((kids.drop j).map Stil.netWrong) ∧ Below (w.heap.size + 1) (w.alloc (.cells #[.int .i64 k, .int .i64 e.op, .slice aa la acap, .slice a lk cap] 34)) wr) (fun i _ _ => lk - (intOf i).toNat)
          case atStart => exact ⟨0, by omega, rfl, rfl, Below.refl _ _⟩
          case round =>
            obtain ⟨j, hj, rfl, hfp, hB⟩ := hrel
            have HP : Hid (Stil.firstPos (kids.map Stil.netWrong) = Stil.firstPos ((kids.drop j).map Stil.netWrong)) := hfp
            clear hfp
            have hz : w.heap.size < wr.heap.size := by have := hB.size; simp at this; omega
            have c0 : wr.cell? ⟨w.heap.size, 0, none⟩ = some (.int .i64 k) := by rw [hB.cell (p := ⟨w.heap.size, 0, none⟩) (by simp)]; simp [go_sem]
            have f0 : wr.frozen? ⟨w.heap.size, 0, none⟩ = false := by rw [hB.frozen (p := ⟨w.heap.size, 0, none⟩) (by simp)]; simp [go_sem]
            have c1 : wr.cell? ⟨w.heap.size, 1, none⟩ = some (.int .i64 e.op) := by rw [hB.cell (p := ⟨w.heap.size, 1, none⟩) (by simp)]; simp [go_sem]
            have f1 : wr.frozen? ⟨w.heap.size, 1, none⟩ = false := by rw [hB.frozen (p := ⟨w.heap.size, 1, none⟩) (by simp)]; simp [go_sem]
            have c2 : wr.cell? ⟨w.heap.size, 2, none⟩ = some (.slice aa la acap) := by rw [hB.cell (p := ⟨w.heap.size, 2, none⟩) (by simp)]; simp [go_sem]
            have f2 : wr.frozen? ⟨w.heap.size, 2, none⟩ = false := by rw [hB.frozen (p := ⟨w.heap.size, 2, none⟩) (by simp)]; simp [go_sem]
            have c3 : wr.cell? ⟨w.heap.size, 3, none⟩ = some (.slice a lk cap) := by rw [hB.cell (p := ⟨w.heap.size, 3, none⟩) (by simp)]; simp [go_sem]
            have f3 : wr.frozen? ⟨w.heap.size, 3, none⟩ = false := by rw [hB.frozen (p := ⟨w.heap.size, 3, none⟩) (by simp)]; simp [go_sem]
            have hbw : Below w.heap.size w wr := (below_alloc _ _).trans (hB.mono (by omega))
            by_cases hlt : j < lk
            · have hlt' : j < kids.length := by have := HLK.out; omega
              obtain ⟨b, o, rfl, hbl, hn⟩ := HC.out j hlt'
              obtain ⟨x0, x1, av, kv, x2, x3, hav, hkv⟩ := (NetAt.below hbw _ _ _ hn hbl).open
              have HI : Hid (∀ W, Below wr.heap.size wr W → Calls Tryd.prog 14 #[.agg #[.int .i64 kids[j].kind, .int .i64 kids[j].one.op, av, kv]] W fun e w' => e = .returned (.int .i64 (Stil.netWrong kids[j])) ∧ Below W.heap.size W w') := fun W hW => IH.out kids[j] (List.getElem_mem hlt') av kv W (hav.below hW) (hkv.below hW) (HF.out _ (List.getElem_mem hlt'))
              have HS : Hid (Stil.firstPos ((kids.drop j).map Stil.netWrong) = if 0 < Stil.netWrong kids[j] then Stil.netWrong kids[j] else Stil.firstPos ((kids.drop (j + 1)).map Stil.netWrong)) := by
                show _ = _
                rw [List.drop_eq_getElem_cons hlt', List.map_cons]; rfl
              obtain ⟨s, hs⟩ : ∃ s, s = Stil.netWrong kids[j] := ⟨_, rfl⟩
              obtain ⟨x, hx⟩ : ∃ x, x = kids[j] := ⟨_, rfl⟩
              rw [← hs] at HI HS
              rw [← hx] at HI x0 x1
              obtain ⟨aa', acap', rfl, _⟩ := hav
              obtain ⟨a', cap', rfl, _⟩ := hkv
              clear hs hx hn
              by_cases hpos : 0 < s
              · go_wp2_with (go_at_call 14; refine (HI.out _ (by (repeat (first | exact Below.refl _ _ | assumption | refine bl_alloc ?_ _ | refine bl_drewN ?_ _ | refine bl_drew ?_ | refine bl_grow ?_ _ _ | refine bl_set (Nat.le_refl _) ?_ _ | refine bl_call ?_ (by assumption))))).mono ?_; rintro e w2 ⟨rfl, hb2⟩)
                go_ret
                exact ⟨ret_int (by rw [HZ3.out, HP.out, HS.out, if_pos hpos]), by (repeat (first | exact Below.refl _ _ | assumption | refine bl_alloc ?_ _ | refine bl_drewN ?_ _ | refine bl_drew ?_ | refine bl_grow ?_ _ _ | refine bl_set (Nat.le_refl _) ?_ _ | refine bl_call ?_ (by assumption)))⟩
              · go_wp2_with (go_at_call 14; refine (HI.out _ (by (repeat (first | exact Below.refl _ _ | assumption | refine bl_alloc ?_ _ | refine bl_drewN ?_ _ | refine bl_drew ?_ | refine bl_grow ?_ _ _ | refine bl_set (Nat.le_refl _) ?_ _ | refine bl_call ?_ (by assumption))))).mono ?_; rintro e w2 ⟨rfl, hb2⟩)
                refine ⟨⟨j + 1, by omega, by go_num, ?_, hB.trans (hb2.mono hz)⟩, by simp [intOf]; omega⟩
                rw [HP.out, HS.out, if_neg (by omega)]
            · go_wp2
              go_ret
              refine ⟨ret_int ?_, hbw⟩
              rw [HZ3.out, HP.out, List.drop_of_length_le (by have := HLK.out; omega)]; rfl
        · rw [hbn] at HZ2
          go_wp2
          go_ret
          exact ⟨ret_int (by rw [HZ2.out]; rfl), by (repeat (first | exact Below.refl _ _ | assumption | refine bl_alloc ?_ _ | refine bl_drewN ?_ _ | refine bl_drew ?_ | refine bl_grow ?_ _ _ | refine bl_set (Nat.le_refl _) ?_ _ | refine bl_call ?_ (by assumption)))⟩
end Go.Proofs.YthhfnncehfkbfaaDoor
