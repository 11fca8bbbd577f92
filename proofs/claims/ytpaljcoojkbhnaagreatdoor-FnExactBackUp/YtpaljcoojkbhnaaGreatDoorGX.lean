/- X1, U4b, X2, X3, X4, X5: texts put together. -/
import Derived.Test.YtpaljcoojkbhnaaGreatDoorGO
import Derived.Test.YtpaljcoojkbhnaaGreatDoorGJ
set_option maxHeartbeats 4000000
set_option maxRecDepth 100000
/- Contracts of the program's chapter 3: whether a net has its form; what is wrong with a net. -/
namespace Go.Proofs.YtpaljcoojkbhnaaGreatDoor
open Go.RowKit Go.Sort Go.BigFrame Go.Shelf
attribute [local go_sem] Oper.semAt_some
/-- What is told of a code: an error, or none. -/
def errOf (c : Int) : Value := if 0 < c then .iface 200 (.int .i64 c) else .nilIface
theorem i_hasForm (n : Stil.Net) (av kv : Value) (w : World) (hav : DevsAt w av n.one.args) (hkv : NetsAt w kv n.kids) (hf : Stil.netFits n) :
  Calls Tryz.prog 161 #[.agg #[.int .i64 n.kind, .int .i64 n.one.op, av, kv]] w fun e w' => e = .returned (.bool (Stil.hasForm n)) ∧ Below w.heap.size w w' := by
 obtain ⟨_, he, hl, _⟩ := Stil.netFits_parts hf
 have hla := he.2.1
 obtain ⟨p0, r0, rfl, _⟩ := hav
 obtain ⟨p1, r1, rfl, _⟩ := hkv
 clear hf he
 have HC : Hid (∀ W, Calls Tryz.prog 86 #[.agg #[.int .i64 n.one.op, .slice p0 n.one.args.length r0]] W fun e w' => e = .returned (.bool (n.one.op == 0 && n.one.args.length == 0)) ∧ Below W.heap.size W w') := fun W => i_isNothing _ _ _ _ _ (by omega)
 have HN : Hid (Stil.hasForm n = if n.kind = 1 then decide (n.kids.length = 0) else if n.kind = 2 ∨ n.kind = 3 then (n.one.op == 0 && n.one.args.length == 0) && decide (0 < n.kids.length) else if n.kind = 4 then (n.one.op == 0 && n.one.args.length == 0) && decide (n.kids.length = 1) else false) := rfl
 obtain ⟨bb, hbb⟩ : ∃ bb, bb = (n.one.op == 0 && n.one.args.length == 0) := ⟨_, rfl⟩
 rw [← hbb] at HN HC
 obtain ⟨lk, hlk⟩ : ∃ lk, lk = n.kids.length := ⟨_, rfl⟩
 obtain ⟨la, hla2⟩ : ∃ la, la = n.one.args.length := ⟨_, rfl⟩
 rw [← hlk] at HN hl ⊢
 rw [← hla2] at HC hla ⊢
 obtain ⟨k, hk⟩ : ∃ k, k = n.kind := ⟨_, rfl⟩
 rw [← hk] at HN ⊢
 obtain ⟨R, hR⟩ : ∃ R, R = Stil.hasForm n := ⟨_, rfl⟩
 rw [← hR] at HN ⊢
 clear hbb hlk hla2 hk hR
 by_cases k1 : k = 1
 ·subst k1
  have HX : Hid (R = ((lk : Int) == 0)) := by show _ = _; rw [HN.out, if_pos rfl, Bool.eq_iff_iff]; simp
  clear HN HC
  go_enter Tryz.func161, Tryz.ntmps161
  go_wp2
  all_goals go_ret
  all_goals exact ⟨ret_bool (by rw [HX.out]), blA⟩
 ·have e1 : (k == 1) = false := by rw [beq_eq_false_iff_ne]; exact k1
  by_cases k23 : k = 2 ∨ k = 3
  ·have HX : Hid (R = (bb && decide ((0 : Int) < (lk : Int)))) := by show _ = _; rw [HN.out, if_neg k1, if_pos k23, Bool.eq_iff_iff]; simp
   clear HN
   cases bb
   ·rcases k23 with rfl | rfl
    ·go_enter Tryz.func161, Tryz.ntmps161
     go_wp2_with (go_at_call 86; refine (HC.out _).mono ?_; rintro e w1 ⟨rfl, hb⟩; obtain ⟨hc, hfz⟩ := bcell hb)
     all_goals go_ret
     all_goals exact ⟨ret_bool (by rw [HX.out]; simp), blA⟩
    ·go_enter Tryz.func161, Tryz.ntmps161
     go_wp2_with (go_at_call 86; refine (HC.out _).mono ?_; rintro e w1 ⟨rfl, hb⟩; obtain ⟨hc, hfz⟩ := bcell hb)
     all_goals go_ret
     all_goals exact ⟨ret_bool (by rw [HX.out]; simp), blA⟩
   ·rcases k23 with rfl | rfl
    ·go_enter Tryz.func161, Tryz.ntmps161
     go_wp2_with (go_at_call 86; refine (HC.out _).mono ?_; rintro e w1 ⟨rfl, hb⟩; obtain ⟨hc, hfz⟩ := bcell hb)
     all_goals go_ret
     all_goals exact ⟨ret_bool (by rw [HX.out]; simp), blA⟩
    ·go_enter Tryz.func161, Tryz.ntmps161
     go_wp2_with (go_at_call 86; refine (HC.out _).mono ?_; rintro e w1 ⟨rfl, hb⟩; obtain ⟨hc, hfz⟩ := bcell hb)
     all_goals go_ret
     all_goals exact ⟨ret_bool (by rw [HX.out]; simp), blA⟩
  ·have e2 : (k == 2) = false := by rw [beq_eq_false_iff_ne]; omega
   have e3 : (k == 3) = false := by rw [beq_eq_false_iff_ne]; omega
   by_cases k4 : k = 4
   ·subst k4
    have HX : Hid (R = (bb && ((lk : Int) == 1))) := by show _ = _; rw [HN.out, if_neg k1, if_neg k23, if_pos rfl, Bool.eq_iff_iff]; simp; omega
    clear HN
    cases bb
    ·go_enter Tryz.func161, Tryz.ntmps161
     go_wp2_with (go_at_call 86; refine (HC.out _).mono ?_; rintro e w1 ⟨rfl, hb⟩; obtain ⟨hc, hfz⟩ := bcell hb)
     all_goals go_ret
     all_goals exact ⟨ret_bool (by rw [HX.out]; simp), blA⟩
    ·go_enter Tryz.func161, Tryz.ntmps161
     go_wp2_with (go_at_call 86; refine (HC.out _).mono ?_; rintro e w1 ⟨rfl, hb⟩; obtain ⟨hc, hfz⟩ := bcell hb)
     all_goals go_ret
     all_goals exact ⟨ret_bool (by rw [HX.out]; simp), blA⟩
   ·have e4 : (k == 4) = false := by rw [beq_eq_false_iff_ne]; exact k4
    have HX : Hid (R = false) := by show _ = _; rw [HN.out, if_neg k1, if_neg k23, if_neg k4]
    clear HN HC
    go_enter Tryz.func161, Tryz.ntmps161
    go_wp2
    all_goals go_ret
    all_goals exact ⟨ret_bool (by rw [HX.out]), blA⟩
end Go.Proofs.YtpaljcoojkbhnaaGreatDoor
/- The blocks in which a round keeps what it was handed. -/
namespace Go.Proofs.YtpaljcoojkbhnaaGreatDoor
open Go.RowKit Go.Sort Go.BigFrame Go.Shelf
/-- The net that a round was handed lies in a block of the round's own. -/
def NetBox (W : World) (B : Nat) (k op : Int) (a n : Value) : Prop := W.cell? ⟨B, 0, none⟩ = some (.int .i64 k) ∧ W.cell? ⟨B, 1, none⟩ = some (.int .i64 op) ∧ W.cell? ⟨B, 2, none⟩ = some a ∧ W.cell? ⟨B, 3, none⟩ = some n
theorem netBox_own {β : Type} (B : Nat) (k op : Int) (a n : Value) : Own (fun (_ : β) W => NetBox W B k op a n) := fun _ _ _ _ hs hg hr =>
 ⟨cell_kept hs.1 hg hr, cell_kept hs.2.1 hg hr, cell_kept hs.2.2.1 hg hr, cell_kept hs.2.2.2 hg hr⟩
end Go.Proofs.YtpaljcoojkbhnaaGreatDoor
/- Contracts of the program's chapter 3: what is wrong with a net. -/
namespace Go.Proofs.YtpaljcoojkbhnaaGreatDoor
open Go.RowKit Go.Sort Go.BigFrame Go.Shelf
attribute [local go_sem] Oper.semAt_some
theorem firstPos_prefix {α : Type} (f : α → Int) {a b : List α} (h : a <+: b) (hp : 0 < Stil.firstPos (a.map f)) : Stil.firstPos (b.map f) = Stil.firstPos (a.map f) := by
 obtain ⟨c, rfl⟩ := h
 rw [List.map_append, Stil.firstPos_append, if_pos hp]
theorem firstPos_snoc {α : Type} (f : α → Int) (l : List α) (x : α) (h : ¬ 0 < Stil.firstPos (l.map f)) : Stil.firstPos ((l ++ [x]).map f) = if 0 < f x then f x else 0 := by
 rw [List.map_append, Stil.firstPos_append, if_neg h]
 simp [Stil.firstPos]
theorem i_lookNet (n : Stil.Net) (av kv : Value) (w : World) (hr : RowsAt w) (hav : DevsAt w av n.one.args) (hkv : NetsAt w kv n.kids) (hf : Stil.netFits n) :
  Calls Tryz.prog 154 #[.agg #[.int .i64 n.kind, .int .i64 n.one.op, av, kv]] w fun e w' => e = .returned (errOf (Stil.netWrong n)) ∧ Below w.heap.size w w' := by
 have HFP : Hid (Stil.firstPos ((Stil.netsPre [n]).map Stil.netOwnWrong) = Stil.netWrong n) := by show _ = _; rw [Stil.netsPre_one, Stil.netPre_wrong]
 have hnb := Stil.netWrong_bound n
 obtain ⟨z, hz⟩ : ∃ z, z = Stil.netWrong n := ⟨_, rfl⟩
 rw [← hz] at HFP hnb ⊢
 clear hz
 refine (callsIn_wide (n := 9)).1 ?_
 have HAV : Hid (DevsAt w av n.one.args) := hav
 have HKV : Hid (NetsAt w kv n.kids) := hkv
 have HRR : Hid (∀ W, Below w.heap.size w W → RowsAt W) := fun W h => hr.below h
 obtain ⟨p0, r0, rfl, _⟩ := hav
 obtain ⟨p1, r1, rfl, _⟩ := hkv
 refine callsIn_of_wp_marks Tryz.func154 rfl trivial ?_ rfl
 simp only [Tryz.ntmps154, List.size_toArray, List.length_cons, List.length_nil, Nat.reduceAdd, Nat.reduceSub, Array.replicate_succ, Array.replicate_zero, List.push_toArray, List.append_toArray, List.nil_append, List.cons_append]
 gi_wp2_with (refine ⟨trivial, ?_⟩; gi_at_call 89; refine (callsIn_wide.2 (i_treeNets _ _ _ _ _ _ _ _ _)).mono ?_; rintro e w1 ⟨b, A, K, rfl, hb0, hA0, hK0, hA, hK, x0, x1, x2, x3, hb⟩)
 simp only [World.size_alloc] at hb0 hA0 hK0
 have hbw : Below w.heap.size w w1 := blA
 have hcr : w1.cell? ⟨w.heap.size + 1, 0, none⟩ = some .nilIface := clA hb
 have hcf : w1.frozen? ⟨w.heap.size + 1, 0, none⟩ = false := frA hb
 have hsz1 : w.heap.size + 2 ≤ w1.heap.size := by have := hb.size; simp at this; omega
 have hseen : NetsSeen w (fun _ => False) w1 (.slice (some ⟨b, 0, none⟩) 1 1) [n] := by
  refine ⟨_, 1, rfl, fun i hi => ⟨b, 0, rfl, (fun h => h), .slice p0 n.one.args.length r0, .slice p1 n.kids.length r1, ?_⟩⟩
  obtain rfl : i = 0 := by simpa using hi
  simp only [Nat.zero_mul, Nat.zero_add, List.getElem_cons_zero]
  exact ⟨x0, x1, x2, x3, HAV.out, HKV.out⟩
 have HS : Hid (SeqStopsK Fence.wide (9 - 1) Tryz.prog 119 #[.pointer (some ⟨K, 0, none⟩), .pointer (some ⟨A, 0, none⟩)] (fun x : NetV w Stil.netFits => #[Value.agg #[.int .i64 x.net.kind, .int .i64 x.net.one.op, x.av, x.kv]]) (Kept w.heap.size (fun _ => False)) (fun ys => ys.map NetV.net = Stil.netsPre [n]) (fun pre => pre.map NetV.net <+: Stil.netsPre [n]) (Stil.netsPre [n]).length w1) :=
  i_seqNets w Stil.netFits (fun x hx => ⟨(Stil.netFits_parts hx).2.2.1, (Stil.netFits_parts hx).2.2.2⟩) (fun _ => False) (fun _ h => h.elim) 0 A K (fun _ h => h.elim) (fun h => h) (fun h => h) [n] (by simp) (by simpa using hf) _ w1 hbw (Nat.zero_le _) hseen hA hK _
 clear hseen hb x0 x1 x2 x3 hA hK hf
 refine wpIn_rangeFunc_ownH rfl (by decide) (gf := 119) (lb := #[.pointer (some ⟨K, 0, none⟩), .pointer (some ⟨A, 0, none⟩)]) rfl trivial (enters_of Tryz.func119 (by kernel_rfl) rfl)
  HS.out Kept.t (Kept.b (by omega)) (Below.refl _ _) (fun _ => rfl)
  (fun pre W => ((W.cell? ⟨w.heap.size + 1, 0, none⟩ = some .nilIface ∧ W.frozen? ⟨w.heap.size + 1, 0, none⟩ = false) ∧ Below w.heap.size w W) ∧ ¬ 0 < Stil.firstPos (pre.map (Stil.netOwnWrong ∘ NetV.net)) ∧ w1.heap.size ≤ W.heap.size)
  (fun c pre W => (c = .ret ∧ ∃ k, 0 < k ∧ Stil.firstPos (pre.map (Stil.netOwnWrong ∘ NetV.net)) = k ∧ W.cell? ⟨w.heap.size + 1, 0, none⟩ = some (.iface 200 (.int .i64 k))) ∧ Below w.heap.size w W)
  (OwnFrom.and (OwnFrom.and (Own.from (fun s A B row hs hg hr => ⟨cell_kept hs.1 hg hr, (frozen_kept hs.1 hg hr).trans hs.2⟩) _) (ownFrom_below (Nat.le_refl _) (by omega))) (OwnFrom.and (ownFrom_pure _ _) (fun _ _ _ _ hs hg _ => Nat.le_trans hs hg.size)))
  (fun c => OwnFrom.and (Own.from (fun s A B row hs hg hr => ⟨hs.1, hs.2.elim fun t ht => ⟨t, ht.1, ht.2.1, cell_kept ht.2.2 hg hr⟩⟩) _) (ownFrom_below (Nat.le_refl _) (by omega)))
  ⟨⟨⟨hcr, hcf⟩, hbw⟩, by simp [Stil.firstPos], Nat.le_refl _⟩
  (fun x a' W => ∃ Bx, w1.heap.size ≤ Bx ∧ NetBox W Bx x.net.kind x.net.one.op x.av x.kv ∧ a' = { tmps := #[.agg #[.int .i64 n.kind, .int .i64 n.one.op, .slice p0 n.one.args.length r0, .slice p1 n.kids.length r1], .pointer (some ⟨w.heap.size, 0, none⟩), .pointer (some ⟨w.heap.size + 1, 0, none⟩), .pointer (some ⟨Bx, 0, none⟩), .agg #[.int .i64 n.kind, .int .i64 n.one.op, .slice p0 n.one.args.length r0, .slice p1 n.kids.length r1], .func (.func 119) #[] #[.pointer (some ⟨K, 0, none⟩), .pointer (some ⟨A, 0, none⟩)], .agg #[.int .i64 x.net.kind, .int .i64 x.net.one.op, x.av, x.kv], undef, undef, undef, undef, undef, undef, undef, undef, undef, undef, undef, undef, undef, undef], defers := [] })
  (fun x a' s A B row hs hg hr => hs.elim fun Bx hx => ⟨Bx, hx.1, netBox_own (β := Unit) Bx _ _ _ _ s A B row hx.2.1 hg (fun r e => (hr r e).2), hx.2.2⟩) ?assign ?body ?done ?stop
 case assign =>
  rintro l pre x W KK ⟨⟨⟨hc, hfz⟩, hB⟩, hp, hsz2⟩ hKK
  obtain ⟨x, av, kv, hav, hkv, hxf⟩ := x
  obtain ⟨q0, s0, rfl, _⟩ := id hav
  obtain ⟨q1, s1, rfl, _⟩ := id hkv
  gi_wp2
  exact hKK _ _ ((KeepsOthers.alloc _ _).from _) (Kept.of_below hB.size (below_alloc _ _)) ⟨⟨⟨cell_alloc_keep _ hc, frozen_alloc_keep _ hc hfz⟩, blA⟩, hp, by simp; omega⟩ ⟨W.heap.size, by omega, ⟨by simp [go_sem], by simp [go_sem], by simp [go_sem], by simp [go_sem]⟩, rfl⟩
 case body =>
  rintro l pre x a' W hlw _ ⟨⟨⟨hc, hfz⟩, hB⟩, hp, hsz2⟩ ⟨Bx, hBx, ⟨y0, y1, y2, y3⟩, rfl⟩ hpl
  have hz0 : w.heap.size + 1 < W.heap.size := lt_of_cell3 hc
  have hBz : Bx < W.heap.size := lt_of_cell3 y0
  have hn : w.heap.size ≤ W.heap.size := by omega
  have HHF : Hid (∀ X, Below w.heap.size w X → Calls Tryz.prog 161 #[.agg #[.int .i64 x.net.kind, .int .i64 x.net.one.op, x.av, x.kv]] X fun e w' => e = .returned (.bool (Stil.hasForm x.net)) ∧ Below X.heap.size X w') := fun X hX => i_hasForm x.net x.av x.kv X (x.hav.below hX) (x.hkv.below hX) x.mem
  have HIC : Hid (∀ X, Below w.heap.size w X → Calls Tryz.prog 83 #[.agg #[.int .i64 x.net.one.op, x.av]] X fun e w' => e = .returned (.bool (Stil.isContact x.net.one.op x.net.one.args)) ∧ Below X.heap.size X w') := fun X hX => i_isContact x.net.one.op x.av x.net.one.args X (HRR.out X hX) (x.hav.below hX) (Stil.netFits_parts x.mem).2.1.2.2 (by have := (Stil.netFits_parts x.mem).2.1.2.1; omega)
  have HSN : Hid (Stil.firstPos ((pre ++ [x]).map (Stil.netOwnWrong ∘ NetV.net)) = if 0 < Stil.netOwnWrong x.net then Stil.netOwnWrong x.net else 0) := firstPos_snoc _ _ _ hp
  have HOW : Hid (Stil.netOwnWrong x.net = if Stil.hasForm x.net then (if x.net.kind = 1 then (if Stil.isContact x.net.one.op x.net.one.args then 0 else 3) else 0) else 2) := rfl
  obtain ⟨q0, s0, e0, _⟩ := id x.hav
  obtain ⟨q1, s1, e1, _⟩ := id x.hkv
  rw [e0, e1] at HHF
  rw [e0] at HIC y2
  rw [e1] at y3
  obtain ⟨hfm, hhf⟩ : ∃ hfm, hfm = Stil.hasForm x.net := ⟨_, rfl⟩
  obtain ⟨ic, hic⟩ : ∃ ic, ic = Stil.isContact x.net.one.op x.net.one.args := ⟨_, rfl⟩
  obtain ⟨kd, hkd⟩ : ∃ kd, kd = x.net.kind := ⟨_, rfl⟩
  rw [← hhf] at HHF HOW
  rw [← hic] at HIC HOW
  rw [← hkd] at HHF HOW y0
  clear hhf hic hkd e0 e1 hpl hlw hp
  cases hfm
  ·have HX : Hid (Stil.firstPos ((pre ++ [x]).map (Stil.netOwnWrong ∘ NetV.net)) = 2) := by show _ = _; rw [HSN.out, HOW.out]; simp
   clear HSN HOW
   gi_wp2_with (refine ⟨trivial, ?_⟩; gi_at_call 161; refine (CallsIn.inRound l (callsIn_wide.2 (HHF.out _ blA))).mono ?_; rintro e W2 ⟨rfl, hb2⟩; have c2 := (hb2.cell (p := ⟨w.heap.size + 1, 0, none⟩) hz0).trans hc; have z2 := (hb2.frozen (p := ⟨w.heap.size + 1, 0, none⟩) hz0).trans hfz)
   exact ⟨by (repeat (first | with_reducible exact KeepsFrom.refl _ _ | with_reducible refine kf_set ?_ _ _ | with_reducible refine kf_drew ?_ | with_reducible refine kf_alloc ?_ _ | with_reducible refine kf_call ?_ (by assumption))), ⟨rfl, 2, by omega, HX.out, cellSetAt c2⟩, blA⟩
  ·by_cases hk1 : kd = 1
   ·subst hk1
    cases ic
    ·have HX : Hid (Stil.firstPos ((pre ++ [x]).map (Stil.netOwnWrong ∘ NetV.net)) = 3) := by show _ = _; rw [HSN.out, HOW.out]; simp
     clear HSN HOW
     gi_wp2_with (first | (refine ⟨trivial, ?_⟩; gi_at_call 161; refine (CallsIn.inRound l (callsIn_wide.2 (HHF.out _ blA))).mono ?_; rintro e W2 ⟨rfl, hb2⟩; have c2 := (hb2.cell (p := ⟨w.heap.size + 1, 0, none⟩) hz0).trans hc; have z2 := (hb2.frozen (p := ⟨w.heap.size + 1, 0, none⟩) hz0).trans hfz; obtain ⟨hcc2, hff2⟩ := bcell hb2) | (refine ⟨trivial, ?_⟩; gi_at_call 83; refine (CallsIn.inRound l (callsIn_wide.2 (HIC.out _ blA))).mono ?_; rintro e W3 ⟨rfl, hb3⟩; have c3 := (hb3.cell (p := ⟨w.heap.size + 1, 0, none⟩) (lt_of_cell3 c2)).trans c2; have z3 := (hb3.frozen (p := ⟨w.heap.size + 1, 0, none⟩) (lt_of_cell3 c2)).trans z2))
     exact ⟨by (repeat (first | with_reducible exact KeepsFrom.refl _ _ | with_reducible refine kf_set ?_ _ _ | with_reducible refine kf_drew ?_ | with_reducible refine kf_alloc ?_ _ | with_reducible refine kf_call ?_ (by assumption))), ⟨rfl, 3, by omega, HX.out, cellSetAt c3⟩, blA⟩
    ·have HX : Hid (Stil.firstPos ((pre ++ [x]).map (Stil.netOwnWrong ∘ NetV.net)) = 0) := by show _ = _; rw [HSN.out, HOW.out]; simp
     clear HSN HOW
     gi_wp2_with (first | (refine ⟨trivial, ?_⟩; gi_at_call 161; refine (CallsIn.inRound l (callsIn_wide.2 (HHF.out _ blA))).mono ?_; rintro e W2 ⟨rfl, hb2⟩; have c2 := (hb2.cell (p := ⟨w.heap.size + 1, 0, none⟩) hz0).trans hc; have z2 := (hb2.frozen (p := ⟨w.heap.size + 1, 0, none⟩) hz0).trans hfz; obtain ⟨hcc2, hff2⟩ := bcell hb2) | (refine ⟨trivial, ?_⟩; gi_at_call 83; refine (CallsIn.inRound l (callsIn_wide.2 (HIC.out _ blA))).mono ?_; rintro e W3 ⟨rfl, hb3⟩; have c3 := (hb3.cell (p := ⟨w.heap.size + 1, 0, none⟩) (lt_of_cell3 c2)).trans c2; have z3 := (hb3.frozen (p := ⟨w.heap.size + 1, 0, none⟩) (lt_of_cell3 c2)).trans z2))
     exact ⟨by (repeat (first | with_reducible exact KeepsFrom.refl _ _ | with_reducible refine kf_set ?_ _ _ | with_reducible refine kf_drew ?_ | with_reducible refine kf_alloc ?_ _ | with_reducible refine kf_call ?_ (by assumption))), kp_call (kp_call (Kept.refl _ _ _) hn hb2) hn hb3, ⟨⟨⟨c3, z3⟩, blA⟩, by rw [HX.out]; omega, by have := hb2.size; have := hb3.size; omega⟩⟩
   ·have hkb : (kd == 1) = false := by rw [beq_eq_false_iff_ne]; exact hk1
    have HX : Hid (Stil.firstPos ((pre ++ [x]).map (Stil.netOwnWrong ∘ NetV.net)) = 0) := by show _ = _; rw [HSN.out, HOW.out]; simp [hk1]
    clear HSN HOW
    gi_wp2_with (refine ⟨trivial, ?_⟩; gi_at_call 161; refine (CallsIn.inRound l (callsIn_wide.2 (HHF.out _ blA))).mono ?_; rintro e W2 ⟨rfl, hb2⟩; have c2 := (hb2.cell (p := ⟨w.heap.size + 1, 0, none⟩) hz0).trans hc; have z2 := (hb2.frozen (p := ⟨w.heap.size + 1, 0, none⟩) hz0).trans hfz; obtain ⟨hcc2, hff2⟩ := bcell hb2)
    refine ⟨trivial, ?_⟩
    gi_wp2
    exact ⟨by (repeat (first | with_reducible exact KeepsFrom.refl _ _ | with_reducible refine kf_set ?_ _ _ | with_reducible refine kf_drew ?_ | with_reducible refine kf_alloc ?_ _ | with_reducible refine kf_call ?_ (by assumption))), kp_call (Kept.refl _ _ _) hn hb2, ⟨⟨⟨c2, z2⟩, blA⟩, by rw [HX.out]; omega, by have := hb2.size; omega⟩⟩
 case done =>
  rintro D ys W hD hS ⟨⟨⟨hc, hfz⟩, hB⟩, hp, _⟩ hK
  rw [← List.map_map, hS, HFP.out] at hp
  have HX : Hid (errOf z = .nilIface) := by show _ = _; unfold errOf; rw [if_neg hp]
  gi_wp2
  have hK' := (KeepsOthers.setCell W ⟨w.heap.size + 1, 0, none⟩ .nilIface).same D _ hK rfl
  refine ⟨by simp, .inl ⟨_, _, rfl, run_takeDeferred hK', ?_⟩⟩
  have hc5 := cell_kept (cellSetAt hc (v := .nilIface)) (grownBy_putObj' _ D (.deferred none)) (fun r e => by cases e; exact ⟨_, hK', rfl⟩)
  refine ⟨.nilIface, ?_, by rw [HX.out], (hB.setCell (p := ⟨w.heap.size + 1, 0, none⟩) (by simp) _).trans (belowK_b (w := w) (Nat.le_refl _) _ D _ _ (by omega) hK' rfl rfl)⟩
  simp [results, Tryz.f154, go_sem, hc5]
 case stop =>
  rintro D c pre W hD hSp ⟨⟨rfl, k, hk, hfp, hc⟩, hB⟩ hK
  have hzk : z = k := by
   rw [← List.map_map] at hfp
   have := firstPos_prefix Stil.netOwnWrong hSp (by rw [hfp]; exact hk)
   rw [HFP.out, hfp] at this
   exact this
  have HX : Hid (errOf z = .iface 200 (.int .i64 k)) := by show _ = _; unfold errOf; rw [hzk, if_pos hk]
  gi_wp2
  refine ⟨by simp, .inl ⟨_, _, rfl, run_takeDeferred hK, ?_⟩⟩
  have hc5 := cell_kept hc (grownBy_putObj' _ D (.deferred none)) (fun r e => by cases e; exact ⟨_, hK, rfl⟩)
  refine ⟨.iface 200 (.int .i64 k), ?_, by rw [HX.out], hB.trans (belowK_b (w := w) (Nat.le_refl _) W D _ _ (by omega) hK rfl rfl)⟩
  simp [results, Tryz.f154, go_sem, hc5]
end Go.Proofs.YtpaljcoojkbhnaaGreatDoor
/- Contracts of the program's chapter 3: what is wrong with an arm, its kids aside. -/
namespace Go.Proofs.YtpaljcoojkbhnaaGreatDoor
open Go.RowKit Go.Sort Go.BigFrame
theorem errOf_pos {c : Int} (h : 0 < c) : errOf c = .iface 200 (.int .i64 c) := by unfold errOf; rw [if_pos h]
theorem errOf_neg {c : Int} (h : ¬ 0 < c) : errOf c = .nilIface := by unfold errOf; rw [if_neg h]
theorem i_lookArm (x : Stil.Arm) (av nv cv kv : Value) (w : World) (hr : RowsAt w) (hav : DevsAt w av x.net.one.args) (hnv : NetsAt w nv x.net.kids) (hcv : ElemsAt w cv x.coils) (hkv : ArmsAt w kv x.kids) (hf : Stil.armFits x) :
  Calls Tryz.prog 135 #[.agg #[.int .i64 x.net.kind, .int .i64 x.net.one.op, av, nv, cv, kv]] w fun e w' => e = .returned (errOf (Stil.armOwnWrong x)) ∧ Below w.heap.size w w' := by
 obtain ⟨n, coils, kids⟩ := x
 simp only at hav hnv hcv hkv ⊢
 obtain ⟨hnf, hcl, hcf, hkl, _⟩ := Stil.armFits_parts hf
 simp only at hnf hcl hcf hkl
 have HNONE : Hid (∀ W, Below w.heap.size w W → Calls Tryz.prog 109 #[.agg #[.int .i64 n.kind, .int .i64 n.one.op, av, nv]] W fun e w' => e = .returned (.bool (Stil.netNone n)) ∧ Below W.heap.size W w') := fun W hW => i_isNone n av nv W (hav.below hW) (hnv.below hW) hnf
 have HNW : Hid (∀ W, Below w.heap.size w W → Calls Tryz.prog 154 #[.agg #[.int .i64 n.kind, .int .i64 n.one.op, av, nv]] W fun e w' => e = .returned (errOf (Stil.netWrong n)) ∧ Below W.heap.size W w') := fun W hW => i_lookNet n av nv W (hr.below hW) (hav.below hW) (hnv.below hW) hnf
 have HCF : Hid (∀ c ∈ coils, c.fits) := hcf
 have HRR : Hid (∀ W, Below w.heap.size w W → RowsAt W) := fun W h => hr.below h
 obtain ⟨p0, r0, rfl, _⟩ := hav
 obtain ⟨p1, r1, rfl, _⟩ := hnv
 obtain ⟨p2, r2, rfl, hcc⟩ := hcv
 obtain ⟨p3, r3, rfl, _⟩ := hkv
 have HCC : Hid (∀ i (h : i < coils.length), ∃ b o, p2 = some ⟨b, o, none⟩ ∧ b < w.heap.size ∧ ElemAt w b (o + i * 2) coils[i]) := hcc
 have HOW : Hid (Stil.armOwnWrong ⟨n, coils, kids⟩ = if Stil.netNone n = false ∧ 0 < Stil.netWrong n then Stil.netWrong n else if Stil.coilsBad coils then 3 else if coils.length = 0 ∧ kids.length = 0 then 5 else 0) := rfl
 obtain ⟨nn, hnn⟩ : ∃ nn, nn = Stil.netNone n := ⟨_, rfl⟩
 obtain ⟨nw, hnw⟩ : ∃ nw, nw = Stil.netWrong n := ⟨_, rfl⟩
 rw [← hnn] at HNONE HOW
 rw [← hnw] at HNW HOW
 obtain ⟨lc, hlc⟩ : ∃ lc, lc = coils.length := ⟨_, rfl⟩
 obtain ⟨lk, hlk⟩ : ∃ lk, lk = kids.length := ⟨_, rfl⟩
 have HLC : Hid (lc = coils.length) := hlc
 rw [← hlc] at hcl HOW ⊢
 rw [← hlk] at hkl HOW ⊢
 obtain ⟨R, hR⟩ : ∃ R, R = Stil.armOwnWrong ⟨n, coils, kids⟩ := ⟨_, rfl⟩
 rw [← hR] at HOW ⊢
 clear hf hnf hcf hcc hnn hnw hlc hlk hR hr
 cases nn
 ·by_cases hpos : 0 < nw
  ·have HX : Hid (R = nw) := by show _ = _; rw [HOW.out]; simp [hpos]
   rw [errOf_pos hpos] at HNW
   go_enter Tryz.func135, Tryz.ntmps135
   go_wp2_with (first | (go_at_call 109; refine (HNONE.out _ blA).mono ?_; rintro e w1 ⟨rfl, hb1⟩; obtain ⟨hc1, hf1⟩ := bcell hb1) | (go_at_call 154; refine (HNW.out _ blA).mono ?_; rintro e w2 ⟨rfl, hb2⟩))
   go_ret
   exact ⟨by rw [HX.out, errOf_pos hpos]; rfl, blA⟩
  ·have HR2 : Hid (R = if Stil.coilsBad coils then 3 else if lc = 0 ∧ lk = 0 then 5 else 0) := by show _ = _; rw [HOW.out]; simp [hpos]
   rw [errOf_neg hpos] at HNW
   clear HOW
   go_enter Tryz.func135, Tryz.ntmps135
   go_wp2_with (first | (go_at_call 109; refine (HNONE.out _ blA).mono ?_; rintro e w1 ⟨rfl, hb1⟩; obtain ⟨hc1, hf1⟩ := bcell hb1; have hz1 : w.heap.size < w1.heap.size := Nat.lt_of_lt_of_le (by simp) hb1.size) | (go_at_call 154; refine (HNW.out _ blA).mono ?_; rintro e w2 ⟨rfl, hb2⟩; obtain ⟨hc2, hf2⟩ := bcell hb2))
   have hbs : Below (w.heap.size + 1) (w.alloc (.cells #[.int .i64 n.kind, .int .i64 n.one.op, .slice p0 n.one.args.length r0, .slice p1 n.kids.length r1, .slice p2 lc r2, .slice p3 lk r3] 80)) w2 := by
    have h1 := hb1.size
    simp only [World.size_alloc] at hb1 h1
    exact hb1.trans (hb2.mono h1)
   clear hb1 hb2 hc1 hf1 hc2 hf2 hz1
   go_loopw [19] (fun i wr => ∃ m : Nat, m ≤ lc ∧ i = .int .i64 m ∧ Stil.coilsBad coils = Stil.coilsBad (coils.drop m) ∧ Below (w.heap.size + 1) (w.alloc (.cells #[.int .i64 n.kind, .int .i64 n.one.op, .slice p0 n.one.args.length r0, .slice p1 n.kids.length r1, .slice p2 lc r2, .slice p3 lk r3] 80)) wr) (fun i _ => lc - (intOf i).toNat)
   case atStart => exact ⟨0, by omega, rfl, rfl, hbs⟩
   case round =>
    clear hbs
    obtain ⟨m, hm, rfl, hcb, hB⟩ := hrel
    have HCB : Hid (Stil.coilsBad coils = Stil.coilsBad (coils.drop m)) := hcb
    clear hcb
    have hz : w.heap.size < wr.heap.size := by have := hB.size; simp at this; omega
    have c0 : wr.cell? ⟨w.heap.size, 0, none⟩ = some (.int .i64 n.kind) := clA hB
    have f0 : wr.frozen? ⟨w.heap.size, 0, none⟩ = false := frA hB
    have c1 : wr.cell? ⟨w.heap.size, 1, none⟩ = some (.int .i64 n.one.op) := clA hB
    have f1 : wr.frozen? ⟨w.heap.size, 1, none⟩ = false := frA hB
    have c2 : wr.cell? ⟨w.heap.size, 2, none⟩ = some (.slice p0 n.one.args.length r0) := clA hB
    have f2 : wr.frozen? ⟨w.heap.size, 2, none⟩ = false := frA hB
    have c3 : wr.cell? ⟨w.heap.size, 3, none⟩ = some (.slice p1 n.kids.length r1) := clA hB
    have f3 : wr.frozen? ⟨w.heap.size, 3, none⟩ = false := frA hB
    have c4 : wr.cell? ⟨w.heap.size, 4, none⟩ = some (.slice p2 lc r2) := clA hB
    have f4 : wr.frozen? ⟨w.heap.size, 4, none⟩ = false := frA hB
    have c5 : wr.cell? ⟨w.heap.size, 5, none⟩ = some (.slice p3 lk r3) := clA hB
    have f5 : wr.frozen? ⟨w.heap.size, 5, none⟩ = false := frA hB
    have hbw : Below w.heap.size w wr := (below_alloc _ _).trans (hB.mono (by omega))
    by_cases hlt : m < lc
    ·have hlt' : m < coils.length := by have := HLC.out; omega
     obtain ⟨b, o, rfl, hbl, hce⟩ := HCC.out m hlt'
     obtain ⟨x0, cav, x1, hcav⟩ := hce.below hbw hbl
     have hcfm := HCF.out _ (List.getElem_mem hlt')
     have HI : Hid (∀ W, Below wr.heap.size wr W → Calls Tryz.prog 84 #[.agg #[.int .i64 coils[m].op, cav]] W fun e w' => e = .returned (.bool (Stil.isCoil coils[m].op coils[m].args)) ∧ Below W.heap.size W w') := fun W hW => i_isCoil coils[m].op cav coils[m].args W (HRR.out W (hbw.trans (hW.mono hbw.size))) (hcav.below hW) hcfm.2.2 (by have := hcfm.2.1; omega)
     have HD : Hid (Stil.coilsBad coils = (!Stil.isCoil coils[m].op coils[m].args || Stil.coilsBad (coils.drop (m + 1)))) := by show _ = _; rw [HCB.out, Stil.coilsBad_drop _ _ hlt']
     obtain ⟨ic, hic⟩ : ∃ ic, ic = Stil.isCoil coils[m].op coils[m].args := ⟨_, rfl⟩
     rw [← hic] at HI HD
     obtain ⟨y, hy⟩ : ∃ y, y = coils[m] := ⟨_, rfl⟩
     rw [← hy] at HI x0
     obtain ⟨t1, t2, g1, _⟩ := hcav
     rw [← hy] at g1
     subst g1
     clear hic hy hce hcfm HCB
     cases ic
     ·have HX : Hid (R = 3) := by show _ = _; rw [HR2.out, HD.out]; rfl
      go_wp2_with (go_at_call 84; refine (HI.out _ blA).mono ?_; rintro e w3 ⟨rfl, hb3⟩)
      go_ret
      exact ⟨by rw [HX.out, errOf_pos (by omega)]; rfl, blA⟩
     ·have HX : Hid (Stil.coilsBad coils = Stil.coilsBad (coils.drop (m + 1))) := by show _ = _; rw [HD.out]; rfl
      go_wp2_with (go_at_call 84; refine (HI.out _ blA).mono ?_; rintro e w3 ⟨rfl, hb3⟩)
      exact ⟨⟨m + 1, by omega, by go_num, HX.out, hB.trans (((below_alloc _ _).trans (hb3.mono (by simp))).mono hz)⟩, by simp [intOf]; omega⟩
    ·have hcb0 : Stil.coilsBad coils = false := by rw [HCB.out, List.drop_of_length_le (by have := HLC.out; omega)]; rfl
     have HR3 : Hid (R = if lc = 0 ∧ lk = 0 then 5 else 0) := by show _ = _; rw [HR2.out, hcb0]; rfl
     clear hcb0 HCB HR2
     by_cases hl0 : lc = 0 ∧ lk = 0
     ·have HX : Hid (R = 5) := by show _ = _; rw [HR3.out, if_pos hl0]
      obtain ⟨rfl, rfl⟩ := hl0
      clear HR3
      go_wp2
      go_ret
      exact ⟨by rw [HX.out, errOf_pos (by omega)]; rfl, blA⟩
     ·have HX : Hid (R = 0) := by show _ = _; rw [HR3.out, if_neg hl0]
      clear HR3
      have hcase : ((lc : Int) == 0) = false ∨ ((lk : Int) == 0) = false := by
       by_cases h : lc = 0
       ·right; rw [beq_eq_false_iff_ne]; omega
       ·left; rw [beq_eq_false_iff_ne]; omega
      clear hl0
      rcases hcase with hq | hq
      ·go_wp2
       all_goals go_ret
       all_goals exact ⟨by rw [HX.out, errOf_neg (by omega)]; rfl, blA⟩
      ·go_wp2
       all_goals go_ret
       all_goals exact ⟨by rw [HX.out, errOf_neg (by omega)]; rfl, blA⟩
 ·have HR2 : Hid (R = if Stil.coilsBad coils then 3 else if lc = 0 ∧ lk = 0 then 5 else 0) := by show _ = _; rw [HOW.out]; simp
  clear HOW HNW
  go_enter Tryz.func135, Tryz.ntmps135
  go_wp2_with (go_at_call 109; refine (HNONE.out _ blA).mono ?_; rintro e w1 ⟨rfl, hb1⟩; obtain ⟨hc1, hf1⟩ := bcell hb1)
  have hbs : Below (w.heap.size + 1) (w.alloc (.cells #[.int .i64 n.kind, .int .i64 n.one.op, .slice p0 n.one.args.length r0, .slice p1 n.kids.length r1, .slice p2 lc r2, .slice p3 lk r3] 80)) w1 := by simpa using hb1
  clear hb1 hc1 hf1
  go_loopw [19] (fun i wr => ∃ m : Nat, m ≤ lc ∧ i = .int .i64 m ∧ Stil.coilsBad coils = Stil.coilsBad (coils.drop m) ∧ Below (w.heap.size + 1) (w.alloc (.cells #[.int .i64 n.kind, .int .i64 n.one.op, .slice p0 n.one.args.length r0, .slice p1 n.kids.length r1, .slice p2 lc r2, .slice p3 lk r3] 80)) wr) (fun i _ => lc - (intOf i).toNat)
  case atStart => exact ⟨0, by omega, rfl, rfl, hbs⟩
  case round =>
   clear hbs
   obtain ⟨m, hm, rfl, hcb, hB⟩ := hrel
   have HCB : Hid (Stil.coilsBad coils = Stil.coilsBad (coils.drop m)) := hcb
   clear hcb
   have hz : w.heap.size < wr.heap.size := by have := hB.size; simp at this; omega
   have c0 : wr.cell? ⟨w.heap.size, 0, none⟩ = some (.int .i64 n.kind) := clA hB
   have f0 : wr.frozen? ⟨w.heap.size, 0, none⟩ = false := frA hB
   have c1 : wr.cell? ⟨w.heap.size, 1, none⟩ = some (.int .i64 n.one.op) := clA hB
   have f1 : wr.frozen? ⟨w.heap.size, 1, none⟩ = false := frA hB
   have c2 : wr.cell? ⟨w.heap.size, 2, none⟩ = some (.slice p0 n.one.args.length r0) := clA hB
   have f2 : wr.frozen? ⟨w.heap.size, 2, none⟩ = false := frA hB
   have c3 : wr.cell? ⟨w.heap.size, 3, none⟩ = some (.slice p1 n.kids.length r1) := clA hB
   have f3 : wr.frozen? ⟨w.heap.size, 3, none⟩ = false := frA hB
   have c4 : wr.cell? ⟨w.heap.size, 4, none⟩ = some (.slice p2 lc r2) := clA hB
   have f4 : wr.frozen? ⟨w.heap.size, 4, none⟩ = false := frA hB
   have c5 : wr.cell? ⟨w.heap.size, 5, none⟩ = some (.slice p3 lk r3) := clA hB
   have f5 : wr.frozen? ⟨w.heap.size, 5, none⟩ = false := frA hB
   have hbw : Below w.heap.size w wr := (below_alloc _ _).trans (hB.mono (by omega))
   by_cases hlt : m < lc
   ·have hlt' : m < coils.length := by have := HLC.out; omega
    obtain ⟨b, o, rfl, hbl, hce⟩ := HCC.out m hlt'
    obtain ⟨x0, cav, x1, hcav⟩ := hce.below hbw hbl
    have hcfm := HCF.out _ (List.getElem_mem hlt')
    have HI : Hid (∀ W, Below wr.heap.size wr W → Calls Tryz.prog 84 #[.agg #[.int .i64 coils[m].op, cav]] W fun e w' => e = .returned (.bool (Stil.isCoil coils[m].op coils[m].args)) ∧ Below W.heap.size W w') := fun W hW => i_isCoil coils[m].op cav coils[m].args W (HRR.out W (hbw.trans (hW.mono hbw.size))) (hcav.below hW) hcfm.2.2 (by have := hcfm.2.1; omega)
    have HD : Hid (Stil.coilsBad coils = (!Stil.isCoil coils[m].op coils[m].args || Stil.coilsBad (coils.drop (m + 1)))) := by show _ = _; rw [HCB.out, Stil.coilsBad_drop _ _ hlt']
    obtain ⟨ic, hic⟩ : ∃ ic, ic = Stil.isCoil coils[m].op coils[m].args := ⟨_, rfl⟩
    rw [← hic] at HI HD
    obtain ⟨y, hy⟩ : ∃ y, y = coils[m] := ⟨_, rfl⟩
    rw [← hy] at HI x0
    obtain ⟨t1, t2, g1, _⟩ := hcav
    rw [← hy] at g1
    subst g1
    clear hic hy hce hcfm HCB
    cases ic
    ·have HX : Hid (R = 3) := by show _ = _; rw [HR2.out, HD.out]; rfl
     go_wp2_with (go_at_call 84; refine (HI.out _ blA).mono ?_; rintro e w3 ⟨rfl, hb3⟩)
     go_ret
     exact ⟨by rw [HX.out, errOf_pos (by omega)]; rfl, blA⟩
    ·have HX : Hid (Stil.coilsBad coils = Stil.coilsBad (coils.drop (m + 1))) := by show _ = _; rw [HD.out]; rfl
     go_wp2_with (go_at_call 84; refine (HI.out _ blA).mono ?_; rintro e w3 ⟨rfl, hb3⟩)
     exact ⟨⟨m + 1, by omega, by go_num, HX.out, hB.trans (((below_alloc _ _).trans (hb3.mono (by simp))).mono hz)⟩, by simp [intOf]; omega⟩
   ·have hcb0 : Stil.coilsBad coils = false := by rw [HCB.out, List.drop_of_length_le (by have := HLC.out; omega)]; rfl
    have HR3 : Hid (R = if lc = 0 ∧ lk = 0 then 5 else 0) := by show _ = _; rw [HR2.out, hcb0]; rfl
    clear hcb0 HCB HR2
    by_cases hl0 : lc = 0 ∧ lk = 0
    ·have HX : Hid (R = 5) := by show _ = _; rw [HR3.out, if_pos hl0]
     obtain ⟨rfl, rfl⟩ := hl0
     clear HR3
     go_wp2
     go_ret
     exact ⟨by rw [HX.out, errOf_pos (by omega)]; rfl, blA⟩
    ·have HX : Hid (R = 0) := by show _ = _; rw [HR3.out, if_neg hl0]
     clear HR3
     have hcase : ((lc : Int) == 0) = false ∨ ((lk : Int) == 0) = false := by
      by_cases h : lc = 0
      ·right; rw [beq_eq_false_iff_ne]; omega
      ·left; rw [beq_eq_false_iff_ne]; omega
     clear hl0
     rcases hcase with hq | hq
     ·go_wp2
      all_goals go_ret
      all_goals exact ⟨by rw [HX.out, errOf_neg (by omega)]; rfl, blA⟩
     ·go_wp2
      all_goals go_ret
      all_goals exact ⟨by rw [HX.out, errOf_neg (by omega)]; rfl, blA⟩
end Go.Proofs.YtpaljcoojkbhnaaGreatDoor
/- Contracts of the program's chapter 3: what is wrong with a rung. -/
namespace Go.Proofs.YtpaljcoojkbhnaaGreatDoor
open Go.RowKit Go.Sort Go.BigFrame Go.Shelf
attribute [local go_sem] Oper.semAt_some
theorem i_lookRung (x : Stil.Arm) (av nv cv kv : Value) (w : World) (hr : RowsAt w) (hav : DevsAt w av x.net.one.args) (hnv : NetsAt w nv x.net.kids) (hcv : ElemsAt w cv x.coils) (hkv : ArmsAt w kv x.kids) (hf : Stil.armFits x) :
  Calls Tryz.prog 131 #[.agg #[.int .i64 x.net.kind, .int .i64 x.net.one.op, av, nv, cv, kv]] w fun e w' => e = .returned (errOf (Stil.rungWrong x)) ∧ Below w.heap.size w w' := by
 have HRW : Hid (Stil.rungWrong x = if Stil.netNone x.net then 4 else Stil.armWrong x) := rfl
 have HFP : Hid (Stil.firstPos ((Stil.armsPre [x]).map Stil.armOwnWrong) = Stil.armWrong x) := by
  show _ = _
  rw [← Stil.armPre_wrong]
  simp [Stil.armsPre]
 have HNONE : Hid (∀ W, Below w.heap.size w W → Calls Tryz.prog 109 #[.agg #[.int .i64 x.net.kind, .int .i64 x.net.one.op, av, nv]] W fun e w' => e = .returned (.bool (Stil.netNone x.net)) ∧ Below W.heap.size W w') := fun W hW => i_isNone x.net av nv W (hav.below hW) (hnv.below hW) (Stil.armFits_parts hf).1
 have HRR : Hid (∀ W, Below w.heap.size w W → RowsAt W) := fun W h => hr.below h
 have HAV : Hid (DevsAt w av x.net.one.args ∧ NetsAt w nv x.net.kids ∧ ElemsAt w cv x.coils ∧ ArmsAt w kv x.kids) := ⟨hav, hnv, hcv, hkv⟩
 obtain ⟨p0, r0, rfl, _⟩ := hav
 obtain ⟨p1, r1, rfl, _⟩ := hnv
 obtain ⟨p2, r2, rfl, _⟩ := hcv
 obtain ⟨p3, r3, rfl, _⟩ := hkv
 obtain ⟨R, hR⟩ : ∃ R, R = Stil.rungWrong x := ⟨_, rfl⟩
 obtain ⟨z, hz⟩ : ∃ z, z = Stil.armWrong x := ⟨_, rfl⟩
 obtain ⟨nn, hnn⟩ : ∃ nn, nn = Stil.netNone x.net := ⟨_, rfl⟩
 rw [← hR] at HRW ⊢
 rw [← hz] at HRW HFP
 rw [← hnn] at HRW HNONE
 clear hR hz hnn
 refine (callsIn_wide (n := 9)).1 ?_
 cases nn
 ·have HX : Hid (R = z) := by show _ = _; rw [HRW.out]; simp
  clear HRW
  refine callsIn_of_wp_marks Tryz.func131 rfl trivial ?_ rfl
  simp only [Tryz.ntmps131, List.size_toArray, List.length_cons, List.length_nil, Nat.reduceAdd, Nat.reduceSub, Array.replicate_succ, Array.replicate_zero, List.push_toArray, List.append_toArray, List.nil_append, List.cons_append]
  gi_wp2_with (first | (refine ⟨trivial, ?_⟩; gi_at_call 109; refine (callsIn_wide.2 (HNONE.out _ blA)).mono ?_; rintro e w0 ⟨rfl, hb9⟩; obtain ⟨hc9, hf9⟩ := bcell hb9) | (refine ⟨trivial, ?_⟩; gi_at_call 134; refine (callsIn_wide.2 (i_treeArms _ _ _ _)).mono ?_; rintro e w1 ⟨A, K, rfl, hA0, hK0, hA, hK, hb⟩))
  have hb8 : Below w.heap.size w w0 := blA
  have hbw : Below w.heap.size w w1 := blA
  have h9 := hb9.size
  have h1 := hb.size
  simp only [World.size_alloc] at hA0 hK0 h9 h1
  have x0 : w1.cell? ⟨w0.heap.size, 0, none⟩ = some (.int .i64 x.net.kind) := clA hb
  have x1 : w1.cell? ⟨w0.heap.size, 1, none⟩ = some (.int .i64 x.net.one.op) := clA hb
  have x2 : w1.cell? ⟨w0.heap.size, 2, none⟩ = some (.slice p0 x.net.one.args.length r0) := clA hb
  have x3 : w1.cell? ⟨w0.heap.size, 3, none⟩ = some (.slice p1 x.net.kids.length r1) := clA hb
  have x4 : w1.cell? ⟨w0.heap.size, 4, none⟩ = some (.slice p2 x.coils.length r2) := clA hb
  have x5 : w1.cell? ⟨w0.heap.size, 5, none⟩ = some (.slice p3 x.kids.length r3) := clA hb
  have hcr : w1.cell? ⟨w.heap.size + 1, 0, none⟩ = some .nilIface := by
   rw [hb.cell (p := ⟨w.heap.size + 1, 0, none⟩) (by simp; omega), (below_alloc w0 _).cell (p := ⟨w.heap.size + 1, 0, none⟩) (show w.heap.size + 1 < w0.heap.size by omega), hb9.cell (p := ⟨w.heap.size + 1, 0, none⟩) (by simp)]
   simp [go_sem]
  have hcf : w1.frozen? ⟨w.heap.size + 1, 0, none⟩ = false := by
   rw [hb.frozen (p := ⟨w.heap.size + 1, 0, none⟩) (by simp; omega), (below_alloc w0 _).frozen (p := ⟨w.heap.size + 1, 0, none⟩) (show w.heap.size + 1 < w0.heap.size by omega), hb9.frozen (p := ⟨w.heap.size + 1, 0, none⟩) (by simp)]
   simp [go_sem]
  have hsz1 : w.heap.size + 2 ≤ w1.heap.size := by omega
  have hseen : ArmsSeen w (fun _ => False) w1 (.slice (some ⟨w0.heap.size, 0, none⟩) 1 1) [x] := by
   refine ⟨_, 1, rfl, fun i hi => ⟨w0.heap.size, 0, rfl, (fun h => h), .slice p0 x.net.one.args.length r0, .slice p1 x.net.kids.length r1, .slice p2 x.coils.length r2, .slice p3 x.kids.length r3, ?_⟩⟩
   obtain rfl : i = 0 := by simpa using hi
   simp only [Nat.zero_mul, Nat.zero_add, List.getElem_cons_zero]
   exact ⟨x0, x1, x2, x3, x4, x5, HAV.out⟩
  have HS : Hid (SeqStopsK Fence.wide (9 - 1) Tryz.prog 159 #[.pointer (some ⟨K, 0, none⟩), .pointer (some ⟨A, 0, none⟩)] (fun y : ArmV w Stil.armFits => #[Value.agg #[.int .i64 y.arm.net.kind, .int .i64 y.arm.net.one.op, y.av, y.nv, y.cv, y.kv]]) (Kept w.heap.size (fun _ => False)) (fun ys => ys.map ArmV.arm = Stil.armsPre [x]) (fun pre => pre.map ArmV.arm <+: Stil.armsPre [x]) (Stil.armsPre [x]).length w1) :=
   i_seqArms w Stil.armFits (fun y hy => ⟨(Stil.armFits_parts hy).2.2.2.1, (Stil.armFits_parts hy).2.2.2.2⟩) (fun _ => False) (fun _ h => h.elim) 0 A K (fun _ h => h.elim) (fun h => h) (fun h => h) [x] (by simp) (by simpa using hf) _ w1 hbw (Nat.zero_le _) hseen hA hK _
  clear hseen hb hb9 hc9 hf9 x0 x1 x2 x3 x4 x5 hA hK hf
  refine wpIn_rangeFunc_ownH rfl (by decide) (gf := 159) (lb := #[.pointer (some ⟨K, 0, none⟩), .pointer (some ⟨A, 0, none⟩)]) rfl trivial (enters_of Tryz.func159 (by kernel_rfl) rfl)
   HS.out Kept.t (Kept.b (by omega)) (Below.refl _ _) (fun _ => rfl)
   (fun pre W => ((W.cell? ⟨w.heap.size + 1, 0, none⟩ = some .nilIface ∧ W.frozen? ⟨w.heap.size + 1, 0, none⟩ = false) ∧ Below w.heap.size w W) ∧ ¬ 0 < Stil.firstPos (pre.map (Stil.armOwnWrong ∘ ArmV.arm)) ∧ w1.heap.size ≤ W.heap.size)
   (fun c pre W => (c = .ret ∧ ∃ k, 0 < k ∧ Stil.firstPos (pre.map (Stil.armOwnWrong ∘ ArmV.arm)) = k ∧ W.cell? ⟨w.heap.size + 1, 0, none⟩ = some (.iface 200 (.int .i64 k))) ∧ Below w.heap.size w W)
   (OwnFrom.and (OwnFrom.and (Own.from (fun s A B row hs hg hr => ⟨cell_kept hs.1 hg hr, (frozen_kept hs.1 hg hr).trans hs.2⟩) _) (ownFrom_below (Nat.le_refl _) (by omega))) (OwnFrom.and (ownFrom_pure _ _) (fun _ _ _ _ hs hg _ => Nat.le_trans hs hg.size)))
   (fun c => OwnFrom.and (Own.from (fun s A B row hs hg hr => ⟨hs.1, hs.2.elim fun t ht => ⟨t, ht.1, ht.2.1, cell_kept ht.2.2 hg hr⟩⟩) _) (ownFrom_below (Nat.le_refl _) (by omega)))
   ⟨⟨⟨hcr, hcf⟩, hbw⟩, by simp [Stil.firstPos], Nat.le_refl _⟩
   (fun y a' W => ∃ Bx, w1.heap.size ≤ Bx ∧ ArmBox W Bx y.arm.net.kind y.arm.net.one.op y.av y.nv y.cv y.kv ∧ a' = { tmps := #[.agg #[.int .i64 x.net.kind, .int .i64 x.net.one.op, .slice p0 x.net.one.args.length r0, .slice p1 x.net.kids.length r1, .slice p2 x.coils.length r2, .slice p3 x.kids.length r3], .pointer (some ⟨w.heap.size, 0, none⟩), .pointer (some ⟨w.heap.size + 1, 0, none⟩), .pointer (some ⟨Bx, 0, none⟩), undef, .pointer (some ⟨w.heap.size, 0, none⟩), .agg #[.int .i64 x.net.kind, .int .i64 x.net.one.op, .slice p0 x.net.one.args.length r0, .slice p1 x.net.kids.length r1], .bool false, undef, .agg #[.int .i64 x.net.kind, .int .i64 x.net.one.op, .slice p0 x.net.one.args.length r0, .slice p1 x.net.kids.length r1, .slice p2 x.coils.length r2, .slice p3 x.kids.length r3], .slice (some ⟨w0.heap.size, 0, none⟩) 1 1, .func (.func 159) #[] #[.pointer (some ⟨K, 0, none⟩), .pointer (some ⟨A, 0, none⟩)], .agg #[.int .i64 y.arm.net.kind, .int .i64 y.arm.net.one.op, y.av, y.nv, y.cv, y.kv], undef, undef, undef, undef, undef], defers := [] })
   (fun y a' s A B row hs hg hr => hs.elim fun Bx hx => ⟨Bx, hx.1, armBox_own (β := Unit) Bx _ _ _ _ _ _ s A B row hx.2.1 hg (fun r e => (hr r e).2), hx.2.2⟩) ?assign ?body ?done ?stop
  case assign =>
   rintro l pre y W KK ⟨⟨⟨hc, hfz⟩, hB⟩, hp, hsz2⟩ hKK
   obtain ⟨y, av, nv, cv, kv, hav, hnv, hcv, hkv, hxf⟩ := y
   obtain ⟨q0, s0, rfl, _⟩ := id hav
   obtain ⟨q1, s1, rfl, _⟩ := id hnv
   obtain ⟨q2, s2, rfl, _⟩ := id hcv
   obtain ⟨q3, s3, rfl, _⟩ := id hkv
   gi_wp2
   exact hKK _ _ ((KeepsOthers.alloc _ _).from _) (Kept.of_below hB.size (below_alloc _ _)) ⟨⟨⟨cell_alloc_keep _ hc, frozen_alloc_keep _ hc hfz⟩, blA⟩, hp, by simp; omega⟩ ⟨W.heap.size, by omega, ⟨by simp [go_sem], by simp [go_sem], by simp [go_sem], by simp [go_sem], by simp [go_sem], by simp [go_sem]⟩, rfl⟩
  case body =>
   rintro l pre y a' W hlw _ ⟨⟨⟨hc, hfz⟩, hB⟩, hp, hsz2⟩ ⟨Bx, hBx, ⟨y0, y1, y2, y3, y4, y5⟩, rfl⟩ hpl
   have hz0 : w.heap.size + 1 < W.heap.size := lt_of_cell3 hc
   have hn : w.heap.size ≤ W.heap.size := by omega
   have HLA : Hid (∀ X, Below w.heap.size w X → Calls Tryz.prog 135 #[.agg #[.int .i64 y.arm.net.kind, .int .i64 y.arm.net.one.op, y.av, y.nv, y.cv, y.kv]] X fun e w' => e = .returned (errOf (Stil.armOwnWrong y.arm)) ∧ Below X.heap.size X w') := fun X hX => i_lookArm y.arm y.av y.nv y.cv y.kv X (HRR.out X hX) (y.hav.below hX) (y.hnv.below hX) (y.hcv.below hX) (y.hkv.below hX) y.mem
   have HSN : Hid (Stil.firstPos ((pre ++ [y]).map (Stil.armOwnWrong ∘ ArmV.arm)) = if 0 < Stil.armOwnWrong y.arm then Stil.armOwnWrong y.arm else 0) := firstPos_snoc _ _ _ hp
   obtain ⟨q0, s0, e0, _⟩ := id y.hav
   obtain ⟨q1, s1, e1, _⟩ := id y.hnv
   obtain ⟨q2, s2, e2, _⟩ := id y.hcv
   obtain ⟨q3, s3, e3, _⟩ := id y.hkv
   rw [e0, e1, e2, e3] at HLA
   rw [e0] at y2
   rw [e1] at y3
   rw [e2] at y4
   rw [e3] at y5
   obtain ⟨ow, how⟩ : ∃ ow, ow = Stil.armOwnWrong y.arm := ⟨_, rfl⟩
   rw [← how] at HLA HSN
   clear how e0 e1 e2 e3 hpl hlw hp
   by_cases hpos : 0 < ow
   ·rw [errOf_pos hpos] at HLA
    have HX : Hid (Stil.firstPos ((pre ++ [y]).map (Stil.armOwnWrong ∘ ArmV.arm)) = ow) := by show _ = _; rw [HSN.out, if_pos hpos]
    clear HSN
    gi_wp2_with (refine ⟨trivial, ?_⟩; gi_at_call 135; refine (CallsIn.inRound l (callsIn_wide.2 (HLA.out _ blA))).mono ?_; rintro e W2 ⟨rfl, hb2⟩; have c2 := (hb2.cell (p := ⟨w.heap.size + 1, 0, none⟩) hz0).trans hc; have z2 := (hb2.frozen (p := ⟨w.heap.size + 1, 0, none⟩) hz0).trans hfz)
    exact ⟨by (repeat (first | with_reducible exact KeepsFrom.refl _ _ | with_reducible refine kf_set ?_ _ _ | with_reducible refine kf_drew ?_ | with_reducible refine kf_alloc ?_ _ | with_reducible refine kf_call ?_ (by assumption))), ⟨rfl, ow, hpos, HX.out, cellSetAt c2⟩, blA⟩
   ·rw [errOf_neg hpos] at HLA
    have HX : Hid (Stil.firstPos ((pre ++ [y]).map (Stil.armOwnWrong ∘ ArmV.arm)) = 0) := by show _ = _; rw [HSN.out, if_neg hpos]
    clear HSN
    gi_wp2_with (refine ⟨trivial, ?_⟩; gi_at_call 135; refine (CallsIn.inRound l (callsIn_wide.2 (HLA.out _ blA))).mono ?_; rintro e W2 ⟨rfl, hb2⟩; have c2 := (hb2.cell (p := ⟨w.heap.size + 1, 0, none⟩) hz0).trans hc; have z2 := (hb2.frozen (p := ⟨w.heap.size + 1, 0, none⟩) hz0).trans hfz)
    exact ⟨by (repeat (first | with_reducible exact KeepsFrom.refl _ _ | with_reducible refine kf_set ?_ _ _ | with_reducible refine kf_drew ?_ | with_reducible refine kf_alloc ?_ _ | with_reducible refine kf_call ?_ (by assumption))), kp_call (Kept.refl _ _ _) hn hb2, ⟨⟨⟨c2, z2⟩, blA⟩, by rw [HX.out]; omega, by have := hb2.size; omega⟩⟩
  case done =>
   rintro D ys W hD hS ⟨⟨⟨hc, hfz⟩, hB⟩, hp, _⟩ hK
   rw [← List.map_map, hS, HFP.out] at hp
   have HY : Hid (errOf R = .nilIface) := by show _ = _; rw [HX.out, errOf_neg hp]
   gi_wp2
   have hK' := (KeepsOthers.setCell W ⟨w.heap.size + 1, 0, none⟩ .nilIface).same D _ hK rfl
   refine ⟨by simp, .inl ⟨_, _, rfl, run_takeDeferred hK', ?_⟩⟩
   have hc5 := cell_kept (cellSetAt hc (v := .nilIface)) (grownBy_putObj' _ D (.deferred none)) (fun r e => by cases e; exact ⟨_, hK', rfl⟩)
   refine ⟨.nilIface, ?_, by rw [HY.out], (hB.setCell (p := ⟨w.heap.size + 1, 0, none⟩) (by simp) _).trans (belowK_b (w := w) (Nat.le_refl _) _ D _ _ (by omega) hK' rfl rfl)⟩
   simp [results, Tryz.f131, go_sem, hc5]
  case stop =>
   rintro D c pre W hD hSp ⟨⟨rfl, k, hk, hfp, hc⟩, hB⟩ hK
   have hzk : z = k := by
    rw [← List.map_map] at hfp
    have := firstPos_prefix Stil.armOwnWrong hSp (by rw [hfp]; exact hk)
    rw [HFP.out, hfp] at this
    exact this
   have HY : Hid (errOf R = .iface 200 (.int .i64 k)) := by show _ = _; rw [HX.out, hzk, errOf_pos hk]
   gi_wp2
   refine ⟨by simp, .inl ⟨_, _, rfl, run_takeDeferred hK, ?_⟩⟩
   have hc5 := cell_kept hc (grownBy_putObj' _ D (.deferred none)) (fun r e => by cases e; exact ⟨_, hK, rfl⟩)
   refine ⟨.iface 200 (.int .i64 k), ?_, by rw [HY.out], hB.trans (belowK_b (w := w) (Nat.le_refl _) W D _ _ (by omega) hK rfl rfl)⟩
   simp [results, Tryz.f131, go_sem, hc5]
 ·have HX : Hid (R = 4) := by show _ = _; rw [HRW.out]; simp
  clear HRW
  refine callsIn_of_wp_marks Tryz.func131 rfl trivial ?_ rfl
  simp only [Tryz.ntmps131, List.size_toArray, List.length_cons, List.length_nil, Nat.reduceAdd, Nat.reduceSub, Array.replicate_succ, Array.replicate_zero, List.push_toArray, List.append_toArray, List.nil_append, List.cons_append]
  gi_wp2_with (refine ⟨trivial, ?_⟩; gi_at_call 109; refine (callsIn_wide.2 (HNONE.out _ blA)).mono ?_; rintro e w0 ⟨rfl, hb9⟩; have c9 : w0.cell? ⟨w.heap.size + 1, 0, none⟩ = some .nilIface := (clA hb9); have z9 : w0.frozen? ⟨w.heap.size + 1, 0, none⟩ = false := (frA hb9))
  refine ⟨.iface 200 (.int .i64 4), ?_, by rw [HX.out, errOf_pos (by omega)], blA⟩
  simp [results, Tryz.f131, go_sem, c9]
end Go.Proofs.YtpaljcoojkbhnaaGreatDoor
/- Contracts of the program's chapter 3: the first that is wrong with a ladder. -/
namespace Go.Proofs.YtpaljcoojkbhnaaGreatDoor
open Go.RowKit Go.Sort Go.BigFrame
/-- What is told of a ladder: nothing, that it is too large, or a code with its rung. -/
def lookOf (many : Bool) (p : Int × Nat) : Value := if many then .iface 200 (.int .i64 1) else if 0 < p.1 then .iface 203 (.agg #[.int .i64 p.2, .iface 200 (.int .i64 p.1)]) else .nilIface
theorem i_treeLook (l : List Stil.Arm) (kv : Value) (w : World) (hr : RowsAt w) (hkv : ArmsAt w kv l) (hl : l.length ≤ 1048576) (hsz : Stil.treeSize l ≤ 1000000000) (hft : ∀ x ∈ l, Stil.armFits x) :
  Calls Tryz.prog 116 #[kv] w fun e w' => e = .returned (lookOf (decide (40 < l.length ∨ 400 < Stil.treeSize l)) (Stil.firstRung l 0)) ∧ Below w.heap.size w w' := by
 have HT : Hid (∀ W, Below w.heap.size w W → Calls Tryz.prog 130 #[kv, .int .i64 400] W fun e w' => ∃ r : Nat, e = .returned (.int .i64 r) ∧ ((Stil.treeSize l : Int) ≤ 400 → r = Stil.treeSize l) ∧ ((400 : Int) < Stil.treeSize l → (400 : Int) < r) ∧ r ≤ Stil.treeSize l ∧ Below W.heap.size W w') := fun W hW => i_treeCount l kv 400 W (hkv.below hW) hft hl hsz (by omega) (by omega)
 have HF : Hid (∀ x ∈ l, Stil.armFits x) := hft
 have HRR : Hid (∀ W, Below w.heap.size w W → RowsAt W) := fun W h => hr.below h
 obtain ⟨a, cap, rfl, hc⟩ := hkv
 have HC : Hid (∀ i (h : i < l.length), ∃ b o, a = some ⟨b, o, none⟩ ∧ b < w.heap.size ∧ ArmAt w b (o + i * 6) l[i]) := hc
 obtain ⟨ln, hln⟩ : ∃ ln, ln = l.length := ⟨_, rfl⟩
 obtain ⟨z, hz⟩ : ∃ z, z = Stil.treeSize l := ⟨_, rfl⟩
 have HLN : Hid (ln = l.length) := hln
 rw [← hln] at hl HT ⊢
 rw [← hz] at HT hsz ⊢
 obtain ⟨Q, hQ⟩ : ∃ Q, Q = Stil.firstRung l 0 := ⟨_, rfl⟩
 rw [← hQ]
 have HQ : Hid (Q = Stil.firstRung l 0) := hQ
 obtain ⟨R, hR⟩ : ∃ R, R = lookOf (decide (40 < ln ∨ 400 < z)) Q := ⟨_, rfl⟩
 rw [← hR]
 have HR : Hid (R = lookOf (decide (40 < ln ∨ 400 < z)) Q) := hR
 clear hc hft hln hz hQ hR hr
 by_cases h1 : 40 < ln
 ·have HX : Hid (R = .iface 200 (.int .i64 1)) := by show _ = _; rw [HR.out, decide_eq_true (.inl h1)]; rfl
  clear HR HQ
  go_enter Tryz.func116, Tryz.ntmps116
  go_wp2
  go_ret
  exact ⟨by rw [HX.out]; rfl, blA⟩
 ·by_cases h2 : 400 < z
  ·have HX : Hid (R = .iface 200 (.int .i64 1)) := by show _ = _; rw [HR.out, decide_eq_true (.inr h2)]; rfl
   clear HR HQ
   go_enter Tryz.func116, Tryz.ntmps116
   go_wp2_with (go_at_call 130; refine (HT.out _ blA).mono ?_; rintro e w1 ⟨r, rfl, _, hr2, hr3, hb1⟩; have hr4 : (400 : Int) < r := hr2 (by omega); clear hr2)
   go_ret
   exact ⟨by rw [HX.out]; rfl, blA⟩
  ·have HX : Hid (R = lookOf false Q) := by show _ = _; rw [HR.out, decide_eq_false (by omega)]
   clear HR
   go_enter Tryz.func116, Tryz.ntmps116
   go_wp2_with (go_at_call 130; refine (HT.out _ blA).mono ?_; rintro e w1 ⟨r, rfl, hr1, _, hr3, hb1⟩; have hr4 : ¬ (400 : Int) < r := (by omega); clear hr1)
   have hbs : Below w.heap.size w w1 := blA
   clear hb1
   go_loopw [17] (fun i wr => ∃ j : Nat, j ≤ ln ∧ i = .int .i64 j ∧ Q = Stil.firstRung (l.drop j) j ∧ Below w.heap.size w wr) (fun i _ => ln - (intOf i).toNat)
   case atStart => exact ⟨0, by omega, rfl, HQ.out, hbs⟩
   case round =>
    clear hbs HQ
    obtain ⟨j, hj, rfl, hfr, hbw⟩ := hrel
    have HP : Hid (Q = Stil.firstRung (l.drop j) j) := hfr
    clear hfr
    by_cases hlt : j < ln
    ·have hlt' : j < l.length := by have := HLN.out; omega
     obtain ⟨b, o, rfl, hbl, hn⟩ := HC.out j hlt'
     obtain ⟨hna, kcv, kkv, x4, x5, hcv, hkv⟩ := (ArmAt.below hbw _ _ _ hn hbl).open
     obtain ⟨x0, x1, kav, knv, x2, x3, hav, hnv⟩ := hna.open
     have HI : Hid (∀ W, Below wr.heap.size wr W → Calls Tryz.prog 131 #[.agg #[.int .i64 l[j].net.kind, .int .i64 l[j].net.one.op, kav, knv, kcv, kkv]] W fun e w' => e = .returned (errOf (Stil.rungWrong l[j])) ∧ Below W.heap.size W w') := fun W hW => i_lookRung l[j] kav knv kcv kkv W (HRR.out W (hbw.trans (hW.mono hbw.size))) (hav.below hW) (hnv.below hW) (hcv.below hW) (hkv.below hW) (HF.out _ (List.getElem_mem hlt'))
     have HS : Hid (Q = if 0 < Stil.rungWrong l[j] then (Stil.rungWrong l[j], j) else Stil.firstRung (l.drop (j + 1)) (j + 1)) := by show _ = _; rw [HP.out, Stil.firstRung_drop l j hlt']
     obtain ⟨s, hs⟩ : ∃ s, s = Stil.rungWrong l[j] := ⟨_, rfl⟩
     obtain ⟨x, hx⟩ : ∃ x, x = l[j] := ⟨_, rfl⟩
     rw [← hs] at HI HS
     rw [← hx] at HI x0 x1 hav hnv hcv hkv
     obtain ⟨t0, u0, rfl, _⟩ := hav
     obtain ⟨t1, u1, rfl, _⟩ := hnv
     obtain ⟨t2, u2, rfl, _⟩ := hcv
     obtain ⟨t3, u3, rfl, _⟩ := hkv
     clear hs hx hn hna HP
     by_cases hpos : 0 < s
     ·have HY : Hid (R = .iface 203 (.agg #[.int .i64 j, .iface 200 (.int .i64 s)])) := by show _ = _; rw [HX.out, HS.out, if_pos hpos]; unfold lookOf; simp [hpos]
      rw [errOf_pos hpos] at HI
      go_wp2_with (go_at_call 131; refine (HI.out _ blA).mono ?_; rintro e w4 ⟨rfl, hb4⟩)
      go_ret
      exact ⟨by rw [HY.out]; rfl, blA⟩
     ·have HY : Hid (Q = Stil.firstRung (l.drop (j + 1)) (j + 1)) := by show _ = _; rw [HS.out, if_neg hpos]
      rw [errOf_neg hpos] at HI
      go_wp2_with (go_at_call 131; refine (HI.out _ blA).mono ?_; rintro e w4 ⟨rfl, hb4⟩)
      exact ⟨⟨j + 1, by omega, by go_num, HY.out, blA⟩, by simp [intOf]; omega⟩
    ·have HY : Hid (R = .nilIface) := by show _ = _; rw [HX.out, HP.out, List.drop_of_length_le (by have := HLN.out; omega)]; rfl
     go_wp2
     go_ret
     exact ⟨by rw [HY.out]; rfl, hbw⟩
end Go.Proofs.YtpaljcoojkbhnaaGreatDoor
