/- X1, U4b, X2: texts put together. -/
import Derived.Test.YthhfnncehfkbfaaDoorGO
import Derived.Test.YthhfnncehfkbfaaDoorGJ
import Derived.Test.YthhfnncehfkbfaaDoorGM
/- Contracts of the program's chapter 3: whether a net has its form; what is wrong with a net. -/
namespace Go.Proofs.YthhfnncehfkbfaaDoor
open Go.RowKit Go.Sort Go.BigFrame Go.Shelf
attribute [local go_sem] Oper.semAt_some
/-- What is told of a code: an error, or none. -/
def errOf (c : Int) : Value := if 0 < c then .iface 60 (.int .i64 c) else .nilIface
set_option maxHeartbeats 2000000 in
set_option maxRecDepth 100000 in
theorem i_hasForm (n : Stil.Net) (av kv : Value) (w : World) (hav : DevsAt w av n.one.args) (hkv : NetsAt w kv n.kids) (hf : Stil.netFits n) :
    Calls Tryd.prog 32 #[.agg #[.int .i64 n.kind, .int .i64 n.one.op, av, kv]] w fun e w' => e = .returned (.bool (Stil.hasForm n)) ∧ Below w.heap.size w w' := by
  obtain ⟨_, he, hl, _⟩ := Stil.netFits_parts hf
  have hla := he.2.1
  obtain ⟨p0, r0, rfl, _⟩ := hav
  obtain ⟨p1, r1, rfl, _⟩ := hkv
  clear hf he
  have HC : Hid (∀ W, Calls Tryd.prog 48 #[.agg #[.int .i64 n.one.op, .slice p0 n.one.args.length r0]] W fun e w' => e = .returned (.bool (n.one.op == 0 && n.one.args.length == 0)) ∧ Below W.heap.size W w') := fun W => i_isNothing _ _ _ _ _ (by omega)
  have HN : Hid (Stil.hasForm n = if n.kind = 1 then decide (n.kids.length = 0) else if n.kind = 2 ∨ n.kind = 3 then (n.one.op == 0 && n.one.args.length == 0) && decide (0 < n.kids.length) else if n.kind = 4 then (n.one.op == 0 && n.one.args.length == 0) && decide (n.kids.length = 1) else false) := rfl
  obtain ⟨bb, hbb⟩ : ∃ bb, bb = (n.one.op == 0 && n.one.args.length == 0) := ⟨_, rfl⟩
  rw [← hbb] at HN HC
  obtain ⟨lk, hlk⟩ : ∃ lk, lk = n.kids.length := ⟨_, rfl⟩
  obtain ⟨la, hla2⟩ : ∃ la, la = n.one.args.length := ⟨_, rfl⟩
  rw [← hlk] at HN hl ⊢
  rw [← hla2] at HC hla ⊢
  obtain ⟨k, hk⟩ : ∃ k, k = n.kind := ⟨_, rfl⟩
  rw [← hk] at HN ⊢
  obtain ⟨R, hR⟩ : ∃ R, R = Stil.hasForm n := ⟨_, rfl⟩
  rw [← hR] at HN ⊢
  clear hbb hlk hla2 hk hR
  by_cases k1 : k = 1
  · subst k1
    have HX : Hid (R = ((lk : Int) == 0)) := by show _ = _; rw [HN.out, if_pos rfl, Bool.eq_iff_iff]; simp
    clear HN HC
    go_enter Tryd.func32, Tryd.ntmps32
    go_wp2
    all_goals go_ret
    all_goals exact ⟨ret_bool (by rw [HX.out]), by (repeat (first | with_reducible exact Below.refl _ _ | with_reducible assumption | with_reducible refine bl_set (by first | exact Nat.le_refl _ | (simp; done) | (simp; omega) | omega) ?_ _ | with_reducible refine bl_alloc ?_ _ | with_reducible refine bl_drewN ?_ _ | with_reducible refine bl_drew ?_ | with_reducible refine bl_grow ?_ _ _ | with_reducible refine bl_call ?_ (by assumption)))⟩
  · have e1 : (k == 1) = false := by rw [beq_eq_false_iff_ne]; exact k1
    by_cases k23 : k = 2 ∨ k = 3
    · have HX : Hid (R = (bb && decide ((0 : Int) < (lk : Int)))) := by show _ = _; rw [HN.out, if_neg k1, if_pos k23, Bool.eq_iff_iff]; simp
      clear HN
      cases bb
      · rcases k23 with rfl | rfl
        · go_enter Tryd.func32, Tryd.ntmps32
          go_wp2_with (go_at_call 48; refine (HC.out _).mono ?_; rintro e w1 ⟨rfl, hb⟩; obtain ⟨hc, hfz⟩ := bcell hb)
          all_goals go_ret
          all_goals exact ⟨ret_bool (by rw [HX.out]; simp), by (repeat (first | with_reducible exact Below.refl _ _ | with_reducible assumption | with_reducible refine bl_set (by first | exact Nat.le_refl _ | (simp; done) | (simp; omega) | omega) ?_ _ | with_reducible refine bl_alloc ?_ _ | with_reducible refine bl_drewN ?_ _ | with_reducible refine bl_drew ?_ | with_reducible refine bl_grow ?_ _ _ | with_reducible refine bl_call ?_ (by assumption)))⟩
        · go_enter Tryd.func32, Tryd.ntmps32
          go_wp2_with (go_at_call 48; refine (HC.out _).mono ?_; rintro e w1 ⟨rfl, hb⟩; obtain ⟨hc, hfz⟩ := bcell hb)
          all_goals go_ret
          all_goals exact ⟨ret_bool (by rw [HX.out]; simp), by (repeat (first | with_reducible exact Below.refl _ _ | with_reducible assumption | with_reducible refine bl_set (by first | exact Nat.le_refl _ | (simp; done) | (simp; omega) | omega) ?_ _ | with_reducible refine bl_alloc ?_ _ | with_reducible refine bl_drewN ?_ _ | with_reducible refine bl_drew ?_ | with_reducible refine bl_grow ?_ _ _ | with_reducible refine bl_call ?_ (by assumption)))⟩
      · rcases k23 with rfl | rfl
        · go_enter Tryd.func32, Tryd.ntmps32
          go_wp2_with (go_at_call 48; refine (HC.out _).mono ?_; rintro e w1 ⟨rfl, hb⟩; obtain ⟨hc, hfz⟩ := bcell hb)
          all_goals go_ret
          all_goals exact ⟨ret_bool (by rw [HX.out]; simp), by (repeat (first | with_reducible exact Below.refl _ _ | with_reducible assumption | with_reducible refine bl_set (by first | exact Nat.le_refl _ | (simp; done) | (simp; omega) | omega) ?_ _ | with_reducible refine bl_alloc ?_ _ | with_reducible refine bl_drewN ?_ _ | with_reducible refine bl_drew ?_ | with_reducible refine bl_grow ?_ _ _ | with_reducible refine bl_call ?_ (by assumption)))⟩
        · go_enter Tryd.func32, Tryd.ntmps32
          go_wp2_with (go_at_call 48; refine (HC.out _).mono ?_; rintro e w1 ⟨rfl, hb⟩; obtain ⟨hc, hfz⟩ := bcell hb)
          all_goals go_ret
          all_goals exact ⟨ret_bool (by rw [HX.out]; simp), by (repeat (first | with_reducible exact Below.refl _ _ | with_reducible assumption | with_reducible refine bl_set (by first | exact Nat.le_refl _ | (simp; done) | (simp; omega) | omega) ?_ _ | with_reducible refine bl_alloc ?_ _ | with_reducible refine bl_drewN ?_ _ | with_reducible refine bl_drew ?_ | with_reducible refine bl_grow ?_ _ _ | with_reducible refine bl_call ?_ (by assumption)))⟩
    · have e2 : (k == 2) = false := by rw [beq_eq_false_iff_ne]; omega
      have e3 : (k == 3) = false := by rw [beq_eq_false_iff_ne]; omega
      by_cases k4 : k = 4
      · subst k4
        have HX : Hid (R = (bb && ((lk : Int) == 1))) := by show _ = _; rw [HN.out, if_neg k1, if_neg k23, if_pos rfl, Bool.eq_iff_iff]; simp; omega
        clear HN
        cases bb
        · go_enter Tryd.func32, Tryd.ntmps32
          go_wp2_with (go_at_call 48; refine (HC.out _).mono ?_; rintro e w1 ⟨rfl, hb⟩; obtain ⟨hc, hfz⟩ := bcell hb)
          all_goals go_ret
          all_goals exact ⟨ret_bool (by rw [HX.out]; simp), by (repeat (first | with_reducible exact Below.refl _ _ | with_reducible assumption | with_reducible refine bl_set (by first | exact Nat.le_refl _ | (simp; done) | (simp; omega) | omega) ?_ _ | with_reducible refine bl_alloc ?_ _ | with_reducible refine bl_drewN ?_ _ | with_reducible refine bl_drew ?_ | with_reducible refine bl_grow ?_ _ _ | with_reducible refine bl_call ?_ (by assumption)))⟩
        · go_enter Tryd.func32, Tryd.ntmps32
          go_wp2_with (go_at_call 48; refine (HC.out _).mono ?_; rintro e w1 ⟨rfl, hb⟩; obtain ⟨hc, hfz⟩ := bcell hb)
          all_goals go_ret
          all_goals exact ⟨ret_bool (by rw [HX.out]; simp), by (repeat (first | with_reducible exact Below.refl _ _ | with_reducible assumption | with_reducible refine bl_set (by first | exact Nat.le_refl _ | (simp; done) | (simp; omega) | omega) ?_ _ | with_reducible refine bl_alloc ?_ _ | with_reducible refine bl_drewN ?_ _ | with_reducible refine bl_drew ?_ | with_reducible refine bl_grow ?_ _ _ | with_reducible refine bl_call ?_ (by assumption)))⟩
      · have e4 : (k == 4) = false := by rw [beq_eq_false_iff_ne]; exact k4
        have HX : Hid (R = false) := by show _ = _; rw [HN.out, if_neg k1, if_neg k23, if_neg k4]
        clear HN HC
        go_enter Tryd.func32, Tryd.ntmps32
        go_wp2
        all_goals go_ret
        all_goals exact ⟨ret_bool (by rw [HX.out]), by (repeat (first | with_reducible exact Below.refl _ _ | with_reducible assumption | with_reducible refine bl_set (by first | exact Nat.le_refl _ | (simp; done) | (simp; omega) | omega) ?_ _ | with_reducible refine bl_alloc ?_ _ | with_reducible refine bl_drewN ?_ _ | with_reducible refine bl_drew ?_ | with_reducible refine bl_grow ?_ _ _ | with_reducible refine bl_call ?_ (by assumption)))⟩
end Go.Proofs.YthhfnncehfkbfaaDoor
/- The blocks in which a round keeps what it was handed. -/
namespace Go.Proofs.YthhfnncehfkbfaaDoor
open Go.RowKit Go.Sort Go.BigFrame Go.Shelf
/-- The net that a round was handed lies in a block of the round's own. -/
def NetBox (W : World) (B : Nat) (k op : Int) (a n : Value) : Prop := W.cell? ⟨B, 0, none⟩ = some (.int .i64 k) ∧ W.cell? ⟨B, 1, none⟩ = some (.int .i64 op) ∧ W.cell? ⟨B, 2, none⟩ = some a ∧ W.cell? ⟨B, 3, none⟩ = some n
theorem netBox_own {β : Type} (B : Nat) (k op : Int) (a n : Value) : Own (fun (_ : β) W => NetBox W B k op a n) := fun _ _ _ _ hs hg hr =>
  ⟨cell_kept hs.1 hg hr, cell_kept hs.2.1 hg hr, cell_kept hs.2.2.1 hg hr, cell_kept hs.2.2.2 hg hr⟩
theorem ArmBox.below {W W' : World} {B : Nat} {k op : Int} {a n c d : Value} (h : ArmBox W B k op a n c d) (hb : Below W.heap.size W W') : ArmBox W' B k op a n c d :=
  ⟨(hb.cell (p := ⟨B, 0, none⟩) (lt_of_cell3 h.1)).trans h.1, (hb.cell (p := ⟨B, 1, none⟩) (lt_of_cell3 h.1)).trans h.2.1, (hb.cell (p := ⟨B, 2, none⟩) (lt_of_cell3 h.1)).trans h.2.2.1, (hb.cell (p := ⟨B, 3, none⟩) (lt_of_cell3 h.1)).trans h.2.2.2.1, (hb.cell (p := ⟨B, 4, none⟩) (lt_of_cell3 h.1)).trans h.2.2.2.2.1, (hb.cell (p := ⟨B, 5, none⟩) (lt_of_cell3 h.1)).trans h.2.2.2.2.2⟩
theorem ArmBox.set {W : World} {B b o : Nat} {k op : Int} {a n c d v : Value} (h : ArmBox W B k op a n c d) (hb : B ≠ b) : ArmBox (W.setCell ⟨b, o, none⟩ v) B k op a n c d :=
  ⟨(cellSetOther hb).trans h.1, (cellSetOther hb).trans h.2.1, (cellSetOther hb).trans h.2.2.1, (cellSetOther hb).trans h.2.2.2.1, (cellSetOther hb).trans h.2.2.2.2.1, (cellSetOther hb).trans h.2.2.2.2.2⟩
end Go.Proofs.YthhfnncehfkbfaaDoor
/- Contracts of the program's chapter 3: what is wrong with a net. -/
namespace Go.Proofs.YthhfnncehfkbfaaDoor
open Go.RowKit Go.Sort Go.BigFrame Go.Shelf
attribute [local go_sem] Oper.semAt_some
theorem firstPos_prefix {α : Type} (f : α → Int) {a b : List α} (h : a <+: b) (hp : 0 < Stil.firstPos (a.map f)) : Stil.firstPos (b.map f) = Stil.firstPos (a.map f) := by
  obtain ⟨c, rfl⟩ := h
  rw [List.map_append, Stil.firstPos_append, if_pos hp]
theorem firstPos_snoc {α : Type} (f : α → Int) (l : List α) (x : α) (h : ¬ 0 < Stil.firstPos (l.map f)) : Stil.firstPos ((l ++ [x]).map f) = if 0 < f x then f x else 0 := by
  rw [List.map_append, Stil.firstPos_append, if_neg h]
  simp [Stil.firstPos]
set_option maxHeartbeats 4000000 in
set_option maxRecDepth 100000 in
theorem i_lookNet (n : Stil.Net) (av kv : Value) (w : World) (hr : RowsAt w) (hav : DevsAt w av n.one.args) (hkv : NetsAt w kv n.kids) (hf : Stil.netFits n) :
    Calls Tryd.prog 19 #[.agg #[.int .i64 n.kind, .int .i64 n.one.op, av, kv]] w fun e w' => e = .returned (errOf (Stil.netWrong n)) ∧ Below w.heap.size w w' := by
  have HFP : Hid (Stil.firstPos ((Stil.netsPre [n]).map Stil.netOwnWrong) = Stil.netWrong n) := by show _ = _; rw [Stil.netsPre_one, Stil.netPre_wrong]
  have hnb := Stil.netWrong_bound n
  obtain ⟨z, hz⟩ : ∃ z, z = Stil.netWrong n := ⟨_, rfl⟩
  rw [← hz] at HFP hnb ⊢
  clear hz
  refine (callsIn_wide (n := 9)).1 ?_
  have HAV : Hid (DevsAt w av n.one.args) := hav
  have HKV : Hid (NetsAt w kv n.kids) := hkv
  have HRR : Hid (∀ W, Below w.heap.size w W → RowsAt W) := fun W h => hr.below h
  obtain ⟨p0, r0, rfl, _⟩ := hav
  obtain ⟨p1, r1, rfl, _⟩ := hkv
  refine callsIn_of_wp_marks Tryd.func19 rfl trivial ?_ rfl
  simp only [Tryd.ntmps19, List.size_toArray, List.length_cons, List.length_nil, Nat.reduceAdd, Nat.reduceSub, Array.replicate_succ, Array.replicate_zero, List.push_toArray, List.append_toArray, List.nil_append, List.cons_append]
  gi_wp2_with (refine ⟨trivial, ?_⟩; gi_at_call 31; refine (callsIn_wide.2 (i_treeNets _ _ _ _ _ _ _ _ _)).mono ?_; rintro e w1 ⟨b, A, K, rfl, hb0, hA0, hK0, hA, hK, x0, x1, x2, x3, hb⟩)
  simp only [World.size_alloc] at hb0 hA0 hK0
  have hbw : Below w.heap.size w w1 := by (repeat (first | with_reducible exact Below.refl _ _ | with_reducible assumption | with_reducible refine bl_set (by first | exact Nat.le_refl _ | (simp; done) | (simp; omega) | omega) ?_ _ | with_reducible refine bl_alloc ?_ _ | with_reducible refine bl_drewN ?_ _ | with_reducible refine bl_drew ?_ | with_reducible refine bl_grow ?_ _ _ | with_reducible refine bl_call ?_ (by assumption)))
  have hcr : w1.cell? ⟨w.heap.size + 1, 0, none⟩ = some .nilIface := by rw [hb.cell (p := ⟨w.heap.size + 1, 0, none⟩) (by simp)]; simp [go_sem]
  have hcf : w1.frozen? ⟨w.heap.size + 1, 0, none⟩ = false := by rw [hb.frozen (p := ⟨w.heap.size + 1, 0, none⟩) (by simp)]; simp [go_sem]
  have hsz1 : w.heap.size + 2 ≤ w1.heap.size := by have := hb.size; simp at this; omega
  have hseen : NetsSeen w (fun _ => False) w1 (.slice (some ⟨b, 0, none⟩) 1 1) [n] := by
    refine ⟨_, 1, rfl, fun i hi => ⟨b, 0, rfl, (fun h => h), .slice p0 n.one.args.length r0, .slice p1 n.kids.length r1, ?_⟩⟩
    obtain rfl : i = 0 := by simpa using hi
    simp only [Nat.zero_mul, Nat.zero_add, List.getElem_cons_zero]
    exact ⟨x0, x1, x2, x3, HAV.out, HKV.out⟩
  have HS : Hid (SeqStopsK Fence.wide (9 - 1) Tryd.prog 56 #[.pointer (some ⟨K, 0, none⟩), .pointer (some ⟨A, 0, none⟩)] (fun x : NetV w Stil.netFits => #[Value.agg #[.int .i64 x.net.kind, .int .i64 x.net.one.op, x.av, x.kv]]) (Kept w.heap.size (fun _ => False)) (fun ys => ys.map NetV.net = Stil.netsPre [n]) (fun pre => pre.map NetV.net <+: Stil.netsPre [n]) (Stil.netsPre [n]).length w1) :=
    i_seqNets w Stil.netFits (fun x hx => ⟨(Stil.netFits_parts hx).2.2.1, (Stil.netFits_parts hx).2.2.2⟩) (fun _ => False) (fun _ h => h.elim) 0 A K (fun _ h => h.elim) (fun h => h) (fun h => h) [n] (by simp) (by simpa using hf) _ w1 hbw (Nat.zero_le _) hseen hA hK _
  clear hseen hb x0 x1 x2 x3 hA hK hf
  refine wpIn_rangeFunc_ownH rfl (by decide) (gf := 56) (lb := #[.pointer (some ⟨K, 0, none⟩), .pointer (some ⟨A, 0, none⟩)]) rfl trivial (enters_of Tryd.func56 (by kernel_rfl) rfl)
    HS.out Kept.t (Kept.b (by omega)) (Below.refl _ _) (fun _ => rfl)
    (fun pre W => ((W.cell? ⟨w.heap.size + 1, 0, none⟩ = some .nilIface ∧ W.frozen? ⟨w.heap.size + 1, 0, none⟩ = false) ∧ Below w.heap.size w W) ∧ ¬ 0 < Stil.firstPos (pre.map (Stil.netOwnWrong ∘ NetV.net)) ∧ w1.heap.size ≤ W.heap.size)
    (fun c pre W => (c = .ret ∧ ∃ k, 0 < k ∧ Stil.firstPos (pre.map (Stil.netOwnWrong ∘ NetV.net)) = k ∧ W.cell? ⟨w.heap.size + 1, 0, none⟩ = some (.iface 60 (.int .i64 k))) ∧ Below w.heap.size w W)
    (OwnFrom.and (OwnFrom.and (Own.from (fun s A B row hs hg hr => ⟨cell_kept hs.1 hg hr, (frozen_kept hs.1 hg hr).trans hs.2⟩) _) (ownFrom_below (Nat.le_refl _) (by omega))) (OwnFrom.and (ownFrom_pure _ _) (fun _ _ _ _ hs hg _ => Nat.le_trans hs hg.size)))
    (fun c => OwnFrom.and (Own.from (fun s A B row hs hg hr => ⟨hs.1, hs.2.elim fun t ht => ⟨t, ht.1, ht.2.1, cell_kept ht.2.2 hg hr⟩⟩) _) (ownFrom_below (Nat.le_refl _) (by omega)))
    ⟨⟨⟨hcr, hcf⟩, hbw⟩, by simp [Stil.firstPos], Nat.le_refl _⟩
    (fun x a' W => ∃ Bx, w1.heap.size ≤ Bx ∧ NetBox W Bx x.net.kind x.net.one.op x.av x.kv ∧ a' = { tmps := #[.agg #[.int .i64 n.kind, .int .i64 n.one.op, .slice p0 n.one.args.length r0, .slice p1 n.kids.length r1], .pointer (some ⟨w.heap.size, 0, none⟩), .pointer (some ⟨w.heap.size + 1, 0, none⟩), .pointer (some ⟨Bx, 0, none⟩), .agg #[.int .i64 n.kind, .int .i64 n.one.op, .slice p0 n.one.args.length r0, .slice p1 n.kids.length r1], .func (.func 56) #[] #[.pointer (some ⟨K, 0, none⟩), .pointer (some ⟨A, 0, none⟩)], .agg #[.int .i64 x.net.kind, .int .i64 x.net.one.op, x.av, x.kv], undef, undef, undef, undef, undef, undef, undef, undef, undef, undef, undef, undef, undef, undef], defers := [] })
    (fun x a' s A B row hs hg hr => hs.elim fun Bx hx => ⟨Bx, hx.1, netBox_own (β := Unit) Bx _ _ _ _ s A B row hx.2.1 hg (fun r e => (hr r e).2), hx.2.2⟩) ?assign ?body ?done ?stop
  case assign =>
    rintro l pre x W KK ⟨⟨⟨hc, hfz⟩, hB⟩, hp, hsz2⟩ hKK
    obtain ⟨x, av, kv, hav, hkv, hxf⟩ := x
    obtain ⟨q0, s0, rfl, _⟩ := id hav
    obtain ⟨q1, s1, rfl, _⟩ := id hkv
    gi_wp2
    exact hKK _ _ ((KeepsOthers.alloc _ _).from _) (Kept.of_below hB.size (below_alloc _ _)) ⟨⟨⟨cell_alloc_keep _ hc, frozen_alloc_keep _ hc hfz⟩, by (repeat (first | with_reducible exact Below.refl _ _ | with_reducible assumption | with_reducible refine bl_set (by first | exact Nat.le_refl _ | (simp; done) | (simp; omega) | omega) ?_ _ | with_reducible refine bl_alloc ?_ _ | with_reducible refine bl_drewN ?_ _ | with_reducible refine bl_drew ?_ | with_reducible refine bl_grow ?_ _ _ | with_reducible refine bl_call ?_ (by assumption)))⟩, hp, by simp; omega⟩ ⟨W.heap.size, by omega, ⟨by simp [go_sem], by simp [go_sem], by simp [go_sem], by simp [go_sem]⟩, rfl⟩
  case body =>
    rintro l pre x a' W hlw _ ⟨⟨⟨hc, hfz⟩, hB⟩, hp, hsz2⟩ ⟨Bx, hBx, ⟨y0, y1, y2, y3⟩, rfl⟩ hpl
    have hz0 : w.heap.size + 1 < W.heap.size := lt_of_cell3 hc
    have hBz : Bx < W.heap.size := lt_of_cell3 y0
    have hn : w.heap.size ≤ W.heap.size := by omega
    have HHF : Hid (∀ X, Below w.heap.size w X → Calls Tryd.prog 32 #[.agg #[.int .i64 x.net.kind, .int .i64 x.net.one.op, x.av, x.kv]] X fun e w' => e = .returned (.bool (Stil.hasForm x.net)) ∧ Below X.heap.size X w') := fun X hX => i_hasForm x.net x.av x.kv X (x.hav.below hX) (x.hkv.below hX) x.mem
    have HIC : Hid (∀ X, Below w.heap.size w X → Calls Tryd.prog 33 #[.agg #[.int .i64 x.net.one.op, x.av]] X fun e w' => e = .returned (.bool (Stil.isContact x.net.one.op x.net.one.args)) ∧ Below X.heap.size X w') := fun X hX => i_isContact x.net.one.op x.av x.net.one.args X (HRR.out X hX) (x.hav.below hX) (Stil.netFits_parts x.mem).2.1.2.2 (by have := (Stil.netFits_parts x.mem).2.1.2.1; omega)
    have HSN : Hid (Stil.firstPos ((pre ++ [x]).map (Stil.netOwnWrong ∘ NetV.net)) = if 0 < Stil.netOwnWrong x.net then Stil.netOwnWrong x.net else 0) := firstPos_snoc _ _ _ hp
    have HOW : Hid (Stil.netOwnWrong x.net = if Stil.hasForm x.net then (if x.net.kind = 1 then (if Stil.isContact x.net.one.op x.net.one.args then 0 else 3) else 0) else 2) := rfl
    obtain ⟨q0, s0, e0, _⟩ := id x.hav
    obtain ⟨q1, s1, e1, _⟩ := id x.hkv
    rw [e0, e1] at HHF
    rw [e0] at HIC y2
    rw [e1] at y3
    obtain ⟨hfm, hhf⟩ : ∃ hfm, hfm = Stil.hasForm x.net := ⟨_, rfl⟩
    obtain ⟨ic, hic⟩ : ∃ ic, ic = Stil.isContact x.net.one.op x.net.one.args := ⟨_, rfl⟩
    obtain ⟨kd, hkd⟩ : ∃ kd, kd = x.net.kind := ⟨_, rfl⟩
    rw [← hhf] at HHF HOW
    rw [← hic] at HIC HOW
    rw [← hkd] at HHF HOW y0
    clear hhf hic hkd e0 e1 hpl hlw hp
    cases hfm
    · have HX : Hid (Stil.firstPos ((pre ++ [x]).map (Stil.netOwnWrong ∘ NetV.net)) = 2) := by show _ = _; rw [HSN.out, HOW.out]; simp
      clear HSN HOW
      gi_wp2_with (refine ⟨trivial, ?_⟩; gi_at_call 32; refine (CallsIn.inRound l (callsIn_wide.2 (HHF.out _ (by (repeat (first | with_reducible exact Below.refl _ _ | with_reducible assumption | with_reducible refine bl_set (by first | exact Nat.le_refl _ | (simp; done) | (simp; omega) | omega) ?_ _ | with_reducible refine bl_alloc ?_ _ | with_reducible refine bl_drewN ?_ _ | with_reducible refine bl_drew ?_ | with_reducible refine bl_grow ?_ _ _ | with_reducible refine bl_call ?_ (by assumption))))))).mono ?_; rintro e W2 ⟨rfl, hb2⟩; have c2 := (hb2.cell (p := ⟨w.heap.size + 1, 0, none⟩) hz0).trans hc; have z2 := (hb2.frozen (p := ⟨w.heap.size + 1, 0, none⟩) hz0).trans hfz)
      exact ⟨by (repeat (first | with_reducible exact KeepsFrom.refl _ _ | with_reducible refine kf_set ?_ _ _ | with_reducible refine kf_drew ?_ | with_reducible refine kf_alloc ?_ _ | with_reducible refine kf_call ?_ (by assumption))), ⟨rfl, 2, by omega, HX.out, cellSetAt c2⟩, by (repeat (first | with_reducible exact Below.refl _ _ | with_reducible assumption | with_reducible refine bl_set (by first | exact Nat.le_refl _ | (simp; done) | (simp; omega) | omega) ?_ _ | with_reducible refine bl_alloc ?_ _ | with_reducible refine bl_drewN ?_ _ | with_reducible refine bl_drew ?_ | with_reducible refine bl_grow ?_ _ _ | with_reducible refine bl_call ?_ (by assumption)))⟩
    · by_cases hk1 : kd = 1
      · subst hk1
        cases ic
        · have HX : Hid (Stil.firstPos ((pre ++ [x]).map (Stil.netOwnWrong ∘ NetV.net)) = 3) := by show _ = _; rw [HSN.out, HOW.out]; simp
          clear HSN HOW
          gi_wp2_with (first | (refine ⟨trivial, ?_⟩; gi_at_call 32; refine (CallsIn.inRound l (callsIn_wide.2 (HHF.out _ (by (repeat (first | with_reducible exact Below.refl _ _ | with_reducible assumption | with_reducible refine bl_set (by first | exact Nat.le_refl _ | (simp; done) | (simp; omega) | omega) ?_ _ | with_reducible refine bl_alloc ?_ _ | with_reducible refine bl_drewN ?_ _ | with_reducible refine bl_drew ?_ | with_reducible refine bl_grow ?_ _ _ | with_reducible refine bl_call ?_ (by assumption))))))).mono ?_; rintro e W2 ⟨rfl, hb2⟩; have c2 := (hb2.cell (p := ⟨w.heap.size + 1, 0, none⟩) hz0).trans hc; have z2 := (hb2.frozen (p := ⟨w.heap.size + 1, 0, none⟩) hz0).trans hfz; obtain ⟨hcc2, hff2⟩ := bcell hb2) | (refine ⟨trivial, ?_⟩; gi_at_call 33; refine (CallsIn.inRound l (callsIn_wide.2 (HIC.out _ (by (repeat (first | with_reducible exact Below.refl _ _ | with_reducible assumption | with_reducible refine bl_set (by first | exact Nat.le_refl _ | (simp; done) | (simp; omega) | omega) ?_ _ | with_reducible refine bl_alloc ?_ _ | with_reducible refine bl_drewN ?_ _ | with_reducible refine bl_drew ?_ | with_reducible refine bl_grow ?_ _ _ | with_reducible refine bl_call ?_ (by assumption))))))).mono ?_; rintro e W3 ⟨rfl, hb3⟩; have c3 := (hb3.cell (p := ⟨w.heap.size + 1, 0, none⟩) (lt_of_cell3 c2)).trans c2; have z3 := (hb3.frozen (p := ⟨w.heap.size + 1, 0, none⟩) (lt_of_cell3 c2)).trans z2))
          exact ⟨by (repeat (first | with_reducible exact KeepsFrom.refl _ _ | with_reducible refine kf_set ?_ _ _ | with_reducible refine kf_drew ?_ | with_reducible refine kf_alloc ?_ _ | with_reducible refine kf_call ?_ (by assumption))), ⟨rfl, 3, by omega, HX.out, cellSetAt c3⟩, by (repeat (first | with_reducible exact Below.refl _ _ | with_reducible assumption | with_reducible refine bl_set (by first | exact Nat.le_refl _ | (simp; done) | (simp; omega) | omega) ?_ _ | with_reducible refine bl_alloc ?_ _ | with_reducible refine bl_drewN ?_ _ | with_reducible refine bl_drew ?_ | with_reducible refine bl_grow ?_ _ _ | with_reducible refine bl_call ?_ (by assumption)))⟩
        · have HX : Hid (Stil.firstPos ((pre ++ [x]).map (Stil.netOwnWrong ∘ NetV.net)) = 0) := by show _ = _; rw [HSN.out, HOW.out]; simp
          clear HSN HOW
          gi_wp2_with (first | (refine ⟨trivial, ?_⟩; gi_at_call 32; refine (CallsIn.inRound l (callsIn_wide.2 (HHF.out _ (by (repeat (first | with_reducible exact Below.refl _ _ | with_reducible assumption | with_reducible refine bl_set (by first | exact Nat.le_refl _ | (simp; done) | (simp; omega) | omega) ?_ _ | with_reducible refine bl_alloc ?_ _ | with_reducible refine bl_drewN ?_ _ | with_reducible refine bl_drew ?_ | with_reducible refine bl_grow ?_ _ _ | with_reducible refine bl_call ?_ (by assumption))))))).mono ?_; rintro e W2 ⟨rfl, hb2⟩; have c2 := (hb2.cell (p := ⟨w.heap.size + 1, 0, none⟩) hz0).trans hc; have z2 := (hb2.frozen (p := ⟨w.heap.size + 1, 0, none⟩) hz0).trans hfz; obtain ⟨hcc2, hff2⟩ := bcell hb2) | (refine ⟨trivial, ?_⟩; gi_at_call 33; refine (CallsIn.inRound l (callsIn_wide.2 (HIC.out _ (by (repeat (first | with_reducible exact Below.refl _ _ | with_reducible assumption | with_reducible refine bl_set (by first | exact Nat.le_refl _ | (simp; done) | (simp; omega) | omega) ?_ _ | with_reducible refine bl_alloc ?_ _ | with_reducible refine bl_drewN ?_ _ | with_reducible refine bl_drew ?_ | with_reducible refine bl_grow ?_ _ _ | with_reducible refine bl_call ?_ (by assumption))))))).mono ?_; rintro e W3 ⟨rfl, hb3⟩; have c3 := (hb3.cell (p := ⟨w.heap.size + 1, 0, none⟩) (lt_of_cell3 c2)).trans c2; have z3 := (hb3.frozen (p := ⟨w.heap.size + 1, 0, none⟩) (lt_of_cell3 c2)).trans z2))
          exact ⟨by (repeat (first | with_reducible exact KeepsFrom.refl _ _ | with_reducible refine kf_set ?_ _ _ | with_reducible refine kf_drew ?_ | with_reducible refine kf_alloc ?_ _ | with_reducible refine kf_call ?_ (by assumption))), kp_call (kp_call (Kept.refl _ _ _) hn hb2) hn hb3, ⟨⟨⟨c3, z3⟩, by (repeat (first | with_reducible exact Below.refl _ _ | with_reducible assumption | with_reducible refine bl_set (by first | exact Nat.le_refl _ | (simp; done) | (simp; omega) | omega) ?_ _ | with_reducible refine bl_alloc ?_ _ | with_reducible refine bl_drewN ?_ _ | with_reducible refine bl_drew ?_ | with_reducible refine bl_grow ?_ _ _ | with_reducible refine bl_call ?_ (by assumption)))⟩, by rw [HX.out]; omega, by have := hb2.size; have := hb3.size; omega⟩⟩
      · have hkb : (kd == 1) = false := by rw [beq_eq_false_iff_ne]; exact hk1
        have HX : Hid (Stil.firstPos ((pre ++ [x]).map (Stil.netOwnWrong ∘ NetV.net)) = 0) := by show _ = _; rw [HSN.out, HOW.out]; simp [hk1]
        clear HSN HOW
        gi_wp2_with (refine ⟨trivial, ?_⟩; gi_at_call 32; refine (CallsIn.inRound l (callsIn_wide.2 (HHF.out _ (by (repeat (first | with_reducible exact Below.refl _ _ | with_reducible assumption | with_reducible refine bl_set (by first | exact Nat.le_refl _ | (simp; done) | (simp; omega) | omega) ?_ _ | with_reducible refine bl_alloc ?_ _ | with_reducible refine bl_drewN ?_ _ | with_reducible refine bl_drew ?_ | with_reducible refine bl_grow ?_ _ _ | with_reducible refine bl_call ?_ (by assumption))))))).mono ?_; rintro e W2 ⟨rfl, hb2⟩; have c2 := (hb2.cell (p := ⟨w.heap.size + 1, 0, none⟩) hz0).trans hc; have z2 := (hb2.frozen (p := ⟨w.heap.size + 1, 0, none⟩) hz0).trans hfz; obtain ⟨hcc2, hff2⟩ := bcell hb2)
        refine ⟨trivial, ?_⟩
        gi_wp2
        exact ⟨by (repeat (first | with_reducible exact KeepsFrom.refl _ _ | with_reducible refine kf_set ?_ _ _ | with_reducible refine kf_drew ?_ | with_reducible refine kf_alloc ?_ _ | with_reducible refine kf_call ?_ (by assumption))), kp_call (Kept.refl _ _ _) hn hb2, ⟨⟨⟨c2, z2⟩, by (repeat (first | with_reducible exact Below.refl _ _ | with_reducible assumption | with_reducible refine bl_set (by first | exact Nat.le_refl _ | (simp; done) | (simp; omega) | omega) ?_ _ | with_reducible refine bl_alloc ?_ _ | with_reducible refine bl_drewN ?_ _ | with_reducible refine bl_drew ?_ | with_reducible refine bl_grow ?_ _ _ | with_reducible refine bl_call ?_ (by assumption)))⟩, by rw [HX.out]; omega, by have := hb2.size; omega⟩⟩
  case done =>
    rintro D ys W hD hS ⟨⟨⟨hc, hfz⟩, hB⟩, hp, _⟩ hK
    rw [← List.map_map, hS, HFP.out] at hp
    have HX : Hid (errOf z = .nilIface) := by show _ = _; unfold errOf; rw [if_neg hp]
    gi_wp2
    have hK' := (KeepsOthers.setCell W ⟨w.heap.size + 1, 0, none⟩ .nilIface).same D _ hK rfl
    refine ⟨by simp, .inl ⟨_, _, rfl, run_takeDeferred hK', ?_⟩⟩
    have hc5 := cell_kept (cellSetAt hc (v := .nilIface)) (grownBy_putObj' _ D (.deferred none)) (fun r e => by cases e; exact ⟨_, hK', rfl⟩)
    refine ⟨.nilIface, ?_, by rw [HX.out], (hB.setCell (p := ⟨w.heap.size + 1, 0, none⟩) (by simp) _).trans (belowK_b (w := w) (Nat.le_refl _) _ D _ _ (by omega) hK' rfl rfl)⟩
    simp [results, Tryd.f19, go_sem, hc5]
  case stop =>
    rintro D c pre W hD hSp ⟨⟨rfl, k, hk, hfp, hc⟩, hB⟩ hK
    have hzk : z = k := by
      rw [← List.map_map] at hfp
      have := firstPos_prefix Stil.netOwnWrong hSp (by rw [hfp]; exact hk)
      rw [HFP.out, hfp] at this
      exact this
    have HX : Hid (errOf z = .iface 60 (.int .i64 k)) := by show _ = _; unfold errOf; rw [hzk, if_pos hk]
    gi_wp2
    refine ⟨by simp, .inl ⟨_, _, rfl, run_takeDeferred hK, ?_⟩⟩
    have hc5 := cell_kept hc (grownBy_putObj' _ D (.deferred none)) (fun r e => by cases e; exact ⟨_, hK, rfl⟩)
    refine ⟨.iface 60 (.int .i64 k), ?_, by rw [HX.out], hB.trans (belowK_b (w := w) (Nat.le_refl _) W D _ _ (by omega) hK rfl rfl)⟩
    simp [results, Tryd.f19, go_sem, hc5]
end Go.Proofs.YthhfnncehfkbfaaDoor
