/- Contracts of the specification's chapter 2, second part: ElemIsContact. -/
import Derived.Test.YtnbdgpepancfnabDoorB0
import Derived.Test.YtnbdgpepancfnabDoorM2b
namespace Go.Proofs.YtnbdgpepancfnabDoor
open Go.RowKit Go.Sort Go.BigFrame
theorem size_succ {w w1 : World} {o : Obj} {n : Nat} (hb : Below ((w.alloc o).drewN n).heap.size ((w.alloc o).drewN n) w1) : w.heap.size < w1.heap.size := by have := hb.size; simp at this; omega
/-- The operand d lies at this place. -/
def DevAt (w : World) (b o : Nat) (d : Stil.Dev) : Prop := w.cell? ⟨b, o, none⟩ = some (.int .i64 d.kind) ∧ w.cell? ⟨b, o + 1, none⟩ = some (.int .i64 d.n) ∧ w.cell? ⟨b, o + 2, none⟩ = some (.int .i64 d.p)
/-- The value v is a slice of just these operands. -/
def DevsAt (w : World) (v : Value) (ds : List Stil.Dev) : Prop := ∃ a cap, v = .slice a ds.length cap ∧ ∀ i (h : i < ds.length), ∃ b o, a = some ⟨b, o, none⟩ ∧ b < w.heap.size ∧ DevAt w b (o + i * 3) ds[i]
theorem DevAt.below {w w' : World} {b o : Nat} {d : Stil.Dev} (h : DevAt w b o d) (hb : Below w.heap.size w w') (hlt : b < w.heap.size) : DevAt w' b o d := by
  unfold DevAt at *
  rw [hb.cell (p := ⟨b, o, none⟩) hlt, hb.cell (p := ⟨b, o + 1, none⟩) hlt, hb.cell (p := ⟨b, o + 2, none⟩) hlt]
  exact h
theorem DevsAt.below {w w' : World} {v : Value} {ds : List Stil.Dev} (h : DevsAt w v ds) (hb : Below w.heap.size w w') : DevsAt w' v ds := by
  obtain ⟨a, cap, hv, hc⟩ := h
  refine ⟨a, cap, hv, fun i hi => ?_⟩
  obtain ⟨b, o, ha, hlt, hd⟩ := hc i hi
  exact ⟨b, o, ha, Nat.lt_of_lt_of_le hlt hb.size, hd.below hb hlt⟩
theorem DevsAt.one {w : World} {v : Value} {d : Stil.Dev} (h : DevsAt w v [d]) : ∃ b o cap, v = .slice (some ⟨b, o, none⟩) 1 cap ∧ b < w.heap.size ∧ DevAt w b o d := by
  obtain ⟨a, cap, hv, hc⟩ := h
  obtain ⟨b, o, rfl, hlt, hd⟩ := hc 0 (by simp)
  exact ⟨b, o, cap, hv, hlt, hd⟩
theorem DevsAt.two {w : World} {v : Value} {d e : Stil.Dev} (h : DevsAt w v [d, e]) : ∃ b o cap, v = .slice (some ⟨b, o, none⟩) 2 cap ∧ b < w.heap.size ∧ DevAt w b o d ∧ DevAt w b (o + 3) e := by
  obtain ⟨a, cap, hv, hc⟩ := h
  obtain ⟨b, o, rfl, hlt, hd⟩ := hc 0 (by simp)
  obtain ⟨b', o', e1, _, hd'⟩ := hc 1 (by simp)
  simp only [Option.some.injEq, Addr.mk.injEq, and_true] at e1
  obtain ⟨rfl, rfl⟩ := e1
  exact ⟨b, o, cap, hv, hlt, hd, hd'⟩
theorem DevsAt.three {w : World} {v : Value} {d e f : Stil.Dev} (h : DevsAt w v [d, e, f]) : ∃ b o cap, v = .slice (some ⟨b, o, none⟩) 3 cap ∧ b < w.heap.size ∧ DevAt w b o d ∧ DevAt w b (o + 3) e ∧ DevAt w b (o + 6) f := by
  obtain ⟨a, cap, hv, hc⟩ := h
  obtain ⟨b, o, rfl, hlt, hd⟩ := hc 0 (by simp)
  obtain ⟨b', o', e1, _, hd'⟩ := hc 1 (by simp)
  simp only [Option.some.injEq, Addr.mk.injEq, and_true] at e1
  obtain ⟨rfl, rfl⟩ := e1
  obtain ⟨b', o', e1, _, hd''⟩ := hc 2 (by simp)
  simp only [Option.some.injEq, Addr.mk.injEq, and_true] at e1
  obtain ⟨rfl, rfl⟩ := e1
  exact ⟨b, o, cap, hv, hlt, hd, hd', hd''⟩
set_option maxHeartbeats 400000 in
set_option maxRecDepth 100000 in
theorem s_isContact_no (op : Int) (a : Option Addr) (len cap : Nat) (w : World) (h : op < 1 ∨ 10 < op ∨ (len : Int) ≠ Stil.arity op) (_hl : len ≤ 9223372036854775807) :
    Calls Tryd.prog 24 #[.agg #[.int .i64 op, .slice a len cap]] w fun e w' => e = .returned (.bool false) ∧ Below w.heap.size w w' := by
  by_cases h1 : op < 1
  · have h1' : decide (op < 1) = true := by simpa using h1
    go_enter Tryd.func24, Tryd.ntmps24
    go_wp2
    go_quiet (exact Calls.quiet_of_same (s_arity _ _))
    go_wp2
    go_ret
    exact ⟨rfl, below_drewN (below_alloc _ _) _⟩
  · have h1' : decide (op < 1) = false := by simpa using h1
    by_cases h2 : 10 < op
    · have h2' : decide (10 < op) = true := by simpa using h2
      go_enter Tryd.func24, Tryd.ntmps24
      go_wp2
      go_quiet (exact Calls.quiet_of_same (s_arity _ _))
      go_wp2
      go_ret
      exact ⟨rfl, below_drewN (below_alloc _ _) _⟩
    · have h2' : decide (10 < op) = false := by simpa using h2
      have h3 : ((len : Int) != Stil.arity op) = true := by rw [bne_iff_ne]; omega
      clear h
      go_enter Tryd.func24, Tryd.ntmps24
      go_wp2
      go_quiet (exact Calls.quiet_of_same (s_arity _ _))
      go_wp2
      go_ret
      exact ⟨rfl, below_drewN (below_alloc _ _) _⟩
set_option maxHeartbeats 400000 in
set_option maxRecDepth 100000 in
theorem s_isContact_one (op : Int) (b o cap : Nat) (d : Stil.Dev) (w : World) (h1 : 1 ≤ op) (h2 : op ≤ 2) (hlt : b < w.heap.size) (hat : DevAt w b o d) (hn1 : -9223372036854775808 ≤ d.n) (hn2 : d.n ≤ 9223372036854775807) :
    Calls Tryd.prog 24 #[.agg #[.int .i64 op, .slice (some ⟨b, o, none⟩) 1 cap]] w fun e w' => e = .returned (.bool d.isBit) ∧ Below w.heap.size w w' := by
  obtain ⟨c0, c1, c2⟩ := hat
  have h1' : decide (op < 1) = false := by simp; omega
  have h2' : decide (10 < op) = false := by simp; omega
  have h3 : Stil.arity op = 1 := by unfold Stil.arity; rw [if_pos (by omega)]
  go_enter Tryd.func24, Tryd.ntmps24
  go_wp2
  go_quiet (exact Calls.quiet_of_same (s_arity _ _))
  go_wp2_with (go_at_call 37; refine (s_devIsBit _ _ _ _ hn1 hn2).mono ?_; rintro e w' ⟨rfl, hb⟩)
  go_ret
  exact ⟨rfl, by (repeat (first | exact Below.refl _ _ | assumption | refine bl_alloc ?_ _ | refine bl_drewN ?_ _ | refine bl_drew ?_ | refine bl_grow ?_ _ _ | refine bl_set (Nat.le_refl _) ?_ _ | refine bl_call ?_ (by assumption)))⟩
set_option maxHeartbeats 400000 in
set_option maxRecDepth 100000 in
theorem s_isContact_up (op : Int) (b o cap : Nat) (d f : Stil.Dev) (w : World) (h1 : 3 ≤ op) (h2 : op ≤ 4) (hlt : b < w.heap.size) (hat : DevAt w b o d) (hat2 : DevAt w b (o + 3) f) (hn1 : -9223372036854775808 ≤ d.n) (hn2 : d.n ≤ 9223372036854775807) (hm1 : -9223372036854775808 ≤ f.n) (hm2 : f.n ≤ 9223372036854775807) :
    Calls Tryd.prog 24 #[.agg #[.int .i64 op, .slice (some ⟨b, o, none⟩) 2 cap]] w fun e w' => e = .returned (.bool (d.isBit && f.ok && f.kind == 5)) ∧ Below w.heap.size w w' := by
  obtain ⟨c0, c1, c2⟩ := hat
  obtain ⟨e0, e1, e2⟩ := hat2
  have hlt1 : b < w.heap.size + 1 := by omega
  have h1' : decide (op < 1) = false := by simp; omega
  have h2' : decide (10 < op) = false := by simp; omega
  have h3 : Stil.arity op = 2 := by unfold Stil.arity; rw [if_neg (by omega), if_neg (by omega), if_pos (by omega)]
  have h4' : decide (op ≤ 2) = false := by simp; omega
  unfold Stil.Dev.isBit Stil.Dev.ok
  cases g1 : Stil.devIsBitB d.kind d.n d.p
  · go_enter Tryd.func24, Tryd.ntmps24
    go_wp2
    go_quiet (exact Calls.quiet_of_same (s_arity _ _))
    go_wp2_with (go_at_call 37; refine (s_devIsBit _ _ _ _ hn1 hn2).mono ?_; rintro e w' ⟨rfl, hb⟩; obtain ⟨hc, hf⟩ := bcell hb)
    go_ret
    exact ⟨rfl, by (repeat (first | exact Below.refl _ _ | assumption | refine bl_alloc ?_ _ | refine bl_drewN ?_ _ | refine bl_drew ?_ | refine bl_grow ?_ _ _ | refine bl_set (Nat.le_refl _) ?_ _ | refine bl_call ?_ (by assumption)))⟩
  · cases g2 : Stil.devOkB f.kind f.n f.p
    · go_enter Tryd.func24, Tryd.ntmps24
      go_wp2
      go_quiet (exact Calls.quiet_of_same (s_arity _ _))
      go_wp2_with (first | (go_at_call 37; refine (s_devIsBit _ _ _ _ hn1 hn2).mono ?_; rintro e w' ⟨rfl, hb⟩; obtain ⟨hc, hf⟩ := bcell hb) | (go_at_call 29; refine (s_devOk _ _ _ _ hm1 hm2).mono ?_; rintro e w2 ⟨rfl, hb2⟩))
      go_ret
      exact ⟨ret_bool (by simp), by (repeat (first | exact Below.refl _ _ | assumption | refine bl_alloc ?_ _ | refine bl_drewN ?_ _ | refine bl_drew ?_ | refine bl_grow ?_ _ _ | refine bl_set (Nat.le_refl _) ?_ _ | refine bl_call ?_ (by assumption)))⟩
    · go_enter Tryd.func24, Tryd.ntmps24
      go_wp2
      go_quiet (exact Calls.quiet_of_same (s_arity _ _))
      go_wp2_with (first | (go_at_call 37; refine (s_devIsBit _ _ _ _ hn1 hn2).mono ?_; rintro e w' ⟨rfl, hb⟩; obtain ⟨hc, hf⟩ := bcell hb; have hz := size_succ hb; have hz1 := Nat.lt_trans hlt hz) | (go_at_call 29; refine (s_devOk _ _ _ _ hm1 hm2).mono ?_; rintro e w2 ⟨rfl, hb2⟩; obtain ⟨hc2, hf2⟩ := bcell hb2))
      go_ret
      exact ⟨ret_bool (by simp), by (repeat (first | exact Below.refl _ _ | assumption | refine bl_alloc ?_ _ | refine bl_drewN ?_ _ | refine bl_drew ?_ | refine bl_grow ?_ _ _ | refine bl_set (Nat.le_refl _) ?_ _ | refine bl_call ?_ (by assumption)))⟩
set_option maxHeartbeats 1000000 in
set_option maxRecDepth 100000 in
theorem s_isContact_cmp (op : Int) (b o cap : Nat) (d f : Stil.Dev) (w : World) (h1 : 5 ≤ op) (h2 : op ≤ 10) (hlt : b < w.heap.size) (hat : DevAt w b o d) (hat2 : DevAt w b (o + 3) f) (hn1 : -9223372036854775808 ≤ d.n) (hn2 : d.n ≤ 9223372036854775807) (hm1 : -9223372036854775808 ≤ f.n) (hm2 : f.n ≤ 9223372036854775807) :
    Calls Tryd.prog 24 #[.agg #[.int .i64 op, .slice (some ⟨b, o, none⟩) 2 cap]] w fun e w' => e = .returned (.bool (d.isWhole && f.isWhole || d.isReal && f.isReal)) ∧ Below w.heap.size w w' := by
  obtain ⟨c0, c1, c2⟩ := hat
  obtain ⟨e0, e1, e2⟩ := hat2
  have hlt1 : b < w.heap.size + 1 := by omega
  have h1' : decide (op < 1) = false := by simp; omega
  have h2' : decide (10 < op) = false := by simp; omega
  have h3 : Stil.arity op = 2 := by unfold Stil.arity; rw [if_neg (by omega), if_neg (by omega), if_pos (by omega)]
  have h4' : decide (op ≤ 2) = false := by simp; omega
  have h5' : decide (op ≤ 4) = false := by simp; omega
  unfold Stil.Dev.isWhole Stil.Dev.isReal
  go_enter Tryd.func24, Tryd.ntmps24
  go_wp2
  go_quiet (exact Calls.quiet_of_same (s_arity _ _))
  go_wp2_with (first | (go_at_call 15; refine (s_devIsWhole _ _ _ _ (by assumption) (by assumption)).mono ?_; rintro e w1 ⟨rfl, hb⟩; obtain ⟨hc, hf⟩ := bcell hb; have hz0 : w.heap.size < w1.heap.size := Nat.lt_of_lt_of_le (by first | assumption | (simp; done) | (simp; omega)) hb.size; have hz1 : b < w1.heap.size := Nat.lt_of_lt_of_le (by first | assumption | (simp; done) | (simp; omega)) hb.size) | (go_at_call 16; refine (s_devIsReal _ _ _ _ (by assumption) (by assumption)).mono ?_; rintro e w1 ⟨rfl, hb⟩; obtain ⟨hc, hf⟩ := bcell hb; have hz0 : w.heap.size < w1.heap.size := Nat.lt_of_lt_of_le (by first | assumption | (simp; done) | (simp; omega)) hb.size; have hz1 : b < w1.heap.size := Nat.lt_of_lt_of_le (by first | assumption | (simp; done) | (simp; omega)) hb.size))
  all_goals go_ret
  all_goals (refine ⟨ret_bool ?_, by (repeat (first | exact Below.refl _ _ | assumption | refine bl_alloc ?_ _ | refine bl_drewN ?_ _ | refine bl_drew ?_ | refine bl_grow ?_ _ _ | refine bl_set (Nat.le_refl _) ?_ _ | refine bl_call ?_ (by assumption)))⟩)
  all_goals go_light
  all_goals simp [*]
end Go.Proofs.YtnbdgpepancfnabDoor
