/- S2, B0, S2b, S2c, S2d, S2e, S2f: texts put together. -/
import Derived.Test.YthhfnncehfkbfaaDoorGA
import Derived.Test.YthhfnncehfkbfaaDoorGM
/- Contracts of the specification's chapter 2, first part. -/
namespace Go.Proofs.YthhfnncehfkbfaaDoor
open Go.RowKit Go.Sort Go.BigFrame
set_option maxHeartbeats 1000000 in
theorem s_arity (op : Int) (w : World) :
    Calls Tryd.prog 40 #[.int .i64 op] w fun e w' => e = .returned (.int .i64 (Stil.arity op)) ∧ w' = w := by
  go_enter Tryd.func40, Tryd.ntmps40
  go_wp2
  all_goals go_ret
  all_goals (refine ⟨ret_int ?_, rfl⟩; go_light; simp only [beq_iff_eq, beq_eq_false_iff_ne] at *; unfold Stil.arity; first | (simp [*]; done) | (repeat (first | rw [if_pos (by omega)] | rw [if_neg (by omega)])))
theorem s_elemName_cell (W : World) (op : Int) (h1 : 21 ≤ op) (h2 : op ≤ 37) : (W.alloc (Obj.cells #[.string ⟨#[111, 117, 116]⟩, .string ⟨#[115, 101, 116]⟩, .string ⟨#[114, 101, 115, 101, 116]⟩, .string ⟨#[112, 117, 108, 115, 101]⟩, .string ⟨#[115, 116, 101, 112]⟩, .string ⟨#[116, 105, 109, 101, 114]⟩, .string ⟨#[104, 111, 108, 100]⟩, .string ⟨#[108, 97, 116, 101]⟩, .string ⟨#[99, 111, 117, 110, 116]⟩, .string ⟨#[109, 111, 118, 101]⟩, .string ⟨#[97, 100, 100]⟩, .string ⟨#[115, 117, 98]⟩, .string ⟨#[109, 117, 108]⟩, .string ⟨#[100, 105, 118]⟩, .string ⟨#[114, 101, 109]⟩, .string ⟨#[114, 101, 97, 108]⟩, .string ⟨#[119, 104, 111, 108, 101]⟩] 9)).cell? ⟨W.heap.size, (op - 21).toNat, none⟩ = some (.string ⟨(Stil.names.getD (op - 21).toNat []).toArray⟩) := by
  have hn : op = 21 ∨ op = 22 ∨ op = 23 ∨ op = 24 ∨ op = 25 ∨ op = 26 ∨ op = 27 ∨ op = 28 ∨ op = 29 ∨ op = 30 ∨ op = 31 ∨ op = 32 ∨ op = 33 ∨ op = 34 ∨ op = 35 ∨ op = 36 ∨ op = 37 := by omega
  rcases hn with rfl | rfl | rfl | rfl | rfl | rfl | rfl | rfl | rfl | rfl | rfl | rfl | rfl | rfl | rfl | rfl | rfl <;> simp [go_sem, Stil.names]
theorem s_sign_cell (W : World) (op : Int) (h1 : 5 ≤ op) (h2 : op ≤ 10) : (W.alloc (Obj.cells #[.string ⟨#[60]⟩, .string ⟨#[60, 61]⟩, .string ⟨#[61]⟩, .string ⟨#[60, 62]⟩, .string ⟨#[62, 61]⟩, .string ⟨#[62]⟩] 9)).cell? ⟨W.heap.size, (op - 5).toNat, none⟩ = some (.string ⟨(Stil.signs.getD (op - 5).toNat []).toArray⟩) := by
  have hn : op = 5 ∨ op = 6 ∨ op = 7 ∨ op = 8 ∨ op = 9 ∨ op = 10 := by omega
  rcases hn with rfl | rfl | rfl | rfl | rfl | rfl <;> simp [go_sem, Stil.signs]
end Go.Proofs.YthhfnncehfkbfaaDoor
/- Small laws on 'Below'. -/
namespace Go.Proofs.YthhfnncehfkbfaaDoor
open Go.RowKit Go.Sort Go.BigFrame
theorem bl_alloc {w a : World} (h : Below w.heap.size w a) (o : Obj) : Below w.heap.size w (a.alloc o) := h.alloc h.size o
theorem bl_drewN {w a : World} (h : Below w.heap.size w a) (n : Nat) : Below w.heap.size w (a.drewN n) := below_drewN h n
theorem bl_drew {w a : World} (h : Below w.heap.size w a) : Below w.heap.size w a.drew := h.drew
theorem bl_call {w a b : World} (h : Below w.heap.size w a) (k : Below a.heap.size a b) : Below w.heap.size w b := h.trans (k.mono h.size)
theorem bl_set {w a : World} {p : Addr} (hp : w.heap.size ≤ p.block) (h : Below w.heap.size w a) (v : Value) : Below w.heap.size w (a.setCell p v) := h.setCell hp v
theorem bl_grow {w a : World} (h : Below w.heap.size w a) (d : Nat) (os : Array Obj) : Below w.heap.size w (grow (redrawn a d) os) := bl_call h (below_regrown a d os)
theorem lt_below {w a : World} {b : Nat} (h : b < w.heap.size) (k : Below w.heap.size w a) : b < a.heap.size := Nat.lt_of_lt_of_le h k.size
end Go.Proofs.YthhfnncehfkbfaaDoor
/- Contracts of the specification's chapter 2, second part: ElemIsContact. -/
namespace Go.Proofs.YthhfnncehfkbfaaDoor
open Go.RowKit Go.Sort Go.BigFrame
theorem size_succ {w w1 : World} {o : Obj} {n : Nat} (hb : Below ((w.alloc o).drewN n).heap.size ((w.alloc o).drewN n) w1) : w.heap.size < w1.heap.size := by have := hb.size; simp at this; omega
/-- The operand d lies at this place. -/
def DevAt (w : World) (b o : Nat) (d : Stil.Dev) : Prop := w.cell? ⟨b, o, none⟩ = some (.int .i64 d.kind) ∧ w.cell? ⟨b, o + 1, none⟩ = some (.int .i64 d.n) ∧ w.cell? ⟨b, o + 2, none⟩ = some (.int .i64 d.p)
/-- The value v is a slice of just these operands. -/
def DevsAt (w : World) (v : Value) (ds : List Stil.Dev) : Prop := ∃ a cap, v = .slice a ds.length cap ∧ ∀ i (h : i < ds.length), ∃ b o, a = some ⟨b, o, none⟩ ∧ b < w.heap.size ∧ DevAt w b (o + i * 3) ds[i]
theorem DevAt.below {w w' : World} {b o : Nat} {d : Stil.Dev} (h : DevAt w b o d) (hb : Below w.heap.size w w') (hlt : b < w.heap.size) : DevAt w' b o d := by
  unfold DevAt at *
  rw [hb.cell (p := ⟨b, o, none⟩) hlt, hb.cell (p := ⟨b, o + 1, none⟩) hlt, hb.cell (p := ⟨b, o + 2, none⟩) hlt]
  exact h
theorem DevsAt.below {w w' : World} {v : Value} {ds : List Stil.Dev} (h : DevsAt w v ds) (hb : Below w.heap.size w w') : DevsAt w' v ds := by
  obtain ⟨a, cap, hv, hc⟩ := h
  refine ⟨a, cap, hv, fun i hi => ?_⟩
  obtain ⟨b, o, ha, hlt, hd⟩ := hc i hi
  exact ⟨b, o, ha, Nat.lt_of_lt_of_le hlt hb.size, hd.below hb hlt⟩
theorem DevsAt.one {w : World} {v : Value} {d : Stil.Dev} (h : DevsAt w v [d]) : ∃ b o cap, v = .slice (some ⟨b, o, none⟩) 1 cap ∧ b < w.heap.size ∧ DevAt w b o d := by
  obtain ⟨a, cap, hv, hc⟩ := h
  obtain ⟨b, o, rfl, hlt, hd⟩ := hc 0 (by simp)
  exact ⟨b, o, cap, hv, hlt, hd⟩
theorem DevsAt.two {w : World} {v : Value} {d e : Stil.Dev} (h : DevsAt w v [d, e]) : ∃ b o cap, v = .slice (some ⟨b, o, none⟩) 2 cap ∧ b < w.heap.size ∧ DevAt w b o d ∧ DevAt w b (o + 3) e := by
  obtain ⟨a, cap, hv, hc⟩ := h
  obtain ⟨b, o, rfl, hlt, hd⟩ := hc 0 (by simp)
  obtain ⟨b', o', e1, _, hd'⟩ := hc 1 (by simp)
  simp only [Option.some.injEq, Addr.mk.injEq, and_true] at e1
  obtain ⟨rfl, rfl⟩ := e1
  exact ⟨b, o, cap, hv, hlt, hd, hd'⟩
theorem DevsAt.three {w : World} {v : Value} {d e f : Stil.Dev} (h : DevsAt w v [d, e, f]) : ∃ b o cap, v = .slice (some ⟨b, o, none⟩) 3 cap ∧ b < w.heap.size ∧ DevAt w b o d ∧ DevAt w b (o + 3) e ∧ DevAt w b (o + 6) f := by
  obtain ⟨a, cap, hv, hc⟩ := h
  obtain ⟨b, o, rfl, hlt, hd⟩ := hc 0 (by simp)
  obtain ⟨b', o', e1, _, hd'⟩ := hc 1 (by simp)
  simp only [Option.some.injEq, Addr.mk.injEq, and_true] at e1
  obtain ⟨rfl, rfl⟩ := e1
  obtain ⟨b', o', e1, _, hd''⟩ := hc 2 (by simp)
  simp only [Option.some.injEq, Addr.mk.injEq, and_true] at e1
  obtain ⟨rfl, rfl⟩ := e1
  exact ⟨b, o, cap, hv, hlt, hd, hd', hd''⟩
set_option maxHeartbeats 400000 in
set_option maxRecDepth 100000 in
theorem s_isContact_no (op : Int) (a : Option Addr) (len cap : Nat) (w : World) (h : op < 1 ∨ 10 < op ∨ (len : Int) ≠ Stil.arity op) (_hl : len ≤ 9223372036854775807) :
    Calls Tryd.prog 28 #[.agg #[.int .i64 op, .slice a len cap]] w fun e w' => e = .returned (.bool false) ∧ Below w.heap.size w w' := by
  by_cases h1 : op < 1
  · have h1' : decide (op < 1) = true := by simpa using h1
    go_enter Tryd.func28, Tryd.ntmps28
    go_wp2
    go_quiet (exact Calls.quiet_of_same (s_arity _ _))
    go_wp2
    go_ret
    exact ⟨rfl, below_drewN (below_alloc _ _) _⟩
  · have h1' : decide (op < 1) = false := by simpa using h1
    by_cases h2 : 10 < op
    · have h2' : decide (10 < op) = true := by simpa using h2
      go_enter Tryd.func28, Tryd.ntmps28
      go_wp2
      go_quiet (exact Calls.quiet_of_same (s_arity _ _))
      go_wp2
      go_ret
      exact ⟨rfl, below_drewN (below_alloc _ _) _⟩
    · have h2' : decide (10 < op) = false := by simpa using h2
      have h3 : ((len : Int) != Stil.arity op) = true := by rw [bne_iff_ne]; omega
      clear h
      go_enter Tryd.func28, Tryd.ntmps28
      go_wp2
      go_quiet (exact Calls.quiet_of_same (s_arity _ _))
      go_wp2
      go_ret
      exact ⟨rfl, below_drewN (below_alloc _ _) _⟩
set_option maxHeartbeats 400000 in
set_option maxRecDepth 100000 in
theorem s_isContact_one (op : Int) (b o cap : Nat) (d : Stil.Dev) (w : World) (h1 : 1 ≤ op) (h2 : op ≤ 2) (hlt : b < w.heap.size) (hat : DevAt w b o d) (hn1 : -9223372036854775808 ≤ d.n) (hn2 : d.n ≤ 9223372036854775807) :
    Calls Tryd.prog 28 #[.agg #[.int .i64 op, .slice (some ⟨b, o, none⟩) 1 cap]] w fun e w' => e = .returned (.bool d.isBit) ∧ Below w.heap.size w w' := by
  obtain ⟨c0, c1, c2⟩ := hat
  have h1' : decide (op < 1) = false := by simp; omega
  have h2' : decide (10 < op) = false := by simp; omega
  have h3 : Stil.arity op = 1 := by unfold Stil.arity; rw [if_pos (by omega)]
  go_enter Tryd.func28, Tryd.ntmps28
  go_wp2
  go_quiet (exact Calls.quiet_of_same (s_arity _ _))
  go_wp2_with (go_at_call 41; refine (s_devIsBit _ _ _ _ hn1 hn2).mono ?_; rintro e w' ⟨rfl, hb⟩)
  go_ret
  exact ⟨rfl, by (repeat (first | exact Below.refl _ _ | assumption | refine bl_alloc ?_ _ | refine bl_drewN ?_ _ | refine bl_drew ?_ | refine bl_grow ?_ _ _ | refine bl_set (Nat.le_refl _) ?_ _ | refine bl_call ?_ (by assumption)))⟩
set_option maxHeartbeats 400000 in
set_option maxRecDepth 100000 in
theorem s_isContact_up (op : Int) (b o cap : Nat) (d f : Stil.Dev) (w : World) (h1 : 3 ≤ op) (h2 : op ≤ 4) (hlt : b < w.heap.size) (hat : DevAt w b o d) (hat2 : DevAt w b (o + 3) f) (hn1 : -9223372036854775808 ≤ d.n) (hn2 : d.n ≤ 9223372036854775807) (hm1 : -9223372036854775808 ≤ f.n) (hm2 : f.n ≤ 9223372036854775807) :
    Calls Tryd.prog 28 #[.agg #[.int .i64 op, .slice (some ⟨b, o, none⟩) 2 cap]] w fun e w' => e = .returned (.bool (d.isBit && f.ok && f.kind == 5)) ∧ Below w.heap.size w w' := by
  obtain ⟨c0, c1, c2⟩ := hat
  obtain ⟨e0, e1, e2⟩ := hat2
  have hlt1 : b < w.heap.size + 1 := by omega
  have h1' : decide (op < 1) = false := by simp; omega
  have h2' : decide (10 < op) = false := by simp; omega
  have h3 : Stil.arity op = 2 := by unfold Stil.arity; rw [if_neg (by omega), if_neg (by omega), if_pos (by omega)]
  have h4' : decide (op ≤ 2) = false := by simp; omega
  unfold Stil.Dev.isBit Stil.Dev.ok
  cases g1 : Stil.devIsBitB d.kind d.n d.p
  · go_enter Tryd.func28, Tryd.ntmps28
    go_wp2
    go_quiet (exact Calls.quiet_of_same (s_arity _ _))
    go_wp2_with (go_at_call 41; refine (s_devIsBit _ _ _ _ hn1 hn2).mono ?_; rintro e w' ⟨rfl, hb⟩; obtain ⟨hc, hf⟩ := bcell hb)
    go_ret
    exact ⟨rfl, by (repeat (first | exact Below.refl _ _ | assumption | refine bl_alloc ?_ _ | refine bl_drewN ?_ _ | refine bl_drew ?_ | refine bl_grow ?_ _ _ | refine bl_set (Nat.le_refl _) ?_ _ | refine bl_call ?_ (by assumption)))⟩
  · cases g2 : Stil.devOkB f.kind f.n f.p
    · go_enter Tryd.func28, Tryd.ntmps28
      go_wp2
      go_quiet (exact Calls.quiet_of_same (s_arity _ _))
      go_wp2_with (first | (go_at_call 41; refine (s_devIsBit _ _ _ _ hn1 hn2).mono ?_; rintro e w' ⟨rfl, hb⟩; obtain ⟨hc, hf⟩ := bcell hb) | (go_at_call 42; refine (s_devOk _ _ _ _ hm1 hm2).mono ?_; rintro e w2 ⟨rfl, hb2⟩))
      go_ret
      exact ⟨ret_bool (by simp), by (repeat (first | exact Below.refl _ _ | assumption | refine bl_alloc ?_ _ | refine bl_drewN ?_ _ | refine bl_drew ?_ | refine bl_grow ?_ _ _ | refine bl_set (Nat.le_refl _) ?_ _ | refine bl_call ?_ (by assumption)))⟩
    · go_enter Tryd.func28, Tryd.ntmps28
      go_wp2
      go_quiet (exact Calls.quiet_of_same (s_arity _ _))
      go_wp2_with (first | (go_at_call 41; refine (s_devIsBit _ _ _ _ hn1 hn2).mono ?_; rintro e w' ⟨rfl, hb⟩; obtain ⟨hc, hf⟩ := bcell hb; have hz := size_succ hb; have hz1 := Nat.lt_trans hlt hz) | (go_at_call 42; refine (s_devOk _ _ _ _ hm1 hm2).mono ?_; rintro e w2 ⟨rfl, hb2⟩; obtain ⟨hc2, hf2⟩ := bcell hb2))
      go_ret
      exact ⟨ret_bool (by simp), by (repeat (first | exact Below.refl _ _ | assumption | refine bl_alloc ?_ _ | refine bl_drewN ?_ _ | refine bl_drew ?_ | refine bl_grow ?_ _ _ | refine bl_set (Nat.le_refl _) ?_ _ | refine bl_call ?_ (by assumption)))⟩
set_option maxHeartbeats 1000000 in
set_option maxRecDepth 100000 in
theorem s_isContact_cmp (op : Int) (b o cap : Nat) (d f : Stil.Dev) (w : World) (h1 : 5 ≤ op) (h2 : op ≤ 10) (hlt : b < w.heap.size) (hat : DevAt w b o d) (hat2 : DevAt w b (o + 3) f) (hn1 : -9223372036854775808 ≤ d.n) (hn2 : d.n ≤ 9223372036854775807) (hm1 : -9223372036854775808 ≤ f.n) (hm2 : f.n ≤ 9223372036854775807) :
    Calls Tryd.prog 28 #[.agg #[.int .i64 op, .slice (some ⟨b, o, none⟩) 2 cap]] w fun e w' => e = .returned (.bool (d.isWhole && f.isWhole || d.isReal && f.isReal)) ∧ Below w.heap.size w w' := by
  obtain ⟨c0, c1, c2⟩ := hat
  obtain ⟨e0, e1, e2⟩ := hat2
  have hlt1 : b < w.heap.size + 1 := by omega
  have h1' : decide (op < 1) = false := by simp; omega
  have h2' : decide (10 < op) = false := by simp; omega
  have h3 : Stil.arity op = 2 := by unfold Stil.arity; rw [if_neg (by omega), if_neg (by omega), if_pos (by omega)]
  have h4' : decide (op ≤ 2) = false := by simp; omega
  have h5' : decide (op ≤ 4) = false := by simp; omega
  unfold Stil.Dev.isWhole Stil.Dev.isReal
  go_enter Tryd.func28, Tryd.ntmps28
  go_wp2
  go_quiet (exact Calls.quiet_of_same (s_arity _ _))
  go_wp2_with (first | (go_at_call 43; refine (s_devIsWhole _ _ _ _ (by assumption) (by assumption)).mono ?_; rintro e w1 ⟨rfl, hb⟩; obtain ⟨hc, hf⟩ := bcell hb; have hz0 : w.heap.size < w1.heap.size := Nat.lt_of_lt_of_le (by first | assumption | (simp; done) | (simp; omega)) hb.size; have hz1 : b < w1.heap.size := Nat.lt_of_lt_of_le (by first | assumption | (simp; done) | (simp; omega)) hb.size) | (go_at_call 44; refine (s_devIsReal _ _ _ _ (by assumption) (by assumption)).mono ?_; rintro e w1 ⟨rfl, hb⟩; obtain ⟨hc, hf⟩ := bcell hb; have hz0 : w.heap.size < w1.heap.size := Nat.lt_of_lt_of_le (by first | assumption | (simp; done) | (simp; omega)) hb.size; have hz1 : b < w1.heap.size := Nat.lt_of_lt_of_le (by first | assumption | (simp; done) | (simp; omega)) hb.size))
  all_goals go_ret
  all_goals (refine ⟨ret_bool ?_, by (repeat (first | exact Below.refl _ _ | assumption | refine bl_alloc ?_ _ | refine bl_drewN ?_ _ | refine bl_drew ?_ | refine bl_grow ?_ _ _ | refine bl_set (Nat.le_refl _) ?_ _ | refine bl_call ?_ (by assumption)))⟩)
  all_goals go_light
  all_goals simp [*]
end Go.Proofs.YthhfnncehfkbfaaDoor
/- Contracts of the specification's chapter 2, third part: ElemIsContact whole, l2Calc. -/
namespace Go.Proofs.YthhfnncehfkbfaaDoor
open Go.RowKit Go.Sort Go.BigFrame
theorem s_isContact (op : Int) (v : Value) (ds : List Stil.Dev) (w : World) (hat : DevsAt w v ds) (hfit : ∀ d ∈ ds, d.fits) (hl : ds.length ≤ 9223372036854775807) :
    Calls Tryd.prog 28 #[.agg #[.int .i64 op, v]] w fun e w' => e = .returned (.bool (Stil.isContact op ds)) ∧ Below w.heap.size w w' := by
  have hno : ∀ (h : op < 1 ∨ 10 < op ∨ (ds.length : Int) ≠ Stil.arity op), Stil.isContact op ds = false → Calls Tryd.prog 28 #[.agg #[.int .i64 op, v]] w fun e w' => e = .returned (.bool (Stil.isContact op ds)) ∧ Below w.heap.size w w' := by
    intro h he
    obtain ⟨a, cap, rfl, _⟩ := hat
    rw [he]
    exact s_isContact_no op a ds.length cap w h hl
  by_cases h1 : op < 1 ∨ 10 < op
  · exact hno (by omega) (by unfold Stil.isContact; rw [if_pos h1])
  · by_cases h2 : op ≤ 2
    · have ha : Stil.arity op = 1 := by unfold Stil.arity; rw [if_pos (by omega)]
      match ds, hat, hfit, hl, hno with
      | [], _, _, _, hno => exact hno (by right; right; simp [ha]) (by unfold Stil.isContact; rw [if_neg h1])
      | [d], hat, hfit, _, _ =>
        obtain ⟨b, o, cap, rfl, hlt, hd⟩ := hat.one
        have := (hfit d (by simp)).2.1
        have e : Stil.isContact op [d] = d.isBit := by unfold Stil.isContact; rw [if_neg h1]; simp [h2]
        rw [e]
        exact s_isContact_one op b o cap d w (by omega) h2 hlt hd this.1 this.2
      | [d, f], _, _, _, hno => exact hno (by right; right; simp [ha]) (by unfold Stil.isContact; rw [if_neg h1]; simp [h2])
      | d :: f :: g :: r, _, _, _, hno => exact hno (by right; right; simp [ha]; omega) (by unfold Stil.isContact; rw [if_neg h1])
    · have ha : Stil.arity op = 2 := by unfold Stil.arity; rw [if_neg (by omega), if_neg (by omega), if_pos (by omega)]
      match ds, hat, hfit, hl, hno with
      | [], _, _, _, hno => exact hno (by right; right; simp [ha]) (by unfold Stil.isContact; rw [if_neg h1])
      | [d], _, _, _, hno => exact hno (by right; right; simp [ha]) (by unfold Stil.isContact; rw [if_neg h1]; simp [h2])
      | [d, f], hat, hfit, _, _ =>
        obtain ⟨b, o, cap, rfl, hlt, hd, hd2⟩ := hat.two
        have k1 := (hfit d (by simp)).2.1
        have k2 := (hfit f (by simp)).2.1
        by_cases h4 : op ≤ 4
        · have e : Stil.isContact op [d, f] = (d.isBit && f.ok && f.kind == 5) := by unfold Stil.isContact; rw [if_neg h1]; simp [h2, h4]
          rw [e]
          exact s_isContact_up op b o cap d f w (by omega) h4 hlt hd hd2 k1.1 k1.2 k2.1 k2.2
        · have e : Stil.isContact op [d, f] = (d.isWhole && f.isWhole || d.isReal && f.isReal) := by unfold Stil.isContact; rw [if_neg h1]; simp [h2, h4]
          rw [e]
          exact s_isContact_cmp op b o cap d f w (by omega) (by omega) hlt hd hd2 k1.1 k1.2 k2.1 k2.2
      | d :: f :: g :: r, _, _, _, hno => exact hno (by right; right; simp [ha]; omega) (by unfold Stil.isContact; rw [if_neg h1])
end Go.Proofs.YthhfnncehfkbfaaDoor
/- Contracts of the specification's chapter 2, fourth part: ElemIsCoil. -/
namespace Go.Proofs.YthhfnncehfkbfaaDoor
open Go.RowKit Go.Sort Go.BigFrame
end Go.Proofs.YthhfnncehfkbfaaDoor
/- Contracts of the specification's chapter 2, fifth part: ElemIsCoil of two operands and more. -/
namespace Go.Proofs.YthhfnncehfkbfaaDoor
open Go.RowKit Go.Sort Go.BigFrame
end Go.Proofs.YthhfnncehfkbfaaDoor
/- Contracts of the specification's chapter 2, sixth part: ElemIsCoil whole. -/
namespace Go.Proofs.YthhfnncehfkbfaaDoor
open Go.RowKit Go.Sort Go.BigFrame
theorem arity_cases {op : Int} (h1 : 21 ≤ op) (h2 : op ≤ 37) : (Stil.arity op = 1 ∧ (op = 21 ∨ op = 22 ∨ op = 23 ∨ op = 25)) ∨ (Stil.arity op = 2 ∧ (op = 24 ∨ op = 26 ∨ op = 27 ∨ op = 28 ∨ op = 29 ∨ op = 30 ∨ op = 36 ∨ op = 37)) ∨ (Stil.arity op = 3 ∧ 31 ≤ op ∧ op ≤ 35) := by
  unfold Stil.arity
  by_cases a : op = 1 ∨ op = 2 ∨ op = 21 ∨ op = 22 ∨ op = 23 ∨ op = 25
  · rw [if_pos a]; left; exact ⟨rfl, by omega⟩
  · rw [if_neg a]
    by_cases b : 31 ≤ op ∧ op ≤ 35
    · rw [if_pos b]; right; right; exact ⟨rfl, b⟩
    · rw [if_neg b, if_pos (by omega)]; right; left; exact ⟨rfl, by omega⟩
theorem DevsAt.cons {w : World} {v : Value} {d : Stil.Dev} {r : List Stil.Dev} (h : DevsAt w v (d :: r)) : ∃ b o cap, v = .slice (some ⟨b, o, none⟩) (r.length + 1) cap ∧ b < w.heap.size ∧ ∀ i (hi : i < (d :: r).length), DevAt w b (o + i * 3) (d :: r)[i] := by
  obtain ⟨a, cap, hv, hc⟩ := h
  obtain ⟨b, o, rfl, hlt, _⟩ := hc 0 (by simp)
  refine ⟨b, o, cap, hv, hlt, fun i hi => ?_⟩
  obtain ⟨b', o', e1, _, hd'⟩ := hc i hi
  simp only [Option.some.injEq, Addr.mk.injEq, and_true] at e1
  obtain ⟨rfl, rfl⟩ := e1
  exact hd'
end Go.Proofs.YthhfnncehfkbfaaDoor
