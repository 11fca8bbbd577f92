/- S2, B0, S2b, S2c, S2d, S2e, S2f: texts put together. -/
import Derived.Test.YtnnhbjgegkikoaaDoorGA
import Derived.Test.YtnnhbjgegkikoaaDoorGM
/- Contracts of the specification's chapter 2, first part. -/
namespace Go.Proofs.YtnnhbjgegkikoaaDoor
open Go.RowKit Go.Sort Go.BigFrame
set_option maxHeartbeats 1000000 in
theorem s_arity (op : Int) (w : World) :
    Calls Tryd.prog 17 #[.int .i64 op] w fun e w' => e = .returned (.int .i64 (Stil.arity op)) ∧ w' = w := by
  go_enter Tryd.func17, Tryd.ntmps17
  go_wp2
  all_goals go_ret
  all_goals (refine ⟨ret_int ?_, rfl⟩; go_light; simp only [beq_iff_eq, beq_eq_false_iff_ne] at *; unfold Stil.arity; first | (simp [*]; done) | (repeat (first | rw [if_pos (by omega)] | rw [if_neg (by omega)])))
theorem s_elemName_cell (W : World) (op : Int) (h1 : 21 ≤ op) (h2 : op ≤ 37) : (W.alloc (Obj.cells #[.string ⟨#[111, 117, 116]⟩, .string ⟨#[115, 101, 116]⟩, .string ⟨#[114, 101, 115, 101, 116]⟩, .string ⟨#[112, 117, 108, 115, 101]⟩, .string ⟨#[115, 116, 101, 112]⟩, .string ⟨#[116, 105, 109, 101, 114]⟩, .string ⟨#[104, 111, 108, 100]⟩, .string ⟨#[108, 97, 116, 101]⟩, .string ⟨#[99, 111, 117, 110, 116]⟩, .string ⟨#[109, 111, 118, 101]⟩, .string ⟨#[97, 100, 100]⟩, .string ⟨#[115, 117, 98]⟩, .string ⟨#[109, 117, 108]⟩, .string ⟨#[100, 105, 118]⟩, .string ⟨#[114, 101, 109]⟩, .string ⟨#[114, 101, 97, 108]⟩, .string ⟨#[119, 104, 111, 108, 101]⟩] 9)).cell? ⟨W.heap.size, (op - 21).toNat, none⟩ = some (.string ⟨(Stil.names.getD (op - 21).toNat []).toArray⟩) := by
  have hn : op = 21 ∨ op = 22 ∨ op = 23 ∨ op = 24 ∨ op = 25 ∨ op = 26 ∨ op = 27 ∨ op = 28 ∨ op = 29 ∨ op = 30 ∨ op = 31 ∨ op = 32 ∨ op = 33 ∨ op = 34 ∨ op = 35 ∨ op = 36 ∨ op = 37 := by omega
  rcases hn with rfl | rfl | rfl | rfl | rfl | rfl | rfl | rfl | rfl | rfl | rfl | rfl | rfl | rfl | rfl | rfl | rfl <;> simp [go_sem, Stil.names]
theorem s_sign_cell (W : World) (op : Int) (h1 : 5 ≤ op) (h2 : op ≤ 10) : (W.alloc (Obj.cells #[.string ⟨#[60]⟩, .string ⟨#[60, 61]⟩, .string ⟨#[61]⟩, .string ⟨#[60, 62]⟩, .string ⟨#[62, 61]⟩, .string ⟨#[62]⟩] 9)).cell? ⟨W.heap.size, (op - 5).toNat, none⟩ = some (.string ⟨(Stil.signs.getD (op - 5).toNat []).toArray⟩) := by
  have hn : op = 5 ∨ op = 6 ∨ op = 7 ∨ op = 8 ∨ op = 9 ∨ op = 10 := by omega
  rcases hn with rfl | rfl | rfl | rfl | rfl | rfl <;> simp [go_sem, Stil.signs]
set_option maxHeartbeats 400000 in
theorem s_kind (k n p a b : Int) (w : World) (hn1 : -9223372036854775808 ≤ n) (hn2 : n ≤ 9223372036854775807) :
    Calls Tryd.prog 22 #[.agg #[.int .i64 k, .int .i64 n, .int .i64 p], .int .i64 a, .int .i64 b] w fun e w' => e = .returned (.bool (Stil.kindB k n p a b)) ∧ Below w.heap.size w w' := by
  cases h : Stil.devOkB k n p
  all_goals
    go_enter Tryd.func22, Tryd.ntmps22
    go_wp2_with (go_at_call 19; refine (s_devOk _ _ _ _ hn1 hn2).mono ?_; rintro e w' ⟨rfl, hb⟩; obtain ⟨hc, hf⟩ := bcell hb)
    all_goals go_ret
    all_goals (refine ⟨ret_bool ?_, below_two (by assumption)⟩)
    all_goals go_light
    all_goals (rw [Stil.kindB, h, Bool.eq_iff_iff]; clear h; simp [*])
end Go.Proofs.YtnnhbjgegkikoaaDoor
/- Small laws on 'Below'. -/
namespace Go.Proofs.YtnnhbjgegkikoaaDoor
open Go.RowKit Go.Sort Go.BigFrame
theorem bl_alloc {w a : World} (h : Below w.heap.size w a) (o : Obj) : Below w.heap.size w (a.alloc o) := h.alloc h.size o
theorem bl_drewN {w a : World} (h : Below w.heap.size w a) (n : Nat) : Below w.heap.size w (a.drewN n) := below_drewN h n
theorem bl_drew {w a : World} (h : Below w.heap.size w a) : Below w.heap.size w a.drew := h.drew
theorem bl_call {w a b : World} (h : Below w.heap.size w a) (k : Below a.heap.size a b) : Below w.heap.size w b := h.trans (k.mono h.size)
theorem bl_set {w a : World} {p : Addr} (hp : w.heap.size ≤ p.block) (h : Below w.heap.size w a) (v : Value) : Below w.heap.size w (a.setCell p v) := h.setCell hp v
theorem bl_grow {w a : World} (h : Below w.heap.size w a) (d : Nat) (os : Array Obj) : Below w.heap.size w (grow (redrawn a d) os) := bl_call h (below_regrown a d os)
theorem lt_below {w a : World} {b : Nat} (h : b < w.heap.size) (k : Below w.heap.size w a) : b < a.heap.size := Nat.lt_of_lt_of_le h k.size
end Go.Proofs.YtnnhbjgegkikoaaDoor
/- Contracts of the specification's chapter 2, second part: ElemIsContact. -/
namespace Go.Proofs.YtnnhbjgegkikoaaDoor
open Go.RowKit Go.Sort Go.BigFrame
theorem size_succ {w w1 : World} {o : Obj} {n : Nat} (hb : Below ((w.alloc o).drewN n).heap.size ((w.alloc o).drewN n) w1) : w.heap.size < w1.heap.size := by have := hb.size; simp at this; omega
/-- The operand d lies at this place. -/
def DevAt (w : World) (b o : Nat) (d : Stil.Dev) : Prop := w.cell? ⟨b, o, none⟩ = some (.int .i64 d.kind) ∧ w.cell? ⟨b, o + 1, none⟩ = some (.int .i64 d.n) ∧ w.cell? ⟨b, o + 2, none⟩ = some (.int .i64 d.p)
/-- The value v is a slice of just these operands. -/
def DevsAt (w : World) (v : Value) (ds : List Stil.Dev) : Prop := ∃ a cap, v = .slice a ds.length cap ∧ ∀ i (h : i < ds.length), ∃ b o, a = some ⟨b, o, none⟩ ∧ b < w.heap.size ∧ DevAt w b (o + i * 3) ds[i]
theorem DevAt.below {w w' : World} {b o : Nat} {d : Stil.Dev} (h : DevAt w b o d) (hb : Below w.heap.size w w') (hlt : b < w.heap.size) : DevAt w' b o d := by
  unfold DevAt at *
  rw [hb.cell (p := ⟨b, o, none⟩) hlt, hb.cell (p := ⟨b, o + 1, none⟩) hlt, hb.cell (p := ⟨b, o + 2, none⟩) hlt]
  exact h
theorem DevsAt.below {w w' : World} {v : Value} {ds : List Stil.Dev} (h : DevsAt w v ds) (hb : Below w.heap.size w w') : DevsAt w' v ds := by
  obtain ⟨a, cap, hv, hc⟩ := h
  refine ⟨a, cap, hv, fun i hi => ?_⟩
  obtain ⟨b, o, ha, hlt, hd⟩ := hc i hi
  exact ⟨b, o, ha, Nat.lt_of_lt_of_le hlt hb.size, hd.below hb hlt⟩
theorem DevsAt.one {w : World} {v : Value} {d : Stil.Dev} (h : DevsAt w v [d]) : ∃ b o cap, v = .slice (some ⟨b, o, none⟩) 1 cap ∧ b < w.heap.size ∧ DevAt w b o d := by
  obtain ⟨a, cap, hv, hc⟩ := h
  obtain ⟨b, o, rfl, hlt, hd⟩ := hc 0 (by simp)
  exact ⟨b, o, cap, hv, hlt, hd⟩
theorem DevsAt.two {w : World} {v : Value} {d e : Stil.Dev} (h : DevsAt w v [d, e]) : ∃ b o cap, v = .slice (some ⟨b, o, none⟩) 2 cap ∧ b < w.heap.size ∧ DevAt w b o d ∧ DevAt w b (o + 3) e := by
  obtain ⟨a, cap, hv, hc⟩ := h
  obtain ⟨b, o, rfl, hlt, hd⟩ := hc 0 (by simp)
  obtain ⟨b', o', e1, _, hd'⟩ := hc 1 (by simp)
  simp only [Option.some.injEq, Addr.mk.injEq, and_true] at e1
  obtain ⟨rfl, rfl⟩ := e1
  exact ⟨b, o, cap, hv, hlt, hd, hd'⟩
theorem DevsAt.three {w : World} {v : Value} {d e f : Stil.Dev} (h : DevsAt w v [d, e, f]) : ∃ b o cap, v = .slice (some ⟨b, o, none⟩) 3 cap ∧ b < w.heap.size ∧ DevAt w b o d ∧ DevAt w b (o + 3) e ∧ DevAt w b (o + 6) f := by
  obtain ⟨a, cap, hv, hc⟩ := h
  obtain ⟨b, o, rfl, hlt, hd⟩ := hc 0 (by simp)
  obtain ⟨b', o', e1, _, hd'⟩ := hc 1 (by simp)
  simp only [Option.some.injEq, Addr.mk.injEq, and_true] at e1
  obtain ⟨rfl, rfl⟩ := e1
  obtain ⟨b', o', e1, _, hd''⟩ := hc 2 (by simp)
  simp only [Option.some.injEq, Addr.mk.injEq, and_true] at e1
  obtain ⟨rfl, rfl⟩ := e1
  exact ⟨b, o, cap, hv, hlt, hd, hd', hd''⟩
set_option maxHeartbeats 400000 in
set_option maxRecDepth 100000 in
theorem s_isContact_no (op : Int) (a : Option Addr) (len cap : Nat) (w : World) (h : op < 1 ∨ 10 < op ∨ (len : Int) ≠ Stil.arity op) (_hl : len ≤ 9223372036854775807) :
    Calls Tryd.prog 7 #[.agg #[.int .i64 op, .slice a len cap]] w fun e w' => e = .returned (.bool false) ∧ Below w.heap.size w w' := by
  by_cases h1 : op < 1
  · have h1' : decide (op < 1) = true := by simpa using h1
    go_enter Tryd.func7, Tryd.ntmps7
    go_wp2
    go_quiet (exact Calls.quiet_of_same (s_arity _ _))
    go_wp2
    go_ret
    exact ⟨rfl, below_drewN (below_alloc _ _) _⟩
  · have h1' : decide (op < 1) = false := by simpa using h1
    by_cases h2 : 10 < op
    · have h2' : decide (10 < op) = true := by simpa using h2
      go_enter Tryd.func7, Tryd.ntmps7
      go_wp2
      go_quiet (exact Calls.quiet_of_same (s_arity _ _))
      go_wp2
      go_ret
      exact ⟨rfl, below_drewN (below_alloc _ _) _⟩
    · have h2' : decide (10 < op) = false := by simpa using h2
      have h3 : ((len : Int) != Stil.arity op) = true := by rw [bne_iff_ne]; omega
      clear h
      go_enter Tryd.func7, Tryd.ntmps7
      go_wp2
      go_quiet (exact Calls.quiet_of_same (s_arity _ _))
      go_wp2
      go_ret
      exact ⟨rfl, below_drewN (below_alloc _ _) _⟩
set_option maxHeartbeats 400000 in
set_option maxRecDepth 100000 in
theorem s_isContact_one (op : Int) (b o cap : Nat) (d : Stil.Dev) (w : World) (h1 : 1 ≤ op) (h2 : op ≤ 2) (hlt : b < w.heap.size) (hat : DevAt w b o d) (hn1 : -9223372036854775808 ≤ d.n) (hn2 : d.n ≤ 9223372036854775807) :
    Calls Tryd.prog 7 #[.agg #[.int .i64 op, .slice (some ⟨b, o, none⟩) 1 cap]] w fun e w' => e = .returned (.bool d.isBit) ∧ Below w.heap.size w w' := by
  obtain ⟨c0, c1, c2⟩ := hat
  have h1' : decide (op < 1) = false := by simp; omega
  have h2' : decide (10 < op) = false := by simp; omega
  have h3 : Stil.arity op = 1 := by unfold Stil.arity; rw [if_pos (by omega)]
  go_enter Tryd.func7, Tryd.ntmps7
  go_wp2
  go_quiet (exact Calls.quiet_of_same (s_arity _ _))
  go_wp2_with (go_at_call 18; refine (s_devIsBit _ _ _ _ hn1 hn2).mono ?_; rintro e w' ⟨rfl, hb⟩)
  go_ret
  exact ⟨rfl, by (repeat (first | exact Below.refl _ _ | assumption | refine bl_alloc ?_ _ | refine bl_drewN ?_ _ | refine bl_drew ?_ | refine bl_grow ?_ _ _ | refine bl_set (Nat.le_refl _) ?_ _ | refine bl_call ?_ (by assumption)))⟩
set_option maxHeartbeats 400000 in
set_option maxRecDepth 100000 in
theorem s_isContact_up (op : Int) (b o cap : Nat) (d f : Stil.Dev) (w : World) (h1 : 3 ≤ op) (h2 : op ≤ 4) (hlt : b < w.heap.size) (hat : DevAt w b o d) (hat2 : DevAt w b (o + 3) f) (hn1 : -9223372036854775808 ≤ d.n) (hn2 : d.n ≤ 9223372036854775807) (hm1 : -9223372036854775808 ≤ f.n) (hm2 : f.n ≤ 9223372036854775807) :
    Calls Tryd.prog 7 #[.agg #[.int .i64 op, .slice (some ⟨b, o, none⟩) 2 cap]] w fun e w' => e = .returned (.bool (d.isBit && f.ok && f.kind == 5)) ∧ Below w.heap.size w w' := by
  obtain ⟨c0, c1, c2⟩ := hat
  obtain ⟨e0, e1, e2⟩ := hat2
  have hlt1 : b < w.heap.size + 1 := by omega
  have h1' : decide (op < 1) = false := by simp; omega
  have h2' : decide (10 < op) = false := by simp; omega
  have h3 : Stil.arity op = 2 := by unfold Stil.arity; rw [if_neg (by omega), if_neg (by omega), if_pos (by omega)]
  have h4' : decide (op ≤ 2) = false := by simp; omega
  unfold Stil.Dev.isBit Stil.Dev.ok
  cases g1 : Stil.devIsBitB d.kind d.n d.p
  · go_enter Tryd.func7, Tryd.ntmps7
    go_wp2
    go_quiet (exact Calls.quiet_of_same (s_arity _ _))
    go_wp2_with (go_at_call 18; refine (s_devIsBit _ _ _ _ hn1 hn2).mono ?_; rintro e w' ⟨rfl, hb⟩; obtain ⟨hc, hf⟩ := bcell hb)
    go_ret
    exact ⟨rfl, by (repeat (first | exact Below.refl _ _ | assumption | refine bl_alloc ?_ _ | refine bl_drewN ?_ _ | refine bl_drew ?_ | refine bl_grow ?_ _ _ | refine bl_set (Nat.le_refl _) ?_ _ | refine bl_call ?_ (by assumption)))⟩
  · cases g2 : Stil.devOkB f.kind f.n f.p
    · go_enter Tryd.func7, Tryd.ntmps7
      go_wp2
      go_quiet (exact Calls.quiet_of_same (s_arity _ _))
      go_wp2_with (first | (go_at_call 18; refine (s_devIsBit _ _ _ _ hn1 hn2).mono ?_; rintro e w' ⟨rfl, hb⟩; obtain ⟨hc, hf⟩ := bcell hb) | (go_at_call 19; refine (s_devOk _ _ _ _ hm1 hm2).mono ?_; rintro e w2 ⟨rfl, hb2⟩))
      go_ret
      exact ⟨ret_bool (by simp), by (repeat (first | exact Below.refl _ _ | assumption | refine bl_alloc ?_ _ | refine bl_drewN ?_ _ | refine bl_drew ?_ | refine bl_grow ?_ _ _ | refine bl_set (Nat.le_refl _) ?_ _ | refine bl_call ?_ (by assumption)))⟩
    · go_enter Tryd.func7, Tryd.ntmps7
      go_wp2
      go_quiet (exact Calls.quiet_of_same (s_arity _ _))
      go_wp2_with (first | (go_at_call 18; refine (s_devIsBit _ _ _ _ hn1 hn2).mono ?_; rintro e w' ⟨rfl, hb⟩; obtain ⟨hc, hf⟩ := bcell hb; have hz := size_succ hb; have hz1 := Nat.lt_trans hlt hz) | (go_at_call 19; refine (s_devOk _ _ _ _ hm1 hm2).mono ?_; rintro e w2 ⟨rfl, hb2⟩; obtain ⟨hc2, hf2⟩ := bcell hb2))
      go_ret
      exact ⟨ret_bool (by simp), by (repeat (first | exact Below.refl _ _ | assumption | refine bl_alloc ?_ _ | refine bl_drewN ?_ _ | refine bl_drew ?_ | refine bl_grow ?_ _ _ | refine bl_set (Nat.le_refl _) ?_ _ | refine bl_call ?_ (by assumption)))⟩
set_option maxHeartbeats 1000000 in
set_option maxRecDepth 100000 in
theorem s_isContact_cmp (op : Int) (b o cap : Nat) (d f : Stil.Dev) (w : World) (h1 : 5 ≤ op) (h2 : op ≤ 10) (hlt : b < w.heap.size) (hat : DevAt w b o d) (hat2 : DevAt w b (o + 3) f) (hn1 : -9223372036854775808 ≤ d.n) (hn2 : d.n ≤ 9223372036854775807) (hm1 : -9223372036854775808 ≤ f.n) (hm2 : f.n ≤ 9223372036854775807) :
    Calls Tryd.prog 7 #[.agg #[.int .i64 op, .slice (some ⟨b, o, none⟩) 2 cap]] w fun e w' => e = .returned (.bool (d.isWhole && f.isWhole || d.isReal && f.isReal)) ∧ Below w.heap.size w w' := by
  obtain ⟨c0, c1, c2⟩ := hat
  obtain ⟨e0, e1, e2⟩ := hat2
  have hlt1 : b < w.heap.size + 1 := by omega
  have h1' : decide (op < 1) = false := by simp; omega
  have h2' : decide (10 < op) = false := by simp; omega
  have h3 : Stil.arity op = 2 := by unfold Stil.arity; rw [if_neg (by omega), if_neg (by omega), if_pos (by omega)]
  have h4' : decide (op ≤ 2) = false := by simp; omega
  have h5' : decide (op ≤ 4) = false := by simp; omega
  unfold Stil.Dev.isWhole Stil.Dev.isReal
  go_enter Tryd.func7, Tryd.ntmps7
  go_wp2
  go_quiet (exact Calls.quiet_of_same (s_arity _ _))
  go_wp2_with (first | (go_at_call 20; refine (s_devIsWhole _ _ _ _ (by assumption) (by assumption)).mono ?_; rintro e w1 ⟨rfl, hb⟩; obtain ⟨hc, hf⟩ := bcell hb; have hz0 : w.heap.size < w1.heap.size := Nat.lt_of_lt_of_le (by first | assumption | (simp; done) | (simp; omega)) hb.size; have hz1 : b < w1.heap.size := Nat.lt_of_lt_of_le (by first | assumption | (simp; done) | (simp; omega)) hb.size) | (go_at_call 21; refine (s_devIsReal _ _ _ _ (by assumption) (by assumption)).mono ?_; rintro e w1 ⟨rfl, hb⟩; obtain ⟨hc, hf⟩ := bcell hb; have hz0 : w.heap.size < w1.heap.size := Nat.lt_of_lt_of_le (by first | assumption | (simp; done) | (simp; omega)) hb.size; have hz1 : b < w1.heap.size := Nat.lt_of_lt_of_le (by first | assumption | (simp; done) | (simp; omega)) hb.size))
  all_goals go_ret
  all_goals (refine ⟨ret_bool ?_, by (repeat (first | exact Below.refl _ _ | assumption | refine bl_alloc ?_ _ | refine bl_drewN ?_ _ | refine bl_drew ?_ | refine bl_grow ?_ _ _ | refine bl_set (Nat.le_refl _) ?_ _ | refine bl_call ?_ (by assumption)))⟩)
  all_goals go_light
  all_goals simp [*]
end Go.Proofs.YtnnhbjgegkikoaaDoor
/- Contracts of the specification's chapter 2, third part: ElemIsContact whole, l2Calc. -/
namespace Go.Proofs.YtnnhbjgegkikoaaDoor
open Go.RowKit Go.Sort Go.BigFrame
theorem s_isContact (op : Int) (v : Value) (ds : List Stil.Dev) (w : World) (hat : DevsAt w v ds) (hfit : ∀ d ∈ ds, d.fits) (hl : ds.length ≤ 9223372036854775807) :
    Calls Tryd.prog 7 #[.agg #[.int .i64 op, v]] w fun e w' => e = .returned (.bool (Stil.isContact op ds)) ∧ Below w.heap.size w w' := by
  have hno : ∀ (h : op < 1 ∨ 10 < op ∨ (ds.length : Int) ≠ Stil.arity op), Stil.isContact op ds = false → Calls Tryd.prog 7 #[.agg #[.int .i64 op, v]] w fun e w' => e = .returned (.bool (Stil.isContact op ds)) ∧ Below w.heap.size w w' := by
    intro h he
    obtain ⟨a, cap, rfl, _⟩ := hat
    rw [he]
    exact s_isContact_no op a ds.length cap w h hl
  by_cases h1 : op < 1 ∨ 10 < op
  · exact hno (by omega) (by unfold Stil.isContact; rw [if_pos h1])
  · by_cases h2 : op ≤ 2
    · have ha : Stil.arity op = 1 := by unfold Stil.arity; rw [if_pos (by omega)]
      match ds, hat, hfit, hl, hno with
      | [], _, _, _, hno => exact hno (by right; right; simp [ha]) (by unfold Stil.isContact; rw [if_neg h1])
      | [d], hat, hfit, _, _ =>
        obtain ⟨b, o, cap, rfl, hlt, hd⟩ := hat.one
        have := (hfit d (by simp)).2.1
        have e : Stil.isContact op [d] = d.isBit := by unfold Stil.isContact; rw [if_neg h1]; simp [h2]
        rw [e]
        exact s_isContact_one op b o cap d w (by omega) h2 hlt hd this.1 this.2
      | [d, f], _, _, _, hno => exact hno (by right; right; simp [ha]) (by unfold Stil.isContact; rw [if_neg h1]; simp [h2])
      | d :: f :: g :: r, _, _, _, hno => exact hno (by right; right; simp [ha]; omega) (by unfold Stil.isContact; rw [if_neg h1])
    · have ha : Stil.arity op = 2 := by unfold Stil.arity; rw [if_neg (by omega), if_neg (by omega), if_pos (by omega)]
      match ds, hat, hfit, hl, hno with
      | [], _, _, _, hno => exact hno (by right; right; simp [ha]) (by unfold Stil.isContact; rw [if_neg h1])
      | [d], _, _, _, hno => exact hno (by right; right; simp [ha]) (by unfold Stil.isContact; rw [if_neg h1]; simp [h2])
      | [d, f], hat, hfit, _, _ =>
        obtain ⟨b, o, cap, rfl, hlt, hd, hd2⟩ := hat.two
        have k1 := (hfit d (by simp)).2.1
        have k2 := (hfit f (by simp)).2.1
        by_cases h4 : op ≤ 4
        · have e : Stil.isContact op [d, f] = (d.isBit && f.ok && f.kind == 5) := by unfold Stil.isContact; rw [if_neg h1]; simp [h2, h4]
          rw [e]
          exact s_isContact_up op b o cap d f w (by omega) h4 hlt hd hd2 k1.1 k1.2 k2.1 k2.2
        · have e : Stil.isContact op [d, f] = (d.isWhole && f.isWhole || d.isReal && f.isReal) := by unfold Stil.isContact; rw [if_neg h1]; simp [h2, h4]
          rw [e]
          exact s_isContact_cmp op b o cap d f w (by omega) (by omega) hlt hd hd2 k1.1 k1.2 k2.1 k2.2
      | d :: f :: g :: r, _, _, _, hno => exact hno (by right; right; simp [ha]; omega) (by unfold Stil.isContact; rw [if_neg h1])
set_option maxHeartbeats 1000000 in
set_option maxRecDepth 100000 in
theorem s_calc (op : Int) (b o cap : Nat) (d : Stil.Dev) (r : List Stil.Dev) (w : World) (hlt : b < w.heap.size) (hl : r.length ≤ 100)
    (hat : ∀ i (h : i < (d :: r).length), DevAt w b (o + i * 3) (d :: r)[i]) (hfit : ∀ x ∈ d :: r, x.fits) :
    Calls Tryd.prog 23 #[.agg #[.int .i64 op, .slice (some ⟨b, o, none⟩) (r.length + 1) cap]] w fun e w' => e = .returned (.bool (Stil.calcB op (d :: r))) ∧ Below w.heap.size w w' := by
  have hlt1 : b < w.heap.size + 1 := by omega
  obtain ⟨c0, c1, c2⟩ := hat 0 (by simp)
  simp only [Nat.zero_mul, Nat.add_zero, List.getElem_cons_zero] at c0 c1 c2
  obtain ⟨hn1, hn2⟩ := (hfit d (by simp)).2.1
  cases g1 : Stil.kindB d.kind d.n d.p 9 10
  · have HD : Hid (Stil.calcB op (d :: r) = false) := by show _ = _; simp only [Stil.calcB, Stil.Dev.kindIs, g1]; rfl
    clear hat hfit
    go_enter Tryd.func23, Tryd.ntmps23
    go_wp2_with (first | (go_at_call 22; refine (s_kind _ _ _ _ _ _ hn1 hn2).mono ?_; rintro e w1 ⟨rfl, hb⟩; obtain ⟨hc, hf⟩ := bcell hb; have hz0 : w.heap.size < w1.heap.size := Nat.lt_of_lt_of_le (by first | assumption | (simp; done) | (simp; omega)) hb.size; have hz1 : b < w1.heap.size := Nat.lt_of_lt_of_le (by first | assumption | (simp; done) | (simp; omega)) hb.size))
    go_ret
    exact ⟨ret_bool (by rw [HD.out]), by (repeat (first | exact Below.refl _ _ | assumption | refine bl_alloc ?_ _ | refine bl_drewN ?_ _ | refine bl_drew ?_ | refine bl_grow ?_ _ _ | refine bl_set (Nat.le_refl _) ?_ _ | refine bl_call ?_ (by assumption)))⟩
  · cases g2 : d.kind == 9
    · have HD : Hid (Stil.calcB op (d :: r) = (Stil.calcRest false r && (op != 35))) := by show _ = _; simp only [Stil.calcB, Stil.Dev.kindIs, g1, g2]; simp
      have HA : Hid (∀ i (h : i < (d :: r).length), DevAt w b (o + i * 3) (d :: r)[i]) := hat
      have HF : Hid (∀ x ∈ d :: r, x.fits) := hfit
      clear hat hfit
      go_enter Tryd.func23, Tryd.ntmps23
      go_wp2_with (first | (go_at_call 22; refine (s_kind _ _ _ _ _ _ hn1 hn2).mono ?_; rintro e w1 ⟨rfl, hb⟩; obtain ⟨hc, hf⟩ := bcell hb; have hz0 : w.heap.size < w1.heap.size := Nat.lt_of_lt_of_le (by first | assumption | (simp; done) | (simp; omega)) hb.size; have hz1 : b < w1.heap.size := Nat.lt_of_lt_of_le (by first | assumption | (simp; done) | (simp; omega)) hb.size))
      clear hc hf hz0 hz1
      go_loopw [4] (fun i wr => ∃ k : Nat, k ≤ r.length ∧ i = .int .i64 ((k : Int) + 1) ∧ Stil.calcRest false r = Stil.calcRest false (r.drop k) ∧ Below (w.heap.size + 1) (w.alloc (.cells #[.int .i64 op, .slice (some ⟨b, o, none⟩) (r.length + 1) cap] 25)) wr) (fun i _ => r.length + 1 - (intOf i).toNat)
      case atStart => exact ⟨0, by omega, rfl, rfl, hb.mono (by simp)⟩
      case round =>
        clear hb
        obtain ⟨k, hk, rfl, hcr, hB⟩ := hrel
        have HC : Hid (Stil.calcRest false r = Stil.calcRest false (r.drop k)) := hcr
        clear hcr c0 c1 c2
        have hz : w.heap.size < wr.heap.size := by have := hB.size; simp at this; omega
        have c0 : wr.cell? ⟨w.heap.size, 0, none⟩ = some (.int .i64 op) := by rw [hB.cell (p := ⟨w.heap.size, 0, none⟩) (by simp)]; simp [go_sem]
        have f0 : wr.frozen? ⟨w.heap.size, 0, none⟩ = false := by rw [hB.frozen (p := ⟨w.heap.size, 0, none⟩) (by simp)]; simp [go_sem]
        have c1 : wr.cell? ⟨w.heap.size, 1, none⟩ = some (.slice (some ⟨b, o, none⟩) (r.length + 1) cap) := by rw [hB.cell (p := ⟨w.heap.size, 1, none⟩) (by simp)]; simp [go_sem]
        have f1 : wr.frozen? ⟨w.heap.size, 1, none⟩ = false := by rw [hB.frozen (p := ⟨w.heap.size, 1, none⟩) (by simp)]; simp [go_sem]
        have hbw : Below w.heap.size w wr := (below_alloc _ _).trans (hB.mono (by omega))
        have hz1 : b < wr.heap.size := lt_below hlt hbw
        by_cases hkl : k < r.length
        · obtain ⟨x0, x1, x2⟩ := (HA.out (k + 1) (by simp; omega)).below hbw hlt
          simp only [List.getElem_cons_succ] at x0 x1 x2
          obtain ⟨hm1, hm2⟩ := (HF.out r[k] (by simp)).2.1
          have HR : Hid (Stil.calcRest false (r.drop k) = (Stil.devIsRealB r[k].kind r[k].n r[k].p && Stil.calcRest false (r.drop (k + 1)))) := by
            show (r.drop k).all _ = _
            rw [List.drop_eq_getElem_cons hkl, List.all_cons]; rfl
          obtain ⟨x, hx⟩ : ∃ x, x = r[k] := ⟨_, rfl⟩
          rw [← hx] at x0 x1 x2 hm1 hm2 HR
          clear hx
          cases g3 : Stil.devIsRealB x.kind x.n x.p
          · rw [g3] at HR
            go_wp2_with (first | (go_at_call 21; refine (s_devIsReal _ _ _ _ hm1 hm2).mono ?_; rintro e w2 ⟨rfl, hb⟩; obtain ⟨hc, hf⟩ := bcell hb; have hz0 : w.heap.size < w2.heap.size := Nat.lt_of_lt_of_le (by first | assumption | (simp; done) | (simp; omega)) hb.size; have hz1 : b < w2.heap.size := Nat.lt_of_lt_of_le (by first | assumption | (simp; done) | (simp; omega)) hb.size))
            go_ret
            exact ⟨ret_bool (by rw [HD.out, HC.out, HR.out]; rfl), by (repeat (first | exact Below.refl _ _ | assumption | refine bl_alloc ?_ _ | refine bl_drewN ?_ _ | refine bl_drew ?_ | refine bl_grow ?_ _ _ | refine bl_set (Nat.le_refl _) ?_ _ | refine bl_call ?_ (by assumption)))⟩
          · rw [g3] at HR
            go_wp2_with (first | (go_at_call 21; refine (s_devIsReal _ _ _ _ hm1 hm2).mono ?_; rintro e w2 ⟨rfl, hb⟩; obtain ⟨hc, hf⟩ := bcell hb; have hz0 : w.heap.size < w2.heap.size := Nat.lt_of_lt_of_le (by first | assumption | (simp; done) | (simp; omega)) hb.size; have hz1 : b < w2.heap.size := Nat.lt_of_lt_of_le (by first | assumption | (simp; done) | (simp; omega)) hb.size))
            refine ⟨⟨k + 1, by omega, by go_num, by rw [HC.out, HR.out]; rfl, ?_⟩, by simp [intOf]; omega⟩
            exact hB.trans (hb.mono hz)
        · go_wp2
          go_ret
          exact ⟨ret_bool (by rw [HD.out, HC.out, List.drop_of_length_le (by omega)]; rfl), by (repeat (first | exact Below.refl _ _ | assumption | refine bl_alloc ?_ _ | refine bl_drewN ?_ _ | refine bl_drew ?_ | refine bl_grow ?_ _ _ | refine bl_set (Nat.le_refl _) ?_ _ | refine bl_call ?_ (by assumption)))⟩
    · have HD : Hid (Stil.calcB op (d :: r) = Stil.calcRest true r) := by show _ = _; simp only [Stil.calcB, Stil.Dev.kindIs, g1, g2]; simp
      have HA : Hid (∀ i (h : i < (d :: r).length), DevAt w b (o + i * 3) (d :: r)[i]) := hat
      have HF : Hid (∀ x ∈ d :: r, x.fits) := hfit
      clear hat hfit
      go_enter Tryd.func23, Tryd.ntmps23
      go_wp2_with (first | (go_at_call 22; refine (s_kind _ _ _ _ _ _ hn1 hn2).mono ?_; rintro e w1 ⟨rfl, hb⟩; obtain ⟨hc, hf⟩ := bcell hb; have hz0 : w.heap.size < w1.heap.size := Nat.lt_of_lt_of_le (by first | assumption | (simp; done) | (simp; omega)) hb.size; have hz1 : b < w1.heap.size := Nat.lt_of_lt_of_le (by first | assumption | (simp; done) | (simp; omega)) hb.size))
      clear hc hf hz0 hz1
      go_loopw [4] (fun i wr => ∃ k : Nat, k ≤ r.length ∧ i = .int .i64 ((k : Int) + 1) ∧ Stil.calcRest true r = Stil.calcRest true (r.drop k) ∧ Below (w.heap.size + 1) (w.alloc (.cells #[.int .i64 op, .slice (some ⟨b, o, none⟩) (r.length + 1) cap] 25)) wr) (fun i _ => r.length + 1 - (intOf i).toNat)
      case atStart => exact ⟨0, by omega, rfl, rfl, hb.mono (by simp)⟩
      case round =>
        clear hb
        obtain ⟨k, hk, rfl, hcr, hB⟩ := hrel
        have HC : Hid (Stil.calcRest true r = Stil.calcRest true (r.drop k)) := hcr
        clear hcr c0 c1 c2
        have hz : w.heap.size < wr.heap.size := by have := hB.size; simp at this; omega
        have c0 : wr.cell? ⟨w.heap.size, 0, none⟩ = some (.int .i64 op) := by rw [hB.cell (p := ⟨w.heap.size, 0, none⟩) (by simp)]; simp [go_sem]
        have f0 : wr.frozen? ⟨w.heap.size, 0, none⟩ = false := by rw [hB.frozen (p := ⟨w.heap.size, 0, none⟩) (by simp)]; simp [go_sem]
        have c1 : wr.cell? ⟨w.heap.size, 1, none⟩ = some (.slice (some ⟨b, o, none⟩) (r.length + 1) cap) := by rw [hB.cell (p := ⟨w.heap.size, 1, none⟩) (by simp)]; simp [go_sem]
        have f1 : wr.frozen? ⟨w.heap.size, 1, none⟩ = false := by rw [hB.frozen (p := ⟨w.heap.size, 1, none⟩) (by simp)]; simp [go_sem]
        have hbw : Below w.heap.size w wr := (below_alloc _ _).trans (hB.mono (by omega))
        have hz1 : b < wr.heap.size := lt_below hlt hbw
        by_cases hkl : k < r.length
        · obtain ⟨x0, x1, x2⟩ := (HA.out (k + 1) (by simp; omega)).below hbw hlt
          simp only [List.getElem_cons_succ] at x0 x1 x2
          obtain ⟨hm1, hm2⟩ := (HF.out r[k] (by simp)).2.1
          have HR : Hid (Stil.calcRest true (r.drop k) = (Stil.devIsWholeB r[k].kind r[k].n r[k].p && Stil.calcRest true (r.drop (k + 1)))) := by
            show (r.drop k).all _ = _
            rw [List.drop_eq_getElem_cons hkl, List.all_cons]; rfl
          obtain ⟨x, hx⟩ : ∃ x, x = r[k] := ⟨_, rfl⟩
          rw [← hx] at x0 x1 x2 hm1 hm2 HR
          clear hx
          cases g3 : Stil.devIsWholeB x.kind x.n x.p
          · rw [g3] at HR
            go_wp2_with (first | (go_at_call 20; refine (s_devIsWhole _ _ _ _ hm1 hm2).mono ?_; rintro e w2 ⟨rfl, hb⟩; obtain ⟨hc, hf⟩ := bcell hb; have hz0 : w.heap.size < w2.heap.size := Nat.lt_of_lt_of_le (by first | assumption | (simp; done) | (simp; omega)) hb.size; have hz1 : b < w2.heap.size := Nat.lt_of_lt_of_le (by first | assumption | (simp; done) | (simp; omega)) hb.size))
            go_ret
            exact ⟨ret_bool (by rw [HD.out, HC.out, HR.out]; rfl), by (repeat (first | exact Below.refl _ _ | assumption | refine bl_alloc ?_ _ | refine bl_drewN ?_ _ | refine bl_drew ?_ | refine bl_grow ?_ _ _ | refine bl_set (Nat.le_refl _) ?_ _ | refine bl_call ?_ (by assumption)))⟩
          · rw [g3] at HR
            go_wp2_with (first | (go_at_call 20; refine (s_devIsWhole _ _ _ _ hm1 hm2).mono ?_; rintro e w2 ⟨rfl, hb⟩; obtain ⟨hc, hf⟩ := bcell hb; have hz0 : w.heap.size < w2.heap.size := Nat.lt_of_lt_of_le (by first | assumption | (simp; done) | (simp; omega)) hb.size; have hz1 : b < w2.heap.size := Nat.lt_of_lt_of_le (by first | assumption | (simp; done) | (simp; omega)) hb.size))
            refine ⟨⟨k + 1, by omega, by go_num, by rw [HC.out, HR.out]; rfl, ?_⟩, by simp [intOf]; omega⟩
            exact hB.trans (hb.mono hz)
        · go_wp2
          go_ret
          exact ⟨ret_bool (by rw [HD.out, HC.out, List.drop_of_length_le (by omega)]; rfl), by (repeat (first | exact Below.refl _ _ | assumption | refine bl_alloc ?_ _ | refine bl_drewN ?_ _ | refine bl_drew ?_ | refine bl_grow ?_ _ _ | refine bl_set (Nat.le_refl _) ?_ _ | refine bl_call ?_ (by assumption)))⟩
end Go.Proofs.YtnnhbjgegkikoaaDoor
/- Contracts of the specification's chapter 2, fourth part: ElemIsCoil. -/
namespace Go.Proofs.YtnnhbjgegkikoaaDoor
open Go.RowKit Go.Sort Go.BigFrame
set_option maxHeartbeats 400000 in
set_option maxRecDepth 100000 in
theorem s_isCoil_no (op : Int) (a : Option Addr) (len cap : Nat) (w : World) (h : op < 21 ∨ 37 < op ∨ (len : Int) ≠ Stil.arity op) (_hl : len ≤ 9223372036854775807) :
    Calls Tryd.prog 8 #[.agg #[.int .i64 op, .slice a len cap]] w fun e w' => e = .returned (.bool false) ∧ Below w.heap.size w w' := by
  by_cases h1 : op < 21
  · have h1' : decide (op < 21) = true := by simpa using h1
    go_enter Tryd.func8, Tryd.ntmps8
    go_wp2
    go_quiet (exact Calls.quiet_of_same (s_arity _ _))
    go_wp2
    go_ret
    exact ⟨rfl, below_drewN (below_alloc _ _) _⟩
  · have h1' : decide (op < 21) = false := by simpa using h1
    by_cases h2 : 37 < op
    · have h2' : decide (37 < op) = true := by simpa using h2
      go_enter Tryd.func8, Tryd.ntmps8
      go_wp2
      go_quiet (exact Calls.quiet_of_same (s_arity _ _))
      go_wp2
      go_ret
      exact ⟨rfl, below_drewN (below_alloc _ _) _⟩
    · have h2' : decide (37 < op) = false := by simpa using h2
      have h3 : ((len : Int) != Stil.arity op) = true := by rw [bne_iff_ne]; omega
      clear h
      go_enter Tryd.func8, Tryd.ntmps8
      go_wp2
      go_quiet (exact Calls.quiet_of_same (s_arity _ _))
      go_wp2
      go_ret
      exact ⟨rfl, below_drewN (below_alloc _ _) _⟩
set_option maxHeartbeats 1000000 in
set_option maxRecDepth 100000 in
theorem s_isCoil_one (op : Int) (b o cap : Nat) (d : Stil.Dev) (w : World) (h1 : 21 ≤ op) (h2 : op ≤ 37) (h3 : Stil.arity op = 1) (hlt : b < w.heap.size) (hat : DevAt w b o d) (hn1 : -9223372036854775808 ≤ d.n) (hn2 : d.n ≤ 9223372036854775807) :
    Calls Tryd.prog 8 #[.agg #[.int .i64 op, .slice (some ⟨b, o, none⟩) 1 cap]] w fun e w' => e = .returned (.bool (Stil.isCoil op [d])) ∧ Below w.heap.size w w' := by
  obtain ⟨c0, c1, c2⟩ := hat
  have hlt1 : b < w.heap.size + 1 := by omega
  have hlt2 : b < w.heap.size + 1 + 1 := by omega
  have ho : op = 21 ∨ op = 22 ∨ op = 23 ∨ op = 25 := by
    unfold Stil.arity at h3
    split at h3
    · omega
    · split at h3
      · omega
      · split at h3 <;> omega
  have HD : Hid (Stil.isCoil op [d] = if op = 21 then Stil.kindB d.kind d.n d.p 2 3 else if op = 22 then Stil.kindB d.kind d.n d.p 2 3 || Stil.kindB d.kind d.n d.p 4 4 else if op = 23 then Stil.kindB d.kind d.n d.p 2 3 || Stil.kindB d.kind d.n d.p 4 7 || Stil.kindB d.kind d.n d.p 8 8 else Stil.kindB d.kind d.n d.p 4 4) := by
    show _ = _
    unfold Stil.isCoil; rw [if_neg (by simp [h3]; omega)]; rfl
  have h1' : decide (op < 21) = false := by simp; omega
  have h2' : decide (37 < op) = false := by simp; omega
  clear h1 h2
  rcases ho with rfl | rfl | rfl | rfl
  all_goals
    go_enter Tryd.func8, Tryd.ntmps8
    go_wp2
    go_quiet (exact Calls.quiet_of_same (s_arity _ _))
    go_wp2_with (first | (go_at_call 22; refine (s_kind _ _ _ _ _ _ (by assumption) (by assumption)).mono ?_; rintro e w1 ⟨rfl, hb⟩; obtain ⟨hc, hf⟩ := bcell hb; have hz0 : w.heap.size < w1.heap.size := Nat.lt_of_lt_of_le (by first | assumption | (simp; done) | (simp; omega)) hb.size; have hz1 : w.heap.size + 1 < w1.heap.size := Nat.lt_of_lt_of_le (by first | assumption | (simp; done) | (simp; omega)) hb.size; have hz2 : b < w1.heap.size := Nat.lt_of_lt_of_le (by first | assumption | (simp; done) | (simp; omega)) hb.size))
    all_goals go_ret
    all_goals (refine ⟨ret_bool ?_, by (repeat (first | exact Below.refl _ _ | assumption | refine bl_alloc ?_ _ | refine bl_drewN ?_ _ | refine bl_drew ?_ | refine bl_grow ?_ _ _ | refine bl_set (Nat.le_refl _) ?_ _ | refine bl_call ?_ (by assumption)))⟩)
    all_goals rw [HD.out]
    all_goals go_light
    all_goals simp [*]
end Go.Proofs.YtnnhbjgegkikoaaDoor
/- Contracts of the specification's chapter 2, fifth part: ElemIsCoil of two operands and more. -/
namespace Go.Proofs.YtnnhbjgegkikoaaDoor
open Go.RowKit Go.Sort Go.BigFrame
set_option maxHeartbeats 1000000 in
set_option maxRecDepth 100000 in
theorem s_isCoil_pulse (op : Int) (b o cap : Nat) (d f : Stil.Dev) (w : World) (ho : op = 24) (hlt : b < w.heap.size) (hat : DevAt w b o d) (hat2 : DevAt w b (o + 3) f) (hn1 : -9223372036854775808 ≤ d.n) (hn2 : d.n ≤ 9223372036854775807) (hm1 : -9223372036854775808 ≤ f.n) (hm2 : f.n ≤ 9223372036854775807) :
    Calls Tryd.prog 8 #[.agg #[.int .i64 op, .slice (some ⟨b, o, none⟩) 2 cap]] w fun e w' => e = .returned (.bool (Stil.kindB d.kind d.n d.p 2 3 && Stil.kindB f.kind f.n f.p 5 5)) ∧ Below w.heap.size w w' := by
  obtain ⟨c0, c1, c2⟩ := hat
  obtain ⟨e0, e1, e2⟩ := hat2
  have hlt1 : b < w.heap.size + 1 := by omega
  have hlt2 : b < w.heap.size + 1 + 1 := by omega
  have h3 : Stil.arity op = 2 := by unfold Stil.arity; rw [if_neg (by omega), if_neg (by omega), if_pos (by omega)]
  have h1' : decide (op < 21) = false := by simp; omega
  have h2' : decide (37 < op) = false := by simp; omega
  subst ho
  all_goals
    go_enter Tryd.func8, Tryd.ntmps8
    go_wp2
    go_quiet (exact Calls.quiet_of_same (s_arity _ _))
    go_wp2_with (first | (go_at_call 22; refine (s_kind _ _ _ _ _ _ (by assumption) (by assumption)).mono ?_; rintro e w1 ⟨rfl, hb⟩; obtain ⟨hc, hf⟩ := bcell hb; have hz0 : w.heap.size < w1.heap.size := Nat.lt_of_lt_of_le (by first | assumption | (simp; done) | (simp; omega)) hb.size; have hz1 : w.heap.size + 1 < w1.heap.size := Nat.lt_of_lt_of_le (by first | assumption | (simp; done) | (simp; omega)) hb.size; have hz2 : b < w1.heap.size := Nat.lt_of_lt_of_le (by first | assumption | (simp; done) | (simp; omega)) hb.size))
    all_goals go_ret
    all_goals (refine ⟨ret_bool ?_, by (repeat (first | exact Below.refl _ _ | assumption | refine bl_alloc ?_ _ | refine bl_drewN ?_ _ | refine bl_drew ?_ | refine bl_grow ?_ _ _ | refine bl_set (Nat.le_refl _) ?_ _ | refine bl_call ?_ (by assumption)))⟩)
    all_goals go_light
    all_goals simp [*]
set_option maxHeartbeats 1000000 in
set_option maxRecDepth 100000 in
theorem s_isCoil_timer (op : Int) (b o cap : Nat) (d f : Stil.Dev) (w : World) (ho : op = 26 ∨ op = 27 ∨ op = 28) (hlt : b < w.heap.size) (hat : DevAt w b o d) (hat2 : DevAt w b (o + 3) f) (hn1 : -9223372036854775808 ≤ d.n) (hn2 : d.n ≤ 9223372036854775807) (hm1 : -9223372036854775808 ≤ f.n) (hm2 : f.n ≤ 9223372036854775807) :
    Calls Tryd.prog 8 #[.agg #[.int .i64 op, .slice (some ⟨b, o, none⟩) 2 cap]] w fun e w' => e = .returned (.bool (Stil.kindB d.kind d.n d.p 7 7 && Stil.kindB f.kind f.n f.p 11 11 && decide (0 ≤ f.n))) ∧ Below w.heap.size w w' := by
  obtain ⟨c0, c1, c2⟩ := hat
  obtain ⟨e0, e1, e2⟩ := hat2
  have hlt1 : b < w.heap.size + 1 := by omega
  have hlt2 : b < w.heap.size + 1 + 1 := by omega
  have h3 : Stil.arity op = 2 := by unfold Stil.arity; rw [if_neg (by omega), if_neg (by omega), if_pos (by omega)]
  have h1' : decide (op < 21) = false := by simp; omega
  have h2' : decide (37 < op) = false := by simp; omega
  rcases ho with rfl | rfl | rfl
  all_goals
    go_enter Tryd.func8, Tryd.ntmps8
    go_wp2
    go_quiet (exact Calls.quiet_of_same (s_arity _ _))
    go_wp2_with (first | (go_at_call 22; refine (s_kind _ _ _ _ _ _ (by assumption) (by assumption)).mono ?_; rintro e w1 ⟨rfl, hb⟩; obtain ⟨hc, hf⟩ := bcell hb; have hz0 : w.heap.size < w1.heap.size := Nat.lt_of_lt_of_le (by first | assumption | (simp; done) | (simp; omega)) hb.size; have hz1 : w.heap.size + 1 < w1.heap.size := Nat.lt_of_lt_of_le (by first | assumption | (simp; done) | (simp; omega)) hb.size; have hz2 : b < w1.heap.size := Nat.lt_of_lt_of_le (by first | assumption | (simp; done) | (simp; omega)) hb.size))
    all_goals go_ret
    all_goals (refine ⟨ret_bool ?_, by (repeat (first | exact Below.refl _ _ | assumption | refine bl_alloc ?_ _ | refine bl_drewN ?_ _ | refine bl_drew ?_ | refine bl_grow ?_ _ _ | refine bl_set (Nat.le_refl _) ?_ _ | refine bl_call ?_ (by assumption)))⟩)
    all_goals go_light
    all_goals simp [*]
set_option maxHeartbeats 1000000 in
set_option maxRecDepth 100000 in
theorem s_isCoil_count (op : Int) (b o cap : Nat) (d f : Stil.Dev) (w : World) (ho : op = 29) (hlt : b < w.heap.size) (hat : DevAt w b o d) (hat2 : DevAt w b (o + 3) f) (hn1 : -9223372036854775808 ≤ d.n) (hn2 : d.n ≤ 9223372036854775807) (hm1 : -9223372036854775808 ≤ f.n) (hm2 : f.n ≤ 9223372036854775807) :
    Calls Tryd.prog 8 #[.agg #[.int .i64 op, .slice (some ⟨b, o, none⟩) 2 cap]] w fun e w' => e = .returned (.bool (Stil.kindB d.kind d.n d.p 8 8 && Stil.kindB f.kind f.n f.p 11 11 && decide (0 ≤ f.n))) ∧ Below w.heap.size w w' := by
  obtain ⟨c0, c1, c2⟩ := hat
  obtain ⟨e0, e1, e2⟩ := hat2
  have hlt1 : b < w.heap.size + 1 := by omega
  have hlt2 : b < w.heap.size + 1 + 1 := by omega
  have h3 : Stil.arity op = 2 := by unfold Stil.arity; rw [if_neg (by omega), if_neg (by omega), if_pos (by omega)]
  have h1' : decide (op < 21) = false := by simp; omega
  have h2' : decide (37 < op) = false := by simp; omega
  subst ho
  all_goals
    go_enter Tryd.func8, Tryd.ntmps8
    go_wp2
    go_quiet (exact Calls.quiet_of_same (s_arity _ _))
    go_wp2_with (first | (go_at_call 22; refine (s_kind _ _ _ _ _ _ (by assumption) (by assumption)).mono ?_; rintro e w1 ⟨rfl, hb⟩; obtain ⟨hc, hf⟩ := bcell hb; have hz0 : w.heap.size < w1.heap.size := Nat.lt_of_lt_of_le (by first | assumption | (simp; done) | (simp; omega)) hb.size; have hz1 : w.heap.size + 1 < w1.heap.size := Nat.lt_of_lt_of_le (by first | assumption | (simp; done) | (simp; omega)) hb.size; have hz2 : b < w1.heap.size := Nat.lt_of_lt_of_le (by first | assumption | (simp; done) | (simp; omega)) hb.size))
    all_goals go_ret
    all_goals (refine ⟨ret_bool ?_, by (repeat (first | exact Below.refl _ _ | assumption | refine bl_alloc ?_ _ | refine bl_drewN ?_ _ | refine bl_drew ?_ | refine bl_grow ?_ _ _ | refine bl_set (Nat.le_refl _) ?_ _ | refine bl_call ?_ (by assumption)))⟩)
    all_goals go_light
    all_goals simp [*]
set_option maxHeartbeats 1000000 in
set_option maxRecDepth 100000 in
theorem s_isCoil_real (op : Int) (b o cap : Nat) (d f : Stil.Dev) (w : World) (ho : op = 36) (hlt : b < w.heap.size) (hat : DevAt w b o d) (hat2 : DevAt w b (o + 3) f) (hn1 : -9223372036854775808 ≤ d.n) (hn2 : d.n ≤ 9223372036854775807) (hm1 : -9223372036854775808 ≤ f.n) (hm2 : f.n ≤ 9223372036854775807) :
    Calls Tryd.prog 8 #[.agg #[.int .i64 op, .slice (some ⟨b, o, none⟩) 2 cap]] w fun e w' => e = .returned (.bool (Stil.kindB d.kind d.n d.p 10 10 && Stil.devIsWholeB f.kind f.n f.p)) ∧ Below w.heap.size w w' := by
  obtain ⟨c0, c1, c2⟩ := hat
  obtain ⟨e0, e1, e2⟩ := hat2
  have hlt1 : b < w.heap.size + 1 := by omega
  have hlt2 : b < w.heap.size + 1 + 1 := by omega
  have h3 : Stil.arity op = 2 := by unfold Stil.arity; rw [if_neg (by omega), if_neg (by omega), if_pos (by omega)]
  have h1' : decide (op < 21) = false := by simp; omega
  have h2' : decide (37 < op) = false := by simp; omega
  subst ho
  all_goals
    go_enter Tryd.func8, Tryd.ntmps8
    go_wp2
    go_quiet (exact Calls.quiet_of_same (s_arity _ _))
    go_wp2_with (first | (go_at_call 22; refine (s_kind _ _ _ _ _ _ (by assumption) (by assumption)).mono ?_; rintro e w1 ⟨rfl, hb⟩; obtain ⟨hc, hf⟩ := bcell hb; have hz0 : w.heap.size < w1.heap.size := Nat.lt_of_lt_of_le (by first | assumption | (simp; done) | (simp; omega)) hb.size; have hz1 : w.heap.size + 1 < w1.heap.size := Nat.lt_of_lt_of_le (by first | assumption | (simp; done) | (simp; omega)) hb.size; have hz2 : b < w1.heap.size := Nat.lt_of_lt_of_le (by first | assumption | (simp; done) | (simp; omega)) hb.size) | (go_at_call 20; refine (s_devIsWhole _ _ _ _ (by assumption) (by assumption)).mono ?_; rintro e w1 ⟨rfl, hb⟩; obtain ⟨hc, hf⟩ := bcell hb; have hz0 : w.heap.size < w1.heap.size := Nat.lt_of_lt_of_le (by first | assumption | (simp; done) | (simp; omega)) hb.size; have hz1 : w.heap.size + 1 < w1.heap.size := Nat.lt_of_lt_of_le (by first | assumption | (simp; done) | (simp; omega)) hb.size; have hz2 : b < w1.heap.size := Nat.lt_of_lt_of_le (by first | assumption | (simp; done) | (simp; omega)) hb.size))
    all_goals go_ret
    all_goals (refine ⟨ret_bool ?_, by (repeat (first | exact Below.refl _ _ | assumption | refine bl_alloc ?_ _ | refine bl_drewN ?_ _ | refine bl_drew ?_ | refine bl_grow ?_ _ _ | refine bl_set (Nat.le_refl _) ?_ _ | refine bl_call ?_ (by assumption)))⟩)
    all_goals go_light
    all_goals simp [*]
set_option maxHeartbeats 1000000 in
set_option maxRecDepth 100000 in
theorem s_isCoil_whole (op : Int) (b o cap : Nat) (d f : Stil.Dev) (w : World) (ho : op = 37) (hlt : b < w.heap.size) (hat : DevAt w b o d) (hat2 : DevAt w b (o + 3) f) (hn1 : -9223372036854775808 ≤ d.n) (hn2 : d.n ≤ 9223372036854775807) (hm1 : -9223372036854775808 ≤ f.n) (hm2 : f.n ≤ 9223372036854775807) :
    Calls Tryd.prog 8 #[.agg #[.int .i64 op, .slice (some ⟨b, o, none⟩) 2 cap]] w fun e w' => e = .returned (.bool (Stil.kindB d.kind d.n d.p 9 9 && Stil.devIsRealB f.kind f.n f.p)) ∧ Below w.heap.size w w' := by
  obtain ⟨c0, c1, c2⟩ := hat
  obtain ⟨e0, e1, e2⟩ := hat2
  have hlt1 : b < w.heap.size + 1 := by omega
  have hlt2 : b < w.heap.size + 1 + 1 := by omega
  have h3 : Stil.arity op = 2 := by unfold Stil.arity; rw [if_neg (by omega), if_neg (by omega), if_pos (by omega)]
  have h1' : decide (op < 21) = false := by simp; omega
  have h2' : decide (37 < op) = false := by simp; omega
  subst ho
  all_goals
    go_enter Tryd.func8, Tryd.ntmps8
    go_wp2
    go_quiet (exact Calls.quiet_of_same (s_arity _ _))
    go_wp2_with (first | (go_at_call 22; refine (s_kind _ _ _ _ _ _ (by assumption) (by assumption)).mono ?_; rintro e w1 ⟨rfl, hb⟩; obtain ⟨hc, hf⟩ := bcell hb; have hz0 : w.heap.size < w1.heap.size := Nat.lt_of_lt_of_le (by first | assumption | (simp; done) | (simp; omega)) hb.size; have hz1 : w.heap.size + 1 < w1.heap.size := Nat.lt_of_lt_of_le (by first | assumption | (simp; done) | (simp; omega)) hb.size; have hz2 : b < w1.heap.size := Nat.lt_of_lt_of_le (by first | assumption | (simp; done) | (simp; omega)) hb.size) | (go_at_call 21; refine (s_devIsReal _ _ _ _ (by assumption) (by assumption)).mono ?_; rintro e w1 ⟨rfl, hb⟩; obtain ⟨hc, hf⟩ := bcell hb; have hz0 : w.heap.size < w1.heap.size := Nat.lt_of_lt_of_le (by first | assumption | (simp; done) | (simp; omega)) hb.size; have hz1 : w.heap.size + 1 < w1.heap.size := Nat.lt_of_lt_of_le (by first | assumption | (simp; done) | (simp; omega)) hb.size; have hz2 : b < w1.heap.size := Nat.lt_of_lt_of_le (by first | assumption | (simp; done) | (simp; omega)) hb.size))
    all_goals go_ret
    all_goals (refine ⟨ret_bool ?_, by (repeat (first | exact Below.refl _ _ | assumption | refine bl_alloc ?_ _ | refine bl_drewN ?_ _ | refine bl_drew ?_ | refine bl_grow ?_ _ _ | refine bl_set (Nat.le_refl _) ?_ _ | refine bl_call ?_ (by assumption)))⟩)
    all_goals go_light
    all_goals simp [*]
set_option maxHeartbeats 1000000 in
set_option maxRecDepth 100000 in
theorem s_isCoil_calc (op : Int) (b o cap : Nat) (d : Stil.Dev) (r : List Stil.Dev) (w : World) (ho : 30 ≤ op ∧ op ≤ 35) (ha : Stil.arity op = (r.length : Int) + 1) (hlt : b < w.heap.size)
    (hat : ∀ i (h : i < (d :: r).length), DevAt w b (o + i * 3) (d :: r)[i]) (hfit : ∀ x ∈ d :: r, x.fits) :
    Calls Tryd.prog 8 #[.agg #[.int .i64 op, .slice (some ⟨b, o, none⟩) (r.length + 1) cap]] w fun e w' => e = .returned (.bool (Stil.calcB op (d :: r))) ∧ Below w.heap.size w w' := by
  obtain ⟨c0, c1, c2⟩ := hat 0 (by simp)
  simp only [Nat.zero_mul, Nat.add_zero, List.getElem_cons_zero] at c0 c1 c2
  have hl : r.length ≤ 100 := by
    have : Stil.arity op ≤ 3 := by unfold Stil.arity; split <;> (try split) <;> (try split) <;> omega
    omega
  have HA : Hid (∀ W, Below w.heap.size w W → ∀ i (h : i < (d :: r).length), DevAt W b (o + i * 3) (d :: r)[i]) := fun W hW i h => (hat i h).below hW hlt
  have HF : Hid (∀ x ∈ d :: r, x.fits) := hfit
  have h1' : decide (op < 21) = false := by simp; omega
  have h2' : decide (37 < op) = false := by simp; omega
  have hne : (op == 21) = false ∧ (op == 22) = false ∧ (op == 23) = false ∧ (op == 24) = false ∧ (op == 25) = false ∧ (op == 26) = false ∧ (op == 27) = false ∧ (op == 28) = false ∧ (op == 29) = false ∧ (op == 36) = false ∧ (op == 37) = false := by
    simp only [beq_eq_false_iff_ne]; omega
  obtain ⟨n1, n2, n3, n4, n5, n6, n7, n8, n9, n10, n11⟩ := hne
  have h3 : (((r.length : Int) + 1) != Stil.arity op) = false := by rw [ha]; simp
  clear hat hfit ho ha
  go_enter Tryd.func8, Tryd.ntmps8
  go_wp2
  go_quiet (exact Calls.quiet_of_same (s_arity _ _))
  go_wp2_with (first | (go_at_call 23; refine (s_calc op b o cap d r _ (by simp; omega) hl (HA.out _ (by (repeat (first | exact Below.refl _ _ | assumption | refine bl_alloc ?_ _ | refine bl_drewN ?_ _ | refine bl_drew ?_ | refine bl_grow ?_ _ _ | refine bl_set (Nat.le_refl _) ?_ _ | refine bl_call ?_ (by assumption))))) HF.out).mono ?_; rintro e w1 ⟨rfl, hb⟩))
  go_ret
  exact ⟨rfl, by (repeat (first | exact Below.refl _ _ | assumption | refine bl_alloc ?_ _ | refine bl_drewN ?_ _ | refine bl_drew ?_ | refine bl_grow ?_ _ _ | refine bl_set (Nat.le_refl _) ?_ _ | refine bl_call ?_ (by assumption)))⟩
end Go.Proofs.YtnnhbjgegkikoaaDoor
/- Contracts of the specification's chapter 2, sixth part: ElemIsCoil whole. -/
namespace Go.Proofs.YtnnhbjgegkikoaaDoor
open Go.RowKit Go.Sort Go.BigFrame
theorem arity_cases {op : Int} (h1 : 21 ≤ op) (h2 : op ≤ 37) : (Stil.arity op = 1 ∧ (op = 21 ∨ op = 22 ∨ op = 23 ∨ op = 25)) ∨ (Stil.arity op = 2 ∧ (op = 24 ∨ op = 26 ∨ op = 27 ∨ op = 28 ∨ op = 29 ∨ op = 30 ∨ op = 36 ∨ op = 37)) ∨ (Stil.arity op = 3 ∧ 31 ≤ op ∧ op ≤ 35) := by
  unfold Stil.arity
  by_cases a : op = 1 ∨ op = 2 ∨ op = 21 ∨ op = 22 ∨ op = 23 ∨ op = 25
  · rw [if_pos a]; left; exact ⟨rfl, by omega⟩
  · rw [if_neg a]
    by_cases b : 31 ≤ op ∧ op ≤ 35
    · rw [if_pos b]; right; right; exact ⟨rfl, b⟩
    · rw [if_neg b, if_pos (by omega)]; right; left; exact ⟨rfl, by omega⟩
theorem DevsAt.cons {w : World} {v : Value} {d : Stil.Dev} {r : List Stil.Dev} (h : DevsAt w v (d :: r)) : ∃ b o cap, v = .slice (some ⟨b, o, none⟩) (r.length + 1) cap ∧ b < w.heap.size ∧ ∀ i (hi : i < (d :: r).length), DevAt w b (o + i * 3) (d :: r)[i] := by
  obtain ⟨a, cap, hv, hc⟩ := h
  obtain ⟨b, o, rfl, hlt, _⟩ := hc 0 (by simp)
  refine ⟨b, o, cap, hv, hlt, fun i hi => ?_⟩
  obtain ⟨b', o', e1, _, hd'⟩ := hc i hi
  simp only [Option.some.injEq, Addr.mk.injEq, and_true] at e1
  obtain ⟨rfl, rfl⟩ := e1
  exact hd'
theorem s_isCoil (op : Int) (v : Value) (ds : List Stil.Dev) (w : World) (hat : DevsAt w v ds) (hfit : ∀ d ∈ ds, d.fits) (hl : ds.length ≤ 9223372036854775807) :
    Calls Tryd.prog 8 #[.agg #[.int .i64 op, v]] w fun e w' => e = .returned (.bool (Stil.isCoil op ds)) ∧ Below w.heap.size w w' := by
  by_cases h : op < 21 ∨ 37 < op ∨ (ds.length : Int) ≠ Stil.arity op
  · have e : Stil.isCoil op ds = false := by unfold Stil.isCoil; rw [if_pos h]
    obtain ⟨a, cap, rfl, _⟩ := hat
    rw [e]
    exact s_isCoil_no op a ds.length cap w h hl
  · have h1 : 21 ≤ op := by omega
    have h2 : op ≤ 37 := by omega
    have h3 : (ds.length : Int) = Stil.arity op := by omega
    rcases arity_cases h1 h2 with ⟨ha, ho⟩ | ⟨ha, ho⟩ | ⟨ha, ho⟩
    · match ds, hat, hfit, h, h3 with
      | [], _, _, _, h3 => rw [ha] at h3; simp at h3
      | [d], hat, hfit, h, h3 =>
        obtain ⟨b, o, cap, rfl, hlt, hd⟩ := hat.one
        have k1 := (hfit d (by simp)).2.1
        exact s_isCoil_one op b o cap d w h1 h2 ha hlt hd k1.1 k1.2
      | d :: f :: r, _, _, _, h3 => rw [ha] at h3; simp at h3; omega
    · match ds, hat, hfit, h, h3 with
      | [], _, _, _, h3 => rw [ha] at h3; simp at h3
      | [d], _, _, _, h3 => rw [ha] at h3; simp at h3
      | [d, f], hat, hfit, h, h3 =>
        by_cases h30 : op = 30
        · obtain ⟨b, o, cap, hv, hlt, hd⟩ := hat.cons
          have e : Stil.isCoil op [d, f] = Stil.calcB op [d, f] := by
            unfold Stil.isCoil; rw [if_neg h]; simp [h30]
          rw [e, hv]
          exact s_isCoil_calc op b o cap d [f] w (by omega) (by rw [ha]; rfl) hlt hd hfit
        · obtain ⟨b, o, cap, rfl, hlt, hd, hd2⟩ := hat.two
          have k1 := (hfit d (by simp)).2.1
          have k2 := (hfit f (by simp)).2.1
          rcases ho with rfl | rfl | rfl | rfl | rfl | rfl | rfl | rfl
          · have e : Stil.isCoil 24 [d, f] = (Stil.kindB d.kind d.n d.p 2 3 && Stil.kindB f.kind f.n f.p 5 5) := by unfold Stil.isCoil; rw [if_neg h]; rfl
            rw [e]; exact s_isCoil_pulse 24 b o cap d f w rfl hlt hd hd2 k1.1 k1.2 k2.1 k2.2
          · have e : Stil.isCoil 26 [d, f] = (Stil.kindB d.kind d.n d.p 7 7 && Stil.kindB f.kind f.n f.p 11 11 && decide (0 ≤ f.n)) := by unfold Stil.isCoil; rw [if_neg h]; rfl
            rw [e]; exact s_isCoil_timer 26 b o cap d f w (by omega) hlt hd hd2 k1.1 k1.2 k2.1 k2.2
          · have e : Stil.isCoil 27 [d, f] = (Stil.kindB d.kind d.n d.p 7 7 && Stil.kindB f.kind f.n f.p 11 11 && decide (0 ≤ f.n)) := by unfold Stil.isCoil; rw [if_neg h]; rfl
            rw [e]; exact s_isCoil_timer 27 b o cap d f w (by omega) hlt hd hd2 k1.1 k1.2 k2.1 k2.2
          · have e : Stil.isCoil 28 [d, f] = (Stil.kindB d.kind d.n d.p 7 7 && Stil.kindB f.kind f.n f.p 11 11 && decide (0 ≤ f.n)) := by unfold Stil.isCoil; rw [if_neg h]; rfl
            rw [e]; exact s_isCoil_timer 28 b o cap d f w (by omega) hlt hd hd2 k1.1 k1.2 k2.1 k2.2
          · have e : Stil.isCoil 29 [d, f] = (Stil.kindB d.kind d.n d.p 8 8 && Stil.kindB f.kind f.n f.p 11 11 && decide (0 ≤ f.n)) := by unfold Stil.isCoil; rw [if_neg h]; rfl
            rw [e]; exact s_isCoil_count 29 b o cap d f w rfl hlt hd hd2 k1.1 k1.2 k2.1 k2.2
          · exact absurd rfl h30
          · have e : Stil.isCoil 36 [d, f] = (Stil.kindB d.kind d.n d.p 10 10 && Stil.devIsWholeB f.kind f.n f.p) := by unfold Stil.isCoil; rw [if_neg h]; rfl
            rw [e]; exact s_isCoil_real 36 b o cap d f w rfl hlt hd hd2 k1.1 k1.2 k2.1 k2.2
          · have e : Stil.isCoil 37 [d, f] = (Stil.kindB d.kind d.n d.p 9 9 && Stil.devIsRealB f.kind f.n f.p) := by unfold Stil.isCoil; rw [if_neg h]; rfl
            rw [e]; exact s_isCoil_whole 37 b o cap d f w rfl hlt hd hd2 k1.1 k1.2 k2.1 k2.2
      | d :: f :: g :: r, _, _, _, h3 => rw [ha] at h3; simp at h3; omega
    · match ds, hat, hfit, h, h3 with
      | [], _, _, _, h3 => rw [ha] at h3; simp at h3
      | [d], _, _, _, h3 => rw [ha] at h3; simp at h3
      | [d, f], _, _, _, h3 => rw [ha] at h3; simp at h3
      | d :: f :: g :: r, hat, hfit, h, h3 =>
        obtain ⟨b, o, cap, hv, hlt, hd⟩ := hat.cons
        have e : Stil.isCoil op (d :: f :: g :: r) = Stil.calcB op (d :: f :: g :: r) := by
          unfold Stil.isCoil; rw [if_neg h]
        rw [e, hv]
        exact s_isCoil_calc op b o cap d (f :: g :: r) w (by omega) (by rw [← h3]; simp) hlt hd hfit
end Go.Proofs.YtnnhbjgegkikoaaDoor
