/- S2, B0, S2b, S2c, S2d, S2e, S2f: texts put together. -/
import Derived.Test.YtpeojflemfppgaaGA
import Derived.Test.YtpeojflemfppgaaGM
/- Contracts of the specification's chapter 2, first part. -/
namespace Go.Proofs.Ytpeojflemfppgaa
open Go.RowKit Go.Sort Go.BigFrame
theorem s_elemName_cell (W : World) (op : Int) (h1 : 21 ≤ op) (h2 : op ≤ 37) : (W.alloc (Obj.cells #[.string ⟨#[111, 117, 116]⟩, .string ⟨#[115, 101, 116]⟩, .string ⟨#[114, 101, 115, 101, 116]⟩, .string ⟨#[112, 117, 108, 115, 101]⟩, .string ⟨#[115, 116, 101, 112]⟩, .string ⟨#[116, 105, 109, 101, 114]⟩, .string ⟨#[104, 111, 108, 100]⟩, .string ⟨#[108, 97, 116, 101]⟩, .string ⟨#[99, 111, 117, 110, 116]⟩, .string ⟨#[109, 111, 118, 101]⟩, .string ⟨#[97, 100, 100]⟩, .string ⟨#[115, 117, 98]⟩, .string ⟨#[109, 117, 108]⟩, .string ⟨#[100, 105, 118]⟩, .string ⟨#[114, 101, 109]⟩, .string ⟨#[114, 101, 97, 108]⟩, .string ⟨#[119, 104, 111, 108, 101]⟩] 9)).cell? ⟨W.heap.size, (op - 21).toNat, none⟩ = some (.string ⟨(Stil.names.getD (op - 21).toNat []).toArray⟩) := by
  have hn : op = 21 ∨ op = 22 ∨ op = 23 ∨ op = 24 ∨ op = 25 ∨ op = 26 ∨ op = 27 ∨ op = 28 ∨ op = 29 ∨ op = 30 ∨ op = 31 ∨ op = 32 ∨ op = 33 ∨ op = 34 ∨ op = 35 ∨ op = 36 ∨ op = 37 := by omega
  rcases hn with rfl | rfl | rfl | rfl | rfl | rfl | rfl | rfl | rfl | rfl | rfl | rfl | rfl | rfl | rfl | rfl | rfl <;> simp [go_sem, Stil.names]
theorem s_sign_cell (W : World) (op : Int) (h1 : 5 ≤ op) (h2 : op ≤ 10) : (W.alloc (Obj.cells #[.string ⟨#[60]⟩, .string ⟨#[60, 61]⟩, .string ⟨#[61]⟩, .string ⟨#[60, 62]⟩, .string ⟨#[62, 61]⟩, .string ⟨#[62]⟩] 9)).cell? ⟨W.heap.size, (op - 5).toNat, none⟩ = some (.string ⟨(Stil.signs.getD (op - 5).toNat []).toArray⟩) := by
  have hn : op = 5 ∨ op = 6 ∨ op = 7 ∨ op = 8 ∨ op = 9 ∨ op = 10 := by omega
  rcases hn with rfl | rfl | rfl | rfl | rfl | rfl <;> simp [go_sem, Stil.signs]
end Go.Proofs.Ytpeojflemfppgaa
/- Small laws on 'Below'. -/
namespace Go.Proofs.Ytpeojflemfppgaa
open Go.RowKit Go.Sort Go.BigFrame
theorem bl_alloc {w a : World} (h : Below w.heap.size w a) (o : Obj) : Below w.heap.size w (a.alloc o) := h.alloc h.size o
theorem bl_drewN {w a : World} (h : Below w.heap.size w a) (n : Nat) : Below w.heap.size w (a.drewN n) := below_drewN h n
theorem bl_drew {w a : World} (h : Below w.heap.size w a) : Below w.heap.size w a.drew := h.drew
theorem bl_call {w a b : World} (h : Below w.heap.size w a) (k : Below a.heap.size a b) : Below w.heap.size w b := h.trans (k.mono h.size)
theorem bl_set {w a : World} {p : Addr} (hp : w.heap.size ≤ p.block) (h : Below w.heap.size w a) (v : Value) : Below w.heap.size w (a.setCell p v) := h.setCell hp v
theorem bl_grow {w a : World} (h : Below w.heap.size w a) (d : Nat) (os : Array Obj) : Below w.heap.size w (grow (redrawn a d) os) := bl_call h (below_regrown a d os)
theorem lt_below {w a : World} {b : Nat} (h : b < w.heap.size) (k : Below w.heap.size w a) : b < a.heap.size := Nat.lt_of_lt_of_le h k.size
end Go.Proofs.Ytpeojflemfppgaa
/- Contracts of the specification's chapter 2, second part: ElemIsContact. -/
namespace Go.Proofs.Ytpeojflemfppgaa
open Go.RowKit Go.Sort Go.BigFrame
theorem size_succ {w w1 : World} {o : Obj} {n : Nat} (hb : Below ((w.alloc o).drewN n).heap.size ((w.alloc o).drewN n) w1) : w.heap.size < w1.heap.size := by have := hb.size; simp at this; omega
/-- The operand d lies at this place. -/
def DevAt (w : World) (b o : Nat) (d : Stil.Dev) : Prop := w.cell? ⟨b, o, none⟩ = some (.int .i64 d.kind) ∧ w.cell? ⟨b, o + 1, none⟩ = some (.int .i64 d.n) ∧ w.cell? ⟨b, o + 2, none⟩ = some (.int .i64 d.p)
/-- The value v is a slice of just these operands. -/
def DevsAt (w : World) (v : Value) (ds : List Stil.Dev) : Prop := ∃ a cap, v = .slice a ds.length cap ∧ ∀ i (h : i < ds.length), ∃ b o, a = some ⟨b, o, none⟩ ∧ b < w.heap.size ∧ DevAt w b (o + i * 3) ds[i]
theorem DevAt.below {w w' : World} {b o : Nat} {d : Stil.Dev} (h : DevAt w b o d) (hb : Below w.heap.size w w') (hlt : b < w.heap.size) : DevAt w' b o d := by
  unfold DevAt at *
  rw [hb.cell (p := ⟨b, o, none⟩) hlt, hb.cell (p := ⟨b, o + 1, none⟩) hlt, hb.cell (p := ⟨b, o + 2, none⟩) hlt]
  exact h
theorem DevsAt.below {w w' : World} {v : Value} {ds : List Stil.Dev} (h : DevsAt w v ds) (hb : Below w.heap.size w w') : DevsAt w' v ds := by
  obtain ⟨a, cap, hv, hc⟩ := h
  refine ⟨a, cap, hv, fun i hi => ?_⟩
  obtain ⟨b, o, ha, hlt, hd⟩ := hc i hi
  exact ⟨b, o, ha, Nat.lt_of_lt_of_le hlt hb.size, hd.below hb hlt⟩
theorem DevsAt.one {w : World} {v : Value} {d : Stil.Dev} (h : DevsAt w v [d]) : ∃ b o cap, v = .slice (some ⟨b, o, none⟩) 1 cap ∧ b < w.heap.size ∧ DevAt w b o d := by
  obtain ⟨a, cap, hv, hc⟩ := h
  obtain ⟨b, o, rfl, hlt, hd⟩ := hc 0 (by simp)
  exact ⟨b, o, cap, hv, hlt, hd⟩
theorem DevsAt.two {w : World} {v : Value} {d e : Stil.Dev} (h : DevsAt w v [d, e]) : ∃ b o cap, v = .slice (some ⟨b, o, none⟩) 2 cap ∧ b < w.heap.size ∧ DevAt w b o d ∧ DevAt w b (o + 3) e := by
  obtain ⟨a, cap, hv, hc⟩ := h
  obtain ⟨b, o, rfl, hlt, hd⟩ := hc 0 (by simp)
  obtain ⟨b', o', e1, _, hd'⟩ := hc 1 (by simp)
  simp only [Option.some.injEq, Addr.mk.injEq, and_true] at e1
  obtain ⟨rfl, rfl⟩ := e1
  exact ⟨b, o, cap, hv, hlt, hd, hd'⟩
theorem DevsAt.three {w : World} {v : Value} {d e f : Stil.Dev} (h : DevsAt w v [d, e, f]) : ∃ b o cap, v = .slice (some ⟨b, o, none⟩) 3 cap ∧ b < w.heap.size ∧ DevAt w b o d ∧ DevAt w b (o + 3) e ∧ DevAt w b (o + 6) f := by
  obtain ⟨a, cap, hv, hc⟩ := h
  obtain ⟨b, o, rfl, hlt, hd⟩ := hc 0 (by simp)
  obtain ⟨b', o', e1, _, hd'⟩ := hc 1 (by simp)
  simp only [Option.some.injEq, Addr.mk.injEq, and_true] at e1
  obtain ⟨rfl, rfl⟩ := e1
  obtain ⟨b', o', e1, _, hd''⟩ := hc 2 (by simp)
  simp only [Option.some.injEq, Addr.mk.injEq, and_true] at e1
  obtain ⟨rfl, rfl⟩ := e1
  exact ⟨b, o, cap, hv, hlt, hd, hd', hd''⟩
end Go.Proofs.Ytpeojflemfppgaa
/- Contracts of the specification's chapter 2, third part: ElemIsContact whole, l2Calc. -/
namespace Go.Proofs.Ytpeojflemfppgaa
open Go.RowKit Go.Sort Go.BigFrame
end Go.Proofs.Ytpeojflemfppgaa
/- Contracts of the specification's chapter 2, fourth part: ElemIsCoil. -/
namespace Go.Proofs.Ytpeojflemfppgaa
open Go.RowKit Go.Sort Go.BigFrame
end Go.Proofs.Ytpeojflemfppgaa
/- Contracts of the specification's chapter 2, fifth part: ElemIsCoil of two operands and more. -/
namespace Go.Proofs.Ytpeojflemfppgaa
open Go.RowKit Go.Sort Go.BigFrame
end Go.Proofs.Ytpeojflemfppgaa
/- Contracts of the specification's chapter 2, sixth part: ElemIsCoil whole. -/
namespace Go.Proofs.Ytpeojflemfppgaa
open Go.RowKit Go.Sort Go.BigFrame
theorem arity_cases {op : Int} (h1 : 21 ≤ op) (h2 : op ≤ 37) : (Stil.arity op = 1 ∧ (op = 21 ∨ op = 22 ∨ op = 23 ∨ op = 25)) ∨ (Stil.arity op = 2 ∧ (op = 24 ∨ op = 26 ∨ op = 27 ∨ op = 28 ∨ op = 29 ∨ op = 30 ∨ op = 36 ∨ op = 37)) ∨ (Stil.arity op = 3 ∧ 31 ≤ op ∧ op ≤ 35) := by
  unfold Stil.arity
  by_cases a : op = 1 ∨ op = 2 ∨ op = 21 ∨ op = 22 ∨ op = 23 ∨ op = 25
  · rw [if_pos a]; left; exact ⟨rfl, by omega⟩
  · rw [if_neg a]
    by_cases b : 31 ≤ op ∧ op ≤ 35
    · rw [if_pos b]; right; right; exact ⟨rfl, b⟩
    · rw [if_neg b, if_pos (by omega)]; right; left; exact ⟨rfl, by omega⟩
theorem DevsAt.cons {w : World} {v : Value} {d : Stil.Dev} {r : List Stil.Dev} (h : DevsAt w v (d :: r)) : ∃ b o cap, v = .slice (some ⟨b, o, none⟩) (r.length + 1) cap ∧ b < w.heap.size ∧ ∀ i (hi : i < (d :: r).length), DevAt w b (o + i * 3) (d :: r)[i] := by
  obtain ⟨a, cap, hv, hc⟩ := h
  obtain ⟨b, o, rfl, hlt, _⟩ := hc 0 (by simp)
  refine ⟨b, o, cap, hv, hlt, fun i hi => ?_⟩
  obtain ⟨b', o', e1, _, hd'⟩ := hc i hi
  simp only [Option.some.injEq, Addr.mk.injEq, and_true] at e1
  obtain ⟨rfl, rfl⟩ := e1
  exact hd'
end Go.Proofs.Ytpeojflemfppgaa
