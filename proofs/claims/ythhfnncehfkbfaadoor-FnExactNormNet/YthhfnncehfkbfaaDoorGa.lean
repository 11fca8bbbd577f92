/- T7: texts put together. -/
import Derived.Test.YthhfnncehfkbfaaDoorGT
import Derived.Test.YthhfnncehfkbfaaDoorGZ
/- How lists of instructions lie in memory. -/
namespace Go.Proofs.YthhfnncehfkbfaaDoor
open Go.RowKit Go.Sort Go.BigFrame
/-- The instruction i lies at this place. -/
def InstAt (w : World) (b o : Nat) (i : Stil.Inst) : Prop := w.cell? ⟨b, o, none⟩ = some (.int .i64 i.code) ∧ w.cell? ⟨b, o + 1, none⟩ = some (.int .i64 i.one.op) ∧ ∃ av, w.cell? ⟨b, o + 2, none⟩ = some av ∧ DevsAt w av i.one.args
/-- The value v is a slice of just these instructions. -/
def InstsAt (w : World) (v : Value) (l : List Stil.Inst) : Prop := ∃ a cap, v = .slice a l.length cap ∧ ∀ i (h : i < l.length), ∃ b o, a = some ⟨b, o, none⟩ ∧ b < w.heap.size ∧ InstAt w b (o + i * 3) l[i]
theorem InstAt.below {w w' : World} {b o : Nat} {i : Stil.Inst} (h : InstAt w b o i) (hb : Below w.heap.size w w') (hlt : b < w.heap.size) : InstAt w' b o i := by
  obtain ⟨h1, h2, av, h3, h4⟩ := h
  exact ⟨by rw [hb.cell (p := ⟨b, o, none⟩) hlt]; exact h1, by rw [hb.cell (p := ⟨b, o + 1, none⟩) hlt]; exact h2, av, by rw [hb.cell (p := ⟨b, o + 2, none⟩) hlt]; exact h3, h4.below hb⟩
theorem InstsAt.below {w w' : World} {v : Value} {l : List Stil.Inst} (h : InstsAt w v l) (hb : Below w.heap.size w w') : InstsAt w' v l := by
  obtain ⟨a, cap, hv, hc⟩ := h
  refine ⟨a, cap, hv, fun i hi => ?_⟩
  obtain ⟨b, o, ha, hlt, hn⟩ := hc i hi
  exact ⟨b, o, ha, Nat.lt_of_lt_of_le hlt hb.size, hn.below hb hlt⟩
/-- The instruction lies at this place, and whatever it holds at or beyond lo. -/
def InstFrom (lo : Nat) (w : World) (b o : Nat) (i : Stil.Inst) : Prop := w.cell? ⟨b, o, none⟩ = some (.int .i64 i.code) ∧ w.cell? ⟨b, o + 1, none⟩ = some (.int .i64 i.one.op) ∧ ∃ av, w.cell? ⟨b, o + 2, none⟩ = some av ∧ DevsFrom lo w av i.one.args
def InstsFrom (lo : Nat) (w : World) (v : Value) (l : List Stil.Inst) : Prop := ∃ a cap, v = .slice a l.length cap ∧ ∀ i (h : i < l.length), ∃ b o, a = some ⟨b, o, none⟩ ∧ lo ≤ b ∧ b < w.heap.size ∧ InstFrom lo w b (o + i * 3) l[i]
theorem InstFrom.keep {lo : Nat} {w w' : World} {b o : Nat} {i : Stil.Inst} (h : InstFrom lo w b o i) (hk : KeepsUp lo w w') (hl : lo ≤ b) (hb : b < w.heap.size) : InstFrom lo w' b o i := by
  obtain ⟨h1, h2, av, h3, h4⟩ := h
  exact ⟨by rw [hk.2 _ _ hl hb]; exact h1, by rw [hk.2 _ _ hl hb]; exact h2, av, by rw [hk.2 _ _ hl hb]; exact h3, h4.keep hk⟩
theorem InstsFrom.keep {lo : Nat} {w w' : World} {v : Value} {l : List Stil.Inst} (h : InstsFrom lo w v l) (hk : KeepsUp lo w w') : InstsFrom lo w' v l := by
  obtain ⟨a, cap, hv, hc⟩ := h
  refine ⟨a, cap, hv, fun i hi => ?_⟩
  obtain ⟨b, o, ha, hl, hb, hd⟩ := hc i hi
  exact ⟨b, o, ha, hl, Nat.lt_of_lt_of_le hb hk.1, hd.keep hk hl hb⟩
theorem InstsFrom.mono {lo hi : Nat} {w : World} {v : Value} {l : List Stil.Inst} (h : InstsFrom hi w v l) (hl : lo ≤ hi) : InstsFrom lo w v l := by
  obtain ⟨a, cap, hv, hc⟩ := h
  refine ⟨a, cap, hv, fun i hi => ?_⟩
  obtain ⟨b, o, ha, hl', hb, h1, h2, av, h3, h4⟩ := hc i hi
  exact ⟨b, o, ha, Nat.le_trans hl hl', hb, h1, h2, av, h3, h4.mono hl⟩
theorem InstsFrom.at {lo : Nat} {w : World} {v : Value} {l : List Stil.Inst} (h : InstsFrom lo w v l) : InstsAt w v l := by
  obtain ⟨a, cap, hv, hc⟩ := h
  refine ⟨a, cap, hv, fun i hi => ?_⟩
  obtain ⟨b, o, ha, hl', hb, h1, h2, av, h3, h4⟩ := hc i hi
  exact ⟨b, o, ha, hb, h1, h2, av, h3, h4.at⟩
theorem InstFrom.set {lo : Nat} {w : World} {b o q : Nat} {i : Stil.Inst} (h : InstFrom lo w b o i) (hb : b < lo) (hq : q < o ∨ o + 3 ≤ q) (v : Value) : InstFrom lo (w.setCell ⟨b, q, none⟩ v) b o i := by
  obtain ⟨h1, h2, av, h3, h4⟩ := h
  exact ⟨(cellSetOff (by omega)).trans h1, (cellSetOff (by omega)).trans h2, av, (cellSetOff (by omega)).trans h3, h4.keep ((KeepsUp.refl _ _).set hb _)⟩
theorem inst_stored {lo : Nat} {w : World} {b o : Nat} {i : Stil.Inst} {av u0 u1 u2 : Value} (hb : b < lo) (q0 : w.cell? ⟨b, o, none⟩ = some u0) (q1 : w.cell? ⟨b, o + 1, none⟩ = some u1) (q2 : w.cell? ⟨b, o + 2, none⟩ = some u2) (hd : DevsFrom lo w av i.one.args) :
    InstFrom lo (((w.setCell ⟨b, o, none⟩ (.int .i64 i.code)).setCell ⟨b, o + 1, none⟩ (.int .i64 i.one.op)).setCell ⟨b, o + 2, none⟩ av) b o i := by
  refine ⟨(cellSetOff (by omega)).trans ((cellSetOff (by omega)).trans (cellSetAt q0)), (cellSetOff (by omega)).trans (cellSetAt ((cellSetOff (by omega)).trans q1)), av, cellSetAt ((cellSetOff (by omega)).trans ((cellSetOff (by omega)).trans q2)), hd.keep ((((KeepsUp.refl _ _).set hb _).set hb _).set hb _)⟩
theorem InstFrom.keepTop {lo : Nat} {w w' : World} {b o : Nat} {n : Stil.Inst} (h : InstFrom lo w b o n) (hk : KeepsUp lo w w') (ht : ∀ q, w'.cell? ⟨b, q, none⟩ = w.cell? ⟨b, q, none⟩) : InstFrom lo w' b o n := by
  obtain ⟨h1, h2, av, h3, h4⟩ := h
  exact ⟨(ht _).trans h1, (ht _).trans h2, av, (ht _).trans h3, h4.keep hk⟩
theorem InstFrom.upTo {lo : Nat} {w : World} {b o : Nat} {n : Stil.Inst} (h : InstFrom (lo + 1) w b o n) : InstFrom lo w b o n := by
  obtain ⟨h1, h2, av, h3, h4⟩ := h
  exact ⟨h1, h2, av, h3, h4.mono (by omega)⟩
end Go.Proofs.YthhfnncehfkbfaaDoor
