/- T7, T7b: texts put together. -/
import Derived.Test.YtbfkfdbkjbgneaaGreatDoorGT
import Derived.Test.YtbfkfdbkjbgneaaGreatDoorGZ
/- How lists of instructions lie in memory. -/
namespace Go.Proofs.YtbfkfdbkjbgneaaGreatDoor
open Go.RowKit Go.Sort Go.BigFrame
/-- The instruction i lies at this place. -/
def InstAt (w : World) (b o : Nat) (i : Stil.Inst) : Prop := w.cell? ⟨b, o, none⟩ = some (.int .i64 i.code) ∧ w.cell? ⟨b, o + 1, none⟩ = some (.int .i64 i.one.op) ∧ ∃ av, w.cell? ⟨b, o + 2, none⟩ = some av ∧ DevsAt w av i.one.args
/-- The value v is a slice of just these instructions. -/
def InstsAt (w : World) (v : Value) (l : List Stil.Inst) : Prop := ∃ a cap, v = .slice a l.length cap ∧ ∀ i (h : i < l.length), ∃ b o, a = some ⟨b, o, none⟩ ∧ b < w.heap.size ∧ InstAt w b (o + i * 3) l[i]
theorem InstAt.below {w w' : World} {b o : Nat} {i : Stil.Inst} (h : InstAt w b o i) (hb : Below w.heap.size w w') (hlt : b < w.heap.size) : InstAt w' b o i := by
  obtain ⟨h1, h2, av, h3, h4⟩ := h
  exact ⟨by rw [hb.cell (p := ⟨b, o, none⟩) hlt]; exact h1, by rw [hb.cell (p := ⟨b, o + 1, none⟩) hlt]; exact h2, av, by rw [hb.cell (p := ⟨b, o + 2, none⟩) hlt]; exact h3, h4.below hb⟩
theorem InstsAt.below {w w' : World} {v : Value} {l : List Stil.Inst} (h : InstsAt w v l) (hb : Below w.heap.size w w') : InstsAt w' v l := by
  obtain ⟨a, cap, hv, hc⟩ := h
  refine ⟨a, cap, hv, fun i hi => ?_⟩
  obtain ⟨b, o, ha, hlt, hn⟩ := hc i hi
  exact ⟨b, o, ha, Nat.lt_of_lt_of_le hlt hb.size, hn.below hb hlt⟩
/-- The instruction lies at this place, and whatever it holds at or beyond lo. -/
def InstFrom (lo : Nat) (w : World) (b o : Nat) (i : Stil.Inst) : Prop := w.cell? ⟨b, o, none⟩ = some (.int .i64 i.code) ∧ w.cell? ⟨b, o + 1, none⟩ = some (.int .i64 i.one.op) ∧ ∃ av, w.cell? ⟨b, o + 2, none⟩ = some av ∧ DevsFrom lo w av i.one.args
def InstsFrom (lo : Nat) (w : World) (v : Value) (l : List Stil.Inst) : Prop := ∃ a cap, v = .slice a l.length cap ∧ ∀ i (h : i < l.length), ∃ b o, a = some ⟨b, o, none⟩ ∧ lo ≤ b ∧ b < w.heap.size ∧ InstFrom lo w b (o + i * 3) l[i]
theorem InstFrom.keep {lo : Nat} {w w' : World} {b o : Nat} {i : Stil.Inst} (h : InstFrom lo w b o i) (hk : KeepsUp lo w w') (hl : lo ≤ b) (hb : b < w.heap.size) : InstFrom lo w' b o i := by
  obtain ⟨h1, h2, av, h3, h4⟩ := h
  exact ⟨by rw [hk.2 _ _ hl hb]; exact h1, by rw [hk.2 _ _ hl hb]; exact h2, av, by rw [hk.2 _ _ hl hb]; exact h3, h4.keep hk⟩
theorem InstsFrom.keep {lo : Nat} {w w' : World} {v : Value} {l : List Stil.Inst} (h : InstsFrom lo w v l) (hk : KeepsUp lo w w') : InstsFrom lo w' v l := by
  obtain ⟨a, cap, hv, hc⟩ := h
  refine ⟨a, cap, hv, fun i hi => ?_⟩
  obtain ⟨b, o, ha, hl, hb, hd⟩ := hc i hi
  exact ⟨b, o, ha, hl, Nat.lt_of_lt_of_le hb hk.1, hd.keep hk hl hb⟩
theorem InstsFrom.mono {lo hi : Nat} {w : World} {v : Value} {l : List Stil.Inst} (h : InstsFrom hi w v l) (hl : lo ≤ hi) : InstsFrom lo w v l := by
  obtain ⟨a, cap, hv, hc⟩ := h
  refine ⟨a, cap, hv, fun i hi => ?_⟩
  obtain ⟨b, o, ha, hl', hb, h1, h2, av, h3, h4⟩ := hc i hi
  exact ⟨b, o, ha, Nat.le_trans hl hl', hb, h1, h2, av, h3, h4.mono hl⟩
theorem InstsFrom.at {lo : Nat} {w : World} {v : Value} {l : List Stil.Inst} (h : InstsFrom lo w v l) : InstsAt w v l := by
  obtain ⟨a, cap, hv, hc⟩ := h
  refine ⟨a, cap, hv, fun i hi => ?_⟩
  obtain ⟨b, o, ha, hl', hb, h1, h2, av, h3, h4⟩ := hc i hi
  exact ⟨b, o, ha, hb, h1, h2, av, h3, h4.at⟩
theorem InstFrom.set {lo : Nat} {w : World} {b o q : Nat} {i : Stil.Inst} (h : InstFrom lo w b o i) (hb : b < lo) (hq : q < o ∨ o + 3 ≤ q) (v : Value) : InstFrom lo (w.setCell ⟨b, q, none⟩ v) b o i := by
  obtain ⟨h1, h2, av, h3, h4⟩ := h
  exact ⟨(cellSetOff (by omega)).trans h1, (cellSetOff (by omega)).trans h2, av, (cellSetOff (by omega)).trans h3, h4.keep ((KeepsUp.refl _ _).set hb _)⟩
theorem inst_stored {lo : Nat} {w : World} {b o : Nat} {i : Stil.Inst} {av u0 u1 u2 : Value} (hb : b < lo) (q0 : w.cell? ⟨b, o, none⟩ = some u0) (q1 : w.cell? ⟨b, o + 1, none⟩ = some u1) (q2 : w.cell? ⟨b, o + 2, none⟩ = some u2) (hd : DevsFrom lo w av i.one.args) :
    InstFrom lo (((w.setCell ⟨b, o, none⟩ (.int .i64 i.code)).setCell ⟨b, o + 1, none⟩ (.int .i64 i.one.op)).setCell ⟨b, o + 2, none⟩ av) b o i := by
  refine ⟨(cellSetOff (by omega)).trans ((cellSetOff (by omega)).trans (cellSetAt q0)), (cellSetOff (by omega)).trans (cellSetAt ((cellSetOff (by omega)).trans q1)), av, cellSetAt ((cellSetOff (by omega)).trans ((cellSetOff (by omega)).trans q2)), hd.keep ((((KeepsUp.refl _ _).set hb _).set hb _).set hb _)⟩
theorem InstFrom.keepTop {lo : Nat} {w w' : World} {b o : Nat} {n : Stil.Inst} (h : InstFrom lo w b o n) (hk : KeepsUp lo w w') (ht : ∀ q, w'.cell? ⟨b, q, none⟩ = w.cell? ⟨b, q, none⟩) : InstFrom lo w' b o n := by
  obtain ⟨h1, h2, av, h3, h4⟩ := h
  exact ⟨(ht _).trans h1, (ht _).trans h2, av, (ht _).trans h3, h4.keep hk⟩
theorem InstFrom.upTo {lo : Nat} {w : World} {b o : Nat} {n : Stil.Inst} (h : InstFrom (lo + 1) w b o n) : InstFrom lo w b o n := by
  obtain ⟨h1, h2, av, h3, h4⟩ := h
  exact ⟨h1, h2, av, h3, h4.mono (by omega)⟩
end Go.Proofs.YtbfkfdbkjbgneaaGreatDoor
/- The verifier's points in memory. -/
namespace Go.Proofs.YtbfkfdbkjbgneaaGreatDoor
open Go.RowKit Go.Sort Go.BigFrame
/-- The point s lies in this block. -/
def PtAt (w : World) (b : Nat) (s : Stil.Pt) : Prop := b < w.heap.size ∧ w.cell? ⟨b, 0, none⟩ = some (.int .i64 s.bits) ∧ w.cell? ⟨b, 1, none⟩ = some (.int .i64 s.forks) ∧ w.cell? ⟨b, 2, none⟩ = some (.bool s.seen) ∧ w.cell? ⟨b, 3, none⟩ = some (.bool s.coil) ∧
  w.frozen? ⟨b, 0, none⟩ = false ∧ w.frozen? ⟨b, 1, none⟩ = false ∧ w.frozen? ⟨b, 2, none⟩ = false ∧ w.frozen? ⟨b, 3, none⟩ = false
theorem PtAt.below {w w' : World} {b : Nat} {s : Stil.Pt} (h : PtAt w b s) (hb : Below w.heap.size w w') : PtAt w' b s := by
  obtain ⟨h0, h1, h2, h3, h4, h5, h6, h7, h8⟩ := h
  exact ⟨Nat.lt_of_lt_of_le h0 hb.size, (hb.cell (p := ⟨b, 0, none⟩) h0).trans h1, (hb.cell (p := ⟨b, 1, none⟩) h0).trans h2, (hb.cell (p := ⟨b, 2, none⟩) h0).trans h3, (hb.cell (p := ⟨b, 3, none⟩) h0).trans h4,
    (hb.frozen (p := ⟨b, 0, none⟩) h0).trans h5, (hb.frozen (p := ⟨b, 1, none⟩) h0).trans h6, (hb.frozen (p := ⟨b, 2, none⟩) h0).trans h7, (hb.frozen (p := ⟨b, 3, none⟩) h0).trans h8⟩
theorem frozenSet {W : World} {p q : Addr} {v : Value} : (W.setCell p v).frozen? q = W.frozen? q := by simp [go_sem]
theorem PtAt.stored {w : World} {b : Nat} {s : Stil.Pt} (h : PtAt w b s) (t : Stil.Pt) : PtAt ((((w.setCell ⟨b, 0, none⟩ (.int .i64 t.bits)).setCell ⟨b, 1, none⟩ (.int .i64 t.forks)).setCell ⟨b, 2, none⟩ (.bool t.seen)).setCell ⟨b, 3, none⟩ (.bool t.coil)) b t := by
  obtain ⟨h0, h1, h2, h3, h4, h5, h6, h7, h8⟩ := h
  refine ⟨?_, ?_, ?_, ?_, ?_, ?_, ?_, ?_, ?_⟩
  · exact Nat.lt_of_lt_of_le h0 (Nat.le_trans (sizeSet _ _ _) (Nat.le_trans (sizeSet _ _ _) (Nat.le_trans (sizeSet _ _ _) (sizeSet _ _ _))))
  · exact (cellSetOff (by omega)).trans ((cellSetOff (by omega)).trans ((cellSetOff (by omega)).trans (cellSetAt h1)))
  · exact (cellSetOff (by omega)).trans ((cellSetOff (by omega)).trans (cellSetAt ((cellSetOff (by omega)).trans h2)))
  · exact (cellSetOff (by omega)).trans (cellSetAt ((cellSetOff (by omega)).trans ((cellSetOff (by omega)).trans h3)))
  · exact cellSetAt ((cellSetOff (by omega)).trans ((cellSetOff (by omega)).trans ((cellSetOff (by omega)).trans h4)))
  all_goals exact frozenSet.trans (frozenSet.trans (frozenSet.trans (frozenSet.trans (by assumption))))
end Go.Proofs.YtbfkfdbkjbgneaaGreatDoor
