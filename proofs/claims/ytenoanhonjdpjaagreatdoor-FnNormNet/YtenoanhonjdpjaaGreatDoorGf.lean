/- P1, P2, P3, P4, P5, P6: texts put together. -/
import Derived.Test.YtenoanhonjdpjaaGreatDoorGT
import Derived.Test.YtenoanhonjdpjaaGreatDoorGb
import Derived.Test.YtenoanhonjdpjaaGreatDoorGg
/- Marks: the whole numbers that a mark goes through, in their order, as places in memory; nothing is said of what they held. -/
namespace Go.Proofs.YtenoanhonjdpjaaGreatDoor
open Go.RowKit Go.Sort Go.BigFrame
/-- A place: block and offset. -/
abbrev Pl := Nat × Nat
def ad (p : Pl) : Addr := ⟨p.1, p.2, none⟩
/-- Whole numbers lie at these places and may be written. -/
def NumsAt (w : World) (ps : List Pl) : Prop := ∀ p ∈ ps, p.1 < w.heap.size ∧ (∃ n, w.cell? (ad p) = some (.int .i64 n)) ∧ w.frozen? (ad p) = false
/-- Behind marks from k on at these places. -/
def Marked (w w' : World) (ps : List Pl) (k : Int) : Prop :=
  w.heap.size ≤ w'.heap.size ∧ (∀ p : Pl, p.1 < w.heap.size → p ∉ ps → w'.cell? (ad p) = w.cell? (ad p)) ∧ (∀ i (h : i < ps.length), w'.cell? (ad ps[i]) = some (.int .i64 (k + i))) ∧
  (∀ p : Pl, p.1 < w.heap.size → w'.frozen? (ad p) = w.frozen? (ad p)) ∧ ∀ base, base ≤ w.heap.size → (∀ p ∈ ps, base ≤ p.1) → Below base w w'
/-- The numbers from k on lie at these places. -/
def HeldAt (w : World) (ps : List Pl) (k : Int) : Prop := ∀ i (h : i < ps.length), w.cell? (ad ps[i]) = some (.int .i64 (k + i))
theorem Marked.held {w w' : World} {ps : List Pl} {k : Int} (h : Marked w w' ps k) : HeldAt w' ps k := h.2.2.1
theorem NumsAt.left {w : World} {ps qs : List Pl} (h : NumsAt w (ps ++ qs)) : NumsAt w ps := fun p hp => h p (List.mem_append_left _ hp)
theorem NumsAt.right {w : World} {ps qs : List Pl} (h : NumsAt w (ps ++ qs)) : NumsAt w qs := fun p hp => h p (List.mem_append_right _ hp)
theorem HeldAt.left {w : World} {ps qs : List Pl} {k : Int} (h : HeldAt w (ps ++ qs) k) : HeldAt w ps k := fun i hi => by
  have := h i (by simp; omega)
  rwa [List.getElem_append_left hi] at this
theorem HeldAt.right {w : World} {ps qs : List Pl} {k : Int} (h : HeldAt w (ps ++ qs) k) : HeldAt w qs (k + ps.length) := fun i hi => by
  have := h (ps.length + i) (by simp; omega)
  rw [List.getElem_append_right (by omega)] at this
  simp only [Nat.add_sub_cancel_left] at this
  rw [this]; congr 2; omega
theorem HeldAt.below {w w' : World} {ps : List Pl} {k : Int} (h : HeldAt w ps k) (hb : Below w.heap.size w w') (hl : ∀ p ∈ ps, p.1 < w.heap.size) : HeldAt w' ps k := fun i hi => by
  rw [hb.cell (p := ad ps[i]) (hl _ (List.getElem_mem hi))]; exact h i hi
theorem NumsAt.below {w w' : World} {ps : List Pl} (h : NumsAt w ps) (hb : Below w.heap.size w w') : NumsAt w' ps := fun p hp => by
  obtain ⟨h1, ⟨n, h2⟩, h3⟩ := h p hp
  exact ⟨Nat.lt_of_lt_of_le h1 hb.size, ⟨n, (hb.cell (p := ad p) h1).trans h2⟩, (hb.frozen (p := ad p) h1).trans h3⟩
/-- Marks elsewhere leave them. -/
theorem NumsAt.marked {w w' : World} {ps qs : List Pl} {k : Int} (h : NumsAt w qs) (hm : Marked w w' ps k) (hd : ∀ p ∈ qs, p ∉ ps) : NumsAt w' qs := fun p hp => by
  obtain ⟨h1, ⟨n, h2⟩, h3⟩ := h p hp
  exact ⟨Nat.lt_of_lt_of_le h1 hm.1, ⟨n, (hm.2.1 p h1 (hd p hp)).trans h2⟩, (hm.2.2.2.1 p h1).trans h3⟩
theorem Marked.of_below {w w' : World} {k : Int} (h : Below w.heap.size w w') : Marked w w' [] k :=
  ⟨h.size, fun p hp _ => h.cell (p := ad p) hp, fun i hi => absurd hi (by simp), fun p hp => h.frozen (p := ad p) hp, fun base hb _ => h.mono hb⟩
theorem Marked.append {w w1 w2 : World} {ps qs : List Pl} {k : Int} (h1 : Marked w w1 ps k) (h2 : Marked w1 w2 qs (k + ps.length)) (hl : ∀ p ∈ ps, p.1 < w.heap.size) (hd : ∀ p ∈ ps, p ∉ qs) : Marked w w2 (ps ++ qs) k := by
  obtain ⟨a1, a2, a3, a4, a5⟩ := h1
  obtain ⟨b1, b2, b3, b4, b5⟩ := h2
  refine ⟨Nat.le_trans a1 b1, fun p hp hn => ?_, fun i hi => ?_, fun p hp => ?_, fun base hb hq => ?_⟩
  · simp only [List.mem_append, not_or] at hn
    exact (b2 p (Nat.lt_of_lt_of_le hp a1) hn.2).trans (a2 p hp hn.1)
  · by_cases hlt : i < ps.length
    · rw [List.getElem_append_left hlt]
      have hm := List.getElem_mem hlt
      exact (b2 _ (Nat.lt_of_lt_of_le (hl _ hm) a1) (hd _ hm)).trans (a3 i hlt)
    · rw [List.getElem_append_right (by omega)]
      rw [b3 (i - ps.length) (by simp at hi; omega)]
      congr 2; omega
  · exact (b4 p (Nat.lt_of_lt_of_le hp a1)).trans (a4 p hp)
  · have e1 := a5 base hb (fun p hp => hq p (List.mem_append_left _ hp))
    exact e1.trans (b5 base (Nat.le_trans hb a1) (fun p hp => hq p (List.mem_append_right _ hp)))
theorem Marked.one {w : World} {b o : Nat} {u : Value} (k : Int) (hc : w.cell? ⟨b, o, none⟩ = some u) : Marked w (w.setCell ⟨b, o, none⟩ (.int .i64 k)) [(b, o)] k := by
  refine ⟨sizeSet _ _ _, fun p hp hn => ?_, fun i hi => ?_, fun p hp => by simp [ad, go_sem], fun base hb hq => (Below.refl base w).setCell (hq (b, o) (by simp)) _⟩
  · obtain ⟨c, q⟩ := p
    by_cases e : c = b
    · subst e
      exact cellSetOff (fun h => hn (by have e : q = o := h; simp [e]))
    · exact cellSetOther e
  · obtain rfl : i = 0 := by simp at hi; omega
    simpa [ad] using cellSetAt hc
/-- The places of a slice of operands. -/
def DevsSh (v : Value) (ps : List Pl) : Prop := ∃ a n cap, v = .slice a n cap ∧ ps.length = 3 * n ∧ ∀ j (h : j < ps.length), ∃ b o, a = some ⟨b, o, none⟩ ∧ ps[j] = (b, o + j)
end Go.Proofs.YtenoanhonjdpjaaGreatDoor
/- Contracts of the laws' helpers that mark and hold operands, over places. -/
namespace Go.Proofs.YtenoanhonjdpjaaGreatDoor
open Go.RowKit Go.Sort Go.BigFrame
end Go.Proofs.YtenoanhonjdpjaaGreatDoor
/- Contracts of the laws' helpers that mark and hold lists of instructions, over places. -/
namespace Go.Proofs.YtenoanhonjdpjaaGreatDoor
open Go.RowKit Go.Sort Go.BigFrame
/-- The places of a row of instructions, from this place on: Code, Op, and those of the operands. -/
def instPs (b : Nat) : Nat → List (List Pl) → List Pl
  | _, [] => []
  | o, q :: r => (b, o) :: (b, o + 1) :: (q ++ instPs b (o + 3) r)
/-- The value v is a slice of instructions whose numbers lie at the places of qs; where the operands' slices lie nothing is marked. -/
def InstsSh (w : World) (v : Value) (b o : Nat) (qs : List (List Pl)) : Prop := (∃ a cap, v = .slice a qs.length cap ∧ (0 < qs.length → a = some ⟨b, o, none⟩)) ∧
  ∀ i (h : i < qs.length), b < w.heap.size ∧ (b, o + i * 3 + 2) ∉ instPs b o qs ∧ ∃ av, w.cell? ⟨b, o + i * 3 + 2, none⟩ = some av ∧ DevsSh av qs[i]
theorem InstsSh.below {w w' : World} {v : Value} {b o : Nat} {qs : List (List Pl)} (h : InstsSh w v b o qs) (hb : Below w.heap.size w w') : InstsSh w' v b o qs := by
  refine ⟨h.1, fun i hi => ?_⟩
  obtain ⟨h1, h2, av, h3, h4⟩ := h.2 i hi
  exact ⟨Nat.lt_of_lt_of_le h1 hb.size, h2, av, (hb.cell (p := ⟨b, o + i * 3 + 2, none⟩) h1).trans h3, h4⟩
theorem InstsSh.marked {w w' : World} {v : Value} {b o : Nat} {qs : List (List Pl)} {ps : List Pl} {k : Int} (h : InstsSh w v b o qs) (hm : Marked w w' ps k) (hd : ∀ i, i < qs.length → (b, o + i * 3 + 2) ∉ ps) : InstsSh w' v b o qs := by
  refine ⟨h.1, fun i hi => ?_⟩
  obtain ⟨h1, h2, av, h3, h4⟩ := h.2 i hi
  exact ⟨Nat.lt_of_lt_of_le h1 hm.1, h2, av, (hm.2.1 (b, o + i * 3 + 2) h1 (hd i hi)).trans h3, h4⟩
theorem Marked.two {w : World} {b o : Nat} {u0 u1 : Value} (k : Int) (hb : b < w.heap.size) (c0 : w.cell? ⟨b, o, none⟩ = some u0) (c1 : w.cell? ⟨b, o + 1, none⟩ = some u1) :
    Marked w ((w.setCell ⟨b, o, none⟩ (.int .i64 k)).setCell ⟨b, o + 1, none⟩ (.int .i64 (k + 1))) [(b, o), (b, o + 1)] k := by
  have m1 := Marked.one k c0
  have m2 := Marked.one (k + 1) ((cellSetOff (W := w) (b := b) (o := o) (p := o + 1) (v := .int .i64 k) (by omega)).trans c1)
  simpa using Marked.append m1 (by simpa using m2) (by simpa using hb) (by simp)
end Go.Proofs.YtenoanhonjdpjaaGreatDoor
/- Contracts of the laws' helpers that mark and hold lists of lists of instructions, over places. -/
namespace Go.Proofs.YtenoanhonjdpjaaGreatDoor
open Go.RowKit Go.Sort Go.BigFrame
/-- A row: its block, its offset, the places of its operands. -/
abbrev Rw := Nat × Nat × List (List Pl)
def rowPs (r : Rw) : List Pl := instPs r.1 r.2.1 r.2.2
def rowsPs (rs : List Rw) : List Pl := rs.flatMap rowPs
/-- The value v is a slice of rows of instructions; neither the rows' slices nor the operands' are marked. -/
def RowsSh (w : World) (v : Value) (B O : Nat) (rs : List Rw) : Prop := (∃ a cap, v = .slice a rs.length cap ∧ (0 < rs.length → a = some ⟨B, O, none⟩)) ∧
  ∀ i (h : i < rs.length), B < w.heap.size ∧ (B, O + i) ∉ rowsPs rs ∧ (∀ j, j < rs[i].2.2.length → (rs[i].1, rs[i].2.1 + j * 3 + 2) ∉ rowsPs rs) ∧ ∃ rv, w.cell? ⟨B, O + i, none⟩ = some rv ∧ InstsSh w rv rs[i].1 rs[i].2.1 rs[i].2.2
theorem RowsSh.below {w w' : World} {v : Value} {B O : Nat} {rs : List Rw} (h : RowsSh w v B O rs) (hb : Below w.heap.size w w') : RowsSh w' v B O rs := by
  refine ⟨h.1, fun i hi => ?_⟩
  obtain ⟨h1, h2, h3, rv, h4, h5⟩ := h.2 i hi
  exact ⟨Nat.lt_of_lt_of_le h1 hb.size, h2, h3, rv, (hb.cell (p := ⟨B, O + i, none⟩) h1).trans h4, h5.below hb⟩
theorem RowsSh.marked {w w' : World} {v : Value} {B O : Nat} {rs : List Rw} {ps : List Pl} {k : Int} (h : RowsSh w v B O rs) (hm : Marked w w' ps k) (hd : ∀ p ∈ ps, p ∈ rowsPs rs) : RowsSh w' v B O rs := by
  refine ⟨h.1, fun i hi => ?_⟩
  obtain ⟨h1, h2, h3, rv, h4, h5⟩ := h.2 i hi
  exact ⟨Nat.lt_of_lt_of_le h1 hm.1, h2, h3, rv, (hm.2.1 (B, O + i) h1 (fun hp => h2 (hd _ hp))).trans h4, h5.marked hm (fun j hj hp => h3 j hj (hd _ hp))⟩
end Go.Proofs.YtenoanhonjdpjaaGreatDoor
/- Lists of lists of instructions: how they lie; are two the same. -/
namespace Go.Proofs.YtenoanhonjdpjaaGreatDoor
open Go.RowKit Go.Sort Go.BigFrame
/-- The value v is a slice of just these lists. -/
def InstssAt (w : World) (v : Value) (l : List (List Stil.Inst)) : Prop := ∃ a cap, v = .slice a l.length cap ∧ ∀ i (h : i < l.length), ∃ b o, a = some ⟨b, o, none⟩ ∧ b < w.heap.size ∧ ∃ rv, w.cell? ⟨b, o + i, none⟩ = some rv ∧ InstsAt w rv l[i]
theorem InstssAt.below {w w' : World} {v : Value} {l : List (List Stil.Inst)} (h : InstssAt w v l) (hb : Below w.heap.size w w') : InstssAt w' v l := by
  obtain ⟨a, cap, hv, hc⟩ := h
  refine ⟨a, cap, hv, fun i hi => ?_⟩
  obtain ⟨b, o, ha, hlt, rv, hr, hn⟩ := hc i hi
  exact ⟨b, o, ha, Nat.lt_of_lt_of_le hlt hb.size, rv, (hb.cell (p := ⟨b, o + i, none⟩) hlt).trans hr, hn.below hb⟩
end Go.Proofs.YtenoanhonjdpjaaGreatDoor
/- Places of what a list of instructions owns. -/
namespace Go.Proofs.YtenoanhonjdpjaaGreatDoor
open Go.RowKit Go.Sort Go.BigFrame
/-- The places of n operands in a block. -/
def blockPs (g n : Nat) : List Pl := (List.range (3 * n)).map fun j => (g, j)
theorem blockPs_len (g n : Nat) : (blockPs g n).length = 3 * n := by simp [blockPs]
theorem blockPs_mem {g n : Nat} {p : Pl} (h : p ∈ blockPs g n) : p.1 = g ∧ p.2 < 3 * n := by
  obtain ⟨j, hj, rfl⟩ := List.mem_map.1 h
  exact ⟨rfl, List.mem_range.1 hj⟩
theorem blockPs_nodup (g n : Nat) : (blockPs g n).Nodup := by
  unfold blockPs
  refine List.pairwise_map.2 (List.Pairwise.imp ?_ List.nodup_range)
  intro a b h e
  exact h (Prod.mk.inj e).2
end Go.Proofs.YtenoanhonjdpjaaGreatDoor
