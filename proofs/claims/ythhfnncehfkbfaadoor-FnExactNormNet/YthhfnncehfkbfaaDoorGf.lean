/- P1, P2, P3, P4, P5, P6: texts put together. -/
import Derived.Test.YthhfnncehfkbfaaDoorGT
import Derived.Test.YthhfnncehfkbfaaDoorGb
import Derived.Test.YthhfnncehfkbfaaDoorGg
/- Marks: the whole numbers that a mark goes through, in their order, as places in memory; nothing is said of what they held. -/
namespace Go.Proofs.YthhfnncehfkbfaaDoor
open Go.RowKit Go.Sort Go.BigFrame
/-- A place: block and offset. -/
abbrev Pl := Nat × Nat
def ad (p : Pl) : Addr := ⟨p.1, p.2, none⟩
/-- Whole numbers lie at these places and may be written. -/
def NumsAt (w : World) (ps : List Pl) : Prop := ∀ p ∈ ps, p.1 < w.heap.size ∧ (∃ n, w.cell? (ad p) = some (.int .i64 n)) ∧ w.frozen? (ad p) = false
/-- Behind marks from k on at these places. -/
def Marked (w w' : World) (ps : List Pl) (k : Int) : Prop :=
  w.heap.size ≤ w'.heap.size ∧ (∀ p : Pl, p.1 < w.heap.size → p ∉ ps → w'.cell? (ad p) = w.cell? (ad p)) ∧ (∀ i (h : i < ps.length), w'.cell? (ad ps[i]) = some (.int .i64 (k + i))) ∧
  (∀ p : Pl, p.1 < w.heap.size → w'.frozen? (ad p) = w.frozen? (ad p)) ∧ ∀ base, base ≤ w.heap.size → (∀ p ∈ ps, base ≤ p.1) → Below base w w'
/-- The numbers from k on lie at these places. -/
def HeldAt (w : World) (ps : List Pl) (k : Int) : Prop := ∀ i (h : i < ps.length), w.cell? (ad ps[i]) = some (.int .i64 (k + i))
theorem Marked.held {w w' : World} {ps : List Pl} {k : Int} (h : Marked w w' ps k) : HeldAt w' ps k := h.2.2.1
theorem NumsAt.left {w : World} {ps qs : List Pl} (h : NumsAt w (ps ++ qs)) : NumsAt w ps := fun p hp => h p (List.mem_append_left _ hp)
theorem NumsAt.right {w : World} {ps qs : List Pl} (h : NumsAt w (ps ++ qs)) : NumsAt w qs := fun p hp => h p (List.mem_append_right _ hp)
theorem HeldAt.left {w : World} {ps qs : List Pl} {k : Int} (h : HeldAt w (ps ++ qs) k) : HeldAt w ps k := fun i hi => by
  have := h i (by simp; omega)
  rwa [List.getElem_append_left hi] at this
theorem HeldAt.right {w : World} {ps qs : List Pl} {k : Int} (h : HeldAt w (ps ++ qs) k) : HeldAt w qs (k + ps.length) := fun i hi => by
  have := h (ps.length + i) (by simp; omega)
  rw [List.getElem_append_right (by omega)] at this
  simp only [Nat.add_sub_cancel_left] at this
  rw [this]; congr 2; omega
theorem HeldAt.below {w w' : World} {ps : List Pl} {k : Int} (h : HeldAt w ps k) (hb : Below w.heap.size w w') (hl : ∀ p ∈ ps, p.1 < w.heap.size) : HeldAt w' ps k := fun i hi => by
  rw [hb.cell (p := ad ps[i]) (hl _ (List.getElem_mem hi))]; exact h i hi
theorem NumsAt.below {w w' : World} {ps : List Pl} (h : NumsAt w ps) (hb : Below w.heap.size w w') : NumsAt w' ps := fun p hp => by
  obtain ⟨h1, ⟨n, h2⟩, h3⟩ := h p hp
  exact ⟨Nat.lt_of_lt_of_le h1 hb.size, ⟨n, (hb.cell (p := ad p) h1).trans h2⟩, (hb.frozen (p := ad p) h1).trans h3⟩
/-- Marks elsewhere leave them. -/
theorem NumsAt.marked {w w' : World} {ps qs : List Pl} {k : Int} (h : NumsAt w qs) (hm : Marked w w' ps k) (hd : ∀ p ∈ qs, p ∉ ps) : NumsAt w' qs := fun p hp => by
  obtain ⟨h1, ⟨n, h2⟩, h3⟩ := h p hp
  exact ⟨Nat.lt_of_lt_of_le h1 hm.1, ⟨n, (hm.2.1 p h1 (hd p hp)).trans h2⟩, (hm.2.2.2.1 p h1).trans h3⟩
theorem Marked.of_below {w w' : World} {k : Int} (h : Below w.heap.size w w') : Marked w w' [] k :=
  ⟨h.size, fun p hp _ => h.cell (p := ad p) hp, fun i hi => absurd hi (by simp), fun p hp => h.frozen (p := ad p) hp, fun base hb _ => h.mono hb⟩
theorem Marked.append {w w1 w2 : World} {ps qs : List Pl} {k : Int} (h1 : Marked w w1 ps k) (h2 : Marked w1 w2 qs (k + ps.length)) (hl : ∀ p ∈ ps, p.1 < w.heap.size) (hd : ∀ p ∈ ps, p ∉ qs) : Marked w w2 (ps ++ qs) k := by
  obtain ⟨a1, a2, a3, a4, a5⟩ := h1
  obtain ⟨b1, b2, b3, b4, b5⟩ := h2
  refine ⟨Nat.le_trans a1 b1, fun p hp hn => ?_, fun i hi => ?_, fun p hp => ?_, fun base hb hq => ?_⟩
  · simp only [List.mem_append, not_or] at hn
    exact (b2 p (Nat.lt_of_lt_of_le hp a1) hn.2).trans (a2 p hp hn.1)
  · by_cases hlt : i < ps.length
    · rw [List.getElem_append_left hlt]
      have hm := List.getElem_mem hlt
      exact (b2 _ (Nat.lt_of_lt_of_le (hl _ hm) a1) (hd _ hm)).trans (a3 i hlt)
    · rw [List.getElem_append_right (by omega)]
      rw [b3 (i - ps.length) (by simp at hi; omega)]
      congr 2; omega
  · exact (b4 p (Nat.lt_of_lt_of_le hp a1)).trans (a4 p hp)
  · have e1 := a5 base hb (fun p hp => hq p (List.mem_append_left _ hp))
    exact e1.trans (b5 base (Nat.le_trans hb a1) (fun p hp => hq p (List.mem_append_right _ hp)))
theorem Marked.one {w : World} {b o : Nat} {u : Value} (k : Int) (hc : w.cell? ⟨b, o, none⟩ = some u) : Marked w (w.setCell ⟨b, o, none⟩ (.int .i64 k)) [(b, o)] k := by
  refine ⟨sizeSet _ _ _, fun p hp hn => ?_, fun i hi => ?_, fun p hp => by simp [ad, go_sem], fun base hb hq => (Below.refl base w).setCell (hq (b, o) (by simp)) _⟩
  · obtain ⟨c, q⟩ := p
    by_cases e : c = b
    · subst e
      exact cellSetOff (fun h => hn (by have e : q = o := h; simp [e]))
    · exact cellSetOther e
  · obtain rfl : i = 0 := by simp at hi; omega
    simpa [ad] using cellSetAt hc
/-- The places of a slice of operands. -/
def DevsSh (v : Value) (ps : List Pl) : Prop := ∃ a n cap, v = .slice a n cap ∧ ps.length = 3 * n ∧ ∀ j (h : j < ps.length), ∃ b o, a = some ⟨b, o, none⟩ ∧ ps[j] = (b, o + j)
end Go.Proofs.YthhfnncehfkbfaaDoor
/- Contracts of the laws' helpers that mark and hold operands, over places. -/
namespace Go.Proofs.YthhfnncehfkbfaaDoor
open Go.RowKit Go.Sort Go.BigFrame
theorem take3 {ps : List Pl} {j : Nat} {b o : Nat} (hl : 3 * j + 3 ≤ ps.length) (e0 : ps[3 * j]'(by omega) = (b, o + 3 * j)) (e1 : ps[3 * j + 1]'(by omega) = (b, o + (3 * j + 1))) (e2 : ps[3 * j + 2]'(by omega) = (b, o + (3 * j + 2))) :
    ps.take (3 * (j + 1)) = ps.take (3 * j) ++ [(b, o + 3 * j), (b, o + 3 * j + 1), (b, o + 3 * j + 2)] := by
  have h1 : ps.take (3 * j + 1) = ps.take (3 * j) ++ [ps[3 * j]'(by omega)] := List.take_succ_eq_append_getElem (by omega)
  have h2 : ps.take (3 * j + 1 + 1) = ps.take (3 * j + 1) ++ [ps[3 * j + 1]'(by omega)] := List.take_succ_eq_append_getElem (by omega)
  have h3 : ps.take (3 * j + 2 + 1) = ps.take (3 * j + 2) ++ [ps[3 * j + 2]'(by omega)] := List.take_succ_eq_append_getElem (by omega)
  have e : 3 * (j + 1) = 3 * j + 2 + 1 := by omega
  rw [e, h3, h2, h1, e0, e1, e2]
  simp [Nat.add_assoc]
theorem Marked.three {w : World} {b o : Nat} {u0 u1 u2 : Value} (k : Int) (hb : b < w.heap.size) (c0 : w.cell? ⟨b, o, none⟩ = some u0) (c1 : w.cell? ⟨b, o + 1, none⟩ = some u1) (c2 : w.cell? ⟨b, o + 2, none⟩ = some u2) :
    Marked w (((w.setCell ⟨b, o, none⟩ (.int .i64 k)).setCell ⟨b, o + 1, none⟩ (.int .i64 (k + 1))).setCell ⟨b, o + 2, none⟩ (.int .i64 (k + 2))) [(b, o), (b, o + 1), (b, o + 2)] k := by
  have m1 := Marked.one k c0
  have m2 := Marked.one (k + 1) ((cellSetOff (W := w) (b := b) (o := o) (p := o + 1) (v := .int .i64 k) (by omega)).trans c1)
  have m12 := Marked.append m1 (by simpa using m2) (by simpa using hb) (by simp)
  have m3 := Marked.one (k + 2) ((cellSetOff (W := w.setCell ⟨b, o, none⟩ (.int .i64 k)) (b := b) (o := o + 1) (p := o + 2) (v := .int .i64 (k + 1)) (by omega)).trans ((cellSetOff (W := w) (b := b) (o := o) (p := o + 2) (v := .int .i64 k) (by omega)).trans c2))
  have m := Marked.append m12 (by simpa using m3) (by simp; exact hb) (by simp)
  simpa using m
set_option maxHeartbeats 1000000 in
set_option maxRecDepth 100000 in
theorem p_markDevs (v : Value) (ps : List Pl) (k : Int) (w : World) (hsh : DevsSh v ps) (hi : NumsAt w ps) (hnd : ps.Nodup) (hk0 : 0 ≤ k) (hk1 : k ≤ 4611686018427387904) (hl : ps.length ≤ 4611686018427387904) :
    Calls Tryd.prog 38 #[v, .int .i64 k] w fun e w' => e = .returned (.int .i64 (k + ps.length)) ∧ Marked w w' ps k := by
  obtain ⟨a, n, cap, rfl, hlen, hpl⟩ := hsh
  have HPL : Hid (∀ j (h : j < ps.length), ∃ b o, a = some ⟨b, o, none⟩ ∧ ps[j] = (b, o + j)) := hpl
  have HI : Hid (NumsAt w ps) := hi
  have HND : Hid ps.Nodup := hnd
  have HLE : Hid (ps.length = 3 * n) := hlen
  have hn : (n : Int) ≤ 1537228672809129302 := by omega
  have hkn : k + 3 * n ≤ 9223372036854775807 := by omega
  clear hpl hi hnd hlen hl
  go_enter Tryd.func38, Tryd.ntmps38
  go_wp2
  go_loopw [1, 5] (fun kv iv wr => ∃ j : Nat, j ≤ n ∧ kv = .int .i64 (k + 3 * j) ∧ iv = .int .i64 j ∧ Marked w wr (ps.take (3 * j)) k) (fun _ iv _ => n - (intOf iv).toNat)
  case atStart => exact ⟨0, by omega, by simp, rfl, by simpa using Marked.of_below (Below.refl _ _)⟩
  case round =>
    obtain ⟨j, hj, rfl, rfl, hm⟩ := hrel
    have HM : Hid (Marked w wr (ps.take (3 * j)) k) := hm
    clear hm
    by_cases hlt : j < n
    · have hl0 : 3 * j + 3 ≤ ps.length := by have := HLE.out; omega
      obtain ⟨b, o, rfl, e0⟩ := HPL.out (3 * j) (by omega)
      obtain ⟨b1, o1, ha1, e1⟩ := HPL.out (3 * j + 1) (by omega)
      obtain ⟨b2, o2, ha2, e2⟩ := HPL.out (3 * j + 2) (by omega)
      simp only [Option.some.injEq, Addr.mk.injEq, and_true] at ha1 ha2
      obtain ⟨rfl, rfl⟩ := ha1
      obtain ⟨rfl, rfl⟩ := ha2
      have hnot : ∀ i (h : i < ps.length), 3 * j ≤ i → ps[i] ∉ ps.take (3 * j) := by
        intro i h hge hmem
        obtain ⟨i', hi', he⟩ := List.getElem_of_mem hmem
        rw [List.getElem_take] at he
        simp at hi'
        exact absurd he ((List.pairwise_iff_getElem.1 HND.out) i' i (by omega) h (by omega))
      have hrest : NumsAt wr (ps.drop (3 * j)) := NumsAt.marked (fun p hp => HI.out p (List.mem_of_mem_drop hp)) HM.out (by
        intro p hp
        obtain ⟨i, hi, rfl⟩ := List.getElem_of_mem hp
        rw [List.getElem_drop]
        exact hnot _ _ (by omega))
      have hcell : ∀ i (h : i < ps.length), 3 * j ≤ i → ps[i].1 < wr.heap.size ∧ (∃ n, wr.cell? (ad ps[i]) = some (.int .i64 n)) ∧ wr.frozen? (ad ps[i]) = false := by
        intro i h hge
        apply hrest
        have : ps[i] = (ps.drop (3 * j))[i - 3 * j]'(by simp; omega) := by rw [List.getElem_drop]; congr 1; omega
        rw [this]; exact List.getElem_mem _
      obtain ⟨hb0, ⟨n0, c0⟩, f0⟩ := hcell (3 * j) (by omega) (by omega)
      obtain ⟨_, ⟨n1, c1⟩, f1⟩ := hcell (3 * j + 1) (by omega) (by omega)
      obtain ⟨_, ⟨n2, c2⟩, f2⟩ := hcell (3 * j + 2) (by omega) (by omega)
      have HT : Hid (ps.take (3 * (j + 1)) = ps.take (3 * j) ++ [(b, o + 3 * j), (b, o + 3 * j + 1), (b, o + 3 * j + 2)]) := take3 hl0 e0 e1 e2
      have HDJ : Hid (∀ p ∈ ps.take (3 * j), p ∉ [(b, o + 3 * j), (b, o + 3 * j + 1), (b, o + 3 * j + 2)]) := by
        intro p hp hq
        simp only [List.mem_cons, List.not_mem_nil, or_false] at hq
        rcases hq with rfl | rfl | rfl
        · exact hnot (3 * j) (by omega) (by omega) (by rw [e0]; exact hp)
        · exact hnot (3 * j + 1) (by omega) (by omega) (by rw [e1]; exact hp)
        · exact hnot (3 * j + 2) (by omega) (by omega) (by rw [e2]; exact hp)
      rw [e0] at hb0 c0 f0
      rw [e1] at c1 f1
      rw [e2] at c2 f2
      have HLT : Hid (∀ p ∈ ps.take (3 * j), p.1 < w.heap.size) := fun p hp => (HI.out p (List.mem_of_mem_take hp)).1
      have HTL : Hid ((ps.take (3 * j)).length = 3 * j) := by show _ = _; simp; omega
      simp only [ad] at c0 c1 c2 f0 f1 f2
      rw [show o + (3 * j + 1) = o + j * 3 + 1 by omega] at c1 f1
      rw [show o + (3 * j + 2) = o + j * 3 + 2 by omega] at c2 f2
      rw [show o + 3 * j = o + j * 3 by omega] at c0 f0
      clear hnot hrest hcell e0 e1 e2
      have w1 : IntKind.i64.wrap (k + 3 * (j : Int) + 1) = k + 3 * j + 1 := by rw [IntKind.wrap_i64]; omega
      have w2 : IntKind.i64.wrap (k + 3 * (j : Int) + 1 + 1) = k + 3 * j + 2 := by rw [IntKind.wrap_i64]; omega
      have w3 : IntKind.i64.wrap (k + 3 * (j : Int) + 2 + 1) = k + 3 * j + 3 := by rw [IntKind.wrap_i64]; omega
      go_wp2
      refine ⟨⟨j + 1, by omega, by rw [show k + 3 * ((j + 1 : Nat) : Int) = k + 3 * j + 3 from by omega], by go_num, ?_⟩, by simp [intOf]; omega⟩
      rw [HT.out]
      refine Marked.append HM.out ?_ HLT.out HDJ.out
      rw [HTL.out]
      have := Marked.three (k + ((3 * j : Nat) : Int)) hb0 c0 c1 c2
      have e3 : o + j * 3 = o + 3 * j := by omega
      have e4 : k + ((3 * j : Nat) : Int) = k + 3 * (j : Int) := by omega
      rw [e3, e4] at this
      rw [e3, e4]
      exact this
    · obtain rfl : j = n := by omega
      go_wp2
      go_ret
      have hT : ps.take (3 * j) = ps := List.take_of_length_le (by have := HLE.out; omega)
      refine ⟨ret_int (by rw [HLE.out]; omega), ?_⟩
      have := HM.out
      rwa [hT] at this
end Go.Proofs.YthhfnncehfkbfaaDoor
/- Contracts of the laws' helpers that mark and hold lists of instructions, over places. -/
namespace Go.Proofs.YthhfnncehfkbfaaDoor
open Go.RowKit Go.Sort Go.BigFrame
set_option maxHeartbeats 1000000 in
set_option maxRecDepth 100000 in
theorem p_heldDevs (v : Value) (ps : List Pl) (k : Int) (w : World) (hsh : DevsSh v ps) (hh : HeldAt w ps k) (hk0 : 0 ≤ k) (hk1 : k ≤ 4611686018427387904) (hl : ps.length ≤ 4611686018427387904) :
    Calls Tryd.prog 39 #[v, .int .i64 k] w fun e w' => e = .returned (.int .i64 (k + ps.length)) ∧ w' = w := by
  obtain ⟨a, n, cap, rfl, hlen, hpl⟩ := hsh
  have HO : Hid (∀ j, j < n → ∃ b o, a = some ⟨b, o, none⟩ ∧ w.cell? ⟨b, o + j * 3, none⟩ = some (.int .i64 (k + 3 * j)) ∧ w.cell? ⟨b, o + j * 3 + 1, none⟩ = some (.int .i64 (k + 3 * j + 1)) ∧ w.cell? ⟨b, o + j * 3 + 2, none⟩ = some (.int .i64 (k + 3 * j + 2))) := by
    intro j hj
    obtain ⟨b, o, rfl, e0⟩ := hpl (3 * j) (by omega)
    obtain ⟨b1, o1, ha1, e1⟩ := hpl (3 * j + 1) (by omega)
    obtain ⟨b2, o2, ha2, e2⟩ := hpl (3 * j + 2) (by omega)
    simp only [Option.some.injEq, Addr.mk.injEq, and_true] at ha1 ha2
    obtain ⟨rfl, rfl⟩ := ha1
    obtain ⟨rfl, rfl⟩ := ha2
    have c0 := hh (3 * j) (by omega)
    have c1 := hh (3 * j + 1) (by omega)
    have c2 := hh (3 * j + 2) (by omega)
    rw [e0] at c0
    rw [e1] at c1
    rw [e2] at c2
    simp only [ad] at c0 c1 c2
    refine ⟨b, o, rfl, ?_, ?_, ?_⟩
    · rw [show o + j * 3 = o + 3 * j by omega, c0]; congr 2
    · rw [show o + j * 3 + 1 = o + (3 * j + 1) by omega, c1]; congr 2; omega
    · rw [show o + j * 3 + 2 = o + (3 * j + 2) by omega, c2]; congr 2; omega
  have HLE : Hid (ps.length = 3 * n) := hlen
  have hkn : k + 3 * n ≤ 9223372036854775807 := by omega
  clear hpl hh hlen hl
  go_enter Tryd.func39, Tryd.ntmps39
  go_wp2
  go_loopw [1, 5] (fun kv iv wr => ∃ j : Nat, j ≤ n ∧ kv = .int .i64 (k + 3 * j) ∧ iv = .int .i64 j ∧ wr = w) (fun _ iv _ => n - (intOf iv).toNat)
  case atStart => exact ⟨0, by omega, by simp, rfl, rfl⟩
  case round =>
    obtain ⟨j, hj, rfl, rfl, rfl⟩ := hrel
    by_cases hlt : j < n
    · obtain ⟨b, o, rfl, c0, c1, c2⟩ := HO.out j hlt
      have w1 : IntKind.i64.wrap (k + 3 * (j : Int) + 1) = k + 3 * j + 1 := by rw [IntKind.wrap_i64]; omega
      have w2 : IntKind.i64.wrap (k + 3 * (j : Int) + 1 + 1) = k + 3 * j + 2 := by rw [IntKind.wrap_i64]; omega
      have w3 : IntKind.i64.wrap (k + 3 * (j : Int) + 2 + 1) = k + 3 * j + 3 := by rw [IntKind.wrap_i64]; omega
      go_wp2
      exact ⟨⟨j + 1, by omega, by rw [show k + 3 * ((j + 1 : Nat) : Int) = k + 3 * j + 3 from by omega], by go_num, trivial⟩, by simp [intOf]; omega⟩
    · obtain rfl : j = n := by omega
      go_wp2
      go_ret
      exact ⟨ret_int (by rw [HLE.out]; omega), rfl⟩
/-- The places of a row of instructions, from this place on: Code, Op, and those of the operands. -/
def instPs (b : Nat) : Nat → List (List Pl) → List Pl
  | _, [] => []
  | o, q :: r => (b, o) :: (b, o + 1) :: (q ++ instPs b (o + 3) r)
theorem instPs_snoc (b : Nat) : ∀ (qs : List (List Pl)) (o i : Nat) (h : i < qs.length), instPs b o (qs.take (i + 1)) = instPs b o (qs.take i) ++ ((b, o + i * 3) :: (b, o + i * 3 + 1) :: qs[i])
  | [], _, _, h => by simp at h
  | q :: r, o, 0, _ => by simp [instPs]
  | q :: r, o, i + 1, h => by
    have ih := instPs_snoc b r (o + 3) i (by simpa using h)
    rw [List.take_succ_cons, List.take_succ_cons, instPs, instPs, ih]
    have e : o + 3 + i * 3 = o + (i + 1) * 3 := by omega
    simp [e, List.append_assoc]
theorem instPs_split (b : Nat) : ∀ (qs : List (List Pl)) (o i : Nat), i ≤ qs.length → instPs b o qs = instPs b o (qs.take i) ++ instPs b (o + i * 3) (qs.drop i)
  | qs, o, 0, _ => by simp [instPs]
  | [], _, i + 1, h => by simp at h
  | q :: r, o, i + 1, h => by
    have ih := instPs_split b r (o + 3) i (by simpa using h)
    rw [List.take_succ_cons, List.drop_succ_cons, instPs, instPs, ih]
    have e : o + 3 + i * 3 = o + (i + 1) * 3 := by omega
    simp [e, List.append_assoc]
/-- The value v is a slice of instructions whose numbers lie at the places of qs; where the operands' slices lie nothing is marked. -/
def InstsSh (w : World) (v : Value) (b o : Nat) (qs : List (List Pl)) : Prop := (∃ a cap, v = .slice a qs.length cap ∧ (0 < qs.length → a = some ⟨b, o, none⟩)) ∧
  ∀ i (h : i < qs.length), b < w.heap.size ∧ (b, o + i * 3 + 2) ∉ instPs b o qs ∧ ∃ av, w.cell? ⟨b, o + i * 3 + 2, none⟩ = some av ∧ DevsSh av qs[i]
theorem InstsSh.below {w w' : World} {v : Value} {b o : Nat} {qs : List (List Pl)} (h : InstsSh w v b o qs) (hb : Below w.heap.size w w') : InstsSh w' v b o qs := by
  refine ⟨h.1, fun i hi => ?_⟩
  obtain ⟨h1, h2, av, h3, h4⟩ := h.2 i hi
  exact ⟨Nat.lt_of_lt_of_le h1 hb.size, h2, av, (hb.cell (p := ⟨b, o + i * 3 + 2, none⟩) h1).trans h3, h4⟩
theorem InstsSh.marked {w w' : World} {v : Value} {b o : Nat} {qs : List (List Pl)} {ps : List Pl} {k : Int} (h : InstsSh w v b o qs) (hm : Marked w w' ps k) (hd : ∀ i, i < qs.length → (b, o + i * 3 + 2) ∉ ps) : InstsSh w' v b o qs := by
  refine ⟨h.1, fun i hi => ?_⟩
  obtain ⟨h1, h2, av, h3, h4⟩ := h.2 i hi
  exact ⟨Nat.lt_of_lt_of_le h1 hm.1, h2, av, (hm.2.1 (b, o + i * 3 + 2) h1 (hd i hi)).trans h3, h4⟩
theorem Marked.two {w : World} {b o : Nat} {u0 u1 : Value} (k : Int) (hb : b < w.heap.size) (c0 : w.cell? ⟨b, o, none⟩ = some u0) (c1 : w.cell? ⟨b, o + 1, none⟩ = some u1) :
    Marked w ((w.setCell ⟨b, o, none⟩ (.int .i64 k)).setCell ⟨b, o + 1, none⟩ (.int .i64 (k + 1))) [(b, o), (b, o + 1)] k := by
  have m1 := Marked.one k c0
  have m2 := Marked.one (k + 1) ((cellSetOff (W := w) (b := b) (o := o) (p := o + 1) (v := .int .i64 k) (by omega)).trans c1)
  simpa using Marked.append m1 (by simpa using m2) (by simpa using hb) (by simp)
end Go.Proofs.YthhfnncehfkbfaaDoor
/- Contracts of the laws' helpers that mark and hold lists of lists of instructions, over places. -/
namespace Go.Proofs.YthhfnncehfkbfaaDoor
open Go.RowKit Go.Sort Go.BigFrame
theorem instPs_len (b : Nat) : ∀ (qs : List (List Pl)) (o : Nat), qs.length ≤ (instPs b o qs).length := by
  intro qs
  induction qs with
  | nil => intro o; simp
  | cons q r ih => intro o; have := ih (o + 3); simp [instPs]; omega
/-- A row: its block, its offset, the places of its operands. -/
abbrev Rw := Nat × Nat × List (List Pl)
def rowPs (r : Rw) : List Pl := instPs r.1 r.2.1 r.2.2
def rowsPs (rs : List Rw) : List Pl := rs.flatMap rowPs
theorem rowsPs_snoc (rs : List Rw) (i : Nat) (h : i < rs.length) : rowsPs (rs.take (i + 1)) = rowsPs (rs.take i) ++ rowPs rs[i] := by
  unfold rowsPs
  rw [List.take_succ_eq_append_getElem h, List.flatMap_append]
  simp only [List.flatMap_cons, List.flatMap_nil, List.append_nil]
theorem rowsPs_split (rs : List Rw) (i : Nat) : rowsPs rs = rowsPs (rs.take i) ++ rowsPs (rs.drop i) := by
  unfold rowsPs
  rw [← List.flatMap_append, List.take_append_drop]
/-- The value v is a slice of rows of instructions; neither the rows' slices nor the operands' are marked. -/
def RowsSh (w : World) (v : Value) (B O : Nat) (rs : List Rw) : Prop := (∃ a cap, v = .slice a rs.length cap ∧ (0 < rs.length → a = some ⟨B, O, none⟩)) ∧
  ∀ i (h : i < rs.length), B < w.heap.size ∧ (B, O + i) ∉ rowsPs rs ∧ (∀ j, j < rs[i].2.2.length → (rs[i].1, rs[i].2.1 + j * 3 + 2) ∉ rowsPs rs) ∧ ∃ rv, w.cell? ⟨B, O + i, none⟩ = some rv ∧ InstsSh w rv rs[i].1 rs[i].2.1 rs[i].2.2
theorem RowsSh.below {w w' : World} {v : Value} {B O : Nat} {rs : List Rw} (h : RowsSh w v B O rs) (hb : Below w.heap.size w w') : RowsSh w' v B O rs := by
  refine ⟨h.1, fun i hi => ?_⟩
  obtain ⟨h1, h2, h3, rv, h4, h5⟩ := h.2 i hi
  exact ⟨Nat.lt_of_lt_of_le h1 hb.size, h2, h3, rv, (hb.cell (p := ⟨B, O + i, none⟩) h1).trans h4, h5.below hb⟩
theorem RowsSh.marked {w w' : World} {v : Value} {B O : Nat} {rs : List Rw} {ps : List Pl} {k : Int} (h : RowsSh w v B O rs) (hm : Marked w w' ps k) (hd : ∀ p ∈ ps, p ∈ rowsPs rs) : RowsSh w' v B O rs := by
  refine ⟨h.1, fun i hi => ?_⟩
  obtain ⟨h1, h2, h3, rv, h4, h5⟩ := h.2 i hi
  exact ⟨Nat.lt_of_lt_of_le h1 hm.1, h2, h3, rv, (hm.2.1 (B, O + i) h1 (fun hp => h2 (hd _ hp))).trans h4, h5.marked hm (fun j hj hp => h3 j hj (hd _ hp))⟩
end Go.Proofs.YthhfnncehfkbfaaDoor
/- Lists of lists of instructions: how they lie; are two the same. -/
namespace Go.Proofs.YthhfnncehfkbfaaDoor
open Go.RowKit Go.Sort Go.BigFrame
/-- The value v is a slice of just these lists. -/
def InstssAt (w : World) (v : Value) (l : List (List Stil.Inst)) : Prop := ∃ a cap, v = .slice a l.length cap ∧ ∀ i (h : i < l.length), ∃ b o, a = some ⟨b, o, none⟩ ∧ b < w.heap.size ∧ ∃ rv, w.cell? ⟨b, o + i, none⟩ = some rv ∧ InstsAt w rv l[i]
theorem InstssAt.below {w w' : World} {v : Value} {l : List (List Stil.Inst)} (h : InstssAt w v l) (hb : Below w.heap.size w w') : InstssAt w' v l := by
  obtain ⟨a, cap, hv, hc⟩ := h
  refine ⟨a, cap, hv, fun i hi => ?_⟩
  obtain ⟨b, o, ha, hlt, rv, hr, hn⟩ := hc i hi
  exact ⟨b, o, ha, Nat.lt_of_lt_of_le hlt hb.size, rv, (hb.cell (p := ⟨b, o + i, none⟩) hlt).trans hr, hn.below hb⟩
end Go.Proofs.YthhfnncehfkbfaaDoor
/- Places of what a list of instructions owns. -/
namespace Go.Proofs.YthhfnncehfkbfaaDoor
open Go.RowKit Go.Sort Go.BigFrame
/-- The places of n operands in a block. -/
def blockPs (g n : Nat) : List Pl := (List.range (3 * n)).map fun j => (g, j)
theorem blockPs_len (g n : Nat) : (blockPs g n).length = 3 * n := by simp [blockPs]
theorem blockPs_mem {g n : Nat} {p : Pl} (h : p ∈ blockPs g n) : p.1 = g ∧ p.2 < 3 * n := by
  obtain ⟨j, hj, rfl⟩ := List.mem_map.1 h
  exact ⟨rfl, List.mem_range.1 hj⟩
theorem blockPs_nodup (g n : Nat) : (blockPs g n).Nodup := by
  unfold blockPs
  refine List.pairwise_map.2 (List.Pairwise.imp ?_ List.nodup_range)
  intro a b h e
  exact h (Prod.mk.inj e).2
/-- Operands in memory of their own: their places. -/
theorem devs_places {w : World} {base : Nat} {u : Value} {ds : List Stil.Dev} (h : w.ownsRow base 69 3 u ds.length (devsCells ds)) :
    ∃ ps : List Pl, DevsSh u ps ∧ NumsAt w ps ∧ ps.Nodup ∧ (∀ p ∈ ps, base ≤ p.1 ∧ u.ownBlock = some p.1) ∧ ps.length = 3 * ds.length := by
  by_cases hd : ds.length = 0
  · have hn : ds = [] := List.length_eq_zero_iff.1 hd
    subst hn
    obtain ⟨a, cap, rfl⟩ := slice_of_owns h
    exact ⟨[], ⟨a, 0, cap, rfl, rfl, fun j hj => absurd hj (by simp)⟩, (fun p hp => by cases hp), List.nodup_nil, (fun p hp => by cases hp), rfl⟩
  · obtain ⟨g, cap, hv, hbase, hlt, _, hc⟩ := ownsRow_cells h (by omega)
    subst hv
    refine ⟨blockPs g ds.length, ⟨_, _, _, rfl, blockPs_len _ _, fun j hj => ⟨g, 0, rfl, by simp [blockPs]⟩⟩, fun p hp => ?_, blockPs_nodup _ _, fun p hp => ?_, blockPs_len _ _⟩
    · obtain ⟨h1, h2⟩ := blockPs_mem hp
      obtain ⟨b, j⟩ := p
      simp only at h1 h2
      subst h1
      refine ⟨hlt, ?_, h.frozenAt _⟩
      have hi : j / 3 < ds.length := by omega
      obtain ⟨a1, a2, a3⟩ := devsCells_get ds (j / 3) hi
      have hx : j = j / 3 * 3 ∨ j = j / 3 * 3 + 1 ∨ j = j / 3 * 3 + 2 := by omega
      rcases hx with e | e | e
      · exact ⟨_, by rw [ad, e]; exact hc _ _ a1⟩
      · exact ⟨_, by rw [ad, e]; exact hc _ _ a2⟩
      · exact ⟨_, by rw [ad, e]; exact hc _ _ a3⟩
    · obtain ⟨h1, _⟩ := blockPs_mem hp
      rw [h1]
      exact ⟨hbase, rfl⟩
theorem instPs_mem (b : Nat) : ∀ (qs : List (List Pl)) (o : Nat) (p : Pl), p ∈ instPs b o qs → (∃ i, i < qs.length ∧ (p = (b, o + i * 3) ∨ p = (b, o + i * 3 + 1))) ∨ ∃ q ∈ qs, p ∈ q
  | [], _, p, h => by simp [instPs] at h
  | q :: r, o, p, h => by
    rw [instPs] at h
    simp only [List.mem_cons, List.mem_append] at h
    rcases h with h | h | h | h
    · exact .inl ⟨0, by simp, .inl (by simpa using h)⟩
    · exact .inl ⟨0, by simp, .inr (by simpa using h)⟩
    · exact .inr ⟨q, by simp, h⟩
    · rcases instPs_mem b r (o + 3) p h with ⟨i, hi, hp⟩ | ⟨q', hq', hp⟩
      · refine .inl ⟨i + 1, by simp; omega, ?_⟩
        have e : o + 3 + i * 3 = o + (i + 1) * 3 := by omega
        rwa [e] at hp
      · exact .inr ⟨q', List.mem_cons_of_mem _ hq', hp⟩
theorem instPs_nodup (b : Nat) : ∀ (qs : List (List Pl)) (o : Nat), (∀ q ∈ qs, q.Nodup ∧ ∀ p ∈ q, p.1 ≠ b) → qs.Pairwise (fun q r => ∀ p ∈ q, p ∉ r) → (instPs b o qs).Nodup
  | [], _, _, _ => List.nodup_nil
  | q :: r, o, h1, h2 => by
    have ih := instPs_nodup b r (o + 3) (fun x hx => h1 x (List.mem_cons_of_mem _ hx)) (List.pairwise_cons.1 h2).2
    obtain ⟨hq1, hq2⟩ := h1 q (by simp)
    have hr : ∀ p ∈ instPs b (o + 3) r, p ≠ (b, o) ∧ p ≠ (b, o + 1) ∧ p ∉ q := by
      intro p hp
      rcases instPs_mem b r (o + 3) p hp with ⟨i, _, hp | hp⟩ | ⟨x, hx, hp⟩
      · subst hp
        refine ⟨fun e => ?_, fun e => ?_, fun e => hq2 _ e rfl⟩
        · have := (Prod.mk.inj e).2; omega
        · have := (Prod.mk.inj e).2; omega
      · subst hp
        refine ⟨fun e => ?_, fun e => ?_, fun e => hq2 _ e rfl⟩
        · have := (Prod.mk.inj e).2; omega
        · have := (Prod.mk.inj e).2; omega
      · have hb := (h1 x (List.mem_cons_of_mem _ hx)).2 p hp
        exact ⟨fun e => hb (by rw [e]), fun e => hb (by rw [e]), fun e => (List.pairwise_cons.1 h2).1 x hx p e hp⟩
    rw [instPs, List.nodup_cons, List.nodup_cons, List.nodup_append]
    refine ⟨?_, ?_, hq1, ih, fun a ha c hc e => (hr c hc).2.2 (e ▸ ha)⟩
    · simp only [List.mem_cons, List.mem_append, not_or]
      exact ⟨fun e => by have := (Prod.mk.inj e).2; omega, fun e => hq2 _ e rfl, fun e => (hr _ e).1 rfl⟩
    · simp only [List.mem_append, not_or]
      exact ⟨fun e => hq2 _ e rfl, fun e => (hr _ e).2.1 rfl⟩
/-- The cell of an operands' slice is none of the places. -/
theorem instPs_head {b o i : Nat} {qs : List (List Pl)} (h : ∀ q ∈ qs, ∀ p ∈ q, p.1 ≠ b) : (b, o + i * 3 + 2) ∉ instPs b o qs := by
  intro hm
  rcases instPs_mem b qs o _ hm with ⟨j, _, hp | hp⟩ | ⟨q, hq, hp⟩
  · have := (Prod.mk.inj hp).2; omega
  · have := (Prod.mk.inj hp).2; omega
  · exact h q hq _ hp rfl
/-- A list of instructions whose cells and whose operands' places are known. -/
theorem insts_shape {w : World} {b cap : Nat} {l : List Stil.Inst} {qs : List (List Pl)} (hb : b < w.heap.size) (hl : qs.length = l.length)
    (h : ∀ i (h : i < l.length), w.cell? ⟨b, i * 3, none⟩ = some (.int .i64 l[i].code) ∧ w.cell? ⟨b, i * 3 + 1, none⟩ = some (.int .i64 l[i].one.op) ∧ ∃ u, w.cell? ⟨b, i * 3 + 2, none⟩ = some u ∧ DevsSh u (qs[i]'(by omega)) ∧ DevsAt w u l[i].one.args)
    (hf : ∀ o, w.frozen? ⟨b, o, none⟩ = false) (hq : ∀ q ∈ qs, NumsAt w q ∧ q.Nodup ∧ ∀ p ∈ q, p.1 ≠ b) (hd : qs.Pairwise (fun q r => ∀ p ∈ q, p ∉ r)) :
    InstsSh w (.slice (some ⟨b, 0, none⟩) l.length cap) b 0 qs ∧ NumsAt w (instPs b 0 qs) ∧ (instPs b 0 qs).Nodup ∧ InstsAt w (.slice (some ⟨b, 0, none⟩) l.length cap) l := by
  refine ⟨⟨⟨_, cap, by rw [hl], fun _ => rfl⟩, fun i hi => ?_⟩, fun p hp => ?_, instPs_nodup b qs 0 (fun q h => ⟨(hq q h).2.1, (hq q h).2.2⟩) hd, ⟨_, cap, rfl, fun i hi => ?_⟩⟩
  · obtain ⟨_, _, u, h3, h4, _⟩ := h i (by omega)
    exact ⟨hb, instPs_head (fun q h => (hq q h).2.2), u, by rw [Nat.zero_add]; exact h3, h4⟩
  · rcases instPs_mem b qs 0 p hp with ⟨i, hi, hp | hp⟩ | ⟨q, hqm, hp⟩
    · subst hp
      obtain ⟨h1, _⟩ := h i (by omega)
      exact ⟨hb, ⟨_, by rw [ad]; simp only [Nat.zero_add]; exact h1⟩, hf _⟩
    · subst hp
      obtain ⟨_, h2, _⟩ := h i (by omega)
      exact ⟨hb, ⟨_, by rw [ad]; simp only [Nat.zero_add]; exact h2⟩, hf _⟩
    · exact (hq q hqm).1 p hp
  · obtain ⟨h1, h2, u, h3, _, h5⟩ := h i hi
    exact ⟨b, 0, rfl, hb, by rw [Nat.zero_add]; exact h1, by rw [Nat.zero_add]; exact h2, u, by rw [Nat.zero_add]; exact h3, h5⟩
end Go.Proofs.YthhfnncehfkbfaaDoor
