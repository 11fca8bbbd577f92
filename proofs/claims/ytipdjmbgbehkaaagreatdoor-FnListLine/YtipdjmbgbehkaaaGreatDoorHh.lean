/- M20, M21, M22: texts put together. -/
import Derived.Test.YtipdjmbgbehkaaaGreatDoorGZ
/- Plain facts on the verifier: the first wrong instruction, whatever follows it. -/
namespace Stil
theorem sureFrom_at (l : List Inst) : ∀ (s : Pt) (k : Nat), (sureFrom s k l).1 ≠ 0 → (sureFrom s k l).1 ≠ 9 → ∃ j, j < l.length ∧ (sureFrom s k l).2 = k + j ∧ (∀ c, sureFrom s k (l.take (j + 1) ++ c) = sureFrom s k l) ∧ (sureFrom s k (l.take j) = (0, 0) ∨ sureFrom s k (l.take j) = (9, k + j)) := by
  induction l with
  | nil =>
    intro s k h1 h2
    exfalso
    rw [sureFrom] at h1 h2
    by_cases h : 0 < s.bits
    · rw [if_pos h] at h2; exact h2 rfl
    · rw [if_neg h] at h1; exact h1 rfl
  | cons i r ih =>
    intro s k h1 h2
    by_cases hw : 0 < wrong s i
    · refine ⟨0, by simp, by rw [sureFrom, if_pos hw]; rfl, fun c => by simp [sureFrom, hw], ?_⟩
      rw [List.take_zero, sureFrom]
      split
      · exact .inr rfl
      · exact .inl rfl
    · have e : sureFrom s k (i :: r) = sureFrom (next s i.code) (k + 1) r := by rw [sureFrom, if_neg hw]
      rw [e] at h1 h2
      obtain ⟨j, hj, h3, h4, h5⟩ := ih _ _ h1 h2
      refine ⟨j + 1, by simp; omega, by rw [e, h3]; omega, fun c => ?_, ?_⟩
      · rw [e, ← h4 c, List.take_succ_cons, List.cons_append, sureFrom, if_neg hw]
      · rw [List.take_succ_cons, sureFrom, if_neg hw]
        rcases h5 with h | h
        · exact .inl h
        · refine .inr ?_
          rw [h]
          simp; omega
theorem first_wrong {a : List Inst} (h0 : (sureCheck a).1 ≠ 0) (h1 : (sureCheck a).1 ≠ 1) (h9 : (sureCheck a).1 ≠ 9) :
    (sureCheck a).2 < a.length ∧ a.length ≤ 1000 ∧ (sureCheck (a.take (sureCheck a).2) = (0, 0) ∨ sureCheck (a.take (sureCheck a).2) = (9, (sureCheck a).2)) ∧ ∀ c : List Inst, (a.take ((sureCheck a).2 + 1) ++ c).length ≤ 1000 → sureCheck (a.take ((sureCheck a).2 + 1) ++ c) = sureCheck a := by
  have hl : a.length ≤ 1000 := by
    by_cases h : 1000 < a.length
    · exact absurd (by unfold sureCheck; rw [if_pos h]) h1
    · omega
  have e : sureCheck a = sureFrom pt0 0 a := by unfold sureCheck; rw [if_neg (by omega)]
  rw [e] at h0 h9 ⊢
  obtain ⟨j, hj, h2, h3, h4⟩ := sureFrom_at a pt0 0 h0 h9
  have e2 : (sureFrom pt0 0 a).2 = j := by rw [h2]; omega
  rw [e2]
  refine ⟨hj, hl, ?_, fun c hc => ?_⟩
  · have e3 : sureCheck (a.take j) = sureFrom pt0 0 (a.take j) := by unfold sureCheck; rw [if_neg (by rw [List.length_take]; omega)]
    rw [e3]
    simpa using h4
  · have e3 : sureCheck (a.take (j + 1) ++ c) = sureFrom pt0 0 (a.take (j + 1) ++ c) := by unfold sureCheck; rw [if_neg (by omega)]
    rw [e3]
    exact h3 c
theorem sure_bound (l : List Inst) : ∀ (s : Pt) (k : Nat), 0 ≤ (sureFrom s k l).1 ∧ (sureFrom s k l).1 ≤ 9 ∧ (sureFrom s k l).2 ≤ k + l.length := by
  induction l with
  | nil => intro s k; rw [sureFrom]; split <;> simp
  | cons i r ih =>
    intro s k
    rw [sureFrom]
    have hb := wrong_bound s i
    split
    · exact ⟨hb.1, by omega, by simp⟩
    · have := ih (next s i.code) (k + 1)
      exact ⟨this.1, this.2.1, by simp; omega⟩
theorem check_bounds (l : List Inst) : 0 ≤ (sureCheck l).1 ∧ (sureCheck l).1 ≤ 9 ∧ (sureCheck l).2 ≤ l.length := by
  unfold sureCheck
  split
  · simp
  · have := sure_bound l pt0 0
    simpa using this
end Stil
/- Plain facts on the verifier: the heights behind every instruction, and what is verified by them. -/
namespace Stil
/-- The heights behind an instruction. -/
def step (s : Int × Int) (c : Int) : Int × Int := (if c = 1 then s.1 + 1 else if c = 4 ∨ c = 5 ∨ c = 11 then s.1 - 1 else s.1, if c = 7 then s.2 + 1 else if c = 9 then s.2 - 1 else s.2)
def traceFrom : Int × Int → List Inst → List (Int × Int)
  | _, [] => []
  | s, i :: r => step s i.code :: traceFrom (step s i.code) r
def sureTrace (l : List Inst) : List (Int × Int) := if 1000 < l.length then [] else traceFrom (0, 0) l
theorem traceFrom_len (l : List Inst) : ∀ s, (traceFrom s l).length = l.length := by
  induction l with
  | nil => intro s; rfl
  | cons i r ih => intro s; rw [traceFrom, List.length_cons, ih, List.length_cons]
/-- The definition: one instruction, at the heights ahead of it. -/
def fineAt (was : Int × Int) (seen coil : Bool) (i : Inst) : Bool :=
  listOk i && decide (0 ≤ (step was i.code).1 ∧ (step was i.code).1 ≤ 16 ∧ 0 ≤ (step was i.code).2 ∧ (step was i.code).2 ≤ 8)
  && !(decide (i.code ≠ 1) && was.1 == 0 || (i.code == 4 || i.code == 5) && decide (was.1 < 2))
  && !(decide (7 ≤ i.code) && was.1 != 1)
  && !(seen && (i.code == 3 || i.code == 6) && was.1 == 1 || seen && i.code == 5 && was.1 == 2)
  && !(i.code == 8 && was.2 == 0)
  && !((i.code == 8 || i.code == 9 || i.code == 11) && !coil)
  && !(i.code == 11 && ((step was i.code).1 != 0 || (step was i.code).2 != 0))
def holdsFrom : Int × Int → Bool → Bool → List Inst → Bool
  | was, _, _, [] => was.1 == 0 && was.2 == 0
  | was, seen, coil, i :: r => fineAt was seen coil i && holdsFrom (step was i.code) (i.code != 11 && (seen || i.code == 10 || i.code == 7)) (i.code == 10) r
def wsHolds (l : List Inst) : Bool := decide (l.length ≤ 1000) && holdsFrom (0, 0) false false l
theorem fine_wrong {s : Pt} (g : s.good) (i : Inst) : fineAt (s.bits, s.forks) s.seen s.coil i = decide (wrong s i = 0) := by
  obtain ⟨g0, g1, g2, g3, g4⟩ := g
  cases h0 : listOk i with
  | false => simp [fineAt, wrong, h0]
  | true =>
    have hc := ok_code h0
    have hz : s.bits = 0 → s.forks = 0 ∧ s.seen = false ∧ s.coil = false := fun h => by rw [g4 h]; exact ⟨rfl, rfl, rfl⟩
    have hx : i.code = 1 ∨ i.code = 2 ∨ i.code = 3 ∨ i.code = 4 ∨ i.code = 5 ∨ i.code = 6 ∨ i.code = 7 ∨ i.code = 8 ∨ i.code = 9 ∨ i.code = 10 ∨ i.code = 11 := by omega
    rw [Bool.eq_iff_iff]
    rcases hx with h | h | h | h | h | h | h | h | h | h | h
    all_goals simp [fineAt, wrong, step, needs, low, h0, h]
    all_goals grind
theorem holds_check (l : List Inst) : ∀ (s : Pt) (k : Nat), s.good → holdsFrom (s.bits, s.forks) s.seen s.coil l = decide ((sureFrom s k l).1 = 0) := by
  induction l with
  | nil =>
    intro s k g
    obtain ⟨g0, g1, g2, g3, g4⟩ := g
    rw [holdsFrom, sureFrom]
    by_cases h : 0 < s.bits
    · rw [if_pos h]
      have : ¬ s.bits = 0 := by omega
      simp [this]
    · rw [if_neg h, g4 (by omega)]
      simp [pt0]
  | cons i r ih =>
    intro s k g
    rw [holdsFrom, sureFrom, fine_wrong g]
    have hb := wrong_bound s i
    by_cases h : 0 < wrong s i
    · have h2 : ¬ wrong s i = 0 := by omega
      simp [h, h2]
    · have h2 : wrong s i = 0 := by omega
      rw [if_neg h, decide_eq_true h2, Bool.true_and, ← ih (next s i.code) (k + 1) (good_next g h2), ← behind_next g h2]
      unfold behind step
      congr 1
      rw [Bool.eq_iff_iff]
      simp [bne]
theorem holds_iff (l : List Inst) : wsHolds l = decide ((sureCheck l).1 = 0) := by
  unfold wsHolds sureCheck
  by_cases h : 1000 < l.length
  · rw [if_pos h]
    simp; omega
  · rw [if_neg h, decide_eq_true (by omega), Bool.true_and]
    exact holds_check l pt0 0 good0
/- Peaks. -/
def peakFrom : Int × Int → List (Int × Int) → Int × Int
  | p, [] => p
  | p, s :: r => peakFrom (if p.1 < s.1 then s.1 else p.1, if p.2 < s.2 then s.2 else p.2) r
def surePeak (l : List Inst) : Int × Int := peakFrom (0, 0) (sureTrace l)
theorem peak_ge (t : List (Int × Int)) : ∀ p, p.1 ≤ (peakFrom p t).1 ∧ p.2 ≤ (peakFrom p t).2 := by
  induction t with
  | nil => intro p; exact ⟨Int.le_refl _, Int.le_refl _⟩
  | cons s r ih =>
    intro p
    have := ih (if p.1 < s.1 then s.1 else p.1, if p.2 < s.2 then s.2 else p.2)
    rw [peakFrom]
    simp only at this
    constructor
    · refine Int.le_trans ?_ this.1
      split <;> omega
    · refine Int.le_trans ?_ this.2
      split <;> omega
theorem peak_le (t : List (Int × Int)) (B F : Int) (h : ∀ s ∈ t, s.1 ≤ B ∧ s.2 ≤ F) : ∀ p, p.1 ≤ B → p.2 ≤ F → (peakFrom p t).1 ≤ B ∧ (peakFrom p t).2 ≤ F := by
  induction t with
  | nil => intro p h1 h2; exact ⟨h1, h2⟩
  | cons s r ih =>
    intro p h1 h2
    have hs := h s (by simp)
    rw [peakFrom]
    refine ih (fun x hx => h x (by simp [hx])) _ ?_ ?_
    · simp only; split <;> omega
    · simp only; split <;> omega
theorem trace_good (l : List Inst) : ∀ (s : Pt) (k : Nat), s.good → (sureFrom s k l).1 = 0 → ∀ x ∈ traceFrom (s.bits, s.forks) l, x.1 ≤ 16 ∧ x.2 ≤ 8 := by
  induction l with
  | nil => intro s k _ _ x hx; cases hx
  | cons i r ih =>
    intro s k g h x hx
    have hb := wrong_bound s i
    rw [sureFrom] at h
    have h2 : wrong s i = 0 := by
      split at h
      · simp only at h; omega
      · omega
    rw [if_neg (by omega)] at h
    have e : step (s.bits, s.forks) i.code = ((next s i.code).bits, (next s i.code).forks) := by rw [← behind_next g h2]; rfl
    have g2 := good_next g h2
    rw [traceFrom, e] at hx
    rcases List.mem_cons.1 hx with rfl | hx
    · exact ⟨g2.2.1, g2.2.2.2.1⟩
    · exact ih _ (k + 1) g2 h x hx
theorem peak_good {l : List Inst} (h : (sureCheck l).1 = 0) : (surePeak l).1 ≤ 16 ∧ (surePeak l).2 ≤ 8 ∧ (l.length = 0 ∨ 0 < (surePeak l).1) := by
  have hl : ¬ 1000 < l.length := by
    intro h2
    unfold sureCheck at h
    rw [if_pos h2] at h
    simp at h
  have e : sureCheck l = sureFrom pt0 0 l := by unfold sureCheck; rw [if_neg hl]
  have et : sureTrace l = traceFrom (0, 0) l := by unfold sureTrace; rw [if_neg hl]
  rw [e] at h
  unfold surePeak
  rw [et]
  obtain ⟨h1, h2⟩ := peak_le (traceFrom (0, 0) l) 16 8 (trace_good l pt0 0 good0 h) (0, 0) (by simp) (by simp)
  refine ⟨h1, h2, ?_⟩
  cases l with
  | nil => exact .inl rfl
  | cons i r =>
    right
    have hb := wrong_bound pt0 i
    rw [sureFrom] at h
    have h3 : wrong pt0 i = 0 := by
      split at h
      · simp only at h; omega
      · omega
    obtain ⟨h4, h5, _⟩ := wrong_zero h3
    have hc := ok_code h4
    have hi : i.code = 1 := by
      by_cases hi : i.code = 1
      · exact hi
      · exfalso
        unfold needs at h5
        rw [if_neg hi] at h5
        simp only [pt0] at h5
        split at h5 <;> omega
    rw [traceFrom, peakFrom]
    have := (peak_ge (traceFrom (step (0, 0) i.code) r) (if (0 : Int) < (step (0, 0) i.code).1 then (step (0, 0) i.code).1 else 0, if (0 : Int) < (step (0, 0) i.code).2 then (step (0, 0) i.code).2 else 0)).1
    simp only [step, hi] at this ⊢
    simp at this ⊢
    omega
end Stil
/- Plain facts on the verifier: the heights, one behind the other. -/
namespace Stil
def stFrom : Int × Int → List Inst → Nat → Int × Int
  | s, _, 0 => s
  | s, [], _ + 1 => s
  | s, i :: r, j + 1 => stFrom (step s i.code) r j
theorem stFrom_zero (s : Int × Int) (l : List Inst) : stFrom s l 0 = s := by cases l <;> rfl
theorem stFrom_succ (l : List Inst) : ∀ (s : Int × Int) (j : Nat) (h : j < l.length), stFrom s l (j + 1) = step (stFrom s l j) l[j].code := by
  induction l with
  | nil => intro s j h; simp at h
  | cons i r ih =>
    intro s j h
    cases j with
    | zero =>
      show stFrom (step s i.code) r 0 = _
      rw [stFrom_zero]
      rfl
    | succ j =>
      have hj : j < r.length := by simpa using h
      show stFrom (step s i.code) r (j + 1) = step (stFrom (step s i.code) r j) r[j].code
      exact ih _ j hj
theorem trace_get (l : List Inst) : ∀ (s : Int × Int) (j : Nat), j < l.length → (traceFrom s l)[j]? = some (stFrom s l (j + 1)) := by
  induction l with
  | nil => intro s j h; simp at h
  | cons i r ih =>
    intro s j h
    rw [traceFrom]
    cases j with
    | zero => show some _ = some (stFrom (step s i.code) r 0); rw [stFrom_zero]
    | succ j =>
      show (traceFrom (step s i.code) r)[j]? = some (stFrom (step s i.code) r (j + 1))
      exact ih _ j (by simpa using h)
theorem trace_snoc (l : List Inst) (j : Nat) (h : j < l.length) : (traceFrom (0, 0) l).take (j + 1) = (traceFrom (0, 0) l).take j ++ [step (stFrom (0, 0) l j) l[j].code] := by
  have hl : j < (traceFrom (0, 0) l).length := by rw [traceFrom_len]; exact h
  rw [List.take_succ_eq_append_getElem hl]
  congr 2
  have := trace_get l (0, 0) j h
  rw [List.getElem?_eq_getElem hl, stFrom_succ l (0, 0) j h] at this
  exact Option.some.inj this
theorem st_bound (l : List Inst) : ∀ (s : Int × Int) (j : Nat), s.1 - j ≤ (stFrom s l j).1 ∧ (stFrom s l j).1 ≤ s.1 + j ∧ s.2 - j ≤ (stFrom s l j).2 ∧ (stFrom s l j).2 ≤ s.2 + j := by
  induction l with
  | nil =>
    intro s j
    cases j <;> simp only [stFrom] <;> omega
  | cons i r ih =>
    intro s j
    cases j with
    | zero => rw [stFrom_zero]; omega
    | succ j =>
      have h1 : s.1 - 1 ≤ (step s i.code).1 ∧ (step s i.code).1 ≤ s.1 + 1 := by
        unfold step
        simp only
        split
        · omega
        · split <;> omega
      have h2 : s.2 - 1 ≤ (step s i.code).2 ∧ (step s i.code).2 ≤ s.2 + 1 := by
        unfold step
        simp only
        split
        · omega
        · split <;> omega
      have h3 := ih (step s i.code) j
      show s.1 - ((j + 1 : Nat) : Int) ≤ (stFrom (step s i.code) r j).1 ∧ (stFrom (step s i.code) r j).1 ≤ s.1 + ((j + 1 : Nat) : Int) ∧ s.2 - ((j + 1 : Nat) : Int) ≤ (stFrom (step s i.code) r j).2 ∧ (stFrom (step s i.code) r j).2 ≤ s.2 + ((j + 1 : Nat) : Int)
      omega
end Stil
