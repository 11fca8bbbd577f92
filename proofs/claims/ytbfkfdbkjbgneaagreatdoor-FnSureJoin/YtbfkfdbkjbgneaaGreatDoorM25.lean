/- Plain facts on the verifier: rungs, and lists one behind the other. -/
import Derived.Test.YtbfkfdbkjbgneaaGreatDoorGZ
namespace Stil
/-- The place that a run comes to, if nothing is wrong on its way. -/
def run : Pt → List Inst → Option Pt
  | s, [] => some s
  | s, i :: r => if 0 < wrong s i then none else run (next s i.code) r
theorem sure_run (l : List Inst) : ∀ (s : Pt) (k : Nat), (sureFrom s k l).1 = 0 ↔ ∃ t, run s l = some t ∧ ¬ 0 < t.bits := by
  induction l with
  | nil =>
    intro s k
    rw [sureFrom, run]
    by_cases h : 0 < s.bits
    · rw [if_pos h]
      constructor
      · intro h2; simp at h2
      · rintro ⟨t, h1, h2⟩
        injection h1 with h1
        subst h1
        exact absurd h h2
    · rw [if_neg h]
      exact ⟨fun _ => ⟨s, rfl, h⟩, fun _ => rfl⟩
  | cons i r ih =>
    intro s k
    rw [sureFrom, run]
    by_cases h : 0 < wrong s i
    · rw [if_pos h, if_pos h]
      constructor
      · intro h2; simp only at h2; omega
      · rintro ⟨t, h1, _⟩; cases h1
    · rw [if_neg h, if_neg h]
      exact ih _ _
theorem run_append (a b : List Inst) : ∀ s, run s (a ++ b) = (run s a).bind fun t => run t b := by
  induction a with
  | nil => intro s; rfl
  | cons i r ih =>
    intro s
    rw [List.cons_append, run, run]
    split
    · rfl
    · exact ih _
theorem run_good (l : List Inst) : ∀ (s t : Pt), s.good → run s l = some t → t.good := by
  induction l with
  | nil => intro s t g h; injection h with h; subst h; exact g
  | cons i r ih =>
    intro s t g h
    rw [run] at h
    split at h
    · cases h
    · rename_i h0
      have hb := wrong_bound s i
      exact ih _ _ (good_next g (by omega)) h
theorem next_pos {s : Pt} {i : Inst} (h : wrong s i = 0) (h11 : i.code ≠ 11) : 0 < (next s i.code).bits := by
  obtain ⟨h0, h1, _⟩ := wrong_zero h
  unfold next
  rw [if_neg h11]
  unfold needs at h1
  show 0 < (if i.code = 1 then s.bits + 1 else if i.code = 4 ∨ i.code = 5 then s.bits - 1 else s.bits)
  split
  · rename_i hc
    rw [if_pos hc] at h1
    omega
  · rename_i hc
    rw [if_neg hc] at h1
    split at h1 <;> split <;> omega
theorem next_end (s : Pt) {i : Inst} (h : i.code = 11) : next s i.code = pt0 := by
  unfold next
  rw [if_pos h]
theorem rungs_ok (l : List Inst) : ∀ (cs : List Inst) (s : Pt), run pt0 cs = some s → (∀ x ∈ cs, x.code ≠ 11) → (cs = [] ∨ 0 < s.bits) → (∃ t, run s l = some t ∧ ¬ 0 < t.bits) →
    (rungsFrom cs l).flatten = cs ++ l ∧ (∀ b, rungsFrom cs (l ++ b) = rungsFrom cs l ++ rungsFrom [] b) ∧ ∀ r ∈ rungsFrom cs l, run pt0 r = some pt0 ∧ ∃ xs i, r = xs ++ [i] ∧ i.code = 11 ∧ ∀ x ∈ xs, x.code ≠ 11 := by
  induction l with
  | nil =>
    rintro cs s h1 h2 h3 ⟨t, h4, h5⟩
    injection h4 with h4
    subst h4
    have h6 : cs = [] := by rcases h3 with h | h; exact h; exact absurd h h5
    subst h6
    exact ⟨rfl, fun b => rfl, fun r hr => by cases hr⟩
  | cons i r ih =>
    rintro cs s h1 h2 h3 ⟨t, h4, h5⟩
    rw [run] at h4
    split at h4
    · cases h4
    rename_i h0
    have hb := wrong_bound s i
    have hw : wrong s i = 0 := by omega
    have hrun : run pt0 (cs ++ [i]) = some (next s i.code) := by
      rw [run_append, h1]
      show run s [i] = _
      rw [run, if_neg h0, run]
    by_cases h11 : i.code = 11
    · have hn := next_end s h11
      rw [hn] at h4 hrun
      obtain ⟨a1, a2, a3⟩ := ih [] pt0 rfl (by simp) (.inl rfl) ⟨t, h4, h5⟩
      rw [rungsFrom, if_pos h11]
      refine ⟨by rw [List.flatten_cons, a1]; simp, fun b => by rw [List.cons_append, rungsFrom, if_pos h11, a2, List.cons_append], fun q hq => ?_⟩
      rcases List.mem_cons.1 hq with rfl | hq
      · exact ⟨hrun, cs, i, rfl, h11, h2⟩
      · exact a3 q hq
    · obtain ⟨a1, a2, a3⟩ := ih (cs ++ [i]) (next s i.code) hrun (fun x hx => by rcases List.mem_append.1 hx with h | h; exact h2 x h; rw [List.mem_singleton.1 h]; exact h11) (.inr (next_pos hw h11)) ⟨t, h4, h5⟩
      rw [rungsFrom, if_neg h11]
      exact ⟨by rw [a1]; simp, fun b => by rw [List.cons_append, rungsFrom, if_neg h11, a2], a3⟩
theorem one_rung (xs : List Inst) (i : Inst) (h : i.code = 11) : ∀ cs, (∀ x ∈ xs, x.code ≠ 11) → rungsFrom cs (xs ++ [i]) = [cs ++ xs ++ [i]] := by
  induction xs with
  | nil => intro cs _; rw [List.nil_append, rungsFrom, if_pos h, rungsFrom]; simp
  | cons x r ih =>
    intro cs hx
    rw [List.cons_append, rungsFrom, if_neg (hx x (by simp)), ih _ (fun y hy => hx y (by simp [hy]))]
    simp
theorem check_run {l : List Inst} : (sureCheck l).1 = 0 ↔ l.length ≤ 1000 ∧ ∃ t, run pt0 l = some t ∧ ¬ 0 < t.bits := by
  unfold sureCheck
  by_cases h : 1000 < l.length
  · rw [if_pos h]
    constructor
    · intro h2; simp at h2
    · rintro ⟨h2, _⟩; omega
  · rw [if_neg h, sure_run]
    exact ⟨fun h2 => ⟨by omega, h2⟩, fun h2 => h2.2⟩
theorem check_zero {l : List Inst} (h : (sureCheck l).1 = 0) : sureCheck l = (0, 0) := by
  have := sureCheck_zero l (by omega)
  exact Prod.ext this.1 this.2
theorem sure_rungs {l : List Inst} (h : (sureCheck l).1 = 0) : (sureRungs l).flatten = l ∧ ∀ r ∈ sureRungs l, sureCheck r = (0, 0) ∧ (sureRungs r).length = 1 := by
  obtain ⟨hl, ht⟩ := check_run.1 h
  obtain ⟨a1, _, a3⟩ := rungs_ok l [] pt0 rfl (by simp) (.inl rfl) ht
  have e : sureRungs l = rungsFrom [] l := by unfold sureRungs; rw [if_neg (by omega)]
  rw [e]
  refine ⟨by simpa using a1, fun r hr => ?_⟩
  obtain ⟨b1, xs, i, rfl, b2, b3⟩ := a3 r hr
  have hlen := (rungsFrom_mem l [] _ hr).2.2
  have hz : (sureCheck (xs ++ [i])).1 = 0 := check_run.2 ⟨by simp at hlen ⊢; omega, pt0, b1, by decide⟩
  refine ⟨check_zero hz, ?_⟩
  unfold sureRungs
  rw [if_neg (by omega), one_rung xs i b2 [] b3]
  rfl
theorem sure_join {a b : List Inst} (ha : (sureCheck a).1 = 0) (hb : (sureCheck b).1 = 0) (hl : a.length + b.length ≤ 1000) : sureCheck (a ++ b) = (0, 0) ∧ (sureRungs (a ++ b)).length = (sureRungs a).length + (sureRungs b).length := by
  obtain ⟨hla, t, ht, htb⟩ := check_run.1 ha
  obtain ⟨hlb, hrb⟩ := check_run.1 hb
  have hg := run_good a pt0 t good0 ht
  have h0 : t = pt0 := hg.2.2.2.2 (by have := hg.1; omega)
  subst h0
  have hz : (sureCheck (a ++ b)).1 = 0 := check_run.2 ⟨by simp; omega, by rw [run_append, ht]; exact hrb⟩
  refine ⟨check_zero hz, ?_⟩
  obtain ⟨_, a2, _⟩ := rungs_ok a [] pt0 rfl (by simp) (.inl rfl) ⟨pt0, ht, by decide⟩
  unfold sureRungs
  rw [if_neg (by omega), if_neg (by omega), if_neg (by omega), a2, List.length_append]
end Stil
