/- M7, M7b, M7c, M7d: texts put together. -/
import Derived.Test.YtpaljcoojkbhnaaGreatDoorGM
/- Plain models of chapters 5 and 6: instructions; the verifier's run. -/
namespace Stil
structure Inst where
 code : Int
 one : Elem
def Inst.wf (i : Inst) : Prop := i64 i.code ∧ i.one.wf
def Inst.fits (i : Inst) : Prop := i64 i.code ∧ i.one.fits
def instSz (i : Inst) : Nat := elemSz i.one
def instsSz (l : List Inst) : Nat := l.length + (l.map instSz).sum
theorem instFits_of {i : Inst} (h : i.wf) (hs : instSz i ≤ 1048576) : i.fits := ⟨h.1, elemFits_of h.2 hs⟩
theorem insts_fit {l : List Inst} (h : ∀ x ∈ l, x.wf) (hs : instsSz l ≤ 1048576) : (∀ x ∈ l, x.fits) ∧ l.length ≤ 1048576 := by
 have e : instsSz l = l.length + (l.map instSz).sum := rfl
 refine ⟨fun x hx => instFits_of (h x hx) ?_, by omega⟩
 have := mem_le_sum instSz l x hx
 omega
def listWords : List (List UInt8) := [[], [108, 100], [97, 110, 100], [111, 114], [97, 110, 98], [111, 114, 98], [105, 110, 118], [109, 112, 115], [109, 114, 100], [109, 112, 112], [99, 111, 105, 108], [101, 110, 100]]
def noElem (e : Elem) : Bool := e.op == 0 && e.args.length == 0
/-- Is this an instruction? -/
def listOk (i : Inst) : Bool := if i.code < 1 ∨ 11 < i.code then false else if i.code ≤ 3 then isContact i.one.op i.one.args else if i.code = 10 then isCoil i.one.op i.one.args else noElem i.one
/-- What is known ahead of an instruction. -/
structure Pt where
 bits : Int
 forks : Int
 seen : Bool
 coil : Bool
def pt0 : Pt := ⟨0, 0, false, false⟩
def needs (c : Int) : Int := if c = 1 then 0 else if c = 4 ∨ c = 5 then 2 else 1
def low (c : Int) : Int := if c = 5 then 2 else 1
def wrong (s : Pt) (i : Inst) : Int :=
 if listOk i = false then 2
 else if s.bits < needs i.code then 3
 else if i.code = 1 ∧ s.bits = 16 then 4
 else if 7 ≤ i.code ∧ 1 < s.bits then 5
 else if s.seen = true ∧ s.bits = low i.code ∧ (i.code = 3 ∨ i.code = 6 ∨ i.code = 5) then 6
 else if i.code = 7 ∧ s.forks = 8 then 7
 else if (i.code = 8 ∨ i.code = 9) ∧ s.forks = 0 then 7
 else if i.code = 11 ∧ 0 < s.forks then 7
 else if (i.code = 8 ∨ i.code = 9 ∨ i.code = 11) ∧ s.coil = false then 8
 else 0
def next (s : Pt) (c : Int) : Pt :=
 if c = 11 then pt0
 else ⟨if c = 1 then s.bits + 1 else if c = 4 ∨ c = 5 then s.bits - 1 else s.bits, if c = 7 then s.forks + 1 else if c = 9 then s.forks - 1 else s.forks, s.seen || c == 10 || c == 7, c == 10⟩
def sureFrom : Pt → Nat → List Inst → Int × Nat
 | s, k, [] => if 0 < s.bits then (9, k) else (0, 0)
 | s, k, i :: r => if 0 < wrong s i then (wrong s i, k) else sureFrom (next s i.code) (k + 1) r
def sureCheck (l : List Inst) : Int × Nat := if 1000 < l.length then (1, 0) else sureFrom pt0 0 l
theorem sureFrom_drop (l : List Inst) (s : Pt) (j : Nat) (h : j < l.length) : sureFrom s j (l.drop j) = if 0 < wrong s l[j] then (wrong s l[j], j) else sureFrom (next s l[j].code) (j + 1) (l.drop (j + 1)) := by
 rw [List.drop_eq_getElem_cons h]; rfl
theorem sureFrom_end (l : List Inst) (s : Pt) (j : Nat) (h : l.length ≤ j) : sureFrom s j (l.drop j) = if 0 < s.bits then (9, j) else (0, 0) := by
 rw [List.drop_of_length_le h]; rfl
/-- What holds at every place that a run comes to. -/
def Pt.good (s : Pt) : Prop := 0 ≤ s.bits ∧ s.bits ≤ 16 ∧ 0 ≤ s.forks ∧ s.forks ≤ 8 ∧ (s.bits = 0 → s = pt0)
theorem good0 : pt0.good := ⟨by decide, by decide, by decide, by decide, fun _ => rfl⟩
theorem wrong_bound (s : Pt) (i : Inst) : 0 ≤ wrong s i ∧ wrong s i ≤ 8 := by
 unfold wrong
 repeat' split
 all_goals omega
theorem ok_code {i : Inst} (h : listOk i = true) : 1 ≤ i.code ∧ i.code ≤ 11 := by
 unfold listOk at h
 split at h
 ·cases h
 ·omega
/-- The facts of an instruction with which nothing is wrong. -/
theorem wrong_zero {s : Pt} {i : Inst} (h : wrong s i = 0) : listOk i = true ∧ needs i.code ≤ s.bits ∧ ¬ (i.code = 1 ∧ s.bits = 16) ∧ ¬ (7 ≤ i.code ∧ 1 < s.bits) ∧ ¬ (s.seen = true ∧ s.bits = low i.code ∧ (i.code = 3 ∨ i.code = 6 ∨ i.code = 5)) ∧
  ¬ (i.code = 7 ∧ s.forks = 8) ∧ ¬ ((i.code = 8 ∨ i.code = 9) ∧ s.forks = 0) ∧ ¬ (i.code = 11 ∧ 0 < s.forks) ∧ ¬ ((i.code = 8 ∨ i.code = 9 ∨ i.code = 11) ∧ s.coil = false) := by
 unfold wrong at h
 split at h
 ·omega
 rename_i h0
 split at h
 ·omega
 rename_i h1
 split at h
 ·omega
 rename_i h2
 split at h
 ·omega
 rename_i h3
 split at h
 ·omega
 rename_i h4
 split at h
 ·omega
 rename_i h5
 split at h
 ·omega
 rename_i h6
 split at h
 ·omega
 rename_i h7
 split at h
 ·omega
 rename_i h8
 exact ⟨by simpa using h0, by omega, h2, h3, h4, h5, h6, h7, h8⟩
theorem good_next {s : Pt} {i : Inst} (g : s.good) (h : wrong s i = 0) : (next s i.code).good := by
 obtain ⟨h0, h1, h2, h3, _, h5, h6, _, _⟩ := wrong_zero h
 obtain ⟨a, b, c, d, e⟩ := g
 have hc := ok_code h0
 unfold next
 by_cases hE : i.code = 11
 ·rw [if_pos hE]; exact good0
 ·rw [if_neg hE]
  unfold needs at h1
  refine ⟨?_, ?_, ?_, ?_, ?_⟩
  ·show 0 ≤ (if i.code = 1 then s.bits + 1 else if i.code = 4 ∨ i.code = 5 then s.bits - 1 else s.bits)
   split
   ·omega
   ·split <;> omega
  ·show (if i.code = 1 then s.bits + 1 else if i.code = 4 ∨ i.code = 5 then s.bits - 1 else s.bits) ≤ 16
   split
   ·omega
   ·split <;> omega
  ·show 0 ≤ (if i.code = 7 then s.forks + 1 else if i.code = 9 then s.forks - 1 else s.forks)
   split
   ·omega
   ·split <;> omega
  ·show (if i.code = 7 then s.forks + 1 else if i.code = 9 then s.forks - 1 else s.forks) ≤ 8
   split
   ·omega
   ·split <;> omega
  ·intro hz
   exfalso
   have hz' : (if i.code = 1 then s.bits + 1 else if i.code = 4 ∨ i.code = 5 then s.bits - 1 else s.bits) = 0 := hz
   by_cases c1 : i.code = 1
   ·rw [if_pos c1] at hz'; clear h1; omega
   ·rw [if_neg c1] at hz' h1
    by_cases c2 : i.code = 4 ∨ i.code = 5
    ·rw [if_pos c2] at hz' h1; omega
    ·rw [if_neg c2] at hz' h1; omega
/-- The program's rules, in their order. -/
def rule (k : Nat) (s : Pt) (i : Inst) : Bool :=
 match k with
 | 0 => !listOk i
 | 1 => decide (s.bits < needs i.code)
 | 2 => decide (i.code = 1) && decide (s.bits = 16)
 | 3 => if i.code = 7 ∨ i.code = 8 ∨ i.code = 9 ∨ i.code = 10 ∨ i.code = 11 then decide (1 < s.bits) else false
 | 4 => if i.code = 3 ∨ i.code = 6 then s.seen && decide (s.bits = 1) else if i.code = 5 then s.seen && decide (s.bits = 2) else false
 | 5 => if i.code = 7 then decide (s.forks = 8) else if i.code = 8 ∨ i.code = 9 then decide (s.forks = 0) else if i.code = 11 then decide (s.forks ≠ 0) else false
 | _ => if i.code = 8 ∨ i.code = 9 ∨ i.code = 11 then !s.coil else false
theorem wrong_rules {s : Pt} (i : Inst) (_g0 : 0 ≤ s.bits) (g : 0 ≤ s.forks) :
  wrong s i = if rule 0 s i then 2 else if rule 1 s i then 3 else if rule 2 s i then 4 else if rule 3 s i then 5 else if rule 4 s i then 6 else if rule 5 s i then 7 else if rule 6 s i then 8 else 0 := by
 cases h0 : listOk i with
 | true =>
  have hc := ok_code h0
  have hx : i.code = 1 ∨ i.code = 2 ∨ i.code = 3 ∨ i.code = 4 ∨ i.code = 5 ∨ i.code = 6 ∨ i.code = 7 ∨ i.code = 8 ∨ i.code = 9 ∨ i.code = 10 ∨ i.code = 11 := by omega
  rcases hx with h | h | h | h | h | h | h | h | h | h | h
  all_goals simp [wrong, rule, needs, low, h0, h]
  all_goals grind
 | false => simp [wrong, rule, h0]
/-- The program's point behind an instruction is the specification's, where nothing is wrong. -/
def behind (s : Pt) (c : Int) : Pt := ⟨if c = 1 then s.bits + 1 else if c = 4 ∨ c = 5 ∨ c = 11 then s.bits - 1 else s.bits, if c = 7 then s.forks + 1 else if c = 9 then s.forks - 1 else s.forks, decide (c ≠ 11) && (s.seen || c == 10 || c == 7), c == 10⟩
theorem behind_next {s : Pt} {i : Inst} (g : s.good) (h : wrong s i = 0) : behind s i.code = next s i.code := by
 obtain ⟨h0, h1, _, h3, _, _, _, h7, _⟩ := wrong_zero h
 obtain ⟨a, b, c, d, e⟩ := g
 have hc := ok_code h0
 unfold next behind
 by_cases hE : i.code = 11
 ·rw [if_pos hE]
  have hb : s.bits = 1 := by
   have : needs i.code = 1 := by rw [hE]; rfl
   omega
  have hf : s.forks = 0 := by omega
  simp [hE, hb, hf, pt0]
 ·rw [if_neg hE]
  simp [hE]
theorem good_zero {s : Pt} (g : s.good) : (s = pt0) ↔ s.bits ≤ 0 := by
 constructor
 ·rintro rfl; decide
 ·intro h; exact g.2.2.2.2 (by have := g.1; omega)
theorem wrong_first {s : Pt} {i : Inst} (g : s.good) (k : Nat) (hk : k < 7) (hf : ∀ q, q < k → rule q s i = false) (ht : rule k s i = true) : wrong s i = (k + 2 : Nat) := by
 rw [wrong_rules i g.1 g.2.2.1]
 have hx : k = 0 ∨ k = 1 ∨ k = 2 ∨ k = 3 ∨ k = 4 ∨ k = 5 ∨ k = 6 := by omega
 rcases hx with rfl | rfl | rfl | rfl | rfl | rfl | rfl
 ·simp [ht]
 ·simp [hf 0 (by omega), ht]
 ·simp [hf 0 (by omega), hf 1 (by omega), ht]
 ·simp [hf 0 (by omega), hf 1 (by omega), hf 2 (by omega), ht]
 ·simp [hf 0 (by omega), hf 1 (by omega), hf 2 (by omega), hf 3 (by omega), ht]
 ·simp [hf 0 (by omega), hf 1 (by omega), hf 2 (by omega), hf 3 (by omega), hf 4 (by omega), ht]
 ·simp [hf 0 (by omega), hf 1 (by omega), hf 2 (by omega), hf 3 (by omega), hf 4 (by omega), hf 5 (by omega), ht]
theorem wrong_none {s : Pt} {i : Inst} (g : s.good) (hf : ∀ q, q < 7 → rule q s i = false) : wrong s i = 0 := by
 rw [wrong_rules i g.1 g.2.2.1]
 simp [hf 0 (by omega), hf 1 (by omega), hf 2 (by omega), hf 3 (by omega), hf 4 (by omega), hf 5 (by omega), hf 6 (by omega)]
theorem sureFrom_zero (l : List Inst) : ∀ (s : Pt) (k : Nat), ¬ 0 < (sureFrom s k l).1 → (sureFrom s k l).1 = 0 ∧ (sureFrom s k l).2 = 0 := by
 induction l with
 | nil =>
  intro s k h
  unfold sureFrom at h ⊢
  by_cases hb : 0 < s.bits
  ·rw [if_pos hb] at h; exact absurd (show (0 : Int) < 9 by decide) h
  ·rw [if_neg hb]; exact ⟨rfl, rfl⟩
 | cons i r ih =>
  intro s k h
  unfold sureFrom at h ⊢
  by_cases hb : 0 < wrong s i
  ·rw [if_pos hb] at h; exact absurd hb h
  ·rw [if_neg hb] at h ⊢; exact ih _ _ h
theorem sureCheck_zero (l : List Inst) (h : ¬ 0 < (sureCheck l).1) : (sureCheck l).1 = 0 ∧ (sureCheck l).2 = 0 := by
 unfold sureCheck at h ⊢
 by_cases hb : 1000 < l.length
 ·rw [if_pos hb] at h; exact absurd (show (0 : Int) < 1 by decide) h
 ·rw [if_neg hb] at h ⊢; exact sureFrom_zero l _ _ h
/-- The rungs that are still to come, with what is there of the first. -/
def rungsFrom : List Inst → List Inst → List (List Inst)
 | _, [] => []
 | cs, i :: r => if i.code = 11 then (cs ++ [i]) :: rungsFrom [] r else rungsFrom (cs ++ [i]) r
theorem rungsFrom_drop (cs l : List Inst) (j : Nat) (h : j < l.length) : rungsFrom cs (l.drop j) = if l[j].code = 11 then (cs ++ [l[j]]) :: rungsFrom [] (l.drop (j + 1)) else rungsFrom (cs ++ [l[j]]) (l.drop (j + 1)) := by
 rw [List.drop_eq_getElem_cons h]; rfl
def sureRungs (l : List Inst) : List (List Inst) := if 0 < (sureCheck l).1 then [] else rungsFrom [] l
theorem sureCheck_len {l : List Inst} (h : (sureCheck l).1 = 0) : l.length ≤ 1000 := by
 unfold sureCheck at h
 by_cases hb : 1000 < l.length
 ·rw [if_pos hb] at h; exact absurd h (by decide)
 ·omega
theorem rungsFrom_mem (l : List Inst) : ∀ (cs r : List Inst), r ∈ rungsFrom cs l → 0 < r.length ∧ (∀ x ∈ r, x ∈ cs ∨ x ∈ l) ∧ r.length ≤ cs.length + l.length := by
 induction l with
 | nil => intro cs r h; simp [rungsFrom] at h
 | cons i t ih =>
  intro cs r h
  rw [rungsFrom] at h
  by_cases hc : i.code = 11
  ·rw [if_pos hc] at h
   rcases List.mem_cons.1 h with rfl | h
   ·refine ⟨by simp, fun x hx => ?_, by simp⟩
    rcases List.mem_append.1 hx with hx | hx
    ·exact .inl hx
    ·exact .inr (by simp [List.mem_singleton.1 hx])
   ·obtain ⟨h1, h2, h3⟩ := ih [] r h
    refine ⟨h1, fun x hx => ?_, by simp at h3 ⊢; omega⟩
    rcases h2 x hx with h | h
    ·cases h
    ·exact .inr (List.mem_cons_of_mem _ h)
  ·rw [if_neg hc] at h
   obtain ⟨h1, h2, h3⟩ := ih (cs ++ [i]) r h
   refine ⟨h1, fun x hx => ?_, by simp at h3 ⊢; omega⟩
   rcases h2 x hx with h | h
   ·rcases List.mem_append.1 h with h | h
    ·exact .inl h
    ·exact .inr (by simp [List.mem_singleton.1 h])
   ·exact .inr (List.mem_cons_of_mem _ h)
theorem rungsFrom_len (l : List Inst) : ∀ cs : List Inst, (rungsFrom cs l).length ≤ l.length := by
 induction l with
 | nil => intro cs; simp [rungsFrom]
 | cons i t ih =>
  intro cs
  rw [rungsFrom]
  split
  ·have := ih []; simp; omega
  ·have := ih (cs ++ [i]); simp; omega
end Stil
/- Plain facts on the verifier: rungs, and lists one behind the other. -/
namespace Stil
/-- The place that a run comes to, if nothing is wrong on its way. -/
def run : Pt → List Inst → Option Pt
 | s, [] => some s
 | s, i :: r => if 0 < wrong s i then none else run (next s i.code) r
theorem sure_run (l : List Inst) : ∀ (s : Pt) (k : Nat), (sureFrom s k l).1 = 0 ↔ ∃ t, run s l = some t ∧ ¬ 0 < t.bits := by
 induction l with
 | nil =>
  intro s k
  rw [sureFrom, run]
  by_cases h : 0 < s.bits
  ·rw [if_pos h]
   constructor
   ·intro h2; simp at h2
   ·rintro ⟨t, h1, h2⟩
    injection h1 with h1
    subst h1
    exact absurd h h2
  ·rw [if_neg h]
   exact ⟨fun _ => ⟨s, rfl, h⟩, fun _ => rfl⟩
 | cons i r ih =>
  intro s k
  rw [sureFrom, run]
  by_cases h : 0 < wrong s i
  ·rw [if_pos h, if_pos h]
   constructor
   ·intro h2; simp only at h2; omega
   ·rintro ⟨t, h1, _⟩; cases h1
  ·rw [if_neg h, if_neg h]
   exact ih _ _
theorem run_append (a b : List Inst) : ∀ s, run s (a ++ b) = (run s a).bind fun t => run t b := by
 induction a with
 | nil => intro s; rfl
 | cons i r ih =>
  intro s
  rw [List.cons_append, run, run]
  split
  ·rfl
  ·exact ih _
theorem run_good (l : List Inst) : ∀ (s t : Pt), s.good → run s l = some t → t.good := by
 induction l with
 | nil => intro s t g h; injection h with h; subst h; exact g
 | cons i r ih =>
  intro s t g h
  rw [run] at h
  split at h
  ·cases h
  ·rename_i h0
   have hb := wrong_bound s i
   exact ih _ _ (good_next g (by omega)) h
theorem next_pos {s : Pt} {i : Inst} (h : wrong s i = 0) (h11 : i.code ≠ 11) : 0 < (next s i.code).bits := by
 obtain ⟨h0, h1, _⟩ := wrong_zero h
 unfold next
 rw [if_neg h11]
 unfold needs at h1
 show 0 < (if i.code = 1 then s.bits + 1 else if i.code = 4 ∨ i.code = 5 then s.bits - 1 else s.bits)
 split
 ·rename_i hc
  rw [if_pos hc] at h1
  omega
 ·rename_i hc
  rw [if_neg hc] at h1
  split at h1 <;> split <;> omega
theorem next_end (s : Pt) {i : Inst} (h : i.code = 11) : next s i.code = pt0 := by
 unfold next
 rw [if_pos h]
theorem rungs_ok (l : List Inst) : ∀ (cs : List Inst) (s : Pt), run pt0 cs = some s → (∀ x ∈ cs, x.code ≠ 11) → (cs = [] ∨ 0 < s.bits) → (∃ t, run s l = some t ∧ ¬ 0 < t.bits) →
  (rungsFrom cs l).flatten = cs ++ l ∧ (∀ b, rungsFrom cs (l ++ b) = rungsFrom cs l ++ rungsFrom [] b) ∧ ∀ r ∈ rungsFrom cs l, run pt0 r = some pt0 ∧ ∃ xs i, r = xs ++ [i] ∧ i.code = 11 ∧ ∀ x ∈ xs, x.code ≠ 11 := by
 induction l with
 | nil =>
  rintro cs s h1 h2 h3 ⟨t, h4, h5⟩
  injection h4 with h4
  subst h4
  have h6 : cs = [] := by rcases h3 with h | h; exact h; exact absurd h h5
  subst h6
  exact ⟨rfl, fun b => rfl, fun r hr => by cases hr⟩
 | cons i r ih =>
  rintro cs s h1 h2 h3 ⟨t, h4, h5⟩
  rw [run] at h4
  split at h4
  ·cases h4
  rename_i h0
  have hb := wrong_bound s i
  have hw : wrong s i = 0 := by omega
  have hrun : run pt0 (cs ++ [i]) = some (next s i.code) := by
   rw [run_append, h1]
   show run s [i] = _
   rw [run, if_neg h0, run]
  by_cases h11 : i.code = 11
  ·have hn := next_end s h11
   rw [hn] at h4 hrun
   obtain ⟨a1, a2, a3⟩ := ih [] pt0 rfl (by simp) (.inl rfl) ⟨t, h4, h5⟩
   rw [rungsFrom, if_pos h11]
   refine ⟨by rw [List.flatten_cons, a1]; simp, fun b => by rw [List.cons_append, rungsFrom, if_pos h11, a2, List.cons_append], fun q hq => ?_⟩
   rcases List.mem_cons.1 hq with rfl | hq
   ·exact ⟨hrun, cs, i, rfl, h11, h2⟩
   ·exact a3 q hq
  ·obtain ⟨a1, a2, a3⟩ := ih (cs ++ [i]) (next s i.code) hrun (fun x hx => by rcases List.mem_append.1 hx with h | h; exact h2 x h; rw [List.mem_singleton.1 h]; exact h11) (.inr (next_pos hw h11)) ⟨t, h4, h5⟩
   rw [rungsFrom, if_neg h11]
   exact ⟨by rw [a1]; simp, fun b => by rw [List.cons_append, rungsFrom, if_neg h11, a2], a3⟩
theorem one_rung (xs : List Inst) (i : Inst) (h : i.code = 11) : ∀ cs, (∀ x ∈ xs, x.code ≠ 11) → rungsFrom cs (xs ++ [i]) = [cs ++ xs ++ [i]] := by
 induction xs with
 | nil => intro cs _; rw [List.nil_append, rungsFrom, if_pos h, rungsFrom]; simp
 | cons x r ih =>
  intro cs hx
  rw [List.cons_append, rungsFrom, if_neg (hx x (by simp)), ih _ (fun y hy => hx y (by simp [hy]))]
  simp
theorem check_run {l : List Inst} : (sureCheck l).1 = 0 ↔ l.length ≤ 1000 ∧ ∃ t, run pt0 l = some t ∧ ¬ 0 < t.bits := by
 unfold sureCheck
 by_cases h : 1000 < l.length
 ·rw [if_pos h]
  constructor
  ·intro h2; simp at h2
  ·rintro ⟨h2, _⟩; omega
 ·rw [if_neg h, sure_run]
  exact ⟨fun h2 => ⟨by omega, h2⟩, fun h2 => h2.2⟩
theorem sure_zero {l : List Inst} (h : (sureCheck l).1 = 0) : sureCheck l = (0, 0) := by
 have := sureCheck_zero l (by omega)
 exact Prod.ext this.1 this.2
theorem sure_rungs {l : List Inst} (h : (sureCheck l).1 = 0) : (sureRungs l).flatten = l ∧ ∀ r ∈ sureRungs l, sureCheck r = (0, 0) ∧ (sureRungs r).length = 1 := by
 obtain ⟨hl, ht⟩ := check_run.1 h
 obtain ⟨a1, _, a3⟩ := rungs_ok l [] pt0 rfl (by simp) (.inl rfl) ht
 have e : sureRungs l = rungsFrom [] l := by unfold sureRungs; rw [if_neg (by omega)]
 rw [e]
 refine ⟨by simpa using a1, fun r hr => ?_⟩
 obtain ⟨b1, xs, i, rfl, b2, b3⟩ := a3 r hr
 have hlen := (rungsFrom_mem l [] _ hr).2.2
 have hz : (sureCheck (xs ++ [i])).1 = 0 := check_run.2 ⟨by simp at hlen ⊢; omega, pt0, b1, by decide⟩
 refine ⟨sure_zero hz, ?_⟩
 unfold sureRungs
 rw [if_neg (by omega), one_rung xs i b2 [] b3]
 rfl
theorem sure_join {a b : List Inst} (ha : (sureCheck a).1 = 0) (hb : (sureCheck b).1 = 0) (hl : a.length + b.length ≤ 1000) : sureCheck (a ++ b) = (0, 0) ∧ (sureRungs (a ++ b)).length = (sureRungs a).length + (sureRungs b).length := by
 obtain ⟨hla, t, ht, htb⟩ := check_run.1 ha
 obtain ⟨hlb, hrb⟩ := check_run.1 hb
 have hg := run_good a pt0 t good0 ht
 have h0 : t = pt0 := hg.2.2.2.2 (by have := hg.1; omega)
 subst h0
 have hz : (sureCheck (a ++ b)).1 = 0 := check_run.2 ⟨by simp; omega, by rw [run_append, ht]; exact hrb⟩
 refine ⟨sure_zero hz, ?_⟩
 obtain ⟨_, a2, _⟩ := rungs_ok a [] pt0 rfl (by simp) (.inl rfl) ⟨pt0, ht, by decide⟩
 unfold sureRungs
 rw [if_neg (by omega), if_neg (by omega), if_neg (by omega), a2, List.length_append]
end Stil
