/- M7: texts put together. -/
import Derived.Test.YthhfnncehfkbfaaDoorGM
/- Plain models of chapters 5 and 6: instructions; the verifier's run. -/
namespace Stil
structure Inst where
  code : Int
  one : Elem
def Inst.wf (i : Inst) : Prop := i64 i.code ∧ i.one.wf
def Inst.fits (i : Inst) : Prop := i64 i.code ∧ i.one.fits
def instSz (i : Inst) : Nat := elemSz i.one
def instsSz (l : List Inst) : Nat := l.length + (l.map instSz).sum
theorem instFits_of {i : Inst} (h : i.wf) (hs : instSz i ≤ 1048576) : i.fits := ⟨h.1, elemFits_of h.2 hs⟩
theorem insts_fit {l : List Inst} (h : ∀ x ∈ l, x.wf) (hs : instsSz l ≤ 1048576) : (∀ x ∈ l, x.fits) ∧ l.length ≤ 1048576 := by
  have e : instsSz l = l.length + (l.map instSz).sum := rfl
  refine ⟨fun x hx => instFits_of (h x hx) ?_, by omega⟩
  have := mem_le_sum instSz l x hx
  omega
def listWords : List (List UInt8) := [[], [108, 100], [97, 110, 100], [111, 114], [97, 110, 98], [111, 114, 98], [105, 110, 118], [109, 112, 115], [109, 114, 100], [109, 112, 112], [99, 111, 105, 108], [101, 110, 100]]
def noElem (e : Elem) : Bool := e.op == 0 && e.args.length == 0
/-- Is this an instruction? -/
def listOk (i : Inst) : Bool := if i.code < 1 ∨ 11 < i.code then false else if i.code ≤ 3 then isContact i.one.op i.one.args else if i.code = 10 then isCoil i.one.op i.one.args else noElem i.one
/-- What is known ahead of an instruction. -/
structure Pt where
  bits : Int
  forks : Int
  seen : Bool
  coil : Bool
def pt0 : Pt := ⟨0, 0, false, false⟩
def needs (c : Int) : Int := if c = 1 then 0 else if c = 4 ∨ c = 5 then 2 else 1
def low (c : Int) : Int := if c = 5 then 2 else 1
def wrong (s : Pt) (i : Inst) : Int :=
  if listOk i = false then 2
  else if s.bits < needs i.code then 3
  else if i.code = 1 ∧ s.bits = 16 then 4
  else if 7 ≤ i.code ∧ 1 < s.bits then 5
  else if s.seen = true ∧ s.bits = low i.code ∧ (i.code = 3 ∨ i.code = 6 ∨ i.code = 5) then 6
  else if i.code = 7 ∧ s.forks = 8 then 7
  else if (i.code = 8 ∨ i.code = 9) ∧ s.forks = 0 then 7
  else if i.code = 11 ∧ 0 < s.forks then 7
  else if (i.code = 8 ∨ i.code = 9 ∨ i.code = 11) ∧ s.coil = false then 8
  else 0
def next (s : Pt) (c : Int) : Pt :=
  if c = 11 then pt0
  else ⟨if c = 1 then s.bits + 1 else if c = 4 ∨ c = 5 then s.bits - 1 else s.bits, if c = 7 then s.forks + 1 else if c = 9 then s.forks - 1 else s.forks, s.seen || c == 10 || c == 7, c == 10⟩
def sureFrom : Pt → Nat → List Inst → Int × Nat
  | s, k, [] => if 0 < s.bits then (9, k) else (0, 0)
  | s, k, i :: r => if 0 < wrong s i then (wrong s i, k) else sureFrom (next s i.code) (k + 1) r
def sureCheck (l : List Inst) : Int × Nat := if 1000 < l.length then (1, 0) else sureFrom pt0 0 l
theorem sureFrom_drop (l : List Inst) (s : Pt) (j : Nat) (h : j < l.length) : sureFrom s j (l.drop j) = if 0 < wrong s l[j] then (wrong s l[j], j) else sureFrom (next s l[j].code) (j + 1) (l.drop (j + 1)) := by
  rw [List.drop_eq_getElem_cons h]; rfl
theorem sureFrom_end (l : List Inst) (s : Pt) (j : Nat) (h : l.length ≤ j) : sureFrom s j (l.drop j) = if 0 < s.bits then (9, j) else (0, 0) := by
  rw [List.drop_of_length_le h]; rfl
/-- What holds at every place that a run comes to. -/
def Pt.good (s : Pt) : Prop := 0 ≤ s.bits ∧ s.bits ≤ 16 ∧ 0 ≤ s.forks ∧ s.forks ≤ 8 ∧ (s.bits = 0 → s = pt0)
theorem good0 : pt0.good := ⟨by decide, by decide, by decide, by decide, fun _ => rfl⟩
theorem wrong_bound (s : Pt) (i : Inst) : 0 ≤ wrong s i ∧ wrong s i ≤ 8 := by
  unfold wrong
  repeat' split
  all_goals omega
theorem ok_code {i : Inst} (h : listOk i = true) : 1 ≤ i.code ∧ i.code ≤ 11 := by
  unfold listOk at h
  split at h
  · cases h
  · omega
/-- The facts of an instruction with which nothing is wrong. -/
theorem wrong_zero {s : Pt} {i : Inst} (h : wrong s i = 0) : listOk i = true ∧ needs i.code ≤ s.bits ∧ ¬ (i.code = 1 ∧ s.bits = 16) ∧ ¬ (7 ≤ i.code ∧ 1 < s.bits) ∧ ¬ (s.seen = true ∧ s.bits = low i.code ∧ (i.code = 3 ∨ i.code = 6 ∨ i.code = 5)) ∧
    ¬ (i.code = 7 ∧ s.forks = 8) ∧ ¬ ((i.code = 8 ∨ i.code = 9) ∧ s.forks = 0) ∧ ¬ (i.code = 11 ∧ 0 < s.forks) ∧ ¬ ((i.code = 8 ∨ i.code = 9 ∨ i.code = 11) ∧ s.coil = false) := by
  unfold wrong at h
  split at h
  · omega
  rename_i h0
  split at h
  · omega
  rename_i h1
  split at h
  · omega
  rename_i h2
  split at h
  · omega
  rename_i h3
  split at h
  · omega
  rename_i h4
  split at h
  · omega
  rename_i h5
  split at h
  · omega
  rename_i h6
  split at h
  · omega
  rename_i h7
  split at h
  · omega
  rename_i h8
  exact ⟨by simpa using h0, by omega, h2, h3, h4, h5, h6, h7, h8⟩
theorem good_next {s : Pt} {i : Inst} (g : s.good) (h : wrong s i = 0) : (next s i.code).good := by
  obtain ⟨h0, h1, h2, h3, _, h5, h6, _, _⟩ := wrong_zero h
  obtain ⟨a, b, c, d, e⟩ := g
  have hc := ok_code h0
  unfold next
  by_cases hE : i.code = 11
  · rw [if_pos hE]; exact good0
  · rw [if_neg hE]
    unfold needs at h1
    refine ⟨?_, ?_, ?_, ?_, ?_⟩
    · show 0 ≤ (if i.code = 1 then s.bits + 1 else if i.code = 4 ∨ i.code = 5 then s.bits - 1 else s.bits)
      split
      · omega
      · split <;> omega
    · show (if i.code = 1 then s.bits + 1 else if i.code = 4 ∨ i.code = 5 then s.bits - 1 else s.bits) ≤ 16
      split
      · omega
      · split <;> omega
    · show 0 ≤ (if i.code = 7 then s.forks + 1 else if i.code = 9 then s.forks - 1 else s.forks)
      split
      · omega
      · split <;> omega
    · show (if i.code = 7 then s.forks + 1 else if i.code = 9 then s.forks - 1 else s.forks) ≤ 8
      split
      · omega
      · split <;> omega
    · intro hz
      exfalso
      have hz' : (if i.code = 1 then s.bits + 1 else if i.code = 4 ∨ i.code = 5 then s.bits - 1 else s.bits) = 0 := hz
      by_cases c1 : i.code = 1
      · rw [if_pos c1] at hz'; clear h1; omega
      · rw [if_neg c1] at hz' h1
        by_cases c2 : i.code = 4 ∨ i.code = 5
        · rw [if_pos c2] at hz' h1; omega
        · rw [if_neg c2] at hz' h1; omega
/-- The program's rules, in their order. -/
def rule (k : Nat) (s : Pt) (i : Inst) : Bool :=
  match k with
  | 0 => !listOk i
  | 1 => if i.code = 1 then false else if i.code = 4 ∨ i.code = 5 then decide (s.bits < 2) else decide (s.bits < 1)
  | 2 => decide (i.code = 1) && decide (s.bits = 16)
  | 3 => if i.code = 7 ∨ i.code = 8 ∨ i.code = 9 ∨ i.code = 10 ∨ i.code = 11 then decide (1 < s.bits) else false
  | 4 => if i.code = 3 ∨ i.code = 6 then s.seen && decide (s.bits = 1) else if i.code = 5 then s.seen && decide (s.bits = 2) else false
  | 5 => if i.code = 7 then decide (s.forks = 8) else if i.code = 8 ∨ i.code = 9 then decide (s.forks = 0) else if i.code = 11 then decide (s.forks ≠ 0) else false
  | _ => if i.code = 8 ∨ i.code = 9 ∨ i.code = 11 then !s.coil else false
theorem wrong_rules {s : Pt} (i : Inst) (g0 : 0 ≤ s.bits) (g : 0 ≤ s.forks) :
    wrong s i = if rule 0 s i then 2 else if rule 1 s i then 3 else if rule 2 s i then 4 else if rule 3 s i then 5 else if rule 4 s i then 6 else if rule 5 s i then 7 else if rule 6 s i then 8 else 0 := by
  cases h0 : listOk i with
  | true =>
    have hc := ok_code h0
    have hx : i.code = 1 ∨ i.code = 2 ∨ i.code = 3 ∨ i.code = 4 ∨ i.code = 5 ∨ i.code = 6 ∨ i.code = 7 ∨ i.code = 8 ∨ i.code = 9 ∨ i.code = 10 ∨ i.code = 11 := by omega
    rcases hx with h | h | h | h | h | h | h | h | h | h | h
    all_goals simp [wrong, rule, needs, low, h0, h]
    all_goals grind
  | false => simp [wrong, rule, h0]
/-- The program's point behind an instruction is the specification's, where nothing is wrong. -/
def behind (s : Pt) (c : Int) : Pt := ⟨if c = 1 then s.bits + 1 else if c = 4 ∨ c = 5 ∨ c = 11 then s.bits - 1 else s.bits, if c = 7 then s.forks + 1 else if c = 9 then s.forks - 1 else s.forks, decide (c ≠ 11) && (s.seen || c == 10 || c == 7), c == 10⟩
theorem behind_next {s : Pt} {i : Inst} (g : s.good) (h : wrong s i = 0) : behind s i.code = next s i.code := by
  obtain ⟨h0, h1, _, h3, _, _, _, h7, _⟩ := wrong_zero h
  obtain ⟨a, b, c, d, e⟩ := g
  have hc := ok_code h0
  unfold next behind
  by_cases hE : i.code = 11
  · rw [if_pos hE]
    have hb : s.bits = 1 := by
      have : needs i.code = 1 := by rw [hE]; rfl
      omega
    have hf : s.forks = 0 := by omega
    simp [hE, hb, hf, pt0]
  · rw [if_neg hE]
    simp [hE]
theorem good_zero {s : Pt} (g : s.good) : (s = pt0) ↔ s.bits ≤ 0 := by
  constructor
  · rintro rfl; decide
  · intro h; exact g.2.2.2.2 (by have := g.1; omega)
end Stil
