/- Plain: the arms that a verified list is read as. -/
import Derived.Test.YtpaljcoojkbhnaaGreatDoorM25
import Derived.Test.YtpaljcoojkbhnaaGreatDoorM31
namespace Stil
/-- The net ahead of a coil, mps, mrd, mpp or end, from a stack on; every instruction finds the nets that it needs. -/
def NetR : List Net → List Inst → Net → List Inst → Prop
 | _, [], _, _ => False
 | st, i :: r, n, l1 => if i.code < 7 then 1 ≤ i.code ∧ needs i.code ≤ (st.length : Int) ∧ NetR (doNet i.code i.one st) r n l1 else st = [n] ∧ l1 = i :: r
/-- The coils. -/
def CoilR : List Inst → List Elem → List Inst → Prop
 | [], _, _ => False
 | i :: r, cs, l2 => if i.code = 10 then ∃ c', cs = i.one :: c' ∧ CoilR r c' l2 else cs = [] ∧ l2 = i :: r
/-- The kids of a fork. -/
def ForkR (P : List Inst → Arm → List Inst → Prop) : List Arm → List Inst → List Inst → Prop
 | a :: ks, i :: l, r => if ks = [] then i.code = 9 ∧ P l a r else (i.code = 7 ∨ i.code = 8) ∧ ∃ m, P l a m ∧ ForkR P ks m r
 | _, _, _ => False
def headCode : List Inst → Int
 | [] => 0
 | i :: _ => i.code
def KidsR (P : List Inst → Arm → List Inst → Prop) (ks : List Arm) (l r : List Inst) : Prop :=
 ((headCode l = 8 ∨ headCode l = 9 ∨ headCode l = 11) ∧ ks = [] ∧ r = l) ∨ (1 ≤ headCode l ∧ headCode l < 7 ∧ ∃ a, ks = [a] ∧ P l a r) ∨ (headCode l = 7 ∧ ForkR P ks l r)
/-- An arm, read from a list on. -/
def ArmR : Nat → List Net → List Inst → Arm → List Inst → Prop
 | 0, _, _, _, _ => False
 | n + 1, st, l, a, r => ∃ l1 l2, NetR st l a.net l1 ∧ CoilR l1 a.coils l2 ∧ KidsR (ArmR n [netZero]) a.kids l2 r
theorem NetR.suffix : ∀ {l : List Inst} {st : List Net} {n : Net} {l1 : List Inst}, NetR st l n l1 → l1 <:+ l ∧ 7 ≤ headCode l1
 | [], _, _, _, h => h.elim
 | i :: r, st, n, l1, h => by
  rw [NetR] at h
  split at h
  ·obtain ⟨h1, h2⟩ := NetR.suffix h.2.2
   exact ⟨h1.trans (List.suffix_cons i r), h2⟩
  ·rename_i h7
   rw [h.2]
   exact ⟨List.suffix_refl _, by show 7 ≤ i.code; omega⟩
theorem CoilR.suffix : ∀ {l : List Inst} {cs : List Elem} {l2 : List Inst}, CoilR l cs l2 → l2 <:+ l ∧ headCode l2 ≠ 10 ∧ cs.length + l2.length = l.length
 | [], _, _, h => h.elim
 | i :: r, cs, l2, h => by
  rw [CoilR] at h
  split at h
  ·obtain ⟨c', rfl, h⟩ := h
   obtain ⟨h1, h2, h3⟩ := CoilR.suffix h
   exact ⟨h1.trans (List.suffix_cons i r), h2, by simp only [List.length_cons]; omega⟩
  ·rename_i h7
   obtain ⟨rfl, rfl⟩ := h
   exact ⟨List.suffix_refl _, h7, by simp⟩
theorem ForkR.suffix {P : List Inst → Arm → List Inst → Prop} (hP : ∀ l a r, P l a r → r <:+ l) : ∀ {ks : List Arm} {l r : List Inst}, ForkR P ks l r → r <:+ l ∧ r.length < l.length
 | [], _, _, h => by simp [ForkR] at h
 | _ :: _, [], _, h => by simp [ForkR] at h
 | a :: ks, i :: l, r, h => by
  rw [ForkR] at h
  split at h
  ·have h1 := hP _ _ _ h.2
   exact ⟨h1.trans (List.suffix_cons i l), by have := h1.length_le; simp only [List.length_cons]; omega⟩
  ·obtain ⟨_, m, h1, h2⟩ := h
   have h3 := ForkR.suffix hP h2
   have h4 := hP _ _ _ h1
   exact ⟨(h3.1.trans h4).trans (List.suffix_cons i l), by have := h4.length_le; simp only [List.length_cons]; omega⟩
theorem KidsR.suffix {P : List Inst → Arm → List Inst → Prop} (hP : ∀ l a r, P l a r → r <:+ l) {ks : List Arm} {l r : List Inst} (h : KidsR P ks l r) : r <:+ l := by
 rcases h with ⟨_, _, rfl⟩ | ⟨_, _, a, _, h⟩ | ⟨_, h⟩
 ·exact List.suffix_refl _
 ·exact hP _ _ _ h
 ·exact (ForkR.suffix hP h).1
theorem ArmR.suffix : ∀ {n : Nat} {st : List Net} {l : List Inst} {a : Arm} {r : List Inst}, ArmR n st l a r → r <:+ l
 | 0, _, _, _, _, h => h.elim
 | n + 1, st, l, a, r, h => by
  obtain ⟨l1, l2, h1, h2, h3⟩ := h
  exact ((KidsR.suffix (fun l a r h => ArmR.suffix h) h3).trans h2.suffix.1).trans h1.suffix.1
/-- What stands behind is not looked at. -/
theorem NetR.more (x : List Inst) : ∀ {l : List Inst} {st : List Net} {n : Net} {l1 : List Inst}, NetR st l n l1 → NetR st (l ++ x) n (l1 ++ x)
 | [], _, _, _, h => h.elim
 | i :: r, st, n, l1, h => by
  rw [NetR] at h
  rw [List.cons_append, NetR]
  split at h
  ·rename_i hc
   rw [if_pos hc]
   exact ⟨h.1, h.2.1, NetR.more x h.2.2⟩
  ·rename_i hc
   rw [if_neg hc, h.2]
   exact ⟨h.1, rfl⟩
theorem CoilR.more (x : List Inst) : ∀ {l : List Inst} {cs : List Elem} {l2 : List Inst}, CoilR l cs l2 → CoilR (l ++ x) cs (l2 ++ x)
 | [], _, _, h => h.elim
 | i :: r, cs, l2, h => by
  rw [CoilR] at h
  rw [List.cons_append, CoilR]
  split at h
  ·rename_i hc
   rw [if_pos hc]
   obtain ⟨c', e, h⟩ := h
   exact ⟨c', e, CoilR.more x h⟩
  ·rename_i hc
   rw [if_neg hc, h.2]
   exact ⟨h.1, rfl⟩
theorem ForkR.more {P : List Inst → Arm → List Inst → Prop} (x : List Inst) (hP : ∀ l a r, P l a r → P (l ++ x) a (r ++ x)) : ∀ {ks : List Arm} {l r : List Inst}, ForkR P ks l r → ForkR P ks (l ++ x) (r ++ x)
 | [], _, _, h => by simp [ForkR] at h
 | _ :: _, [], _, h => by simp [ForkR] at h
 | a :: ks, i :: l, r, h => by
  rw [ForkR] at h
  rw [List.cons_append, ForkR]
  split at h
  ·rename_i hc
   rw [if_pos hc]
   exact ⟨h.1, hP _ _ _ h.2⟩
  ·rename_i hc
   rw [if_neg hc]
   obtain ⟨h0, m, h1, h2⟩ := h
   exact ⟨h0, m ++ x, hP _ _ _ h1, ForkR.more x hP h2⟩
theorem headCode_append {l : List Inst} (x : List Inst) (h : headCode l ≠ 0) : headCode (l ++ x) = headCode l := by
 cases l with
 | nil => exact absurd rfl h
 | cons i r => rfl
theorem ArmR.more (x : List Inst) : ∀ {n : Nat} {st : List Net} {l : List Inst} {a : Arm} {r : List Inst}, ArmR n st l a r → ArmR n st (l ++ x) a (r ++ x)
 | 0, _, _, _, _, h => h.elim
 | n + 1, st, l, a, r, h => by
  obtain ⟨l1, l2, h1, h2, h3⟩ := h
  refine ⟨l1 ++ x, l2 ++ x, h1.more x, h2.more x, ?_⟩
  rcases h3 with ⟨hc, e, rfl⟩ | ⟨hc0, hc, b, e, h⟩ | ⟨hc, h⟩
  ·exact .inl ⟨by rw [headCode_append x (by omega)]; exact hc, e, rfl⟩
  ·exact .inr (.inl ⟨by rw [headCode_append x (by omega)]; exact hc0, by rw [headCode_append x (by omega)]; exact hc, b, e, ArmR.more x h⟩)
  ·exact .inr (.inr ⟨by rw [headCode_append x (by omega)]; exact hc, ForkR.more x (fun _ _ _ h => ArmR.more x h) h⟩)
/-- A run that comes to an end. -/
def Runs (s : Pt) (l : List Inst) : Prop := s.good ∧ ∃ t, run s l = some t ∧ ¬ 0 < t.bits
theorem Runs.cons {s : Pt} {i : Inst} {r : List Inst} (h : Runs s (i :: r)) : wrong s i = 0 ∧ Runs (next s i.code) r := by
 obtain ⟨g, t, h1, h2⟩ := h
 rw [run] at h1
 have hb := wrong_bound s i
 split at h1
 ·cases h1
 ·have h0 : wrong s i = 0 := by omega
  exact ⟨h0, good_next g h0, t, h1, h2⟩
theorem Runs.ne {s : Pt} {l : List Inst} (h : Runs s l) (hb : 0 < s.bits) : l ≠ [] := by
 rintro rfl
 obtain ⟨_, t, h1, h2⟩ := h
 injection h1 with h1
 subst h1
 exact h2 hb
theorem next_bits {s : Pt} {c : Int} (h : c < 7) : (next s c).bits = (if c = 1 then s.bits + 1 else if c = 4 ∨ c = 5 then s.bits - 1 else s.bits) ∧ (next s c).forks = s.forks := by
 unfold next
 rw [if_neg (by omega)]
 exact ⟨rfl, by show (if c = 7 then s.forks + 1 else if c = 9 then s.forks - 1 else s.forks) = s.forks; rw [if_neg (by omega), if_neg (by omega)]⟩
theorem do_len {c : Int} {e : Elem} {st : List Net} (h1 : 1 ≤ c) (h7 : c < 7) (hn : needs c ≤ (st.length : Int)) : ((doNet c e st).length : Int) = if c = 1 then (st.length : Int) + 1 else if c = 4 ∨ c = 5 then (st.length : Int) - 1 else st.length := by
 unfold needs at hn
 unfold doNet
 by_cases c1 : c = 1
 ·simp [c1]
 ·rw [if_neg c1] at hn ⊢
  rw [if_neg c1]
  cases st with
  | nil =>
   simp only [List.length_nil] at hn
   split at hn <;> omega
  | cons a r =>
   by_cases c2 : c = 2
   ·simp [c2]
   ·by_cases c3 : c = 3
    ·simp [c3]
    ·by_cases c4 : c = 4
     ·subst c4
      cases r with
      | nil => simp at hn
      | cons b r => simp
     ·by_cases c5 : c = 5
      ·subst c5
       cases r with
       | nil => simp at hn
       | cons b r => simp
      ·simp [c2, c3, c4, c5]
/-- The net of a run. -/
theorem net_runs : ∀ (l : List Inst) (s : Pt) (st : List Net), Runs s l → s.bits = (st.length : Int) → l ≠ [] → ∃ n l1 s1, NetR st l n l1 ∧ Runs s1 l1 ∧ s1.bits = 1 ∧ s1.forks = s.forks
 | [], _, _, _, _, hne => absurd rfl hne
 | i :: r, s, st, h, hb, _ => by
  obtain ⟨h0, h2⟩ := h.cons
  obtain ⟨hok, hn, _, h5, _⟩ := wrong_zero h0
  have hc := ok_code hok
  by_cases h7 : i.code < 7
  ·have hnb := next_bits (s := s) h7
   have hdl := do_len (e := i.one) (st := st) hc.1 h7 (by omega)
   have hpos := next_pos h0 (by omega)
   obtain ⟨n, l1, s1, a1, a2, a3, a4⟩ := net_runs r (next s i.code) (doNet i.code i.one st) h2 (by rw [hnb.1, hdl, hb]) (h2.ne hpos)
   exact ⟨n, l1, s1, by rw [NetR, if_pos h7]; exact ⟨hc.1, by omega, a1⟩, a2, a3, by rw [a4, hnb.2]⟩
  ·have hb1 : s.bits = 1 := by
    have : needs i.code = 1 := by unfold needs; rw [if_neg (by omega), if_neg (by omega)]
    omega
   match st, hb with
   | [], hb => simp at hb; omega
   | [n], _ => exact ⟨n, i :: r, s, by rw [NetR, if_neg h7]; exact ⟨rfl, rfl⟩, h, hb1, rfl⟩
   | _ :: _ :: _, hb => simp only [List.length_cons] at hb; omega
theorem coil_runs : ∀ (l : List Inst) (s : Pt), Runs s l → s.bits = 1 → ∃ cs l2 s2, CoilR l cs l2 ∧ Runs s2 l2 ∧ s2.bits = 1 ∧ s2.forks = s.forks
 | [], s, h, hb => absurd rfl (h.ne (by omega))
 | i :: r, s, h, hb => by
  obtain ⟨h0, h2⟩ := h.cons
  by_cases h10 : i.code = 10
  ·have hnb : (next s i.code).bits = 1 ∧ (next s i.code).forks = s.forks := by
    unfold next
    rw [if_neg (by omega)]
    simp [h10, hb]
   obtain ⟨cs, l2, s2, a1, a2, a3, a4⟩ := coil_runs r (next s i.code) h2 hnb.1
   exact ⟨i.one :: cs, l2, s2, by rw [CoilR, if_pos h10]; exact ⟨cs, rfl, a1⟩, a2, a3, by rw [a4, hnb.2]⟩
  ·exact ⟨[], i :: r, s, by rw [CoilR, if_neg h10]; exact ⟨rfl, rfl⟩, h, hb, rfl⟩
/-- What an arm ends at. -/
def EndsAt (F : Int) (r : List Inst) : Prop := (headCode r = 8 ∨ headCode r = 9 ∨ headCode r = 11) ∧ ∃ s, Runs s r ∧ s.bits = 1 ∧ s.forks = F
theorem ends_fork {F : Int} {r : List Inst} (h : EndsAt F r) (hF : 0 < F) : ∃ i r', r = i :: r' ∧ (i.code = 8 ∨ i.code = 9) := by
 obtain ⟨hc, s, h1, h2, h3⟩ := h
 cases r with
 | nil => simp [headCode] at hc
 | cons i r' =>
  obtain ⟨h0, _⟩ := h1.cons
  have h7 := (wrong_zero h0).2.2.2.2.2.2.2.1
  refine ⟨i, r', rfl, ?_⟩
  have hc : i.code = 8 ∨ i.code = 9 ∨ i.code = 11 := hc
  rcases hc with h | h | h
  ·exact .inl h
  ·exact .inr h
  ·exact absurd ⟨h, by omega⟩ h7
theorem ends_rung {r : List Inst} (h : EndsAt 0 r) : ∃ i r', r = i :: r' ∧ i.code = 11 ∧ Runs pt0 r' := by
 obtain ⟨hc, s, h1, h2, h3⟩ := h
 cases r with
 | nil => simp [headCode] at hc
 | cons i r' =>
  obtain ⟨h0, hr⟩ := h1.cons
  have h7 := (wrong_zero h0).2.2.2.2.2.2.1
  have hc : i.code = 8 ∨ i.code = 9 ∨ i.code = 11 := hc
  have e : i.code = 11 := by
   rcases hc with h | h | h
   ·exact absurd ⟨.inl h, h3⟩ h7
   ·exact absurd ⟨.inr h, h3⟩ h7
   ·exact h
  rw [next_end s e] at hr
  exact ⟨i, r', rfl, e, hr⟩
theorem fork_runs {P : List Inst → Arm → List Inst → Prop} {N : Nat} (hP : ∀ l s, l.length ≤ N → Runs s l → s.bits = 1 → ∃ a r, P l a r ∧ r <:+ l ∧ EndsAt s.forks r) :
  ∀ (M : Nat) (i : Inst) (l : List Inst) (s : Pt) (F : Int), l.length ≤ M → l.length ≤ N → Runs s (i :: l) → s.bits = 1 → 0 ≤ F → (i.code = 7 ∧ s.forks = F ∨ (i.code = 8 ∨ i.code = 9) ∧ s.forks = F + 1) → ∃ ks r, ks ≠ [] ∧ ForkR P ks (i :: l) r ∧ EndsAt F r := by
 intro M
 induction M with
 | zero =>
  intro i l s F hM hN h hb hF hi
  exfalso
  obtain ⟨h0, h2⟩ := h.cons
  have hl : l = [] := List.length_eq_zero_iff.1 (by omega)
  refine h2.ne (next_pos h0 ?_) hl
  rcases hi with ⟨h, _⟩ | ⟨h | h, _⟩ <;> omega
 | succ M ih =>
  intro i l s F hM hN h hb hF hi
  obtain ⟨h0, h2⟩ := h.cons
  by_cases h9 : i.code = 9
  ·have hnb : (next s i.code).bits = 1 ∧ (next s i.code).forks = F := by
    have hf : s.forks = F + 1 := by rcases hi with ⟨h, _⟩ | ⟨_, h⟩ <;> omega
    unfold next
    rw [if_neg (by omega)]
    simp [h9, hb, hf]
   obtain ⟨a, r, a1, a2, a3⟩ := hP l _ hN h2 hnb.1
   refine ⟨[a], r, by simp, ?_, by rw [hnb.2] at a3; exact a3⟩
   rw [ForkR, if_pos rfl]
   exact ⟨h9, a1⟩
  ·have h78 : i.code = 7 ∨ i.code = 8 := by rcases hi with ⟨h, _⟩ | ⟨h | h, _⟩ <;> omega
   have hnb : (next s i.code).bits = 1 ∧ (next s i.code).forks = F + 1 := by
    unfold next
    rw [if_neg (by omega)]
    rcases h78 with h | h
    ·have hf : s.forks = F := by rcases hi with ⟨_, h⟩ | ⟨h | h, _⟩ <;> omega
     simp [h, hb, hf]
    ·have hf : s.forks = F + 1 := by rcases hi with ⟨h, _⟩ | ⟨_, h⟩ <;> omega
     simp [h, hb, hf]
   obtain ⟨a, m, a1, a2, a3⟩ := hP l _ hN h2 hnb.1
   rw [hnb.2] at a3
   obtain ⟨j, m', rfl, hj⟩ := ends_fork a3 (by omega)
   have hml := a2.length_le
   simp only [List.length_cons] at hml
   obtain ⟨_, s3, b1, b2, b3⟩ := a3
   obtain ⟨ks, r, c1, c2, c3⟩ := ih j m' s3 F (by omega) (by omega) b1 b2 hF (.inr ⟨hj, b3⟩)
   refine ⟨a :: ks, r, by simp, ?_, c3⟩
   rw [ForkR, if_neg c1]
   exact ⟨h78, _, a1, c2⟩
theorem arm_runs : ∀ (N : Nat) (l : List Inst) (s : Pt) (st : List Net), l.length ≤ N → Runs s l → s.bits = (st.length : Int) → l ≠ [] → ∃ a r, ArmR (N + 1) st l a r ∧ EndsAt s.forks r := by
 intro N
 induction N with
 | zero =>
  intro l s st hl _ _ hne
  exact absurd (List.length_eq_zero_iff.1 (by omega)) hne
 | succ N ih =>
  intro l s st hl h hb hne
  obtain ⟨n, l1, s1, a1, a2, a3, a4⟩ := net_runs l s st h hb hne
  obtain ⟨cs, l2, s2, b1, b2, b3, b4⟩ := coil_runs l1 s1 a2 a3
  have hs1 := a1.suffix
  have hs2 := b1.suffix
  have hl1 := hs1.1.length_le
  have hne2 := b2.ne (by omega)
  have hP : ∀ (l : List Inst) (s : Pt), l.length ≤ N → Runs s l → s.bits = 1 → ∃ a r, ArmR (N + 1) [netZero] l a r ∧ r <:+ l ∧ EndsAt s.forks r := fun l s hl h hb => by
   obtain ⟨a, r, c1, c2⟩ := ih l s [netZero] hl h (by rw [hb]; rfl) (h.ne (by omega))
   exact ⟨a, r, c1, c1.suffix, c2⟩
  have key : ∃ ks r, KidsR (ArmR (N + 1) [netZero]) ks l2 r ∧ EndsAt s2.forks r := by
   cases l2 with
   | nil => exact absurd rfl hne2
   | cons i r =>
    obtain ⟨h0, h2⟩ := b2.cons
    have hc := ok_code (wrong_zero h0).1
    have h10 : i.code ≠ 10 := hs2.2.1
    have hlen := hs2.2.2
    simp only [List.length_cons] at hlen
    have hg := b2.1.2.2.1
    by_cases h7 : i.code < 7
    ·have hcs : cs ≠ [] := by
      rintro rfl
      have h3 := hs2.1
      have h5 : l1 = i :: r := (List.IsSuffix.eq_of_length h3 (by simp only [List.length_cons, List.length_nil] at hlen ⊢; omega)).symm
      have h4 := hs1.2
      rw [h5] at h4
      have h4 : 7 ≤ i.code := h4
      omega
     have hcl : 0 < cs.length := List.length_pos_iff.2 hcs
     obtain ⟨a, r2, c1, _, c3⟩ := hP (i :: r) s2 (by simp only [List.length_cons]; omega) b2 b3
     exact ⟨[a], r2, .inr (.inl ⟨hc.1, h7, a, rfl, c1⟩), c3⟩
    ·by_cases e7 : i.code = 7
     ·obtain ⟨ks, r2, c1, c2, c3⟩ := fork_runs hP r.length i r s2 s2.forks (Nat.le_refl _) (by omega) b2 b3 hg (.inl ⟨e7, rfl⟩)
      exact ⟨ks, r2, .inr (.inr ⟨e7, c2⟩), c3⟩
     ·have h8 : i.code = 8 ∨ i.code = 9 ∨ i.code = 11 := by omega
      exact ⟨[], i :: r, .inl ⟨h8, rfl, rfl⟩, h8, s2, b2, b3, rfl⟩
  obtain ⟨ks, r, c1, c2⟩ := key
  exact ⟨⟨n, cs, ks⟩, r, ⟨l1, l2, a1, b1, c1⟩, by rw [← a4, ← b4]; exact c2⟩
end Stil
