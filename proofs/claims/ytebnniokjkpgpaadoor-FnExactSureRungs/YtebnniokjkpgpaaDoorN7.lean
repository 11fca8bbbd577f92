/- SureRungs of the program and of the specification, verified or not: one contract each. -/
import Derived.Test.YtebnniokjkpgpaaDoorGh
import Derived.Test.YtebnniokjkpgpaaDoorGj
import Derived.Test.YtebnniokjkpgpaaDoorGi
import Derived.Test.YtebnniokjkpgpaaDoorGZ
namespace Stil
theorem sureRungs_fits {l : List Inst} (hf : ∀ x ∈ l, x.fits) : (∀ r ∈ sureRungs l, (∀ x ∈ r, x.fits) ∧ r.length ≤ 1000) ∧ (sureRungs l).length ≤ 1000 := by
  unfold sureRungs
  split
  · exact ⟨(fun r hr => by cases hr), by simp⟩
  · rename_i h
    have hl := sureCheck_len (sureCheck_zero l h).1
    refine ⟨fun r hr => ?_, Nat.le_trans (rungsFrom_len l []) hl⟩
    obtain ⟨_, h2, h3⟩ := rungsFrom_mem l [] r hr
    refine ⟨fun x hx => ?_, by simp at h3; omega⟩
    rcases h2 x hx with h | h
    · cases h
    · exact hf x h
end Stil
namespace Go.Proofs.YtebnniokjkpgpaaDoor
open Go.RowKit Go.Sort Go.BigFrame
theorem instPs_has (b : Nat) : ∀ (qs : List (List Pl)) (o j : Nat), j < qs.length → (b, o + j * 3) ∈ instPs b o qs
  | [], _, _, h => by simp at h
  | q :: r, o, 0, _ => by simp [instPs]
  | q :: r, o, j + 1, h => by
    have := instPs_has b r (o + 3) j (by simpa using h)
    have e : o + (j + 1) * 3 = o + 3 + j * 3 := by omega
    rw [e, instPs]
    exact List.mem_cons_of_mem _ (List.mem_cons_of_mem _ (List.mem_append_right _ this))
theorem RowsSh.keepUp {w w' : World} {v : Value} {B O lo : Nat} {rs : List Rw} (h : RowsSh w v B O rs) (hk : KeepsUp lo w w') (hB : 0 < rs.length → lo ≤ B) (hp : ∀ p ∈ rowsPs rs, lo ≤ p.1) : RowsSh w' v B O rs := by
  refine ⟨h.1, fun i hi => ?_⟩
  obtain ⟨h1, h2, h3, rv, h4, h5⟩ := h.2 i hi
  refine ⟨Nat.lt_of_lt_of_le h1 hk.1, h2, h3, rv, (hk.2 _ _ (hB (by omega)) h1).trans h4, h5.1, fun j hj => ?_⟩
  obtain ⟨a1, a2, av, a3, a4⟩ := h5.2 j hj
  have hm : (rs[i].1, rs[i].2.1 + j * 3) ∈ rowsPs rs := List.mem_flatMap.2 ⟨rs[i], List.getElem_mem hi, instPs_has _ _ _ _ hj⟩
  exact ⟨Nat.lt_of_lt_of_le a1 hk.1, a2, av, (hk.2 _ _ (hp _ hm) a1).trans a3, a4⟩
/-- An answer of rungs that owns its memory, all of it at or beyond lo. -/
def RungsOut (lo : Nat) (w : World) (sv : Value) (L : List (List Stil.Inst)) (B : Nat) (rs : List Rw) : Prop :=
  RowsSh w sv B 0 rs ∧ NumsAt w (rowsPs rs) ∧ (rowsPs rs).Nodup ∧ (∀ p ∈ rowsPs rs, lo ≤ p.1) ∧ (0 < rs.length → lo ≤ B) ∧ InstssFrom lo w sv L ∧ rs.length ≤ 1000 ∧ (rowsPs rs).length ≤ 3145730000000
theorem InstssFrom.mono {lo hi : Nat} {w : World} {v : Value} {l : List (List Stil.Inst)} (h : InstssFrom hi w v l) (hl : lo ≤ hi) : InstssFrom lo w v l := by
  obtain ⟨a, cap, hv, hc⟩ := h
  refine ⟨a, cap, hv, fun i hi => ?_⟩
  obtain ⟨b, o, ha, hl', hb, rv, hr, hn⟩ := hc i hi
  exact ⟨b, o, ha, Nat.le_trans hl hl', hb, rv, hr, hn.mono hl⟩
theorem RungsOut.mono {lo hi : Nat} {w : World} {sv : Value} {L : List (List Stil.Inst)} {B : Nat} {rs : List Rw} (h : RungsOut hi w sv L B rs) (hl : lo ≤ hi) : RungsOut lo w sv L B rs := by
  obtain ⟨a1, a2, a3, a4, a5, a6, a7⟩ := h
  exact ⟨a1, a2, a3, fun p hp => Nat.le_trans hl (a4 p hp), fun h => Nat.le_trans hl (a5 h), a6.mono hl, a7⟩
theorem RungsOut.below {lo : Nat} {w w' : World} {sv : Value} {L : List (List Stil.Inst)} {B : Nat} {rs : List Rw} (h : RungsOut lo w sv L B rs) (hb : Below w.heap.size w w') : RungsOut lo w' sv L B rs := by
  obtain ⟨a1, a2, a3, a4, a5, a6, a7⟩ := h
  exact ⟨a1.below hb, a2.below hb, a3, a4, a5, a6.keep (KeepsUp.of_below hb), a7⟩
theorem RungsOut.marked {lo : Nat} {w w' : World} {sv : Value} {L : List (List Stil.Inst)} {B : Nat} {rs : List Rw} {ps : List Pl} {k : Int} (h : RungsOut lo w sv L B rs) (hm : Marked w w' ps k) (hp : ∀ p ∈ ps, p.1 < lo) : RungsOut lo w' sv L B rs := by
  obtain ⟨a1, a2, a3, a4, a5, a6, a7⟩ := h
  have hk := hm.keeps hp
  exact ⟨a1.keepUp hk a5 a4, a2.marked hm (fun p h1 h2 => by have := a4 p h1; have := hp p h2; omega), a3, a4, a5, a6.keep hk, a7⟩
theorem i_sureRungs (l : List Stil.Inst) (v : Value) (w : World) (hr : RowsAt w) (hw : LWordsAt w) (hat : InstsAt w v l) (hl : l.length ≤ 1048576) (hft : ∀ x ∈ l, x.fits) :
    Calls Tryd.prog 12 #[v] w fun e w' => ∃ (a : Option Addr) (cap : Nat) (B : Nat) (rs : List Rw), e = .returned (.slice a (Stil.sureRungs l).length cap) ∧ RungsOut w.heap.size w' (.slice a (Stil.sureRungs l).length cap) (Stil.sureRungs l) B rs ∧ Below w.heap.size w w' := by
  by_cases hbad : 0 < (Stil.sureCheck l).1
  · refine (i_sureRungs_no l v w hr hw hat hl hft hbad).mono ?_
    rintro e w1 ⟨rfl, hb⟩
    have e0 : Stil.sureRungs l = [] := by unfold Stil.sureRungs; rw [if_pos hbad]
    rw [e0]
    exact ⟨none, 0, 0, [], rfl, ⟨⟨⟨none, 0, rfl, fun h => absurd h (by simp)⟩, fun i hi => absurd hi (by simp)⟩, (fun p hp => by simp [rowsPs] at hp), by simp [rowsPs], (fun p hp => by simp [rowsPs] at hp), (fun h => absurd h (by simp)), ⟨none, 0, rfl, fun i hi => absurd hi (by simp)⟩, by simp, by simp [rowsPs]⟩, hb⟩
  · have hok := Stil.sureCheck_zero l hbad
    have hlen := Stil.sureCheck_len hok.1
    have e0 : Stil.sureRungs l = Stil.rungsFrom [] l := by unfold Stil.sureRungs; rw [if_neg hbad]
    rw [e0]
    refine (i_sureRungs_ok l v w hr hw hat hlen hft hok).mono ?_
    rintro e w1 ⟨sv, rv, us, cs, fin, rfl, hbt, hfin, hb⟩
    have hmem : ∀ f ∈ fin, f.2.2 ∈ Stil.rungsFrom [] l := fun f hf => by rw [← hfin]; exact List.mem_map.2 ⟨f, hf, rfl⟩
    have hfl : fin.length ≤ 1000 := by
      have h1 := Stil.rungsFrom_len l []
      rw [← hfin, List.length_map] at h1
      omega
    obtain ⟨B, rs, a1, a2, a3, a4, a5, a6, a7, a8⟩ := built_shape hbt (fun f hf => (Stil.rungsFrom_mem l [] _ (hmem f hf)).1) (fun f hf => by have := (Stil.rungsFrom_mem l [] _ (hmem f hf)).2.2; simp at this; omega)
      (fun f hf x hx => by
        rcases (Stil.rungsFrom_mem l [] _ (hmem f hf)).2.1 x hx with h | h
        · cases h
        · exact (hft x h).2.2.1)
    have hfr := built_from hbt
    rw [hfin] at hfr
    have hfr2 := hfr
    obtain ⟨a, cap, rfl, _⟩ := hfr2
    refine ⟨a, cap, B, rs, rfl, ⟨a1, a2, a3, a4, by rw [a6]; exact a8, hfr, by omega, ?_⟩, hb⟩
    have := Nat.mul_le_mul_right 3145730000 hfl
    omega
theorem s_sureRungs (l : List Stil.Inst) (v : Value) (w : World) (hat : InstsAt w v l) (hl : l.length ≤ 1048576) (hft : ∀ x ∈ l, x.fits) (hcap : ∀ a n c, v = .slice a n c → n ≤ c) :
    Calls Tryd.prog 11 #[v] w fun e w' => ∃ (a : Option Addr) (cap : Nat), e = .returned (.slice a (Stil.sureRungs l).length cap) ∧ InstssFrom w.heap.size w' (.slice a (Stil.sureRungs l).length cap) (Stil.sureRungs l) ∧ Below w.heap.size w w' := by
  by_cases hbad : 0 < (Stil.sureCheck l).1
  · refine (s_sureRungs_no l v w hat hl hft hbad).mono ?_
    rintro e w1 ⟨rfl, hb⟩
    have e0 : Stil.sureRungs l = [] := by unfold Stil.sureRungs; rw [if_pos hbad]
    rw [e0]
    exact ⟨_, 0, rfl, ⟨_, 0, rfl, fun i hi => absurd hi (by simp)⟩, hb⟩
  · have hok := Stil.sureCheck_zero l hbad
    have hlen := Stil.sureCheck_len hok.1
    have e0 : Stil.sureRungs l = Stil.rungsFrom [] l := by unfold Stil.sureRungs; rw [if_neg hbad]
    rw [e0]
    refine (s_sureRungs_ok l v w hat hlen hft hcap hok).mono ?_
    rintro e w1 ⟨sv, fin, rfl, hbt, hfin, hb⟩
    have hfr := built_from hbt
    rw [hfin] at hfr
    have hfr2 := hfr
    obtain ⟨a, cap, rfl, _⟩ := hfr2
    exact ⟨a, cap, rfl, hfr, hb⟩
/-- The laws' copy of a list, with its places. -/
theorem l_toListM (l : List Stil.Inst) (hf : ∀ x ∈ l, x.fits) (hl : l.length ≤ 1048576) (v : Value) (W : World) (hat : InstsAt W v l) :
    Calls Tryd.prog 7 #[v] W fun e w' => ∃ (b : Nat) (qs : List (List Pl)), e = .returned (.slice (some ⟨b, 0, none⟩) l.length l.length) ∧ InstsSh w' (.slice (some ⟨b, 0, none⟩) l.length l.length) b 0 qs ∧ NumsAt w' (instPs b 0 qs) ∧ (instPs b 0 qs).Nodup ∧ InstsAt w' (.slice (some ⟨b, 0, none⟩) l.length l.length) l ∧
      (∀ p ∈ instPs b 0 qs, W.heap.size ≤ p.1) ∧ (instPs b 0 qs).length ≤ 1048576 * 3145730 ∧ Below W.heap.size W w' := by
  refine (l_toInstsM l hf v W hat hl).mono ?_
  rintro e w1 ⟨rfl, ⟨qs, hq, ⟨_, h2, h3, h4⟩, hz, hfr⟩, hb⟩
  obtain ⟨s1, s2, s3, s4⟩ := insts_shape (w := w1) (b := W.heap.size) (cap := l.length) (l := l) (qs := qs) hz hq (fun i hi => by
    obtain ⟨c0, c1, u, c2, c3, c4⟩ := h2 i (by omega) hi
    exact ⟨c0, c1, u, c2, c3, c4.at⟩) hfr (fun q hqm => ⟨(h3 q hqm).1, (h3 q hqm).2.1, fun p hp => Nat.ne_of_gt ((h3 q hqm).2.2 p hp)⟩) h4
  refine ⟨_, qs, rfl, s1, s2, s3, s4, fun p hp => ?_, ?_, hb⟩
  · rcases instPs_mem _ qs 0 p hp with ⟨i, _, rfl | rfl⟩ | ⟨q, hqm, hp⟩
    · exact Nat.le_refl _
    · exact Nat.le_refl _
    · exact Nat.le_of_lt ((h3 q hqm).2.2 p hp)
  · rw [instPs_length]
    have := sum_le (fun q : List Pl => 2 + q.length) 3145730 qs (fun q hqm => by
      obtain ⟨i, hi, rfl⟩ := List.getElem_of_mem hqm
      obtain ⟨_, _, u, _, c3, c4⟩ := h2 i hi (by omega)
      obtain ⟨a, n, cap, hu, hn, _⟩ := c3
      obtain ⟨a', cap', hu', _⟩ := c4
      rw [hu] at hu'
      cases hu'
      have := (hf _ (List.getElem_mem (show i < l.length by omega))).2.2.1
      omega)
    rw [hq] at this
    exact Nat.le_trans this (Nat.mul_le_mul_right _ hl)
end Go.Proofs.YtebnniokjkpgpaaDoor
