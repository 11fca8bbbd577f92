/- P8a, LW10a: texts put together. -/
import Derived.Test.YtpaljcoojkbhnaaGreatDoorGf
import Derived.Test.YtpaljcoojkbhnaaGreatDoorGb
/- How many places a list has. -/
namespace Go.Proofs.YtpaljcoojkbhnaaGreatDoor
open Go.RowKit Go.Sort Go.BigFrame
theorem psum_le {α : Type} (f : α → Nat) (c : Nat) : ∀ l : List α, (∀ x ∈ l, f x ≤ c) → (l.map f).sum ≤ l.length * c
  | [], _ => by simp
  | x :: r, h => by
    have h1 := h x (by simp)
    have h2 := psum_le f c r (fun y hy => h y (List.mem_cons_of_mem _ hy))
    simp only [List.map_cons, List.sum_cons, List.length_cons, Nat.succ_mul]
    omega
theorem instPs_length (b : Nat) : ∀ (qs : List (List Pl)) (o : Nat), (instPs b o qs).length = (qs.map fun q => 2 + q.length).sum
  | [], _ => rfl
  | q :: r, o => by
    have ih := instPs_length b r (o + 3)
    simp only [instPs, List.length_cons, List.length_append, List.map_cons, List.sum_cons, ih]
    omega
end Go.Proofs.YtpaljcoojkbhnaaGreatDoor
/- The laws' helpers on lists, of every element that fits. -/
namespace Go.Proofs.YtpaljcoojkbhnaaGreatDoor
open Go.RowKit Go.Sort Go.BigFrame
theorem l_szList (l : List Stil.Inst) (hw : ∀ x ∈ l, x.wf) (hl : l.length ≤ 9223372036854775807) (v : Value) (q : Int) (W : World) (hat : InstsAt W v l) (h1 : 0 ≤ q) (h2 : q ≤ 1048576) :
    Calls Tryz.prog 5 #[v, .int .i64 q] W fun e w' => e = .returned (.int .i64 (szL q (Stil.instsSz l))) ∧ Below W.heap.size W w' :=
  l_szInsts l (fun x hx => l_szInst x (hw x hx)) v q W hat h1 h2 hl
theorem l_toList (l : List Stil.Inst) (hf : ∀ x ∈ l, x.fits) (hl : l.length ≤ 1048576) (v : Value) (W : World) (hat : InstsAt W v l) :
    Calls Tryz.prog 7 #[v] W fun e w' => ∃ b, e = .returned (.slice (some ⟨b, 0, none⟩) l.length l.length) ∧ InstsAt w' (.slice (some ⟨b, 0, none⟩) l.length l.length) l ∧ Below W.heap.size W w' := by
  refine (l_toInsts l (fun x hx => l_toInst x (hf x hx)) v W hat hl).mono ?_
  rintro e w1 ⟨rfl, g, hb⟩
  exact ⟨_, rfl, g.at, hb⟩
theorem l_eqList (l : List Stil.Inst) (hf : ∀ x ∈ l, x.fits) (hl : l.length ≤ 1048576) (v u : Value) (W : World) (hat : InstsAt W v l) (hau : InstsAt W u l) :
    Calls Tryz.prog 10 #[v, u] W fun e w' => e = .returned (.bool true) ∧ Below W.heap.size W w' :=
  l_eqInsts l (fun x hx => l_eqInst x (hf x hx)) v u W hat hau hl
/-- The laws' copy of a list, with its places. -/
theorem l_toListM (l : List Stil.Inst) (hf : ∀ x ∈ l, x.fits) (hl : l.length ≤ 1048576) (v : Value) (W : World) (hat : InstsAt W v l) :
    Calls Tryz.prog 7 #[v] W fun e w' => ∃ (b : Nat) (qs : List (List Pl)), e = .returned (.slice (some ⟨b, 0, none⟩) l.length l.length) ∧ InstsSh w' (.slice (some ⟨b, 0, none⟩) l.length l.length) b 0 qs ∧ NumsAt w' (instPs b 0 qs) ∧ (instPs b 0 qs).Nodup ∧ InstsAt w' (.slice (some ⟨b, 0, none⟩) l.length l.length) l ∧
      (∀ p ∈ instPs b 0 qs, W.heap.size ≤ p.1) ∧ (instPs b 0 qs).length ≤ 1048576 * 3145730 ∧ Below W.heap.size W w' := by
  refine (l_toInstsM l hf v W hat hl).mono ?_
  rintro e w1 ⟨rfl, ⟨qs, hq, ⟨_, h2, h3, h4⟩, hz, hfr⟩, hb⟩
  obtain ⟨s1, s2, s3, s4⟩ := insts_shape (w := w1) (b := W.heap.size) (cap := l.length) (l := l) (qs := qs) hz hq (fun i hi => by
    obtain ⟨c0, c1, u, c2, c3, c4⟩ := h2 i (by omega) hi
    exact ⟨c0, c1, u, c2, c3, c4.at⟩) hfr (fun q hqm => ⟨(h3 q hqm).1, (h3 q hqm).2.1, fun p hp => Nat.ne_of_gt ((h3 q hqm).2.2 p hp)⟩) h4
  refine ⟨_, qs, rfl, s1, s2, s3, s4, fun p hp => ?_, ?_, hb⟩
  · rcases instPs_mem _ qs 0 p hp with ⟨i, _, rfl | rfl⟩ | ⟨q, hqm, hp⟩
    · exact Nat.le_refl _
    · exact Nat.le_refl _
    · exact Nat.le_of_lt ((h3 q hqm).2.2 p hp)
  · rw [instPs_length]
    have := psum_le (fun q : List Pl => 2 + q.length) 3145730 qs (fun q hqm => by
      obtain ⟨i, hi, rfl⟩ := List.getElem_of_mem hqm
      obtain ⟨_, _, u, _, c3, c4⟩ := h2 i hi (by omega)
      obtain ⟨a, n, cap, hu, hn, _⟩ := c3
      obtain ⟨a', cap', hu', _⟩ := c4
      rw [hu] at hu'
      cases hu'
      have := (hf _ (List.getElem_mem (show i < l.length by omega))).2.2.1
      omega)
    rw [hq] at this
    exact Nat.le_trans this (Nat.mul_le_mul_right _ hl)
end Go.Proofs.YtpaljcoojkbhnaaGreatDoor
