/- Plain model of chapter 4: nets with which nothing is wrong. -/
import Derived.Test.YthhfnncehfkbfaaDoorM8
import Derived.Test.YthhfnncehfkbfaaDoorGM
namespace Stil
theorem firstPos_zero (l : List Int) (h : ∀ x ∈ l, 0 ≤ x) (h0 : firstPos l = 0) : ∀ x ∈ l, x = 0 := by
  induction l with
  | nil => intro x hx; cases hx
  | cons y r ih =>
    unfold firstPos at h0
    have hy := h y (by simp)
    split at h0
    · omega
    · intro x hx
      rcases List.mem_cons.1 hx with rfl | hx
      · omega
      · exact ih (fun z hz => h z (by simp [hz])) h0 x hx
theorem right_parts {k : Int} {e : Elem} {kids : List Net} (h : netWrong ⟨k, e, kids⟩ = 0) :
    (k = 1 ∧ kids = []) ∨ ((k = 2 ∨ k = 3) ∧ 0 < kids.length ∧ ∀ x ∈ kids, netWrong x = 0) ∨ (k = 4 ∧ e = ⟨0, []⟩ ∧ ∃ x, kids = [x] ∧ netWrong x = 0) := by
  rw [netWrong_eq] at h
  by_cases h1 : k = 1
  · rw [if_pos h1] at h
    refine .inl ⟨h1, ?_⟩
    by_cases h2 : 0 < kids.length
    · rw [if_pos h2] at h; omega
    · exact List.length_eq_zero_iff.1 (by omega)
  · rw [if_neg h1] at h
    by_cases h2 : badNet k e.op e.args.length kids.length = true
    · rw [if_pos h2] at h; omega
    · rw [if_neg h2] at h
      have hk := firstPos_zero _ (fun x hx => by obtain ⟨n, _, rfl⟩ := List.mem_map.1 hx; exact (netWrong_bound n).1) h
      have hk2 : ∀ x ∈ kids, netWrong x = 0 := fun x hx => hk _ (List.mem_map.2 ⟨x, hx, rfl⟩)
      simp only [badNet, Bool.or_eq_true, decide_eq_true_eq, bne_iff_ne, ne_eq, beq_iff_eq, Bool.and_eq_true, not_or, not_and, Decidable.not_not] at h2
      obtain ⟨⟨⟨⟨⟨a1, a2⟩, a3⟩, a4⟩, a5⟩, a6⟩ := h2
      by_cases h4 : k = 4
      · refine .inr (.inr ⟨h4, ?_, ?_⟩)
        · obtain ⟨op, args⟩ := e
          simp only at a3 a4
          have : args = [] := List.length_eq_zero_iff.1 (by omega)
          subst this
          subst a3
          rfl
        · have hl := a6 h4
          have hl2 : kids.length = 1 := by omega
          obtain ⟨x, rfl⟩ := List.length_eq_one_iff.1 hl2
          exact ⟨x, rfl, hk2 x (by simp)⟩
      · exact .inr (.inl ⟨by omega, by omega, hk2⟩)
def normTop (n : Net) : Net := if 400 < netSize n ∨ 0 < netWrong n then ⟨0, ⟨0, []⟩, []⟩ else normNet n
theorem kids_sizes {k : Int} {e : Elem} {kids : List Net} {c : Nat} (h : netSize ⟨k, e, kids⟩ ≤ c) : sizes (kids.map normNet) ≤ c ∧ ∀ x ∈ kids, netSize x ≤ c := by
  have h1 := norm_sizes kids
  rw [netSize_eq] at h
  refine ⟨by unfold sizes at h1 ⊢; omega, fun x hx => ?_⟩
  have := mem_le_sum netSize kids x hx
  omega
end Stil
