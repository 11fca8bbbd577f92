/- Plain facts on a ladder's rungs: what is accepted, what is wrong, alone and in beginnings. -/
import Derived.Test.YtenoanhonjdpjaaGreatDoorGp
namespace Stil
theorem size_split (l : List Arm) (j : Nat) (h : j < l.length) : treeSize (l.take (j + 1)) = treeSize (l.take j) + treeSize [l[j]] := by
  unfold treeSize
  rw [List.take_succ_eq_append_getElem h, List.map_append, List.sum_append]
theorem size_take (l : List Arm) (j : Nat) : treeSize (l.take j) ≤ treeSize l := by
  unfold treeSize
  have h : l = l.take j ++ l.drop j := (List.take_append_drop j l).symm
  conv => rhs; rw [h, List.map_append, List.sum_append]
  omega
theorem size_one (l : List Arm) (j : Nat) (h : j < l.length) : treeSize [l[j]] ≤ treeSize l := by
  have := size_split l j h
  have := size_take l (j + 1)
  omega
theorem firstRung_all : ∀ (l : List Arm) (k : Nat), (∀ x ∈ l, rungWrong x = 0) → firstRung l k = (0, 0)
  | [], _, _ => rfl
  | a :: r, k, h => by
    rw [firstRung, h a (by simp), if_neg (by omega)]
    exact firstRung_all r _ (fun y hy => h y (by simp [hy]))
theorem firstRung_some : ∀ (l : List Arm) (k : Nat), (firstRung l k).1 ≠ 0 → ∃ j, ∃ h : j < l.length, firstRung l k = (rungWrong l[j], k + j) ∧ 0 < rungWrong l[j] ∧ ∀ i (hi : i < j), rungWrong l[i] = 0
  | [], _, h => absurd rfl h
  | a :: r, k, h => by
    rw [firstRung] at h ⊢
    have hb := rungWrong_bound a
    by_cases h0 : 0 < rungWrong a
    · rw [if_pos h0]
      exact ⟨0, by simp, by simp, h0, fun i hi => absurd hi (by omega)⟩
    · rw [if_neg h0] at h ⊢
      obtain ⟨j, hj, e, hw, ha⟩ := firstRung_some r (k + 1) h
      refine ⟨j + 1, by simp; omega, ?_, by simpa using hw, fun i hi => ?_⟩
      · rw [e]; simp; omega
      · cases i with
        | zero => simp; omega
        | succ i => simpa using ha i (by omega)
theorem check_one {l : List Arm} {j : Nat} (h : j < l.length) (hs : treeSize l ≤ 400) : treeCheck [l[j]] = if 0 < rungWrong l[j] then (rungWrong l[j], 0) else (0, 0) := by
  have := size_one l j h
  unfold treeCheck
  rw [if_neg (by simp; omega), firstRung]
  split <;> rfl
/-- What the parts of a ladder are told, rung by rung. -/
theorem check_parts (l : List Arm) : (treeCheck l).1 = 0 ∧ (∀ i (h : i < l.length), treeCheck [l[i]] = (0, 0) ∧ (treeCheck (l.take (i + 1))).1 = 0) ∨ (treeCheck l).1 = 1 ∨ (∃ h : (treeCheck l).2 < l.length, 0 < (treeCheck l).1 ∧ (treeCheck l).1 ≠ 1 ∧ treeCheck [l[(treeCheck l).2]] = ((treeCheck l).1, 0) ∧ ∀ i (_h : i < (treeCheck l).2) (h2 : i < l.length), treeCheck [l[i]] = (0, 0) ∧ (treeCheck (l.take (i + 1))).1 = 0) := by
  by_cases hm : 40 < l.length ∨ 400 < treeSize l
  · refine .inr (.inl ?_)
    unfold treeCheck
    rw [if_pos hm]
  have hl : l.length ≤ 40 := by omega
  have hs : treeSize l ≤ 400 := by omega
  have e : treeCheck l = firstRung l 0 := by unfold treeCheck; rw [if_neg hm]
  have hpre : ∀ n, (∀ i (hi : i < n) (h2 : i < l.length), rungWrong l[i] = 0) → ∀ i (h : i < n) (h2 : i < l.length), treeCheck [l[i]] = (0, 0) ∧ (treeCheck (l.take (i + 1))).1 = 0 := by
    intro n hn i hi h2
    refine ⟨by rw [check_one h2 hs, hn i hi h2, if_neg (by omega)], ?_⟩
    have hts := size_take l (i + 1)
    unfold treeCheck
    rw [if_neg (by rw [List.length_take]; omega), firstRung_all]
    intro x hx
    obtain ⟨j, hj, rfl⟩ := List.mem_iff_getElem.1 hx
    rw [List.length_take] at hj
    rw [List.getElem_take]
    exact hn j (by omega) (by omega)
  by_cases h0 : (firstRung l 0).1 = 0
  · refine .inl ⟨by rw [e]; exact h0, fun i hi => hpre l.length (fun j _ h2 => (firstRung_zero l 0 h0).2 _ (List.getElem_mem h2)) i hi hi⟩
  · obtain ⟨j, hj, ej, hw, ha⟩ := firstRung_some l 0 h0
    by_cases h1 : (treeCheck l).1 = 1
    · exact .inr (.inl h1)
    · have e1 : (treeCheck l).1 = rungWrong l[j] := by rw [e, ej]
      have e2 : (treeCheck l).2 = j := by rw [e, ej]; simp
      refine .inr (.inr ⟨by omega, by omega, h1, ?_, fun i hi h2 => hpre j (fun i hi _ => ha i hi) i (by omega) h2⟩)
      have e3 : l[(treeCheck l).2]'(by omega) = l[j] := by congr 1
      rw [e3, check_one hj hs, if_pos hw, e1]
end Stil
