/- M15: texts put together. -/
import Derived.Test.YtenoanhonjdpjaaGreatDoorGp
/- Plain facts on a rung of one net and one coil: what is asked of its normal form. -/
namespace Stil
/-- Within, no net of its own kind and at least two, but for contacts and turned ones. -/
def wn : Net → Bool
 | ⟨k, _, kids⟩ => kids.all (fun x => !(x.kind == k && k != 4)) && (kids.map wn).all id && (k == 1 || k == 4 || decide (1 < kids.length))
theorem wn_eq (n : Net) : wn n = (n.kids.all (fun x => !(x.kind == n.kind && n.kind != 4) && wn x) && (n.kind == 1 || n.kind == 4 || decide (1 < n.kids.length))) := by
 obtain ⟨k, e, kids⟩ := n
 rw [wn]
 congr 1
 rw [Bool.eq_iff_iff]
 simp only [Bool.and_eq_true, List.all_eq_true, List.mem_map, id_eq, forall_exists_index, and_imp, forall_apply_eq_imp_iff₂]
 constructor
 ·rintro ⟨h1, h2⟩ x hx
  exact ⟨h1 x hx, h2 x hx⟩
 ·intro h
  exact ⟨fun x hx => (h x hx).1, fun x hx => (h x hx).2⟩
theorem wn_fine (n : Net) : isNorm n → netWrong n = 0 → wn n = true := by
 refine net_ind (fun n => isNorm n → netWrong n = 0 → wn n = true) ?_ n
 intro k e kids ih hn hw
 have h1 := (isNorm_iff _).1 hn
 simp only at h1
 rw [wn_eq]
 simp only [Bool.and_eq_true, List.all_eq_true, Bool.or_eq_true, beq_iff_eq, decide_eq_true_eq, Bool.not_eq_true', Bool.and_eq_false_iff, beq_eq_false_iff_ne, ne_eq, bne_eq_false_iff_eq]
 rcases right_parts hw with ⟨hk, h2⟩ | ⟨hk, h2, h3⟩ | ⟨hk, _, x, h2, h3⟩
 ·subst h2
  exact ⟨fun x hx => (by cases hx), .inl (.inl hk)⟩
 ·obtain ⟨h4, h5⟩ := h1.1 hk
  exact ⟨fun x hx => ⟨.inl (h5 x hx), ih x hx (h1.2 x hx) (h3 x hx)⟩, .inr (by omega)⟩
 ·subst h2
  refine ⟨fun y hy => ?_, .inl (.inr hk)⟩
  have e := List.mem_singleton.1 hy
  subst e
  exact ⟨.inr hk, ih y hy (h1.2 y hy) h3⟩
/-- The rung of a net and one coil. -/
def outY : Elem := ⟨21, [⟨2, 0, 0⟩]⟩
def rungOf (n : Net) : Arm := ⟨n, [outY], []⟩
theorem outY_coil : isCoil outY.op outY.args = true := by decide
theorem rung_size (n : Net) : treeSize [rungOf n] = 2 + nsz n := by
 have e : treeSize [rungOf n] = armSize (rungOf n) := by simp [treeSize]
 rw [e, rungOf, armSize_nsz]
 simp [ksize]
theorem rung_wrong (n : Net) : rungWrong (rungOf n) = if netNone n then 4 else netWrong n := by
 unfold rungWrong rungOf
 simp only
 split
 ·rfl
 ·rename_i h
  have hn : netNone n = false := by simpa using h
  have hb := netWrong_bound n
  rw [armWrong_eq]
  unfold armOwnWrong coilsBad
  have hc : ([outY].any fun c => !isCoil c.op c.args) = false := by rw [List.any_cons, outY_coil]; rfl
  simp only [hn, hc, List.map_nil, firstPos]
  by_cases h0 : 0 < netWrong n
  ·simp [h0]
  ·have : netWrong n = 0 := by omega
   simp [this]
theorem rung_check (n : Net) : (treeCheck [rungOf n]).1 = if 400 < 2 + nsz n then 1 else if netNone n then 4 else netWrong n := by
 have hb := netWrong_bound n
 unfold treeCheck
 rw [rung_size]
 simp only [List.length_cons, List.length_nil]
 by_cases h : 400 < 2 + nsz n
 ·rw [if_pos (.inr h), if_pos h]
 ·rw [if_neg (by omega), if_neg h, firstRung, rung_wrong]
  by_cases hn : netNone n = true
  ·simp [hn]
  ·have hn' : netNone n = false := by simpa using hn
   simp only [hn', Bool.false_eq_true, if_false]
   by_cases h0 : 0 < netWrong n
   ·rw [if_pos h0]
   ·rw [if_neg h0, firstRung]
    simp only
    omega
/-- A rung that is not accepted: too large by one or two, or there is no normal form. -/
theorem rung_refused {n : Net} (h : (treeCheck [rungOf n]).1 ≠ 0) : treeSize [rungOf n] = 401 ∨ treeSize [rungOf n] = 402 ∨ normTop n = none0 := by
 rw [rung_size]
 rw [rung_check] at h
 have hb := netWrong_bound n
 unfold normTop
 by_cases hn : netNone n = true
 ·right; right
  have e := none_eq hn
  rw [e]
  have h2 : 0 < netWrong none0 := by unfold none0; rw [netWrong_eq]; decide
  rw [if_pos (.inr h2)]
  rfl
 ·have hn' : netNone n = false := by simpa using hn
  have hs : nsz n = netSize n := if_neg hn
  rw [hs] at h ⊢
  by_cases h1 : 400 < netSize n ∨ 0 < netWrong n
  ·right; right
   rw [if_pos h1]
   rfl
  ·have h2 : netWrong n = 0 := by omega
   by_cases h3 : 400 < 2 + netSize n
   ·omega
   ·rw [if_neg h3, if_neg hn, h2] at h
    exact absurd rfl h
/-- A rung that is accepted: its normal form is that of its net, and is as asked. -/
theorem rung_taken {n : Net} (h : (treeCheck [rungOf n]).1 = 0) : normMake [rungOf n] = [rungOf (normTop n)] ∧ wn (normTop n) = true := by
 have h0 := h
 rw [rung_check] at h
 have hb := netWrong_bound n
 by_cases h1 : 400 < 2 + nsz n
 ·rw [if_pos h1] at h; omega
 ·rw [if_neg h1] at h
  by_cases hn : netNone n = true
  ·rw [if_pos hn] at h; omega
  ·rw [if_neg hn] at h
   have hs : nsz n = netSize n := if_neg hn
   have e : normTop n = normNet n := by unfold normTop; rw [if_neg (by omega)]
   rw [e]
   refine ⟨?_, wn_fine _ (norm_isNorm n) (norm_right n h)⟩
   unfold normMake
   rw [if_pos h0]
   simp only [List.map_cons, List.map_nil, rungOf]
   rw [normArm_of, List.map_nil, joined_stop _ (fun kid hk => by cases hk)]
   have e2 : netOf n = normNet n := if_neg hn
   rw [e2]
end Stil
