/- M16, M17: texts put together. -/
import Derived.Test.YtenoanhonjdpjaaGreatDoorGx
import Derived.Test.YtenoanhonjdpjaaGreatDoorG8
/- Plain facts on the normal form: every operand stands in it as often as before. -/
namespace Stil
theorem bare_of (n : Net) : netWrong n = 0 → blkBare n := by
 refine net_ind (fun n => netWrong n = 0 → blkBare n) ?_ n
 intro k e kids ih h
 refine (blkBare_iff _).2 ⟨fun hk => ?_, fun x hx => ih x hx (right_all h x hx)⟩
 rw [netWrong_eq] at h
 simp only at hk
 rw [if_neg (by omega)] at h
 cases hb : badNet k e.op e.args.length kids.length with
 | true => rw [hb] at h; simp at h
 | false =>
  obtain ⟨op, args⟩ := e
  simp only [badNet, Bool.or_eq_false_iff, decide_eq_false_iff_not, bne_eq_false_iff_eq] at hb
  obtain ⟨⟨⟨⟨_, h1⟩, h2⟩, _⟩, _⟩ := hb
  have h3 : args = [] := List.eq_nil_of_length_eq_zero (by omega)
  rw [h1, h3]
theorem flat_uses (d : Dev) (k : Int) (hk : k = 2 ∨ k = 3) (l : List Net) (h : ∀ x ∈ l, blkBare x) : ((flatKids k l).map (netUses d)).sum = (l.map (netUses d)).sum := by
 induction l with
 | nil => rfl
 | cons x r ih =>
  have e : flatKids k (x :: r) = flatKids k [x] ++ flatKids k r := flatKids_append k [x] r
  rw [e, List.map_append, List.sum_append, ih (fun y hy => h y (by simp [hy])), flatKids_one, List.map_cons, List.sum_cons]
  congr 1
  split
  ·rename_i hx
   have hb := ((blkBare_iff x).1 (h x (by simp))).1 (by omega)
   rw [netUses_eq d x, hb]
   simp [elemUses, devsUses]
  ·simp
theorem block_uses (d : Dev) (k : Int) (ks : List Net) : netUses d (blockOf k ks) = (ks.map (netUses d)).sum := by
 unfold blockOf
 split
 ·rename_i h
  obtain ⟨x, rfl⟩ := List.length_eq_one_iff.1 h
  simp
 ·rw [netUses_eq]
  simp [elemUses, devsUses]
theorem norm_uses (d : Dev) (n : Net) : blkBare n → netUses d (normNet n) = netUses d n := by
 refine net_ind (fun n => blkBare n → netUses d (normNet n) = netUses d n) ?_ n
 intro k e kids ih h
 have hp := (blkBare_iff _).1 h
 simp only at hp
 have hm : ((kids.map normNet).map (netUses d)).sum = (kids.map (netUses d)).sum := by
  rw [List.map_map]
  congr 1
  exact List.map_congr_left fun x hx => ih x hx (hp.2 x hx)
 rw [normNet_eq]
 split
 ·rename_i hk
  rw [block_uses, flat_uses d k hk _ (fun x hx => by obtain ⟨y, _, rfl⟩ := List.mem_map.1 hx; exact norm_blkBare y), hm, netUses_eq, hp.1 hk]
  simp [elemUses, devsUses]
 ·rw [netUses_eq, netUses_eq]
  simp only
  rw [hm]
theorem none_uses {d : Dev} {n : Net} (h : netNone n = true) : netUses d n = 0 := by
 rw [none_eq h, netUses_eq]
 simp [none0, elemUses, devsUses]
theorem series_uses (d : Dev) {a b : Net} (ha : fineOr a) (hb : fineOr b) : netUses d (series a b) = netUses d a + netUses d b := by
 unfold series
 split
 ·rename_i h; rw [none_uses h]; omega
 ·rename_i h1
  split
  ·rename_i h; rw [none_uses h]; omega
  ·rename_i h2
   rw [block_uses, flat_uses d 2 (.inl rfl)]
   ·simp
   ·intro x hx
    rcases List.mem_cons.1 hx with rfl | hx
    ·exact (ha.resolve_left h1).2.1
    ·rw [List.mem_singleton.1 hx]; exact (hb.resolve_left h2).2.1
theorem joinArm_uses (d : Dev) : ∀ (f : Nat) (b : Arm), armFine b → armUses d (joinArm f b) = armUses d b
 | 0, _, _ => rfl
 | f + 1, ⟨n, cs, kids⟩, h => by
  rw [joinArm]
  split
  ·rename_i kid e
   simp only at e
   subst e
   split
   ·have hj := join_fine h
    rw [joinArm_uses d f _ hj.1, armUses_eq, armUses_eq]
    simp only
    rw [series_uses d hj.2.1 hj.2.2]
    have ek := armUses_eq d kid
    simp only [coilsUses, List.map_append, List.sum_append, List.map_cons, List.map_nil, List.sum_cons, List.sum_nil] at ek ⊢
    omega
   ·rfl
  ·rfl
theorem normArm_uses (d : Dev) (a : Arm) : armRight a → armUses d (normArm a) = armUses d a := by
 refine arm_ind (fun a => armRight a → armUses d (normArm a) = armUses d a) ?_ a
 intro n c kids ih h
 have hp := (armRight_eq _ _ _).1 h
 rw [normArm_of]
 unfold joined
 rw [joinArm_uses d _ _ ((armFine_eq _ _ _).2 ⟨netOf_fine hp.1, fun x hx => by obtain ⟨y, hy, rfl⟩ := List.mem_map.1 hx; exact normArm_fine y (hp.2 y hy)⟩), armUses_eq, armUses_eq]
 simp only
 have hm : ((kids.map normArm).map (armUses d)).sum = (kids.map (armUses d)).sum := by
  rw [List.map_map]
  congr 1
  exact List.map_congr_left fun x hx => ih x hx (hp.2 x hx)
 have hn : netUses d (netOf n) = netUses d n := by
  unfold netOf
  split
  ·rfl
  ·rename_i h1
   exact norm_uses d n (bare_of n (hp.1.resolve_left h1))
 rw [hm, hn]
theorem normMake_uses (d : Dev) {l : List Arm} (h : (treeCheck l).1 = 0) : treeUses d (normMake l) = treeUses d l := by
 unfold normMake treeUses
 rw [if_pos h, List.map_map]
 congr 1
 exact List.map_congr_left fun x hx => normArm_uses d x (rung_right h hx).1
def armNorm : Arm → Prop
 | ⟨n, c, kids⟩ => fineOr n ∧ (∀ p ∈ kids.map armNorm, p) ∧ ∀ kid, kids = [kid] → ¬ (c = [] ∨ netNone kid.net = true)
theorem armNorm_eq (n : Net) (c : List Elem) (kids : List Arm) : armNorm ⟨n, c, kids⟩ ↔ fineOr n ∧ (∀ x ∈ kids, armNorm x) ∧ ∀ kid, kids = [kid] → ¬ (c = [] ∨ netNone kid.net = true) := by rw [armNorm, all_map]
theorem netOf_same {n : Net} (h : fineOr n) : netOf n = n := by
 unfold netOf
 split
 ·rfl
 ·rename_i h1
  exact fine_same (h.resolve_left h1)
theorem armNorm_same (a : Arm) : armNorm a → normArm a = a := by
 refine arm_ind (fun a => armNorm a → normArm a = a) ?_ a
 intro n c kids ih h
 obtain ⟨h1, h2, h3⟩ := (armNorm_eq _ _ _).1 h
 have hm : kids.map normArm = kids := by
  have : kids.map normArm = kids.map id := List.map_congr_left fun x hx => ih x hx (h2 x hx)
  rw [this, List.map_id]
 rw [normArm_of, netOf_same h1, hm]
 exact joined_stop _ h3
theorem ksize_zero {l : List Arm} (h : ksize l ≤ 0) : l = [] := by
 have := len_ksize l
 exact List.eq_nil_of_length_eq_zero (by omega)
theorem joinArm_norm : ∀ (f : Nat) (b : Arm), ksize b.kids ≤ f → fineOr b.net → (∀ x ∈ b.kids, armNorm x) → armNorm (joinArm f b)
 | 0, ⟨n, cs, kids⟩, hs, hn, _ => by
  simp only at hs hn
  obtain rfl := ksize_zero hs
  rw [joinArm]
  exact (armNorm_eq _ _ _).2 ⟨hn, fun x hx => (by cases hx), fun kid e => (by cases e)⟩
 | f + 1, ⟨n, cs, kids⟩, hs, hn, hk => by
  simp only at hs hn hk
  rw [joinArm]
  split
  ·rename_i kid e
   simp only at e
   subst e
   split
   ·obtain ⟨kn, kc, kk⟩ := kid
    have h1 := (armNorm_eq _ _ _).1 (hk ⟨kn, kc, kk⟩ (by simp))
    have h2 := armSize_pos ⟨kn, kc, kk⟩
    rw [ksize_one] at hs
    simp only at h2
    exact joinArm_norm f _ (by simp only; omega) (series_fine hn h1.1) h1.2.1
   ·rename_i hne
    exact (armNorm_eq _ _ _).2 ⟨hn, hk, fun k e => by
     simp only [List.cons.injEq, and_true] at e
     subst e
     exact hne⟩
  ·rename_i hne
   exact (armNorm_eq _ _ _).2 ⟨hn, hk, fun k e => absurd e (hne k)⟩
theorem normArm_norm (a : Arm) : armRight a → armNorm (normArm a) := by
 refine arm_ind (fun a => armRight a → armNorm (normArm a)) ?_ a
 intro n c kids ih h
 have hp := (armRight_eq _ _ _).1 h
 rw [normArm_of]
 unfold joined
 refine joinArm_norm _ _ (Nat.le_refl _) (netOf_fine hp.1) fun x hx => ?_
 obtain ⟨y, hy, rfl⟩ := List.mem_map.1 hx
 exact ih y hy (hp.2 y hy)
theorem normArm_twice {a : Arm} (h : armRight a) : normArm (normArm a) = normArm a := armNorm_same _ (normArm_norm a h)
/- What is wrong, behind joining. -/
theorem fineOr_right {n : Net} (h : fineOr n) : netNone n = true ∨ netWrong n = 0 := h.imp id fun h => h.2.2
theorem armOwn_zero {a : Arm} : armOwnWrong a = 0 ↔ (netNone a.net = true ∨ netWrong a.net = 0) ∧ coilsBad a.coils = false ∧ ¬ (a.coils.length = 0 ∧ a.kids.length = 0) := by
 have hb := netWrong_bound a.net
 unfold armOwnWrong
 constructor
 ·intro h
  have h1 : ¬ (netNone a.net = false ∧ 0 < netWrong a.net) := fun hc => by rw [if_pos hc] at h; omega
  rw [if_neg h1] at h
  cases hc : coilsBad a.coils with
  | true => rw [hc, if_pos rfl] at h; omega
  | false =>
   rw [hc, if_neg Bool.false_ne_true] at h
   refine ⟨?_, rfl, fun h2 => by rw [if_pos h2] at h; omega⟩
   cases hn : netNone a.net with
   | true => exact .inl rfl
   | false =>
    have h4 : ¬ 0 < netWrong a.net := fun x => h1 ⟨hn, x⟩
    exact .inr (by omega)
 ·rintro ⟨h1, h2, h3⟩
  have h4 : ¬ (netNone a.net = false ∧ 0 < netWrong a.net) := by
   rintro ⟨h5, h6⟩
   rcases h1 with h | h
   ·rw [h] at h5; exact Bool.noConfusion h5
   ·omega
  rw [if_neg h4, h2, if_neg Bool.false_ne_true, if_neg h3]
theorem armWrong_zero {n : Net} {c : List Elem} {kids : List Arm} : armWrong ⟨n, c, kids⟩ = 0 ↔ armOwnWrong ⟨n, c, kids⟩ = 0 ∧ ∀ x ∈ kids, armWrong x = 0 := by
 have hb := armOwnWrong_bound ⟨n, c, kids⟩
 rw [armWrong_eq]
 constructor
 ·intro h
  have h0 : armOwnWrong ⟨n, c, kids⟩ = 0 := by split at h <;> omega
  rw [if_neg (by omega)] at h
  exact ⟨h0, fun x hx => firstPos_zero _ (fun y hy => by obtain ⟨z, _, rfl⟩ := List.mem_map.1 hy; exact (armWrong_bound z).1) h _ (List.mem_map.2 ⟨x, hx, rfl⟩)⟩
 ·rintro ⟨h0, h1⟩
  rw [if_neg (by omega)]
  simp only
  clear h0 hb
  induction kids with
  | nil => rfl
  | cons x r ih =>
   rw [List.map_cons, firstPos, h1 x (by simp), if_neg (by omega)]
   exact ih (fun y hy => h1 y (by simp [hy]))
theorem coilsBad_append (a b : List Elem) : coilsBad (a ++ b) = (coilsBad a || coilsBad b) := by simp [coilsBad]
theorem joinArm_zero : ∀ (f : Nat) (b : Arm), armFine b → armWrong b = 0 → armWrong (joinArm f b) = 0
 | 0, _, _, h => h
 | f + 1, ⟨n, cs, kids⟩, hf, h => by
  rw [joinArm]
  split
  ·rename_i kid e
   simp only at e
   subst e
   split
   ·have hj := join_fine hf
    refine joinArm_zero f _ hj.1 ?_
    obtain ⟨kn, kc, kk⟩ := kid
    have h1 := armWrong_zero.1 h
    have h2 := armWrong_zero.1 (h1.2 ⟨kn, kc, kk⟩ (by simp))
    obtain ⟨_, a2, _⟩ := armOwn_zero.1 h1.1
    obtain ⟨_, b2, b3⟩ := armOwn_zero.1 h2.1
    simp only at a2 b2 b3
    refine armWrong_zero.2 ⟨armOwn_zero.2 ⟨fineOr_right (series_fine hj.2.1 hj.2.2), ?_, ?_⟩, h2.2⟩
    ·simp only
     rw [coilsBad_append, a2, b2]; rfl
    ·simp only [List.length_append]
     omega
   ·exact h
  ·exact h
theorem normArm_zero (a : Arm) : armWrong a = 0 → armWrong (normArm a) = 0 := by
 refine arm_ind (fun a => armWrong a = 0 → armWrong (normArm a) = 0) ?_ a
 intro n c kids ih h
 have hr := (armRight_eq _ _ _).1 (armRight_of _ h)
 obtain ⟨h1, h2⟩ := armWrong_zero.1 h
 obtain ⟨_, a2, a3⟩ := armOwn_zero.1 h1
 simp only at a2 a3
 rw [normArm_of]
 unfold joined
 refine joinArm_zero _ _ ((armFine_eq _ _ _).2 ⟨netOf_fine hr.1, fun x hx => ?_⟩) (armWrong_zero.2 ⟨armOwn_zero.2 ⟨fineOr_right (netOf_fine hr.1), a2, by simpa using a3⟩, fun x hx => ?_⟩)
 ·obtain ⟨y, hy, rfl⟩ := List.mem_map.1 hx
  exact normArm_fine y (hr.2 y hy)
 ·obtain ⟨y, hy, rfl⟩ := List.mem_map.1 hx
  exact ih y hy (h2 y hy)
theorem rungs_zero {l : List Arm} (h1 : l.length ≤ 40) (h2 : treeSize l ≤ 400) (h3 : ∀ x ∈ l, rungWrong x = 0) : treeCheck l = (0, 0) := by
 unfold treeCheck
 rw [if_neg (by omega)]
 clear h1 h2
 suffices ∀ k, firstRung l k = (0, 0) from this 0
 induction l with
 | nil => intro k; rfl
 | cons x r ih =>
  intro k
  rw [firstRung, h3 x (by simp), if_neg (by omega)]
  exact ih (fun y hy => h3 y (by simp [hy])) _
theorem rung_zero' {a : Arm} (h1 : netNone a.net = false) (h2 : armWrong a = 0) : rungWrong a = 0 := by
 unfold rungWrong
 rw [h1, h2]; rfl
theorem normMake_zero {l : List Arm} (hf : ∀ x ∈ l, armFits x) (h : (treeCheck l).1 = 0) : treeCheck (normMake l) = (0, 0) ∧ treeSize (normMake l) ≤ treeSize l ∧ (normMake l).length = l.length ∧ normMake (normMake l) = normMake l ∧ ∀ x ∈ normMake l, armFits x := by
 obtain ⟨_, h1, h2, h3⟩ := check_zero h
 have e : normMake l = l.map normArm := by unfold normMake; rw [if_pos h]
 have hm : ∀ x ∈ l, midOk (armSize x) (normArm x) := fun x hx => normArm_ok x (hf x hx) (by have := (rung_right h hx).2; omega)
 have hs : treeSize (normMake l) ≤ treeSize l := by
  rw [e]
  unfold treeSize
  rw [List.map_map]
  exact sum_mono _ _ _ fun x hx => (hm x hx).2
 have hc : treeCheck (normMake l) = (0, 0) := by
  refine rungs_zero (by rw [e, List.length_map]; exact h1) (by omega) fun x hx => ?_
  rw [e] at hx
  obtain ⟨y, hy, rfl⟩ := List.mem_map.1 hx
  exact rung_zero' (normArm_net (rung_right h hy).1 (h3 y hy).1) (normArm_zero y (h3 y hy).2)
 refine ⟨hc, hs, by rw [e, List.length_map], ?_, fun x hx => ?_⟩
 ·obtain ⟨m, hm2⟩ : ∃ m, m = normMake l := ⟨_, rfl⟩
  have e2 : normMake (normMake l) = (normMake l).map normArm := by
   rw [← hm2] at hc ⊢
   unfold normMake
   rw [if_pos (by rw [hc])]
  rw [e2, e, List.map_map]
  exact List.map_congr_left fun x hx => normArm_twice (rung_right h hx).1
 ·rw [e] at hx
  obtain ⟨y, hy, rfl⟩ := List.mem_map.1 hx
  exact (hm y hy).1
/- The shape. -/
def oneOk (c : List Elem) : List Arm → Bool
 | [k] => decide (0 < c.length) && !(k.net.kind == 0)
 | _ => true
def wa : Arm → Bool
 | ⟨n, c, kids⟩ => (n.kind == 0 || wn n) && (kids.map wa).all id && oneOk c kids
theorem wn_isNorm (n : Net) : wn n = true → isNorm n := by
 refine net_ind (fun n => wn n = true → isNorm n) ?_ n
 intro k e kids ih h
 rw [wn_eq] at h
 simp only [Bool.and_eq_true, List.all_eq_true, Bool.or_eq_true, beq_iff_eq, decide_eq_true_eq, Bool.not_eq_true', Bool.and_eq_false_iff, beq_eq_false_iff_ne, ne_eq, bne_eq_false_iff_eq] at h
 refine (isNorm_iff _).2 ⟨fun hk => ?_, fun x hx => ih x hx (h.1 x hx).2⟩
 simp only at hk ⊢
 refine ⟨by omega, fun x hx e => ?_⟩
 have := (h.1 x hx).1
 omega
theorem kind_none {n : Net} (h : netNone n = true ∨ netWrong n = 0) : n.kind = 0 ↔ netNone n = true := by
 constructor
 ·intro hk
  rcases h with h | h
  ·exact h
  ·obtain ⟨k, e, kids⟩ := n
   rcases right_parts h with ⟨h1, _⟩ | ⟨h1, _⟩ | ⟨h1, _⟩ <;> (simp only at hk; omega)
 ·intro h; rw [none_eq h]; rfl
theorem net_iff {n : Net} (h : netNone n = true ∨ netWrong n = 0) : (n.kind = 0 ∨ wn n = true) ↔ fineOr n := by
 rw [kind_none h]
 constructor
 ·rintro (h1 | h1)
  ·exact .inl h1
  ·rcases h with h | h
   ·exact .inl h
   ·exact .inr ⟨wn_isNorm n h1, bare_of n h, h⟩
 ·rintro (h1 | h1)
  ·exact .inl h1
  ·exact .inr (wn_fine n h1.1 h1.2.2)
theorem wa_iff (a : Arm) : armRight a → (wa a = true ↔ armNorm a) := by
 refine arm_ind (fun a => armRight a → (wa a = true ↔ armNorm a)) ?_ a
 intro n c kids ih h
 have hp := (armRight_eq _ _ _).1 h
 rw [armNorm_eq, wa]
 simp only [Bool.and_eq_true, List.all_eq_true, Bool.or_eq_true, beq_iff_eq, List.mem_map, id_eq, forall_exists_index, and_imp, forall_apply_eq_imp_iff₂]
 rw [and_assoc, net_iff hp.1]
 refine and_congr Iff.rfl (and_congr ⟨fun h x hx => (ih x hx (hp.2 x hx)).1 (h x hx), fun h x hx => (ih x hx (hp.2 x hx)).2 (h x hx)⟩ ?_)
 rcases kids with _ | ⟨k, _ | ⟨k2, r⟩⟩
 ·exact ⟨fun _ kid e => (by cases e), fun _ => rfl⟩
 ·obtain ⟨kn, kc, kk⟩ := k
  have hk := kind_none ((armRight_eq _ _ _).1 (hp.2 ⟨kn, kc, kk⟩ (by simp))).1
  constructor
  ·intro h2 kid e
   simp only [List.cons.injEq, and_true] at e
   subst e
   simp only [oneOk, Bool.and_eq_true, decide_eq_true_eq, Bool.not_eq_true', beq_eq_false_iff_ne, ne_eq] at h2
   rintro (h3 | h3)
   ·rw [h3] at h2; simp at h2
   ·exact h2.2 (hk.2 h3)
  ·intro h2
   have h3 := h2 _ rfl
   simp only [oneOk, Bool.and_eq_true, decide_eq_true_eq, Bool.not_eq_true', beq_eq_false_iff_ne, ne_eq]
   refine ⟨?_, fun e => h3 (.inr (hk.1 e))⟩
   cases c with
   | nil => exact absurd (.inl rfl) h3
   | cons x r => simp
 ·exact ⟨fun _ kid e => (by cases e), fun _ => rfl⟩
open Classical in
theorem shape_iff {l : List Arm} (h : (treeCheck l).1 = 0) : l.all wa = decide (normMake l = l) := by
 have e : normMake l = l.map normArm := by unfold normMake; rw [if_pos h]
 rw [Bool.eq_iff_iff, List.all_eq_true, decide_eq_true_eq, e]
 constructor
 ·intro h1
  have : l.map normArm = l.map id := List.map_congr_left fun x hx => armNorm_same x ((wa_iff x (rung_right h hx).1).1 (h1 x hx))
  rw [this, List.map_id]
 ·intro h1 x hx
  refine (wa_iff x (rung_right h hx).1).2 ?_
  have hx2 := hx
  rw [← h1] at hx2
  obtain ⟨y, hy, e2⟩ := List.mem_map.1 hx2
  rw [← e2]
  exact normArm_norm y (rung_right h hy).1
theorem norm_wa {l : List Arm} (h : (treeCheck l).1 = 0) : ∀ x ∈ normMake l, wa x = true := by
 intro x hx
 have e : normMake l = l.map normArm := by unfold normMake; rw [if_pos h]
 rw [e] at hx
 obtain ⟨y, hy, rfl⟩ := List.mem_map.1 hx
 have hr := (rung_right h hy).1
 have hz := ((check_zero h).2.2.2 y hy).2
 exact (wa_iff _ (armRight_of _ (normArm_zero y hz))).2 (normArm_norm y hr)
end Stil
