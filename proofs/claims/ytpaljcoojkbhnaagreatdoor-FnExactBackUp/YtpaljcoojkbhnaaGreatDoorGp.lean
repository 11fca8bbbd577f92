/- M9, M10, M11, M12: texts put together. -/
import Derived.Test.YtpaljcoojkbhnaaGreatDoorM31
/- Plain model of chapter 4: the normal form is its own normal form; nothing is wrong with it. -/
namespace Stil
/-- A net in normal form. -/
def isNorm : Net → Prop
 | ⟨k, _, kids⟩ => ((k = 2 ∨ k = 3) → kids.length ≠ 1 ∧ ∀ x ∈ kids, x.kind ≠ k) ∧ ∀ p ∈ kids.map isNorm, p
theorem isNorm_iff (n : Net) : isNorm n ↔ ((n.kind = 2 ∨ n.kind = 3) → n.kids.length ≠ 1 ∧ ∀ x ∈ n.kids, x.kind ≠ n.kind) ∧ ∀ x ∈ n.kids, isNorm x := by
 obtain ⟨k, e, kids⟩ := n
 rw [isNorm, all_map]
theorem flatKids_id (k : Int) (l : List Net) (h : ∀ x ∈ l, x.kind ≠ k) : flatKids k l = l := by
 induction l with
 | nil => rfl
 | cons x r ih =>
  have e : x :: r = [x] ++ r := rfl
  rw [e, flatKids_append, flatKids_one, if_neg (h x (by simp)), ih (fun y hy => h y (List.mem_cons_of_mem _ hy))]
theorem flatKids_kind (k : Int) (hk : k = 2 ∨ k = 3) (l : List Net) (h : ∀ x ∈ l, isNorm x) : ∀ x ∈ flatKids k l, x.kind ≠ k ∧ isNorm x := by
 intro x hx
 obtain ⟨y, hy, hx⟩ := List.mem_flatMap.1 hx
 have hn := (isNorm_iff y).1 (h y hy)
 split at hx
 ·rename_i e
  refine ⟨?_, hn.2 x hx⟩
  have := (hn.1 (by rw [e]; exact hk)).2 x hx
  rwa [e] at this
 ·rename_i e
  rw [List.mem_singleton.1 hx]
  exact ⟨e, h y hy⟩
theorem norm_isNorm (n : Net) : isNorm (normNet n) := by
 refine net_ind (fun n => isNorm (normNet n)) ?_ n
 intro k e kids ih
 have hm : ∀ x ∈ kids.map normNet, isNorm x := by
  intro x hx
  obtain ⟨y, hy, rfl⟩ := List.mem_map.1 hx
  exact ih y hy
 rw [normNet_eq]
 split
 ·rename_i hk
  have hF := flatKids_kind k hk _ hm
  unfold blockOf
  split
  ·exact (hF _ (List.getElem_mem _)).2
  ·rename_i hl
   rw [isNorm_iff]
   exact ⟨fun _ => ⟨hl, fun x hx => (hF x hx).1⟩, fun x hx => (hF x hx).2⟩
 ·rename_i hk
  rw [isNorm_iff]
  exact ⟨fun h => absurd h hk, hm⟩
/-- Blocks hold no contact of their own, anywhere. -/
def blkBare : Net → Prop
 | ⟨k, e, kids⟩ => ((k = 2 ∨ k = 3) → e = ⟨0, []⟩) ∧ ∀ p ∈ kids.map blkBare, p
theorem blkBare_iff (n : Net) : blkBare n ↔ ((n.kind = 2 ∨ n.kind = 3) → n.one = ⟨0, []⟩) ∧ ∀ x ∈ n.kids, blkBare x := by
 obtain ⟨k, e, kids⟩ := n
 rw [blkBare, all_map]
theorem norm_blkBare (n : Net) : blkBare (normNet n) := by
 refine net_ind (fun n => blkBare (normNet n)) ?_ n
 intro k e kids ih
 have hm : ∀ x ∈ kids.map normNet, blkBare x := by
  intro x hx
  obtain ⟨y, hy, rfl⟩ := List.mem_map.1 hx
  exact ih y hy
 have hF : ∀ x ∈ flatKids k (kids.map normNet), blkBare x := by
  intro x hx
  obtain ⟨y, hy, hx⟩ := List.mem_flatMap.1 hx
  have hn := (blkBare_iff y).1 (hm y hy)
  split at hx
  ·exact hn.2 x hx
  ·rw [List.mem_singleton.1 hx]; exact hm y hy
 rw [normNet_eq]
 split
 ·unfold blockOf
  split
  ·exact hF _ (List.getElem_mem _)
  ·rw [blkBare_iff]
   exact ⟨fun _ => rfl, hF⟩
 ·rename_i hk
  rw [blkBare_iff]
  exact ⟨fun h => absurd h hk, hm⟩
theorem norm_same (n : Net) : isNorm n → blkBare n → normNet n = n := by
 refine net_ind (fun n => isNorm n → blkBare n → normNet n = n) ?_ n
 intro k e kids ih h1 h2
 have a1 := (isNorm_iff _).1 h1
 have a2 := (blkBare_iff _).1 h2
 simp only at a1 a2
 have hm : kids.map normNet = kids := by
  have : kids.map normNet = kids.map id := List.map_congr_left (fun x hx => ih x hx (a1.2 x hx) (a2.2 x hx))
  rw [this, List.map_id]
 rw [normNet_eq, hm]
 split
 ·rename_i hk
  rw [flatKids_id k kids (a1.1 hk).2]
  unfold blockOf
  rw [dif_neg (a1.1 hk).1, a2.1 hk]
 ·rfl
theorem norm_twice (n : Net) : normNet (normNet n) = normNet n := norm_same _ (norm_isNorm n) (norm_blkBare n)
/-- Nothing is wrong with these nets. -/
theorem right_of {k : Int} {ks : List Net} (hk : k = 2 ∨ k = 3) (h0 : 0 < ks.length) (h : ∀ x ∈ ks, netWrong x = 0) : netWrong ⟨k, ⟨0, []⟩, ks⟩ = 0 := by
 rw [netWrong_eq, if_neg (by omega)]
 have hb : badNet k 0 0 ks.length = false := by
  unfold badNet
  have e1 : decide (k < 2) = false := by rw [decide_eq_false_iff_not]; omega
  have e2 : decide (4 < k) = false := by rw [decide_eq_false_iff_not]; omega
  have e3 : ((ks.length : Int) == 0) = false := by rw [beq_eq_false_iff_ne]; omega
  have e4 : (k == 4) = false := by rw [beq_eq_false_iff_ne]; omega
  simp [e1, e2, e3, e4]
 rw [if_neg (by simp only [List.length_nil, hb]; exact Bool.false_ne_true)]
 clear h0 hb
 induction ks with
 | nil => rfl
 | cons x r ih =>
  rw [List.map_cons, firstPos, if_neg (by rw [h x (by simp)]; omega)]
  exact ih (fun y hy => h y (List.mem_cons_of_mem _ hy))
theorem right_kids {n : Net} (h : netWrong n = 0) (hk : n.kind = 2 ∨ n.kind = 3) : 0 < n.kids.length ∧ ∀ x ∈ n.kids, netWrong x = 0 := by
 obtain ⟨k, e, kids⟩ := n
 simp only at hk ⊢
 rcases right_parts h with ⟨h1, _⟩ | ⟨_, h2, h3⟩ | ⟨h1, _⟩
 ·omega
 ·exact ⟨h2, h3⟩
 ·omega
theorem flat_right {k : Int} (hk : k = 2 ∨ k = 3) {l : List Net} (h0 : 0 < l.length) (h : ∀ x ∈ l, netWrong x = 0) : 0 < (flatKids k l).length ∧ ∀ x ∈ flatKids k l, netWrong x = 0 := by
 have hone : ∀ x ∈ l, 0 < (flatKids k [x]).length ∧ ∀ y ∈ flatKids k [x], netWrong y = 0 := by
  intro x hx
  rw [flatKids_one]
  split
  ·rename_i e
   exact right_kids (h x hx) (by rw [e]; exact hk)
  ·exact ⟨by simp, fun y hy => by rw [List.mem_singleton.1 hy]; exact h x hx⟩
 refine ⟨?_, fun y hy => ?_⟩
 ·obtain ⟨x, r, rfl⟩ := List.exists_cons_of_ne_nil (List.ne_nil_of_length_pos h0)
  have e : x :: r = [x] ++ r := rfl
  rw [e, flatKids_append, List.length_append]
  have := (hone x (by simp)).1
  omega
 ·obtain ⟨x, hx, hy⟩ := List.mem_flatMap.1 hy
  refine (hone x hx).2 y ?_
  rw [flatKids_one]; exact hy
theorem block_right {k : Int} (hk : k = 2 ∨ k = 3) {l : List Net} (h0 : 0 < l.length) (h : ∀ x ∈ l, netWrong x = 0) : netWrong (blockOf k (flatKids k l)) = 0 := by
 obtain ⟨h1, h2⟩ := flat_right hk h0 h
 unfold blockOf
 split
 ·exact h2 _ (List.getElem_mem _)
 ·exact right_of hk h1 h2
theorem norm_right (n : Net) : netWrong n = 0 → netWrong (normNet n) = 0 := by
 refine net_ind (fun n => netWrong n = 0 → netWrong (normNet n) = 0) ?_ n
 intro k e kids ih h
 have h' := h
 rw [normNet_eq]
 rcases right_parts h with ⟨rfl, rfl⟩ | ⟨hk, h0, hks⟩ | ⟨rfl, rfl, x, rfl, hx⟩
 ·rw [if_neg (by omega)]; exact h'
 ·rw [if_pos hk]
  refine block_right hk (by simpa using h0) (fun x hx => ?_)
  obtain ⟨y, hy, rfl⟩ := List.mem_map.1 hx
  exact ih y hy (hks y hy)
 ·rw [if_neg (by omega)]
  have hy := ih x (by simp) hx
  rw [netWrong_eq, if_neg (by omega)]
  have hb : badNet 4 (⟨0, []⟩ : Elem).op (⟨0, []⟩ : Elem).args.length ([x].map normNet).length = false := by rfl
  rw [if_neg (by rw [hb]; exact Bool.false_ne_true)]
  simp only [List.map_cons, List.map_nil, firstPos]
  rw [if_neg (by omega)]
/-- A net in normal form with which nothing is wrong. -/
def fine (n : Net) : Prop := isNorm n ∧ blkBare n ∧ netWrong n = 0
theorem norm_fine {n : Net} (h : netWrong n = 0) : fine (normNet n) := ⟨norm_isNorm n, norm_blkBare n, norm_right n h⟩
theorem fine_same {n : Net} (h : fine n) : normNet n = n := norm_same n h.1 h.2.1
def none0 : Net := ⟨0, ⟨0, []⟩, []⟩
theorem none_eq {n : Net} (h : netNone n = true) : n = none0 := by
 obtain ⟨k, ⟨op, args⟩, kids⟩ := n
 simp only [netNone, Bool.and_eq_true, beq_iff_eq] at h
 obtain ⟨⟨⟨h1, h2⟩, h3⟩, h4⟩ := h
 have e1 : args = [] := List.length_eq_zero_iff.1 h3
 have e2 : kids = [] := List.length_eq_zero_iff.1 h4
 subst e1 e2 h1 h2
 rfl
theorem fine_some {n : Net} (h : fine n) : netNone n = false := by
 cases hn : netNone n with
 | false => rfl
 | true =>
  have e := none_eq hn
  have h2 := h.2.2
  rw [e] at h2
  unfold none0 at h2
  rcases right_parts h2 with ⟨h3, _⟩ | ⟨h3, _⟩ | ⟨h3, _⟩ <;> omega
/-- Two nets, one behind the other, each fine or none. -/
def series (a b : Net) : Net := if netNone a then b else if netNone b then a else blockOf 2 (flatKids 2 [a, b])
theorem block_fine {l : List Net} (h0 : 0 < l.length) (h : ∀ x ∈ l, fine x) : fine (blockOf 2 (flatKids 2 l)) := by
 have hm : l.map normNet = l := by
  have : l.map normNet = l.map id := List.map_congr_left (fun x hx => fine_same (h x hx))
  rw [this, List.map_id]
 have e : blockOf 2 (flatKids 2 l) = normNet ⟨2, ⟨0, []⟩, l⟩ := by rw [normNet_eq, if_pos (.inl rfl), hm]
 rw [e]
 exact norm_fine (right_of (.inl rfl) h0 (fun x hx => (h x hx).2.2))
def fineOr (n : Net) : Prop := netNone n = true ∨ fine n
theorem series_fine {a b : Net} (ha : fineOr a) (hb : fineOr b) : fineOr (series a b) := by
 unfold series
 split
 ·exact hb
 ·rename_i h1
  split
  ·exact ha
  ·rename_i h2
   refine .inr (block_fine (by simp) (fun x hx => ?_))
   rcases List.mem_cons.1 hx with rfl | hx
   ·rcases ha with h | h
    ·exact absurd h h1
    ·exact h
   ·rw [List.mem_singleton.1 hx]
    rcases hb with h | h
    ·exact absurd h h2
    ·exact h
def ksize (l : List Arm) : Nat := (l.map armSize).sum
/-- An arm that has taken its one kid in, as long as it may. -/
def joinArm : Nat → Arm → Arm
 | 0, a => a
 | f + 1, a => match a.kids with
  | [kid] => if a.coils = [] ∨ netNone kid.net = true then joinArm f ⟨series a.net kid.net, a.coils ++ kid.coils, kid.kids⟩ else a
  | _ => a
theorem armSize_pos (a : Arm) : 1 + ksize a.kids ≤ armSize a := by
 obtain ⟨n, c, kids⟩ := a
 rw [armSize_eq]
 unfold ksize
 simp only
 omega
theorem joinArm_more (f : Nat) : ∀ a : Arm, ksize a.kids ≤ f → joinArm f a = joinArm (f + 1) a := by
 induction f with
 | zero =>
  intro a h
  rw [joinArm]
  conv => rhs; rw [joinArm]
  split
  ·rename_i kid e
   rw [e] at h
   have := armSize_pos kid
   simp [ksize] at h
   omega
  ·rfl
 | succ f ih =>
  intro a h
  rw [joinArm]
  conv => rhs; rw [joinArm]
  split
  ·rename_i kid e
   split
   ·refine ih _ ?_
    rw [e] at h
    have := armSize_pos kid
    simp only [ksize, List.map_cons, List.map_nil, List.sum_cons, List.sum_nil] at h this ⊢
    omega
   ·rfl
  ·rfl
def joined (a : Arm) : Arm := joinArm (ksize a.kids) a
theorem joinArm_eq (a : Arm) : ∀ f, ksize a.kids ≤ f → joinArm f a = joined a := by
 intro f h
 obtain ⟨d, rfl⟩ := Nat.exists_eq_add_of_le h
 clear h
 induction d with
 | zero => rfl
 | succ d ih => rw [← Nat.add_assoc, ← joinArm_more _ a (by omega)]; exact ih
theorem joined_step (n : Net) (c : List Elem) (kid : Arm) (h : c = [] ∨ netNone kid.net = true) : joined ⟨n, c, [kid]⟩ = joined ⟨series n kid.net, c ++ kid.coils, kid.kids⟩ := by
 have hs : ksize [kid] = armSize kid := by simp [ksize]
 have hp := armSize_pos kid
 unfold joined
 simp only
 rw [hs]
 obtain ⟨f, hf⟩ : ∃ f, armSize kid = f + 1 := ⟨armSize kid - 1, by omega⟩
 rw [hf, joinArm]
 simp only
 rw [if_pos h]
 exact joinArm_eq _ f (by simp only; omega)
theorem joined_stop (a : Arm) (h : ∀ kid, a.kids = [kid] → ¬ (a.coils = [] ∨ netNone kid.net = true)) : joined a = a := by
 unfold joined
 cases hf : ksize a.kids with
 | zero => rfl
 | succ f =>
  rw [joinArm]
  split
  ·rename_i kid e
   rw [if_neg (h kid e)]
  ·rfl
def normArm : Arm → Arm
 | ⟨n, coils, kids⟩ => joined ⟨if netNone n then n else normNet n, coils, kids.map normArm⟩
theorem normArm_eq (n : Net) (coils : List Elem) (kids : List Arm) : normArm ⟨n, coils, kids⟩ = joined ⟨if netNone n then n else normNet n, coils, kids.map normArm⟩ := by rw [normArm]
theorem empty_fits : (⟨0, []⟩ : Elem).fits := ⟨by show i64 0; unfold i64; omega, by simp, by simp⟩
theorem flat_fits {k : Int} {l : List Net} (h : ∀ x ∈ l, netFits x) : ∀ x ∈ flatKids k l, netFits x := by
 intro x hx
 obtain ⟨y, hy, hx⟩ := List.mem_flatMap.1 hx
 split at hx
 ·exact (netFits_parts (h y hy)).2.2.2 x hx
 ·rw [List.mem_singleton.1 hx]; exact h y hy
theorem block_fits {k : Int} (hk : i64 k) {l : List Net} (h : ∀ x ∈ l, netFits x) (hl : l.length ≤ 1048576) : netFits (blockOf k l) := by
 unfold blockOf
 split
 ·exact h _ (List.getElem_mem _)
 ·exact (netFits_eq _ _ _).2 ⟨hk, empty_fits, hl, h⟩
theorem series_fits {a b : Net} (ha : netFits a) (hb : netFits b) (hs : netSize a + netSize b ≤ 1000000) : netFits (series a b) := by
 unfold series
 split
 ·exact hb
 ·split
  ·exact ha
  ·refine block_fits (by unfold i64; omega) (flat_fits (fun x hx => ?_)) ?_
   ·rcases List.mem_cons.1 hx with rfl | hx
    ·exact ha
    ·rw [List.mem_singleton.1 hx]; exact hb
   ·have h1 := len_sizes (flatKids 2 [a, b])
    have h2 := flatKids_sizes 2 [a, b]
    have h3 : sizes [a, b] = netSize a + netSize b := by simp [sizes]
    omega
def nsz (n : Net) : Nat := if netNone n then 0 else netSize n
theorem nsz_le (n : Net) : nsz n ≤ netSize n := by unfold nsz; split <;> omega
theorem size_le (n : Net) : netSize n ≤ 1 + nsz n := by
 unfold nsz
 split
 ·rename_i h
  rw [none_eq h]
  show netSize ⟨0, ⟨0, []⟩, []⟩ ≤ _
  rw [netSize_eq]; simp
 ·omega
theorem series_size (a b : Net) : nsz (series a b) ≤ nsz a + nsz b + 1 := by
 unfold series
 split
 ·omega
 ·rename_i h1
  split
  ·omega
  ·rename_i h2
   refine Nat.le_trans (nsz_le _) ?_
   have h3 := blockOf_size 2 (flatKids 2 [a, b])
   have h4 := flatKids_sizes 2 [a, b]
   have h5 : sizes [a, b] = netSize a + netSize b := by simp [sizes]
   have e1 : nsz a = netSize a := if_neg h1
   have e2 : nsz b = netSize b := if_neg h2
   omega
theorem armSize_nsz (n : Net) (c : List Elem) (kids : List Arm) : armSize ⟨n, c, kids⟩ = 1 + c.length + nsz n + ksize kids := by rw [armSize_eq]; rfl
/-- An arm that can be carried on. -/
def midOk (c : Nat) (b : Arm) : Prop := armFits b ∧ armSize b ≤ c
theorem len_ksize (l : List Arm) : l.length ≤ ksize l := by
 unfold ksize
 induction l with
 | nil => simp
 | cons x r ihr =>
  have := armSize_pos x
  simp only [List.length_cons, List.map_cons, List.sum_cons]
  omega
theorem ksize_one (k : Arm) : ksize [k] = armSize k := by simp [ksize]
theorem join_ok {c : Nat} {n : Net} {cs : List Elem} {kid : Arm} (h : midOk c ⟨n, cs, [kid]⟩) (hc : c ≤ 900000) : midOk c ⟨series n kid.net, cs ++ kid.coils, kid.kids⟩ ∧ sizes [n, kid.net] ≤ 999999 ∧ netFits n ∧ netFits kid.net ∧ cs.length + kid.coils.length ≤ 1000000 ∧ ksize kid.kids < ksize [kid] := by
 obtain ⟨hf, hs⟩ := h
 rw [armSize_nsz, ksize_one] at hs
 obtain ⟨kn, kc, kk⟩ := kid
 rw [armSize_nsz] at hs
 rw [ksize_one, armSize_nsz]
 simp only
 have hp := (armFits_eq _ _ _).1 hf
 have hk := (armFits_eq _ _ _).1 (hp.2.2.2.2 ⟨kn, kc, kk⟩ (by simp))
 have h1 := size_le n
 have h2 := size_le kn
 have h3 := series_size n kn
 refine ⟨⟨(armFits_eq _ _ _).2 ⟨series_fits hp.1 hk.1 (by omega), by rw [List.length_append]; omega, fun x hx => ?_, hk.2.2.2⟩, ?_⟩, by simp [sizes]; omega, hp.1, hk.1, by omega, by omega⟩
 ·rcases List.mem_append.1 hx with hx | hx
  ·exact hp.2.2.1 x hx
  ·exact hk.2.2.1 x hx
 ·rw [armSize_nsz, List.length_append]; omega
theorem joinArm_ok {c : Nat} (hc : c ≤ 900000) : ∀ (f : Nat) (b : Arm), midOk c b → midOk c (joinArm f b)
 | 0, b, h => h
 | f + 1, ⟨n, cs, kids⟩, h => by
  rw [joinArm]
  split
  ·rename_i kid e
   simp only at e
   subst e
   split
   ·exact joinArm_ok hc f _ (join_ok h hc).1
   ·exact h
  ·exact h
theorem joined_ok {c : Nat} (hc : c ≤ 900000) (b : Arm) (h : midOk c b) : midOk c (joined b) := joinArm_ok hc _ b h
theorem norm_fits1 (n : Net) : netFits n → netSize n ≤ 1000000 → netFits (normNet n) := by
 refine net_ind (fun n => netFits n → netSize n ≤ 1000000 → netFits (normNet n)) ?_ n
 intro k e kids ih h hs
 rw [normNet_eq]
 have hp := (netFits_eq _ _ _).1 h
 have hks : sizes kids < netSize ⟨k, e, kids⟩ := by rw [netSize_kids]; simp only; omega
 have hx : ∀ x ∈ kids.map normNet, netFits x := by
  intro x hx
  obtain ⟨y, hy, rfl⟩ := List.mem_map.1 hx
  have : netSize y ≤ sizes kids := mem_le_sum netSize kids y hy
  exact ih y hy (hp.2.2.2 y hy) (by omega)
 split
 ·refine block_fits hp.1 (flat_fits hx) ?_
  have h1 := len_sizes (flatKids k (kids.map normNet))
  have h2 := flatKids_sizes k (kids.map normNet)
  have h3 := norm_sizes kids
  omega
 ·exact (netFits_eq _ _ _).2 ⟨hp.1, hp.2.1, by rw [List.length_map]; exact hp.2.2.1, hx⟩
/-- The net of an arm, as it begins. -/
def netOf (n : Net) : Net := if netNone n then n else normNet n
theorem netOf_fits {n : Net} (h : netFits n) (hs : nsz n ≤ 900000) : netFits (netOf n) := by
 unfold netOf
 split
 ·exact h
 ·exact norm_fits1 n h (by have := size_le n; omega)
theorem netOf_size (n : Net) : nsz (netOf n) ≤ nsz n := by
 unfold netOf
 split
 ·exact Nat.le_refl _
 ·rename_i h
  have e : nsz n = netSize n := if_neg h
  rw [e]
  exact Nat.le_trans (nsz_le _) (normNet_size n)
theorem normArm_of (n : Net) (c : List Elem) (kids : List Arm) : normArm ⟨n, c, kids⟩ = joined ⟨netOf n, c, kids.map normArm⟩ := normArm_eq n c kids
theorem begin_ok {n : Net} {c : List Elem} {kids : List Arm} (hf : armFits ⟨n, c, kids⟩) (hs : armSize ⟨n, c, kids⟩ ≤ 900000) (hk : ∀ x ∈ kids, midOk (armSize x) (normArm x)) : midOk (armSize ⟨n, c, kids⟩) ⟨netOf n, c, kids.map normArm⟩ := by
 have hp := (armFits_eq _ _ _).1 hf
 rw [armSize_nsz] at hs ⊢
 have h1 := netOf_size n
 have h2 : ksize (kids.map normArm) ≤ ksize kids := by
  clear hf hs hp
  induction kids with
  | nil => simp
  | cons x r ih =>
   have a := (hk x (by simp)).2
   have b := ih (fun y hy => hk y (List.mem_cons_of_mem _ hy))
   simp only [ksize, List.map_cons, List.sum_cons] at b ⊢
   omega
 refine ⟨(armFits_eq _ _ _).2 ⟨netOf_fits hp.1 (by omega), hp.2.1, hp.2.2.1, by rw [List.length_map]; exact hp.2.2.2.1, fun x hx => ?_⟩, by rw [armSize_nsz]; omega⟩
 obtain ⟨y, hy, rfl⟩ := List.mem_map.1 hx
 exact (hk y hy).1
theorem normArm_ok (a : Arm) : armFits a → armSize a ≤ 900000 → midOk (armSize a) (normArm a) := by
 refine arm_ind (fun a => armFits a → armSize a ≤ 900000 → midOk (armSize a) (normArm a)) ?_ a
 intro n c kids ih hf hs
 rw [normArm_of]
 have hp := (armFits_eq _ _ _).1 hf
 refine joined_ok hs _ (begin_ok hf hs (fun x hx => ih x hx (hp.2.2.2.2 x hx) ?_))
 have : armSize x ≤ ksize kids := mem_le_sum armSize kids x hx
 rw [armSize_nsz] at hs
 omega
/-- Every net of an arm is none, or in normal form with nothing wrong. -/
def armFine : Arm → Prop
 | ⟨n, _, kids⟩ => fineOr n ∧ ∀ p ∈ kids.map armFine, p
theorem armFine_eq (n : Net) (c : List Elem) (kids : List Arm) : armFine ⟨n, c, kids⟩ ↔ fineOr n ∧ ∀ x ∈ kids, armFine x := by rw [armFine, all_map]
theorem join_fine {n : Net} {cs : List Elem} {kid : Arm} (h : armFine ⟨n, cs, [kid]⟩) : armFine ⟨series n kid.net, cs ++ kid.coils, kid.kids⟩ ∧ fineOr n ∧ fineOr kid.net := by
 obtain ⟨kn, kc, kk⟩ := kid
 have h1 := (armFine_eq _ _ _).1 h
 have h2 := (armFine_eq _ _ _).1 (h1.2 ⟨kn, kc, kk⟩ (by simp))
 exact ⟨(armFine_eq _ _ _).2 ⟨series_fine h1.1 h2.1, h2.2⟩, h1.1, h2.1⟩
theorem joinArm_fine : ∀ (f : Nat) (b : Arm), armFine b → armFine (joinArm f b)
 | 0, b, h => h
 | f + 1, ⟨n, cs, kids⟩, h => by
  rw [joinArm]
  split
  ·rename_i kid e
   simp only at e
   subst e
   split
   ·exact joinArm_fine f _ (join_fine h).1
   ·exact h
  ·exact h
theorem joined_fine (b : Arm) (h : armFine b) : armFine (joined b) := joinArm_fine _ b h
theorem netOf_fine {n : Net} (h : netNone n = true ∨ netWrong n = 0) : fineOr (netOf n) := by
 unfold netOf
 split
 ·rename_i h1; exact .inl h1
 ·rename_i h1
  rcases h with h | h
  ·exact absurd h h1
  ·exact .inr (norm_fine h)
/-- Nothing is wrong with the nets of an arm. -/
def armRight : Arm → Prop
 | ⟨n, _, kids⟩ => (netNone n = true ∨ netWrong n = 0) ∧ ∀ p ∈ kids.map armRight, p
theorem armRight_eq (n : Net) (c : List Elem) (kids : List Arm) : armRight ⟨n, c, kids⟩ ↔ (netNone n = true ∨ netWrong n = 0) ∧ ∀ x ∈ kids, armRight x := by rw [armRight, all_map]
theorem normArm_fine (a : Arm) : armRight a → armFine (normArm a) := by
 refine arm_ind (fun a => armRight a → armFine (normArm a)) ?_ a
 intro n c kids ih h
 have hp := (armRight_eq _ _ _).1 h
 rw [normArm_of]
 refine joined_fine _ ((armFine_eq _ _ _).2 ⟨netOf_fine hp.1, fun x hx => ?_⟩)
 obtain ⟨y, hy, rfl⟩ := List.mem_map.1 hx
 exact ih y hy (hp.2 y hy)
theorem armRight_of (a : Arm) : armWrong a = 0 → armRight a := by
 refine arm_ind (fun a => armWrong a = 0 → armRight a) ?_ a
 intro n c kids ih h
 rw [armWrong_eq] at h
 have h0 : armOwnWrong ⟨n, c, kids⟩ = 0 := by
  have := armOwnWrong_bound ⟨n, c, kids⟩
  split at h <;> omega
 rw [if_neg (by omega)] at h
 refine (armRight_eq _ _ _).2 ⟨?_, fun x hx => ih x hx ?_⟩
 ·unfold armOwnWrong at h0
  simp only at h0
  cases hn : netNone n with
  | true => exact .inl rfl
  | false =>
   refine .inr ?_
   have := netWrong_bound n
   simp only [hn] at h0
   split at h0
   ·simp at *; omega
   ·simp at *; omega
 ·exact firstPos_zero _ (fun y hy => by obtain ⟨z, _, rfl⟩ := List.mem_map.1 hy; exact (armWrong_bound z).1) h _ (List.mem_map.2 ⟨x, hx, rfl⟩)
def normMake (l : List Arm) : List Arm := if (treeCheck l).1 = 0 then l.map normArm else []
theorem firstRung_zero : ∀ (l : List Arm) (k : Nat), (firstRung l k).1 = 0 → (firstRung l k).2 = 0 ∧ ∀ x ∈ l, rungWrong x = 0
 | [], _, _ => ⟨rfl, fun x hx => by cases hx⟩
 | a :: r, k, h => by
  rw [firstRung] at h ⊢
  have hb := rungWrong_bound a
  by_cases h0 : 0 < rungWrong a
  ·rw [if_pos h0] at h; simp only at h; omega
  ·rw [if_neg h0] at h ⊢
   obtain ⟨h1, h2⟩ := firstRung_zero r (k + 1) h
   refine ⟨h1, fun x hx => ?_⟩
   rcases List.mem_cons.1 hx with rfl | hx
   ·omega
   ·exact h2 x hx
theorem rung_zero {a : Arm} (h : rungWrong a = 0) : netNone a.net = false ∧ armWrong a = 0 := by
 unfold rungWrong at h
 cases hn : netNone a.net with
 | true => rw [hn] at h; simp at h
 | false => rw [hn] at h; exact ⟨rfl, by simpa using h⟩
theorem check_zero {l : List Arm} (h : (treeCheck l).1 = 0) : (treeCheck l).2 = 0 ∧ l.length ≤ 40 ∧ treeSize l ≤ 400 ∧ ∀ x ∈ l, netNone x.net = false ∧ armWrong x = 0 := by
 unfold treeCheck at h ⊢
 by_cases h0 : 40 < l.length ∨ 400 < treeSize l
 ·rw [if_pos h0] at h; simp at h
 ·rw [if_neg h0] at h ⊢
  obtain ⟨h1, h2⟩ := firstRung_zero l 0 h
  exact ⟨h1, by omega, by omega, fun x hx => rung_zero (h2 x hx)⟩
theorem firstRung_bound : ∀ (l : List Arm) (k : Nat), 0 ≤ (firstRung l k).1 ∧ (firstRung l k).1 ≤ 5
 | [], _ => by rw [firstRung]; simp
 | a :: r, k => by
  rw [firstRung]
  have hb := rungWrong_bound a
  split
  ·exact hb
  ·exact firstRung_bound r (k + 1)
theorem check_bound (l : List Arm) : 0 ≤ (treeCheck l).1 ∧ (treeCheck l).1 ≤ 5 := by
 unfold treeCheck
 split
 ·simp
 ·exact firstRung_bound l 0
theorem arm_le_tree {l : List Arm} {x : Arm} (hx : x ∈ l) : armSize x ≤ treeSize l := mem_le_sum armSize l x hx
theorem rung_right {l : List Arm} (h : (treeCheck l).1 = 0) {x : Arm} (hx : x ∈ l) : armRight x ∧ armSize x ≤ 400 := by
 obtain ⟨_, _, h2, h3⟩ := check_zero h
 exact ⟨armRight_of x (h3 x hx).2, Nat.le_trans (arm_le_tree hx) h2⟩
end Stil
