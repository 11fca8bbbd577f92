/- M13, M14: texts put together. -/
import Derived.Test.YtenoanhonjdpjaaGreatDoorGp
/- Plain model of chapter 7: bits and forks. -/
namespace Stil
/-- The greatest of some numbers and of b. -/
def mostOf (b : Nat) (l : List Nat) : Nat := l.foldl max b
theorem mostOf_snoc (b : Nat) (l : List Nat) (x : Nat) : mostOf b (l ++ [x]) = max (mostOf b l) x := by simp [mostOf]
theorem mostOf_append (b : Nat) (l r : List Nat) : mostOf b (l ++ r) = mostOf (mostOf b l) r := by simp [mostOf]
theorem mostOf_max : ∀ (l : List Nat) (b c : Nat), mostOf (max b c) l = max b (mostOf c l)
 | [], _, _ => rfl
 | x :: r, b, c => by
  show mostOf (max (max b c) x) r = max b (mostOf (max c x) r)
  rw [Nat.max_assoc, mostOf_max r]
theorem mostOf_zero (l : List Nat) (b : Nat) : mostOf b l = max b (mostOf 0 l) := by
 have := mostOf_max l b 0
 rwa [Nat.max_zero] at this
theorem mostOf_le : ∀ (l : List Nat) (b c : Nat), b ≤ c → (∀ x ∈ l, x ≤ c) → mostOf b l ≤ c
 | [], _, _, h, _ => h
 | x :: r, b, c, h, hx => mostOf_le r (max b x) c (Nat.max_le.2 ⟨h, hx x (by simp)⟩) (fun y hy => hx y (List.mem_cons_of_mem _ hy))
theorem mostOf_take {b : Nat} {l : List Nat} {j : Nat} (h : j < l.length) : mostOf b (l.take (j + 1)) = max (mostOf b (l.take j)) l[j] := by
 rw [List.take_succ_eq_append_getElem h, mostOf_snoc]
/-- What the kids need, one more but for the last. -/
def bumpAt (n i x : Nat) : Nat := if i + 1 < n then x + 1 else x
def bump (fs : List Nat) : List Nat := fs.mapIdx (fun i x => bumpAt fs.length i x)
theorem bump_len (fs : List Nat) : (bump fs).length = fs.length := by simp [bump]
theorem bump_get (fs : List Nat) (i : Nat) (h : i < (bump fs).length) : (bump fs)[i] = bumpAt fs.length i (fs[i]'(by rwa [bump_len] at h)) := by simp [bump]
theorem bump_snoc (fs : List Nat) (z : Nat) : bump (fs ++ [z]) = fs.map (· + 1) ++ [z] := by
 apply List.ext_getElem
 ·simp [bump]
 ·intro i h1 h2
  rw [bump_get]
  unfold bumpAt
  have h1' : i < fs.length + 1 := by simpa [bump_len] using h1
  by_cases hi : i < fs.length
  ·rw [if_pos (by rw [List.length_append, List.length_singleton]; omega), List.getElem_append_left hi, List.getElem_append_left (by simpa using hi), List.getElem_map]
  ·obtain rfl : i = fs.length := by omega
   rw [if_neg (by rw [List.length_append, List.length_singleton]; omega)]
   simp
def forks : Arm → Nat
 | ⟨_, _, kids⟩ => mostOf 0 (bump (kids.map forks))
theorem forks_eq (n : Net) (c : List Elem) (kids : List Arm) : forks ⟨n, c, kids⟩ = mostOf 0 (bump (kids.map forks)) := by rw [forks]
theorem forks_nil (n : Net) (c : List Elem) : forks ⟨n, c, []⟩ = 0 := by rw [forks_eq]; rfl
theorem forks_last (n : Net) (c : List Elem) (init : List Arm) (z : Arm) : forks ⟨n, c, init ++ [z]⟩ = mostOf (forks z) (init.map (fun k => 1 + forks k)) := by
 rw [forks_eq, List.map_append, List.map_singleton, bump_snoc, mostOf_snoc, mostOf_zero _ (forks z), Nat.max_comm]
 congr 2
 rw [List.map_map]
 refine List.map_congr_left (fun x _ => ?_)
 show forks x + 1 = 1 + forks x
 omega
theorem forks_le (a : Arm) : forks a ≤ armSize a := by
 refine arm_ind (fun a => forks a ≤ armSize a) ?_ a
 intro n c kids ih
 rw [forks_eq]
 refine mostOf_le _ _ _ (Nat.zero_le _) (fun x hx => ?_)
 obtain ⟨i, hi, rfl⟩ := List.getElem_of_mem hx
 rw [bump_get]
 have hi' : i < kids.length := by rw [bump_len, List.length_map] at hi; exact hi
 rw [List.getElem_map]
 have h1 := ih kids[i] (List.getElem_mem hi')
 have h2 : armSize kids[i] ≤ ksize kids := mem_le_sum armSize kids _ (List.getElem_mem hi')
 rw [armSize_nsz]
 unfold bumpAt
 split <;> omega
/-- How many bits a net needs, beginning; and taken in. -/
def takeOf (k : Int) (b : Nat) : Nat := if k = 1 then 1 else 1 + b
def beginOf (k : Int) (ks : List Int) (bs : List Nat) : Nat := if k = 1 then 1 else mostOf (bs.headD 0) ((List.zipWith takeOf ks bs).drop 1)
def beginBits : Net → Nat
 | ⟨k, _, kids⟩ => beginOf k (kids.map Net.kind) (kids.map beginBits)
def takeBits (n : Net) : Nat := takeOf n.kind (beginBits n)
theorem beginBits_eq (k : Int) (e : Elem) (kids : List Net) : beginBits ⟨k, e, kids⟩ = beginOf k (kids.map Net.kind) (kids.map beginBits) := by rw [beginBits]
theorem begin_one (e : Elem) (kids : List Net) : beginBits ⟨1, e, kids⟩ = 1 := by rw [beginBits_eq]; rfl
theorem begin_kids {k : Int} (e : Elem) (x : Net) (r : List Net) (h : k ≠ 1) : beginBits ⟨k, e, x :: r⟩ = mostOf (beginBits x) (r.map takeBits) := by
 rw [beginBits_eq]
 unfold beginOf
 rw [if_neg h]
 simp only [List.map_cons, List.headD_cons, List.zipWith_cons_cons, List.drop_succ_cons, List.drop_zero]
 congr 1
 rw [List.zipWith_map, List.zipWith_self]
 rfl
theorem takeBits_le {n : Net} {c : Nat} (h : beginBits n ≤ c) : takeBits n ≤ 1 + c := by
 unfold takeBits takeOf
 split <;> omega
theorem beginBits_le (n : Net) : beginBits n ≤ netSize n := by
 refine net_ind (fun n => beginBits n ≤ netSize n) ?_ n
 intro k e kids ih
 rw [netSize_kids]
 simp only
 by_cases hk : k = 1
 ·rw [hk, begin_one]; omega
 ·cases kids with
  | nil =>
   rw [beginBits_eq]
   unfold beginOf
   rw [if_neg hk]
   simp [mostOf]
  | cons x r =>
   rw [begin_kids e x r hk]
   have hx : ∀ y ∈ x :: r, netSize y ≤ sizes (x :: r) := fun y hy => mem_le_sum netSize _ y hy
   refine mostOf_le _ _ _ (Nat.le_trans (ih x (by simp)) (by have := hx x (by simp); omega)) (fun z hz => ?_)
   obtain ⟨y, hy, rfl⟩ := List.mem_map.1 hz
   have h1 := takeBits_le (ih y (List.mem_cons_of_mem _ hy))
   have h2 := hx y (List.mem_cons_of_mem _ hy)
   omega
/-- What is taken in where a kid's net stands. -/
def behindOf (n : Net) : List Net := if netNone n then [] else if n.kind = 2 then n.kids else [n]
def kidNeed (n : Net) (t : Nat) : Nat := mostOf t ((behindOf n).map takeBits)
def tailBits : Arm → Nat
 | ⟨_, _, kids⟩ => mostOf 1 (List.zipWith kidNeed (kids.map Arm.net) (kids.map tailBits))
theorem tailBits_eq (n : Net) (c : List Elem) (kids : List Arm) : tailBits ⟨n, c, kids⟩ = mostOf 1 (kids.map (fun k => kidNeed k.net (tailBits k))) := by
 rw [tailBits, List.zipWith_map, List.zipWith_self]
theorem behind_le (n : Net) : ∀ x ∈ behindOf n, netSize x ≤ nsz n := by
 intro x hx
 unfold behindOf at hx
 split at hx
 ·cases hx
 ·rename_i h
  have e : nsz n = netSize n := if_neg h
  rw [e]
  split at hx
  ·rw [netSize_kids n]
   have : netSize x ≤ sizes n.kids := mem_le_sum netSize _ x hx
   omega
  ·rw [List.mem_singleton.1 hx]; exact Nat.le_refl _
theorem kidNeed_le {n : Net} {t c : Nat} (h1 : t ≤ c) (h2 : 1 + nsz n ≤ c) : kidNeed n t ≤ c := by
 refine mostOf_le _ _ _ h1 (fun z hz => ?_)
 obtain ⟨y, hy, rfl⟩ := List.mem_map.1 hz
 have a1 := takeBits_le (beginBits_le y)
 have a2 := behind_le n y hy
 omega
theorem tailBits_le (a : Arm) : tailBits a ≤ armSize a := by
 refine arm_ind (fun a => tailBits a ≤ armSize a) ?_ a
 intro n c kids ih
 rw [tailBits_eq, armSize_nsz]
 refine mostOf_le _ _ _ (by omega) (fun z hz => ?_)
 obtain ⟨k, hk, rfl⟩ := List.mem_map.1 hz
 have h1 := ih k hk
 have h2 : armSize k ≤ ksize kids := mem_le_sum armSize kids k hk
 refine kidNeed_le (by omega) ?_
 obtain ⟨kn, kc, kk⟩ := k
 rw [armSize_nsz] at h2
 simp only
 omega
def rungBits (a : Arm) : Nat := max (beginBits a.net) (tailBits a)
def wayBits (l : List Arm) : Nat := mostOf 0 ((normMake l).map rungBits)
def wayForks (l : List Arm) : Nat := mostOf 0 ((normMake l).map forks)
/-- Every net but a contact has a kid. -/
def fullNet : Net → Prop
 | ⟨k, _, kids⟩ => (k ≠ 1 → kids ≠ []) ∧ ∀ p ∈ kids.map fullNet, p
theorem fullNet_eq (k : Int) (e : Elem) (kids : List Net) : fullNet ⟨k, e, kids⟩ ↔ (k ≠ 1 → kids ≠ []) ∧ ∀ x ∈ kids, fullNet x := by rw [fullNet, all_map]
theorem full_of (n : Net) : netWrong n = 0 → fullNet n := by
 refine net_ind (fun n => netWrong n = 0 → fullNet n) ?_ n
 intro k e kids ih h
 rw [fullNet_eq]
 rcases right_parts h with ⟨rfl, rfl⟩ | ⟨_, h0, hks⟩ | ⟨_, _, x, rfl, hx⟩
 ·exact ⟨fun h => absurd rfl h, (fun x hx => by cases hx)⟩
 ·exact ⟨(fun _ hn => by rw [hn] at h0; simp at h0), fun x hx => ih x hx (hks x hx)⟩
 ·exact ⟨(fun _ hn => by cases hn), fun y hy => by rw [List.mem_singleton.1 hy]; exact ih x (by simp) hx⟩
/-- Nothing is wrong with the kids either. -/
theorem right_all {n : Net} (h : netWrong n = 0) : ∀ x ∈ n.kids, netWrong x = 0 := by
 obtain ⟨k, e, kids⟩ := n
 rcases right_parts h with ⟨_, rfl⟩ | ⟨_, _, hks⟩ | ⟨_, _, x, rfl, hx⟩
 ·intro x hx; cases hx
 ·exact hks
 ·intro y hy; rw [List.mem_singleton.1 hy]; exact hx
theorem behind_full {n : Net} (h : fineOr n) : ∀ x ∈ behindOf n, fullNet x := by
 intro x hx
 unfold behindOf at hx
 split at hx
 ·cases hx
 ·rename_i hn
  have hf := h.resolve_left hn
  split at hx
  ·exact full_of x (right_all hf.2.2 x hx)
  ·rw [List.mem_singleton.1 hx]; exact full_of n hf.2.2
theorem fine_kind {n : Net} (h : fine n) : 1 ≤ n.kind ∧ n.kind ≤ 4 := by
 obtain ⟨k, e, kids⟩ := n
 rcases right_parts h.2.2 with ⟨h1, _⟩ | ⟨h1, _⟩ | ⟨h1, _⟩ <;> (simp only; omega)
/-- An arm in normal form keeps its net. -/
theorem series_none {a b : Net} (h : netNone a = false) (hb : fineOr b) (ha : fine a) : netNone (series a b) = false := by
 have hs : fineOr (series a b) := series_fine (.inr ha) hb
 unfold series at hs ⊢
 rw [if_neg (by rw [h]; exact Bool.false_ne_true)] at hs ⊢
 split
 ·exact h
 ·rename_i h2
  rw [if_neg h2] at hs
  refine fine_some (block_fine (by simp) (fun x hx => ?_))
  rcases List.mem_cons.1 hx with rfl | hx
  ·exact ha
  ·rw [List.mem_singleton.1 hx]
   exact hb.resolve_left h2
theorem joinArm_net : ∀ (f : Nat) (b : Arm), armFine b → netNone b.net = false → netNone (joinArm f b).net = false
 | 0, _, _, h => h
 | f + 1, ⟨n, cs, kids⟩, hf, h => by
  rw [joinArm]
  split
  ·rename_i kid e
   simp only at e h
   subst e
   split
   ·have hj := join_fine hf
    refine joinArm_net f _ hj.1 ?_
    exact series_none h hj.2.2 (hj.2.1.resolve_left (by rw [h]; exact Bool.false_ne_true))
   ·exact h
  ·exact h
theorem normArm_net {a : Arm} (hr : armRight a) (h : netNone a.net = false) : netNone (normArm a).net = false := by
 obtain ⟨n, c, kids⟩ := a
 have hp := (armRight_eq _ _ _).1 hr
 rw [normArm_of]
 simp only at h
 refine joinArm_net _ _ ((armFine_eq _ _ _).2 ⟨netOf_fine hp.1, fun x hx => ?_⟩) ?_
 ·obtain ⟨y, hy, rfl⟩ := List.mem_map.1 hx
  exact normArm_fine y (hp.2 y hy)
 ·show netNone (netOf n) = false
  unfold netOf
  rw [if_neg (by rw [h]; exact Bool.false_ne_true)]
  exact fine_some (norm_fine (hp.1.resolve_left (by rw [h]; exact Bool.false_ne_true)))
theorem normMake_right (l : List Arm) : ∀ x ∈ normMake l, armFine x ∧ netNone x.net = false := by
 intro x hx
 unfold normMake at hx
 by_cases h0 : (treeCheck l).1 = 0
 ·rw [if_pos h0] at hx
  obtain ⟨y, hy, rfl⟩ := List.mem_map.1 hx
  have hr := (rung_right h0 hy).1
  exact ⟨normArm_fine y hr, normArm_net hr ((check_zero h0).2.2.2 y hy).1⟩
 ·rw [if_neg h0] at hx; cases hx
end Stil
