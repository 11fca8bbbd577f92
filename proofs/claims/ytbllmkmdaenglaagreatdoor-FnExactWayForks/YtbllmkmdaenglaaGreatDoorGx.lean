/- M13: texts put together. -/
import Derived.Test.YtbllmkmdaenglaaGreatDoorGp
/- Plain model of chapter 7: bits and forks. -/
namespace Stil
/-- The greatest of some numbers and of b. -/
def mostOf (b : Nat) (l : List Nat) : Nat := l.foldl max b
theorem mostOf_snoc (b : Nat) (l : List Nat) (x : Nat) : mostOf b (l ++ [x]) = max (mostOf b l) x := by simp [mostOf]
theorem mostOf_max : ∀ (l : List Nat) (b c : Nat), mostOf (max b c) l = max b (mostOf c l)
  | [], _, _ => rfl
  | x :: r, b, c => by
    show mostOf (max (max b c) x) r = max b (mostOf (max c x) r)
    rw [Nat.max_assoc, mostOf_max r]
theorem mostOf_zero (l : List Nat) (b : Nat) : mostOf b l = max b (mostOf 0 l) := by
  have := mostOf_max l b 0
  rwa [Nat.max_zero] at this
theorem mostOf_le : ∀ (l : List Nat) (b c : Nat), b ≤ c → (∀ x ∈ l, x ≤ c) → mostOf b l ≤ c
  | [], _, _, h, _ => h
  | x :: r, b, c, h, hx => mostOf_le r (max b x) c (Nat.max_le.2 ⟨h, hx x (by simp)⟩) (fun y hy => hx y (List.mem_cons_of_mem _ hy))
theorem mostOf_take {b : Nat} {l : List Nat} {j : Nat} (h : j < l.length) : mostOf b (l.take (j + 1)) = max (mostOf b (l.take j)) l[j] := by
  rw [List.take_succ_eq_append_getElem h, mostOf_snoc]
/-- What the kids need, one more but for the last. -/
def bumpAt (n i x : Nat) : Nat := if i + 1 < n then x + 1 else x
def bump (fs : List Nat) : List Nat := fs.mapIdx (fun i x => bumpAt fs.length i x)
theorem bump_len (fs : List Nat) : (bump fs).length = fs.length := by simp [bump]
theorem bump_get (fs : List Nat) (i : Nat) (h : i < (bump fs).length) : (bump fs)[i] = bumpAt fs.length i (fs[i]'(by rwa [bump_len] at h)) := by simp [bump]
theorem bump_snoc (fs : List Nat) (z : Nat) : bump (fs ++ [z]) = fs.map (· + 1) ++ [z] := by
  apply List.ext_getElem
  · simp [bump]
  · intro i h1 h2
    rw [bump_get]
    unfold bumpAt
    have h1' : i < fs.length + 1 := by simpa [bump_len] using h1
    by_cases hi : i < fs.length
    · rw [if_pos (by rw [List.length_append, List.length_singleton]; omega), List.getElem_append_left hi, List.getElem_append_left (by simpa using hi), List.getElem_map]
    · obtain rfl : i = fs.length := by omega
      rw [if_neg (by rw [List.length_append, List.length_singleton]; omega)]
      simp
def forks : Arm → Nat
  | ⟨_, _, kids⟩ => mostOf 0 (bump (kids.map forks))
theorem forks_eq (n : Net) (c : List Elem) (kids : List Arm) : forks ⟨n, c, kids⟩ = mostOf 0 (bump (kids.map forks)) := by rw [forks]
theorem forks_nil (n : Net) (c : List Elem) : forks ⟨n, c, []⟩ = 0 := by rw [forks_eq]; rfl
theorem forks_last (n : Net) (c : List Elem) (init : List Arm) (z : Arm) : forks ⟨n, c, init ++ [z]⟩ = mostOf (forks z) (init.map (fun k => 1 + forks k)) := by
  rw [forks_eq, List.map_append, List.map_singleton, bump_snoc, mostOf_snoc, mostOf_zero _ (forks z), Nat.max_comm]
  congr 2
  rw [List.map_map]
  refine List.map_congr_left (fun x _ => ?_)
  show forks x + 1 = 1 + forks x
  omega
theorem forks_le (a : Arm) : forks a ≤ armSize a := by
  refine arm_ind (fun a => forks a ≤ armSize a) ?_ a
  intro n c kids ih
  rw [forks_eq]
  refine mostOf_le _ _ _ (Nat.zero_le _) (fun x hx => ?_)
  obtain ⟨i, hi, rfl⟩ := List.getElem_of_mem hx
  rw [bump_get]
  have hi' : i < kids.length := by rw [bump_len, List.length_map] at hi; exact hi
  rw [List.getElem_map]
  have h1 := ih kids[i] (List.getElem_mem hi')
  have h2 : armSize kids[i] ≤ ksize kids := mem_le_sum armSize kids _ (List.getElem_mem hi')
  rw [armSize_nsz]
  unfold bumpAt
  split <;> omega
/-- How many bits a net needs, beginning; and taken in. -/
def takeOf (k : Int) (b : Nat) : Nat := if k = 1 then 1 else 1 + b
def beginOf (k : Int) (ks : List Int) (bs : List Nat) : Nat := if k = 1 then 1 else mostOf (bs.headD 0) ((List.zipWith takeOf ks bs).drop 1)
def beginBits : Net → Nat
  | ⟨k, _, kids⟩ => beginOf k (kids.map Net.kind) (kids.map beginBits)
def takeBits (n : Net) : Nat := takeOf n.kind (beginBits n)
theorem beginBits_eq (k : Int) (e : Elem) (kids : List Net) : beginBits ⟨k, e, kids⟩ = beginOf k (kids.map Net.kind) (kids.map beginBits) := by rw [beginBits]
theorem begin_one (e : Elem) (kids : List Net) : beginBits ⟨1, e, kids⟩ = 1 := by rw [beginBits_eq]; rfl
theorem begin_kids {k : Int} (e : Elem) (x : Net) (r : List Net) (h : k ≠ 1) : beginBits ⟨k, e, x :: r⟩ = mostOf (beginBits x) (r.map takeBits) := by
  rw [beginBits_eq]
  unfold beginOf
  rw [if_neg h]
  simp only [List.map_cons, List.headD_cons, List.zipWith_cons_cons, List.drop_succ_cons, List.drop_zero]
  congr 1
  rw [List.zipWith_map, List.zipWith_self]
  rfl
theorem takeBits_le {n : Net} {c : Nat} (h : beginBits n ≤ c) : takeBits n ≤ 1 + c := by
  unfold takeBits takeOf
  split <;> omega
theorem beginBits_le (n : Net) : beginBits n ≤ netSize n := by
  refine net_ind (fun n => beginBits n ≤ netSize n) ?_ n
  intro k e kids ih
  rw [netSize_kids]
  simp only
  by_cases hk : k = 1
  · rw [hk, begin_one]; omega
  · cases kids with
    | nil =>
      rw [beginBits_eq]
      unfold beginOf
      rw [if_neg hk]
      simp [mostOf]
    | cons x r =>
      rw [begin_kids e x r hk]
      have hx : ∀ y ∈ x :: r, netSize y ≤ sizes (x :: r) := fun y hy => mem_le_sum netSize _ y hy
      refine mostOf_le _ _ _ (Nat.le_trans (ih x (by simp)) (by have := hx x (by simp); omega)) (fun z hz => ?_)
      obtain ⟨y, hy, rfl⟩ := List.mem_map.1 hz
      have h1 := takeBits_le (ih y (List.mem_cons_of_mem _ hy))
      have h2 := hx y (List.mem_cons_of_mem _ hy)
      omega
/-- What is taken in where a kid's net stands. -/
def behindOf (n : Net) : List Net := if netNone n then [] else if n.kind = 2 then n.kids else [n]
def kidNeed (n : Net) (t : Nat) : Nat := mostOf t ((behindOf n).map takeBits)
def tailBits : Arm → Nat
  | ⟨_, _, kids⟩ => mostOf 1 (List.zipWith kidNeed (kids.map Arm.net) (kids.map tailBits))
theorem tailBits_eq (n : Net) (c : List Elem) (kids : List Arm) : tailBits ⟨n, c, kids⟩ = mostOf 1 (kids.map (fun k => kidNeed k.net (tailBits k))) := by
  rw [tailBits, List.zipWith_map, List.zipWith_self]
theorem behind_le (n : Net) : ∀ x ∈ behindOf n, netSize x ≤ nsz n := by
  intro x hx
  unfold behindOf at hx
  split at hx
  · cases hx
  · rename_i h
    have e : nsz n = netSize n := if_neg h
    rw [e]
    split at hx
    · rw [netSize_kids n]
      have : netSize x ≤ sizes n.kids := mem_le_sum netSize _ x hx
      omega
    · rw [List.mem_singleton.1 hx]; exact Nat.le_refl _
def rungBits (a : Arm) : Nat := max (beginBits a.net) (tailBits a)
def wayBits (l : List Arm) : Nat := mostOf 0 ((normMake l).map rungBits)
def wayForks (l : List Arm) : Nat := mostOf 0 ((normMake l).map forks)
end Stil
