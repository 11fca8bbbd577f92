/- M13: texts put together. -/
import Derived.Test.YtbllmkmdaenglaaGreatDoorGp
/- Plain model of chapter 7: bits and forks. -/
namespace Stil
/-- The greatest of some numbers and of b. -/
def mostOf (b : Nat) (l : List Nat) : Nat := l.foldl max b
theorem mostOf_snoc (b : Nat) (l : List Nat) (x : Nat) : mostOf b (l ++ [x]) = max (mostOf b l) x := by simp [mostOf]
theorem mostOf_max : ∀ (l : List Nat) (b c : Nat), mostOf (max b c) l = max b (mostOf c l)
  | [], _, _ => rfl
  | x :: r, b, c => by
    show mostOf (max (max b c) x) r = max b (mostOf (max c x) r)
    rw [Nat.max_assoc, mostOf_max r]
theorem mostOf_zero (l : List Nat) (b : Nat) : mostOf b l = max b (mostOf 0 l) := by
  have := mostOf_max l b 0
  rwa [Nat.max_zero] at this
theorem mostOf_le : ∀ (l : List Nat) (b c : Nat), b ≤ c → (∀ x ∈ l, x ≤ c) → mostOf b l ≤ c
  | [], _, _, h, _ => h
  | x :: r, b, c, h, hx => mostOf_le r (max b x) c (Nat.max_le.2 ⟨h, hx x (by simp)⟩) (fun y hy => hx y (List.mem_cons_of_mem _ hy))
theorem mostOf_take {b : Nat} {l : List Nat} {j : Nat} (h : j < l.length) : mostOf b (l.take (j + 1)) = max (mostOf b (l.take j)) l[j] := by
  rw [List.take_succ_eq_append_getElem h, mostOf_snoc]
/-- What the kids need, one more but for the last. -/
def bumpAt (n i x : Nat) : Nat := if i + 1 < n then x + 1 else x
def bump (fs : List Nat) : List Nat := fs.mapIdx (fun i x => bumpAt fs.length i x)
def forks : Arm → Nat
  | ⟨_, _, kids⟩ => mostOf 0 (bump (kids.map forks))
/-- How many bits a net needs, beginning; and taken in. -/
def takeOf (k : Int) (b : Nat) : Nat := if k = 1 then 1 else 1 + b
def beginOf (k : Int) (ks : List Int) (bs : List Nat) : Nat := if k = 1 then 1 else mostOf (bs.headD 0) ((List.zipWith takeOf ks bs).drop 1)
def beginBits : Net → Nat
  | ⟨k, _, kids⟩ => beginOf k (kids.map Net.kind) (kids.map beginBits)
def takeBits (n : Net) : Nat := takeOf n.kind (beginBits n)
theorem beginBits_eq (k : Int) (e : Elem) (kids : List Net) : beginBits ⟨k, e, kids⟩ = beginOf k (kids.map Net.kind) (kids.map beginBits) := by rw [beginBits]
theorem begin_one (e : Elem) (kids : List Net) : beginBits ⟨1, e, kids⟩ = 1 := by rw [beginBits_eq]; rfl
theorem begin_kids {k : Int} (e : Elem) (x : Net) (r : List Net) (h : k ≠ 1) : beginBits ⟨k, e, x :: r⟩ = mostOf (beginBits x) (r.map takeBits) := by
  rw [beginBits_eq]
  unfold beginOf
  rw [if_neg h]
  simp only [List.map_cons, List.headD_cons, List.zipWith_cons_cons, List.drop_succ_cons, List.drop_zero]
  congr 1
  rw [List.zipWith_map, List.zipWith_self]
  rfl
theorem takeBits_le {n : Net} {c : Nat} (h : beginBits n ≤ c) : takeBits n ≤ 1 + c := by
  unfold takeBits takeOf
  split <;> omega
theorem beginBits_le (n : Net) : beginBits n ≤ netSize n := by
  refine net_ind (fun n => beginBits n ≤ netSize n) ?_ n
  intro k e kids ih
  rw [netSize_kids]
  simp only
  by_cases hk : k = 1
  · rw [hk, begin_one]; omega
  · cases kids with
    | nil =>
      rw [beginBits_eq]
      unfold beginOf
      rw [if_neg hk]
      simp [mostOf]
    | cons x r =>
      rw [begin_kids e x r hk]
      have hx : ∀ y ∈ x :: r, netSize y ≤ sizes (x :: r) := fun y hy => mem_le_sum netSize _ y hy
      refine mostOf_le _ _ _ (Nat.le_trans (ih x (by simp)) (by have := hx x (by simp); omega)) (fun z hz => ?_)
      obtain ⟨y, hy, rfl⟩ := List.mem_map.1 hz
      have h1 := takeBits_le (ih y (List.mem_cons_of_mem _ hy))
      have h2 := hx y (List.mem_cons_of_mem _ hy)
      omega
/-- What is taken in where a kid's net stands. -/
def behindOf (n : Net) : List Net := if netNone n then [] else if n.kind = 2 then n.kids else [n]
def kidNeed (n : Net) (t : Nat) : Nat := mostOf t ((behindOf n).map takeBits)
def tailBits : Arm → Nat
  | ⟨_, _, kids⟩ => mostOf 1 (List.zipWith kidNeed (kids.map Arm.net) (kids.map tailBits))
theorem tailBits_eq (n : Net) (c : List Elem) (kids : List Arm) : tailBits ⟨n, c, kids⟩ = mostOf 1 (kids.map (fun k => kidNeed k.net (tailBits k))) := by
  rw [tailBits, List.zipWith_map, List.zipWith_self]
theorem behind_le (n : Net) : ∀ x ∈ behindOf n, netSize x ≤ nsz n := by
  intro x hx
  unfold behindOf at hx
  split at hx
  · cases hx
  · rename_i h
    have e : nsz n = netSize n := if_neg h
    rw [e]
    split at hx
    · rw [netSize_kids n]
      have : netSize x ≤ sizes n.kids := mem_le_sum netSize _ x hx
      omega
    · rw [List.mem_singleton.1 hx]; exact Nat.le_refl _
def rungBits (a : Arm) : Nat := max (beginBits a.net) (tailBits a)
def wayBits (l : List Arm) : Nat := mostOf 0 ((normMake l).map rungBits)
end Stil
