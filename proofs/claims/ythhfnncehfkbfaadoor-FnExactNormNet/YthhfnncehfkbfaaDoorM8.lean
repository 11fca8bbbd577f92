/- Plain model of chapter 4: the normal form of nets. -/
import Derived.Test.YthhfnncehfkbfaaDoorGM
namespace Stil
def flatKids (k : Int) (l : List Net) : List Net := l.flatMap fun n => if n.kind = k then n.kids else [n]
def blockOf (k : Int) (ks : List Net) : Net := if h : ks.length = 1 then ks[0] else ⟨k, ⟨0, []⟩, ks⟩
def normNet : Net → Net
  | ⟨k, e, kids⟩ => if k = 2 ∨ k = 3 then blockOf k (flatKids k (kids.map normNet)) else ⟨k, e, kids.map normNet⟩
theorem normNet_eq (k : Int) (e : Elem) (kids : List Net) : normNet ⟨k, e, kids⟩ = if k = 2 ∨ k = 3 then blockOf k (flatKids k (kids.map normNet)) else ⟨k, e, kids.map normNet⟩ := by rw [normNet]
theorem normNet_blk (n : Net) (h : n.kind = 2 ∨ n.kind = 3) : normNet n = blockOf n.kind (flatKids n.kind (n.kids.map normNet)) := by
  obtain ⟨k, e, kids⟩ := n
  rw [normNet_eq, if_pos h]
theorem normNet_oth (n : Net) (h : ¬ (n.kind = 2 ∨ n.kind = 3)) : normNet n = ⟨n.kind, n.one, n.kids.map normNet⟩ := by
  obtain ⟨k, e, kids⟩ := n
  rw [normNet_eq, if_neg h]
theorem flatKids_append (k : Int) (a b : List Net) : flatKids k (a ++ b) = flatKids k a ++ flatKids k b := by simp [flatKids]
theorem flatKids_one (k : Int) (n : Net) : flatKids k [n] = if n.kind = k then n.kids else [n] := by simp [flatKids]
def sizes (l : List Net) : Nat := (l.map netSize).sum
theorem sizes_append (a b : List Net) : sizes (a ++ b) = sizes a + sizes b := by simp [sizes]
theorem netSize_kids (n : Net) : netSize n = 1 + sizes n.kids := by obtain ⟨k, e, kids⟩ := n; exact netSize_eq k e kids
theorem len_sizes (l : List Net) : l.length ≤ sizes l := by
  induction l with
  | nil => simp [sizes]
  | cons x r ih =>
    have := netSize_kids x
    simp only [sizes, List.map_cons, List.sum_cons, List.length_cons] at ih ⊢
    omega
theorem flatKids_sizes (k : Int) (l : List Net) : sizes (flatKids k l) ≤ sizes l := by
  induction l with
  | nil => simp [flatKids, sizes]
  | cons x r ih =>
    have e : x :: r = [x] ++ r := rfl
    rw [e, flatKids_append, sizes_append, sizes_append, flatKids_one]
    have h : sizes (if x.kind = k then x.kids else [x]) ≤ sizes [x] := by
      have h2 : sizes [x] = netSize x := by simp [sizes]
      split
      · have := netSize_kids x; omega
      · exact Nat.le_refl _
    omega
theorem blockOf_size (k : Int) (ks : List Net) : netSize (blockOf k ks) ≤ 1 + sizes ks := by
  unfold blockOf
  split
  · rename_i h
    have h2 := mem_le_sum netSize ks ks[0] (List.getElem_mem _)
    unfold sizes
    omega
  · rw [netSize_kids]; exact Nat.le_refl _
theorem normNet_size (n : Net) : netSize (normNet n) ≤ netSize n := by
  refine net_ind (fun n => netSize (normNet n) ≤ netSize n) ?_ n
  intro k e kids ih
  have hs : sizes (kids.map normNet) ≤ sizes kids := by
    clear n
    induction kids with
    | nil => simp [sizes]
    | cons x r ih2 =>
      have h1 := ih x (by simp)
      have h2 := ih2 (fun y hy => ih y (List.mem_cons_of_mem _ hy))
      simp only [sizes, List.map_cons, List.sum_cons] at h2 ⊢
      omega
  rw [normNet_eq]
  have h0 : netSize ⟨k, e, kids⟩ = 1 + sizes kids := netSize_kids _
  split
  · have h1 := blockOf_size k (flatKids k (kids.map normNet))
    have h2 := flatKids_sizes k (kids.map normNet)
    omega
  · rw [netSize_kids]
    simp only
    omega
theorem norm_sizes (l : List Net) : sizes (l.map normNet) ≤ sizes l := by
  induction l with
  | nil => simp [sizes]
  | cons x r ih =>
    have h1 := normNet_size x
    simp only [sizes, List.map_cons, List.sum_cons] at ih ⊢
    omega
theorem sizes_take (l : List Net) (n : Nat) : sizes (l.take n) ≤ sizes l := by
  have h := sizes_append (l.take n) (l.drop n)
  rw [List.take_append_drop] at h
  omega
theorem flat_take (k : Int) (l : List Net) (n : Nat) : (flatKids k ((l.take n).map normNet)).length ≤ sizes (l.map normNet) := by
  have h1 := len_sizes (flatKids k ((l.take n).map normNet))
  have h2 := flatKids_sizes k ((l.take n).map normNet)
  have h3 := sizes_take (l.map normNet) n
  rw [← List.map_take] at h3
  omega
theorem flat_snoc (k : Int) (l : List Net) (j : Nat) (h : j < l.length) : flatKids k ((l.take (j + 1)).map normNet) = flatKids k ((l.take j).map normNet) ++ (if (normNet l[j]).kind = k then (normNet l[j]).kids else [normNet l[j]]) := by
  rw [List.take_succ_eq_append_getElem h, List.map_append, flatKids_append]
  congr 1
  exact flatKids_one k _
end Stil
