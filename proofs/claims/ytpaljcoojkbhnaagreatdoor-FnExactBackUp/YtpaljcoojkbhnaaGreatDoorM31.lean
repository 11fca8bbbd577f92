/- M8, M8b: texts put together. -/
import Derived.Test.YtpaljcoojkbhnaaGreatDoorGM
import Derived.Test.YtpaljcoojkbhnaaGreatDoorM25
/- Plain model of chapter 4: the normal form of nets. -/
namespace Stil
def flatKids (k : Int) (l : List Net) : List Net := l.flatMap fun n => if n.kind = k then n.kids else [n]
def blockOf (k : Int) (ks : List Net) : Net := if h : ks.length = 1 then ks[0] else ⟨k, ⟨0, []⟩, ks⟩
def normNet : Net → Net
 | ⟨k, e, kids⟩ => if k = 2 ∨ k = 3 then blockOf k (flatKids k (kids.map normNet)) else ⟨k, e, kids.map normNet⟩
theorem normNet_eq (k : Int) (e : Elem) (kids : List Net) : normNet ⟨k, e, kids⟩ = if k = 2 ∨ k = 3 then blockOf k (flatKids k (kids.map normNet)) else ⟨k, e, kids.map normNet⟩ := by rw [normNet]
theorem normNet_blk (n : Net) (h : n.kind = 2 ∨ n.kind = 3) : normNet n = blockOf n.kind (flatKids n.kind (n.kids.map normNet)) := by
 obtain ⟨k, e, kids⟩ := n
 rw [normNet_eq, if_pos h]
theorem normNet_oth (n : Net) (h : ¬ (n.kind = 2 ∨ n.kind = 3)) : normNet n = ⟨n.kind, n.one, n.kids.map normNet⟩ := by
 obtain ⟨k, e, kids⟩ := n
 rw [normNet_eq, if_neg h]
theorem flatKids_append (k : Int) (a b : List Net) : flatKids k (a ++ b) = flatKids k a ++ flatKids k b := by simp [flatKids]
theorem flatKids_one (k : Int) (n : Net) : flatKids k [n] = if n.kind = k then n.kids else [n] := by simp [flatKids]
def sizes (l : List Net) : Nat := (l.map netSize).sum
theorem sizes_append (a b : List Net) : sizes (a ++ b) = sizes a + sizes b := by simp [sizes]
theorem netSize_kids (n : Net) : netSize n = 1 + sizes n.kids := by obtain ⟨k, e, kids⟩ := n; exact netSize_eq k e kids
theorem len_sizes (l : List Net) : l.length ≤ sizes l := by
 induction l with
 | nil => simp [sizes]
 | cons x r ih =>
  have := netSize_kids x
  simp only [sizes, List.map_cons, List.sum_cons, List.length_cons] at ih ⊢
  omega
theorem flatKids_sizes (k : Int) (l : List Net) : sizes (flatKids k l) ≤ sizes l := by
 induction l with
 | nil => simp [flatKids, sizes]
 | cons x r ih =>
  have e : x :: r = [x] ++ r := rfl
  rw [e, flatKids_append, sizes_append, sizes_append, flatKids_one]
  have h : sizes (if x.kind = k then x.kids else [x]) ≤ sizes [x] := by
   have h2 : sizes [x] = netSize x := by simp [sizes]
   split
   ·have := netSize_kids x; omega
   ·exact Nat.le_refl _
  omega
theorem blockOf_size (k : Int) (ks : List Net) : netSize (blockOf k ks) ≤ 1 + sizes ks := by
 unfold blockOf
 split
 ·rename_i h
  have h2 := mem_le_sum netSize ks ks[0] (List.getElem_mem _)
  unfold sizes
  omega
 ·rw [netSize_kids]; exact Nat.le_refl _
theorem normNet_size (n : Net) : netSize (normNet n) ≤ netSize n := by
 refine net_ind (fun n => netSize (normNet n) ≤ netSize n) ?_ n
 intro k e kids ih
 have hs : sizes (kids.map normNet) ≤ sizes kids := by
  clear n
  induction kids with
  | nil => simp [sizes]
  | cons x r ih2 =>
   have h1 := ih x (by simp)
   have h2 := ih2 (fun y hy => ih y (List.mem_cons_of_mem _ hy))
   simp only [sizes, List.map_cons, List.sum_cons] at h2 ⊢
   omega
 rw [normNet_eq]
 have h0 : netSize ⟨k, e, kids⟩ = 1 + sizes kids := netSize_kids _
 split
 ·have h1 := blockOf_size k (flatKids k (kids.map normNet))
  have h2 := flatKids_sizes k (kids.map normNet)
  omega
 ·rw [netSize_kids]
  simp only
  omega
theorem norm_sizes (l : List Net) : sizes (l.map normNet) ≤ sizes l := by
 induction l with
 | nil => simp [sizes]
 | cons x r ih =>
  have h1 := normNet_size x
  simp only [sizes, List.map_cons, List.sum_cons] at ih ⊢
  omega
theorem sizes_take (l : List Net) (n : Nat) : sizes (l.take n) ≤ sizes l := by
 have h := sizes_append (l.take n) (l.drop n)
 rw [List.take_append_drop] at h
 omega
theorem flat_take (k : Int) (l : List Net) (n : Nat) : (flatKids k ((l.take n).map normNet)).length ≤ sizes (l.map normNet) := by
 have h1 := len_sizes (flatKids k ((l.take n).map normNet))
 have h2 := flatKids_sizes k ((l.take n).map normNet)
 have h3 := sizes_take (l.map normNet) n
 rw [← List.map_take] at h3
 omega
theorem flat_snoc (k : Int) (l : List Net) (j : Nat) (h : j < l.length) : flatKids k ((l.take (j + 1)).map normNet) = flatKids k ((l.take j).map normNet) ++ (if (normNet l[j]).kind = k then (normNet l[j]).kids else [normNet l[j]]) := by
 rw [List.take_succ_eq_append_getElem h, List.map_append, flatKids_append]
 congr 1
 exact flatKids_one k _
theorem firstPos_zero (l : List Int) (h : ∀ x ∈ l, 0 ≤ x) (h0 : firstPos l = 0) : ∀ x ∈ l, x = 0 := by
 induction l with
 | nil => intro x hx; cases hx
 | cons y r ih =>
  unfold firstPos at h0
  have hy := h y (by simp)
  split at h0
  ·omega
  ·intro x hx
   rcases List.mem_cons.1 hx with rfl | hx
   ·omega
   ·exact ih (fun z hz => h z (by simp [hz])) h0 x hx
theorem right_parts {k : Int} {e : Elem} {kids : List Net} (h : netWrong ⟨k, e, kids⟩ = 0) :
  (k = 1 ∧ kids = []) ∨ ((k = 2 ∨ k = 3) ∧ 0 < kids.length ∧ ∀ x ∈ kids, netWrong x = 0) ∨ (k = 4 ∧ e = ⟨0, []⟩ ∧ ∃ x, kids = [x] ∧ netWrong x = 0) := by
 rw [netWrong_eq] at h
 by_cases h1 : k = 1
 ·rw [if_pos h1] at h
  refine .inl ⟨h1, ?_⟩
  by_cases h2 : 0 < kids.length
  ·rw [if_pos h2] at h; omega
  ·exact List.length_eq_zero_iff.1 (by omega)
 ·rw [if_neg h1] at h
  by_cases h2 : badNet k e.op e.args.length kids.length = true
  ·rw [if_pos h2] at h; omega
  ·rw [if_neg h2] at h
   have hk := firstPos_zero _ (fun x hx => by obtain ⟨n, _, rfl⟩ := List.mem_map.1 hx; exact (netWrong_bound n).1) h
   have hk2 : ∀ x ∈ kids, netWrong x = 0 := fun x hx => hk _ (List.mem_map.2 ⟨x, hx, rfl⟩)
   simp only [badNet, Bool.or_eq_true, decide_eq_true_eq, bne_iff_ne, ne_eq, beq_iff_eq, Bool.and_eq_true, not_or, not_and, Decidable.not_not] at h2
   obtain ⟨⟨⟨⟨⟨a1, a2⟩, a3⟩, a4⟩, a5⟩, a6⟩ := h2
   by_cases h4 : k = 4
   ·refine .inr (.inr ⟨h4, ?_, ?_⟩)
    ·obtain ⟨op, args⟩ := e
     simp only at a3 a4
     have : args = [] := List.length_eq_zero_iff.1 (by omega)
     subst this
     subst a3
     rfl
    ·have hl := a6 h4
     have hl2 : kids.length = 1 := by omega
     obtain ⟨x, rfl⟩ := List.length_eq_one_iff.1 hl2
     exact ⟨x, rfl, hk2 x (by simp)⟩
   ·exact .inr (.inl ⟨by omega, by omega, hk2⟩)
def normTop (n : Net) : Net := if 400 < netSize n ∨ 0 < netWrong n then ⟨0, ⟨0, []⟩, []⟩ else normNet n
theorem kids_sizes {k : Int} {e : Elem} {kids : List Net} {c : Nat} (h : netSize ⟨k, e, kids⟩ ≤ c) : sizes (kids.map normNet) ≤ c ∧ ∀ x ∈ kids, netSize x ≤ c := by
 have h1 := norm_sizes kids
 rw [netSize_eq] at h
 refine ⟨by unfold sizes at h1 ⊢; omega, fun x hx => ?_⟩
 have := mem_le_sum netSize kids x hx
 omega
end Stil
/- Plain: the nets of instructions, on a stack of nets (its top first). -/
namespace Stil
/-- A net as kids of a kind: opened, if it is of that kind itself. -/
def opn (k : Int) (n : Net) : List Net := if n.kind = k then n.kids else [n]
def putNet (k : Int) (a b : Net) : Net := ⟨k, ⟨0, []⟩, opn k a ++ opn k b⟩
def addNet (k : Int) (a b : Net) : Net := if a.kind = 0 then b else putNet k a b
def contactOf (e : Elem) : Net := ⟨1, e, []⟩
def notOf (a : Net) : Net := ⟨4, ⟨0, []⟩, [a]⟩
def netZero : Net := ⟨0, ⟨0, []⟩, []⟩
/-- One instruction on a stack. -/
def doNet (c : Int) (e : Elem) (st : List Net) : List Net :=
 if c = 1 then contactOf e :: st
 else if c = 2 then (match st with | a :: r => addNet 2 a (contactOf e) :: r | [] => [])
 else if c = 3 then (match st with | a :: r => addNet 3 a (contactOf e) :: r | [] => [])
 else if c = 4 then (match st with | a :: b :: r => addNet 2 b a :: r | s => s)
 else if c = 5 then (match st with | a :: b :: r => addNet 3 b a :: r | s => s)
 else (match st with | a :: r => notOf a :: r | [] => [])
def backFrom : List Net → List Inst → Option (List Net)
 | st, [] => some st
 | st, i :: r => if listOk i = false ∨ 7 ≤ i.code ∨ (st.length : Int) < needs i.code then none else backFrom (doNet i.code i.one st) r
def lastNet : Option (List Net) → Net × Bool
 | some [n] => if 400 < netSize n then (netZero, false) else (n, true)
 | _ => (netZero, false)
def backNet (l : List Inst) : Net × Bool := if 1000 < l.length then (netZero, false) else lastNet (backFrom [] l)
theorem backFrom_drop (l : List Inst) (st : List Net) (j : Nat) (h : j < l.length) : backFrom st (l.drop j) = if listOk l[j] = false ∨ 7 ≤ l[j].code ∨ (st.length : Int) < needs l[j].code then none else backFrom (doNet l[j].code l[j].one st) (l.drop (j + 1)) := by
 rw [List.drop_eq_getElem_cons h]; rfl
theorem backFrom_end (l : List Inst) (st : List Net) (j : Nat) (h : l.length ≤ j) : backFrom st (l.drop j) = some st := by
 rw [List.drop_of_length_le h]; rfl
/-- What holds of every net of a stack. -/
def netGood (n : Net) : Prop := netFits n ∧ 1 ≤ n.kind
theorem sizes_cons (a : Net) (r : List Net) : sizes (a :: r) = netSize a + sizes r := by simp [sizes]
theorem sizes_nil : sizes [] = 0 := rfl
theorem opn_sizes (k : Int) (a : Net) : sizes (opn k a) ≤ netSize a := by
 unfold opn
 split
 ·rw [netSize_kids]; omega
 ·rw [sizes_cons, sizes_nil]; omega
theorem opn_fits {k : Int} {a : Net} (h : netFits a) : ∀ x ∈ opn k a, netFits x := by
 unfold opn
 split
 ·exact (netFits_parts h).2.2.2
 ·intro x hx
  rw [List.mem_singleton.1 hx]; exact h
theorem put_size (k : Int) (a b : Net) : netSize (putNet k a b) ≤ 1 + netSize a + netSize b := by
 rw [netSize_kids]
 have h1 := opn_sizes k a
 have h2 := opn_sizes k b
 have h3 := sizes_append (opn k a) (opn k b)
 show 1 + sizes (opn k a ++ opn k b) ≤ _
 omega
theorem zero_fits : Elem.fits ⟨0, []⟩ := ⟨⟨by simp, by simp⟩, by simp, (fun d hd => by cases hd)⟩
theorem put_fits {k : Int} {a b : Net} (hk : i64 k) (ha : netFits a) (hb : netFits b) (hs : netSize a + netSize b ≤ 1000000) : netFits (putNet k a b) := by
 unfold putNet
 rw [netFits_eq]
 refine ⟨hk, zero_fits, ?_, fun x hx => ?_⟩
 ·have h1 := opn_sizes k a
  have h2 := opn_sizes k b
  have h3 := sizes_append (opn k a) (opn k b)
  have h4 := len_sizes (opn k a ++ opn k b)
  omega
 ·rcases List.mem_append.1 hx with hx | hx
  ·exact opn_fits ha x hx
  ·exact opn_fits hb x hx
theorem add_good {k : Int} {a b : Net} (hk : k = 2 ∨ k = 3) (ha : netGood a) (hb : netGood b) (hs : netSize a + netSize b ≤ 1000000) : netGood (addNet k a b) := by
 unfold addNet
 rw [if_neg (by have := ha.2; omega)]
 have hk2 : i64 k := by rcases hk with rfl | rfl <;> exact ⟨by decide, by decide⟩
 exact ⟨put_fits hk2 ha.1 hb.1 hs, by show 1 ≤ k; omega⟩
theorem add_size (k : Int) (a b : Net) : netSize (addNet k a b) ≤ 1 + netSize a + netSize b := by
 unfold addNet
 split
 ·omega
 ·exact put_size k a b
theorem contact_good {e : Elem} (h : e.fits) : netGood (contactOf e) := by
 unfold contactOf
 refine ⟨?_, by show (1 : Int) ≤ 1; decide⟩
 rw [netFits_eq]
 exact ⟨⟨by decide, by decide⟩, h, by simp, (fun d hd => by cases hd)⟩
theorem contact_size (e : Elem) : netSize (contactOf e) = 1 := by rw [netSize_kids]; rfl
theorem not_good {a : Net} (h : netGood a) : netGood (notOf a) := by
 unfold notOf
 refine ⟨?_, by show (1 : Int) ≤ 4; decide⟩
 rw [netFits_eq]
 exact ⟨⟨by decide, by decide⟩, zero_fits, by simp, fun x hx => by rw [List.mem_singleton.1 hx]; exact h.1⟩
theorem not_size (a : Net) : netSize (notOf a) = 1 + netSize a := by
 rw [netSize_kids]
 show 1 + sizes [a] = _
 rw [sizes_cons, sizes_nil]; omega
def stGood (c : Nat) (st : List Net) : Prop := (∀ n ∈ st, netGood n) ∧ sizes st ≤ c
theorem do_good {c : Int} {e : Elem} {st : List Net} {s : Nat} (he : e.fits) (h : stGood s st) (hs : s ≤ 900000) : stGood (s + 2) (doNet c e st) := by
 obtain ⟨h1, h2⟩ := h
 have hc := contact_good he
 have hcs := contact_size e
 unfold doNet
 split
 ·exact ⟨fun n hn => (List.mem_cons.1 hn).elim (fun e => by rw [e]; exact hc) (h1 n), by rw [sizes_cons]; omega⟩
 ·split
  ·split
   ·rename_i a r
    rw [sizes_cons] at h2
    have := add_size 2 a (contactOf e)
    refine ⟨fun n hn => ?_, by rw [sizes_cons]; omega⟩
    rcases List.mem_cons.1 hn with rfl | hn
    ·exact add_good (.inl rfl) (h1 a (by simp)) hc (by omega)
    ·exact h1 n (by simp [hn])
   ·exact ⟨(fun n hn => by cases hn), by simp [sizes]⟩
  ·split
   ·split
    ·rename_i a r
     rw [sizes_cons] at h2
     have := add_size 3 a (contactOf e)
     refine ⟨fun n hn => ?_, by rw [sizes_cons]; omega⟩
     rcases List.mem_cons.1 hn with rfl | hn
     ·exact add_good (.inr rfl) (h1 a (by simp)) hc (by omega)
     ·exact h1 n (by simp [hn])
    ·exact ⟨(fun n hn => by cases hn), by simp [sizes]⟩
   ·split
    ·split
     ·rename_i a b r
      rw [sizes_cons, sizes_cons] at h2
      have := add_size 2 b a
      refine ⟨fun n hn => ?_, by rw [sizes_cons]; omega⟩
      rcases List.mem_cons.1 hn with rfl | hn
      ·exact add_good (.inl rfl) (h1 b (by simp)) (h1 a (by simp)) (by omega)
      ·exact h1 n (by simp [hn])
     ·exact ⟨h1, by omega⟩
    ·split
     ·split
      ·rename_i a b r
       rw [sizes_cons, sizes_cons] at h2
       have := add_size 3 b a
       refine ⟨fun n hn => ?_, by rw [sizes_cons]; omega⟩
       rcases List.mem_cons.1 hn with rfl | hn
       ·exact add_good (.inr rfl) (h1 b (by simp)) (h1 a (by simp)) (by omega)
       ·exact h1 n (by simp [hn])
      ·exact ⟨h1, by omega⟩
     ·split
      ·rename_i a r
       rw [sizes_cons] at h2
       have := not_size a
       refine ⟨fun n hn => ?_, by rw [sizes_cons]; omega⟩
       rcases List.mem_cons.1 hn with rfl | hn
       ·exact not_good (h1 a (by simp))
       ·exact h1 n (by simp [hn])
      ·exact ⟨(fun n hn => by cases hn), by simp [sizes]⟩
theorem back_good : ∀ (l : List Inst) (st : List Net) (s : Nat), (∀ i ∈ l, i.fits) → stGood s st → s + 2 * l.length ≤ 900000 → ∀ st', backFrom st l = some st' → stGood 900000 st'
 | [], st, s, _, h, hs, st', e => by
  rw [backFrom] at e
  cases e
  exact ⟨h.1, by have := h.2; simp at hs; omega⟩
 | i :: r, st, s, hf, h, hs, st', e => by
  rw [backFrom] at e
  split at e
  ·cases e
  ·simp only [List.length_cons] at hs
   exact back_good r _ (s + 2) (fun x hx => hf x (by simp [hx])) (do_good (hf i (by simp)).2 h (by omega)) (by omega) st' e
theorem backNet_fits {l : List Inst} (hf : ∀ i ∈ l, i.fits) : netFits (backNet l).1 ∧ netSize (backNet l).1 ≤ 401 := by
 have hz : netFits netZero ∧ netSize netZero ≤ 401 := by
  unfold netZero
  refine ⟨?_, by rw [netSize_eq]; simp⟩
  rw [netFits_eq]
  exact ⟨⟨by decide, by decide⟩, zero_fits, by simp, (fun d hd => by cases hd)⟩
 unfold backNet
 split
 ·exact hz
 ·unfold lastNet
  split
  ·rename_i n hn
   split
   ·exact hz
   ·have h := back_good l [] 0 hf ⟨(fun n hn => by cases hn), by simp [sizes]⟩ (by omega) _ hn
    exact ⟨(h.1 n (by simp)).1, by simp only; omega⟩
  ·exact hz
end Stil
