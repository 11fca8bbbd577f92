/- Plain: the nets of instructions, on a stack of nets (its top first). -/
import Derived.Test.YtpaljcoojkbhnaaGreatDoorGZ
import Derived.Test.YtpaljcoojkbhnaaGreatDoorGk
namespace Stil
/-- A net as kids of a kind: opened, if it is of that kind itself. -/
def opn (k : Int) (n : Net) : List Net := if n.kind = k then n.kids else [n]
def putNet (k : Int) (a b : Net) : Net := ⟨k, ⟨0, []⟩, opn k a ++ opn k b⟩
def addNet (k : Int) (a b : Net) : Net := if a.kind = 0 then b else putNet k a b
def contactOf (e : Elem) : Net := ⟨1, e, []⟩
def notOf (a : Net) : Net := ⟨4, ⟨0, []⟩, [a]⟩
def netZero : Net := ⟨0, ⟨0, []⟩, []⟩
/-- One instruction on a stack. -/
def doNet (c : Int) (e : Elem) (st : List Net) : List Net :=
  if c = 1 then contactOf e :: st
  else if c = 2 then (match st with | a :: r => addNet 2 a (contactOf e) :: r | [] => [])
  else if c = 3 then (match st with | a :: r => addNet 3 a (contactOf e) :: r | [] => [])
  else if c = 4 then (match st with | a :: b :: r => addNet 2 b a :: r | s => s)
  else if c = 5 then (match st with | a :: b :: r => addNet 3 b a :: r | s => s)
  else (match st with | a :: r => notOf a :: r | [] => [])
def backFrom : List Net → List Inst → Option (List Net)
  | st, [] => some st
  | st, i :: r => if listOk i = false ∨ 7 ≤ i.code ∨ (st.length : Int) < needs i.code then none else backFrom (doNet i.code i.one st) r
def lastNet : Option (List Net) → Net × Bool
  | some [n] => if 400 < netSize n then (netZero, false) else (n, true)
  | _ => (netZero, false)
def backNet (l : List Inst) : Net × Bool := if 1000 < l.length then (netZero, false) else lastNet (backFrom [] l)
theorem backFrom_drop (l : List Inst) (st : List Net) (j : Nat) (h : j < l.length) : backFrom st (l.drop j) = if listOk l[j] = false ∨ 7 ≤ l[j].code ∨ (st.length : Int) < needs l[j].code then none else backFrom (doNet l[j].code l[j].one st) (l.drop (j + 1)) := by
  rw [List.drop_eq_getElem_cons h]; rfl
theorem backFrom_end (l : List Inst) (st : List Net) (j : Nat) (h : l.length ≤ j) : backFrom st (l.drop j) = some st := by
  rw [List.drop_of_length_le h]; rfl
/-- What holds of every net of a stack. -/
def netGood (n : Net) : Prop := netFits n ∧ 1 ≤ n.kind
theorem sizes_cons (a : Net) (r : List Net) : sizes (a :: r) = netSize a + sizes r := by simp [sizes]
theorem sizes_nil : sizes [] = 0 := rfl
theorem opn_sizes (k : Int) (a : Net) : sizes (opn k a) ≤ netSize a := by
  unfold opn
  split
  · rw [netSize_kids]; omega
  · rw [sizes_cons, sizes_nil]; omega
theorem opn_fits {k : Int} {a : Net} (h : netFits a) : ∀ x ∈ opn k a, netFits x := by
  unfold opn
  split
  · exact (netFits_parts h).2.2.2
  · intro x hx
    rw [List.mem_singleton.1 hx]; exact h
theorem put_size (k : Int) (a b : Net) : netSize (putNet k a b) ≤ 1 + netSize a + netSize b := by
  rw [netSize_kids]
  have h1 := opn_sizes k a
  have h2 := opn_sizes k b
  have h3 := sizes_append (opn k a) (opn k b)
  show 1 + sizes (opn k a ++ opn k b) ≤ _
  omega
theorem zero_fits : Elem.fits ⟨0, []⟩ := ⟨⟨by simp, by simp⟩, by simp, (fun d hd => by cases hd)⟩
theorem put_fits {k : Int} {a b : Net} (hk : i64 k) (ha : netFits a) (hb : netFits b) (hs : netSize a + netSize b ≤ 1000000) : netFits (putNet k a b) := by
  unfold putNet
  rw [netFits_eq]
  refine ⟨hk, zero_fits, ?_, fun x hx => ?_⟩
  · have h1 := opn_sizes k a
    have h2 := opn_sizes k b
    have h3 := sizes_append (opn k a) (opn k b)
    have h4 := len_sizes (opn k a ++ opn k b)
    omega
  · rcases List.mem_append.1 hx with hx | hx
    · exact opn_fits ha x hx
    · exact opn_fits hb x hx
theorem add_good {k : Int} {a b : Net} (hk : k = 2 ∨ k = 3) (ha : netGood a) (hb : netGood b) (hs : netSize a + netSize b ≤ 1000000) : netGood (addNet k a b) := by
  unfold addNet
  rw [if_neg (by have := ha.2; omega)]
  have hk2 : i64 k := by rcases hk with rfl | rfl <;> exact ⟨by decide, by decide⟩
  exact ⟨put_fits hk2 ha.1 hb.1 hs, by show 1 ≤ k; omega⟩
theorem add_size (k : Int) (a b : Net) : netSize (addNet k a b) ≤ 1 + netSize a + netSize b := by
  unfold addNet
  split
  · omega
  · exact put_size k a b
theorem contact_good {e : Elem} (h : e.fits) : netGood (contactOf e) := by
  unfold contactOf
  refine ⟨?_, by show (1 : Int) ≤ 1; decide⟩
  rw [netFits_eq]
  exact ⟨⟨by decide, by decide⟩, h, by simp, (fun d hd => by cases hd)⟩
theorem contact_size (e : Elem) : netSize (contactOf e) = 1 := by rw [netSize_kids]; rfl
theorem not_good {a : Net} (h : netGood a) : netGood (notOf a) := by
  unfold notOf
  refine ⟨?_, by show (1 : Int) ≤ 4; decide⟩
  rw [netFits_eq]
  exact ⟨⟨by decide, by decide⟩, zero_fits, by simp, fun x hx => by rw [List.mem_singleton.1 hx]; exact h.1⟩
theorem not_size (a : Net) : netSize (notOf a) = 1 + netSize a := by
  rw [netSize_kids]
  show 1 + sizes [a] = _
  rw [sizes_cons, sizes_nil]; omega
def stGood (c : Nat) (st : List Net) : Prop := (∀ n ∈ st, netGood n) ∧ sizes st ≤ c
theorem do_good {c : Int} {e : Elem} {st : List Net} {s : Nat} (he : e.fits) (h : stGood s st) (hs : s ≤ 900000) : stGood (s + 2) (doNet c e st) := by
  obtain ⟨h1, h2⟩ := h
  have hc := contact_good he
  have hcs := contact_size e
  unfold doNet
  split
  · exact ⟨fun n hn => (List.mem_cons.1 hn).elim (fun e => by rw [e]; exact hc) (h1 n), by rw [sizes_cons]; omega⟩
  · split
    · split
      · rename_i a r
        rw [sizes_cons] at h2
        have := add_size 2 a (contactOf e)
        refine ⟨fun n hn => ?_, by rw [sizes_cons]; omega⟩
        rcases List.mem_cons.1 hn with rfl | hn
        · exact add_good (.inl rfl) (h1 a (by simp)) hc (by omega)
        · exact h1 n (by simp [hn])
      · exact ⟨(fun n hn => by cases hn), by simp [sizes]⟩
    · split
      · split
        · rename_i a r
          rw [sizes_cons] at h2
          have := add_size 3 a (contactOf e)
          refine ⟨fun n hn => ?_, by rw [sizes_cons]; omega⟩
          rcases List.mem_cons.1 hn with rfl | hn
          · exact add_good (.inr rfl) (h1 a (by simp)) hc (by omega)
          · exact h1 n (by simp [hn])
        · exact ⟨(fun n hn => by cases hn), by simp [sizes]⟩
      · split
        · split
          · rename_i a b r
            rw [sizes_cons, sizes_cons] at h2
            have := add_size 2 b a
            refine ⟨fun n hn => ?_, by rw [sizes_cons]; omega⟩
            rcases List.mem_cons.1 hn with rfl | hn
            · exact add_good (.inl rfl) (h1 b (by simp)) (h1 a (by simp)) (by omega)
            · exact h1 n (by simp [hn])
          · exact ⟨h1, by omega⟩
        · split
          · split
            · rename_i a b r
              rw [sizes_cons, sizes_cons] at h2
              have := add_size 3 b a
              refine ⟨fun n hn => ?_, by rw [sizes_cons]; omega⟩
              rcases List.mem_cons.1 hn with rfl | hn
              · exact add_good (.inr rfl) (h1 b (by simp)) (h1 a (by simp)) (by omega)
              · exact h1 n (by simp [hn])
            · exact ⟨h1, by omega⟩
          · split
            · rename_i a r
              rw [sizes_cons] at h2
              have := not_size a
              refine ⟨fun n hn => ?_, by rw [sizes_cons]; omega⟩
              rcases List.mem_cons.1 hn with rfl | hn
              · exact not_good (h1 a (by simp))
              · exact h1 n (by simp [hn])
            · exact ⟨(fun n hn => by cases hn), by simp [sizes]⟩
theorem back_good : ∀ (l : List Inst) (st : List Net) (s : Nat), (∀ i ∈ l, i.fits) → stGood s st → s + 2 * l.length ≤ 900000 → ∀ st', backFrom st l = some st' → stGood 900000 st'
  | [], st, s, _, h, hs, st', e => by
    rw [backFrom] at e
    cases e
    exact ⟨h.1, by have := h.2; simp at hs; omega⟩
  | i :: r, st, s, hf, h, hs, st', e => by
    rw [backFrom] at e
    split at e
    · cases e
    · simp only [List.length_cons] at hs
      exact back_good r _ (s + 2) (fun x hx => hf x (by simp [hx])) (do_good (hf i (by simp)).2 h (by omega)) (by omega) st' e
theorem backNet_fits {l : List Inst} (hf : ∀ i ∈ l, i.fits) : netFits (backNet l).1 ∧ netSize (backNet l).1 ≤ 401 := by
  have hz : netFits netZero ∧ netSize netZero ≤ 401 := by
    unfold netZero
    refine ⟨?_, by rw [netSize_eq]; simp⟩
    rw [netFits_eq]
    exact ⟨⟨by decide, by decide⟩, zero_fits, by simp, (fun d hd => by cases hd)⟩
  unfold backNet
  split
  · exact hz
  · unfold lastNet
    split
    · rename_i n hn
      split
      · exact hz
      · have h := back_good l [] 0 hf ⟨(fun n hn => by cases hn), by simp [sizes]⟩ (by omega) _ hn
        exact ⟨(h.1 n (by simp)).1, by simp only; omega⟩
    · exact hz
end Stil
