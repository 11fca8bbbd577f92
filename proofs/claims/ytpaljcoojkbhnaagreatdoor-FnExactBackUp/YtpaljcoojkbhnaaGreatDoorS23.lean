/- Plain: the nets and arms that a list is read as fit. -/
import Derived.Test.YtpaljcoojkbhnaaGreatDoorM32
import Derived.Test.YtpaljcoojkbhnaaGreatDoorS21
import Derived.Deep.RegionHeld3
namespace Stil
/-- What holds of every net of a stack, none or not. -/
def netOk (n : Net) : Prop := netFits n ∧ (n.kind = 0 → netNone n = true)
def stOk (c : Nat) (st : List Net) : Prop := (∀ n ∈ st, netOk n) ∧ sizes st ≤ c
theorem good_ok {n : Net} (h : netGood n) : netOk n := ⟨h.1, fun h0 => by have := h.2; omega⟩
theorem stGood_ok {c : Nat} {st : List Net} (h : stGood c st) : stOk c st := ⟨fun n hn => good_ok (h.1 n hn), h.2⟩
theorem netZero_fits : netFits netZero := by
 unfold netZero
 rw [netFits_eq]
 exact ⟨⟨by decide, by decide⟩, zero_fits, by simp, (fun d hd => by cases hd)⟩
theorem netZero_size : netSize netZero = 1 := by rw [netSize_kids]; rfl
theorem netZero_ok : netOk netZero := ⟨netZero_fits, fun _ => rfl⟩
theorem add_ok {k : Int} {a b : Net} (hk : k = 2 ∨ k = 3) (ha : netOk a) (hb : netOk b) (hs : netSize a + netSize b ≤ 1000000) : netOk (addNet k a b) := by
 unfold addNet
 split
 ·exact hb
 ·have hk2 : i64 k := by rcases hk with rfl | rfl <;> exact ⟨by decide, by decide⟩
  exact ⟨put_fits hk2 ha.1 hb.1 hs, fun h0 => by have h0 : k = 0 := h0; omega⟩
theorem do_ok {c : Int} {e : Elem} {st : List Net} {s : Nat} (he : e.fits) (h : stOk s st) (hs : s ≤ 900000) : stOk (s + 2) (doNet c e st) := by
 obtain ⟨h1, h2⟩ := h
 have hc := good_ok (contact_good he)
 have hcs := contact_size e
 have hno : ∀ a, netOk a → netOk (notOf a) := fun a ha => by
  refine ⟨?_, fun h0 => by have h0 : (4 : Int) = 0 := h0; omega⟩
  unfold notOf
  rw [netFits_eq]
  exact ⟨⟨by decide, by decide⟩, zero_fits, by simp, fun x hx => by rw [List.mem_singleton.1 hx]; exact ha.1⟩
 have one : ∀ k a r, (k = 2 ∨ k = 3) → netOk a → (∀ n ∈ r, netOk n) → sizes (a :: r) ≤ s → stOk (s + 2) (addNet k a (contactOf e) :: r) := fun k a r hk ha hr hz => by
  rw [sizes_cons] at hz
  have := add_size k a (contactOf e)
  refine ⟨fun n hn => ?_, by rw [sizes_cons]; omega⟩
  rcases List.mem_cons.1 hn with rfl | hn
  ·exact add_ok hk ha hc (by omega)
  ·exact hr n hn
 have two : ∀ k a b r, (k = 2 ∨ k = 3) → netOk a → netOk b → (∀ n ∈ r, netOk n) → sizes (a :: b :: r) ≤ s → stOk (s + 2) (addNet k b a :: r) := fun k a b r hk ha hb hr hz => by
  rw [sizes_cons, sizes_cons] at hz
  have := add_size k b a
  refine ⟨fun n hn => ?_, by rw [sizes_cons]; omega⟩
  rcases List.mem_cons.1 hn with rfl | hn
  ·exact add_ok hk hb ha (by omega)
  ·exact hr n hn
 have nil : stOk (s + 2) [] := ⟨(fun n hn => by cases hn), by simp [sizes]⟩
 unfold doNet
 split
 ·exact ⟨fun n hn => (List.mem_cons.1 hn).elim (fun e => by rw [e]; exact hc) (h1 n), by rw [sizes_cons]; omega⟩
 ·split
  ·split
   ·exact one 2 _ _ (.inl rfl) (h1 _ (by simp)) (fun n hn => h1 n (by simp [hn])) h2
   ·exact nil
  ·split
   ·split
    ·exact one 3 _ _ (.inr rfl) (h1 _ (by simp)) (fun n hn => h1 n (by simp [hn])) h2
    ·exact nil
   ·split
    ·split
     ·exact two 2 _ _ _ (.inl rfl) (h1 _ (by simp)) (h1 _ (by simp)) (fun n hn => h1 n (by simp [hn])) h2
     ·exact ⟨h1, by omega⟩
    ·split
     ·split
      ·exact two 3 _ _ _ (.inr rfl) (h1 _ (by simp)) (h1 _ (by simp)) (fun n hn => h1 n (by simp [hn])) h2
      ·exact ⟨h1, by omega⟩
     ·split
      ·rename_i a r
       rw [sizes_cons] at h2
       have := not_size a
       refine ⟨fun n hn => ?_, by rw [sizes_cons]; omega⟩
       rcases List.mem_cons.1 hn with rfl | hn
       ·exact hno a (h1 a (by simp))
       ·exact h1 n (by simp [hn])
      ·exact nil
theorem zero_stOk : stOk 1 [netZero] := ⟨fun n hn => by rw [List.mem_singleton.1 hn]; exact netZero_ok, by rw [sizes_cons, sizes_nil, netZero_size]; omega⟩
theorem nil_stOk : stOk 0 [] := ⟨(fun n hn => by cases hn), by simp [sizes]⟩
theorem NetR.ok : ∀ {l : List Inst} {st : List Net} {n : Net} {l1 : List Inst} {s : Nat}, NetR st l n l1 → stOk s st → (∀ i ∈ l, i.fits) → s + 2 * l.length ≤ 900000 → netOk n ∧ netSize n + 2 * l1.length ≤ s + 2 * l.length
 | [], _, _, _, _, h, _, _, _ => h.elim
 | i :: r, st, n, l1, s, h, hst, hf, hs => by
  rw [NetR] at h
  simp only [List.length_cons] at hs ⊢
  split at h
  ·have h2 := NetR.ok h.2.2 (do_ok (hf i (by simp)).2 hst (by omega)) (fun x hx => hf x (by simp [hx])) (by omega)
   exact ⟨h2.1, by omega⟩
  ·obtain ⟨rfl, rfl⟩ := h
   have h3 := hst.2
   rw [sizes_cons, sizes_nil] at h3
   exact ⟨hst.1 n (by simp), by simp only [List.length_cons]; omega⟩
theorem CoilR.fits : ∀ {l : List Inst} {cs : List Elem} {l2 : List Inst}, CoilR l cs l2 → (∀ i ∈ l, i.fits) → ∀ c ∈ cs, c.fits
 | [], _, _, h, _ => h.elim
 | i :: r, cs, l2, h, hf => by
  rw [CoilR] at h
  split at h
  ·obtain ⟨c', rfl, h⟩ := h
   intro c hc
   rcases List.mem_cons.1 hc with rfl | hc
   ·exact (hf i (by simp)).2
   ·exact CoilR.fits h (fun x hx => hf x (by simp [hx])) c hc
  ·obtain ⟨rfl, rfl⟩ := h
   exact (fun c hc => by cases hc)
/-- An arm that was read fits, and is no larger than what was read. -/
def ArmFine (l : List Inst) (a : Arm) (r : List Inst) (s : Nat) : Prop := armFits a ∧ armSize a + 4 * r.length ≤ s + 1 + 4 * l.length
theorem ForkR.fine {P : List Inst → Arm → List Inst → Prop} {L : Nat} (hP : ∀ l a r, l.length ≤ L → (∀ i ∈ l, i.fits) → P l a r → ArmFine l a r 1 ∧ r <:+ l) : ∀ {ks : List Arm} {l r : List Inst}, l.length ≤ L → (∀ i ∈ l, i.fits) → ForkR P ks l r → (∀ x ∈ ks, armFits x) ∧ treeSize ks + 4 * r.length ≤ 4 * l.length ∧ ks.length ≤ l.length
 | [], _, _, _, _, h => by simp [ForkR] at h
 | _ :: _, [], _, _, _, h => by simp [ForkR] at h
 | a :: ks, i :: l, r, hL, hf, h => by
  rw [ForkR] at h
  simp only [List.length_cons] at hL ⊢
  have et : treeSize (a :: ks) = armSize a + treeSize ks := by simp [treeSize]
  rw [et]
  split at h
  ·rename_i hk
   subst hk
   have h1 := (hP l a r (by omega) (fun x hx => hf x (by simp [hx])) h.2).1
   have e0 : treeSize [] = 0 := rfl
   rw [e0]
   refine ⟨fun x hx => by rw [List.mem_singleton.1 hx]; exact h1.1, by have := h1.2; omega, by simp⟩
  ·obtain ⟨_, m, h1, h2⟩ := h
   obtain ⟨h3, h4⟩ := hP l a m (by omega) (fun x hx => hf x (by simp [hx])) h1
   have h5 := h4.length_le
   obtain ⟨h6, h7, h8⟩ := ForkR.fine hP (by omega) (fun x hx => hf x (by simp [h4.subset hx])) h2
   refine ⟨fun x hx => ?_, by have := h3.2; omega, by omega⟩
   rcases List.mem_cons.1 hx with rfl | hx
   ·exact h3.1
   ·exact h6 x hx
theorem ArmR.fine : ∀ {n : Nat} {st : List Net} {l : List Inst} {a : Arm} {r : List Inst} {s : Nat}, ArmR n st l a r → stOk s st → (∀ i ∈ l, i.fits) → s ≤ 1 → l.length ≤ 1000 → ArmFine l a r s
 | 0, _, _, _, _, _, h, _, _, _, _ => h.elim
 | n + 1, st, l, a, r, s, h, hst, hf, hs, hl => by
  obtain ⟨l1, l2, h1, h2, h3⟩ := h
  have hs1 := h1.suffix
  have hs2 := h2.suffix
  have e1 := hs1.1.length_le
  have e2 := hs2.2.2
  have hn := h1.ok hst hf (by omega)
  have hcf := h2.fits (fun i hi => hf i (hs1.1.subset hi))
  have hf2 : ∀ i ∈ l2, i.fits := fun i hi => hf i (hs1.1.subset (hs2.1.subset hi))
  have hk : (∀ x ∈ a.kids, armFits x) ∧ treeSize a.kids + 4 * r.length ≤ 4 * l2.length + (if a.coils = [] then 0 else 2) ∧ a.kids.length ≤ 1000 := by
   rcases h3 with ⟨_, e, rfl⟩ | ⟨_, hc, b, e, h⟩ | ⟨_, h⟩
   ·rw [e]
    exact ⟨(fun x hx => by cases hx), by show 0 + _ ≤ _; omega, by simp⟩
   ·rw [e]
    have h4 := ArmR.fine (s := 1) h zero_stOk hf2 (by omega) (by omega)
    have hne : a.coils ≠ [] := by
     intro hc0
     rw [hc0] at e2
     have h5 : l1 = l2 := (List.IsSuffix.eq_of_length hs2.1 (by simpa using e2)).symm
     have h6 := hs1.2
     rw [h5] at h6
     omega
    rw [if_neg hne]
    have e0 : treeSize [b] = armSize b := by simp [treeSize]
    rw [e0]
    exact ⟨fun x hx => by rw [List.mem_singleton.1 hx]; exact h4.1, by have := h4.2; omega, by simp⟩
   ·obtain ⟨h6, h7, h8⟩ := ForkR.fine (L := 1000) (fun l a r hl hf h => ⟨ArmR.fine (s := 1) h zero_stOk hf (by omega) hl, h.suffix⟩) (by omega) hf2 h
    exact ⟨h6, by omega, by omega⟩
  obtain ⟨an, acs, aks⟩ := a
  simp only at hn hcf hk e2
  refine ⟨?_, ?_⟩
  ·rw [armFits_eq]
   exact ⟨hn.1.1, by omega, hcf, by omega, hk.1⟩
  ·have e3 : armSize ⟨an, acs, aks⟩ = 1 + acs.length + (if netNone an then 0 else netSize an) + treeSize aks := by rw [armSize]; rfl
   rw [e3]
   have h9 : (if netNone an then 0 else netSize an) ≤ netSize an := by split <;> omega
   have h10 := hn.2
   have h11 := hk.2.1
   have h12 : (if acs = [] then 0 else 2) ≤ 2 * acs.length := by
    split
    ·omega
    ·rename_i hne
     have := List.length_pos_iff.2 hne
     omega
   omega
end Stil
/- Plain: the ladder that a verified list is read as. -/
namespace Stil
/-- The rungs of a list, each read as an arm. -/
def UpR : List (List Inst) → List Arm → Prop
 | [], xs => xs = []
 | c :: cs, xs => ∃ x xs' i, xs = x :: xs' ∧ ArmR 1001 [] c x [i] ∧ UpR cs xs'
theorem rung_arm {c xs : List Inst} {i : Inst} (hc : c = xs ++ [i]) (hrun : run pt0 c = some pt0) (_hi : i.code = 11) (hx : ∀ y ∈ xs, y.code ≠ 11) (hl : c.length ≤ 1000) : ∃ x, ArmR 1001 [] c x [i] := by
 have hR : Runs pt0 c := ⟨good0, pt0, hrun, by decide⟩
 obtain ⟨x, r, h1, h2⟩ := arm_runs 1000 c pt0 [] hl hR rfl (by rw [hc]; simp)
 obtain ⟨j, r', rfl, hj, _⟩ := ends_rung h2
 have hs := h1.suffix
 have hnil : r' = [] ∧ j = i := by
  rw [hc] at hs
  obtain ⟨t, ht⟩ := hs
  rcases List.eq_nil_or_concat r' with rfl | ⟨r2, k, rfl⟩
  ·have h3 := List.append_inj' ht rfl
   exact ⟨rfl, by injection h3.2⟩
  ·exfalso
   rw [List.concat_eq_append, ← List.cons_append, ← List.append_assoc] at ht
   have h3 := List.append_inj' ht rfl
   exact hx j (by rw [← h3.1]; simp) hj
 rw [hnil.1, hnil.2] at h1
 exact ⟨x, h1⟩
theorem up_runs : ∀ (cs : List (List Inst)), (∀ c ∈ cs, run pt0 c = some pt0 ∧ c.length ≤ 1000 ∧ ∃ xs i, c = xs ++ [i] ∧ i.code = 11 ∧ ∀ x ∈ xs, x.code ≠ 11) → ∃ xs, UpR cs xs
 | [], _ => ⟨[], rfl⟩
 | c :: cs, h => by
  obtain ⟨h1, h2, ys, i, h3, h4, h5⟩ := h c (by simp)
  obtain ⟨x, hx⟩ := rung_arm h3 h1 h4 h5 h2
  obtain ⟨xs, hxs⟩ := up_runs cs (fun c hc => h c (by simp [hc]))
  exact ⟨x :: xs, x, xs, i, rfl, hx, hxs⟩
theorem UpR.len : ∀ {cs : List (List Inst)} {xs : List Arm}, UpR cs xs → xs.length = cs.length
 | [], _, h => by rw [h]; rfl
 | c :: cs, _, ⟨x, xs, i, e, _, h2⟩ => by rw [e, List.length_cons, List.length_cons, UpR.len h2]
theorem UpR.at : ∀ {cs : List (List Inst)} {xs : List Arm} (_ : UpR cs xs) (j : Nat) (h1 : j < cs.length) (h2 : j < xs.length), ∃ i, ArmR 1001 [] cs[j] xs[j] [i]
 | [], _, _, _, h1, _ => by simp at h1
 | c :: cs, _, ⟨x, xs, i, e, a1, a2⟩, 0, _, _ => by subst e; exact ⟨i, a1⟩
 | c :: cs, _, ⟨x, xs, i, e, a1, a2⟩, j + 1, h1, h2 => by subst e; exact UpR.at a2 j (by simpa using h1) (by simpa using h2)
theorem UpR.fine : ∀ {cs : List (List Inst)} {xs : List Arm}, UpR cs xs → (∀ c ∈ cs, c.length ≤ 1000 ∧ 0 < c.length ∧ ∀ i ∈ c, i.fits) → (∀ x ∈ xs, armFits x) ∧ treeSize xs ≤ 4 * cs.flatten.length
 | [], _, h, _ => by rw [h]; exact ⟨(fun x hx => by cases hx), by simp [treeSize]⟩
 | c :: cs, _, ⟨x, xs, i, e, a1, a2⟩, h => by
  subst e
  obtain ⟨h1, h0, h2⟩ := h c (by simp)
  have h3 := a1.fine nil_stOk h2 (by omega) h1
  obtain ⟨h4, h5⟩ := UpR.fine a2 (fun c hc => h c (by simp [hc]))
  refine ⟨fun y hy => ?_, ?_⟩
  ·rcases List.mem_cons.1 hy with rfl | hy
   ·exact h3.1
   ·exact h4 y hy
  ·have et : treeSize (x :: xs) = armSize x + treeSize xs := by simp [treeSize]
   have h6 := h3.2
   rw [et, List.flatten_cons, List.length_append]
   simp only [List.length_singleton] at h6
   omega
/-- What is answered of a verified list. -/
def upOf (xs : List Arm) : List Arm × Int := if 0 < (treeCheck xs).1 then ([], 2) else (xs, 0)
/-- The ladder of a verified list: it is there, and it fits. -/
theorem up_there {l : List Inst} (h : (sureCheck l).1 = 0) (hf : ∀ x ∈ l, x.fits) : ∃ xs, UpR (sureRungs l) xs ∧ (∀ x ∈ xs, armFits x) ∧ treeSize xs ≤ 4000 ∧ xs.length ≤ 1000 ∧ l.length ≤ 1000 ∧ (sureRungs l).flatten = l := by
 have hlen := (check_run.1 h).1
 have hsr := (sure_rungs h).1
 have hrr : sureRungs l = rungsFrom [] l := by unfold sureRungs; rw [if_neg (by omega)]
 have hall := (rungs_ok l [] pt0 rfl (fun x hx => by cases hx) (.inl rfl) (check_run.1 h).2).2.2
 rw [← hrr] at hall
 have hmem := fun c hc => rungsFrom_mem l [] c (by rw [← hrr]; exact hc)
 have hcl : ∀ c ∈ sureRungs l, c.length ≤ 1000 := fun c hc => by have := (hmem c hc).2.2; simp at this; omega
 obtain ⟨xs, hx⟩ := up_runs (sureRungs l) (fun c hc => ⟨(hall c hc).1, hcl c hc, (hall c hc).2⟩)
 obtain ⟨h1, h2⟩ := hx.fine (fun c hc => ⟨hcl c hc, (hmem c hc).1, fun i hi => hf i (((hmem c hc).2.1 i hi).elim (fun h => by cases h) id)⟩)
 refine ⟨xs, hx, h1, ?_, ?_, hlen, hsr⟩
 ·rw [hsr] at h2; omega
 ·rw [hx.len, hrr]
  exact Nat.le_trans (rungsFrom_len l []) hlen
end Stil
/- The specification's chapter 8: the reader of a rung: where it stands, the code there. -/
namespace Go.Proofs.YtpaljcoojkbhnaaGreatDoor
open Go.RowKit Go.Sort Go.BigFrame
/-- The reader in its block, the first that is new since w0: the list L, what is left of it. -/
structure Rd8 (w0 w : World) (a : Option Addr) (cap : Nat) (L l : List Stil.Inst) : Prop where
 bel : Below w0.heap.size w0 w
 lt : w0.heap.size < w.heap.size
 c0 : w.cell? ⟨w0.heap.size, 0, none⟩ = some (.slice a L.length cap)
 c1 : w.cell? ⟨w0.heap.size, 1, none⟩ = some (.int .i64 ((L.length - l.length : Nat) : Int))
 f1 : w.frozen? ⟨w0.heap.size, 1, none⟩ = false
 suf : l <:+ L
theorem Rd8.below {w0 w w' : World} {a : Option Addr} {cap n : Nat} {L l : List Stil.Inst} (h : Rd8 w0 w a cap L l) (hb : Below n w w') (hn : w0.heap.size < n) : Rd8 w0 w' a cap L l :=
 ⟨h.bel.trans (hb.mono (Nat.le_of_lt hn)), Nat.lt_of_lt_of_le h.lt hb.size, (hb.cell (p := ⟨w0.heap.size, 0, none⟩) hn).trans h.c0, (hb.cell (p := ⟨w0.heap.size, 1, none⟩) hn).trans h.c1, (hb.frozen (p := ⟨w0.heap.size, 1, none⟩) hn).trans h.f1, h.suf⟩
theorem suffix_at {L r : List Stil.Inst} {i : Stil.Inst} (h : i :: r <:+ L) : ∃ J, J = L.length - (i :: r).length ∧ J + 1 = L.length - r.length ∧ ∃ hj : J < L.length, L[J] = i := by
 have hl := h.length_le
 simp only [List.length_cons] at hl
 refine ⟨_, rfl, by simp only [List.length_cons]; omega, by simp only [List.length_cons]; omega, ?_⟩
 have e := List.suffix_iff_eq_drop.1 h
 have e2 := List.drop_eq_getElem_cons (l := L) (i := L.length - (i :: r).length) (by simp only [List.length_cons]; omega)
 rw [← e] at e2
 injection e2 with e3 _
 exact e3.symm
theorem Rd8.next {w0 w : World} {a : Option Addr} {cap J : Nat} {L r : List Stil.Inst} {i : Stil.Inst} (h : Rd8 w0 w a cap L (i :: r)) (hJ : J + 1 = L.length - r.length) : Rd8 w0 (w.setCell ⟨w0.heap.size, 1, none⟩ (.int .i64 ((J : Int) + 1))) a cap L r := by
 refine ⟨h.bel.setCell (p := ⟨w0.heap.size, 1, none⟩) (Nat.le_refl _) _, by simpa using h.lt, (cellSetOff (by omega)).trans h.c0, ?_, frozenS.trans h.f1, (List.suffix_cons i r).trans h.suf⟩
 rw [cellSetAt h.c1, ← hJ]
 rfl
/-- The instruction that the reader stands at. -/
theorem Rd8.inst {w0 w : World} {a : Option Addr} {cap : Nat} {L r : List Stil.Inst} {i : Stil.Inst} (h : Rd8 w0 w a cap L (i :: r)) (hat : InstsAt w0 (.slice a L.length cap) L) : ∃ (b o J : Nat) (av : Value), a = some ⟨b, o, none⟩ ∧ b < w0.heap.size ∧ J < L.length ∧ J = L.length - (i :: r).length ∧ J + 1 = L.length - r.length ∧ w.cell? ⟨b, o + J * 3, none⟩ = some (.int .i64 i.code) ∧ w.cell? ⟨b, o + J * 3 + 1, none⟩ = some (.int .i64 i.one.op) ∧ w.cell? ⟨b, o + J * 3 + 2, none⟩ = some av ∧ DevsAt w av i.one.args := by
 obtain ⟨J, h1, h2, hj, rfl⟩ := suffix_at h.suf
 obtain ⟨a', cap', e, hc⟩ := hat
 cases e
 obtain ⟨b, o, ha, hb, hn⟩ := hc J hj
 obtain ⟨x0, x1, av, x2, hav⟩ := hn.below h.bel hb
 exact ⟨b, o, J, av, ha, hb, hj, h1, h2, x0, x1, x2, hav⟩
theorem hid_of {p : Prop} (h : p) : Hid p := h
theorem celD {W : World} {a : Addr} : W.drew.cell? a = W.cell? a := rfl
theorem celA {W : World} {ob : Obj} {c p : Nat} (h : c < W.heap.size) : (W.alloc ob).cell? ⟨c, p, none⟩ = W.cell? ⟨c, p, none⟩ := (below_alloc W ob).cell (p := ⟨c, p, none⟩) h
theorem grown_then {w a b : World} {n : Nat} {r : Option Nat} (h : w.grownBy a r) (hb : Below n a b) (hn : w.heap.size ≤ n) : w.grownBy b r :=
 ⟨hb.os.trans h.os, hb.tape.trans h.tape, hb.output.trans h.output, Nat.le_trans h.size hb.size, fun k hk hne => (hb.block k (Nat.lt_of_lt_of_le hk hn)).trans (h.block k hk hne)⟩
theorem grown_set {w a : World} {r : Nat} (h : w.grownBy a (some r)) (o : Nat) (v : Value) : w.grownBy (a.setCell ⟨r, o, none⟩ v) (some r) := by
 refine ⟨h.os, h.tape, h.output, by simpa using h.size, fun k hk hne => ?_⟩
 have hk2 : r ≠ k := fun e => hne (by rw [e])
 have := ((Below.refl (k + 1) a)).block k (Nat.lt_succ_self _)
 refine Eq.trans ?_ (h.block k hk hne)
 unfold World.setCell
 simp [Array.getElem?_modify, hk2]
set_option maxHeartbeats 1000000 in
set_option maxRecDepth 100000 in
theorem s_code (L r : List Stil.Inst) (i : Stil.Inst) (a : Option Addr) (cap : Nat) (w0 w : World) (hr : Rd8 w0 w a cap L (i :: r)) (hat : InstsAt w0 (.slice a L.length cap) L) (_hl : L.length ≤ 1000) :
  Calls Tryz.prog 66 #[.pointer (some ⟨w0.heap.size, 0, none⟩)] w fun e w' => e = .returned (.int .i64 i.code) ∧ Below w.heap.size w w' := by
 obtain ⟨b, o, J, av, rfl, hb, hJ, hJ1, -, x0, -⟩ := hr.inst hat
 have h0 := hr.c0
 have h1 := hr.c1
 rw [← hJ1] at h1
 clear hr hat hJ1
 go_enter Tryz.func66, Tryz.ntmps66
 go_upto_region 1 with fail
 go_region_held3 (fun W' => (W'.cell? ⟨w0.heap.size, 0, none⟩ = some (.slice (some ⟨b, o, none⟩) L.length cap) ∧ W'.cell? ⟨w0.heap.size, 1, none⟩ = some (.int .i64 (J : Int)) ∧ W'.cell? ⟨b, o + J * 3, none⟩ = some (.int .i64 i.code))) (first | with_reducible assumption | with_reducible exact ⟨celD.trans h0, celD.trans h1, celD.trans x0⟩ | skip) (fail)
 all_goals try go_wp2
 all_goals
  go_ret
  exact ⟨rfl, (Below.refl _ _).drew⟩
end Go.Proofs.YtpaljcoojkbhnaaGreatDoor
