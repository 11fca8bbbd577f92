/- The program's chapter 8: the ladder of a list. -/
import Derived.Test.YtpaljcoojkbhnaaGreatDoorI33b
namespace Go.Proofs.YtpaljcoojkbhnaaGreatDoor
open Go.RowKit Go.Sort Go.BigFrame Go.Shelf
attribute [local go_sem] Oper.semAt_some
theorem aCells_set : ∀ (ms : List MArm) (i : Nat) (_ : i < ms.length) (m : MArm), aCells (ms.set i m) = ((((((aCells ms).set (i * 6) (.int .i64 m.net.kind)).set (i * 6 + 1) (.int .i64 m.net.op)).set (i * 6 + 2) m.net.av).set (i * 6 + 3) m.net.kv).set (i * 6 + 4) m.cv).set (i * 6 + 5) m.kv
 | [], _, h, _ => by simp at h
 | x :: r, 0, _, m => rfl
 | x :: r, i + 1, h, m => by
  have ih := aCells_set r i (by simpa using h) m
  have e : ∀ (y : MArm) (l : List MArm), aCells (y :: l) = .int .i64 y.net.kind :: .int .i64 y.net.op :: y.net.av :: y.net.kv :: y.cv :: y.kv :: aCells l := fun _ _ => rfl
  have e1 : (i + 1) * 6 = i * 6 + 1 + 1 + 1 + 1 + 1 + 1 := by omega
  rw [List.set_cons_succ, e, ih, e, e1]
  rfl
/-- An arm is stored in a row of arms. -/
theorem ARow.stored {w : World} {base g cap i : Nat} {ms : List MArm} {m : MArm} (h : ARow w base (.slice (some ⟨g, 0, none⟩) ms.length cap) ms) (hi : i < ms.length) (hm : AOk w base m) (hp : (Value.slice (some ⟨g, 0, none⟩) ms.length cap :: aVals (ms.set i m)).Pairwise Aside) :
  ARow ((((((w.setCell ⟨g, i * 6, none⟩ (.int .i64 m.net.kind)).setCell ⟨g, i * 6 + 1, none⟩ (.int .i64 m.net.op)).setCell ⟨g, i * 6 + 2, none⟩ m.net.av).setCell ⟨g, i * 6 + 3, none⟩ m.net.kv).setCell ⟨g, i * 6 + 4, none⟩ m.cv).setCell ⟨g, i * 6 + 5, none⟩ m.kv) base (.slice (some ⟨g, 0, none⟩) ms.length cap) (ms.set i m) := by
 refine ⟨?_, fun x hx => ?_, hp⟩
 ·rw [List.length_set, aCells_set ms i hi m]
  exact ((((((h.1.stored (i * 6) _).1.stored (i * 6 + 1) _).1.stored (i * 6 + 2) _).1.stored (i * 6 + 3) _).1.stored (i * 6 + 4) _).1.stored (i * 6 + 5) _).1
 ·have hx0 : AOk w base x := by
   rcases List.mem_or_eq_of_mem_set hx with hx | rfl
   ·exact h.2.1 x hx
   ·exact hm
  have hb : ∀ y ∈ x.vals, y.ownBlock ≠ some g := fun y hy => aside_ne ((List.pairwise_cons.1 hp).1 y (mem_aVals.2 ⟨x, hx, hy⟩)) rfl
  exact AOk.map x hx0 (fun _ _ _ _ _ hy ho => ownsRow_setCell_other (ownsRow_setCell_other (ownsRow_setCell_other (ownsRow_setCell_other (ownsRow_setCell_other (ownsRow_setCell_other ho (hb _ hy) _) (hb _ hy) _) (hb _ hy) _) (hb _ hy) _) (hb _ hy) _) (hb _ hy) _)
theorem ARow.setR {w : World} {base b p : Nat} {v : Value} {ms : List MArm} (h : ARow w base v ms) (hb : b < base) (u : Value) : ARow (w.setCell ⟨b, p, none⟩ u) base v ms :=
 ((rowArm_own h).setO (a := ⟨b, p, none⟩) (fun x hx e => by have := ((rowArm_own h).1.lt _ x hx _ e).1; simp only at this; omega) u).krow
theorem AOk.setR {w : World} {base b p : Nat} {m : MArm} (h : AOk w base m) (hb : b < base) (u : Value) : AOk (w.setCell ⟨b, p, none⟩ u) base m :=
 AOk.map m h (fun _ _ _ _ _ hx ho => ownsRow_setCell_other ho (fun e => by have := (h.lt m _ hx _ e).1; simp only at this; omega) u)
/-- What is below n and the block P are as they were. -/
def Kq (n P : Nat) (W W' : World) : Prop := Below n W W' ∧ W'.heap[P]? = W.heap[P]?
theorem Kq.refl (n P : Nat) (W : World) : Kq n P W W := ⟨Below.refl _ _, rfl⟩
theorem Kq.grown {n P : Nat} {W A B : World} {r : Option Nat} (h : Kq n P W A) (hP : P < A.heap.size) (hn : n ≤ A.heap.size) (hg : A.grownBy B r) (hr : ∀ q, r = some q → n ≤ q ∧ q ≠ P) : Kq n P W B :=
 ⟨h.1.trans ⟨hg.os, hg.tape, hg.output, hg.size, fun k hk => hg.block k (by omega) (fun e => by have := hr k e.symm; omega)⟩, (hg.block P hP (fun e => (hr P e.symm).2 rfl)).trans h.2⟩
theorem Kq.set {n P b o : Nat} {W A : World} (h : Kq n P W A) (hb : n ≤ b) (hne : b ≠ P) (u : Value) : Kq n P W (A.setCell ⟨b, o, none⟩ u) := by
 refine ⟨h.1.setCell (p := ⟨b, o, none⟩) hb u, Eq.trans ?_ h.2⟩
 unfold World.setCell
 simp [Array.getElem?_modify, hne]
theorem Kq.put {n P l : Nat} {W A : World} (h : Kq n P W A) (hP : P < A.heap.size) (hn : n ≤ A.heap.size) (hl : n ≤ l) (hne : l ≠ P) (ob : Obj) : Kq n P W (A.putObj l ob) :=
 h.grown hP hn (grownBy_putObj' A l ob) (fun q e => by cases e; exact ⟨hl, hne⟩)
theorem set_block {W : World} {b o k : Nat} {u : Value} (h : b ≠ k) : (W.setCell ⟨b, o, none⟩ u).heap[k]? = W.heap[k]? := by
 unfold World.setCell
 simp [Array.getElem?_modify, h]
theorem row_zero {w : World} {base g c : Nat} {pre : List MArm} {Z x : MArm} (h : ARow w base (.slice (some ⟨g, 0, none⟩) (pre.length + 1) c) (pre ++ [Z])) (hx : AOk w base x) (hp : x.vals.Pairwise Aside) (hap : ∀ y ∈ Value.slice (some ⟨g, 0, none⟩) (pre.length + 1) c :: aVals pre, ∀ u ∈ x.vals, Aside y u) :
  ARow ((((((w.setCell ⟨g, pre.length * 6, none⟩ (.int .i64 x.net.kind)).setCell ⟨g, pre.length * 6 + 1, none⟩ (.int .i64 x.net.op)).setCell ⟨g, pre.length * 6 + 2, none⟩ x.net.av).setCell ⟨g, pre.length * 6 + 3, none⟩ x.net.kv).setCell ⟨g, pre.length * 6 + 4, none⟩ x.cv).setCell ⟨g, pre.length * 6 + 5, none⟩ x.kv) base (.slice (some ⟨g, 0, none⟩) (pre.length + 1) c) (pre ++ [x]) := by
 have e0 : (pre ++ [Z]).length = pre.length + 1 := by simp
 have e1 : (pre ++ [Z]).set pre.length x = pre ++ [x] := by simp
 have h2 := ARow.stored (m := x) (i := pre.length) (by rw [e0]; exact h) (by rw [e0]; omega) hx (by
  rw [e1, e0, aVals_append, aVals_one, List.pairwise_cons]
  have hz := h.2.2
  rw [aVals_append, aVals_one, List.pairwise_cons] at hz
  refine ⟨fun y hy => ?_, List.pairwise_append.2 ⟨(List.pairwise_append.1 hz.2).1, hp, fun y hy u hu => hap y (List.mem_cons_of_mem _ hy) u hu⟩⟩
  rcases List.mem_append.1 hy with hy | hy
  ·exact hz.1 y (List.mem_append_left _ hy)
  ·exact hap _ (List.mem_cons_self ..) y hy)
 rw [e1, e0] at h2
 exact h2
theorem stepIn_raw_arms {F : Fence} {n : Nat} {ops : Array Oper} {o : Oper} {a : Act} {w : World} {K : Act → World → Prop} {Q : Exit → Act → World → Prop} {E : Prop}
  (hg : o.guard = none) (s x : Operand) (hop : o.op = .call { callee := .builtin .append, args := #[s, x], argTypes := #[39, 39] })
  (base : Nat) (ra : Option Addr) (rc : Nat) (ms : List MArm) (k : MArm) (ad : Addr) (hs : a.eval s = .slice ra ms.length rc) (hx : a.eval x = .slice (some ad) 1 1)
  (hrow : ARow w base (.slice ra ms.length rc) ms) (hxs : ∀ j u, (aCells [k])[j]? = some u → w.cell? (ad.add j) = some u) (hk : AOk w base k)
  (hp : (Value.slice ra ms.length rc :: (aVals ms ++ aVals [k])).Pairwise Aside) (hl : ms.length + 1 ≤ 1000000) (hbase : base ≤ w.heap.size)
  (hK : ∀ g c' w', ARow w' base (.slice (some ⟨g, 0, none⟩) (ms.length + 1) c') (ms ++ [k]) → w.grownBy w' (Value.slice ra ms.length rc).ownBlock → ((Value.slice ra ms.length rc).ownBlock = some g ∨ w.heap.size = g) → K (a.put o.dst (.slice (some ⟨g, 0, none⟩) (ms.length + 1) c')) w') :
  if Region.wanted o (yielded ops a.tmps) = true then Oper.wpIn F n Tryz.prog o a w K Q else E := by
 obtain ⟨i0, hi, hz0, hz1, hz2⟩ := info_parts info_Arm
 have hw : Region.wanted o (yielded ops a.tmps) = true := by simp [Region.wanted, hg]
 rw [if_pos hw]
 obtain ⟨v', w', hr, h2, h3, _, h5⟩ := run_append_own_at (P := Tryz.prog) w base 39 o.type 80 i0 _ 6 112 Tryz.underlying39 hi hz0 hz1 hz2 rfl (by decide) _ ms.length (aCells ms) hrow.1 ad 1 1 (aCells [k]) (aCells_len [k]) hxs (aCells_one' (fun m hm => by rw [List.mem_singleton.1 hm]; exact hk)) (by unfold maxLen; omega) (by omega) hbase
 have hA : ARow w' base v' (ms ++ [k]) := hrow.add (fun m hm => by rw [List.mem_singleton.1 hm]; exact hk) hp h2 h3 h5
 obtain ⟨g, c, hv, _⟩ := ownsRow_cells h2 (by omega)
 subst hv
 unfold Oper.wpIn
 refine ⟨by simp [Oper.about, hop, resolve, Target.leads, Sem.run_pure], ?_⟩
 rw [Oper.semAt_plain F _ _ (by rw [hop]; intro c hc'; cases hc')]
 simp [execOp, hop, resolve, invoke, builtin, hs, hx, hr, Result.andThen]
 have hb : (Value.slice (some ⟨g, 0, none⟩) (ms.length + 1) c).ownBlock = some g := rfl
 rw [hb] at h5
 exact hK g c w' hA h3 (h5.elim (fun e => .inl e.symm) (fun e => .inr (Option.some.inj e).symm))
theorem row_cells {w : World} {base g c : Nat} {pre : List MArm} (h : ARow w base (.slice (some ⟨g, 0, none⟩) (pre.length + 1) c) (pre ++ [(rowArm (.slice none 0 0) [])])) : (∀ j u, (aCells (pre ++ [(rowArm (.slice none 0 0) [])]))[j]? = some u → w.cell? ⟨g, j, none⟩ = some u) ∧ (∀ j, j < (pre.length + 1) * 6 → w.frozen? ⟨g, j, none⟩ = false) ∧ base ≤ g ∧ g < w.heap.size := by
 have e0 : (pre ++ [(rowArm (.slice none 0 0) [])]).length = pre.length + 1 := by simp
 have h1 := h.1
 rw [e0] at h1
 obtain ⟨g', cap', hv, hb, hlt, _, hcell⟩ := ownsRow_cells h1 (by omega)
 simp only [Value.slice.injEq, Option.some.injEq, Addr.mk.injEq, and_true, true_and] at hv
 obtain ⟨rfl, rfl⟩ := hv
 refine ⟨hcell, fun j hj => ?_, hb, hlt⟩
 rcases h1.2 with ⟨h2, _⟩ | ⟨g2, c2, cur, h2, _, h3, _⟩
 ·cases h2
 ·simp only [Value.slice.injEq, Option.some.injEq, Addr.mk.injEq, and_true, true_and] at h2
  obtain ⟨rfl, rfl⟩ := h2
  simp [World.frozen?, h3]
set_option maxHeartbeats 1000000 in
theorem i_mkRungs (a : Option Addr) (ln cap : Nat) (w : World) : Calls Tryz.prog 70 #[.slice a ln cap] w fun e w' => e = .returned (.func (.func 100) #[] #[.pointer (some ⟨w.heap.size, 0, none⟩)]) ∧ w'.cell? ⟨w.heap.size, 0, none⟩ = some (.slice a ln cap) ∧ w.heap.size < w'.heap.size ∧ Below w.heap.size w w' := by
 have hmf : ∀ (fn : Fn) (first cap : Array Value) (w : World), (Instr.makeFunc fn first cap).run Tryz.prog w = .ok (.func fn first cap) w := fun _ _ _ _ => rfl
 go_enter Tryz.func70, Tryz.ntmps70
 go_wp2
 go_ret
 exact ⟨rfl, by simp [go_sem], by simp, blA⟩
end Go.Proofs.YtpaljcoojkbhnaaGreatDoor
