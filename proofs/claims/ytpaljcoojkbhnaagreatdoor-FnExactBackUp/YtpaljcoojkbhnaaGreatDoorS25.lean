/- An arm that is being read: its box, what it owns; a coil more, a kid more. -/
import Derived.Test.YtpaljcoojkbhnaaGreatDoorS23
import Derived.Test.YtpaljcoojkbhnaaGreatDoorGw
namespace Go.Proofs.YtpaljcoojkbhnaaGreatDoor
open Go.RowKit Go.Sort Go.BigFrame
/-- An arm in the box B, since w; the answer's box is not yet written; P is the reader's block. -/
structure AS (w wc : World) (P B : Nat) (m : MArm) : Prop where
 hB : w.heap.size + 1 ≤ B
 box : BoxA wc B m
 own : AOwn wc (w.heap.size + 1) m
 off : ∀ x ∈ m.vals, x.ownBlock ≠ some B
 res : B6 wc w.heap.size (.int .i64 0) (.int .i64 0) (.slice none 0 0) (.slice none 0 0) (.slice none 0 0) (.slice none 0 0)
 gr : w.grownBy wc (some P)
theorem AOwn.grownP {w w' : World} {base P : Nat} {m : MArm} (h : AOwn w base m) (hg : w.grownBy w' (some P)) (hP : P < base) : AOwn w' base m :=
 ⟨AOk.kept (x := .slice (some ⟨P, 0, none⟩) 0 0) h.1 hg (fun u hu => .inr (fun e => by have := (h.1.lt m u hu P e).1; omega)), h.2⟩
theorem AS.grown {w wc wd : World} {P B : Nat} {m : MArm} (h : AS w wc P B m) (hP : P < w.heap.size) (hg : wc.grownBy wd (some P)) : AS w wd P B m :=
 ⟨h.hB, B6.grown h.box hg (fun e => by injection e with e; have := h.hB; omega), h.own.grownP hg (by omega), h.off, B6.grown h.res hg (fun e => by injection e with e; omega), h.gr.trans hg⟩
theorem grown_of {a b : World} (h : Below a.heap.size a b) (r : Option Nat) : a.grownBy b r := ⟨h.os, h.tape, h.output, h.size, fun k hk _ => h.block k hk⟩
theorem AS.below {w wc wd : World} {P B : Nat} {m : MArm} (h : AS w wc P B m) (hP : P < w.heap.size) (hb : Below wc.heap.size wc wd) : AS w wd P B m := h.grown hP (grown_of hb _)
/-- An arm with a coil more. -/
theorem AOwn.addCoil {w1 w6 : World} {base : Nat} {m : MArm} {c : MElem} {cv' : Value} (h : AOwn w1 base m) (hk : ∀ y ∈ m.vals, Aside c.av y) (hr : ERow w6 base cv' (m.coils ++ [c])) (hg : w1.grownBy w6 m.cv.ownBlock) (hat : cv'.ownBlock = m.cv.ownBlock ∨ cv'.ownBlock = some w1.heap.size) :
  AOwn w6 base ⟨m.net, cv', m.coils ++ [c], m.kv, m.kids⟩ ∧ ∀ x ∈ (MArm.mk m.net cv' (m.coils ++ [c]) m.kv m.kids).vals, x ∈ m.vals ∨ x = c.av ∨ x = cv' := by
 obtain ⟨h1, hp⟩ := h
 have hlt := fun x hx q hq => (h1.lt m x hx q hq).2
 obtain ⟨g1, _, g4, g5⟩ := (AOk_iff _ _ _).1 h1
 have hv : (MArm.mk m.net cv' (m.coils ++ [c]) m.kv m.kids).vals = m.net.vals ++ ((cv' :: (eVals m.coils ++ [c.av])) ++ (m.kv :: aVals m.kids)) := by rw [MArm.vals_eq]; simp only; rw [eVals_append]; rfl
 have hm : m.vals = m.net.vals ++ ((m.cv :: eVals m.coils) ++ (m.kv :: aVals m.kids)) := MArm.vals_eq _
 have mN : ∀ x ∈ m.net.vals, x ∈ m.vals := fun x hx => by rw [hm]; exact List.mem_append_left _ hx
 have mC : ∀ x ∈ m.cv :: eVals m.coils, x ∈ m.vals := fun x hx => by rw [hm]; exact List.mem_append_right _ (List.mem_append_left _ hx)
 have mK : ∀ x ∈ m.kv :: aVals m.kids, x ∈ m.vals := fun x hx => by rw [hm]; exact List.mem_append_right _ (List.mem_append_right _ hx)
 rw [hm] at hp
 obtain ⟨pN, pR, pNR⟩ := List.pairwise_append.1 hp
 obtain ⟨_, pK, pCK⟩ := List.pairwise_append.1 pR
 have nc : ∀ x ∈ m.net.vals, Aside x m.cv := fun x hx => pNR x hx _ (List.mem_append_left _ (List.mem_cons_self ..))
 have kc : ∀ x ∈ m.kv :: aVals m.kids, Aside x m.cv := fun x hx => (pCK _ (List.mem_cons_self ..) x hx).symm
 have hr2 := hr.2.2
 rw [eVals_append] at hr2
 refine ⟨⟨(AOk_iff _ _ _).2 ⟨g1.kept hg nc, ⟨hr.1, hr.2.1⟩, g4.kept hg (kc _ (List.mem_cons_self ..)), fun x hx => (g5 x hx).kept hg (fun u hu => kc u (List.mem_cons_of_mem _ (mem_aVals.2 ⟨x, hx, hu⟩)))⟩, ?_⟩, ?_⟩
 ·rw [hv]
  refine List.pairwise_append.2 ⟨pN, List.pairwise_append.2 ⟨hr2, pK, fun x hx y hy => ?_⟩, fun x hx y hy => ?_⟩
  ·rcases List.mem_cons.1 hx with rfl | hx
   ·exact (aside_of (kc y hy) (hlt y (mK y hy)) hat).symm
   rcases List.mem_append.1 hx with hx | hx
   ·exact pCK x (List.mem_cons_of_mem _ hx) y hy
   ·rw [List.mem_singleton.1 hx]
    exact hk y (mK y hy)
  ·rcases List.mem_append.1 hy with hy | hy
   ·rcases List.mem_cons.1 hy with rfl | hy
    ·exact aside_of (nc x hx) (hlt x (mN x hx)) hat
    rcases List.mem_append.1 hy with hy | hy
    ·exact pNR x hx y (List.mem_append_left _ (List.mem_cons_of_mem _ hy))
    ·rw [List.mem_singleton.1 hy]
     exact (hk x (mN x hx)).symm
   ·exact pNR x hx y (List.mem_append_right _ hy)
 ·intro x hx
  rw [hv] at hx
  rcases List.mem_append.1 hx with hx | hx
  ·exact .inl (mN x hx)
  rcases List.mem_append.1 hx with hx | hx
  ·rcases List.mem_cons.1 hx with rfl | hx
   ·exact .inr (.inr rfl)
   rcases List.mem_append.1 hx with hx | hx
   ·exact .inl (mC x (List.mem_cons_of_mem _ hx))
   ·exact .inr (.inl (List.mem_singleton.1 hx))
  ·exact .inl (mK x hx)
theorem AOwn.crow {w : World} {base : Nat} {m : MArm} (h : AOwn w base m) : ERow w base m.cv m.coils := by
 obtain ⟨h1, hp⟩ := h
 obtain ⟨_, ⟨h4, h5⟩, _, _⟩ := (AOk_iff _ _ _).1 h1
 rw [MArm.vals_eq] at hp
 exact ⟨h4, h5, (List.pairwise_append.1 (List.pairwise_append.1 hp).2.1).1⟩
/-- A coil more: from the state wA, the row grown in w6, stored. -/
theorem AS.addCoil {w wA w6 : World} {P B lo : Nat} {m : MArm} {c : MElem} {cv' : Value} (h : AS w wA P B m) (_hP : P < w.heap.size) (hlo : ∀ q, c.av.ownBlock = some q → lo ≤ q) (hlo2 : ∀ x ∈ m.vals, ∀ q, x.ownBlock = some q → q < lo) (hlB : B < lo) (hlA : lo ≤ wA.heap.size) (hr : ERow w6 (w.heap.size + 1) cv' (m.coils ++ [c])) (hg : wA.grownBy w6 m.cv.ownBlock) (hat : cv'.ownBlock = m.cv.ownBlock ∨ cv'.ownBlock = some wA.heap.size) :
  AS w (w6.setCell ⟨B, 4, none⟩ cv') P B ⟨m.net, cv', m.coils ++ [c], m.kv, m.kids⟩ := by
 have hadd := AOwn.addCoil h.own (fun y hy => (aside_new (n := lo) (hlo2 y hy) hlo).symm) hr hg hat
 have hcm : m.cv ∈ m.vals := by rw [MArm.vals_eq]; simp
 have hcB := h.off _ hcm
 have hno : ∀ x ∈ (MArm.mk m.net cv' (m.coils ++ [c]) m.kv m.kids).vals, x.ownBlock ≠ some B := by
  intro x hx e
  rcases hadd.2 x hx with h2 | h2 | h2
  ·exact h.off x h2 e
  ·rw [h2] at e; have := hlo _ e; omega
  ·rw [h2] at e
   rcases hat with h3 | h3
   ·rw [h3] at e; exact hcB e
   ·rw [h3] at e; cases e; omega
 have hB := h.hB
 refine ⟨hB, B6.set4 (B6.grown h.box hg hcB) _, AOwn.setO hadd.1 (a := ⟨B, 4, none⟩) hno _, hno, B6.setO (B6.grown h.res hg (fun e => by have := (h.own.1.lt _ _ hcm _ e).1; omega)) (by omega) _, ?_⟩
 have h2 : w.grownBy w6 (some P) := ⟨hg.os.trans h.gr.os, hg.tape.trans h.gr.tape, hg.output.trans h.gr.output, Nat.le_trans h.gr.size hg.size, fun k hk hne => (hg.block k (Nat.lt_of_lt_of_le hk h.gr.size) (fun e => by have := (h.own.1.lt _ _ hcm _ e.symm).1; omega)).trans (h.gr.block k hk hne)⟩
 refine grown_then h2 (n := w.heap.size) ?_ (Nat.le_refl _)
 exact (Below.refl _ _).setCell (p := ⟨B, 4, none⟩) (by simp only; omega) _
/-- A kid more. -/
theorem AS.addKid {w wA w6 : World} {P B lo : Nat} {m k : MArm} {kv' : Value} (h : AS w wA P B m) (_hP : P < w.heap.size) (hlo : ∀ x ∈ k.vals, ∀ q, x.ownBlock = some q → lo ≤ q) (hlo2 : ∀ x ∈ m.vals, ∀ q, x.ownBlock = some q → q < lo) (hlB : B < lo) (hlA : lo ≤ wA.heap.size) (hr : ARow w6 (w.heap.size + 1) kv' (m.kids ++ [k])) (hg : wA.grownBy w6 m.kv.ownBlock) (hat : kv'.ownBlock = m.kv.ownBlock ∨ kv'.ownBlock = some wA.heap.size) :
  AS w (w6.setCell ⟨B, 5, none⟩ kv') P B ⟨m.net, m.cv, m.coils, kv', m.kids ++ [k]⟩ := by
 have hadd := AOwn.addKid h.own (fun x hx y hy => (aside_new (n := lo) (hlo2 y hy) (hlo x hx)).symm) hr hg hat
 have hcm : m.kv ∈ m.vals := by rw [MArm.vals_eq]; simp
 have hcB := h.off _ hcm
 have hno : ∀ x ∈ (MArm.mk m.net m.cv m.coils kv' (m.kids ++ [k])).vals, x.ownBlock ≠ some B := by
  intro x hx e
  rcases hadd.2 x hx with h2 | h2 | h2
  ·exact h.off x h2 e
  ·have := hlo x h2 _ e; omega
  ·rw [h2] at e
   rcases hat with h3 | h3
   ·rw [h3] at e; exact hcB e
   ·rw [h3] at e; cases e; omega
 have hB := h.hB
 refine ⟨hB, B6.set5 (B6.grown h.box hg hcB) _, AOwn.setO hadd.1 (a := ⟨B, 5, none⟩) hno _, hno, B6.setO (B6.grown h.res hg (fun e => by have := (h.own.1.lt _ _ hcm _ e).1; omega)) (by omega) _, ?_⟩
 have h2 : w.grownBy w6 (some P) := ⟨hg.os.trans h.gr.os, hg.tape.trans h.gr.tape, hg.output.trans h.gr.output, Nat.le_trans h.gr.size hg.size, fun k hk hne => (hg.block k (Nat.lt_of_lt_of_le hk h.gr.size) (fun e => by have := (h.own.1.lt _ _ hcm _ e.symm).1; omega)).trans (h.gr.block k hk hne)⟩
 refine grown_then h2 (n := w.heap.size) ?_ (Nat.le_refl _)
 exact (Below.refl _ _).setCell (p := ⟨B, 5, none⟩) (by simp only; omega) _
/-- The arm is answered. -/
theorem AS.ret {w wc : World} {P B : Nat} {m : MArm} (h : AS w wc P B m) (u0 u1 u2 u3 u4 u5 : Value) : AOwn ((((((wc.setCell ⟨w.heap.size, 0, none⟩ u0).setCell ⟨w.heap.size, 1, none⟩ u1).setCell ⟨w.heap.size, 2, none⟩ u2).setCell ⟨w.heap.size, 3, none⟩ u3).setCell ⟨w.heap.size, 4, none⟩ u4).setCell ⟨w.heap.size, 5, none⟩ u5) w.heap.size m ∧ Below w.heap.size wc ((((((wc.setCell ⟨w.heap.size, 0, none⟩ u0).setCell ⟨w.heap.size, 1, none⟩ u1).setCell ⟨w.heap.size, 2, none⟩ u2).setCell ⟨w.heap.size, 3, none⟩ u3).setCell ⟨w.heap.size, 4, none⟩ u4).setCell ⟨w.heap.size, 5, none⟩ u5) ∧ w.grownBy ((((((wc.setCell ⟨w.heap.size, 0, none⟩ u0).setCell ⟨w.heap.size, 1, none⟩ u1).setCell ⟨w.heap.size, 2, none⟩ u2).setCell ⟨w.heap.size, 3, none⟩ u3).setCell ⟨w.heap.size, 4, none⟩ u4).setCell ⟨w.heap.size, 5, none⟩ u5) (some P) := by
 have hb : Below w.heap.size wc ((((((wc.setCell ⟨w.heap.size, 0, none⟩ u0).setCell ⟨w.heap.size, 1, none⟩ u1).setCell ⟨w.heap.size, 2, none⟩ u2).setCell ⟨w.heap.size, 3, none⟩ u3).setCell ⟨w.heap.size, 4, none⟩ u4).setCell ⟨w.heap.size, 5, none⟩ u5) :=
  (((((((Below.refl w.heap.size wc).setCell (p := ⟨w.heap.size, 0, none⟩) (Nat.le_refl _) _).setCell (p := ⟨w.heap.size, 1, none⟩) (Nat.le_refl _) _).setCell (p := ⟨w.heap.size, 2, none⟩) (Nat.le_refl _) _).setCell (p := ⟨w.heap.size, 3, none⟩) (Nat.le_refl _) _).setCell (p := ⟨w.heap.size, 4, none⟩) (Nat.le_refl _) _).setCell (p := ⟨w.heap.size, 5, none⟩) (Nat.le_refl _) _)
 exact ⟨(AOwn.setO6 h.own (fun x hx e => by have := (h.own.1.lt _ x hx _ e).1; omega)).le (Nat.le_succ _), hb, grown_then h.gr hb (Nat.le_refl _)⟩
/-- A new arm with a net alone. -/
theorem AS.new {w w1 : World} {P : Nat} {n : MNet} {t : TypeId} (hn : MOwn w1 (w.heap.size + 1) n) (hres : B6 w1 w.heap.size (.int .i64 0) (.int .i64 0) (.slice none 0 0) (.slice none 0 0) (.slice none 0 0) (.slice none 0 0)) (hg : w.grownBy w1 (some P)) :
  AS w (w1.alloc (.cells #[.int .i64 n.kind, .int .i64 n.op, n.av, n.kv, .slice none 0 0, .slice none 0 0] t)) P w1.heap.size ⟨n, .slice none 0 0, [], .slice none 0 0, []⟩ := by
 have hv : (MArm.mk n (.slice none 0 0) [] (.slice none 0 0) []).vals = n.vals ++ [.slice none 0 0, .slice none 0 0] := by rw [MArm.vals_eq]; rfl
 have hb := below_alloc w1 (.cells #[.int .i64 n.kind, .int .i64 n.op, n.av, n.kv, .slice none 0 0, .slice none 0 0] t)
 have hlt := hres.1
 refine ⟨hlt, B6.new _ _ _ _ _ _ _ _, ⟨(AOk_iff _ _ _).2 ⟨hn.1.below hb, ⟨World.ownsRow_nil _ _ _ _, (fun m hm => by cases hm)⟩, World.ownsRow_nil _ _ _ _, (fun m hm => by cases hm)⟩, ?_⟩, fun x hx e => ?_, hres.at hb, hg.trans (grown_of hb _)⟩
 ·rw [hv, List.pairwise_append]
  refine ⟨hn.2, ?_, fun x _ y hy => ?_⟩
  ·rw [List.pairwise_cons]
   exact ⟨fun y _ => aside_nil y, List.pairwise_singleton _ _⟩
  ·simp only [List.mem_cons, List.not_mem_nil, or_false, or_self] at hy
   rw [hy]
   exact (aside_nil x).symm
 ·rw [hv] at hx
  rcases List.mem_append.1 hx with hx | hx
  ·have := (hn.1.lt _ x hx _ e).2; omega
  ·simp only [List.mem_cons, List.not_mem_nil, or_false, or_self] at hx
   rw [hx] at e
   cases e
/-- A kid more, read from wk on. -/
theorem AS.kidEnd {w wk w5 w6 : World} {P B : Nat} {m K : MArm} {o : Obj} {kv' : Value} (h : AS w wk P B m) (hP : P < w.heap.size) (hg5 : wk.grownBy w5 (some P)) (hK : AOwn w5 wk.heap.size K) (hr : ARow w6 (w.heap.size + 1) kv' (m.kids ++ [K])) (hg : (w5.alloc o).grownBy w6 m.kv.ownBlock) (hat : kv'.ownBlock = m.kv.ownBlock ∨ kv'.ownBlock = some (w5.alloc o).heap.size) :
  AS w (w6.setCell ⟨B, 5, none⟩ kv') P B ⟨m.net, m.cv, m.coils, kv', m.kids ++ [K]⟩ :=
 AS.addKid (lo := wk.heap.size) ((h.grown hP hg5).below hP (below_alloc _ _)) hP (fun x hx q hq => (hK.1.lt _ x hx q hq).1) (fun x hx q hq => (h.own.1.lt _ x hx q hq).2) h.box.1 (by have := hg5.size; simp; omega) hr hg hat
/-- A coil more, copied from wk on. -/
theorem AS.coilEnd {w wk w5 w6 : World} {P B : Nat} {m : MArm} {c : MElem} {o : Obj} {cv' : Value} (h : AS w wk P B m) (hP : P < w.heap.size) (hg5 : wk.grownBy w5 (some P)) (hc : ∀ q, c.av.ownBlock = some q → wk.heap.size ≤ q) (hr : ERow w6 (w.heap.size + 1) cv' (m.coils ++ [c])) (hg : (w5.alloc o).grownBy w6 m.cv.ownBlock) (hat : cv'.ownBlock = m.cv.ownBlock ∨ cv'.ownBlock = some (w5.alloc o).heap.size) :
  AS w (w6.setCell ⟨B, 4, none⟩ cv') P B ⟨m.net, cv', m.coils ++ [c], m.kv, m.kids⟩ :=
 AS.addCoil (lo := wk.heap.size) ((h.grown hP hg5).below hP (below_alloc _ _)) hP hc (fun x hx q hq => (h.own.1.lt _ x hx q hq).2) h.box.1 (by have := hg5.size; simp; omega) hr hg hat
/-- The reader, behind what grows elsewhere. -/
theorem Rd8.grown {w0 w w' : World} {a : Option Addr} {cap : Nat} {L l : List Stil.Inst} {r : Option Nat} (h : Rd8 w0 w a cap L l) (hg : w.grownBy w' r) (hr : ∀ q, r = some q → w0.heap.size < q) : Rd8 w0 w' a cap L l := by
 have hne : r ≠ some w0.heap.size := fun e => Nat.lt_irrefl _ (hr _ e)
 exact ⟨⟨hg.os.trans h.bel.os, hg.tape.trans h.bel.tape, hg.output.trans h.bel.output, Nat.le_trans h.bel.size hg.size, fun k hk => (hg.block k (Nat.lt_trans hk h.lt) (fun e => by have := hr k e.symm; omega)).trans (h.bel.block k hk)⟩, Nat.lt_of_lt_of_le h.lt hg.size, (grownO_cell hg h.lt hne).trans h.c0, (grownO_cell hg h.lt hne).trans h.c1, (grownO_frozen hg h.lt hne).trans h.f1, h.suf⟩
theorem Rd8.setB {w0 w : World} {a : Option Addr} {cap B o : Nat} {L l : List Stil.Inst} (h : Rd8 w0 w a cap L l) (hB : w0.heap.size < B) (v : Value) : Rd8 w0 (w.setCell ⟨B, o, none⟩ v) a cap L l :=
 h.below (n := w0.heap.size + 1) ((Below.refl _ _).setCell (p := ⟨B, o, none⟩) hB _) (Nat.lt_succ_self _)
end Go.Proofs.YtpaljcoojkbhnaaGreatDoor
