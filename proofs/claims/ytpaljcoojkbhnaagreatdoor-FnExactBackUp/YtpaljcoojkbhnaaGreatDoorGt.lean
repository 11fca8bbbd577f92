/- The specification's chapter 4: the normal form of one net: a NetNot. -/
import Derived.Test.YtpaljcoojkbhnaaGreatDoorGm
import Derived.Test.YtpaljcoojkbhnaaGreatDoorGq
import Derived.Test.YtpaljcoojkbhnaaGreatDoorGO
import Derived.Test.YtpaljcoojkbhnaaGreatDoorGp
import Derived.Deep.RegionHeld3
namespace Go.Proofs.YtpaljcoojkbhnaaGreatDoor
open Go.RowKit Go.Sort Go.BigFrame
end Go.Proofs.YtpaljcoojkbhnaaGreatDoor
/- Z6, Z6b, Z6c, Z7a: texts put together. -/
/- The laws' copies of coils and arms, in memory of their own. -/
namespace Go.Proofs.YtpaljcoojkbhnaaGreatDoor
open Go.RowKit Go.Sort Go.BigFrame
/-- An arm is answered that owns its memory. -/
def ArmRet (w : World) (base : Nat) (a : Stil.Arm) (e : Ending) : Prop := ∃ (k op : Int) (ds : List Stil.Dev) (a1 : Option Addr) (c1 : Nat) (ns : List MNet) (a2 : Option Addr) (c2 : Nat) (cs : List MElem) (a3 : Option Addr) (c3 : Nat) (ks : List MArm) (a4 : Option Addr) (c4 : Nat), e = .returned (.agg #[.int .i64 k, .int .i64 op, .slice a1 ds.length c1, .slice a2 ns.length c2, .slice a3 cs.length c3, .slice a4 ks.length c4]) ∧ AOwn w base ⟨⟨k, op, ds, .slice a1 ds.length c1, .slice a2 ns.length c2, ns⟩, .slice a3 cs.length c3, cs, .slice a4 ks.length c4, ks⟩ ∧ (MArm.mk ⟨k, op, ds, .slice a1 ds.length c1, .slice a2 ns.length c2, ns⟩ (.slice a3 cs.length c3) cs (.slice a4 ks.length c4) ks).arm = a
theorem eCells_one' {w : World} {base : Nat} {ks : List MElem} (hk : ∀ m ∈ ks, EOk w base m) : ∀ u ∈ eCells ks, u.oneCell' = true := by
 intro u hu
 obtain ⟨m, hm, hu⟩ := List.mem_flatMap.1 hu
 obtain ⟨a1, c1, e1⟩ := slice_of_owns (hk m hm)
 simp only [MElem.cells, List.mem_cons, List.mem_nil_iff, or_false] at hu
 rcases hu with rfl | rfl
 ·rfl
 ·rw [e1]; rfl
theorem aCells_one' {w : World} {base : Nat} {ks : List MArm} (hk : ∀ m ∈ ks, AOk w base m) : ∀ u ∈ aCells ks, u.oneCell' = true := by
 intro u hu
 obtain ⟨m, hm, hu⟩ := List.mem_flatMap.1 hu
 obtain ⟨h1, ⟨h2, _⟩, h3, _⟩ := (AOk_iff w base m).1 (hk m hm)
 have h1' := (MOk_iff w base m.net).1 h1
 obtain ⟨a1, c1, e1⟩ := slice_of_owns h1'.1
 obtain ⟨a2, c2, e2⟩ := slice_of_owns h1'.2.1
 obtain ⟨a3, c3, e3⟩ := slice_of_owns h2
 obtain ⟨a4, c4, e4⟩ := slice_of_owns h3
 simp only [MArm.cells, List.mem_cons, List.mem_nil_iff, or_false] at hu
 rcases hu with rfl | rfl | rfl | rfl | rfl | rfl
 ·rfl
 ·rfl
 ·rw [e1]; rfl
 ·rw [e2]; rfl
 ·rw [e3]; rfl
 ·rw [e4]; rfl
end Go.Proofs.YtpaljcoojkbhnaaGreatDoor
/- Y7c, Y7d: texts put together. -/
/- The program's chapter 4: kids opened, one behind the other. -/
namespace Go.Proofs.YtpaljcoojkbhnaaGreatDoor
open Go.RowKit Go.Sort Go.BigFrame
end Go.Proofs.YtpaljcoojkbhnaaGreatDoor
/- Y7e, Y7f: texts put together. -/
/- The program's chapter 4: the form of each of some nets. -/
namespace Go.Proofs.YtpaljcoojkbhnaaGreatDoor
open Go.RowKit Go.Sort Go.BigFrame
end Go.Proofs.YtpaljcoojkbhnaaGreatDoor
/- The program's chapter 4: the normal form of one net. -/
namespace Go.Proofs.YtpaljcoojkbhnaaGreatDoor
open Go.RowKit Go.Sort Go.BigFrame
end Go.Proofs.YtpaljcoojkbhnaaGreatDoor
/- Z8c, Z8d, Z8a, Z8b: texts put together. -/
/- The program's chapter 4: nets in series. -/
namespace Go.Proofs.YtpaljcoojkbhnaaGreatDoor
open Go.RowKit Go.Sort Go.BigFrame
theorem cells2e {W : World} {B : Nat} (hB : B = W.heap.size) {u0 u1 : Value} {t : TypeId} : ∀ j u, [u0, u1][j]? = some u → (W.alloc (.cells #[u0, u1] t)).cell? ((⟨B, 0, none⟩ : Addr).add j) = some u := by
 subst hB
 intro j u h
 rw [Addr.add_lit]
 match j, h with
 | 0, h => simp at h; subst h; simp [go_sem]
 | 1, h => simp at h; subst h; simp [go_sem]
 | j + 2, h => simp at h
theorem ERow.apart {w w1 : World} {base : Nat} {v : Value} {es ks : List MElem} {b1 : Nat} (h : ERow w base v es) (hk : ∀ m ∈ ks, EOk w1 b1 m) (hb : w.heap.size ≤ b1) (hp : (eVals ks).Pairwise Aside) : (v :: (eVals es ++ eVals ks)).Pairwise Aside := by
 have hx := h.lt
 have hy : ∀ y ∈ eVals ks, ∀ k, y.ownBlock = some k → w.heap.size ≤ k := by
  intro y hy k hk2
  obtain ⟨m, hm, rfl⟩ := mem_eVals.1 hy
  exact Nat.le_trans hb ((hk m hm).lt k hk2).1
 have h2 := h.2.2
 rw [List.pairwise_cons] at h2 ⊢
 refine ⟨fun y hy2 => ?_, List.pairwise_append.2 ⟨h2.2, hp, fun x hx2 y hy2 => aside_new (fun k hk2 => (hx x (List.mem_cons_of_mem _ hx2) k hk2).2) (hy y hy2)⟩⟩
 rcases List.mem_append.1 hy2 with hy2 | hy2
 ·exact h2.1 y hy2
 ·exact aside_new (fun k hk2 => (hx v (by simp) k hk2).2) (hy y hy2)
end Go.Proofs.YtpaljcoojkbhnaaGreatDoor
/- Z8f, Z8e, Z9a: texts put together. -/
/- The program's chapter 4: the parts of an arm with one kid. -/
namespace Go.Proofs.YtpaljcoojkbhnaaGreatDoor
open Go.RowKit Go.Sort Go.BigFrame
theorem step_raw_elems {ops : Array Oper} {o : Oper} {a : Act} {w : World} {K : Act → World → Prop} {Q : Exit → Act → World → Prop} {E : Prop}
  (hg : o.guard = none) (s x : Operand) (hop : o.op = .call { callee := .builtin .append, args := #[s, x], argTypes := #[78, 78] })
  (base : Nat) (ra : Option Addr) (rc : Nat) (ms ks : List MElem) (ad : Option Addr) (c : Nat) (hs : a.eval s = .slice ra ms.length rc) (hx : a.eval x = .slice ad ks.length c)
  (hrow : ERow w base (.slice ra ms.length rc) ms) (hxs : 0 < ks.length → ∃ p, ad = some p ∧ ∀ j u, (eCells ks)[j]? = some u → w.cell? (p.add j) = some u)
  (hk : ∀ m ∈ ks, EOk w base m) (hp : (Value.slice ra ms.length rc :: (eVals ms ++ eVals ks)).Pairwise Aside) (hl : ms.length + ks.length ≤ 1000000) (hbase : base ≤ w.heap.size)
  (hK : ∀ a' c' w', ERow w' base (.slice a' (ms.length + ks.length) c') (ms ++ ks) → w.grownBy w' (Value.slice ra ms.length rc).ownBlock → ((Value.slice a' (ms.length + ks.length) c').ownBlock = (Value.slice ra ms.length rc).ownBlock ∨ (Value.slice a' (ms.length + ks.length) c').ownBlock = some w.heap.size) → K (a.put o.dst (.slice a' (ms.length + ks.length) c')) w') :
  if Region.wanted o (yielded ops a.tmps) = true then Oper.wp Tryz.prog o a w K Q else E := by
 obtain ⟨i0, hi, hz0, hz1, hz2⟩ := info_parts info_Elem
 by_cases hd : ks.length = 0
 ·have hn : ks = [] := List.length_eq_zero_iff.1 hd
  subst hn
  have hw : Region.wanted o (yielded ops a.tmps) = true := by simp [Region.wanted, hg]
  rw [if_pos hw]
  have hcap : ms.length ≤ rc := by
   rcases hrow.1.2 with ⟨h0, h1⟩ | ⟨g, c', cur, h0, _, _, hnc, _⟩
   ·rw [h1]; exact Nat.zero_le _
   ·simp only [Value.slice.injEq] at h0
    rw [h0.2.2]; exact hnc
  have hk2 := hK ra rc w (by simpa using hrow) (grownSelf _ _) (.inl (by simp))
  simp only [List.length_nil, Nat.add_zero] at hk2 hx
  unfold Oper.wp execOp
  cases ad
  ·have e : Sem.run Tryz.prog (Builtin.append_ #[78, 78] o.type #[.slice ra ms.length rc, .slice none 0 c]) w = .ok (.slice ra ms.length rc) w := by cases ra <;> simp [Builtin.append_, go_sem, hcap]
   simp only [hop, resolve, invoke, builtin, Sem.run_bind, Sem.run_pure, Result.andThen_ok, List.map_toArray, List.map_cons, List.map_nil, hs, hx, e]
   exact hk2
  ·rename_i t1
   have e : Sem.run Tryz.prog (Builtin.append_ #[78, 78] o.type #[.slice ra ms.length rc, .slice (some t1) 0 c]) w = .ok (.slice ra ms.length rc) w := by cases ra <;> simp [Builtin.append_, go_sem, hcap]
   simp only [hop, resolve, invoke, builtin, Sem.run_bind, Sem.run_pure, Result.andThen_ok, List.map_toArray, List.map_cons, List.map_nil, hs, hx, e]
   exact hk2
 ·obtain ⟨p, rfl, hcs⟩ := hxs (by omega)
  refine step_append_at hg s x _ hop base 26 i0 _ 2 32 Tryz.underlying78 hi hz0 hz1 hz2 rfl (by decide) _ _ (eCells ms) hs hrow.1 _ _ _ (eCells ks) hx (eCells_len ks) hcs (eCells_one' hk) (by unfold maxLen; omega) (by omega) hbase ?_
  intro v' w' h1 h2 h3
  obtain ⟨a6, c6, hv6⟩ := slice_of_owns h1
  subst hv6
  exact hK a6 c6 w' (hrow.add hk hp h1 h2 h3) h2 h3
theorem AOwn.setO {w : World} {base : Nat} {m : MArm} (h : AOwn w base m) {a : Addr} (ha : ∀ x ∈ m.vals, x.ownBlock ≠ some a.block) (u : Value) : AOwn (w.setCell a u) base m := ⟨AOk.map m h.1 (fun _ _ _ _ _ hx ho => ownsRow_setCell_other ho (ha _ hx) u), h.2⟩
theorem AOwn.setO6 {w : World} {base b o1 o2 o3 o4 o5 o6 : Nat} {m : MArm} {u1 u2 u3 u4 u5 u6 : Value} (h : AOwn w base m) (hb : ∀ x ∈ m.vals, x.ownBlock ≠ some b) : AOwn ((((((w.setCell ⟨b, o1, none⟩ u1).setCell ⟨b, o2, none⟩ u2).setCell ⟨b, o3, none⟩ u3).setCell ⟨b, o4, none⟩ u4).setCell ⟨b, o5, none⟩ u5).setCell ⟨b, o6, none⟩ u6) base m :=
 AOwn.setO (AOwn.setO (AOwn.setO (AOwn.setO (AOwn.setO (AOwn.setO h (a := ⟨b, o1, none⟩) hb u1) (a := ⟨b, o2, none⟩) hb u2) (a := ⟨b, o3, none⟩) hb u3) (a := ⟨b, o4, none⟩) hb u4) (a := ⟨b, o5, none⟩) hb u5) (a := ⟨b, o6, none⟩) hb u6
def B6 (w : World) (b : Nat) (v0 v1 v2 v3 v4 v5 : Value) : Prop := b < w.heap.size ∧ (w.cell? ⟨b, 0, none⟩ = some v0 ∧ w.cell? ⟨b, 1, none⟩ = some v1 ∧ w.cell? ⟨b, 2, none⟩ = some v2 ∧ w.cell? ⟨b, 3, none⟩ = some v3 ∧ w.cell? ⟨b, 4, none⟩ = some v4 ∧ w.cell? ⟨b, 5, none⟩ = some v5) ∧ ∀ o, o < 6 → w.frozen? ⟨b, o, none⟩ = false
theorem B6.below {w w' : World} {n b : Nat} {v0 v1 v2 v3 v4 v5 : Value} (h : B6 w b v0 v1 v2 v3 v4 v5) (hb : Below n w w') (hn : b < n) : B6 w' b v0 v1 v2 v3 v4 v5 := by
 obtain ⟨h0, ⟨c0, c1, c2, c3, c4, c5⟩, f⟩ := h
 refine ⟨Nat.lt_of_lt_of_le h0 hb.size, ⟨(hb.cell (p := ⟨b, 0, none⟩) hn).trans c0, (hb.cell (p := ⟨b, 1, none⟩) hn).trans c1, (hb.cell (p := ⟨b, 2, none⟩) hn).trans c2, (hb.cell (p := ⟨b, 3, none⟩) hn).trans c3, (hb.cell (p := ⟨b, 4, none⟩) hn).trans c4, (hb.cell (p := ⟨b, 5, none⟩) hn).trans c5⟩, fun o ho => (hb.frozen (p := ⟨b, o, none⟩) hn).trans (f o ho)⟩
theorem B6.at {w w' : World} {b : Nat} {v0 v1 v2 v3 v4 v5 : Value} (h : B6 w b v0 v1 v2 v3 v4 v5) (hb : Below w.heap.size w w') : B6 w' b v0 v1 v2 v3 v4 v5 := h.below hb h.1
theorem B6.grown {w w' : World} {b : Nat} {r : Option Nat} {v0 v1 v2 v3 v4 v5 : Value} (h : B6 w b v0 v1 v2 v3 v4 v5) (hg : w.grownBy w' r) (hne : r ≠ some b) : B6 w' b v0 v1 v2 v3 v4 v5 := by
 obtain ⟨h0, ⟨c0, c1, c2, c3, c4, c5⟩, f⟩ := h
 exact ⟨Nat.lt_of_lt_of_le h0 hg.size, ⟨(grownO_cell hg h0 hne).trans c0, (grownO_cell hg h0 hne).trans c1, (grownO_cell hg h0 hne).trans c2, (grownO_cell hg h0 hne).trans c3, (grownO_cell hg h0 hne).trans c4, (grownO_cell hg h0 hne).trans c5⟩, fun o ho => (grownO_frozen hg h0 hne).trans (f o ho)⟩
theorem B6.setO {w : World} {b c o : Nat} {v0 v1 v2 v3 v4 v5 : Value} (h : B6 w b v0 v1 v2 v3 v4 v5) (hc : b ≠ c) (u : Value) : B6 (w.setCell ⟨c, o, none⟩ u) b v0 v1 v2 v3 v4 v5 := by
 obtain ⟨h0, ⟨c0, c1, c2, c3, c4, c5⟩, f⟩ := h
 exact ⟨Nat.lt_of_lt_of_le h0 (sizeSet _ _ _), ⟨(cellSetOther hc).trans c0, (cellSetOther hc).trans c1, (cellSetOther hc).trans c2, (cellSetOther hc).trans c3, (cellSetOther hc).trans c4, (cellSetOther hc).trans c5⟩, fun o ho => frozenS.trans (f o ho)⟩
theorem B6.set4 {w : World} {b : Nat} {v0 v1 v2 v3 v4 v5 : Value} (h : B6 w b v0 v1 v2 v3 v4 v5) (u : Value) : B6 (w.setCell ⟨b, 4, none⟩ u) b v0 v1 v2 v3 u v5 := by
 obtain ⟨h0, ⟨c0, c1, c2, c3, c4, c5⟩, f⟩ := h
 exact ⟨Nat.lt_of_lt_of_le h0 (sizeSet _ _ _), ⟨(cellSetOff (by omega)).trans c0, (cellSetOff (by omega)).trans c1, (cellSetOff (by omega)).trans c2, (cellSetOff (by omega)).trans c3, cellSetAt c4, (cellSetOff (by omega)).trans c5⟩, fun o ho => frozenS.trans (f o ho)⟩
theorem B6.set5 {w : World} {b : Nat} {v0 v1 v2 v3 v4 v5 : Value} (h : B6 w b v0 v1 v2 v3 v4 v5) (u : Value) : B6 (w.setCell ⟨b, 5, none⟩ u) b v0 v1 v2 v3 v4 u := by
 obtain ⟨h0, ⟨c0, c1, c2, c3, c4, c5⟩, f⟩ := h
 exact ⟨Nat.lt_of_lt_of_le h0 (sizeSet _ _ _), ⟨(cellSetOff (by omega)).trans c0, (cellSetOff (by omega)).trans c1, (cellSetOff (by omega)).trans c2, (cellSetOff (by omega)).trans c3, (cellSetOff (by omega)).trans c4, cellSetAt c5⟩, fun o ho => frozenS.trans (f o ho)⟩
theorem B6.new (w : World) (v0 v1 v2 v3 v4 v5 : Value) (t : TypeId) : B6 (w.alloc (.cells #[v0, v1, v2, v3, v4, v5] t)) w.heap.size v0 v1 v2 v3 v4 v5 := by
 refine ⟨by simp, ⟨?_, ?_, ?_, ?_, ?_, ?_⟩, fun o _ => ?_⟩ <;> simp [go_sem]
/-- The arm m in the variable b. -/
def BoxA (w : World) (b : Nat) (m : MArm) : Prop := B6 w b (.int .i64 m.net.kind) (.int .i64 m.net.op) m.net.av m.net.kv m.cv m.kv
end Go.Proofs.YtpaljcoojkbhnaaGreatDoor
