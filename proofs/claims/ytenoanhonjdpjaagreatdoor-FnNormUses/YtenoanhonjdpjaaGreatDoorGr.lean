/- Z6, Z6b, Z6c, Z7a: texts put together. -/
import Derived.Test.YtenoanhonjdpjaaGreatDoorGq
import Derived.Test.YtenoanhonjdpjaaGreatDoorGm
/- The laws' copies of coils and arms, in memory of their own. -/
namespace Go.Proofs.YtenoanhonjdpjaaGreatDoor
open Go.RowKit Go.Sort Go.BigFrame
/-- An arm is answered that owns its memory. -/
def ArmRet (w : World) (base : Nat) (a : Stil.Arm) (e : Ending) : Prop := ∃ (k op : Int) (ds : List Stil.Dev) (a1 : Option Addr) (c1 : Nat) (ns : List MNet) (a2 : Option Addr) (c2 : Nat) (cs : List MElem) (a3 : Option Addr) (c3 : Nat) (ks : List MArm) (a4 : Option Addr) (c4 : Nat), e = .returned (.agg #[.int .i64 k, .int .i64 op, .slice a1 ds.length c1, .slice a2 ns.length c2, .slice a3 cs.length c3, .slice a4 ks.length c4]) ∧ AOwn w base ⟨⟨k, op, ds, .slice a1 ds.length c1, .slice a2 ns.length c2, ns⟩, .slice a3 cs.length c3, cs, .slice a4 ks.length c4, ks⟩ ∧ (MArm.mk ⟨k, op, ds, .slice a1 ds.length c1, .slice a2 ns.length c2, ns⟩ (.slice a3 cs.length c3) cs (.slice a4 ks.length c4) ks).arm = a
theorem eCells_one' {w : World} {base : Nat} {ks : List MElem} (hk : ∀ m ∈ ks, EOk w base m) : ∀ u ∈ eCells ks, u.oneCell' = true := by
 intro u hu
 obtain ⟨m, hm, hu⟩ := List.mem_flatMap.1 hu
 obtain ⟨a1, c1, e1⟩ := slice_of_owns (hk m hm)
 simp only [MElem.cells, List.mem_cons, List.mem_nil_iff, or_false] at hu
 rcases hu with rfl | rfl
 ·rfl
 ·rw [e1]; rfl
theorem aCells_one' {w : World} {base : Nat} {ks : List MArm} (hk : ∀ m ∈ ks, AOk w base m) : ∀ u ∈ aCells ks, u.oneCell' = true := by
 intro u hu
 obtain ⟨m, hm, hu⟩ := List.mem_flatMap.1 hu
 obtain ⟨h1, ⟨h2, _⟩, h3, _⟩ := (AOk_iff w base m).1 (hk m hm)
 have h1' := (MOk_iff w base m.net).1 h1
 obtain ⟨a1, c1, e1⟩ := slice_of_owns h1'.1
 obtain ⟨a2, c2, e2⟩ := slice_of_owns h1'.2.1
 obtain ⟨a3, c3, e3⟩ := slice_of_owns h2
 obtain ⟨a4, c4, e4⟩ := slice_of_owns h3
 simp only [MArm.cells, List.mem_cons, List.mem_nil_iff, or_false] at hu
 rcases hu with rfl | rfl | rfl | rfl | rfl | rfl
 ·rfl
 ·rfl
 ·rw [e1]; rfl
 ·rw [e2]; rfl
 ·rw [e3]; rfl
 ·rw [e4]; rfl
theorem step_grow_elems {ops : Array Oper} {o : Oper} {a : Act} {w : World} {K : Act → World → Prop} {Q : Exit → Act → World → Prop} {E : Prop}
  (hg : o.guard = none) (s x : Operand) (hop : o.op = .call { callee := .builtin .append, args := #[s, x], argTypes := #[34, 34] })
  (base lo : Nat) (ra : Option Addr) (rc : Nat) (ms ks : List MElem) (ad : Option Addr) (c : Nat) (hs : a.eval s = .slice ra ms.length rc) (hx : a.eval x = .slice ad ks.length c)
  (hrow : ERow w base (.slice ra ms.length rc) ms) (hxs : 0 < ks.length → ∃ p, ad = some p ∧ ∀ j u, (eCells ks)[j]? = some u → w.cell? (p.add j) = some u)
  (hk : ∀ m ∈ ks, EOk w base m) (hp : (Value.slice ra ms.length rc :: (eVals ms ++ eVals ks)).Pairwise Aside) (hl : ms.length + ks.length ≤ 1000000) (hbase : base ≤ w.heap.size) (hlo : lo ≤ w.heap.size) (hvl : ∀ k, (Value.slice ra ms.length rc).ownBlock = some k → lo ≤ k)
  (hK : ∀ a' c' w', ERow w' base (.slice a' (ms.length + ks.length) c') (ms ++ ks) → Below lo w w' → (∀ k, (Value.slice a' (ms.length + ks.length) c').ownBlock = some k → lo ≤ k) → K (a.put o.dst (.slice a' (ms.length + ks.length) c')) w') :
  if Region.wanted o (yielded ops a.tmps) = true then Oper.wp Tryz.prog o a w K Q else E := by
 obtain ⟨i0, hi, hz0, hz1, hz2⟩ := info_parts info_Elem
 by_cases hd : ks.length = 0
 ·have hn : ks = [] := List.length_eq_zero_iff.1 hd
  subst hn
  have hw : Region.wanted o (yielded ops a.tmps) = true := by simp [Region.wanted, hg]
  rw [if_pos hw]
  have hcap : ms.length ≤ rc := by
   rcases hrow.1.2 with ⟨h0, h1⟩ | ⟨g, c', cur, h0, _, _, hnc, _⟩
   ·rw [h1]; exact Nat.zero_le _
   ·simp only [Value.slice.injEq] at h0
    rw [h0.2.2]; exact hnc
  have hk2 := hK ra rc w (by simpa using hrow) (Below.refl _ _) (by simpa using hvl)
  simp only [List.length_nil, Nat.add_zero] at hk2 hx
  unfold Oper.wp execOp
  cases ad
  ·have e : Sem.run Tryz.prog (Builtin.append_ #[34, 34] o.type #[.slice ra ms.length rc, .slice none 0 c]) w = .ok (.slice ra ms.length rc) w := by cases ra <;> simp [Builtin.append_, go_sem, hcap]
   simp only [hop, resolve, invoke, builtin, Sem.run_bind, Sem.run_pure, Result.andThen_ok, List.map_toArray, List.map_cons, List.map_nil, hs, hx, e]
   exact hk2
  ·rename_i t1
   have e : Sem.run Tryz.prog (Builtin.append_ #[34, 34] o.type #[.slice ra ms.length rc, .slice (some t1) 0 c]) w = .ok (.slice ra ms.length rc) w := by cases ra <;> simp [Builtin.append_, go_sem, hcap]
   simp only [hop, resolve, invoke, builtin, Sem.run_bind, Sem.run_pure, Result.andThen_ok, List.map_toArray, List.map_cons, List.map_nil, hs, hx, e]
   exact hk2
 ·obtain ⟨p, rfl, hcs⟩ := hxs (by omega)
  refine step_append_at hg s x _ hop base 30 i0 _ 2 32 Tryz.underlying34 hi hz0 hz1 hz2 rfl (by decide) _ _ (eCells ms) hs hrow.1 _ _ _ (eCells ks) hx (eCells_len ks) hcs (eCells_one' hk) (by unfold maxLen; omega) (by omega) hbase ?_
  intro v' w' h1 h2 h3
  obtain ⟨a6, c6, hv6⟩ := slice_of_owns h1
  subst hv6
  refine hK a6 c6 w' (hrow.add hk hp h1 h2 h3) ((Below.refl _ _).grown h2 hlo hvl) (fun k hk2 => ?_)
  rcases h3 with e | e
  ·exact hvl k (by rw [← e]; exact hk2)
  ·rw [e] at hk2
   cases hk2
   exact hlo
theorem wpList_grow_elems {ops : Array Oper} {rest : List Oper} {o : Oper} {a : Act} {w : World} {Q : Exit → Act → World → Prop}
  (hg : o.guard = none) (s x : Operand) (hop : o.op = .call { callee := .builtin .append, args := #[s, x], argTypes := #[34, 34] })
  (base lo : Nat) (ra : Option Addr) (rc : Nat) (ms ks : List MElem) (ad : Option Addr) (c : Nat) (hs : a.eval s = .slice ra ms.length rc) (hx : a.eval x = .slice ad ks.length c)
  (hrow : ERow w base (.slice ra ms.length rc) ms) (hxs : 0 < ks.length → ∃ p, ad = some p ∧ ∀ j u, (eCells ks)[j]? = some u → w.cell? (p.add j) = some u)
  (hk : ∀ m ∈ ks, EOk w base m) (hp : (Value.slice ra ms.length rc :: (eVals ms ++ eVals ks)).Pairwise Aside) (hl : ms.length + ks.length ≤ 1000000) (hbase : base ≤ w.heap.size) (hlo : lo ≤ w.heap.size) (hvl : ∀ k, (Value.slice ra ms.length rc).ownBlock = some k → lo ≤ k)
  (h : ∀ a' c' w', ERow w' base (.slice a' (ms.length + ks.length) c') (ms ++ ks) → Below lo w w' → (∀ k, (Value.slice a' (ms.length + ks.length) c').ownBlock = some k → lo ≤ k) → wpList Tryz.prog ops Q rest (a.put o.dst (.slice a' (ms.length + ks.length) c')) w') :
  wpList Tryz.prog ops Q (o :: rest) a w := by
 refine wpList_plain hg fun K hK => ?_
 have hw : Region.wanted o (yielded #[] a.tmps) = true := by simp [Region.wanted, hg]
 have := step_grow_elems (ops := #[]) (K := K) (Q := Q) (E := True) hg s x hop base lo ra rc ms ks ad c hs hx hrow hxs hk hp hl hbase hlo hvl (fun a' c' w' h1 h2 h3 => hK _ _ (h a' c' w' h1 h2 h3))
 rwa [if_pos hw] at this
theorem step_grow_arms {ops : Array Oper} {o : Oper} {a : Act} {w : World} {K : Act → World → Prop} {Q : Exit → Act → World → Prop} {E : Prop}
  (hg : o.guard = none) (s x : Operand) (hop : o.op = .call { callee := .builtin .append, args := #[s, x], argTypes := #[23, 23] })
  (base lo : Nat) (ra : Option Addr) (rc : Nat) (ms ks : List MArm) (ad : Option Addr) (c : Nat) (hs : a.eval s = .slice ra ms.length rc) (hx : a.eval x = .slice ad ks.length c)
  (hrow : ARow w base (.slice ra ms.length rc) ms) (hxs : 0 < ks.length → ∃ p, ad = some p ∧ ∀ j u, (aCells ks)[j]? = some u → w.cell? (p.add j) = some u)
  (hk : ∀ m ∈ ks, AOk w base m) (hp : (Value.slice ra ms.length rc :: (aVals ms ++ aVals ks)).Pairwise Aside) (hl : ms.length + ks.length ≤ 1000000) (hbase : base ≤ w.heap.size) (hlo : lo ≤ w.heap.size) (hvl : ∀ k, (Value.slice ra ms.length rc).ownBlock = some k → lo ≤ k)
  (hK : ∀ a' c' w', ARow w' base (.slice a' (ms.length + ks.length) c') (ms ++ ks) → Below lo w w' → (∀ k, (Value.slice a' (ms.length + ks.length) c').ownBlock = some k → lo ≤ k) → K (a.put o.dst (.slice a' (ms.length + ks.length) c')) w') :
  if Region.wanted o (yielded ops a.tmps) = true then Oper.wp Tryz.prog o a w K Q else E := by
 obtain ⟨i0, hi, hz0, hz1, hz2⟩ := info_parts info_Arm
 by_cases hd : ks.length = 0
 ·have hn : ks = [] := List.length_eq_zero_iff.1 hd
  subst hn
  have hw : Region.wanted o (yielded ops a.tmps) = true := by simp [Region.wanted, hg]
  rw [if_pos hw]
  have hcap : ms.length ≤ rc := by
   rcases hrow.1.2 with ⟨h0, h1⟩ | ⟨g, c', cur, h0, _, _, hnc, _⟩
   ·rw [h1]; exact Nat.zero_le _
   ·simp only [Value.slice.injEq] at h0
    rw [h0.2.2]; exact hnc
  have hk2 := hK ra rc w (by simpa using hrow) (Below.refl _ _) (by simpa using hvl)
  simp only [List.length_nil, Nat.add_zero] at hk2 hx
  unfold Oper.wp execOp
  cases ad
  ·have e : Sem.run Tryz.prog (Builtin.append_ #[23, 23] o.type #[.slice ra ms.length rc, .slice none 0 c]) w = .ok (.slice ra ms.length rc) w := by cases ra <;> simp [Builtin.append_, go_sem, hcap]
   simp only [hop, resolve, invoke, builtin, Sem.run_bind, Sem.run_pure, Result.andThen_ok, List.map_toArray, List.map_cons, List.map_nil, hs, hx, e]
   exact hk2
  ·rename_i t1
   have e : Sem.run Tryz.prog (Builtin.append_ #[23, 23] o.type #[.slice ra ms.length rc, .slice (some t1) 0 c]) w = .ok (.slice ra ms.length rc) w := by cases ra <;> simp [Builtin.append_, go_sem, hcap]
   simp only [hop, resolve, invoke, builtin, Sem.run_bind, Sem.run_pure, Result.andThen_ok, List.map_toArray, List.map_cons, List.map_nil, hs, hx, e]
   exact hk2
 ·obtain ⟨p, rfl, hcs⟩ := hxs (by omega)
  refine step_append_at hg s x _ hop base 36 i0 _ 6 112 Tryz.underlying23 hi hz0 hz1 hz2 rfl (by decide) _ _ (aCells ms) hs hrow.1 _ _ _ (aCells ks) hx (aCells_len ks) hcs (aCells_one' hk) (by unfold maxLen; omega) (by omega) hbase ?_
  intro v' w' h1 h2 h3
  obtain ⟨a6, c6, hv6⟩ := slice_of_owns h1
  subst hv6
  refine hK a6 c6 w' (hrow.add hk hp h1 h2 h3) ((Below.refl _ _).grown h2 hlo hvl) (fun k hk2 => ?_)
  rcases h3 with e | e
  ·exact hvl k (by rw [← e]; exact hk2)
  ·rw [e] at hk2
   cases hk2
   exact hlo
theorem wpList_grow_arms {ops : Array Oper} {rest : List Oper} {o : Oper} {a : Act} {w : World} {Q : Exit → Act → World → Prop}
  (hg : o.guard = none) (s x : Operand) (hop : o.op = .call { callee := .builtin .append, args := #[s, x], argTypes := #[23, 23] })
  (base lo : Nat) (ra : Option Addr) (rc : Nat) (ms ks : List MArm) (ad : Option Addr) (c : Nat) (hs : a.eval s = .slice ra ms.length rc) (hx : a.eval x = .slice ad ks.length c)
  (hrow : ARow w base (.slice ra ms.length rc) ms) (hxs : 0 < ks.length → ∃ p, ad = some p ∧ ∀ j u, (aCells ks)[j]? = some u → w.cell? (p.add j) = some u)
  (hk : ∀ m ∈ ks, AOk w base m) (hp : (Value.slice ra ms.length rc :: (aVals ms ++ aVals ks)).Pairwise Aside) (hl : ms.length + ks.length ≤ 1000000) (hbase : base ≤ w.heap.size) (hlo : lo ≤ w.heap.size) (hvl : ∀ k, (Value.slice ra ms.length rc).ownBlock = some k → lo ≤ k)
  (h : ∀ a' c' w', ARow w' base (.slice a' (ms.length + ks.length) c') (ms ++ ks) → Below lo w w' → (∀ k, (Value.slice a' (ms.length + ks.length) c').ownBlock = some k → lo ≤ k) → wpList Tryz.prog ops Q rest (a.put o.dst (.slice a' (ms.length + ks.length) c')) w') :
  wpList Tryz.prog ops Q (o :: rest) a w := by
 refine wpList_plain hg fun K hK => ?_
 have hw : Region.wanted o (yielded #[] a.tmps) = true := by simp [Region.wanted, hg]
 have := step_grow_arms (ops := #[]) (K := K) (Q := Q) (E := True) hg s x hop base lo ra rc ms ks ad c hs hx hrow hxs hk hp hl hbase hlo hvl (fun a' c' w' h1 h2 h3 => hK _ _ (h a' c' w' h1 h2 h3))
 rwa [if_pos hw] at this
end Go.Proofs.YtenoanhonjdpjaaGreatDoor
