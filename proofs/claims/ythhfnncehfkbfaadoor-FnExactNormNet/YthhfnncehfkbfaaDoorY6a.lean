/- An append of nets to a row of nets, in a region; boxes of nets. -/
import Derived.Test.YthhfnncehfkbfaaDoorY5
import Derived.Test.YthhfnncehfkbfaaDoorGg
namespace Go.Proofs.YthhfnncehfkbfaaDoor
open Go.RowKit Go.Sort Go.BigFrame
theorem mCells_one' {w : World} {base : Nat} {ks : List MNet} (hk : ∀ m ∈ ks, MOk w base m) : ∀ u ∈ mCells ks, u.oneCell' = true := by
  intro u hu
  obtain ⟨m, hm, hu⟩ := List.mem_flatMap.1 hu
  have h := (MOk_iff w base m).1 (hk m hm)
  obtain ⟨a1, c1, e1⟩ := slice_of_owns h.1
  obtain ⟨a2, c2, e2⟩ := slice_of_owns h.2.1
  simp only [MNet.cells, List.mem_cons, List.mem_nil_iff, or_false] at hu
  rcases hu with rfl | rfl | rfl | rfl
  · rfl
  · rfl
  · rw [e1]; rfl
  · rw [e2]; rfl
theorem step_append_nets {ops : Array Oper} {o : Oper} {a : Act} {w : World} {K : Act → World → Prop} {Q : Exit → Act → World → Prop} {E : Prop}
    (hg : o.guard = none) (s x : Operand) (hop : o.op = .call { callee := .builtin .append, args := #[s, x], argTypes := #[32, 32] })
    (base : Nat) (ra : Option Addr) (rc : Nat) (ms ks : List MNet) (ad : Option Addr) (c : Nat) (hs : a.eval s = .slice ra ms.length rc) (hx : a.eval x = .slice ad ks.length c)
    (hrow : MRow w base (.slice ra ms.length rc) ms) (hxs : 0 < ks.length → ∃ p, ad = some p ∧ ∀ j u, (mCells ks)[j]? = some u → w.cell? (p.add j) = some u)
    (hk : ∀ m ∈ ks, MOk w base m) (hp : (Value.slice ra ms.length rc :: (mVals ms ++ mVals ks)).Pairwise Aside) (hl : ms.length + ks.length ≤ 1000000) (hbase : base ≤ w.heap.size)
    (hK : ∀ a' c' w', MRow w' base (.slice a' (ms.length + ks.length) c') (ms ++ ks) → Below base w w' → K (a.put o.dst (.slice a' (ms.length + ks.length) c')) w') :
    if Region.wanted o (yielded ops a.tmps) = true then Oper.wp Tryd.prog o a w K Q else E := by
  obtain ⟨i0, hi, hz0, hz1, hz2⟩ := info_parts info_Net
  by_cases hd : ks.length = 0
  · have hn : ks = [] := List.length_eq_zero_iff.1 hd
    subst hn
    have hw : Region.wanted o (yielded ops a.tmps) = true := by simp [Region.wanted, hg]
    rw [if_pos hw]
    have hcap : ms.length ≤ rc := by
      rcases hrow.1.2 with ⟨h0, h1⟩ | ⟨g, c', cur, h0, _, _, hnc, _⟩
      · rw [h1]; exact Nat.zero_le _
      · simp only [Value.slice.injEq] at h0
        rw [h0.2.2]; exact hnc
    have hk2 := hK ra rc w (by simpa using hrow) (Below.refl _ _)
    simp only [List.length_nil, Nat.add_zero] at hk2 hx
    unfold Oper.wp execOp
    cases ad
    · have e : Sem.run Tryd.prog (Builtin.append_ #[32, 32] o.type #[.slice ra ms.length rc, .slice none 0 c]) w = .ok (.slice ra ms.length rc) w := by cases ra <;> simp [Builtin.append_, go_sem, hcap]
      simp only [hop, resolve, invoke, builtin, Sem.run_bind, Sem.run_pure, Result.andThen_ok, List.map_toArray, List.map_cons, List.map_nil, hs, hx, e]
      exact hk2
    · rename_i t1
      have e : Sem.run Tryd.prog (Builtin.append_ #[32, 32] o.type #[.slice ra ms.length rc, .slice (some t1) 0 c]) w = .ok (.slice ra ms.length rc) w := by cases ra <;> simp [Builtin.append_, go_sem, hcap]
      simp only [hop, resolve, invoke, builtin, Sem.run_bind, Sem.run_pure, Result.andThen_ok, List.map_toArray, List.map_cons, List.map_nil, hs, hx, e]
      exact hk2
  · obtain ⟨p, rfl, hcs⟩ := hxs (by omega)
    refine step_append_at hg s x _ hop base 34 i0 _ 4 64 Tryd.underlying32 hi hz0 hz1 hz2 rfl (by decide) _ _ (mCells ms) hs hrow.1 _ _ _ (mCells ks) hx (mCells_len ks) hcs (mCells_one' hk) (by unfold maxLen; omega) (by omega) hbase ?_
    intro v' w' h1 h2 h3
    obtain ⟨a6, c6, hv6⟩ := slice_of_owns h1
    subst hv6
    exact hK a6 c6 w' (hrow.add hk hp h1 h2 h3) ((Below.refl _ _).grown h2 hbase (fun j hj => (hrow.1.lt j hj).1))
theorem wpList_append_nets {ops : Array Oper} {rest : List Oper} {o : Oper} {a : Act} {w : World} {Q : Exit → Act → World → Prop}
    (hg : o.guard = none) (s x : Operand) (hop : o.op = .call { callee := .builtin .append, args := #[s, x], argTypes := #[32, 32] })
    (base : Nat) (ra : Option Addr) (rc : Nat) (ms ks : List MNet) (ad : Option Addr) (c : Nat) (hs : a.eval s = .slice ra ms.length rc) (hx : a.eval x = .slice ad ks.length c)
    (hrow : MRow w base (.slice ra ms.length rc) ms) (hxs : 0 < ks.length → ∃ p, ad = some p ∧ ∀ j u, (mCells ks)[j]? = some u → w.cell? (p.add j) = some u)
    (hk : ∀ m ∈ ks, MOk w base m) (hp : (Value.slice ra ms.length rc :: (mVals ms ++ mVals ks)).Pairwise Aside) (hl : ms.length + ks.length ≤ 1000000) (hbase : base ≤ w.heap.size)
    (h : ∀ a' c' w', MRow w' base (.slice a' (ms.length + ks.length) c') (ms ++ ks) → Below base w w' → wpList Tryd.prog ops Q rest (a.put o.dst (.slice a' (ms.length + ks.length) c')) w') :
    wpList Tryd.prog ops Q (o :: rest) a w := by
  refine wpList_plain hg fun K hK => ?_
  have hw : Region.wanted o (yielded #[] a.tmps) = true := by simp [Region.wanted, hg]
  have := step_append_nets (ops := #[]) (K := K) (Q := Q) (E := True) hg s x hop base ra rc ms ks ad c hs hx hrow hxs hk hp hl hbase (fun a' c' w' h1 h2 => hK _ _ (h a' c' w' h1 h2))
  rwa [if_pos hw] at this
theorem wpList_append_devs {ops : Array Oper} {rest : List Oper} {o : Oper} {a : Act} {w : World} {Q : Exit → Act → World → Prop}
    (hg : o.guard = none) (s x : Operand) (hop : o.op = .call { callee := .builtin .append, args := #[s, x], argTypes := #[29, 29] })
    (base : Nat) (N : Nat) (ds : List Stil.Dev) (hs : a.eval s = .slice (some ⟨N, 0, none⟩) 0 0) (hown : w.ownsRow base 69 3 (.slice (some ⟨N, 0, none⟩) 0 0) 0 [])
    (t0 : Option Addr) (u0 : Nat) (hx : a.eval x = .slice t0 ds.length u0) (hat : DevsAt w (.slice t0 ds.length u0) ds) (hl : ds.length ≤ 1048576) (hbase : base ≤ w.heap.size)
    (h : ∀ v' w', w'.ownsRow base 69 3 v' ds.length (devsCells ds) → w.grownBy w' (some N) → wpList Tryd.prog ops Q rest (a.put o.dst v') w') :
    wpList Tryd.prog ops Q (o :: rest) a w := by
  refine wpList_plain hg fun K hK => ?_
  have hw : Region.wanted o (yielded #[] a.tmps) = true := by simp [Region.wanted, hg]
  have := step_append_devs (ops := #[]) (K := K) (Q := Q) (E := True) hg s x hop base N ds hs hown t0 u0 hx hat hl hbase (fun v' w' h1 h2 => hK _ _ (h v' w' h1 h2))
  rwa [if_pos hw] at this
/-- A row of one. -/
theorem MRow.single {w : World} {base : Nat} {m : MNet} (h : MOwn w base m) (hb : base ≤ w.heap.size) : MRow (w.alloc (.cells #[.int .i64 m.kind, .int .i64 m.op, m.av, m.kv] 34)) base (.slice (some ⟨w.heap.size, 0, none⟩) 1 1) [m] := by
  refine ⟨?_, fun x hx => ?_, ?_⟩
  · exact World.ownsRow_lit w #[.int .i64 m.kind, .int .i64 m.op, m.av, m.kv] 1 hb (by unfold maxLen; omega) rfl
  · rw [List.mem_singleton.1 hx]; exact h.1.below (below_alloc _ _)
  · rw [mVals_one, List.pairwise_cons]
    refine ⟨fun y hy => (aside_new (n := w.heap.size) (fun k hk => (h.1.lt m y hy k hk).2) (fun k hk => ?_)).symm, h.2⟩
    have e : w.heap.size = k := by simpa [Value.ownBlock] using hk
    omega
theorem frozenS {W : World} {p q : Addr} {v : Value} : (W.setCell p v).frozen? q = W.frozen? q := by simp [go_sem]
theorem cells4 {W : World} {u0 u1 u2 u3 : Value} {t : TypeId} : ∀ j u, [u0, u1, u2, u3][j]? = some u → (W.alloc (.cells #[u0, u1, u2, u3] t)).cell? ((⟨W.heap.size, 0, none⟩ : Addr).add j) = some u := by
  intro j u h
  rw [Addr.add_lit]
  match j, h with
  | 0, h => simp at h; subst h; simp [go_sem]
  | 1, h => simp at h; subst h; simp [go_sem]
  | 2, h => simp at h; subst h; simp [go_sem]
  | 3, h => simp at h; subst h; simp [go_sem]
  | j + 4, h => simp at h
/-- A net in a variable. -/
def B4 (w : World) (b : Nat) (v0 v1 v2 v3 : Value) : Prop := b < w.heap.size ∧ (w.cell? ⟨b, 0, none⟩ = some v0 ∧ w.cell? ⟨b, 1, none⟩ = some v1 ∧ w.cell? ⟨b, 2, none⟩ = some v2 ∧ w.cell? ⟨b, 3, none⟩ = some v3) ∧
  w.frozen? ⟨b, 0, none⟩ = false ∧ w.frozen? ⟨b, 1, none⟩ = false ∧ w.frozen? ⟨b, 2, none⟩ = false ∧ w.frozen? ⟨b, 3, none⟩ = false
theorem B4.below {w w' : World} {n b : Nat} {v0 v1 v2 v3 : Value} (h : B4 w b v0 v1 v2 v3) (hb : Below n w w') (hn : b < n) : B4 w' b v0 v1 v2 v3 := by
  obtain ⟨h0, ⟨c0, c1, c2, c3⟩, f0, f1, f2, f3⟩ := h
  refine ⟨Nat.lt_of_lt_of_le h0 hb.size, ⟨(hb.cell (p := ⟨b, 0, none⟩) hn).trans c0, (hb.cell (p := ⟨b, 1, none⟩) hn).trans c1, (hb.cell (p := ⟨b, 2, none⟩) hn).trans c2, (hb.cell (p := ⟨b, 3, none⟩) hn).trans c3⟩, ?_⟩
  exact ⟨(hb.frozen (p := ⟨b, 0, none⟩) hn).trans f0, (hb.frozen (p := ⟨b, 1, none⟩) hn).trans f1, (hb.frozen (p := ⟨b, 2, none⟩) hn).trans f2, (hb.frozen (p := ⟨b, 3, none⟩) hn).trans f3⟩
theorem B4.set3 {w : World} {b : Nat} {v0 v1 v2 v3 : Value} (h : B4 w b v0 v1 v2 v3) (u : Value) : B4 (w.setCell ⟨b, 3, none⟩ u) b v0 v1 v2 u := by
  obtain ⟨h0, ⟨c0, c1, c2, c3⟩, f0, f1, f2, f3⟩ := h
  exact ⟨Nat.lt_of_lt_of_le h0 (sizeSet _ _ _), ⟨(cellSetOff (by omega)).trans c0, (cellSetOff (by omega)).trans c1, (cellSetOff (by omega)).trans c2, cellSetAt c3⟩, frozenS.trans f0, frozenS.trans f1, frozenS.trans f2, frozenS.trans f3⟩
theorem B4.setO {w : World} {b c o : Nat} {v0 v1 v2 v3 : Value} (h : B4 w b v0 v1 v2 v3) (hc : b ≠ c) (u : Value) : B4 (w.setCell ⟨c, o, none⟩ u) b v0 v1 v2 v3 := by
  obtain ⟨h0, ⟨c0, c1, c2, c3⟩, f0, f1, f2, f3⟩ := h
  exact ⟨Nat.lt_of_lt_of_le h0 (sizeSet _ _ _), ⟨(cellSetOther hc).trans c0, (cellSetOther hc).trans c1, (cellSetOther hc).trans c2, (cellSetOther hc).trans c3⟩, frozenS.trans f0, frozenS.trans f1, frozenS.trans f2, frozenS.trans f3⟩
end Go.Proofs.YthhfnncehfkbfaaDoor
