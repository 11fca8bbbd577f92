/- Appends of nets, what grows told; nets that lie low. -/
import Derived.Test.YthhfnncehfkbfaaDoorY6a
namespace Go.Proofs.YthhfnncehfkbfaaDoor
open Go.RowKit Go.Sort Go.BigFrame
theorem ownsRow_low {w w' : World} {base lo s n : Nat} {e : TypeId} {v : Value} {xs : List Value} (h : w.ownsRow base e s v n xs) (hb : Below lo w w') (hv : ∀ k, v.ownBlock = some k → k < lo) : w'.ownsRow base e s v n xs := by
  obtain ⟨h1, h2⟩ := h
  refine ⟨h1, ?_⟩
  rcases h2 with h2 | ⟨g, cap, cur, hv', hg, hh, r⟩
  · exact .inl h2
  · exact .inr ⟨g, cap, cur, hv', hg, (hb.block g (hv g (by rw [hv']; rfl))).trans hh, r⟩
theorem MOk.low {w w' : World} {base lo : Nat} {m : MNet} (h : MOk w base m) (hb : Below lo w w') (hv : ∀ x ∈ m.vals, ∀ k, x.ownBlock = some k → k < lo) : MOk w' base m := MOk.map m h (fun _ _ _ _ _ hx ho => ownsRow_low ho hb (hv _ hx))
theorem step_grow_nets {ops : Array Oper} {o : Oper} {a : Act} {w : World} {K : Act → World → Prop} {Q : Exit → Act → World → Prop} {E : Prop}
    (hg : o.guard = none) (s x : Operand) (hop : o.op = .call { callee := .builtin .append, args := #[s, x], argTypes := #[32, 32] })
    (base lo : Nat) (ra : Option Addr) (rc : Nat) (ms ks : List MNet) (ad : Option Addr) (c : Nat) (hs : a.eval s = .slice ra ms.length rc) (hx : a.eval x = .slice ad ks.length c)
    (hrow : MRow w base (.slice ra ms.length rc) ms) (hxs : 0 < ks.length → ∃ p, ad = some p ∧ ∀ j u, (mCells ks)[j]? = some u → w.cell? (p.add j) = some u)
    (hk : ∀ m ∈ ks, MOk w base m) (hp : (Value.slice ra ms.length rc :: (mVals ms ++ mVals ks)).Pairwise Aside) (hl : ms.length + ks.length ≤ 1000000) (hbase : base ≤ w.heap.size) (hlo : lo ≤ w.heap.size) (hvl : ∀ k, (Value.slice ra ms.length rc).ownBlock = some k → lo ≤ k)
    (hK : ∀ a' c' w', MRow w' base (.slice a' (ms.length + ks.length) c') (ms ++ ks) → Below lo w w' → (∀ k, (Value.slice a' (ms.length + ks.length) c').ownBlock = some k → lo ≤ k) → K (a.put o.dst (.slice a' (ms.length + ks.length) c')) w') :
    if Region.wanted o (yielded ops a.tmps) = true then Oper.wp Tryd.prog o a w K Q else E := by
  obtain ⟨i0, hi, hz0, hz1, hz2⟩ := info_parts info_Net
  by_cases hd : ks.length = 0
  · have hn : ks = [] := List.length_eq_zero_iff.1 hd
    subst hn
    have hw : Region.wanted o (yielded ops a.tmps) = true := by simp [Region.wanted, hg]
    rw [if_pos hw]
    have hcap : ms.length ≤ rc := by
      rcases hrow.1.2 with ⟨h0, h1⟩ | ⟨g, c', cur, h0, _, _, hnc, _⟩
      · rw [h1]; exact Nat.zero_le _
      · simp only [Value.slice.injEq] at h0
        rw [h0.2.2]; exact hnc
    have hk2 := hK ra rc w (by simpa using hrow) (Below.refl _ _) (by simpa using hvl)
    simp only [List.length_nil, Nat.add_zero] at hk2 hx
    unfold Oper.wp execOp
    cases ad
    · have e : Sem.run Tryd.prog (Builtin.append_ #[32, 32] o.type #[.slice ra ms.length rc, .slice none 0 c]) w = .ok (.slice ra ms.length rc) w := by cases ra <;> simp [Builtin.append_, go_sem, hcap]
      simp only [hop, resolve, invoke, builtin, Sem.run_bind, Sem.run_pure, Result.andThen_ok, List.map_toArray, List.map_cons, List.map_nil, hs, hx, e]
      exact hk2
    · rename_i t1
      have e : Sem.run Tryd.prog (Builtin.append_ #[32, 32] o.type #[.slice ra ms.length rc, .slice (some t1) 0 c]) w = .ok (.slice ra ms.length rc) w := by cases ra <;> simp [Builtin.append_, go_sem, hcap]
      simp only [hop, resolve, invoke, builtin, Sem.run_bind, Sem.run_pure, Result.andThen_ok, List.map_toArray, List.map_cons, List.map_nil, hs, hx, e]
      exact hk2
  · obtain ⟨p, rfl, hcs⟩ := hxs (by omega)
    refine step_append_at hg s x _ hop base 34 i0 _ 4 64 Tryd.underlying32 hi hz0 hz1 hz2 rfl (by decide) _ _ (mCells ms) hs hrow.1 _ _ _ (mCells ks) hx (mCells_len ks) hcs (mCells_one' hk) (by unfold maxLen; omega) (by omega) hbase ?_
    intro v' w' h1 h2 h3
    obtain ⟨a6, c6, hv6⟩ := slice_of_owns h1
    subst hv6
    refine hK a6 c6 w' (hrow.add hk hp h1 h2 h3) ((Below.refl _ _).grown h2 hlo hvl) (fun k hk2 => ?_)
    rcases h3 with e | e
    · exact hvl k (by rw [← e]; exact hk2)
    · rw [e] at hk2
      cases hk2
      exact hlo
theorem wpList_grow_nets {ops : Array Oper} {rest : List Oper} {o : Oper} {a : Act} {w : World} {Q : Exit → Act → World → Prop}
    (hg : o.guard = none) (s x : Operand) (hop : o.op = .call { callee := .builtin .append, args := #[s, x], argTypes := #[32, 32] })
    (base lo : Nat) (ra : Option Addr) (rc : Nat) (ms ks : List MNet) (ad : Option Addr) (c : Nat) (hs : a.eval s = .slice ra ms.length rc) (hx : a.eval x = .slice ad ks.length c)
    (hrow : MRow w base (.slice ra ms.length rc) ms) (hxs : 0 < ks.length → ∃ p, ad = some p ∧ ∀ j u, (mCells ks)[j]? = some u → w.cell? (p.add j) = some u)
    (hk : ∀ m ∈ ks, MOk w base m) (hp : (Value.slice ra ms.length rc :: (mVals ms ++ mVals ks)).Pairwise Aside) (hl : ms.length + ks.length ≤ 1000000) (hbase : base ≤ w.heap.size) (hlo : lo ≤ w.heap.size) (hvl : ∀ k, (Value.slice ra ms.length rc).ownBlock = some k → lo ≤ k)
    (h : ∀ a' c' w', MRow w' base (.slice a' (ms.length + ks.length) c') (ms ++ ks) → Below lo w w' → (∀ k, (Value.slice a' (ms.length + ks.length) c').ownBlock = some k → lo ≤ k) → wpList Tryd.prog ops Q rest (a.put o.dst (.slice a' (ms.length + ks.length) c')) w') :
    wpList Tryd.prog ops Q (o :: rest) a w := by
  refine wpList_plain hg fun K hK => ?_
  have hw : Region.wanted o (yielded #[] a.tmps) = true := by simp [Region.wanted, hg]
  have := step_grow_nets (ops := #[]) (K := K) (Q := Q) (E := True) hg s x hop base lo ra rc ms ks ad c hs hx hrow hxs hk hp hl hbase hlo hvl (fun a' c' w' h1 h2 h3 => hK _ _ (h a' c' w' h1 h2 h3))
  rwa [if_pos hw] at this
end Go.Proofs.YthhfnncehfkbfaaDoor
