/- A0, N1, A1: texts put together. -/
import Derived.Test.YthhfnncehfkbfaaDoorGT
import Derived.Maps.AppendAt
import Derived.Deep.RegionLaw
/- An append in a region, in place or anew. -/
namespace Go.Proofs.YthhfnncehfkbfaaDoor
open Go.RowKit Go.Sort Go.BigFrame
theorem step_append_at {P : Program} {ops : Array Oper} {o : Oper} {a : Act} {w : World} {K : Act → World → Prop} {Q : Exit → Act → World → Prop} {E : Prop}
    (hg : o.guard = none) (s x : Operand) (t : TypeId) (hop : o.op = .call { callee := .builtin .append, args := #[s, x], argTypes := #[t, t] })
    (base : Nat) (e : TypeId) (i : TypeInfo) (z : Value) (size bytes : Nat) (ht : P.underlying t = some (.slice e)) (hi : P.info? e = some i) (hz : i.zero = some z)
    (hsize : i.size = size) (hby : i.bytes = bytes) (hzs : z.cells.size = size) (hsz : 0 < size)
    (v : Value) (n : Nat) (xs : List Value) (hs : a.eval s = v) (hown : w.ownsRow base e size v n xs)
    (ad : Addr) (m c : Nat) (news : List Value) (hx : a.eval x = .slice (some ad) m c) (hl : news.length = m * size) (hnews : ∀ j u, news[j]? = some u → w.cell? (ad.add j) = some u) (h1 : ∀ u ∈ news, u.oneCell' = true)
    (h63 : n + m ≤ maxLen) (hbytes : (n + m) * bytes ≤ 140737488355328) (hbase : base ≤ w.heap.size)
    (hK : ∀ v' w', w'.ownsRow base e size v' (n + m) (xs ++ news) → w.grownBy w' v.ownBlock → (v'.ownBlock = v.ownBlock ∨ v'.ownBlock = some w.heap.size) → K (a.put o.dst v') w') :
    if Region.wanted o (yielded ops a.tmps) = true then Oper.wp P o a w K Q else E := by
  have hw : Region.wanted o (yielded ops a.tmps) = true := by simp [Region.wanted, hg]
  rw [if_pos hw]
  obtain ⟨v', w', hr, h2, h3, h4, h5⟩ := run_append_own_at (P := P) w base t o.type e i z size bytes ht hi hz hsize hby hzs hsz v n xs hown ad m c news hl hnews h1 h63 hbytes hbase
  unfold Oper.wp execOp
  simp only [hop, resolve, invoke, builtin, Sem.run_bind, Sem.run_pure, Result.andThen_ok, List.map_toArray, List.map_cons, List.map_nil, hs, hx, hr]
  exact hK v' w' h2 h3 h5
end Go.Proofs.YthhfnncehfkbfaaDoor
/- Contracts of the program's chapter 4: normElem, a copy in new memory. -/
namespace Go.Proofs.YthhfnncehfkbfaaDoor
open Go.RowKit Go.Sort Go.BigFrame
theorem devs_cells_at {w : World} {b o : Nat} {ds : List Stil.Dev} (h : ∀ i (h : i < ds.length), DevAt w b (o + i * 3) ds[i]) : ∀ j u, (devsCells ds)[j]? = some u → w.cell? ((⟨b, o, none⟩ : Addr).add j) = some u := by
  intro j u hu
  have hj : j < (devsCells ds).length := (List.getElem?_eq_some_iff.1 hu).1
  have hlen : (devsCells ds).length = ds.length * 3 := by
    clear hu hj h
    induction ds with
    | nil => rfl
    | cons d r ih => have e : devsCells (d :: r) = .int .i64 d.kind :: .int .i64 d.n :: .int .i64 d.p :: devsCells r := rfl; rw [e]; simp [ih]; omega
  have hi : j / 3 < ds.length := by omega
  obtain ⟨a1, a2, a3⟩ := devsCells_get ds (j / 3) hi
  obtain ⟨c1, c2, c3⟩ := h (j / 3) hi
  rw [Addr.add_lit]
  have hx : j = j / 3 * 3 ∨ j = j / 3 * 3 + 1 ∨ j = j / 3 * 3 + 2 := by omega
  rcases hx with e | e | e
  · rw [e] at hu
    rw [hu] at a1
    have e2 : o + j = o + j / 3 * 3 := by omega
    rw [e2, c1]; exact a1.symm
  · rw [e] at hu
    rw [hu] at a2
    have e2 : o + j = o + j / 3 * 3 + 1 := by omega
    rw [e2, c2]; exact a2.symm
  · rw [e] at hu
    rw [hu] at a3
    have e2 : o + j = o + j / 3 * 3 + 2 := by omega
    rw [e2, c3]; exact a3.symm
theorem grownO_cell {w w' : World} {r : Option Nat} {b o : Nat} (h : w.grownBy w' r) (hb : b < w.heap.size) (hne : r ≠ some b) : w'.cell? ⟨b, o, none⟩ = w.cell? ⟨b, o, none⟩ := by
  simp only [World.cell?, h.block b hb (fun e => hne e.symm)]
theorem grownO_frozen {w w' : World} {r : Option Nat} {b o : Nat} (h : w.grownBy w' r) (hb : b < w.heap.size) (hne : r ≠ some b) : w'.frozen? ⟨b, o, none⟩ = w.frozen? ⟨b, o, none⟩ := by
  simp only [World.frozen?, h.block b hb (fun e => hne e.symm)]
theorem slice_of_owns {w : World} {base s n : Nat} {e : TypeId} {v : Value} {xs : List Value} (h : w.ownsRow base e s v n xs) : ∃ a cap, v = .slice a n cap := by
  rcases h.2 with ⟨h0, h1⟩ | ⟨g, c, cur, h0, _⟩
  · exact ⟨none, 0, by rw [h0, h1]⟩
  · exact ⟨_, _, h0⟩
set_option maxHeartbeats 1000000 in
set_option maxRecDepth 100000 in
theorem i_normElem (op : Int) (v : Value) (ds : List Stil.Dev) (w : World) (hat : DevsAt w v ds) (hl : ds.length ≤ 1048576) :
    Calls Tryd.prog 36 #[.agg #[.int .i64 op, v]] w fun e w' => ∃ u, e = .returned (.agg #[.int .i64 op, u]) ∧ w'.ownsRow w.heap.size 69 3 u ds.length (devsCells ds) ∧ Below w.heap.size w w' := by
  obtain ⟨i0, hi, hz0, hz1, hz2⟩ := info_parts info_dev
  obtain ⟨a, cap, rfl, hc⟩ := hat
  by_cases hd : ds.length = 0
  · obtain rfl : ds = [] := List.length_eq_zero_iff.1 hd
    clear hc
    have hown : ∀ W : World, W.ownsRow w.heap.size 69 3 (.slice none 0 0) 0 [] := fun W => ⟨rfl, Or.inl ⟨rfl, rfl⟩⟩
    cases a
    all_goals
      go_enter Tryd.func36, Tryd.ntmps36
      go_upto_region 1 with fail
      go_region
      all_goals go_wp2
      all_goals exact bodyPost_ret (v := .agg #[.int .i64 op, .slice none 0 0]) (by simp [results, Tryd.results36, go_sem]) rfl ⟨_, rfl, hown _, by (repeat (first | with_reducible exact Below.refl _ _ | with_reducible assumption | with_reducible refine bl_set (by first | exact Nat.le_refl _ | (simp; done) | (simp; omega) | omega) ?_ _ | with_reducible refine bl_alloc ?_ _ | with_reducible refine bl_drewN ?_ _ | with_reducible refine bl_drew ?_ | with_reducible refine bl_grow ?_ _ _ | with_reducible refine bl_call ?_ (by assumption)))⟩
  · obtain ⟨b, o, rfl, hbl, _⟩ := hc 0 (by omega)
    have hc2 : ∀ i (h : i < ds.length), DevAt w b (o + i * 3) ds[i] := by
      intro i h
      obtain ⟨b1, o1, e1, _, h1⟩ := hc i h
      simp only [Option.some.injEq, Addr.mk.injEq, and_true] at e1
      obtain ⟨rfl, rfl⟩ := e1
      exact h1
    have HCC : Hid (∀ W, Below w.heap.size w W → ∀ j u, (devsCells ds)[j]? = some u → W.cell? ((⟨b, o, none⟩ : Addr).add j) = some u) := by
      intro W hW
      exact devs_cells_at (fun i h => (hc2 i h).below hW hbl)
    clear hc hc2
    go_enter Tryd.func36, Tryd.ntmps36
    obtain ⟨W, hW⟩ : ∃ W, W = (w.alloc (.cells #[.int .i64 op, .slice (some ⟨b, o, none⟩) ds.length cap] 31)).alloc (.cells #[.int .i64 0, .slice none 0 0] 31) := ⟨_, rfl⟩
    have hsW : W.heap.size = w.heap.size + 2 := by rw [hW]; simp
    have q0 : W.cell? ⟨w.heap.size, 0, none⟩ = some (.int .i64 op) := by rw [hW]; simp [go_sem]
    have q1 : W.cell? ⟨w.heap.size, 1, none⟩ = some (.slice (some ⟨b, o, none⟩) ds.length cap) := by rw [hW]; simp [go_sem]
    have q2 : W.cell? ⟨w.heap.size + 1, 0, none⟩ = some (.int .i64 0) := by rw [hW]; simp [go_sem]
    have q3 : W.cell? ⟨w.heap.size + 1, 1, none⟩ = some (.slice none 0 0) := by rw [hW]; simp [go_sem]
    have p2 : W.frozen? ⟨w.heap.size + 1, 0, none⟩ = false := by rw [hW]; simp [go_sem]
    have p3 : W.frozen? ⟨w.heap.size + 1, 1, none⟩ = false := by rw [hW]; simp [go_sem]
    have hbW : Below w.heap.size w W := by rw [hW]; exact bl_alloc (below_alloc _ _) _
    have HCW := HCC.out W hbW
    have HCX : Hid (∀ j u, (devsCells ds)[j]? = some u → W.cell? ((⟨b, o, none⟩ : Addr).add j) = some u) := HCW
    have HSW : Hid (W.heap.size = w.heap.size + 2) := hsW
    clear HCW
    go_upto_region 1 with fail
    rw [← hW]
    clear hW hsW HCC
    go_region_law (refine step_append_at rfl _ _ 29 rfl (w.heap.size + 2) 69 i0 (.agg #[.int .i64 0, .int .i64 0, .int .i64 0]) 3 24 Tryd.underlying29 hi hz0 hz1 hz2 rfl (by decide) (.slice none 0 0) 0 [] rfl ⟨rfl, Or.inl ⟨rfl, rfl⟩⟩ _ _ _ (devsCells ds) rfl (devsCells_length ds) (by exact HCX.out) (devsCells_one ds) (by unfold maxLen; omega) (by omega) (by have := HSW.out; simp only [World.size_drew]; omega) ?_; intro v' w6 hown6 hgr6 hat6; obtain ⟨a6, c6, hv6⟩ := slice_of_owns hown6; subst hv6; have hs6 : w.heap.size + 1 < w6.heap.size := (by have h1 := HSW.out; have h2 := hgr6.size; simp at h2; omega); have g0 : w6.cell? ⟨w.heap.size, 0, none⟩ = some (.int .i64 op) := (grownO_cell hgr6 (by have h1 := HSW.out; simp; omega) (by simp [Value.ownBlock])).trans (by simpa using q0); have g2 : w6.cell? ⟨w.heap.size + 1, 0, none⟩ = some (.int .i64 0) := (grownO_cell hgr6 (by have h1 := HSW.out; simp; omega) (by simp [Value.ownBlock])).trans (by simpa using q2); have g3 : w6.cell? ⟨w.heap.size + 1, 1, none⟩ = some (.slice none 0 0) := (grownO_cell hgr6 (by have h1 := HSW.out; simp; omega) (by simp [Value.ownBlock])).trans (by simpa using q3); have y2 : w6.frozen? ⟨w.heap.size + 1, 0, none⟩ = false := (grownO_frozen hgr6 (by have h1 := HSW.out; simp; omega) (by simp [Value.ownBlock])).trans (by simpa using p2); have y3 : w6.frozen? ⟨w.heap.size + 1, 1, none⟩ = false := (grownO_frozen hgr6 (by have h1 := HSW.out; simp; omega) (by simp [Value.ownBlock])).trans (by simpa using p3))
    all_goals go_wp2
    all_goals
      refine bodyPost_ret (v := .agg #[.int .i64 op, .slice a6 (0 + ds.length) c6]) (by simp [results, Tryd.results36, go_sem, g2, g3]) rfl ⟨_, rfl, ?_, ?_⟩
      · have h0 := ownsRow_setCell_below (a := ⟨w.heap.size + 1, 1, none⟩) (ownsRow_setCell_below (a := ⟨w.heap.size + 1, 0, none⟩) hown6 (Nat.lt_succ_self _) (.int .i64 op)) (Nat.lt_succ_self _) (.slice a6 (0 + ds.length) c6)
        have h1 := Joins.ownsRow_le h0 (show w.heap.size ≤ w.heap.size + 2 by omega)
        simpa using h1
      · have hbg : Below W.heap.size W w6 := (Below.refl W.heap.size W).drew.grown hgr6 (Nat.le_refl _) (fun k hk => by simp [Value.ownBlock] at hk)
        have hb6 : Below w.heap.size w w6 := hbW.trans (hbg.mono (by have := HSW.out; omega))
        exact (hb6.setCell (by simp) _).setCell (by simp) _
end Go.Proofs.YthhfnncehfkbfaaDoor
/- An append of operands, none or some, in a region. -/
namespace Go.Proofs.YthhfnncehfkbfaaDoor
open Go.RowKit Go.Sort Go.BigFrame
theorem grownSelf (w : World) (r : Option Nat) : w.grownBy w r := ⟨rfl, rfl, rfl, Nat.le_refl _, fun _ _ _ => rfl⟩
theorem step_append_devs {ops : Array Oper} {o : Oper} {a : Act} {w : World} {K : Act → World → Prop} {Q : Exit → Act → World → Prop} {E : Prop}
    (hg : o.guard = none) (s x : Operand) (hop : o.op = .call { callee := .builtin .append, args := #[s, x], argTypes := #[29, 29] })
    (base : Nat) (N : Nat) (ds : List Stil.Dev) (hs : a.eval s = .slice (some ⟨N, 0, none⟩) 0 0) (hown : w.ownsRow base 69 3 (.slice (some ⟨N, 0, none⟩) 0 0) 0 [])
    (t0 : Option Addr) (u0 : Nat) (hx : a.eval x = .slice t0 ds.length u0) (hat : DevsAt w (.slice t0 ds.length u0) ds) (hl : ds.length ≤ 1048576) (hbase : base ≤ w.heap.size)
    (hK : ∀ v' w', w'.ownsRow base 69 3 v' ds.length (devsCells ds) → w.grownBy w' (some N) → K (a.put o.dst v') w') :
    if Region.wanted o (yielded ops a.tmps) = true then Oper.wp Tryd.prog o a w K Q else E := by
  obtain ⟨i0, hi, hz0, hz1, hz2⟩ := info_parts info_dev
  by_cases hd : ds.length = 0
  · have hn : ds = [] := List.length_eq_zero_iff.1 hd
    subst hn
    have hw : Region.wanted o (yielded ops a.tmps) = true := by simp [Region.wanted, hg]
    rw [if_pos hw]
    have hk := hK _ w hown (grownSelf _ _)
    unfold Oper.wp execOp
    cases t0
    · have e : Sem.run Tryd.prog (Builtin.append_ #[29, 29] o.type #[.slice (some ⟨N, 0, none⟩) 0 0, .slice none 0 u0]) w = .ok (.slice (some ⟨N, 0, none⟩) 0 0) w := by simp [Builtin.append_, go_sem]
      simp only [hop, resolve, invoke, builtin, Sem.run_bind, Sem.run_pure, Result.andThen_ok, List.map_toArray, List.map_cons, List.map_nil, hs, hx, List.length_nil, e]
      exact hk
    · rename_i t1
      have e : Sem.run Tryd.prog (Builtin.append_ #[29, 29] o.type #[.slice (some ⟨N, 0, none⟩) 0 0, .slice (some t1) 0 u0]) w = .ok (.slice (some ⟨N, 0, none⟩) 0 0) w := by simp [Builtin.append_, go_sem]
      simp only [hop, resolve, invoke, builtin, Sem.run_bind, Sem.run_pure, Result.andThen_ok, List.map_toArray, List.map_cons, List.map_nil, hs, hx, List.length_nil, e]
      exact hk
  · obtain ⟨a1, c1, hv, hc⟩ := hat
    simp only [Value.slice.injEq] at hv
    obtain ⟨rfl, _, rfl⟩ := hv
    obtain ⟨b, o1, rfl, hbl, _⟩ := hc 0 (by omega)
    have hc2 : ∀ i (h : i < ds.length), DevAt w b (o1 + i * 3) ds[i] := by
      intro i h
      obtain ⟨b1, o2, e1, _, h1⟩ := hc i h
      simp only [Option.some.injEq, Addr.mk.injEq, and_true] at e1
      obtain ⟨rfl, rfl⟩ := e1
      exact h1
    refine step_append_at hg s x _ hop base 69 i0 _ 3 24 Tryd.underlying29 hi hz0 hz1 hz2 rfl (by decide) _ 0 [] hs hown _ _ _ (devsCells ds) hx (devsCells_length ds) (devs_cells_at hc2) (devsCells_one ds) (by unfold maxLen; omega) (by omega) hbase ?_
    intro v' w' h1 h2 _
    rw [Nat.zero_add, List.nil_append] at h1
    exact hK v' w' h1 h2
end Go.Proofs.YthhfnncehfkbfaaDoor
