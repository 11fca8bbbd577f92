/- The laws' copies of nets, in memory of their own. -/
import Derived.Test.YtpaljcoojkbhnaaGreatDoorGl
import Derived.OneCell
namespace Go.Proofs.YtpaljcoojkbhnaaGreatDoor
open Go.RowKit Go.Sort Go.BigFrame
/-- A net is answered that owns its memory. -/
def NetRet (w : World) (base : Nat) (n : Stil.Net) (e : Ending) : Prop := ∃ (k op : Int) (ds : List Stil.Dev) (a1 : Option Addr) (c1 : Nat) (a2 : Option Addr) (c2 : Nat) (ms : List MNet), e = .returned (.agg #[.int .i64 k, .int .i64 op, .slice a1 ds.length c1, .slice a2 ms.length c2]) ∧
 MOwn w base ⟨k, op, ds, .slice a1 ds.length c1, .slice a2 ms.length c2, ms⟩ ∧ (MNet.mk k op ds (.slice a1 ds.length c1) (.slice a2 ms.length c2) ms).net = n
theorem MOk.set {w : World} {base : Nat} {m : MNet} (h : MOk w base m) {a : Addr} (ha : a.block < base) (u : Value) : MOk (w.setCell a u) base m := MOk.map m h (fun _ _ _ _ _ _ ho => ownsRow_setCell_below ho ha u)
theorem MOk.set4 {w : World} {base b o1 o2 o3 o4 : Nat} {m : MNet} {u1 u2 u3 u4 : Value} (h : MOk w base m) (hb : b < base) : MOk ((((w.setCell ⟨b, o1, none⟩ u1).setCell ⟨b, o2, none⟩ u2).setCell ⟨b, o3, none⟩ u3).setCell ⟨b, o4, none⟩ u4) base m :=
 MOk.set (MOk.set (MOk.set (MOk.set h (a := ⟨b, o1, none⟩) hb u1) (a := ⟨b, o2, none⟩) hb u2) (a := ⟨b, o3, none⟩) hb u3) (a := ⟨b, o4, none⟩) hb u4
end Go.Proofs.YtpaljcoojkbhnaaGreatDoor
/- A net that was answered: what is known of it, kept behind marks elsewhere. -/
namespace Stil
theorem norm_fits (n : Net) : netFits n → netSize n ≤ 1048576 → netFits (normNet n) := by
 refine net_ind (fun n => netFits n → netSize n ≤ 1048576 → netFits (normNet n)) ?_ n
 intro k e kids ih hf hs
 obtain ⟨hk, he, hl, hkids⟩ := (netFits_eq _ _ _).1 hf
 obtain ⟨hs1, hs2⟩ := kids_sizes hs
 have hm : ∀ x ∈ kids.map normNet, netFits x := by
  intro x hx
  obtain ⟨y, hy, rfl⟩ := List.mem_map.1 hx
  exact ih y hy (hkids y hy) (hs2 y hy)
 rw [normNet_eq]
 split
 ·have hF : ∀ x ∈ flatKids k (kids.map normNet), netFits x := by
   intro x hx
   obtain ⟨y, hy, hx⟩ := List.mem_flatMap.1 hx
   have hfy := hm y hy
   split at hx
   ·exact (netFits_parts hfy).2.2.2 x hx
   ·rw [List.mem_singleton.1 hx]; exact hfy
  have hFl : (flatKids k (kids.map normNet)).length ≤ 1048576 := by
   have h1 := len_sizes (flatKids k (kids.map normNet))
   have h2 := flatKids_sizes k (kids.map normNet)
   omega
  unfold blockOf
  split
  ·exact hF _ (List.getElem_mem _)
  ·rw [netFits_eq]
   exact ⟨hk, ⟨⟨by simp, by simp⟩, by simp, (fun d hd => by cases hd)⟩, hFl, hF⟩
 ·rw [netFits_eq]
  exact ⟨hk, he, by simpa using hl, hm⟩
theorem normTop_fits {n : Net} (h : netFits n) : netFits (normTop n) ∧ netSize (normTop n) ≤ 401 := by
 unfold normTop
 split
 ·refine ⟨?_, by rw [netSize_eq]; simp⟩
  rw [netFits_eq]
  exact ⟨⟨by simp, by simp⟩, ⟨⟨by simp, by simp⟩, by simp, (fun d hd => by cases hd)⟩, by simp, (fun x hx => by cases hx)⟩
 ·rename_i h2
  have h3 := normNet_size n
  exact ⟨norm_fits n h (by omega), by omega⟩
end Stil
namespace Go.Proofs.YtpaljcoojkbhnaaGreatDoor
open Go.RowKit Go.Sort Go.BigFrame
end Go.Proofs.YtpaljcoojkbhnaaGreatDoor
/- An append of nets to a row of nets, in a region; boxes of nets. -/
namespace Go.Proofs.YtpaljcoojkbhnaaGreatDoor
open Go.RowKit Go.Sort Go.BigFrame
theorem mCells_one' {w : World} {base : Nat} {ks : List MNet} (hk : ∀ m ∈ ks, MOk w base m) : ∀ u ∈ mCells ks, u.oneCell' = true := by
 intro u hu
 obtain ⟨m, hm, hu⟩ := List.mem_flatMap.1 hu
 have h := (MOk_iff w base m).1 (hk m hm)
 obtain ⟨a1, c1, e1⟩ := slice_of_owns h.1
 obtain ⟨a2, c2, e2⟩ := slice_of_owns h.2.1
 simp only [MNet.cells, List.mem_cons, List.mem_nil_iff, or_false] at hu
 rcases hu with rfl | rfl | rfl | rfl
 ·rfl
 ·rfl
 ·rw [e1]; rfl
 ·rw [e2]; rfl
theorem step_append_nets {ops : Array Oper} {o : Oper} {a : Act} {w : World} {K : Act → World → Prop} {Q : Exit → Act → World → Prop} {E : Prop}
  (hg : o.guard = none) (s x : Operand) (hop : o.op = .call { callee := .builtin .append, args := #[s, x], argTypes := #[27, 27] })
  (base : Nat) (ra : Option Addr) (rc : Nat) (ms ks : List MNet) (ad : Option Addr) (c : Nat) (hs : a.eval s = .slice ra ms.length rc) (hx : a.eval x = .slice ad ks.length c)
  (hrow : MRow w base (.slice ra ms.length rc) ms) (hxs : 0 < ks.length → ∃ p, ad = some p ∧ ∀ j u, (mCells ks)[j]? = some u → w.cell? (p.add j) = some u)
  (hk : ∀ m ∈ ks, MOk w base m) (hp : (Value.slice ra ms.length rc :: (mVals ms ++ mVals ks)).Pairwise Aside) (hl : ms.length + ks.length ≤ 1000000) (hbase : base ≤ w.heap.size)
  (hK : ∀ a' c' w', MRow w' base (.slice a' (ms.length + ks.length) c') (ms ++ ks) → Below base w w' → K (a.put o.dst (.slice a' (ms.length + ks.length) c')) w') :
  if Region.wanted o (yielded ops a.tmps) = true then Oper.wp Tryz.prog o a w K Q else E := by
 obtain ⟨i0, hi, hz0, hz1, hz2⟩ := info_parts info_Net
 by_cases hd : ks.length = 0
 ·have hn : ks = [] := List.length_eq_zero_iff.1 hd
  subst hn
  have hw : Region.wanted o (yielded ops a.tmps) = true := by simp [Region.wanted, hg]
  rw [if_pos hw]
  have hcap : ms.length ≤ rc := by
   rcases hrow.1.2 with ⟨h0, h1⟩ | ⟨g, c', cur, h0, _, _, hnc, _⟩
   ·rw [h1]; exact Nat.zero_le _
   ·simp only [Value.slice.injEq] at h0
    rw [h0.2.2]; exact hnc
  have hk2 := hK ra rc w (by simpa using hrow) (Below.refl _ _)
  simp only [List.length_nil, Nat.add_zero] at hk2 hx
  unfold Oper.wp execOp
  cases ad
  ·have e : Sem.run Tryz.prog (Builtin.append_ #[27, 27] o.type #[.slice ra ms.length rc, .slice none 0 c]) w = .ok (.slice ra ms.length rc) w := by cases ra <;> simp [Builtin.append_, go_sem, hcap]
   simp only [hop, resolve, invoke, builtin, Sem.run_bind, Sem.run_pure, Result.andThen_ok, List.map_toArray, List.map_cons, List.map_nil, hs, hx, e]
   exact hk2
  ·rename_i t1
   have e : Sem.run Tryz.prog (Builtin.append_ #[27, 27] o.type #[.slice ra ms.length rc, .slice (some t1) 0 c]) w = .ok (.slice ra ms.length rc) w := by cases ra <;> simp [Builtin.append_, go_sem, hcap]
   simp only [hop, resolve, invoke, builtin, Sem.run_bind, Sem.run_pure, Result.andThen_ok, List.map_toArray, List.map_cons, List.map_nil, hs, hx, e]
   exact hk2
 ·obtain ⟨p, rfl, hcs⟩ := hxs (by omega)
  refine step_append_at hg s x _ hop base 29 i0 _ 4 64 Tryz.underlying27 hi hz0 hz1 hz2 rfl (by decide) _ _ (mCells ms) hs hrow.1 _ _ _ (mCells ks) hx (mCells_len ks) hcs (mCells_one' hk) (by unfold maxLen; omega) (by omega) hbase ?_
  intro v' w' h1 h2 h3
  obtain ⟨a6, c6, hv6⟩ := slice_of_owns h1
  subst hv6
  exact hK a6 c6 w' (hrow.add hk hp h1 h2 h3) ((Below.refl _ _).grown h2 hbase (fun j hj => (hrow.1.lt j hj).1))
theorem wpList_append_nets {ops : Array Oper} {rest : List Oper} {o : Oper} {a : Act} {w : World} {Q : Exit → Act → World → Prop}
  (hg : o.guard = none) (s x : Operand) (hop : o.op = .call { callee := .builtin .append, args := #[s, x], argTypes := #[27, 27] })
  (base : Nat) (ra : Option Addr) (rc : Nat) (ms ks : List MNet) (ad : Option Addr) (c : Nat) (hs : a.eval s = .slice ra ms.length rc) (hx : a.eval x = .slice ad ks.length c)
  (hrow : MRow w base (.slice ra ms.length rc) ms) (hxs : 0 < ks.length → ∃ p, ad = some p ∧ ∀ j u, (mCells ks)[j]? = some u → w.cell? (p.add j) = some u)
  (hk : ∀ m ∈ ks, MOk w base m) (hp : (Value.slice ra ms.length rc :: (mVals ms ++ mVals ks)).Pairwise Aside) (hl : ms.length + ks.length ≤ 1000000) (hbase : base ≤ w.heap.size)
  (h : ∀ a' c' w', MRow w' base (.slice a' (ms.length + ks.length) c') (ms ++ ks) → Below base w w' → wpList Tryz.prog ops Q rest (a.put o.dst (.slice a' (ms.length + ks.length) c')) w') :
  wpList Tryz.prog ops Q (o :: rest) a w := by
 refine wpList_plain hg fun K hK => ?_
 have hw : Region.wanted o (yielded #[] a.tmps) = true := by simp [Region.wanted, hg]
 have := step_append_nets (ops := #[]) (K := K) (Q := Q) (E := True) hg s x hop base ra rc ms ks ad c hs hx hrow hxs hk hp hl hbase (fun a' c' w' h1 h2 => hK _ _ (h a' c' w' h1 h2))
 rwa [if_pos hw] at this
/-- A row of one. -/
theorem MRow.single {w : World} {base : Nat} {m : MNet} (h : MOwn w base m) (hb : base ≤ w.heap.size) : MRow (w.alloc (.cells #[.int .i64 m.kind, .int .i64 m.op, m.av, m.kv] 29)) base (.slice (some ⟨w.heap.size, 0, none⟩) 1 1) [m] := by
 refine ⟨?_, fun x hx => ?_, ?_⟩
 ·exact World.ownsRow_lit w #[.int .i64 m.kind, .int .i64 m.op, m.av, m.kv] 1 hb (by unfold maxLen; omega) rfl
 ·rw [List.mem_singleton.1 hx]; exact h.1.below (below_alloc _ _)
 ·rw [mVals_one, List.pairwise_cons]
  refine ⟨fun y hy => (aside_new (n := w.heap.size) (fun k hk => (h.1.lt m y hy k hk).2) (fun k hk => ?_)).symm, h.2⟩
  have e : w.heap.size = k := by simpa [Value.ownBlock] using hk
  omega
theorem frozenS {W : World} {p q : Addr} {v : Value} : (W.setCell p v).frozen? q = W.frozen? q := by simp [go_sem]
theorem cells4 {W : World} {u0 u1 u2 u3 : Value} {t : TypeId} : ∀ j u, [u0, u1, u2, u3][j]? = some u → (W.alloc (.cells #[u0, u1, u2, u3] t)).cell? ((⟨W.heap.size, 0, none⟩ : Addr).add j) = some u := by
 intro j u h
 rw [Addr.add_lit]
 match j, h with
 | 0, h => simp at h; subst h; simp [go_sem]
 | 1, h => simp at h; subst h; simp [go_sem]
 | 2, h => simp at h; subst h; simp [go_sem]
 | 3, h => simp at h; subst h; simp [go_sem]
 | j + 4, h => simp at h
/-- A net in a variable. -/
def B4 (w : World) (b : Nat) (v0 v1 v2 v3 : Value) : Prop := b < w.heap.size ∧ (w.cell? ⟨b, 0, none⟩ = some v0 ∧ w.cell? ⟨b, 1, none⟩ = some v1 ∧ w.cell? ⟨b, 2, none⟩ = some v2 ∧ w.cell? ⟨b, 3, none⟩ = some v3) ∧
 w.frozen? ⟨b, 0, none⟩ = false ∧ w.frozen? ⟨b, 1, none⟩ = false ∧ w.frozen? ⟨b, 2, none⟩ = false ∧ w.frozen? ⟨b, 3, none⟩ = false
theorem B4.below {w w' : World} {n b : Nat} {v0 v1 v2 v3 : Value} (h : B4 w b v0 v1 v2 v3) (hb : Below n w w') (hn : b < n) : B4 w' b v0 v1 v2 v3 := by
 obtain ⟨h0, ⟨c0, c1, c2, c3⟩, f0, f1, f2, f3⟩ := h
 refine ⟨Nat.lt_of_lt_of_le h0 hb.size, ⟨(hb.cell (p := ⟨b, 0, none⟩) hn).trans c0, (hb.cell (p := ⟨b, 1, none⟩) hn).trans c1, (hb.cell (p := ⟨b, 2, none⟩) hn).trans c2, (hb.cell (p := ⟨b, 3, none⟩) hn).trans c3⟩, ?_⟩
 exact ⟨(hb.frozen (p := ⟨b, 0, none⟩) hn).trans f0, (hb.frozen (p := ⟨b, 1, none⟩) hn).trans f1, (hb.frozen (p := ⟨b, 2, none⟩) hn).trans f2, (hb.frozen (p := ⟨b, 3, none⟩) hn).trans f3⟩
theorem B4.set3 {w : World} {b : Nat} {v0 v1 v2 v3 : Value} (h : B4 w b v0 v1 v2 v3) (u : Value) : B4 (w.setCell ⟨b, 3, none⟩ u) b v0 v1 v2 u := by
 obtain ⟨h0, ⟨c0, c1, c2, c3⟩, f0, f1, f2, f3⟩ := h
 exact ⟨Nat.lt_of_lt_of_le h0 (sizeSet _ _ _), ⟨(cellSetOff (by omega)).trans c0, (cellSetOff (by omega)).trans c1, (cellSetOff (by omega)).trans c2, cellSetAt c3⟩, frozenS.trans f0, frozenS.trans f1, frozenS.trans f2, frozenS.trans f3⟩
theorem B4.setO {w : World} {b c o : Nat} {v0 v1 v2 v3 : Value} (h : B4 w b v0 v1 v2 v3) (hc : b ≠ c) (u : Value) : B4 (w.setCell ⟨c, o, none⟩ u) b v0 v1 v2 v3 := by
 obtain ⟨h0, ⟨c0, c1, c2, c3⟩, f0, f1, f2, f3⟩ := h
 exact ⟨Nat.lt_of_lt_of_le h0 (sizeSet _ _ _), ⟨(cellSetOther hc).trans c0, (cellSetOther hc).trans c1, (cellSetOther hc).trans c2, (cellSetOther hc).trans c3⟩, frozenS.trans f0, frozenS.trans f1, frozenS.trans f2, frozenS.trans f3⟩
end Go.Proofs.YtpaljcoojkbhnaaGreatDoor
/- The specification's chapter 4: the normal form of one net: a contact. -/
namespace Go.Proofs.YtpaljcoojkbhnaaGreatDoor
open Go.RowKit Go.Sort Go.BigFrame
theorem aside_nils (av x : Value) (hx : x ∈ Value.slice none 0 0 :: mVals []) : Aside av x := by
 rcases List.mem_cons.1 hx with rfl | hx
 ·exact (aside_nil _).symm
 ·cases hx
end Go.Proofs.YtpaljcoojkbhnaaGreatDoor
/- Y7a, Y7b: texts put together. -/
/- Appends of nets, what grows told; nets that lie low. -/
namespace Go.Proofs.YtpaljcoojkbhnaaGreatDoor
open Go.RowKit Go.Sort Go.BigFrame
theorem ownsRow_low {w w' : World} {base lo s n : Nat} {e : TypeId} {v : Value} {xs : List Value} (h : w.ownsRow base e s v n xs) (hb : Below lo w w') (hv : ∀ k, v.ownBlock = some k → k < lo) : w'.ownsRow base e s v n xs := by
 obtain ⟨h1, h2⟩ := h
 refine ⟨h1, ?_⟩
 rcases h2 with h2 | ⟨g, cap, cur, hv', hg, hh, r⟩
 ·exact .inl h2
 ·exact .inr ⟨g, cap, cur, hv', hg, (hb.block g (hv g (by rw [hv']; rfl))).trans hh, r⟩
theorem MOk.low {w w' : World} {base lo : Nat} {m : MNet} (h : MOk w base m) (hb : Below lo w w') (hv : ∀ x ∈ m.vals, ∀ k, x.ownBlock = some k → k < lo) : MOk w' base m := MOk.map m h (fun _ _ _ _ _ hx ho => ownsRow_low ho hb (hv _ hx))
theorem step_grow_nets {ops : Array Oper} {o : Oper} {a : Act} {w : World} {K : Act → World → Prop} {Q : Exit → Act → World → Prop} {E : Prop}
  (hg : o.guard = none) (s x : Operand) (hop : o.op = .call { callee := .builtin .append, args := #[s, x], argTypes := #[27, 27] })
  (base lo : Nat) (ra : Option Addr) (rc : Nat) (ms ks : List MNet) (ad : Option Addr) (c : Nat) (hs : a.eval s = .slice ra ms.length rc) (hx : a.eval x = .slice ad ks.length c)
  (hrow : MRow w base (.slice ra ms.length rc) ms) (hxs : 0 < ks.length → ∃ p, ad = some p ∧ ∀ j u, (mCells ks)[j]? = some u → w.cell? (p.add j) = some u)
  (hk : ∀ m ∈ ks, MOk w base m) (hp : (Value.slice ra ms.length rc :: (mVals ms ++ mVals ks)).Pairwise Aside) (hl : ms.length + ks.length ≤ 1000000) (hbase : base ≤ w.heap.size) (hlo : lo ≤ w.heap.size) (hvl : ∀ k, (Value.slice ra ms.length rc).ownBlock = some k → lo ≤ k)
  (hK : ∀ a' c' w', MRow w' base (.slice a' (ms.length + ks.length) c') (ms ++ ks) → Below lo w w' → (∀ k, (Value.slice a' (ms.length + ks.length) c').ownBlock = some k → lo ≤ k) → K (a.put o.dst (.slice a' (ms.length + ks.length) c')) w') :
  if Region.wanted o (yielded ops a.tmps) = true then Oper.wp Tryz.prog o a w K Q else E := by
 obtain ⟨i0, hi, hz0, hz1, hz2⟩ := info_parts info_Net
 by_cases hd : ks.length = 0
 ·have hn : ks = [] := List.length_eq_zero_iff.1 hd
  subst hn
  have hw : Region.wanted o (yielded ops a.tmps) = true := by simp [Region.wanted, hg]
  rw [if_pos hw]
  have hcap : ms.length ≤ rc := by
   rcases hrow.1.2 with ⟨h0, h1⟩ | ⟨g, c', cur, h0, _, _, hnc, _⟩
   ·rw [h1]; exact Nat.zero_le _
   ·simp only [Value.slice.injEq] at h0
    rw [h0.2.2]; exact hnc
  have hk2 := hK ra rc w (by simpa using hrow) (Below.refl _ _) (by simpa using hvl)
  simp only [List.length_nil, Nat.add_zero] at hk2 hx
  unfold Oper.wp execOp
  cases ad
  ·have e : Sem.run Tryz.prog (Builtin.append_ #[27, 27] o.type #[.slice ra ms.length rc, .slice none 0 c]) w = .ok (.slice ra ms.length rc) w := by cases ra <;> simp [Builtin.append_, go_sem, hcap]
   simp only [hop, resolve, invoke, builtin, Sem.run_bind, Sem.run_pure, Result.andThen_ok, List.map_toArray, List.map_cons, List.map_nil, hs, hx, e]
   exact hk2
  ·rename_i t1
   have e : Sem.run Tryz.prog (Builtin.append_ #[27, 27] o.type #[.slice ra ms.length rc, .slice (some t1) 0 c]) w = .ok (.slice ra ms.length rc) w := by cases ra <;> simp [Builtin.append_, go_sem, hcap]
   simp only [hop, resolve, invoke, builtin, Sem.run_bind, Sem.run_pure, Result.andThen_ok, List.map_toArray, List.map_cons, List.map_nil, hs, hx, e]
   exact hk2
 ·obtain ⟨p, rfl, hcs⟩ := hxs (by omega)
  refine step_append_at hg s x _ hop base 29 i0 _ 4 64 Tryz.underlying27 hi hz0 hz1 hz2 rfl (by decide) _ _ (mCells ms) hs hrow.1 _ _ _ (mCells ks) hx (mCells_len ks) hcs (mCells_one' hk) (by unfold maxLen; omega) (by omega) hbase ?_
  intro v' w' h1 h2 h3
  obtain ⟨a6, c6, hv6⟩ := slice_of_owns h1
  subst hv6
  refine hK a6 c6 w' (hrow.add hk hp h1 h2 h3) ((Below.refl _ _).grown h2 hlo hvl) (fun k hk2 => ?_)
  rcases h3 with e | e
  ·exact hvl k (by rw [← e]; exact hk2)
  ·rw [e] at hk2
   cases hk2
   exact hlo
theorem wpList_grow_nets {ops : Array Oper} {rest : List Oper} {o : Oper} {a : Act} {w : World} {Q : Exit → Act → World → Prop}
  (hg : o.guard = none) (s x : Operand) (hop : o.op = .call { callee := .builtin .append, args := #[s, x], argTypes := #[27, 27] })
  (base lo : Nat) (ra : Option Addr) (rc : Nat) (ms ks : List MNet) (ad : Option Addr) (c : Nat) (hs : a.eval s = .slice ra ms.length rc) (hx : a.eval x = .slice ad ks.length c)
  (hrow : MRow w base (.slice ra ms.length rc) ms) (hxs : 0 < ks.length → ∃ p, ad = some p ∧ ∀ j u, (mCells ks)[j]? = some u → w.cell? (p.add j) = some u)
  (hk : ∀ m ∈ ks, MOk w base m) (hp : (Value.slice ra ms.length rc :: (mVals ms ++ mVals ks)).Pairwise Aside) (hl : ms.length + ks.length ≤ 1000000) (hbase : base ≤ w.heap.size) (hlo : lo ≤ w.heap.size) (hvl : ∀ k, (Value.slice ra ms.length rc).ownBlock = some k → lo ≤ k)
  (h : ∀ a' c' w', MRow w' base (.slice a' (ms.length + ks.length) c') (ms ++ ks) → Below lo w w' → (∀ k, (Value.slice a' (ms.length + ks.length) c').ownBlock = some k → lo ≤ k) → wpList Tryz.prog ops Q rest (a.put o.dst (.slice a' (ms.length + ks.length) c')) w') :
  wpList Tryz.prog ops Q (o :: rest) a w := by
 refine wpList_plain hg fun K hK => ?_
 have hw : Region.wanted o (yielded #[] a.tmps) = true := by simp [Region.wanted, hg]
 have := step_grow_nets (ops := #[]) (K := K) (Q := Q) (E := True) hg s x hop base lo ra rc ms ks ad c hs hx hrow hxs hk hp hl hbase hlo hvl (fun a' c' w' h1 h2 h3 => hK _ _ (h a' c' w' h1 h2 h3))
 rwa [if_pos hw] at this
end Go.Proofs.YtpaljcoojkbhnaaGreatDoor
