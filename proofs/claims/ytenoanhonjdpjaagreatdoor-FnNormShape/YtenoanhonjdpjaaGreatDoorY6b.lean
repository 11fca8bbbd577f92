/- L3b,L3b1,L3b2,L3b4,L3b3,L3b5: texts put together. -/
import Derived.Test.YtenoanhonjdpjaaGreatDoorGU
import Derived.Test.YtenoanhonjdpjaaGreatDoorGl
import Derived.OneCell
import Derived.Test.YtenoanhonjdpjaaGreatDoorHg
/- Contracts of the laws' helpers for ladders: copies. -/
namespace Go.Proofs.YtenoanhonjdpjaaGreatDoor
open Go.RowKit Go.Sort Go.BigFrame
theorem info_Elem : (Tryz.prog.info? 30).map (fun i => (i.zero,i.size,i.bytes)) = some (some (.agg #[.int .i64 0,.slice none 0 0]),2,32) := by kernel_rfl
theorem info_Net : (Tryz.prog.info? 33).map (fun i => (i.zero,i.size,i.bytes)) = some (some (.agg #[.int .i64 0,.int .i64 0,.slice none 0 0,.slice none 0 0]),4,64) := by kernel_rfl
theorem info_Arm : (Tryz.prog.info? 36).map (fun i => (i.zero,i.size,i.bytes)) = some (some (.agg #[.int .i64 0,.int .i64 0,.slice none 0 0,.slice none 0 0,.slice none 0 0,.slice none 0 0]),6,112) := by kernel_rfl
end Go.Proofs.YtenoanhonjdpjaaGreatDoor
/- The laws' copies of nets,in memory of their own. -/
namespace Go.Proofs.YtenoanhonjdpjaaGreatDoor
open Go.RowKit Go.Sort Go.BigFrame
/-- A net is answered that owns its memory. -/
def NetRet (w : World) (base : Nat) (n : Stil.Net) (e : Ending) : Prop := ∃ (k op : Int) (ds : List Stil.Dev) (a1 : Option Addr) (c1 : Nat) (a2 : Option Addr) (c2 : Nat) (ms : List MNet),e = .returned (.agg #[.int .i64 k,.int .i64 op,.slice a1 ds.length c1,.slice a2 ms.length c2]) ∧
 MOwn w base ⟨k,op,ds,.slice a1 ds.length c1,.slice a2 ms.length c2,ms⟩ ∧ (MNet.mk k op ds (.slice a1 ds.length c1) (.slice a2 ms.length c2) ms).net = n
theorem MOk.set {w : World} {base : Nat} {m : MNet} (h : MOk w base m) {a : Addr} (ha : a.block < base) (u : Value) : MOk (w.setCell a u) base m := MOk.map m h (fun _ _ _ _ _ _ ho => ownsRow_setCell_below ho ha u)
theorem MOk.set4 {w : World} {base b o1 o2 o3 o4 : Nat} {m : MNet} {u1 u2 u3 u4 : Value} (h : MOk w base m) (hb : b < base) : MOk ((((w.setCell ⟨b,o1,none⟩ u1).setCell ⟨b,o2,none⟩ u2).setCell ⟨b,o3,none⟩ u3).setCell ⟨b,o4,none⟩ u4) base m :=
 MOk.set (MOk.set (MOk.set (MOk.set h (a := ⟨b,o1,none⟩) hb u1) (a := ⟨b,o2,none⟩) hb u2) (a := ⟨b,o3,none⟩) hb u3) (a := ⟨b,o4,none⟩) hb u4
theorem MOwn.set {w : World} {base : Nat} {m : MNet} (h : MOwn w base m) {a : Addr} (ha : a.block < base) (u : Value) : MOwn (w.setCell a u) base m := ⟨h.1.set ha u,h.2⟩
theorem MRow.set {w : World} {base : Nat} {v : Value} {ms : List MNet} (h : MRow w base v ms) {a : Addr} (ha : a.block < base) (u : Value) : MRow (w.setCell a u) base v ms := ⟨ownsRow_setCell_below h.1 ha u,fun m hm => (h.2.1 m hm).set ha u,h.2.2⟩
end Go.Proofs.YtenoanhonjdpjaaGreatDoor
/- A net that was answered: what is known of it,kept behind marks elsewhere. -/
namespace Stil
theorem norm_fits (n : Net) : netFits n -> netSize n <= 1048576 -> netFits (normNet n) := by
 refine net_ind (fun n => netFits n -> netSize n <= 1048576 -> netFits (normNet n)) ?_ n
 intro k e kids ih hf hs
 obtain ⟨hk,he,hl,hkids⟩ := (netFits_eq _ _ _).1 hf
 obtain ⟨hs1,hs2⟩ := kids_sizes hs
 have hm : ∀ x ∈ kids.map normNet,netFits x := by
  intro x hx
  obtain ⟨y,hy,rfl⟩ := List.mem_map.1 hx
  exact ih y hy (hkids y hy) (hs2 y hy)
 rw [normNet_eq]
 split
 ·have hF : ∀ x ∈ flatKids k (kids.map normNet),netFits x := by
   intro x hx
   obtain ⟨y,hy,hx⟩ := List.mem_flatMap.1 hx
   have hfy := hm y hy
   split at hx
   ·exact (netFits_parts hfy).2.2.2 x hx
   ·rw [List.mem_singleton.1 hx]; exact hfy
  have hFl : (flatKids k (kids.map normNet)).length <= 1048576 := by
   have h1 := len_sizes (flatKids k (kids.map normNet))
   have h2 := flatKids_sizes k (kids.map normNet)
   omega
  unfold blockOf
  split
  ·exact hF _ (List.getElem_mem _)
  ·rw [netFits_eq]
   exact ⟨hk,⟨⟨by simp,by simp⟩,by simp,(fun d hd => by cases hd)⟩,hFl,hF⟩
 ·rw [netFits_eq]
  exact ⟨hk,he,by simpa using hl,hm⟩
theorem normTop_fits {n : Net} (h : netFits n) : netFits (normTop n) ∧ netSize (normTop n) <= 401 := by
 unfold normTop
 split
 ·refine ⟨?_,by rw [netSize_eq]; simp⟩
  rw [netFits_eq]
  exact ⟨⟨by simp,by simp⟩,⟨⟨by simp,by simp⟩,by simp,(fun d hd => by cases hd)⟩,by simp,(fun x hx => by cases hx)⟩
 ·rename_i h2
  have h3 := normNet_size n
  exact ⟨norm_fits n h (by omega),by omega⟩
end Stil
namespace Go.Proofs.YtenoanhonjdpjaaGreatDoor
open Go.RowKit Go.Sort Go.BigFrame
end Go.Proofs.YtenoanhonjdpjaaGreatDoor
/- An append of nets to a row of nets,in a region; boxes of nets. -/
namespace Go.Proofs.YtenoanhonjdpjaaGreatDoor
open Go.RowKit Go.Sort Go.BigFrame
theorem mCells_one' {w : World} {base : Nat} {ks : List MNet} (hk : ∀ m ∈ ks,MOk w base m) : ∀ u ∈ mCells ks,u.oneCell' = true := by
 intro u hu
 obtain ⟨m,hm,hu⟩ := List.mem_flatMap.1 hu
 have h := (MOk_iff w base m).1 (hk m hm)
 obtain ⟨a1,c1,e1⟩ := slice_of_owns h.1
 obtain ⟨a2,c2,e2⟩ := slice_of_owns h.2.1
 simp only [MNet.cells,List.mem_cons,List.mem_nil_iff,or_false] at hu
 rcases hu with rfl | rfl | rfl | rfl
 ·rfl
 ·rfl
 ·rw [e1]; rfl
 ·rw [e2]; rfl
theorem step_append_nets {ops : Array Oper} {o : Oper} {a : Act} {w : World} {K : Act -> World -> Prop} {Q : Exit -> Act -> World -> Prop} {E : Prop}
  (hg : o.guard = none) (s x : Operand) (hop : o.op = .call { callee := .builtin .append,args := #[s,x],argTypes := #[31,31] })
  (base : Nat) (ra : Option Addr) (rc : Nat) (ms ks : List MNet) (ad : Option Addr) (c : Nat) (hs : a.eval s = .slice ra ms.length rc) (hx : a.eval x = .slice ad ks.length c)
  (hrow : MRow w base (.slice ra ms.length rc) ms) (hxs : 0 < ks.length -> ∃ p,ad = some p ∧ ∀ j u,(mCells ks)[j]? = some u -> w.cell? (p.add j) = some u)
  (hk : ∀ m ∈ ks,MOk w base m) (hp : (Value.slice ra ms.length rc :: (mVals ms ++ mVals ks)).Pairwise Aside) (hl : ms.length + ks.length <= 1000000) (hbase : base <= w.heap.size)
  (hK : ∀ a' c' w',MRow w' base (.slice a' (ms.length + ks.length) c') (ms ++ ks) -> Below base w w' -> K (a.put o.dst (.slice a' (ms.length + ks.length) c')) w') :
  if Region.wanted o (yielded ops a.tmps) = true then Oper.wp Tryz.prog o a w K Q else E := by
 obtain ⟨i0,hi,hz0,hz1,hz2⟩ := info_parts info_Net
 by_cases hd : ks.length = 0
 ·have hn : ks = [] := List.length_eq_zero_iff.1 hd
  subst hn
  have hw : Region.wanted o (yielded ops a.tmps) = true := by simp [Region.wanted,hg]
  rw [if_pos hw]
  have hcap : ms.length <= rc := by
   rcases hrow.1.2 with ⟨h0,h1⟩ | ⟨g,c',cur,h0,_,_,hnc,_⟩
   ·rw [h1]; exact Nat.zero_le _
   ·simp only [Value.slice.injEq] at h0
    rw [h0.2.2]; exact hnc
  have hk2 := hK ra rc w (by simpa using hrow) (Below.refl _ _)
  simp only [List.length_nil,Nat.add_zero] at hk2 hx
  unfold Oper.wp execOp
  cases ad
  ·have e : Sem.run Tryz.prog (Builtin.append_ #[31,31] o.type #[.slice ra ms.length rc,.slice none 0 c]) w = .ok (.slice ra ms.length rc) w := by cases ra <;> simp [Builtin.append_,go_sem,hcap]
   simp only [hop,resolve,invoke,builtin,Sem.run_bind,Sem.run_pure,Result.andThen_ok,List.map_toArray,List.map_cons,List.map_nil,hs,hx,e]
   exact hk2
  ·rename_i t1
   have e : Sem.run Tryz.prog (Builtin.append_ #[31,31] o.type #[.slice ra ms.length rc,.slice (some t1) 0 c]) w = .ok (.slice ra ms.length rc) w := by cases ra <;> simp [Builtin.append_,go_sem,hcap]
   simp only [hop,resolve,invoke,builtin,Sem.run_bind,Sem.run_pure,Result.andThen_ok,List.map_toArray,List.map_cons,List.map_nil,hs,hx,e]
   exact hk2
 ·obtain ⟨p,rfl,hcs⟩ := hxs (by omega)
  refine step_append_at hg s x _ hop base 33 i0 _ 4 64 Tryz.underlying31 hi hz0 hz1 hz2 rfl (by decide) _ _ (mCells ms) hs hrow.1 _ _ _ (mCells ks) hx (mCells_len ks) hcs (mCells_one' hk) (by unfold maxLen; omega) (by omega) hbase ?_
  intro v' w' h1 h2 h3
  obtain ⟨a6,c6,hv6⟩ := slice_of_owns h1
  subst hv6
  exact hK a6 c6 w' (hrow.add hk hp h1 h2 h3) ((Below.refl _ _).grown h2 hbase (fun j hj => (hrow.1.lt j hj).1))
theorem wpList_append_nets {ops : Array Oper} {rest : List Oper} {o : Oper} {a : Act} {w : World} {Q : Exit -> Act -> World -> Prop}
  (hg : o.guard = none) (s x : Operand) (hop : o.op = .call { callee := .builtin .append,args := #[s,x],argTypes := #[31,31] })
  (base : Nat) (ra : Option Addr) (rc : Nat) (ms ks : List MNet) (ad : Option Addr) (c : Nat) (hs : a.eval s = .slice ra ms.length rc) (hx : a.eval x = .slice ad ks.length c)
  (hrow : MRow w base (.slice ra ms.length rc) ms) (hxs : 0 < ks.length -> ∃ p,ad = some p ∧ ∀ j u,(mCells ks)[j]? = some u -> w.cell? (p.add j) = some u)
  (hk : ∀ m ∈ ks,MOk w base m) (hp : (Value.slice ra ms.length rc :: (mVals ms ++ mVals ks)).Pairwise Aside) (hl : ms.length + ks.length <= 1000000) (hbase : base <= w.heap.size)
  (h : ∀ a' c' w',MRow w' base (.slice a' (ms.length + ks.length) c') (ms ++ ks) -> Below base w w' -> wpList Tryz.prog ops Q rest (a.put o.dst (.slice a' (ms.length + ks.length) c')) w') :
  wpList Tryz.prog ops Q (o :: rest) a w := by
 refine wpList_plain hg fun K hK => ?_
 have hw : Region.wanted o (yielded #[] a.tmps) = true := by simp [Region.wanted,hg]
 have := step_append_nets (ops := #[]) (K := K) (Q := Q) (E := True) hg s x hop base ra rc ms ks ad c hs hx hrow hxs hk hp hl hbase (fun a' c' w' h1 h2 => hK _ _ (h a' c' w' h1 h2))
 rwa [if_pos hw] at this
/-- A row of one. -/
theorem MRow.single {w : World} {base : Nat} {m : MNet} (h : MOwn w base m) (hb : base <= w.heap.size) : MRow (w.alloc (.cells #[.int .i64 m.kind,.int .i64 m.op,m.av,m.kv] 33)) base (.slice (some ⟨w.heap.size,0,none⟩) 1 1) [m] := by
 refine ⟨?_,fun x hx => ?_,?_⟩
 ·exact World.ownsRow_lit w #[.int .i64 m.kind,.int .i64 m.op,m.av,m.kv] 1 hb (by unfold maxLen; omega) rfl
 ·rw [List.mem_singleton.1 hx]; exact h.1.below (below_alloc _ _)
 ·rw [mVals_one,List.pairwise_cons]
  refine ⟨fun y hy => (aside_new (n := w.heap.size) (fun k hk => (h.1.lt m y hy k hk).2) (fun k hk => ?_)).symm,h.2⟩
  have e : w.heap.size = k := by simpa [Value.ownBlock] using hk
  omega
theorem frozenS {W : World} {p q : Addr} {v : Value} : (W.setCell p v).frozen? q = W.frozen? q := by simp [go_sem]
theorem cells4 {W : World} {u0 u1 u2 u3 : Value} {t : TypeId} : ∀ j u,[u0,u1,u2,u3][j]? = some u -> (W.alloc (.cells #[u0,u1,u2,u3] t)).cell? ((⟨W.heap.size,0,none⟩ : Addr).add j) = some u := by
 intro j u h
 rw [Addr.add_lit]
 match j,h with
 | 0,h => simp at h; subst h; simp [go_sem]
 | 1,h => simp at h; subst h; simp [go_sem]
 | 2,h => simp at h; subst h; simp [go_sem]
 | 3,h => simp at h; subst h; simp [go_sem]
 | j + 4,h => simp at h
/-- A net in a variable. -/
def B4 (w : World) (b : Nat) (v0 v1 v2 v3 : Value) : Prop := b < w.heap.size ∧ (w.cell? ⟨b,0,none⟩ = some v0 ∧ w.cell? ⟨b,1,none⟩ = some v1 ∧ w.cell? ⟨b,2,none⟩ = some v2 ∧ w.cell? ⟨b,3,none⟩ = some v3) ∧
 w.frozen? ⟨b,0,none⟩ = false ∧ w.frozen? ⟨b,1,none⟩ = false ∧ w.frozen? ⟨b,2,none⟩ = false ∧ w.frozen? ⟨b,3,none⟩ = false
theorem B4.below {w w' : World} {n b : Nat} {v0 v1 v2 v3 : Value} (h : B4 w b v0 v1 v2 v3) (hb : Below n w w') (hn : b < n) : B4 w' b v0 v1 v2 v3 := by
 obtain ⟨h0,⟨c0,c1,c2,c3⟩,f0,f1,f2,f3⟩ := h
 refine ⟨Nat.lt_of_lt_of_le h0 hb.size,⟨(hb.cell (p := ⟨b,0,none⟩) hn).trans c0,(hb.cell (p := ⟨b,1,none⟩) hn).trans c1,(hb.cell (p := ⟨b,2,none⟩) hn).trans c2,(hb.cell (p := ⟨b,3,none⟩) hn).trans c3⟩,?_⟩
 exact ⟨(hb.frozen (p := ⟨b,0,none⟩) hn).trans f0,(hb.frozen (p := ⟨b,1,none⟩) hn).trans f1,(hb.frozen (p := ⟨b,2,none⟩) hn).trans f2,(hb.frozen (p := ⟨b,3,none⟩) hn).trans f3⟩
theorem B4.set3 {w : World} {b : Nat} {v0 v1 v2 v3 : Value} (h : B4 w b v0 v1 v2 v3) (u : Value) : B4 (w.setCell ⟨b,3,none⟩ u) b v0 v1 v2 u := by
 obtain ⟨h0,⟨c0,c1,c2,c3⟩,f0,f1,f2,f3⟩ := h
 exact ⟨Nat.lt_of_lt_of_le h0 (sizeSet _ _ _),⟨(cellSetOff (by omega)).trans c0,(cellSetOff (by omega)).trans c1,(cellSetOff (by omega)).trans c2,cellSetAt c3⟩,frozenS.trans f0,frozenS.trans f1,frozenS.trans f2,frozenS.trans f3⟩
theorem B4.setO {w : World} {b c o : Nat} {v0 v1 v2 v3 : Value} (h : B4 w b v0 v1 v2 v3) (hc : b ≠ c) (u : Value) : B4 (w.setCell ⟨c,o,none⟩ u) b v0 v1 v2 v3 := by
 obtain ⟨h0,⟨c0,c1,c2,c3⟩,f0,f1,f2,f3⟩ := h
 exact ⟨Nat.lt_of_lt_of_le h0 (sizeSet _ _ _),⟨(cellSetOther hc).trans c0,(cellSetOther hc).trans c1,(cellSetOther hc).trans c2,(cellSetOther hc).trans c3⟩,frozenS.trans f0,frozenS.trans f1,frozenS.trans f2,frozenS.trans f3⟩
end Go.Proofs.YtenoanhonjdpjaaGreatDoor
/- Y7a,Y7b: texts put together. -/
/- Appends of nets,what grows told; nets that lie low. -/
namespace Go.Proofs.YtenoanhonjdpjaaGreatDoor
open Go.RowKit Go.Sort Go.BigFrame
theorem step_grow_nets {ops : Array Oper} {o : Oper} {a : Act} {w : World} {K : Act -> World -> Prop} {Q : Exit -> Act -> World -> Prop} {E : Prop}
  (hg : o.guard = none) (s x : Operand) (hop : o.op = .call { callee := .builtin .append,args := #[s,x],argTypes := #[31,31] })
  (base lo : Nat) (ra : Option Addr) (rc : Nat) (ms ks : List MNet) (ad : Option Addr) (c : Nat) (hs : a.eval s = .slice ra ms.length rc) (hx : a.eval x = .slice ad ks.length c)
  (hrow : MRow w base (.slice ra ms.length rc) ms) (hxs : 0 < ks.length -> ∃ p,ad = some p ∧ ∀ j u,(mCells ks)[j]? = some u -> w.cell? (p.add j) = some u)
  (hk : ∀ m ∈ ks,MOk w base m) (hp : (Value.slice ra ms.length rc :: (mVals ms ++ mVals ks)).Pairwise Aside) (hl : ms.length + ks.length <= 1000000) (hbase : base <= w.heap.size) (hlo : lo <= w.heap.size) (hvl : ∀ k,(Value.slice ra ms.length rc).ownBlock = some k -> lo <= k)
  (hK : ∀ a' c' w',MRow w' base (.slice a' (ms.length + ks.length) c') (ms ++ ks) -> Below lo w w' -> (∀ k,(Value.slice a' (ms.length + ks.length) c').ownBlock = some k -> lo <= k) -> K (a.put o.dst (.slice a' (ms.length + ks.length) c')) w') :
  if Region.wanted o (yielded ops a.tmps) = true then Oper.wp Tryz.prog o a w K Q else E := by
 obtain ⟨i0,hi,hz0,hz1,hz2⟩ := info_parts info_Net
 by_cases hd : ks.length = 0
 ·have hn : ks = [] := List.length_eq_zero_iff.1 hd
  subst hn
  have hw : Region.wanted o (yielded ops a.tmps) = true := by simp [Region.wanted,hg]
  rw [if_pos hw]
  have hcap : ms.length <= rc := by
   rcases hrow.1.2 with ⟨h0,h1⟩ | ⟨g,c',cur,h0,_,_,hnc,_⟩
   ·rw [h1]; exact Nat.zero_le _
   ·simp only [Value.slice.injEq] at h0
    rw [h0.2.2]; exact hnc
  have hk2 := hK ra rc w (by simpa using hrow) (Below.refl _ _) (by simpa using hvl)
  simp only [List.length_nil,Nat.add_zero] at hk2 hx
  unfold Oper.wp execOp
  cases ad
  ·have e : Sem.run Tryz.prog (Builtin.append_ #[31,31] o.type #[.slice ra ms.length rc,.slice none 0 c]) w = .ok (.slice ra ms.length rc) w := by cases ra <;> simp [Builtin.append_,go_sem,hcap]
   simp only [hop,resolve,invoke,builtin,Sem.run_bind,Sem.run_pure,Result.andThen_ok,List.map_toArray,List.map_cons,List.map_nil,hs,hx,e]
   exact hk2
  ·rename_i t1
   have e : Sem.run Tryz.prog (Builtin.append_ #[31,31] o.type #[.slice ra ms.length rc,.slice (some t1) 0 c]) w = .ok (.slice ra ms.length rc) w := by cases ra <;> simp [Builtin.append_,go_sem,hcap]
   simp only [hop,resolve,invoke,builtin,Sem.run_bind,Sem.run_pure,Result.andThen_ok,List.map_toArray,List.map_cons,List.map_nil,hs,hx,e]
   exact hk2
 ·obtain ⟨p,rfl,hcs⟩ := hxs (by omega)
  refine step_append_at hg s x _ hop base 33 i0 _ 4 64 Tryz.underlying31 hi hz0 hz1 hz2 rfl (by decide) _ _ (mCells ms) hs hrow.1 _ _ _ (mCells ks) hx (mCells_len ks) hcs (mCells_one' hk) (by unfold maxLen; omega) (by omega) hbase ?_
  intro v' w' h1 h2 h3
  obtain ⟨a6,c6,hv6⟩ := slice_of_owns h1
  subst hv6
  refine hK a6 c6 w' (hrow.add hk hp h1 h2 h3) ((Below.refl _ _).grown h2 hlo hvl) (fun k hk2 => ?_)
  rcases h3 with e | e
  ·exact hvl k (by rw [← e]; exact hk2)
  ·rw [e] at hk2
   cases hk2
   exact hlo
theorem wpList_grow_nets {ops : Array Oper} {rest : List Oper} {o : Oper} {a : Act} {w : World} {Q : Exit -> Act -> World -> Prop}
  (hg : o.guard = none) (s x : Operand) (hop : o.op = .call { callee := .builtin .append,args := #[s,x],argTypes := #[31,31] })
  (base lo : Nat) (ra : Option Addr) (rc : Nat) (ms ks : List MNet) (ad : Option Addr) (c : Nat) (hs : a.eval s = .slice ra ms.length rc) (hx : a.eval x = .slice ad ks.length c)
  (hrow : MRow w base (.slice ra ms.length rc) ms) (hxs : 0 < ks.length -> ∃ p,ad = some p ∧ ∀ j u,(mCells ks)[j]? = some u -> w.cell? (p.add j) = some u)
  (hk : ∀ m ∈ ks,MOk w base m) (hp : (Value.slice ra ms.length rc :: (mVals ms ++ mVals ks)).Pairwise Aside) (hl : ms.length + ks.length <= 1000000) (hbase : base <= w.heap.size) (hlo : lo <= w.heap.size) (hvl : ∀ k,(Value.slice ra ms.length rc).ownBlock = some k -> lo <= k)
  (h : ∀ a' c' w',MRow w' base (.slice a' (ms.length + ks.length) c') (ms ++ ks) -> Below lo w w' -> (∀ k,(Value.slice a' (ms.length + ks.length) c').ownBlock = some k -> lo <= k) -> wpList Tryz.prog ops Q rest (a.put o.dst (.slice a' (ms.length + ks.length) c')) w') :
  wpList Tryz.prog ops Q (o :: rest) a w := by
 refine wpList_plain hg fun K hK => ?_
 have hw : Region.wanted o (yielded #[] a.tmps) = true := by simp [Region.wanted,hg]
 have := step_grow_nets (ops := #[]) (K := K) (Q := Q) (E := True) hg s x hop base lo ra rc ms ks ad c hs hx hrow hxs hk hp hl hbase hlo hvl (fun a' c' w' h1 h2 h3 => hK _ _ (h a' c' w' h1 h2 h3))
 rwa [if_pos hw] at this
/-- What a net is opened to in a block of a kind. -/
def openOf (k : Int) (m : MNet) : List MNet := if m.kind = k then m.kids else [m]
theorem cells4e {W : World} {B : Nat} (hB : B = W.heap.size) {u0 u1 u2 u3 : Value} {t : TypeId} : ∀ j u,[u0,u1,u2,u3][j]? = some u -> (W.alloc (.cells #[u0,u1,u2,u3] t)).cell? ((⟨B,0,none⟩ : Addr).add j) = some u := by
 subst hB; exact cells4
set_option maxHeartbeats 2000000 in
set_option maxRecDepth 100000 in
theorem i_open1 (k : Int) (B base lo : Nat) (ra : Option Addr) (rc : Nat) (ms : List MNet) (mk mop : Int) (mds : List Stil.Dev) (s0 : Option Addr) (t0 : Nat) (s1 : Option Addr) (t1 : Nat) (mks : List MNet) (w : World)
  (hbx : w.cell? ⟨B,0,none⟩ = some (.int .i64 k)) (hB : B < w.heap.size) (hrow : MRow w base (.slice ra ms.length rc) ms) (hm : MOwn w base ⟨mk,mop,mds,.slice s0 mds.length t0,.slice s1 mks.length t1,mks⟩)
  (hp : (Value.slice ra ms.length rc :: (mVals ms ++ (MNet.mk mk mop mds (.slice s0 mds.length t0) (.slice s1 mks.length t1) mks).vals)).Pairwise Aside) (hl : ms.length + mks.length + 1 <= 1000000) (hbase : base <= w.heap.size) (hlo : lo <= w.heap.size) (hvl : ∀ k,(Value.slice ra ms.length rc).ownBlock = some k -> lo <= k) :
  Calls Tryz.prog 128 #[.slice ra ms.length rc,.agg #[.int .i64 mk,.int .i64 mop,.slice s0 mds.length t0,.slice s1 mks.length t1],.pointer (some ⟨B,0,none⟩)] w fun e w' => ∃ (a : Option Addr) (c : Nat),e = .returned (.slice a (ms.length + (openOf k ⟨mk,mop,mds,.slice s0 mds.length t0,.slice s1 mks.length t1,mks⟩).length) c) ∧ MRow w' base (.slice a (ms.length + (openOf k ⟨mk,mop,mds,.slice s0 mds.length t0,.slice s1 mks.length t1,mks⟩).length) c) (ms ++ openOf k ⟨mk,mop,mds,.slice s0 mds.length t0,.slice s1 mks.length t1,mks⟩) ∧ Below lo w w' ∧ ∀ j,(Value.slice a (ms.length + (openOf k ⟨mk,mop,mds,.slice s0 mds.length t0,.slice s1 mks.length t1,mks⟩).length) c).ownBlock = some j -> lo <= j := by
 by_cases hkk : mk = k
 ·have HMR : Hid (∀ W,Below w.heap.size w W -> MRow W base (.slice ra ms.length rc) ms) := fun W h => hrow.below h
  have HK : Hid (∀ W,Below w.heap.size w W -> ∀ m ∈ mks,MOk W base m) := fun W h m hm2 => (hm.kids.1 m hm2).below h
  have HP : Hid ((Value.slice ra ms.length rc :: (mVals ms ++ mVals mks)).Pairwise Aside) := by
   refine List.Pairwise.sublist (List.Sublist.cons_cons _ (List.Sublist.append (List.Sublist.refl _) ?_)) hp
   rw [MNet.vals_eq]
   exact List.Sublist.cons _ (List.Sublist.cons _ (List.Sublist.refl _))
  have HXS : Hid (∀ W,Below w.heap.size w W -> 0 < mks.length -> ∃ p,s1 = some p ∧ ∀ j u,(mCells mks)[j]? = some u -> W.cell? (p.add j) = some u) := by
   intro W hW hz
   have hr := ownsRow_below ((MOk_iff _ _ _).1 hm.1).2.1 hW
   simp only at hr
   obtain ⟨g,c,hv,_,_,_,hcell⟩ := ownsRow_cells hr hz
   simp only [Value.slice.injEq] at hv
   exact ⟨⟨g,0,none⟩,hv.1,fun j u hu => by rw [Addr.add_lit]; simpa using hcell j u hu⟩
  have hl2 : ms.length + mks.length <= 1000000 := by omega
  have hO : openOf k ⟨mk,mop,mds,.slice s0 mds.length t0,.slice s1 mks.length t1,mks⟩ = mks := if_pos hkk
  rw [hO]
  clear hO
  have HVL : Hid (∀ k,(Value.slice ra ms.length rc).ownBlock = some k -> lo <= k) := hvl
  clear hrow hm hp hl hvl
  rw [← hkk] at hbx
  go_enter Tryz.func128,Tryz.ntmps128
  go_wp2_with (at_builtin; refine wpList_grow_nets rfl _ _ rfl base lo ra rc ms mks s1 t1 rfl rfl (HMR.out _ blA) (HXS.out _ blA) (HK.out _ blA) HP.out hl2 (by simp; omega) (by simp; omega) HVL.out ?_; intro a6 c6 w6 hmr6 hb6 hv6; have HM6 : Hid (MRow w6 base (.slice a6 (ms.length + mks.length) c6) (ms ++ mks)) := hmr6; have HV6 : Hid (∀ k,(Value.slice a6 (ms.length + mks.length) c6).ownBlock = some k -> lo <= k) := hv6; clear hmr6 hv6; have hb7 : Below lo w w6 := (show Below lo w _ from (show Below w.heap.size w _ from blA).mono hlo).trans hb6)
  go_ret
  exact ⟨a6,c6,rfl,HM6.out,hb7,HV6.out⟩
 ·have HMR : Hid (∀ W,Below w.heap.size w W -> MRow W base (.slice ra ms.length rc) ms) := fun W h => hrow.below h
  have HK : Hid (∀ W,Below w.heap.size w W -> ∀ m ∈ [(MNet.mk mk mop mds (.slice s0 mds.length t0) (.slice s1 mks.length t1) mks)],MOk W base m) := fun W h m hm2 => by rw [List.mem_singleton.1 hm2]; exact hm.1.below h
  have HP : Hid ((Value.slice ra ms.length rc :: (mVals ms ++ mVals [(MNet.mk mk mop mds (.slice s0 mds.length t0) (.slice s1 mks.length t1) mks)])).Pairwise Aside) := by show List.Pairwise _ _; rw [mVals_one]; exact hp
  have hl2 : ms.length + [(MNet.mk mk mop mds (.slice s0 mds.length t0) (.slice s1 mks.length t1) mks)].length <= 1000000 := by simp only [List.length_singleton]; omega
  have hO : openOf k ⟨mk,mop,mds,.slice s0 mds.length t0,.slice s1 mks.length t1,mks⟩ = [(MNet.mk mk mop mds (.slice s0 mds.length t0) (.slice s1 mks.length t1) mks)] := if_neg hkk
  rw [hO]
  clear hO
  have HVL : Hid (∀ k,(Value.slice ra ms.length rc).ownBlock = some k -> lo <= k) := hvl
  have ekk : (mk == k) = false := by rw [beq_eq_false_iff_ne]; exact hkk
  clear hrow hm hp hl hvl
  go_enter Tryz.func128,Tryz.ntmps128
  go_wp2_with (at_builtin; refine wpList_grow_nets rfl _ _ rfl base lo ra rc ms [MNet.mk mk mop mds (.slice s0 mds.length t0) (.slice s1 mks.length t1) mks] _ 1 rfl rfl (HMR.out _ blA) (fun _ => ⟨_,rfl,by exact cells4e (by simp)⟩) (HK.out _ blA) HP.out hl2 (by simp; omega) (by simp; omega) HVL.out ?_; intro a6 c6 w6 hmr6 hb6 hv6; have HM6 : Hid (MRow w6 base (.slice a6 (ms.length + 1) c6) (ms ++ [MNet.mk mk mop mds (.slice s0 mds.length t0) (.slice s1 mks.length t1) mks])) := hmr6; have HV6 : Hid (∀ k,(Value.slice a6 (ms.length + 1) c6).ownBlock = some k -> lo <= k) := hv6; clear hmr6 hv6; have hb7 : Below lo w w6 := (show Below lo w _ from (show Below w.heap.size w _ from blA).mono hlo).trans hb6)
  go_ret
  exact ⟨a6,c6,rfl,HM6.out,hb7,HV6.out⟩
end Go.Proofs.YtenoanhonjdpjaaGreatDoor
/- The specification's chapter 4: the normal form of nets. -/
namespace Go.Proofs.YtenoanhonjdpjaaGreatDoor
open Go.RowKit Go.Sort Go.BigFrame
set_option maxHeartbeats 2000000 in
set_option maxRecDepth 100000 in
theorem s_flat (k : Int) (kids : List Stil.Net) (ih : ∀ x ∈ kids,∀ (av kv : Value) (w : World),DevsAt w av x.one.args -> NetsAt w kv x.kids -> Calls Tryz.prog 93 #[.agg #[.int .i64 x.kind,.int .i64 x.one.op,av,kv]] w fun e w' => NetRet w' w.heap.size (Stil.normNet x) e ∧ Below w.heap.size w w')
  (v : Value) (w : World) (hat : NetsAt w v kids) (hl : kids.length <= 1048576) (hs : Stil.sizes (kids.map Stil.normNet) <= 1000000) :
  Calls Tryz.prog 123 #[.int .i64 k,v] w fun e w' => NetRet w' w.heap.size (Stil.blockOf k (Stil.flatKids k (kids.map Stil.normNet))) e ∧ Below w.heap.size w w' := by
 obtain ⟨i0,hi,hz0,hz1,hz2⟩ := info_parts info_Net
 obtain ⟨a,cap,rfl,hc⟩ := hat
 have HA : Hid (∀ i (h : i < kids.length),∃ b o,a = some ⟨b,o,none⟩ ∧ b < w.heap.size ∧ NetAt w b (o + i * 4) kids[i]) := hc
 have IH : Hid (∀ x ∈ kids,∀ (av kv : Value) (w : World),DevsAt w av x.one.args -> NetsAt w kv x.kids -> Calls Tryz.prog 93 #[.agg #[.int .i64 x.kind,.int .i64 x.one.op,av,kv]] w fun e w' => NetRet w' w.heap.size (Stil.normNet x) e ∧ Below w.heap.size w w') := ih
 have HS : Hid (Stil.sizes (kids.map Stil.normNet) <= 1000000) := hs
 clear hc ih hs
 go_enter Tryz.func123,Tryz.ntmps123
 go_wp2
 go_loopw [6] (fun i wr => ∃ (j : Nat) (ms : List MNet) (ra : Option Addr) (rc : Nat),j <= kids.length ∧ i = .int .i64 j ∧ B4 wr w.heap.size (.int .i64 0) (.int .i64 0) (.slice none 0 0) (.slice none 0 0) ∧ B4 wr (w.heap.size + 1) (.int .i64 k) (.int .i64 0) (.slice none 0 0) (.slice ra ms.length rc) ∧
   MRow wr (w.heap.size + 2) (.slice ra ms.length rc) ms ∧ ms.map MNet.net = Stil.flatKids k ((kids.take j).map Stil.normNet) ∧ Below w.heap.size w wr) (fun i _ => kids.length - (intOf i).toNat)
 case atStart =>
  refine ⟨0,[],none,0,by omega,rfl,?_,?_,MRow.nil _ _,rfl,blA⟩
  ·refine ⟨by simp; omega,⟨by simp [go_sem],by simp [go_sem],by simp [go_sem],by simp [go_sem]⟩,by simp [go_sem],by simp [go_sem],by simp [go_sem],by simp [go_sem]⟩
  ·refine ⟨by simp,⟨by simp [go_sem],by simp [go_sem],by simp [go_sem],by simp [go_sem]⟩,by simp [go_sem],by simp [go_sem],by simp [go_sem],by simp [go_sem]⟩
 case round =>
  obtain ⟨j,ms,ra,rc,hj,rfl,hbn,hbo,hmr,hmn0,hB⟩ := hrel
  have HBN : Hid (B4 wr w.heap.size (.int .i64 0) (.int .i64 0) (.slice none 0 0) (.slice none 0 0)) := hbn
  have HBO : Hid (B4 wr (w.heap.size + 1) (.int .i64 k) (.int .i64 0) (.slice none 0 0) (.slice ra ms.length rc)) := hbo
  have HMR : Hid (MRow wr (w.heap.size + 2) (.slice ra ms.length rc) ms) := hmr
  have HMN0 : Hid (ms.map MNet.net = Stil.flatKids k ((kids.take j).map Stil.normNet)) := hmn0
  clear hbn hbo hmr hmn0
  by_cases hlt : j < kids.length
  ·obtain ⟨b,o,rfl,hbl,hn⟩ := HA.out j hlt
   obtain ⟨x0,x1,av,kv,x2,x3,hav,hkv⟩ := (NetAt.below hB _ _ _ hn hbl).open
   have HI : Hid (∀ W,Below wr.heap.size wr W -> Calls Tryz.prog 93 #[.agg #[.int .i64 kids[j].kind,.int .i64 kids[j].one.op,av,kv]] W fun e w' => NetRet w' W.heap.size (Stil.normNet kids[j]) e ∧ Below W.heap.size W w') := fun W hW => IH.out kids[j] (List.getElem_mem hlt) av kv W (hav.below hW) (hkv.below hW)
   obtain ⟨x,hx⟩ : ∃ x,x = kids[j] := ⟨_,rfl⟩
   rw [← hx] at HI x0 x1 hav hkv
   have HX : Hid (x = kids[j]) := hx
   obtain ⟨p0,r0,rfl,_⟩ := hav
   obtain ⟨p1,r1,rfl,_⟩ := hkv
   clear hx hn
   go_upto_region 6 with (go_at_call 93; refine (HI.out _ blB).mono ?_; rintro e w2 ⟨⟨mk,mop,mds,s0,t0,s1,t1,mks,rfl,hmo,hmn⟩,hb2⟩; have HMO : Hid (MOwn w2 _ ⟨mk,mop,mds,.slice s0 mds.length t0,.slice s1 mks.length t1,mks⟩) := hmo; have HMN : Hid ((MNet.mk mk mop mds (.slice s0 mds.length t0) (.slice s1 mks.length t1) mks).net = Stil.normNet x) := hmn; clear hmo hmn)
   obtain ⟨W,hW⟩ : ∃ W,W = w2.alloc (.cells #[.int .i64 mk,.int .i64 mop,.slice s0 mds.length t0,.slice s1 mks.length t1] 33) := ⟨_,rfl⟩
   rw [← hW]
   have hsW : W.heap.size = w2.heap.size + 1 := by rw [hW]; simp
   have hb2W : Below w2.heap.size w2 W := by rw [hW]; exact below_alloc _ _
   have n0 : W.cell? ⟨w2.heap.size,0,none⟩ = some (.int .i64 mk) := by rw [hW]; simp [go_sem]
   have n1 : W.cell? ⟨w2.heap.size,1,none⟩ = some (.int .i64 mop) := by rw [hW]; simp [go_sem]
   have n2 : W.cell? ⟨w2.heap.size,2,none⟩ = some (.slice s0 mds.length t0) := by rw [hW]; simp [go_sem]
   have n3 : W.cell? ⟨w2.heap.size,3,none⟩ = some (.slice s1 mks.length t1) := by rw [hW]; simp [go_sem]
   have hbW : Below wr.heap.size wr W := hb2.trans (hb2W.mono hb2.size)
   have hBW : Below w.heap.size w W := hB.trans (hbW.mono hB.size)
   have hbo := HBO.out.below hbW HBO.out.1
   have hwW : w.heap.size + 2 <= W.heap.size := by have := hbo.1; omega
   have HBOW : Hid (B4 W (w.heap.size + 1) (.int .i64 k) (.int .i64 0) (.slice none 0 0) (.slice ra ms.length rc)) := hbo
   have HBNW : Hid (B4 W w.heap.size (.int .i64 0) (.int .i64 0) (.slice none 0 0) (.slice none 0 0)) := HBN.out.below hbW HBN.out.1
   have HMRW : Hid (MRow W (w.heap.size + 2) (.slice ra ms.length rc) ms) := HMR.out.below hbW
   have HMOW : Hid (MOwn W (w.heap.size + 2) ⟨mk,mop,mds,.slice s0 mds.length t0,.slice s1 mks.length t1,mks⟩) := ((HMO.out.below hb2W).le (by have := HBO.out.1; omega))
   have hap : ∀ ks : List MNet,(∀ m ∈ ks,MOk w2 wr.heap.size m) -> (mVals ks).Pairwise Aside -> (Value.slice ra ms.length rc :: (mVals ms ++ mVals ks)).Pairwise Aside := fun ks h1 h2 => HMR.out.apart h1 (Nat.le_refl _) h2
   have hsn := Stil.flat_snoc k kids j hlt
   rw [← HX.out,← HMN.out,← HMN0.out,MNet.net_eq] at hsn
   simp only at hsn
   have hft := Stil.flat_take k kids (j + 1)
   rw [hsn] at hft
   have hS := HS.out
   obtain ⟨_,⟨o0,o1,o2,o3⟩,g0,g1,g2,g3⟩ := hbo
   by_cases hkk : mk = k
   ·rw [if_pos hkk] at hsn hft
    have hl2 : ms.length + mks.length <= 1000000 := by
     simp only [List.length_append,List.length_map] at hft
     omega
    have hsn2 : (ms ++ mks).map MNet.net = Stil.flatKids k ((kids.take (j + 1)).map Stil.normNet) := by rw [hsn,List.map_append]
    have hpw := hap mks HMO.out.kids.1 HMO.out.kids.2
    have HP : Hid ((Value.slice ra ms.length rc :: (mVals ms ++ mVals mks)).Pairwise Aside) := hpw
    have HK : Hid (∀ m ∈ mks,MOk W (w.heap.size + 2) m) := HMOW.out.kids.1
    have HSN : Hid ((ms ++ mks).map MNet.net = Stil.flatKids k ((kids.take (j + 1)).map Stil.normNet)) := hsn2
    have HXS : Hid (0 < mks.length -> ∃ p,s1 = some p ∧ ∀ j u,(mCells mks)[j]? = some u -> W.cell? (p.add j) = some u) := by
     intro hz
     have hr := ((MOk_iff _ _ _).1 HMOW.out.1).2.1
     simp only at hr
     obtain ⟨g,c,hv,_,_,_,hcell⟩ := ownsRow_cells hr hz
     simp only [Value.slice.injEq] at hv
     exact ⟨⟨g,0,none⟩,hv.1,fun j u hu => by rw [Addr.add_lit]; simpa using hcell j u hu⟩
    clear hW hft hsn hsn2 hpw hap hS hb2W HMO HMN HI HMR HBO HBN HMOW hsW hb2
    rw [hkk] at n0
    go_wp2_with (at_builtin; refine wpList_append_nets rfl _ _ rfl (w.heap.size + 2) ra rc ms mks s1 t1 rfl rfl HMRW.out HXS.out HK.out HP.out hl2 hwW ?_; intro a6 c6 w6 hmr6 hb6; obtain ⟨_,⟨_,_,_,y3⟩,_,_,_,f3⟩ := HBOW.out.below hb6 (Nat.lt_succ_self _); have HM6 : Hid (MRow w6 (w.heap.size + 2) (.slice a6 (ms.length + mks.length) c6) (ms ++ mks)) := hmr6; clear hmr6)
    all_goals
     try go_wp2
     refine ⟨⟨j + 1,ms ++ mks,a6,c6,by omega,by go_num,?_,?_,?_,HSN.out,?_⟩,by simp [intOf]; omega⟩
     ·exact (HBNW.out.below hb6 (by omega)).setO (by omega) _
     ·rw [List.length_append]
      exact (HBOW.out.below hb6 (Nat.lt_succ_self _)).set3 _
     ·rw [List.length_append]
      exact HM6.out.set (a := ⟨w.heap.size + 1,3,none⟩) (Nat.lt_succ_self _) _
     ·exact (hBW.trans (hb6.mono (by omega))).setCell (by simp) _
   ·rw [if_neg hkk] at hsn hft
    have hl2 : ms.length + [(MNet.mk mk mop mds (.slice s0 mds.length t0) (.slice s1 mks.length t1) mks)].length <= 1000000 := by
     simp only [List.length_append,List.length_map,List.length_singleton] at hft ⊢
     omega
    have hsn2 : (ms ++ [MNet.mk mk mop mds (.slice s0 mds.length t0) (.slice s1 mks.length t1) mks]).map MNet.net = Stil.flatKids k ((kids.take (j + 1)).map Stil.normNet) := by
     rw [hsn,List.map_append,List.map_singleton,MNet.net_eq]
    have hpw := hap [MNet.mk mk mop mds (.slice s0 mds.length t0) (.slice s1 mks.length t1) mks] (fun m hm => by rw [List.mem_singleton.1 hm]; exact HMO.out.1) (by rw [mVals_one]; exact HMO.out.2)
    have HP : Hid ((Value.slice ra ms.length rc :: (mVals ms ++ mVals [MNet.mk mk mop mds (.slice s0 mds.length t0) (.slice s1 mks.length t1) mks])).Pairwise Aside) := hpw
    have HK : Hid (∀ m ∈ [MNet.mk mk mop mds (.slice s0 mds.length t0) (.slice s1 mks.length t1) mks],MOk W (w.heap.size + 2) m) := fun m hm => by rw [List.mem_singleton.1 hm]; exact HMOW.out.1
    have HSN : Hid ((ms ++ [MNet.mk mk mop mds (.slice s0 mds.length t0) (.slice s1 mks.length t1) mks]).map MNet.net = Stil.flatKids k ((kids.take (j + 1)).map Stil.normNet)) := hsn2
    have ekk : (mk == k) = false := by rw [beq_eq_false_iff_ne]; exact hkk
    clear hW hft hsn hsn2 hpw hap hS hb2W HMO HMN HI HMR HBO HBN HMOW hsW hb2 hkk
    go_wp2_with (at_builtin; refine wpList_append_nets rfl _ _ rfl (w.heap.size + 2) ra rc ms [MNet.mk mk mop mds (.slice s0 mds.length t0) (.slice s1 mks.length t1) mks] (some ⟨W.heap.size,0,none⟩) 1 rfl rfl (HMRW.out.below (below_alloc _ _)) (fun _ => ⟨_,rfl,by exact cells4⟩) (fun m hm => (HK.out m hm).below (below_alloc _ _)) HP.out hl2 (by simp only [World.size_alloc]; omega) ?_; intro a6 c6 w6 hmr6 hb6; obtain ⟨_,⟨_,_,_,y3⟩,_,_,_,f3⟩ := (HBOW.out.below (below_alloc _ _) HBOW.out.1).below hb6 (Nat.lt_succ_self _); have HM6 : Hid (MRow w6 (w.heap.size + 2) (.slice a6 (ms.length + 1) c6) (ms ++ [MNet.mk mk mop mds (.slice s0 mds.length t0) (.slice s1 mks.length t1) mks])) := hmr6; clear hmr6)
    all_goals
     try go_wp2
     refine ⟨⟨j + 1,ms ++ [MNet.mk mk mop mds (.slice s0 mds.length t0) (.slice s1 mks.length t1) mks],a6,c6,by omega,by go_num,?_,?_,?_,HSN.out,?_⟩,by simp [intOf]; omega⟩
     ·exact ((HBNW.out.below (below_alloc _ _) HBNW.out.1).below hb6 (by omega)).setO (by omega) _
     ·rw [List.length_append]
      exact ((HBOW.out.below (below_alloc _ _) HBOW.out.1).below hb6 (Nat.lt_succ_self _)).set3 _
     ·rw [List.length_append]
      exact HM6.out.set (a := ⟨w.heap.size + 1,3,none⟩) (Nat.lt_succ_self _) _
     ·exact ((bl_alloc hBW _).trans (hb6.mono (by omega))).setCell (by simp) _
  ·obtain rfl : j = kids.length := by omega
   have hmn := HMN0.out
   rw [List.take_length] at hmn
   obtain ⟨_,⟨z0,z1,z2,z3⟩,e0,e1,e2,e3⟩ := HBN.out
   obtain ⟨_,⟨o0,o1,o2,o3⟩,_⟩ := HBO.out
   by_cases h1 : ms.length = 1
   ·obtain ⟨m,rfl⟩ := List.length_eq_one_iff.1 h1
    have hmo := HMR.out.one 0 (by simp)
    simp only [List.getElem_cons_zero] at hmo
    obtain ⟨g,c,hv,_,hlt2,_,hcell⟩ := ownsRow_cells HMR.out.1 (by simp)
    obtain ⟨a1,a2,a3,a4⟩ := mCells_get [m] 0 (by simp)
    have y0 := hcell _ _ a1
    have y1 := hcell _ _ a2
    have y2 := hcell _ _ a3
    have y3 := hcell _ _ a4
    simp only [List.getElem_cons_zero,Nat.zero_mul,Nat.zero_add] at y0 y1 y2 y3
    have hok := (MOk_iff _ _ _).1 hmo.1
    obtain ⟨d1,d2,hd⟩ := slice_of_owns hok.1
    obtain ⟨d3,d4,hd2⟩ := slice_of_owns hok.2.1
    simp only [Value.slice.injEq] at hv
    obtain ⟨rfl,_,rfl⟩ := hv
    have hbl : Stil.blockOf k (Stil.flatKids k (kids.map Stil.normNet)) = m.net := by rw [← hmn]; rfl
    have HBL : Hid (Stil.blockOf k (Stil.flatKids k (kids.map Stil.normNet)) = m.net) := hbl
    obtain ⟨mk,mop,mds,mav,mkv,mks⟩ := m
    simp only at hd hd2 y0 y1 y2 y3
    subst hd
    subst hd2
    have HMO : Hid (MOwn wr (w.heap.size + 2) ⟨mk,mop,mds,.slice d1 mds.length d2,.slice d3 mks.length d4,mks⟩) := hmo
    clear hmo hok hmn hbl hcell HMR
    simp only [List.length_singleton] at o3
    go_wp2
    refine bodyPost_ret (v := .agg #[.int .i64 mk,.int .i64 mop,.slice d1 mds.length d2,.slice d3 mks.length d4]) (by simp [results,Tryz.results123,go_sem,z0,z1,z2,z3]) rfl ⟨⟨mk,mop,mds,d1,d2,d3,d4,mks,rfl,?_,HBL.out.symm⟩,blA⟩
    refine MOwn.le (base := w.heap.size + 2) ?_ (by omega)
    repeat (refine MOwn.set ?_ (by first | (simp; done) | (simp; omega)) _)
    exact HMO.out
   ·have hbl : Stil.blockOf k (Stil.flatKids k (kids.map Stil.normNet)) = ⟨k,⟨0,[]⟩,ms.map MNet.net⟩ := by
     rw [← hmn]
     unfold Stil.blockOf
     rw [dif_neg (by simpa using h1)]
    have HBL : Hid (Stil.blockOf k (Stil.flatKids k (kids.map Stil.normNet)) = ⟨k,⟨0,[]⟩,ms.map MNet.net⟩) := hbl
    have hmo : MOwn wr (w.heap.size + 2) ⟨k,0,[],.slice none 0 0,.slice ra ms.length rc,ms⟩ := HMR.out.net k 0 [] (World.ownsRow_nil _ _ _ _) (fun x _ => aside_nil x)
    have HMO : Hid (MOwn wr (w.heap.size + 2) ⟨k,0,[],.slice none 0 0,.slice ra ms.length rc,ms⟩) := hmo
    have e1' : ((ms.length : Int) == 1) = false := by rw [beq_eq_false_iff_ne]; omega
    have e1'' : ¬ ((ms.length : Int) = 1) := by omega
    clear hmo hmn hbl HMR
    go_wp2
    refine bodyPost_ret (v := .agg #[.int .i64 k,.int .i64 0,.slice none 0 0,.slice ra ms.length rc]) (by simp [results,Tryz.results123,go_sem,z0,z1,z2,z3]) rfl ⟨⟨k,0,[],none,0,ra,rc,ms,rfl,?_,by rw [MNet.net_eq,HBL.out]⟩,blA⟩
    refine MOwn.le (base := w.heap.size + 2) ?_ (by omega)
    repeat (refine MOwn.set ?_ (by first | (simp; done) | (simp; omega)) _)
    exact HMO.out
end Go.Proofs.YtenoanhonjdpjaaGreatDoor
/- The specification's chapter 4: the normal form of one net: a NetNot. -/
namespace Go.Proofs.YtenoanhonjdpjaaGreatDoor
open Go.RowKit Go.Sort Go.BigFrame
theorem MOwn.set4 {w : World} {base b o1 o2 o3 o4 : Nat} {m : MNet} {u1 u2 u3 u4 : Value} (h : MOwn w base m) (hb : b < base) : MOwn ((((w.setCell ⟨b,o1,none⟩ u1).setCell ⟨b,o2,none⟩ u2).setCell ⟨b,o3,none⟩ u3).setCell ⟨b,o4,none⟩ u4) base m := ⟨h.1.set4 hb,h.2⟩
theorem MRow.single4 {w : World} {base b : Nat} {m : MNet} {u1 u2 u3 u4 : Value} (h : MOwn w base m) (hb : b < base) (hw : base <= w.heap.size) : MRow (((((w.setCell ⟨b,0,none⟩ u1).setCell ⟨b,1,none⟩ u2).setCell ⟨b,2,none⟩ u3).setCell ⟨b,3,none⟩ u4).alloc (.cells #[.int .i64 m.kind,.int .i64 m.op,m.av,m.kv] 33)) base (.slice (some ⟨w.heap.size,0,none⟩) 1 1) [m] := by
 have hm := MRow.single (w := (((w.setCell ⟨b,0,none⟩ u1).setCell ⟨b,1,none⟩ u2).setCell ⟨b,2,none⟩ u3).setCell ⟨b,3,none⟩ u4) (base := base) (m := m) (h.set4 hb) (by simp only [World.size_setCell]; exact hw)
 simpa only [World.size_setCell] using hm
set_option maxHeartbeats 4000000 in
set_option maxRecDepth 100000 in
theorem s_l4not (x : Stil.Net) (av kv : Value) (w : World) (hav : DevsAt w av []) (hkv : NetsAt w kv [x]) (hxw : ∀ (av kv : Value) (w : World),DevsAt w av x.one.args -> NetsAt w kv x.kids -> Calls Tryz.prog 93 #[.agg #[.int .i64 x.kind,.int .i64 x.one.op,av,kv]] w fun e w' => NetRet w' w.heap.size (Stil.normNet x) e ∧ Below w.heap.size w w') :
  Calls Tryz.prog 93 #[.agg #[.int .i64 4,.int .i64 0,av,kv]] w fun e' w' => NetRet w' w.heap.size (Stil.normNet ⟨4,⟨0,[]⟩,[x]⟩) e' ∧ Below w.heap.size w w' := by
 have HN : Hid (Stil.normNet ⟨4,⟨0,[]⟩,[x]⟩ = ⟨4,⟨0,[]⟩,[Stil.normNet x]⟩) := by show _ = _; rw [Stil.normNet_eq,if_neg (by omega)]; rfl
 obtain ⟨p1,r1,rfl,hx0⟩ := hkv
 obtain ⟨b,o,rfl,hbl,hn⟩ := hx0 0 (by simp)
 simp only [List.getElem_cons_zero,Nat.zero_mul,Nat.add_zero] at hn
 obtain ⟨x0,x1,xav,xkv,x2,x3,hxa,hxk⟩ := hn.open
 have HI : Hid (∀ W,Below w.heap.size w W -> Calls Tryz.prog 93 #[.agg #[.int .i64 x.kind,.int .i64 x.one.op,xav,xkv]] W fun e' w' => NetRet w' W.heap.size (Stil.normNet x) e' ∧ Below W.heap.size W w') := fun W hW => hxw xav xkv W (hxa.below hW) (hxk.below hW)
 obtain ⟨p0,r0,rfl,hz8⟩ := hav
 obtain ⟨p2,r2,rfl,hz7⟩ := hxa
 obtain ⟨p3,r3,rfl,hz9⟩ := hxk
 clear hz8 hz7 hz9
 obtain ⟨N,hN⟩ : ∃ N,N = Stil.normNet x := ⟨_,rfl⟩
 rw [← hN] at HI HN
 clear hxw hN hn hx0
 go_enter Tryz.func93,Tryz.ntmps93
 go_upto_region 6 with fail
 obtain ⟨W,hW⟩ : ∃ W,W = (w.alloc (.cells #[.int .i64 4,.int .i64 0,.slice p0 0 r0,.slice (some ⟨b,o,none⟩) 1 r1] 33)).alloc (.cells #[.int .i64 0,.int .i64 0,.slice none 0 0,.slice none 0 0] 33) := ⟨_,rfl⟩
 rw [← hW]
 have q0 : W.cell? ⟨w.heap.size,0,none⟩ = some (.int .i64 4) := by rw [hW]; simp [go_sem]
 have q1 : W.cell? ⟨w.heap.size,1,none⟩ = some (.int .i64 0) := by rw [hW]; simp [go_sem]
 have q2 : W.cell? ⟨w.heap.size,2,none⟩ = some (.slice p0 0 r0) := by rw [hW]; simp [go_sem]
 have q3 : W.cell? ⟨w.heap.size,3,none⟩ = some (.slice (some ⟨b,o,none⟩) 1 r1) := by rw [hW]; simp [go_sem]
 have tt0 : W.cell? ⟨w.heap.size + 1,0,none⟩ = some (.int .i64 0) := by rw [hW]; simp [go_sem]
 have tt1 : W.cell? ⟨w.heap.size + 1,1,none⟩ = some (.int .i64 0) := by rw [hW]; simp [go_sem]
 have tt2 : W.cell? ⟨w.heap.size + 1,2,none⟩ = some (.slice none 0 0) := by rw [hW]; simp [go_sem]
 have tt3 : W.cell? ⟨w.heap.size + 1,3,none⟩ = some (.slice none 0 0) := by rw [hW]; simp [go_sem]
 have v0 : W.frozen? ⟨w.heap.size + 1,0,none⟩ = false := by rw [hW]; simp [go_sem]
 have v1 : W.frozen? ⟨w.heap.size + 1,1,none⟩ = false := by rw [hW]; simp [go_sem]
 have v2 : W.frozen? ⟨w.heap.size + 1,2,none⟩ = false := by rw [hW]; simp [go_sem]
 have v3 : W.frozen? ⟨w.heap.size + 1,3,none⟩ = false := by rw [hW]; simp [go_sem]
 have hsW : W.heap.size = w.heap.size + 2 := by rw [hW]; simp
 have hBW : Below w.heap.size w W := by rw [hW]; exact bl_alloc (below_alloc _ _) _
 have HSW : Hid (W.heap.size = w.heap.size + 2) := hsW
 have hl0 : w.heap.size < W.heap.size := by omega
 have hl1 : w.heap.size + 1 < W.heap.size := by omega
 have x0 : W.cell? ⟨b,o,none⟩ = some (.int .i64 x.kind) := (hBW.cell (p := ⟨b,o,none⟩) hbl).trans x0
 have x1 : W.cell? ⟨b,o + 1,none⟩ = some (.int .i64 x.one.op) := (hBW.cell (p := ⟨b,o + 1,none⟩) hbl).trans x1
 have x2 : W.cell? ⟨b,o + 2,none⟩ = some (.slice p2 x.one.args.length r2) := (hBW.cell (p := ⟨b,o + 2,none⟩) hbl).trans x2
 have x3 : W.cell? ⟨b,o + 3,none⟩ = some (.slice p3 x.kids.length r3) := (hBW.cell (p := ⟨b,o + 3,none⟩) hbl).trans x3
 clear hW hsW
 go_region_law (go_simp; go_at_call 93; refine (HI.out _ (by exact hBW.drew)).mono ?_; rintro e w1 ⟨⟨mk,mop,mds,s0,t0,s1,t1,mks,rfl,hmo,hmn⟩,hb1⟩; have hb5 : Below W.heap.size W w1 := ((Below.refl W.heap.size W).drew).trans hb1; have hz5 : w.heap.size + 2 <= w1.heap.size := (by have := HSW.out; have := hb5.size; omega); have hz6 : w.heap.size + 1 < w1.heap.size := (by omega); have hz7 : w.heap.size < w1.heap.size := (by omega); have HMO : Hid (MOwn w1 W.heap.size ⟨mk,mop,mds,.slice s0 mds.length t0,.slice s1 mks.length t1,mks⟩) := hmo; have HMN : Hid ((MNet.mk mk mop mds (.slice s0 mds.length t0) (.slice s1 mks.length t1) mks).net = N) := hmn; clear hmo hmn; have y0 : w1.cell? ⟨w.heap.size,0,none⟩ = some (.int .i64 4) := (hb5.cell (p := ⟨w.heap.size,0,none⟩) hl0).trans q0; have y1 : w1.cell? ⟨w.heap.size,1,none⟩ = some (.int .i64 0) := (hb5.cell (p := ⟨w.heap.size,1,none⟩) hl0).trans q1; have y2 : w1.cell? ⟨w.heap.size,2,none⟩ = some (.slice p0 0 r0) := (hb5.cell (p := ⟨w.heap.size,2,none⟩) hl0).trans q2; have y3 : w1.cell? ⟨w.heap.size,3,none⟩ = some (.slice (some ⟨b,o,none⟩) 1 r1) := (hb5.cell (p := ⟨w.heap.size,3,none⟩) hl0).trans q3; have z0 : w1.cell? ⟨w.heap.size + 1,0,none⟩ = some (.int .i64 0) := (hb5.cell (p := ⟨w.heap.size + 1,0,none⟩) hl1).trans tt0; have z1 : w1.cell? ⟨w.heap.size + 1,1,none⟩ = some (.int .i64 0) := (hb5.cell (p := ⟨w.heap.size + 1,1,none⟩) hl1).trans tt1; have z2 : w1.cell? ⟨w.heap.size + 1,2,none⟩ = some (.slice none 0 0) := (hb5.cell (p := ⟨w.heap.size + 1,2,none⟩) hl1).trans tt2; have z3 : w1.cell? ⟨w.heap.size + 1,3,none⟩ = some (.slice none 0 0) := (hb5.cell (p := ⟨w.heap.size + 1,3,none⟩) hl1).trans tt3; have f0 : w1.frozen? ⟨w.heap.size + 1,0,none⟩ = false := (hb5.frozen (p := ⟨w.heap.size + 1,0,none⟩) hl1).trans v0; have f1 : w1.frozen? ⟨w.heap.size + 1,1,none⟩ = false := (hb5.frozen (p := ⟨w.heap.size + 1,1,none⟩) hl1).trans v1; have f2 : w1.frozen? ⟨w.heap.size + 1,2,none⟩ = false := (hb5.frozen (p := ⟨w.heap.size + 1,2,none⟩) hl1).trans v2; have f3 : w1.frozen? ⟨w.heap.size + 1,3,none⟩ = false := (hb5.frozen (p := ⟨w.heap.size + 1,3,none⟩) hl1).trans v3)
 all_goals
  try go_wp2
  refine bodyPost_ret (v := .agg #[.int .i64 4,.int .i64 0,.slice none 0 0,.slice (some ⟨w1.heap.size,0,none⟩) 1 1]) (by simp [results,Tryz.results93,go_sem,z0,z1,z2,z3,hz6]) rfl ⟨⟨4,0,[],none,0,some ⟨w1.heap.size,0,none⟩,1,[⟨mk,mop,mds,.slice s0 mds.length t0,.slice s1 mks.length t1,mks⟩],rfl,?_,by rw [MNet.net_eq,HN.out,← HMN.out]; rfl⟩,?_⟩
  ·refine MOwn.le (base := w.heap.size + 2) ?_ (by omega)
   exact (MRow.single4 (HMO.out.le (by have := HSW.out; omega)) (Nat.lt_succ_self _) hz5).net 4 0 [] (World.ownsRow_nil _ _ _ _) (fun x _ => aside_nil x)
  ·have hB5 : Below w.heap.size w w1 := hBW.trans (hb5.mono hBW.size)
   (repeat (first | with_reducible exact Below.refl _ _ | with_reducible assumption | with_reducible refine bl_set (by first | exact Nat.le_refl _ | (simp; done) | (simp; omega) | omega) ?_ _ | with_reducible refine bl_alloc ?_ _ | with_reducible refine bl_drewN ?_ _ | with_reducible refine bl_drew ?_ | with_reducible refine bl_grow ?_ _ _ | with_reducible refine bl_call ?_ (by assumption)))
end Go.Proofs.YtenoanhonjdpjaaGreatDoor
/- The specification's chapter 4: the normal form of one net: a contact. -/
namespace Go.Proofs.YtenoanhonjdpjaaGreatDoor
open Go.RowKit Go.Sort Go.BigFrame
theorem aside_nils (av x : Value) (hx : x ∈ Value.slice none 0 0 :: mVals []) : Aside av x := by
 rcases List.mem_cons.1 hx with rfl | hx
 ·exact (aside_nil _).symm
 ·cases hx
set_option maxHeartbeats 4000000 in
set_option maxRecDepth 100000 in
theorem s_l4one (e : Stil.Elem) (av kv : Value) (w : World) (hav : DevsAt w av e.args) (hkv : NetsAt w kv []) (hla : e.args.length <= 1048576) :
  Calls Tryz.prog 93 #[.agg #[.int .i64 1,.int .i64 e.op,av,kv]] w fun e' w' => NetRet w' w.heap.size (Stil.normNet ⟨1,e,[]⟩) e' ∧ Below w.heap.size w w' := by
 have HN : Hid (Stil.normNet ⟨1,e,[]⟩ = ⟨1,e,[]⟩) := by show _ = _; rw [Stil.normNet_eq,if_neg (by omega)]; rfl
 have HDA : Hid (∀ W,Below w.heap.size w W -> DevsAt W av e.args) := fun W h => hav.below h
 obtain ⟨p0,r0,rfl,hz8⟩ := hav
 obtain ⟨p1,r1,rfl,hz9⟩ := hkv
 clear hz8 hz9
 go_enter Tryz.func93,Tryz.ntmps93
 go_upto_region 7 with fail
 obtain ⟨W,hW⟩ : ∃ W,W = (w.alloc (.cells #[.int .i64 1,.int .i64 e.op,.slice p0 e.args.length r0,.slice p1 0 r1] 33)).alloc (.cells #[.int .i64 0,.int .i64 0,.slice none 0 0,.slice none 0 0] 33) := ⟨_,rfl⟩
 rw [← hW]
 have q0 : W.cell? ⟨w.heap.size,0,none⟩ = some (.int .i64 1) := by rw [hW]; simp [go_sem]
 have q1 : W.cell? ⟨w.heap.size,1,none⟩ = some (.int .i64 e.op) := by rw [hW]; simp [go_sem]
 have q2 : W.cell? ⟨w.heap.size,2,none⟩ = some (.slice p0 e.args.length r0) := by rw [hW]; simp [go_sem]
 have q3 : W.cell? ⟨w.heap.size,3,none⟩ = some (.slice p1 0 r1) := by rw [hW]; simp [go_sem]
 have t0 : W.cell? ⟨w.heap.size + 1,0,none⟩ = some (.int .i64 0) := by rw [hW]; simp [go_sem]
 have t1 : W.cell? ⟨w.heap.size + 1,1,none⟩ = some (.int .i64 0) := by rw [hW]; simp [go_sem]
 have t2 : W.cell? ⟨w.heap.size + 1,2,none⟩ = some (.slice none 0 0) := by rw [hW]; simp [go_sem]
 have t3 : W.cell? ⟨w.heap.size + 1,3,none⟩ = some (.slice none 0 0) := by rw [hW]; simp [go_sem]
 have v0 : W.frozen? ⟨w.heap.size + 1,0,none⟩ = false := by rw [hW]; simp [go_sem]
 have v1 : W.frozen? ⟨w.heap.size + 1,1,none⟩ = false := by rw [hW]; simp [go_sem]
 have v2 : W.frozen? ⟨w.heap.size + 1,2,none⟩ = false := by rw [hW]; simp [go_sem]
 have v3 : W.frozen? ⟨w.heap.size + 1,3,none⟩ = false := by rw [hW]; simp [go_sem]
 have hsW : W.heap.size = w.heap.size + 2 := by rw [hW]; simp
 have hBW : Below w.heap.size w W := by rw [hW]; exact bl_alloc (below_alloc _ _) _
 have HSW : Hid (W.heap.size = w.heap.size + 2) := hsW
 have hl0 : w.heap.size < W.heap.size := by omega
 have hl1 : w.heap.size + 1 < W.heap.size := by omega
 clear hW hsW
 go_region_law (refine step_append_devs rfl _ _ rfl (w.heap.size + 2) _ e.args rfl (by exact (World.ownsRow_lit W #[] 0 (by have := HSW.out; omega) (by unfold maxLen; omega) rfl).drew) _ _ rfl (HDA.out _ (by exact (bl_alloc hBW _).drew)) hla (by have := HSW.out; simp; omega) ?_; intro v5 w5 hown5 hgr5; obtain ⟨a5,c5,hv5⟩ := slice_of_owns hown5; subst hv5; have hb5 : Below W.heap.size W w5 := (below_alloc W _).drew.grown hgr5 (by simp) (fun k hk => by cases hk; exact Nat.le_refl _); have hz5 : w.heap.size + 2 <= w5.heap.size := (by have := HSW.out; have := hb5.size; omega); have y0 : w5.cell? ⟨w.heap.size,0,none⟩ = some (.int .i64 1) := (hb5.cell (p := ⟨w.heap.size,0,none⟩) (by have := HSW.out; show w.heap.size < W.heap.size; omega)).trans q0; have y1 : w5.cell? ⟨w.heap.size,1,none⟩ = some (.int .i64 e.op) := (hb5.cell (p := ⟨w.heap.size,1,none⟩) (by have := HSW.out; show w.heap.size < W.heap.size; omega)).trans q1; have y2 : w5.cell? ⟨w.heap.size,2,none⟩ = some (.slice p0 e.args.length r0) := (hb5.cell (p := ⟨w.heap.size,2,none⟩) (by have := HSW.out; show w.heap.size < W.heap.size; omega)).trans q2; have y3 : w5.cell? ⟨w.heap.size,3,none⟩ = some (.slice p1 0 r1) := (hb5.cell (p := ⟨w.heap.size,3,none⟩) (by have := HSW.out; show w.heap.size < W.heap.size; omega)).trans q3; have z0 : w5.cell? ⟨w.heap.size + 1,0,none⟩ = some (.int .i64 0) := (hb5.cell (p := ⟨w.heap.size + 1,0,none⟩) (by have := HSW.out; show w.heap.size + 1 < W.heap.size; omega)).trans t0; have z1 : w5.cell? ⟨w.heap.size + 1,1,none⟩ = some (.int .i64 0) := (hb5.cell (p := ⟨w.heap.size + 1,1,none⟩) (by have := HSW.out; show w.heap.size + 1 < W.heap.size; omega)).trans t1; have z2 : w5.cell? ⟨w.heap.size + 1,2,none⟩ = some (.slice none 0 0) := (hb5.cell (p := ⟨w.heap.size + 1,2,none⟩) (by have := HSW.out; show w.heap.size + 1 < W.heap.size; omega)).trans t2; have z3 : w5.cell? ⟨w.heap.size + 1,3,none⟩ = some (.slice none 0 0) := (hb5.cell (p := ⟨w.heap.size + 1,3,none⟩) (by have := HSW.out; show w.heap.size + 1 < W.heap.size; omega)).trans t3; have f0 : w5.frozen? ⟨w.heap.size + 1,0,none⟩ = false := (hb5.frozen (p := ⟨w.heap.size + 1,0,none⟩) (by have := HSW.out; show w.heap.size + 1 < W.heap.size; omega)).trans v0; have f1 : w5.frozen? ⟨w.heap.size + 1,1,none⟩ = false := (hb5.frozen (p := ⟨w.heap.size + 1,1,none⟩) (by have := HSW.out; show w.heap.size + 1 < W.heap.size; omega)).trans v1; have f2 : w5.frozen? ⟨w.heap.size + 1,2,none⟩ = false := (hb5.frozen (p := ⟨w.heap.size + 1,2,none⟩) (by have := HSW.out; show w.heap.size + 1 < W.heap.size; omega)).trans v2; have f3 : w5.frozen? ⟨w.heap.size + 1,3,none⟩ = false := (hb5.frozen (p := ⟨w.heap.size + 1,3,none⟩) (by have := HSW.out; show w.heap.size + 1 < W.heap.size; omega)).trans v3)
 all_goals
  try go_wp2
  refine bodyPost_ret (v := .agg #[.int .i64 1,.int .i64 e.op,.slice a5 e.args.length c5,.slice none 0 0]) (by simp [results,Tryz.results93,go_sem,z0,z1,z2,z3]) rfl ⟨⟨1,e.op,e.args,a5,c5,none,0,[],rfl,?_,by rw [MNet.net_eq,HN.out]; rfl⟩,?_⟩
  ·refine MOwn.le (base := w.heap.size + 2) ?_ (by omega)
   repeat (refine MOwn.set ?_ (by first | (simp; done) | (simp; omega)) _)
   exact (MRow.nil w5 (w.heap.size + 2)).net 1 e.op e.args hown5 (fun x hx => aside_nils _ x hx)
  ·have hB5 : Below w.heap.size w w5 := hBW.trans (hb5.mono hBW.size)
   (repeat (first | with_reducible exact Below.refl _ _ | with_reducible assumption | with_reducible refine bl_set (by first | exact Nat.le_refl _ | (simp; done) | (simp; omega) | omega) ?_ _ | with_reducible refine bl_alloc ?_ _ | with_reducible refine bl_drewN ?_ _ | with_reducible refine bl_drew ?_ | with_reducible refine bl_grow ?_ _ _ | with_reducible refine bl_call ?_ (by assumption)))
end Go.Proofs.YtenoanhonjdpjaaGreatDoor
/- The specification's chapter 4: the normal form of one net. -/
namespace Go.Proofs.YtenoanhonjdpjaaGreatDoor
open Go.RowKit Go.Sort Go.BigFrame
set_option maxHeartbeats 2000000 in
set_option maxRecDepth 100000 in
theorem s_l4Net (n : Stil.Net) : Stil.netFits n -> Stil.netWrong n = 0 -> Stil.netSize n <= 1000000 -> ∀ (av kv : Value) (w : World),DevsAt w av n.one.args -> NetsAt w kv n.kids -> Calls Tryz.prog 93 #[.agg #[.int .i64 n.kind,.int .i64 n.one.op,av,kv]] w fun e w' => NetRet w' w.heap.size (Stil.normNet n) e ∧ Below w.heap.size w w' := by
 induction n using Stil.net_ind with
 | h k e kids ih =>
  intro hft hwr hsz av kv w hav hkv
  obtain ⟨_,he,hl,hk⟩ := (Stil.netFits_eq _ _ _).1 hft
  obtain ⟨hs1,hs2⟩ := Stil.kids_sizes hsz
  simp only at hav hkv
  rcases Stil.right_parts hwr with ⟨rfl,rfl⟩ | ⟨hk23,hpos,hkw⟩ | ⟨rfl,rfl,x,rfl,hxw⟩
  ·exact s_l4one e av kv w hav hkv he.2.1
  ·have HI : Hid (∀ W,Below w.heap.size w W -> Calls Tryz.prog 123 #[.int .i64 k,kv] W fun e' w' => NetRet w' W.heap.size (Stil.normNet ⟨k,e,kids⟩) e' ∧ Below W.heap.size W w') := by
    intro W hW
    have := s_flat k kids (fun x hx => ih x hx (hk x hx) (hkw x hx) (hs2 x hx)) kv W (hkv.below hW) hl hs1
    rw [Stil.normNet_eq,if_pos hk23]
    exact this
   obtain ⟨p0,r0,rfl,_⟩ := hav
   obtain ⟨p1,r1,rfl,_⟩ := hkv
   obtain ⟨N,hN⟩ : ∃ N,N = Stil.normNet ⟨k,e,kids⟩ := ⟨_,rfl⟩
   rw [← hN] at HI ⊢
   clear ih hft he hl hk hwr hsz hs1 hs2 hkw hpos hN
   rcases hk23 with rfl | rfl
   all_goals
    go_enter Tryz.func93,Tryz.ntmps93
    go_wp2_with (go_at_call 123; refine (HI.out _ blA).mono ?_; rintro e w1 ⟨⟨mk,mop,mds,s0,t0,s1,t1,mks,rfl,hmo,hmn⟩,hb1⟩; obtain ⟨hc,hf⟩ := bcell hb1; have HMO : Hid (MOwn w1 _ ⟨mk,mop,mds,.slice s0 mds.length t0,.slice s1 mks.length t1,mks⟩) := hmo; have HMN : Hid ((MNet.mk mk mop mds (.slice s0 mds.length t0) (.slice s1 mks.length t1) mks).net = N) := hmn; clear hmo hmn; have hza : w.heap.size < w1.heap.size := Nat.lt_of_lt_of_le (by simp; omega) hb1.size; have hzb : w.heap.size + 1 < w1.heap.size := Nat.lt_of_lt_of_le (by simp) hb1.size)
    have b0 : w1.cell? ⟨w.heap.size + 1,0,none⟩ = some (.int .i64 0) := by rw [hc _ _ (by simp)]; simp [go_sem]
    have b1 : w1.cell? ⟨w.heap.size + 1,1,none⟩ = some (.int .i64 0) := by rw [hc _ _ (by simp)]; simp [go_sem]
    have b2 : w1.cell? ⟨w.heap.size + 1,2,none⟩ = some (.slice none 0 0) := by rw [hc _ _ (by simp)]; simp [go_sem]
    have b3 : w1.cell? ⟨w.heap.size + 1,3,none⟩ = some (.slice none 0 0) := by rw [hc _ _ (by simp)]; simp [go_sem]
    refine bodyPost_ret (v := .agg #[.int .i64 mk,.int .i64 mop,.slice s0 mds.length t0,.slice s1 mks.length t1]) (by simp [results,Tryz.results93,go_sem,b0,b1,b2,b3]) rfl ⟨⟨mk,mop,mds,s0,t0,s1,t1,mks,rfl,?_,HMN.out⟩,blA⟩
    refine MOwn.le (base := w.heap.size + 2) ?_ (by omega)
    repeat (refine MOwn.set ?_ (by first | (simp; done) | (simp; omega)) _)
    exact HMO.out.le (by simp)
  ·exact s_l4not x av kv w hav hkv (ih x (by simp) (hk x (by simp)) hxw (hs2 x (by simp)))
end Go.Proofs.YtenoanhonjdpjaaGreatDoor
