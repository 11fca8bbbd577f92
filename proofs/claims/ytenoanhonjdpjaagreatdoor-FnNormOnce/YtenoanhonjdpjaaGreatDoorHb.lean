/- D19a,D19: texts put together. -/
import Derived.Test.YtenoanhonjdpjaaGreatDoorG6
import Derived.Test.YtenoanhonjdpjaaGreatDoorHa
set_option maxHeartbeats 4000000
set_option maxRecDepth 100000
/- A list of contacts and coils,a list of arms is copied behind an empty one. -/
namespace Go.Proofs.YtenoanhonjdpjaaGreatDoor
open Go.RowKit Go.Sort Go.BigFrame
/-- A list of contacts and coils is copied. -/
theorem step_copy_elems {ops : Array Oper} {o : Oper} {a : Act} {w : World} {K : Act → World → Prop} {Q : Exit → Act → World → Prop} {E : Prop}
  (hg : o.guard = none) (s x : Operand) (hop : o.op = .call { callee := .builtin .append,args := #[s,x],argTypes := #[34,34] })
  (R : Nat → Prop) (W : World) (ns : List Stil.Elem) (kv : Value) (hs : a.eval s = .slice (some ⟨W.heap.size,0,none⟩) 0 0) (hx : a.eval x = kv) (hw : w = W.alloc (.cells #[] 30))
  (hk : ElemsIn R W kv ns) (hl : ns.length ≤ 100000)
  (hK : ∀ bb c w' xs,w'.ownsRow W.heap.size 30 2 (.slice (some ⟨bb,0,none⟩) ns.length c) ns.length xs → RowOf 2 (ElemC (fun b => R b ∧ b < W.heap.size) w') xs ns → W.heap.size ≤ bb → bb < w'.heap.size → w.grownBy w' (some W.heap.size) → K (a.put o.dst (.slice (some ⟨bb,0,none⟩) ns.length c)) w') :
  if Region.wanted o (yielded ops a.tmps) = true then Oper.wp Tryz.prog o a w K Q else E := by
 obtain ⟨i0,hi,hz0,hz1,hz2⟩ := info_parts info_elem
 have hk2 : ElemsIn (fun b => R b ∧ b < W.heap.size) w kv ns := by
  rw [hw]
  exact (hk.mono fun b hb h => ⟨h,hb⟩).keep (KeepsIn.of_below (below_alloc _ _))
 have hsz : w.heap.size = W.heap.size + 1 := by rw [hw]; simp
 have ho : w.ownsRow W.heap.size 30 2 (.slice (some ⟨W.heap.size,0,none⟩) 0 0) 0 [] := by
  rw [hw]
  have := World.ownsRow_lit (base := W.heap.size) (e := 30) (size := 2) W #[] 0 (by omega) (by unfold maxLen; omega) rfl
  simpa using this
 obtain ⟨ad,cap,hv,hq,xs,hrow,hcell⟩ := row_of_elems hk2
 subst hv
 by_cases hd : ns.length = 0
 ·have hn : ns = [] := List.length_eq_zero_iff.1 hd
  subst hn
  have hwt : Region.wanted o (yielded ops a.tmps) = true := by simp [Region.wanted,hg]
  rw [if_pos hwt]
  have hx0 : xs = [] := by have := hrow.1; simpa using this
  subst hx0
  have hk3 := hK W.heap.size 0 w [] ho (RowOf.nil _ _) (Nat.le_refl _) (by omega) (grown_refl _ _)
  simp only [List.length_nil] at hk3 hx
  unfold Oper.wp execOp
  cases ad
  ·have e : Sem.run Tryz.prog (Builtin.append_ #[34,34] o.type #[.slice (some ⟨W.heap.size,0,none⟩) 0 0,.slice none 0 cap]) w = .ok (.slice (some ⟨W.heap.size,0,none⟩) 0 0) w := by simp [Builtin.append_,go_sem]
   simp only [hop,resolve,invoke,builtin,Sem.run_bind,Sem.run_pure,Result.andThen_ok,List.map_toArray,List.map_cons,List.map_nil,hs,hx,e]
   exact hk3
  ·rename_i t1
   have e : Sem.run Tryz.prog (Builtin.append_ #[34,34] o.type #[.slice (some ⟨W.heap.size,0,none⟩) 0 0,.slice (some t1) 0 cap]) w = .ok (.slice (some ⟨W.heap.size,0,none⟩) 0 0) w := by simp [Builtin.append_,go_sem]
   simp only [hop,resolve,invoke,builtin,Sem.run_bind,Sem.run_pure,Result.andThen_ok,List.map_toArray,List.map_cons,List.map_nil,hs,hx,e]
   exact hk3
 ·obtain ⟨p,rfl⟩ : ∃ p,ad = some p := by
   cases ad with
   | none => exact absurd (hq.2 rfl) (by have := hq.1; omega)
   | some p => exact ⟨p,rfl⟩
  refine step_append_at hg s x _ hop W.heap.size 30 i0 _ 2 32 Tryz.underlying34 hi hz0 hz1 hz2 rfl (by decide) _ _ [] hs ho _ _ _ xs hx hrow.1 (hcell _ rfl) ?_ (by unfold maxLen; omega) (by omega) (by omega) ?_
  ·intro u hu
   obtain ⟨j,hj⟩ := List.getElem?_of_mem hu
   have hjl : j < ns.length * 2 := by rw [← hrow.1]; exact (List.getElem?_eq_some_iff.1 hj).1
   obtain ⟨av,he,hav⟩ := hrow.2 (j / 2) (by omega)
   have hm : xs[j]? = ((xs.drop (j / 2 * 2)).take 2)[j % 2]? := by
    rw [List.getElem?_take,if_pos (by omega),List.getElem?_drop,Nat.mul_comm,Nat.div_add_mod]
   rw [hm,he] at hj
   obtain ⟨p1,c1,rfl,_⟩ := hav
   have : u ∈ [Value.int .i64 ns[j / 2].op,.slice p1 ns[j / 2].args.length c1] := List.mem_of_getElem? hj
   simp only [List.mem_cons,List.not_mem_nil,or_false] at this
   rcases this with rfl | rfl <;> rfl
  ·intro v' w' h1 h2 h3
   simp only [Nat.zero_add,List.nil_append] at h1
   obtain ⟨bb,c,rfl,hb1,hb2,_,_⟩ := ownsRow_cells h1 (by omega)
   have h4 : w.grownBy w' (some W.heap.size) := h2
   exact hK bb c w' xs h1 (hrow.imp fun _ _ _ h => h.keep (KeepsIn.of_grown h4 (fun b hb e => by simp only [Option.some.injEq] at e; exact absurd hb.2 (by omega)))) hb1 hb2 h4
theorem wpList_copy_elems {ops : Array Oper} {rest : List Oper} {o : Oper} {a : Act} {w : World} {Q : Exit → Act → World → Prop}
  (hg : o.guard = none) (s x : Operand) (hop : o.op = .call { callee := .builtin .append,args := #[s,x],argTypes := #[34,34] })
  (R : Nat → Prop) (W : World) (ns : List Stil.Elem) (kv : Value) (hs : a.eval s = .slice (some ⟨W.heap.size,0,none⟩) 0 0) (hx : a.eval x = kv) (hw : w = W.alloc (.cells #[] 30))
  (hk : ElemsIn R W kv ns) (hl : ns.length ≤ 100000)
  (h : ∀ bb c w' xs,w'.ownsRow W.heap.size 30 2 (.slice (some ⟨bb,0,none⟩) ns.length c) ns.length xs → RowOf 2 (ElemC (fun b => R b ∧ b < W.heap.size) w') xs ns → W.heap.size ≤ bb → bb < w'.heap.size → w.grownBy w' (some W.heap.size) → wpList Tryz.prog ops Q rest (a.put o.dst (.slice (some ⟨bb,0,none⟩) ns.length c)) w') :
  wpList Tryz.prog ops Q (o :: rest) a w := by
 refine wpList_plain hg fun K hK => ?_
 have hw' : Region.wanted o (yielded #[] a.tmps) = true := by simp [Region.wanted,hg]
 have := step_copy_elems (ops := #[]) (K := K) (Q := Q) (E := True) hg s x hop R W ns kv hs hx hw hk hl (fun bb c w' xs h1 h2 h3 h4 h5 => hK _ _ (h bb c w' xs h1 h2 h3 h4 h5))
 rwa [if_pos hw'] at this
/-- A list of arms is copied. -/
theorem step_copy_arms {ops : Array Oper} {o : Oper} {a : Act} {w : World} {K : Act → World → Prop} {Q : Exit → Act → World → Prop} {E : Prop}
  (hg : o.guard = none) (s x : Operand) (hop : o.op = .call { callee := .builtin .append,args := #[s,x],argTypes := #[23,23] })
  (R : Nat → Prop) (W : World) (ns : List Stil.Arm) (kv : Value) (hs : a.eval s = .slice (some ⟨W.heap.size,0,none⟩) 0 0) (hx : a.eval x = kv) (hw : w = W.alloc (.cells #[] 36))
  (hk : ArmsIn R W kv ns) (hl : ns.length ≤ 100000)
  (hK : ∀ bb c w' xs,w'.ownsRow W.heap.size 36 6 (.slice (some ⟨bb,0,none⟩) ns.length c) ns.length xs → RowOf 6 (ArmC (fun b => R b ∧ b < W.heap.size) w') xs ns → W.heap.size ≤ bb → bb < w'.heap.size → w.grownBy w' (some W.heap.size) → K (a.put o.dst (.slice (some ⟨bb,0,none⟩) ns.length c)) w') :
  if Region.wanted o (yielded ops a.tmps) = true then Oper.wp Tryz.prog o a w K Q else E := by
 obtain ⟨i0,hi,hz0,hz1,hz2⟩ := info_parts info_arm
 have hk2 : ArmsIn (fun b => R b ∧ b < W.heap.size) w kv ns := by
  rw [hw]
  exact (hk.mono fun b hb h => ⟨h,hb⟩).keep (KeepsIn.of_below (below_alloc _ _))
 have hsz : w.heap.size = W.heap.size + 1 := by rw [hw]; simp
 have ho : w.ownsRow W.heap.size 36 6 (.slice (some ⟨W.heap.size,0,none⟩) 0 0) 0 [] := by
  rw [hw]
  have := World.ownsRow_lit (base := W.heap.size) (e := 36) (size := 6) W #[] 0 (by omega) (by unfold maxLen; omega) rfl
  simpa using this
 obtain ⟨ad,cap,hv,hq,xs,hrow,hcell⟩ := row_of_arms hk2
 subst hv
 by_cases hd : ns.length = 0
 ·have hn : ns = [] := List.length_eq_zero_iff.1 hd
  subst hn
  have hwt : Region.wanted o (yielded ops a.tmps) = true := by simp [Region.wanted,hg]
  rw [if_pos hwt]
  have hx0 : xs = [] := by have := hrow.1; simpa using this
  subst hx0
  have hk3 := hK W.heap.size 0 w [] ho (RowOf.nil _ _) (Nat.le_refl _) (by omega) (grown_refl _ _)
  simp only [List.length_nil] at hk3 hx
  unfold Oper.wp execOp
  cases ad
  ·have e : Sem.run Tryz.prog (Builtin.append_ #[23,23] o.type #[.slice (some ⟨W.heap.size,0,none⟩) 0 0,.slice none 0 cap]) w = .ok (.slice (some ⟨W.heap.size,0,none⟩) 0 0) w := by simp [Builtin.append_,go_sem]
   simp only [hop,resolve,invoke,builtin,Sem.run_bind,Sem.run_pure,Result.andThen_ok,List.map_toArray,List.map_cons,List.map_nil,hs,hx,e]
   exact hk3
  ·rename_i t1
   have e : Sem.run Tryz.prog (Builtin.append_ #[23,23] o.type #[.slice (some ⟨W.heap.size,0,none⟩) 0 0,.slice (some t1) 0 cap]) w = .ok (.slice (some ⟨W.heap.size,0,none⟩) 0 0) w := by simp [Builtin.append_,go_sem]
   simp only [hop,resolve,invoke,builtin,Sem.run_bind,Sem.run_pure,Result.andThen_ok,List.map_toArray,List.map_cons,List.map_nil,hs,hx,e]
   exact hk3
 ·obtain ⟨p,rfl⟩ : ∃ p,ad = some p := by
   cases ad with
   | none => exact absurd (hq.2 rfl) (by have := hq.1; omega)
   | some p => exact ⟨p,rfl⟩
  refine step_append_at hg s x _ hop W.heap.size 36 i0 _ 6 112 Tryz.underlying23 hi hz0 hz1 hz2 rfl (by decide) _ _ [] hs ho _ _ _ xs hx hrow.1 (hcell _ rfl) ?_ (by unfold maxLen; omega) (by omega) (by omega) ?_
  ·intro u hu
   obtain ⟨j,hj⟩ := List.getElem?_of_mem hu
   have hjl : j < ns.length * 6 := by rw [← hrow.1]; exact (List.getElem?_eq_some_iff.1 hj).1
   obtain ⟨av,nv,cv,kv,he,hav,hnv,hcv,hkv⟩ := hrow.2 (j / 6) (by omega)
   have hm : xs[j]? = ((xs.drop (j / 6 * 6)).take 6)[j % 6]? := by
    rw [List.getElem?_take,if_pos (by omega),List.getElem?_drop,Nat.mul_comm,Nat.div_add_mod]
   rw [hm,he] at hj
   obtain ⟨p1,c1,rfl,_⟩ := hav
   obtain ⟨p2,c2,rfl,_⟩ := hnv
   obtain ⟨p3,c3,rfl,_⟩ := hcv
   obtain ⟨p4,c4,rfl,_⟩ := hkv
   have : u ∈ [Value.int .i64 ns[j / 6].net.kind,.int .i64 ns[j / 6].net.one.op,.slice p1 ns[j / 6].net.one.args.length c1,.slice p2 ns[j / 6].net.kids.length c2,.slice p3 ns[j / 6].coils.length c3,.slice p4 ns[j / 6].kids.length c4] := List.mem_of_getElem? hj
   simp only [List.mem_cons,List.not_mem_nil,or_false] at this
   rcases this with rfl | rfl | rfl | rfl | rfl | rfl <;> rfl
  ·intro v' w' h1 h2 h3
   simp only [Nat.zero_add,List.nil_append] at h1
   obtain ⟨bb,c,rfl,hb1,hb2,_,_⟩ := ownsRow_cells h1 (by omega)
   have h4 : w.grownBy w' (some W.heap.size) := h2
   exact hK bb c w' xs h1 (hrow.imp fun _ _ _ h => h.keep (KeepsIn.of_grown h4 (fun b hb e => by simp only [Option.some.injEq] at e; exact absurd hb.2 (by omega)))) hb1 hb2 h4
theorem wpList_copy_arms {ops : Array Oper} {rest : List Oper} {o : Oper} {a : Act} {w : World} {Q : Exit → Act → World → Prop}
  (hg : o.guard = none) (s x : Operand) (hop : o.op = .call { callee := .builtin .append,args := #[s,x],argTypes := #[23,23] })
  (R : Nat → Prop) (W : World) (ns : List Stil.Arm) (kv : Value) (hs : a.eval s = .slice (some ⟨W.heap.size,0,none⟩) 0 0) (hx : a.eval x = kv) (hw : w = W.alloc (.cells #[] 36))
  (hk : ArmsIn R W kv ns) (hl : ns.length ≤ 100000)
  (h : ∀ bb c w' xs,w'.ownsRow W.heap.size 36 6 (.slice (some ⟨bb,0,none⟩) ns.length c) ns.length xs → RowOf 6 (ArmC (fun b => R b ∧ b < W.heap.size) w') xs ns → W.heap.size ≤ bb → bb < w'.heap.size → w.grownBy w' (some W.heap.size) → wpList Tryz.prog ops Q rest (a.put o.dst (.slice (some ⟨bb,0,none⟩) ns.length c)) w') :
  wpList Tryz.prog ops Q (o :: rest) a w := by
 refine wpList_plain hg fun K hK => ?_
 have hw' : Region.wanted o (yielded #[] a.tmps) = true := by simp [Region.wanted,hg]
 have := step_copy_arms (ops := #[]) (K := K) (Q := Q) (E := True) hg s x hop R W ns kv hs hx hw hk hl (fun bb c w' xs h1 h2 h3 h4 h5 => hK _ _ (h bb c w' xs h1 h2 h3 h4 h5))
 rwa [if_pos hw'] at this
/-- The cells of one arm of a row. -/
theorem arm_cells {R : Nat → Prop} {w : World} {base bb cap k : Nat} {xs : List Value} {ns : List Stil.Arm} (h : w.ownsRow base 36 6 (.slice (some ⟨bb,0,none⟩) ns.length cap) ns.length xs) (hr : RowOf 6 (ArmC R w) xs ns) (hk : k < ns.length) :
  ∃ av nv cv kv,w.cell? ⟨bb,k * 6,none⟩ = some (.int .i64 ns[k].net.kind) ∧ w.cell? ⟨bb,k * 6 + 1,none⟩ = some (.int .i64 ns[k].net.one.op) ∧ w.cell? ⟨bb,k * 6 + 2,none⟩ = some av ∧ w.cell? ⟨bb,k * 6 + 3,none⟩ = some nv ∧ w.cell? ⟨bb,k * 6 + 4,none⟩ = some cv ∧ w.cell? ⟨bb,k * 6 + 5,none⟩ = some kv ∧ (∀ j,w.frozen? ⟨bb,j,none⟩ = false) ∧ DevsIn R w av ns[k].net.one.args ∧ NetsIn R w nv ns[k].net.kids ∧ ElemsIn R w cv ns[k].coils ∧ ArmsIn R w kv ns[k].kids := by
 obtain ⟨g,c,hv,_,_,_,hc⟩ := ownsRow_cells h (by omega)
 simp only [Value.slice.injEq,Option.some.injEq,Addr.mk.injEq] at hv
 obtain ⟨⟨rfl,_⟩,_⟩ := hv
 obtain ⟨av,nv,cv,kv,he,h1,h2,h3,h4⟩ := hr.2 k hk
 have hx := row_at hr hk he
 exact ⟨av,nv,cv,kv,hc _ _ (hx 0 _ rfl),hc _ _ (hx 1 _ rfl),hc _ _ (hx 2 _ rfl),hc _ _ (hx 3 _ rfl),hc _ _ (hx 4 _ rfl),hc _ _ (hx 5 _ rfl),fun j => h.frozenAt j,h1,h2,h3,h4⟩
/-- Six cells of a block written. -/
def set6 (w : World) (b o : Nat) (v0 v1 v2 v3 v4 v5 : Value) : World := (((((w.setCell ⟨b,o,none⟩ v0).setCell ⟨b,o + 1,none⟩ v1).setCell ⟨b,o + 2,none⟩ v2).setCell ⟨b,o + 3,none⟩ v3).setCell ⟨b,o + 4,none⟩ v4).setCell ⟨b,o + 5,none⟩ v5
theorem keep_set6 {R : Nat → Prop} {w : World} {b o : Nat} {v0 v1 v2 v3 v4 v5 : Value} (hn : ¬ R b) : KeepsIn R w (set6 w b o v0 v1 v2 v3 v4 v5) := (((((KeepsIn.set hn _).trans (KeepsIn.set hn _)).trans (KeepsIn.set hn _)).trans (KeepsIn.set hn _)).trans (KeepsIn.set hn _)).trans (KeepsIn.set hn _)
/-- A row of arms,one written anew. -/
theorem arm_put {R : Nat → Prop} {w : World} {base bb cap k n : Nat} {xs : List Value} {ns : List Stil.Arm} {N : Stil.Arm} {av nv cv kv : Value} (h : w.ownsRow base 36 6 (.slice (some ⟨bb,0,none⟩) n cap) n xs) (hr : RowOf 6 (ArmC R w) xs ns) (hk : k < ns.length) (hn : ¬ R bb)
  (hav : DevsIn R w av N.net.one.args) (hnv : NetsIn R w nv N.net.kids) (hcv : ElemsIn R w cv N.coils) (hkv : ArmsIn R w kv N.kids) :
  ∃ ys,(set6 w bb (k * 6) (.int .i64 N.net.kind) (.int .i64 N.net.one.op) av nv cv kv).ownsRow base 36 6 (.slice (some ⟨bb,0,none⟩) n cap) n ys ∧
   RowOf 6 (ArmC R (set6 w bb (k * 6) (.int .i64 N.net.kind) (.int .i64 N.net.one.op) av nv cv kv)) ys (ns.set k N) := by
 refine ⟨_,((((((h.stored (k * 6) _).1.stored (k * 6 + 1) _).1.stored (k * 6 + 2) _).1.stored (k * 6 + 3) _).1.stored (k * 6 + 4) _).1.stored (k * 6 + 5) _).1,?_⟩
 have hkp : KeepsIn R w (set6 w bb (k * 6) (.int .i64 N.net.kind) (.int .i64 N.net.one.op) av nv cv kv) := keep_set6 hn
 have hl : xs.length = ns.length * 6 := hr.1
 have hkl : k * 6 + 5 < xs.length := by omega
 refine RowOf.set (hr.imp fun _ _ _ h => h.keep hkp) hk (by simp) ⟨av,nv,cv,kv,?_,hav.keep hkp,hnv.keep hkp,hcv.keep hkp,hkv.keep hkp⟩ ?_
 ·apply List.ext_getElem?
  intro j
  rw [List.getElem?_take]
  by_cases hj : j < 6
  ·rw [if_pos hj,List.getElem?_drop]
   have : j = 0 ∨ j = 1 ∨ j = 2 ∨ j = 3 ∨ j = 4 ∨ j = 5 := by omega
   rcases this with rfl | rfl | rfl | rfl | rfl | rfl
   ·rw [List.getElem?_set_ne (by omega),List.getElem?_set_ne (by omega),List.getElem?_set_ne (by omega),List.getElem?_set_ne (by omega),List.getElem?_set_ne (by omega),Nat.add_zero,List.getElem?_set_self (by omega)]; rfl
   ·rw [List.getElem?_set_ne (by omega),List.getElem?_set_ne (by omega),List.getElem?_set_ne (by omega),List.getElem?_set_ne (by omega),List.getElem?_set_self (by simp; omega)]; rfl
   ·rw [List.getElem?_set_ne (by omega),List.getElem?_set_ne (by omega),List.getElem?_set_ne (by omega),List.getElem?_set_self (by simp; omega)]; rfl
   ·rw [List.getElem?_set_ne (by omega),List.getElem?_set_ne (by omega),List.getElem?_set_self (by simp; omega)]; rfl
   ·rw [List.getElem?_set_ne (by omega),List.getElem?_set_self (by simp; omega)]; rfl
   ·rw [List.getElem?_set_self (by simp; omega)]; rfl
  ·rw [if_neg hj,List.getElem?_eq_none (by simp; omega)]
 ·intro j hj
  rw [List.getElem?_set_ne (by omega),List.getElem?_set_ne (by omega),List.getElem?_set_ne (by omega),List.getElem?_set_ne (by omega),List.getElem?_set_ne (by omega),List.getElem?_set_ne (by omega)]
/-- Rows that own their memory,one longer. -/
theorem elems_longer {R R' : Nat → Prop} {w w' : World} {v : Value} {xs cs : List Value} {ns : List Stil.Elem} {n : Stil.Elem} (h : RowOf 2 (ElemC R w) xs ns) (hc : ElemC R w cs n) (hl : cs.length = 2) (hg : w.grownBy w' v.ownBlock) (hr : ∀ b,R b → v.ownBlock ≠ some b) (hm : ∀ b,R b → R' b) : RowOf 2 (ElemC R' w') (xs ++ cs) (ns ++ [n]) :=
 ((h.append (RowOf.one hl hc)).imp fun _ _ _ h => (h.keep (KeepsIn.of_grown hg hr)).mono fun b _ => hm b)
theorem arms_longer {R R' : Nat → Prop} {w w' : World} {v : Value} {xs cs : List Value} {ns : List Stil.Arm} {n : Stil.Arm} (h : RowOf 6 (ArmC R w) xs ns) (hc : ArmC R w cs n) (hl : cs.length = 6) (hg : w.grownBy w' v.ownBlock) (hr : ∀ b,R b → v.ownBlock ≠ some b) (hm : ∀ b,R b → R' b) : RowOf 6 (ArmC R' w') (xs ++ cs) (ns ++ [n]) :=
 ((h.append (RowOf.one hl hc)).imp fun _ _ _ h => (h.keep (KeepsIn.of_grown hg hr)).mono fun b _ => hm b)
theorem ATame.parts {a : Stil.Arm} (h : ATame a) : NTame a.net ∧ (∀ c ∈ a.coils,ETame c) ∧ ∀ x ∈ a.kids,ATame x := by
 obtain ⟨n,cs,ks⟩ := a
 exact (ATame_eq _ _ _).1 h
/-- What spoiling leaves: an arm in the memory that was told and in new. -/
def ArmOutQ (Q : Nat → Prop) (e : Ending) (w w' : World) (g P N : Nat) : Prop := ∃ (a : Stil.Arm) (av nv cv kv : Value),e = .returned (.agg #[.int .i64 a.net.kind,.int .i64 a.net.one.op,av,nv,cv,kv]) ∧ DevsIn (Fr Q w.heap.size w.heap.size) w' av a.net.one.args ∧ NetsIn (Fr Q w.heap.size w.heap.size) w' nv a.net.kids ∧ ElemsIn (Fr Q w.heap.size w.heap.size) w' cv a.coils ∧ ArmsIn (Fr Q w.heap.size w.heap.size) w' kv a.kids ∧ ATame a ∧ Stil.armSz a ≤ N ∧ RdAt w' g P ∧ w.grownBy w' (some g)
theorem asz_kid {n : Stil.Net} {cs : List Stil.Elem} {kids : List Stil.Arm} {x : Stil.Arm} (hx : x ∈ kids) : Stil.armSz x + 1 ≤ Stil.armSz ⟨n,cs,kids⟩ := by
 rw [Stil.armSz_eq]
 have h1 := Stil.mem_le_sum Stil.armSz kids x hx
 have h2 : 0 < kids.length := List.length_pos_of_mem hx
 omega
theorem s_l3SpoilArm (a : Stil.Arm) : ∀ (Q : Nat → Prop) (g P : Nat) (w : World) (av nv cv kv : Value),(∀ b,Q b → g < b) → DevsIn Q w av a.net.one.args → NetsIn Q w nv a.net.kids → ElemsIn Q w cv a.coils → ArmsIn Q w kv a.kids → ATame a → Stil.armSz a ≤ 40000 → RdAt w g P → P + 10 * Stil.armSz a + 100 ≤ 100000000 →
  Calls Tryz.prog 68 #[.pointer (some ⟨g,0,none⟩),.agg #[.int .i64 a.net.kind,.int .i64 a.net.one.op,av,nv,cv,kv]] w fun e w' => ArmOutQ Q e w w' g (P + 10 * Stil.armSz a + 100) (Stil.armSz a + 40) := by
 induction a using Stil.arm_ind with
 | h n cs kids ih =>
  obtain ⟨k,⟨op,ds⟩,ns⟩ := n
  intro Q g P w av nv cv kv hQ hav hnv hcv hkv htm hsz hr hP
  simp only at hav hnv hcv hkv
  have hg := rd_lt hr
  have HSK : Hid (∀ x ∈ kids,Stil.armSz x + 1 ≤ Stil.armSz ⟨⟨k,⟨op,ds⟩,ns⟩,cs,kids⟩) := fun x hx => asz_kid hx
  have hzl : cs.length + kids.length ≤ Stil.armSz ⟨⟨k,⟨op,ds⟩,ns⟩,cs,kids⟩ := by rw [Stil.armSz_eq,Stil.elemsSz]; omega
  have HZE : Hid (Stil.armSz ⟨⟨k,⟨op,ds⟩,ns⟩,cs,kids⟩ = Stil.netSz ⟨k,⟨op,ds⟩,ns⟩ + (Stil.elemsSz cs + (kids.length + (kids.map Stil.armSz).sum))) := Stil.armSz_eq _ _ _
  obtain ⟨Z,hZ⟩ : ∃ Z,Z = Stil.armSz ⟨⟨k,⟨op,ds⟩,ns⟩,cs,kids⟩ := ⟨_,rfl⟩
  rw [← hZ] at HSK hzl HZE hsz hP ⊢
  clear hZ
  have IH : Hid (∀ x ∈ kids,∀ (Q : Nat → Prop) (g P : Nat) (w : World) (av nv cv kv : Value),(∀ b,Q b → g < b) → DevsIn Q w av x.net.one.args → NetsIn Q w nv x.net.kids → ElemsIn Q w cv x.coils → ArmsIn Q w kv x.kids → ATame x → Stil.armSz x ≤ 40000 → RdAt w g P → P + 10 * Stil.armSz x + 100 ≤ 100000000 →
   Calls Tryz.prog 68 #[.pointer (some ⟨g,0,none⟩),.agg #[.int .i64 x.net.kind,.int .i64 x.net.one.op,av,nv,cv,kv]] w fun e w' => ArmOutQ Q e w w' g (P + 10 * Stil.armSz x + 100) (Stil.armSz x + 40)) := ih
  have HQ : Hid (∀ b,Q b → g < b) := hQ
  have HT : Hid (ATame ⟨⟨k,⟨op,ds⟩,ns⟩,cs,kids⟩) := htm
  have hmf : ∀ b,b < w.heap.size → Q b → Fr Q w.heap.size (w.heap.size + 2) b := fun b hb h => Or.inl ⟨h,hb⟩
  have HD0 : Hid (DevsIn (Fr Q w.heap.size (w.heap.size + 2)) w av ds) := hav.mono hmf
  have HN0 : Hid (NetsIn (Fr Q w.heap.size (w.heap.size + 2)) w nv ns) := hnv.mono hmf
  have HE0 : Hid (ElemsIn (Fr Q w.heap.size (w.heap.size + 2)) w cv cs) := hcv.mono hmf
  have HK0 : Hid (ArmsIn (Fr Q w.heap.size (w.heap.size + 2)) w kv kids) := hkv.mono hmf
  obtain ⟨a1,c1,rfl,_⟩ := hav
  obtain ⟨a2,c2,rfl,_⟩ := hnv
  obtain ⟨a3,c3,rfl,_⟩ := hcv
  obtain ⟨a4,c4,rfl,_⟩ := hkv
  clear ih hQ htm hmf
  go_enter Tryz.func68,Tryz.ntmps68
  go_upto_region 1 with fail
  go_cut [15] (fun c wq => ∃ b : Bool,c = .bool b ∧ (b = true → 0 < kids.length) ∧ ABox wq w.heap.size k op (.slice a1 ds.length c1) (.slice a2 ns.length c2) (.slice a3 cs.length c3) (.slice a4 kids.length c4) ∧ ABox wq (w.heap.size + 1) 0 0 (.slice none 0 0) (.slice none 0 0) (.slice none 0 0) (.slice none 0 0) ∧ DevsIn (Fr Q w.heap.size (w.heap.size + 2)) wq (.slice a1 ds.length c1) ds ∧ NetsIn (Fr Q w.heap.size (w.heap.size + 2)) wq (.slice a2 ns.length c2) ns ∧ ElemsIn (Fr Q w.heap.size (w.heap.size + 2)) wq (.slice a3 cs.length c3) cs ∧ ArmsIn (Fr Q w.heap.size (w.heap.size + 2)) wq (.slice a4 kids.length c4) kids ∧ RdAt wq g (P + 1) ∧ w.grownBy wq (some g))
  case first =>
   by_cases hk0 : 0 < kids.length
   ·go_wp2_with ((go_at_call_of 31 (Value.int IntKind.i64 3); refine (s_pick g _ _ _ raA (by omega) (by omega) (by omega)).mono ?_; rintro e wa ⟨x,rfl,hx0,hx1,hrd,hga⟩; have hz0 : w.heap.size < wa.heap.size := Nat.lt_of_lt_of_le ltA hga.size; have hz1 : (w.heap.size + 1) < wa.heap.size := Nat.lt_of_lt_of_le ltA hga.size; obtain ⟨q0,p0,q1,p1,q2,p2,q3,p3,q4,p4,q5,p5,q6,p6,q7,p7,q8,p8,q9,p9,q10,p10,q11,p11⟩ : wa.cell? ⟨w.heap.size,0,none⟩ = some (.int .i64 k) ∧ wa.frozen? ⟨w.heap.size,0,none⟩ = false ∧ wa.cell? ⟨w.heap.size,1,none⟩ = some (.int .i64 op) ∧ wa.frozen? ⟨w.heap.size,1,none⟩ = false ∧ wa.cell? ⟨w.heap.size,2,none⟩ = some (.slice a1 ds.length c1) ∧ wa.frozen? ⟨w.heap.size,2,none⟩ = false ∧ wa.cell? ⟨w.heap.size,3,none⟩ = some (.slice a2 ns.length c2) ∧ wa.frozen? ⟨w.heap.size,3,none⟩ = false ∧ wa.cell? ⟨w.heap.size,4,none⟩ = some (.slice a3 cs.length c3) ∧ wa.frozen? ⟨w.heap.size,4,none⟩ = false ∧ wa.cell? ⟨w.heap.size,5,none⟩ = some (.slice a4 kids.length c4) ∧ wa.frozen? ⟨w.heap.size,5,none⟩ = false ∧ wa.cell? ⟨(w.heap.size + 1),0,none⟩ = some (.int .i64 0) ∧ wa.frozen? ⟨(w.heap.size + 1),0,none⟩ = false ∧ wa.cell? ⟨(w.heap.size + 1),1,none⟩ = some (.int .i64 0) ∧ wa.frozen? ⟨(w.heap.size + 1),1,none⟩ = false ∧ wa.cell? ⟨(w.heap.size + 1),2,none⟩ = some (.slice none 0 0) ∧ wa.frozen? ⟨(w.heap.size + 1),2,none⟩ = false ∧ wa.cell? ⟨(w.heap.size + 1),3,none⟩ = some (.slice none 0 0) ∧ wa.frozen? ⟨(w.heap.size + 1),3,none⟩ = false ∧ wa.cell? ⟨(w.heap.size + 1),4,none⟩ = some (.slice none 0 0) ∧ wa.frozen? ⟨(w.heap.size + 1),4,none⟩ = false ∧ wa.cell? ⟨(w.heap.size + 1),5,none⟩ = some (.slice none 0 0) ∧ wa.frozen? ⟨(w.heap.size + 1),5,none⟩ = false := ⟨gcA hga,gfA hga,gcA hga,gfA hga,gcA hga,gfA hga,gcA hga,gfA hga,gcA hga,gfA hga,gcA hga,gfA hga,gcA hga,gfA hga,gcA hga,gfA hga,gcA hga,gfA hga,gcA hga,gfA hga,gcA hga,gfA hga,gcA hga,gfA hga⟩))
    go_meet
    have hkp : KeepsIn (Fr Q w.heap.size (w.heap.size + 2)) w wa := ((KeepsIn.of_below (below_alloc _ _)).trans (KeepsIn.of_below (below_alloc _ _))).trans (fr_call HQ.out (by omega) hga)
    exact ⟨decide (0 < x),rfl,fun _ => hk0,abA,abA,HD0.out.keep hkp,HN0.out.keep hkp,HE0.out.keep hkp,HK0.out.keep hkp,rlA,glA⟩
   ·have hkz : decide (0 < (kids.length : Int)) = false := by rw [decide_eq_false_iff_not]; omega
    go_wp2
    go_meet
    exact ⟨false,rfl,fun h => (by cases h),abA,abA,HD0.out.keep kfA,HN0.out.keep kfA,HE0.out.keep kfA,HK0.out.keep kfA,rlA,glA⟩
  case rest =>
   obtain ⟨b,rfl,hbk,hb1,hb2,hd1,hn1,he1,hk1,hrd,hgq⟩ := hcut
   clear HD0 HN0 HE0 HK0 hr
   have HB1 : Hid (ABox wc w.heap.size k op (.slice a1 ds.length c1) (.slice a2 ns.length c2) (.slice a3 cs.length c3) (.slice a4 kids.length c4)) := hb1
   have HB2 : Hid (ABox wc (w.heap.size + 1) 0 0 (.slice none 0 0) (.slice none 0 0) (.slice none 0 0) (.slice none 0 0)) := hb2
   have HD1 : Hid (DevsIn (Fr Q w.heap.size (w.heap.size + 2)) wc (.slice a1 ds.length c1) ds) := hd1
   have HN1 : Hid (NetsIn (Fr Q w.heap.size (w.heap.size + 2)) wc (.slice a2 ns.length c2) ns) := hn1
   have HE1 : Hid (ElemsIn (Fr Q w.heap.size (w.heap.size + 2)) wc (.slice a3 cs.length c3) cs) := he1
   have HK1 : Hid (ArmsIn (Fr Q w.heap.size (w.heap.size + 2)) wc (.slice a4 kids.length c4) kids) := hk1
   clear hd1 hn1 he1 hk1
   cases b with
   | true =>
    have hk0 : 0 < kids.length := hbk rfl
    clear hbk
    obtain ⟨hz0,q0,q1,q2,q3,q4,q5,p0,p1,p2,p3,p4,p5⟩ := hb1
    have hzb := hb2.1
    clear hb2
    go_upto_region 3 with (at_builtin; refine wpList_copy_arms rfl _ _ rfl (Fr Q w.heap.size (w.heap.size + 2)) wc kids (.slice a4 kids.length c4) rfl rfl rfl HK1.out (by omega) ?_; intro bb cc w3 xs hown hrow hbb1 hbb2 hgr3; have HOW : Hid (w3.ownsRow wc.heap.size 36 6 (.slice (some ⟨bb,0,none⟩) kids.length cc) kids.length xs) := hown; have HRW : Hid (RowOf 6 (ArmC (fun b => Fr Q w.heap.size (w.heap.size + 2) b ∧ b < wc.heap.size) w3) xs kids) := hrow; have HG3 : Hid ((wc.alloc (.cells #[] 36)).grownBy w3 (some wc.heap.size)) := hgr3; clear hown hrow hgr3 q0 q1 q2 q3 q4 q5 p0 p1 p2 p3 p4 p5)
    have hkg : KeepsIn (fun b => Fr Q w.heap.size (w.heap.size + 2) b ∧ b < wc.heap.size) wc w3 := (KeepsIn.of_below (below_alloc _ _)).trans (KeepsIn.of_grown HG3.out (fun b hb e => by simp only [Option.some.injEq] at e; exact absurd hb.2 (by omega)))
    have hmlt : ∀ b,b < wc.heap.size → Fr Q w.heap.size (w.heap.size + 2) b → Fr Q w.heap.size (w.heap.size + 2) b ∧ b < wc.heap.size := fun b hb h => ⟨h,hb⟩
    have hmne : ∀ b,b < w3.heap.size → (Fr Q w.heap.size (w.heap.size + 2) b ∧ b < wc.heap.size) → Fr Q w.heap.size (w.heap.size + 2) b ∧ b ≠ bb := fun b _ h => ⟨h.1,by have := h.2; omega⟩
    have HB13 : Hid (ABox w3 w.heap.size k op (.slice a1 ds.length c1) (.slice a2 ns.length c2) (.slice a3 cs.length c3) (.slice a4 kids.length c4)) := (HB1.out.alloc _).grownO HG3.out (by intro e; simp only [Option.some.injEq] at e; omega)
    have HB23 : Hid (ABox w3 (w.heap.size + 1) 0 0 (.slice none 0 0) (.slice none 0 0) (.slice none 0 0) (.slice none 0 0)) := (HB2.out.alloc _).grownO HG3.out (by intro e; simp only [Option.some.injEq] at e; omega)
    have hrd3 : RdAt w3 g (P + 1) := rd_grown (rd_alloc hrd _) HG3.out (by intro j hj; simp only [Option.some.injEq] at hj; omega)
    have hgq3 : w.grownBy w3 (some g) := gr_own (gr_alloc hgq _) HG3.out (by intro j hj; simp only [Option.some.injEq] at hj; omega)
    have HD3 : Hid (DevsIn (fun b => Fr Q w.heap.size (w.heap.size + 2) b ∧ b ≠ bb) w3 (.slice a1 ds.length c1) ds) := ((HD1.out.mono hmlt).keep hkg).mono hmne
    have HN3 : Hid (NetsIn (fun b => Fr Q w.heap.size (w.heap.size + 2) b ∧ b ≠ bb) w3 (.slice a2 ns.length c2) ns) := ((HN1.out.mono hmlt).keep hkg).mono hmne
    have HE3 : Hid (ElemsIn (fun b => Fr Q w.heap.size (w.heap.size + 2) b ∧ b ≠ bb) w3 (.slice a3 cs.length c3) cs) := ((HE1.out.mono hmlt).keep hkg).mono hmne
    have HR3 : Hid (RowOf 6 (ArmC (fun b => Fr Q w.heap.size (w.heap.size + 2) b ∧ b ≠ bb) w3) xs kids) := HRW.out.imp fun _ _ _ h => h.mono hmne
    clear HB1 HB2 HD1 HN1 HE1 HK1 HRW hrd hgq hz0 hkg hmlt hmne
    go_upto_region 4 with (go_at_call_of 31 (kids.length : Nat); refine (s_pick g _ _ _ hrd3 (by omega) (by omega) (by omega)).mono ?_; rintro e w4 ⟨x,rfl,hx0,hx1,hrd4,hgr4⟩; obtain ⟨j,rfl⟩ := Int.eq_ofNat_of_zero_le hx0; have hj : j < kids.length := (by omega); clear hx0 hx1)
    have hkR : KeepsIn (fun b => Fr Q w.heap.size (w.heap.size + 2) b ∧ b ≠ bb) w3 w4 := keep_mono (fr_call HQ.out (by omega) hgr4) (fun b _ h => h.1)
    have HOW4 : Hid (w4.ownsRow wc.heap.size 36 6 (.slice (some ⟨bb,0,none⟩) kids.length cc) kids.length xs) := own_grown HOW.out hgr4 (by omega)
    have HR4 : Hid (RowOf 6 (ArmC (fun b => Fr Q w.heap.size (w.heap.size + 2) b ∧ b ≠ bb) w4) xs kids) := HR3.out.imp fun _ _ _ h => h.keep hkR
    have HB14 : Hid (ABox w4 w.heap.size k op (.slice a1 ds.length c1) (.slice a2 ns.length c2) (.slice a3 cs.length c3) (.slice a4 kids.length c4)) := HB13.out.grownO hgr4 (by intro e; simp only [Option.some.injEq] at e; omega)
    have HB24 : Hid (ABox w4 (w.heap.size + 1) 0 0 (.slice none 0 0) (.slice none 0 0) (.slice none 0 0) (.slice none 0 0)) := HB23.out.grownO hgr4 (by intro e; simp only [Option.some.injEq] at e; omega)
    have HD4 : Hid (DevsIn (fun b => Fr Q w.heap.size (w.heap.size + 2) b ∧ b ≠ bb) w4 (.slice a1 ds.length c1) ds) := HD3.out.keep hkR
    have HN4 : Hid (NetsIn (fun b => Fr Q w.heap.size (w.heap.size + 2) b ∧ b ≠ bb) w4 (.slice a2 ns.length c2) ns) := HN3.out.keep hkR
    have HE4 : Hid (ElemsIn (fun b => Fr Q w.heap.size (w.heap.size + 2) b ∧ b ≠ bb) w4 (.slice a3 cs.length c3) cs) := HE3.out.keep hkR
    have hgq4 : w.grownBy w4 (some g) := gr_call hgq3 hgr4
    have hs4 : bb < w4.heap.size := Nat.lt_of_lt_of_le hbb2 hgr4.size
    clear HOW HR3 HB13 HB23 HD3 HN3 HE3 hrd3 hgq3 hkR HG3 hgr4 hbb2
    obtain ⟨av,nv,cv,kv,r0,r1,r2,r3,r4,r5,hfz,hav,hnv,hcv,hkv⟩ := arm_cells HOW4.out HR4.out hj
    obtain ⟨s0,s1,s2,s3,s4,s5⟩ := (⟨hfz _,hfz _,hfz _,hfz _,hfz _,hfz _⟩ : w4.frozen? ⟨bb,j * 6,none⟩ = false ∧ w4.frozen? ⟨bb,j * 6 + 1,none⟩ = false ∧ w4.frozen? ⟨bb,j * 6 + 2,none⟩ = false ∧ w4.frozen? ⟨bb,j * 6 + 3,none⟩ = false ∧ w4.frozen? ⟨bb,j * 6 + 4,none⟩ = false ∧ w4.frozen? ⟨bb,j * 6 + 5,none⟩ = false)
    clear hfz
    have HKS : Hid (Stil.armSz kids[j] + 1 ≤ Z ∧ ATame kids[j]) := ⟨HSK.out _ (List.getElem_mem hj),HT.out.parts.2.2 _ (List.getElem_mem hj)⟩
    have HI : Hid (Calls Tryz.prog 68 #[.pointer (some ⟨g,0,none⟩),.agg #[.int .i64 kids[j].net.kind,.int .i64 kids[j].net.one.op,av,nv,cv,kv]] w4 fun e w' => ArmOutQ (fun b => Fr Q w.heap.size (w.heap.size + 2) b ∧ b ≠ bb) e w4 w' g (P + 2 + 10 * Stil.armSz kids[j] + 100) (Stil.armSz kids[j] + 40)) :=
     IH.out _ (List.getElem_mem hj) _ g (P + 2) w4 av nv cv kv (fun b hb => by rcases hb.1 with h | h; exact HQ.out b h.1; omega) hav hnv hcv hkv HKS.out.2 (by have := HKS.out.1; omega) hrd4 (by have := HKS.out.1; omega)
    have HSM : Hid (∀ x,Stil.armSz x ≤ Stil.armSz kids[j] + 40 → ((kids.set j x).map Stil.armSz).sum ≤ (kids.map Stil.armSz).sum + 40) := fun x hx => sum_set Stil.armSz 40 kids j x hj hx
    obtain ⟨X,hX⟩ : ∃ X,X = kids[j] := ⟨_,rfl⟩
    rw [← hX] at HI HSM HKS r0 r1
    obtain ⟨u1,t1,rfl,-⟩ := hav
    obtain ⟨u2,t2,rfl,-⟩ := hnv
    obtain ⟨u3,t3,rfl,-⟩ := hcv
    obtain ⟨u4,t4,rfl,-⟩ := hkv
    clear hX IH hrd4
    go_upto_region 5 with (go_at_call 68; refine HI.out.mono ?_; rintro e w5 ⟨N,av5,nv5,cv5,kv5,rfl,hav5,hnv5,hcv5,hkv5,ht5,hz5,hrd5,hgr5⟩; have HA5 : Hid (DevsIn (Fr (fun b => Fr Q w.heap.size (w.heap.size + 2) b ∧ b ≠ bb) w4.heap.size w4.heap.size) w5 av5 N.net.one.args) := hav5; have HN5 : Hid (NetsIn (Fr (fun b => Fr Q w.heap.size (w.heap.size + 2) b ∧ b ≠ bb) w4.heap.size w4.heap.size) w5 nv5 N.net.kids) := hnv5; have HE5 : Hid (ElemsIn (Fr (fun b => Fr Q w.heap.size (w.heap.size + 2) b ∧ b ≠ bb) w4.heap.size w4.heap.size) w5 cv5 N.coils) := hcv5; have HV5 : Hid (ArmsIn (Fr (fun b => Fr Q w.heap.size (w.heap.size + 2) b ∧ b ≠ bb) w4.heap.size w4.heap.size) w5 kv5 N.kids) := hkv5; have HT5 : Hid (ATame N) := ht5; have hown5 := own_grown HOW4.out hgr5 (by omega); obtain ⟨d0,d1,d2,d3,d4,d5,f0,f1,f2,f3,f4,f5⟩ := (⟨hown5.frozenAt (j * 6),hown5.frozenAt (j * 6 + 1),hown5.frozenAt (j * 6 + 2),hown5.frozenAt (j * 6 + 3),hown5.frozenAt (j * 6 + 4),hown5.frozenAt (j * 6 + 5),(grown_cell hgr5 hs4 (by omega)).trans r0,(grown_cell hgr5 hs4 (by omega)).trans r1,(grown_cell hgr5 hs4 (by omega)).trans r2,(grown_cell hgr5 hs4 (by omega)).trans r3,(grown_cell hgr5 hs4 (by omega)).trans r4,(grown_cell hgr5 hs4 (by omega)).trans r5⟩ : w5.frozen? ⟨bb,j * 6,none⟩ = false ∧ w5.frozen? ⟨bb,j * 6 + 1,none⟩ = false ∧ w5.frozen? ⟨bb,j * 6 + 2,none⟩ = false ∧ w5.frozen? ⟨bb,j * 6 + 3,none⟩ = false ∧ w5.frozen? ⟨bb,j * 6 + 4,none⟩ = false ∧ w5.frozen? ⟨bb,j * 6 + 5,none⟩ = false ∧ w5.cell? ⟨bb,j * 6,none⟩ = _ ∧ w5.cell? ⟨bb,j * 6 + 1,none⟩ = _ ∧ w5.cell? ⟨bb,j * 6 + 2,none⟩ = _ ∧ w5.cell? ⟨bb,j * 6 + 3,none⟩ = _ ∧ w5.cell? ⟨bb,j * 6 + 4,none⟩ = _ ∧ w5.cell? ⟨bb,j * 6 + 5,none⟩ = _); obtain ⟨y1,z1,rfl,-⟩ := hav5; obtain ⟨y2,z2,rfl,-⟩ := hnv5; obtain ⟨y3,z3,rfl,-⟩ := hcv5; obtain ⟨y4,z4,rfl,-⟩ := hkv5; clear hown5 ht5 r0 r1 r2 r3 r4 r5 s0 s1 s2 s3 s4 s5)
    obtain ⟨W,hW⟩ : ∃ W,W = (((((w5.setCell ⟨bb,j * 6,none⟩ (.int .i64 N.net.kind)).setCell ⟨bb,j * 6 + 1,none⟩ (.int .i64 N.net.one.op)).setCell ⟨bb,j * 6 + 2,none⟩ (.slice y1 N.net.one.args.length z1)).setCell ⟨bb,j * 6 + 3,none⟩ (.slice y2 N.net.kids.length z2)).setCell ⟨bb,j * 6 + 4,none⟩ (.slice y3 N.coils.length z3)).setCell ⟨bb,j * 6 + 5,none⟩ (.slice y4 N.kids.length z4) := ⟨_,rfl⟩
    rw [← hW]
    have hs5 := hgr5.size
    have hmo : ∀ b,b < w5.heap.size → Fr (fun b => Fr Q w.heap.size (w.heap.size + 2) b ∧ b ≠ bb) w4.heap.size w4.heap.size b → Fr Q w.heap.size (w.heap.size + 2) b ∧ b ≠ bb := fun b _ h => by
     rcases h with h | h
     ·exact h.1
     ·exact ⟨Or.inr (by omega),by omega⟩
    have hk5 : KeepsIn (fun b => Fr Q w.heap.size (w.heap.size + 2) b ∧ b ≠ bb) w4 w5 := keep_mono (fr_call HQ.out (by omega) hgr5) (fun b _ h => h.1)
    have hst := arm_put (own_grown HOW4.out hgr5 (by omega)) (HR4.out.imp fun _ _ _ h => h.keep hk5) hj (fun h => h.2 rfl) (HA5.out.mono hmo) (HN5.out.mono hmo) (HE5.out.mono hmo) (HV5.out.mono hmo)
    have hWS : W = set6 w5 bb (j * 6) (.int .i64 N.net.kind) (.int .i64 N.net.one.op) (.slice y1 N.net.one.args.length z1) (.slice y2 N.net.kids.length z2) (.slice y3 N.coils.length z3) (.slice y4 N.kids.length z4) := hW
    rw [← hWS] at hst
    obtain ⟨ys,hownW,hrowW⟩ := hst
    have hB1 : ABox W w.heap.size k op (.slice a1 ds.length c1) (.slice a2 ns.length c2) (.slice a3 cs.length c3) (.slice a4 kids.length c4) := by
     rw [hW]
     exact ((((((HB14.out.grownO hgr5 (by intro e; simp only [Option.some.injEq] at e; omega)).set (by omega)).set (by omega)).set (by omega)).set (by omega)).set (by omega)).set (by omega)
    have hB2 : ABox W (w.heap.size + 1) 0 0 (.slice none 0 0) (.slice none 0 0) (.slice none 0 0) (.slice none 0 0) := by
     rw [hW]
     exact ((((((HB24.out.grownO hgr5 (by intro e; simp only [Option.some.injEq] at e; omega)).set (by omega)).set (by omega)).set (by omega)).set (by omega)).set (by omega)).set (by omega)
    have hrW : RdAt W g (P + 2 + 10 * Stil.armSz X + 100) := by
     rw [hW]
     exact rd_set (rd_set (rd_set (rd_set (rd_set (rd_set (hrd5) (by omega) _) (by omega) _) (by omega) _) (by omega) _) (by omega) _) (by omega) _
    have hgW : w.grownBy W (some g) := by
     rw [hW]
     have hb : w.heap.size ≤ bb := by omega
     exact gr_set hb (gr_set hb (gr_set hb (gr_set hb (gr_set hb (gr_set hb (gr_call hgq4 hgr5) _) _) _) _) _) _
    have hkW : KeepsIn (fun b => Fr Q w.heap.size (w.heap.size + 2) b ∧ b ≠ bb) w4 W := by
     rw [hWS]
     exact hk5.trans (keep_set6 (fun h => h.2 rfl))
    have HKW : Hid (ArmsIn (Fr Q w.heap.size (w.heap.size + 2)) W (.slice (some ⟨bb,0,none⟩) kids.length cc) (kids.set j N)) := by
     have e : kids.length = (kids.set j N).length := by simp
     rw [e] at hownW ⊢
     exact armsIn_of_row hownW (hrowW.imp fun _ _ _ h => h.mono fun b _ hb => hb.1) (fun b hb => by
      have : bb = b := by simpa [Value.ownBlock] using hb
      exact Or.inr (by omega))
    have HDW : Hid (DevsIn (Fr Q w.heap.size (w.heap.size + 2)) W (.slice a1 ds.length c1) ds) := (HD4.out.keep hkW).mono fun b _ h => h.1
    have HNW : Hid (NetsIn (Fr Q w.heap.size (w.heap.size + 2)) W (.slice a2 ns.length c2) ns) := (HN4.out.keep hkW).mono fun b _ h => h.1
    have HEW : Hid (ElemsIn (Fr Q w.heap.size (w.heap.size + 2)) W (.slice a3 cs.length c3) cs) := (HE4.out.keep hkW).mono fun b _ h => h.1
    obtain ⟨hz0,q0,q1,q2,q3,q4,q5,p0,p1,p2,p3,p4,p5⟩ := hB1
    obtain ⟨hz1,q6,q7,q8,q9,q10,q11,p6,p7,p8,p9,p10,p11⟩ := hB2
    clear hW hWS hownW hrowW hkW hk5 hmo HOW4 HR4 HB14 HB24 HD4 HN4 HE4 HA5 HN5 HE5 HV5 d0 d1 d2 d3 d4 d5 f0 f1 f2 f3 f4 f5 HI
    go_wp2
    refine bodyPost_ret (by simp [results,Tryz.results68,go_sem,q6,q7,q8,q9,q10,q11]; rfl) rfl ?_
    refine ⟨⟨⟨k,⟨op,ds⟩,ns⟩,cs,kids.set j N⟩,_,_,_,_,rfl,DevsIn.mono (HDW.out.keep kfA) (fr_out _),NetsIn.mono (HNW.out.keep kfA) (fr_out _),ElemsIn.mono (HEW.out.keep kfA) (fr_out _),ArmsIn.mono (HKW.out.keep kfA) (fr_out _),?_,?_,?_,glA⟩
    ·refine (ATame_eq _ _ _).2 ⟨HT.out.parts.1,HT.out.parts.2.1,fun x hx => ?_⟩
     rcases List.mem_or_eq_of_mem_set hx with h | rfl
     ·exact HT.out.parts.2.2 x h
     ·exact HT5.out
    ·have := HSM.out N hz5
     have := HZE.out
     rw [Stil.armSz_eq]
     simp only [List.length_set]
     omega
    ·have := HKS.out.1
     (repeat (first | with_reducible assumption | with_reducible refine rd_set ?_ (by first | omega | (simp; omega)) _ | with_reducible refine rd_alloc ?_ _ | with_reducible refine rd_drewN ?_ _ | with_reducible refine rd_drew ?_ | exact rd_mono (by with_reducible assumption) (by omega)))
   | false =>
    clear hbk IH HSK
    obtain ⟨hz0,q0,q1,q2,q3,q4,q5,p0,p1,p2,p3,p4,p5⟩ := hb1
    obtain ⟨hz1,q6,q7,q8,q9,q10,q11,p6,p7,p8,p9,p10,p11⟩ := hb2
    go_upto_region 9 with ((go_at_call_of 31 (Value.int IntKind.i64 6); refine (s_pick g _ _ _ raA (by omega) (by omega) (by omega)).mono ?_; rintro e w2 ⟨x,rfl,hx0,hx1,hrd2,hgb⟩; have hz0 : w.heap.size < w2.heap.size := Nat.lt_of_lt_of_le ltA hgb.size; have hz1 : (w.heap.size + 1) < w2.heap.size := Nat.lt_of_lt_of_le ltA hgb.size; obtain ⟨q0,p0,q1,p1,q2,p2,q3,p3,q4,p4,q5,p5,q6,p6,q7,p7,q8,p8,q9,p9,q10,p10,q11,p11⟩ : w2.cell? ⟨w.heap.size,0,none⟩ = some (.int .i64 k) ∧ w2.frozen? ⟨w.heap.size,0,none⟩ = false ∧ w2.cell? ⟨w.heap.size,1,none⟩ = some (.int .i64 op) ∧ w2.frozen? ⟨w.heap.size,1,none⟩ = false ∧ w2.cell? ⟨w.heap.size,2,none⟩ = some (.slice a1 ds.length c1) ∧ w2.frozen? ⟨w.heap.size,2,none⟩ = false ∧ w2.cell? ⟨w.heap.size,3,none⟩ = some (.slice a2 ns.length c2) ∧ w2.frozen? ⟨w.heap.size,3,none⟩ = false ∧ w2.cell? ⟨w.heap.size,4,none⟩ = some (.slice a3 cs.length c3) ∧ w2.frozen? ⟨w.heap.size,4,none⟩ = false ∧ w2.cell? ⟨w.heap.size,5,none⟩ = some (.slice a4 kids.length c4) ∧ w2.frozen? ⟨w.heap.size,5,none⟩ = false ∧ w2.cell? ⟨(w.heap.size + 1),0,none⟩ = some (.int .i64 0) ∧ w2.frozen? ⟨(w.heap.size + 1),0,none⟩ = false ∧ w2.cell? ⟨(w.heap.size + 1),1,none⟩ = some (.int .i64 0) ∧ w2.frozen? ⟨(w.heap.size + 1),1,none⟩ = false ∧ w2.cell? ⟨(w.heap.size + 1),2,none⟩ = some (.slice none 0 0) ∧ w2.frozen? ⟨(w.heap.size + 1),2,none⟩ = false ∧ w2.cell? ⟨(w.heap.size + 1),3,none⟩ = some (.slice none 0 0) ∧ w2.frozen? ⟨(w.heap.size + 1),3,none⟩ = false ∧ w2.cell? ⟨(w.heap.size + 1),4,none⟩ = some (.slice none 0 0) ∧ w2.frozen? ⟨(w.heap.size + 1),4,none⟩ = false ∧ w2.cell? ⟨(w.heap.size + 1),5,none⟩ = some (.slice none 0 0) ∧ w2.frozen? ⟨(w.heap.size + 1),5,none⟩ = false := ⟨gcA hgb,gfA hgb,gcA hgb,gfA hgb,gcA hgb,gfA hgb,gcA hgb,gfA hgb,gcA hgb,gfA hgb,gcA hgb,gfA hgb,gcA hgb,gfA hgb,gcA hgb,gfA hgb,gcA hgb,gfA hgb,gcA hgb,gfA hgb,gcA hgb,gfA hgb,gcA hgb,gfA hgb⟩))
    obtain ⟨ie,hie,hie0,hie1,hie2⟩ := info_parts info_elem
    obtain ⟨ia,hia,hia0,hia1,hia2⟩ := info_parts info_arm
    have HD2 : Hid (DevsIn (Fr Q w.heap.size (w.heap.size + 2)) w2 (.slice a1 ds.length c1) ds) := HD1.out.keep (fr_call HQ.out (by omega) hgb)
    have HN2 : Hid (NetsIn (Fr Q w.heap.size (w.heap.size + 2)) w2 (.slice a2 ns.length c2) ns) := HN1.out.keep (fr_call HQ.out (by omega) hgb)
    have HE2 : Hid (ElemsIn (Fr Q w.heap.size (w.heap.size + 2)) w2 (.slice a3 cs.length c3) cs) := HE1.out.keep (fr_call HQ.out (by omega) hgb)
    have HK2 : Hid (ArmsIn (Fr Q w.heap.size (w.heap.size + 2)) w2 (.slice a4 kids.length c4) kids) := HK1.out.keep (fr_call HQ.out (by omega) hgb)
    have HB12 : Hid (ABox w2 w.heap.size k op (.slice a1 ds.length c1) (.slice a2 ns.length c2) (.slice a3 cs.length c3) (.slice a4 kids.length c4)) := ⟨hz0,q0,q1,q2,q3,q4,q5,p0,p1,p2,p3,p4,p5⟩
    have HB22 : Hid (ABox w2 (w.heap.size + 1) 0 0 (.slice none 0 0) (.slice none 0 0) (.slice none 0 0) (.slice none 0 0)) := ⟨hz1,q6,q7,q8,q9,q10,q11,p6,p7,p8,p9,p10,p11⟩
    have hgq2 : w.grownBy w2 (some g) := gr_call hgq hgb
    clear HD1 HN1 HE1 HK1 HB1 HB2 hgq hgb hrd
    have hx : x = 0 ∨ x = 1 ∨ x = 2 ∨ x = 3 ∨ x = 4 ∨ x = 5 := by omega
    clear hx0 hx1
    rcases hx with rfl | rfl | rfl | rfl | rfl | rfl
    ·go_wp2
     refine bodyPost_ret (by simp [results,Tryz.results68,go_sem,q6,q7,q8,q9,q10,q11]; rfl) rfl ?_
     refine ⟨⟨⟨0,⟨0,[]⟩,[]⟩,cs,kids⟩,_,_,_,_,rfl,devs_nil _ _,nets_nil _ _,ElemsIn.mono (HE2.out.keep kfA) (fr_out _),ArmsIn.mono (HK2.out.keep kfA) (fr_out _),(ATame_eq _ _ _).2 ⟨tame_none,HT.out.parts.2⟩,?_,rlA,glA⟩
     have := HZE.out
     have e9 : Stil.netSz ⟨0,⟨0,[]⟩,[]⟩ = 0 := by rw [Stil.netSz_eq]; simp
     rw [Stil.armSz_eq,e9]
     omega
    ·go_wp2_with ((go_at_call_of 31 (Value.int IntKind.i64 2); refine (s_pick g _ _ _ raA (by omega) (by omega) (by omega)).mono ?_; rintro e w4 ⟨y,rfl,hy0,hy1,hrd,hgr4⟩; have hz0 : w.heap.size < w4.heap.size := Nat.lt_of_lt_of_le ltA hgr4.size; have hz1 : (w.heap.size + 1) < w4.heap.size := Nat.lt_of_lt_of_le ltA hgr4.size; obtain ⟨q0,p0,q1,p1,q2,p2,q3,p3,q4,p4,q5,p5,q6,p6,q7,p7,q8,p8,q9,p9,q10,p10,q11,p11⟩ : w4.cell? ⟨w.heap.size,0,none⟩ = some (.int .i64 k) ∧ w4.frozen? ⟨w.heap.size,0,none⟩ = false ∧ w4.cell? ⟨w.heap.size,1,none⟩ = some (.int .i64 op) ∧ w4.frozen? ⟨w.heap.size,1,none⟩ = false ∧ w4.cell? ⟨w.heap.size,2,none⟩ = some (.slice a1 ds.length c1) ∧ w4.frozen? ⟨w.heap.size,2,none⟩ = false ∧ w4.cell? ⟨w.heap.size,3,none⟩ = some (.slice a2 ns.length c2) ∧ w4.frozen? ⟨w.heap.size,3,none⟩ = false ∧ w4.cell? ⟨w.heap.size,4,none⟩ = some (.slice none 0 0) ∧ w4.frozen? ⟨w.heap.size,4,none⟩ = false ∧ w4.cell? ⟨w.heap.size,5,none⟩ = some (.slice a4 kids.length c4) ∧ w4.frozen? ⟨w.heap.size,5,none⟩ = false ∧ w4.cell? ⟨(w.heap.size + 1),0,none⟩ = some (.int .i64 0) ∧ w4.frozen? ⟨(w.heap.size + 1),0,none⟩ = false ∧ w4.cell? ⟨(w.heap.size + 1),1,none⟩ = some (.int .i64 0) ∧ w4.frozen? ⟨(w.heap.size + 1),1,none⟩ = false ∧ w4.cell? ⟨(w.heap.size + 1),2,none⟩ = some (.slice none 0 0) ∧ w4.frozen? ⟨(w.heap.size + 1),2,none⟩ = false ∧ w4.cell? ⟨(w.heap.size + 1),3,none⟩ = some (.slice none 0 0) ∧ w4.frozen? ⟨(w.heap.size + 1),3,none⟩ = false ∧ w4.cell? ⟨(w.heap.size + 1),4,none⟩ = some (.slice none 0 0) ∧ w4.frozen? ⟨(w.heap.size + 1),4,none⟩ = false ∧ w4.cell? ⟨(w.heap.size + 1),5,none⟩ = some (.slice none 0 0) ∧ w4.frozen? ⟨(w.heap.size + 1),5,none⟩ = false := ⟨gcA hgr4,gfA hgr4,gcA hgr4,gfA hgr4,gcA hgr4,gfA hgr4,gcA hgr4,gfA hgr4,gcA hgr4,gfA hgr4,gcA hgr4,gfA hgr4,gcA hgr4,gfA hgr4,gcA hgr4,gfA hgr4,gcA hgr4,gfA hgr4,gcA hgr4,gfA hgr4,gcA hgr4,gfA hgr4,gcA hgr4,gfA hgr4⟩))
     all_goals
      have hkp : KeepsIn (Fr Q w.heap.size (w.heap.size + 2)) w2 w4 := KeepsIn.trans kfA (fr_call HQ.out (by omega) hgr4)
      refine bodyPost_ret (by simp [results,Tryz.results68,go_sem,q6,q7,q8,q9,q10,q11]; rfl) rfl ?_
     ·refine ⟨⟨⟨k,⟨op,ds⟩,ns⟩,[],[]⟩,_,_,_,_,rfl,DevsIn.mono ((HD2.out.keep hkp).keep kfA) (fr_out _),NetsIn.mono ((HN2.out.keep hkp).keep kfA) (fr_out _),elems_nil _ _,arms_nil _ _,(ATame_eq _ _ _).2 ⟨HT.out.parts.1,fun _ h => (by cases h),fun _ h => (by cases h)⟩,?_,rlA,glA⟩
      have := HZE.out
      rw [Stil.armSz_eq]
      simp only [Stil.elemsSz,List.length_nil,List.map_nil,List.sum_nil]
      omega
     ·refine ⟨⟨⟨k,⟨op,ds⟩,ns⟩,[],kids⟩,_,_,_,_,rfl,DevsIn.mono ((HD2.out.keep hkp).keep kfA) (fr_out _),NetsIn.mono ((HN2.out.keep hkp).keep kfA) (fr_out _),elems_nil _ _,ArmsIn.mono ((HK2.out.keep hkp).keep kfA) (fr_out _),(ATame_eq _ _ _).2 ⟨HT.out.parts.1,fun _ h => (by cases h),HT.out.parts.2.2⟩,?_,rlA,glA⟩
      have := HZE.out
      rw [Stil.armSz_eq]
      simp only [Stil.elemsSz,List.length_nil,List.map_nil,List.sum_nil]
      omega
    ·go_wp2_with (first | (go_at_call 67; refine (s_l2Contact g _ _ (by exact hrd3) (by omega)).mono ?_; rintro e w5 ⟨eop,ev,eds,rfl,ehop,ehv,ehs,ehl,hrd,hgr5⟩; obtain ⟨ea,ec,rfl,_,_⟩ := id ehv; have hz0 : w.heap.size < w5.heap.size := Nat.lt_of_lt_of_le ltA hgr5.size; have hz1 : (w.heap.size + 1) < w5.heap.size := Nat.lt_of_lt_of_le ltA hgr5.size; obtain ⟨q0,p0,q1,p1,q2,p2,q3,p3,q4,p4,q5,p5,q6,p6,q7,p7,q8,p8,q9,p9,q10,p10,q11,p11⟩ : w5.cell? ⟨w.heap.size,0,none⟩ = some (.int .i64 k) ∧ w5.frozen? ⟨w.heap.size,0,none⟩ = false ∧ w5.cell? ⟨w.heap.size,1,none⟩ = some (.int .i64 op) ∧ w5.frozen? ⟨w.heap.size,1,none⟩ = false ∧ w5.cell? ⟨w.heap.size,2,none⟩ = some (.slice a1 ds.length c1) ∧ w5.frozen? ⟨w.heap.size,2,none⟩ = false ∧ w5.cell? ⟨w.heap.size,3,none⟩ = some (.slice a2 ns.length c2) ∧ w5.frozen? ⟨w.heap.size,3,none⟩ = false ∧ w5.cell? ⟨w.heap.size,4,none⟩ = some (.slice a3 cs.length c3) ∧ w5.frozen? ⟨w.heap.size,4,none⟩ = false ∧ w5.cell? ⟨w.heap.size,5,none⟩ = some (.slice a4 kids.length c4) ∧ w5.frozen? ⟨w.heap.size,5,none⟩ = false ∧ w5.cell? ⟨(w.heap.size + 1),0,none⟩ = some (.int .i64 0) ∧ w5.frozen? ⟨(w.heap.size + 1),0,none⟩ = false ∧ w5.cell? ⟨(w.heap.size + 1),1,none⟩ = some (.int .i64 0) ∧ w5.frozen? ⟨(w.heap.size + 1),1,none⟩ = false ∧ w5.cell? ⟨(w.heap.size + 1),2,none⟩ = some (.slice none 0 0) ∧ w5.frozen? ⟨(w.heap.size + 1),2,none⟩ = false ∧ w5.cell? ⟨(w.heap.size + 1),3,none⟩ = some (.slice none 0 0) ∧ w5.frozen? ⟨(w.heap.size + 1),3,none⟩ = false ∧ w5.cell? ⟨(w.heap.size + 1),4,none⟩ = some (.slice none 0 0) ∧ w5.frozen? ⟨(w.heap.size + 1),4,none⟩ = false ∧ w5.cell? ⟨(w.heap.size + 1),5,none⟩ = some (.slice none 0 0) ∧ w5.frozen? ⟨(w.heap.size + 1),5,none⟩ = false := ⟨gcA hgr5,gfA hgr5,gcA hgr5,gfA hgr5,gcA hgr5,gfA hgr5,gcA hgr5,gfA hgr5,gcA hgr5,gfA hgr5,gcA hgr5,gfA hgr5,gcA hgr5,gfA hgr5,gcA hgr5,gfA hgr5,gcA hgr5,gfA hgr5,gcA hgr5,gfA hgr5,gcA hgr5,gfA hgr5,gcA hgr5,gfA hgr5⟩) | (at_builtin; refine wpList_copy_elems rfl _ _ rfl (Fr Q w.heap.size (w.heap.size + 2)) w2 cs (.slice a3 cs.length c3) rfl rfl rfl HE2.out (by omega) ?_; intro bb cc w3 xs hown hrow hbb1 hbb2 hgr3; have HOW : Hid (w3.ownsRow w2.heap.size 30 2 (.slice (some ⟨bb,0,none⟩) cs.length cc) cs.length xs) := hown; have HRW : Hid (RowOf 2 (ElemC (fun b => Fr Q w.heap.size (w.heap.size + 2) b ∧ b < w2.heap.size) w3) xs cs) := hrow; have HG3 : Hid ((w2.alloc (.cells #[] 30)).grownBy w3 (some w2.heap.size)) := hgr3; have hB13 : ABox w3 w.heap.size k op (.slice a1 ds.length c1) (.slice a2 ns.length c2) (.slice a3 cs.length c3) (.slice a4 kids.length c4) := (HB12.out.alloc _).grownO hgr3 (by intro e; simp only [Option.some.injEq] at e; omega); have hB23 : ABox w3 (w.heap.size + 1) 0 0 (.slice none 0 0) (.slice none 0 0) (.slice none 0 0) (.slice none 0 0) := (HB22.out.alloc _).grownO hgr3 (by intro e; simp only [Option.some.injEq] at e; omega); have hrd3 : RdAt w3 g (P + 2) := rd_grown (rd_alloc hrd2 _) hgr3 (by intro j hj; simp only [Option.some.injEq] at hj; omega); have hgq3 : w.grownBy w3 (some g) := gr_own (gr_alloc hgq2 _) hgr3 (by intro j hj; simp only [Option.some.injEq] at hj; omega); clear hown hrow hgr3 q0 q1 q2 q3 q4 q5 q6 q7 q8 q9 q10 q11 p0 p1 p2 p3 p4 p5 p6 p7 p8 p9 p10 p11; obtain ⟨hz0,q0,q1,q2,q3,q4,q5,p0,p1,p2,p3,p4,p5⟩ := hB13; obtain ⟨hz1,q6,q7,q8,q9,q10,q11,p6,p7,p8,p9,p10,p11⟩ := hB23) | (at_builtin; refine wpList_append_own_at _ rfl _ _ 34 rfl w2.heap.size 30 ie (.agg #[.int .i64 0,.slice none 0 0]) 2 32 Tryz.underlying34 hie hie0 hie1 hie2 rfl (by decide) _ _ _ rfl ((own_grown HOW.out hgr5 (by omega)).alloc _) _ _ _ [.int .i64 eop,.slice ea eds.length ec] rfl rfl (by exact cells_new _ _ _ _ (by simp)) (by intro u hu; simp only [List.mem_cons,List.not_mem_nil,or_false] at hu; rcases hu with rfl | rfl <;> rfl) (by unfold maxLen; omega) (by omega) (by rw [World.size_alloc]; have := hgr5.size; omega) ?_; intro v' w6 hown6 hgr6 hnil6 hat6; have HO6 : Hid (w6.ownsRow w2.heap.size 30 2 v' (cs.length + 1) (xs ++ [.int .i64 eop,.slice ea eds.length ec])) := hown6; have HG6 : Hid ((w5.alloc (.cells #[.int .i64 eop,.slice ea eds.length ec] 30)).grownBy w6 (some bb)) := hgr6; obtain ⟨y6,z6,hv6,-⟩ := own_open hown6; subst hv6; have hB16 : ABox w6 w.heap.size k op (.slice a1 ds.length c1) (.slice a2 ns.length c2) (.slice a3 cs.length c3) (.slice a4 kids.length c4) := (ABox.alloc (show ABox w5 w.heap.size k op (.slice a1 ds.length c1) (.slice a2 ns.length c2) (.slice a3 cs.length c3) (.slice a4 kids.length c4) from abA) _).grownO HG6.out (by intro e; simp only [Option.some.injEq] at e; omega); have hB26 : ABox w6 (w.heap.size + 1) 0 0 (.slice none 0 0) (.slice none 0 0) (.slice none 0 0) (.slice none 0 0) := (ABox.alloc (show ABox w5 (w.heap.size + 1) 0 0 (.slice none 0 0) (.slice none 0 0) (.slice none 0 0) (.slice none 0 0) from abA) _).grownO HG6.out (by intro e; simp only [Option.some.injEq] at e; omega); clear hown6 hgr6 hnil6 hat6 q0 q1 q2 q3 q4 q5 q6 q7 q8 q9 q10 q11 p0 p1 p2 p3 p4 p5 p6 p7 p8 p9 p10 p11; obtain ⟨hz0,q0,q1,q2,q3,q4,q5,p0,p1,p2,p3,p4,p5⟩ := hB16; obtain ⟨hz1,q6,q7,q8,q9,q10,q11,p6,p7,p8,p9,p10,p11⟩ := hB26))
     have hkg : KeepsIn (fun b => Fr Q w.heap.size (w.heap.size + 2) b ∧ b < w2.heap.size) w2 w3 := (KeepsIn.of_below (below_alloc _ _)).trans (KeepsIn.of_grown HG3.out (fun b hb e => by simp only [Option.some.injEq] at e; exact absurd hb.2 (by omega)))
     have hmlt : ∀ b,b < w2.heap.size → Fr Q w.heap.size (w.heap.size + 2) b → Fr Q w.heap.size (w.heap.size + 2) b ∧ b < w2.heap.size := fun b hb h => ⟨h,hb⟩
     have hmne : ∀ b,b < w3.heap.size → (Fr Q w.heap.size (w.heap.size + 2) b ∧ b < w2.heap.size) → Fr Q w.heap.size (w.heap.size + 2) b ∧ b ≠ bb := fun b _ h => ⟨h.1,by have := h.2; omega⟩
     have hR3 : RowOf 2 (ElemC (fun b => Fr Q w.heap.size (w.heap.size + 2) b ∧ b ≠ bb) w3) xs cs := HRW.out.imp fun _ _ _ h => h.mono hmne
     have hs3 : w2.heap.size + 1 ≤ w3.heap.size := by have := HG3.out.size; simpa using this
     have hkc : KeepsIn (fun b => Fr Q w.heap.size (w.heap.size + 2) b ∧ b ≠ bb) w3 w5 := keep_mono (fr_call HQ.out (by omega) hgr5) (fun b _ h => h.1)
     have hkp : KeepsIn (fun b => Fr Q w.heap.size (w.heap.size + 2) b ∧ b ≠ bb) w3 (w5.alloc (.cells #[.int .i64 eop,.slice ea eds.length ec] 30)) := hkc.trans (KeepsIn.of_below (below_alloc _ _))
     have hR6 := elems_longer (R' := (Fr Q w.heap.size (w.heap.size + 2))) (v := .slice (some ⟨bb,0,none⟩) cs.length cc) (n := ⟨eop,eds⟩) (hR3.imp fun _ _ _ h => h.keep hkp) ⟨_,rfl,((devs_of_el ehv).mono (fun b _ hb => ⟨Or.inr (by omega),by omega⟩)).keep (KeepsIn.of_below (below_alloc _ _))⟩ rfl HG6.out (fun b hb e => hb.2 (by simpa [Value.ownBlock] using e.symm)) (fun b hb => hb.1)
     have e6 : cs.length + 1 = (cs ++ [(⟨eop,eds⟩ : Stil.Elem)]).length := by simp
     have hL6 : ElemsIn (Fr Q w.heap.size (w.heap.size + 2)) w6 (.slice y6 (cs.length + 1) z6) (cs ++ [⟨eop,eds⟩]) := by
      have ho := HO6.out
      rw [e6] at ho ⊢
      exact elemsIn_of_row ho hR6 (fun b hb => Or.inr (by have := (ho.lt _ hb).1; omega))
     have hk6 : KeepsIn (fun b => Fr Q w.heap.size (w.heap.size + 2) b ∧ b ≠ bb) (w5.alloc (.cells #[.int .i64 eop,.slice ea eds.length ec] 30)) w6 := KeepsIn.of_grown HG6.out (fun b hb e => hb.2 (by simp only [Option.some.injEq] at e; exact e.symm))
     have hD6 : DevsIn (Fr Q w.heap.size (w.heap.size + 2)) w6 (.slice a1 ds.length c1) ds := ((((((HD2.out.mono hmlt).keep hkg).mono hmne).keep hkp).keep hk6)).mono fun b _ h => h.1
     have hN6 : NetsIn (Fr Q w.heap.size (w.heap.size + 2)) w6 (.slice a2 ns.length c2) ns := ((((((HN2.out.mono hmlt).keep hkg).mono hmne).keep hkp).keep hk6)).mono fun b _ h => h.1
     have hK6 : ArmsIn (Fr Q w.heap.size (w.heap.size + 2)) w6 (.slice a4 kids.length c4) kids := ((((((HK2.out.mono hmlt).keep hkg).mono hmne).keep hkp).keep hk6)).mono fun b _ h => h.1
     have hr6 : RdAt w6 g (P + 90) := rd_mono (rd_grown (rd_alloc hrd _) HG6.out (by intro j hj; simp only [Option.some.injEq] at hj; omega)) (by omega)
     have hg6 : w.grownBy w6 (some g) := gr_own (gr_alloc (gr_call hgq3 hgr5) _) HG6.out (by intro j hj; simp only [Option.some.injEq] at hj; omega)
     refine bodyPost_ret (by simp [results,Tryz.results68,go_sem,q6,q7,q8,q9,q10,q11]; rfl) rfl ?_
     refine ⟨⟨⟨k,⟨op,ds⟩,ns⟩,cs ++ [⟨eop,eds⟩],kids⟩,_,_,_,_,rfl,DevsIn.mono (hD6.keep kfA) (fr_out _),NetsIn.mono (hN6.keep kfA) (fr_out _),ElemsIn.mono (hL6.keep kfA) (fr_out _),ArmsIn.mono (hK6.keep kfA) (fr_out _),?_,?_,rlA,glA⟩
     ·refine (ATame_eq _ _ _).2 ⟨HT.out.parts.1,fun x hx => ?_,HT.out.parts.2.2⟩
      rcases List.mem_append.1 hx with h | h
      ·exact HT.out.parts.2.1 x h
      ·rw [List.mem_singleton.1 h]; exact ⟨ehop,ehs,by show eds.length ≤ 100000; omega⟩
     ·have := HZE.out
      rw [Stil.armSz_eq]
      simp only [Stil.elemsSz,List.length_append,List.map_append,List.sum_append,List.length_cons,List.length_nil,List.map_cons,List.map_nil,List.sum_cons,List.sum_nil,Stil.elemSz] at this ⊢
      omega
    ·go_wp2_with (first | (go_at_call 64; refine (s_l2Coil g _ _ (by exact hrd3) (by omega)).mono ?_; rintro e w5 ⟨eop,ev,eds,rfl,ehop,ehv,ehs,ehl,hrd,hgr5⟩; obtain ⟨ea,ec,rfl,_,_⟩ := id ehv; have hz0 : w.heap.size < w5.heap.size := Nat.lt_of_lt_of_le ltA hgr5.size; have hz1 : (w.heap.size + 1) < w5.heap.size := Nat.lt_of_lt_of_le ltA hgr5.size; obtain ⟨q0,p0,q1,p1,q2,p2,q3,p3,q4,p4,q5,p5,q6,p6,q7,p7,q8,p8,q9,p9,q10,p10,q11,p11⟩ : w5.cell? ⟨w.heap.size,0,none⟩ = some (.int .i64 k) ∧ w5.frozen? ⟨w.heap.size,0,none⟩ = false ∧ w5.cell? ⟨w.heap.size,1,none⟩ = some (.int .i64 op) ∧ w5.frozen? ⟨w.heap.size,1,none⟩ = false ∧ w5.cell? ⟨w.heap.size,2,none⟩ = some (.slice a1 ds.length c1) ∧ w5.frozen? ⟨w.heap.size,2,none⟩ = false ∧ w5.cell? ⟨w.heap.size,3,none⟩ = some (.slice a2 ns.length c2) ∧ w5.frozen? ⟨w.heap.size,3,none⟩ = false ∧ w5.cell? ⟨w.heap.size,4,none⟩ = some (.slice a3 cs.length c3) ∧ w5.frozen? ⟨w.heap.size,4,none⟩ = false ∧ w5.cell? ⟨w.heap.size,5,none⟩ = some (.slice a4 kids.length c4) ∧ w5.frozen? ⟨w.heap.size,5,none⟩ = false ∧ w5.cell? ⟨(w.heap.size + 1),0,none⟩ = some (.int .i64 0) ∧ w5.frozen? ⟨(w.heap.size + 1),0,none⟩ = false ∧ w5.cell? ⟨(w.heap.size + 1),1,none⟩ = some (.int .i64 0) ∧ w5.frozen? ⟨(w.heap.size + 1),1,none⟩ = false ∧ w5.cell? ⟨(w.heap.size + 1),2,none⟩ = some (.slice none 0 0) ∧ w5.frozen? ⟨(w.heap.size + 1),2,none⟩ = false ∧ w5.cell? ⟨(w.heap.size + 1),3,none⟩ = some (.slice none 0 0) ∧ w5.frozen? ⟨(w.heap.size + 1),3,none⟩ = false ∧ w5.cell? ⟨(w.heap.size + 1),4,none⟩ = some (.slice none 0 0) ∧ w5.frozen? ⟨(w.heap.size + 1),4,none⟩ = false ∧ w5.cell? ⟨(w.heap.size + 1),5,none⟩ = some (.slice none 0 0) ∧ w5.frozen? ⟨(w.heap.size + 1),5,none⟩ = false := ⟨gcA hgr5,gfA hgr5,gcA hgr5,gfA hgr5,gcA hgr5,gfA hgr5,gcA hgr5,gfA hgr5,gcA hgr5,gfA hgr5,gcA hgr5,gfA hgr5,gcA hgr5,gfA hgr5,gcA hgr5,gfA hgr5,gcA hgr5,gfA hgr5,gcA hgr5,gfA hgr5,gcA hgr5,gfA hgr5,gcA hgr5,gfA hgr5⟩) | (go_at_call 95; refine (s_l2Spoil g _ eop _ eds _ raA (by omega) ehop (ehv.mono (by omega)) ehs (by omega)).mono ?_; rintro e w7 ⟨fop,fv,fds,rfl,fhop,fhv,fhs,fhl,hrd,hgr7⟩; obtain ⟨fa,fc,rfl,_,_⟩ := id fhv; have hz0 : w.heap.size < w7.heap.size := Nat.lt_of_lt_of_le ltA hgr7.size; have hz1 : (w.heap.size + 1) < w7.heap.size := Nat.lt_of_lt_of_le ltA hgr7.size; obtain ⟨q0,p0,q1,p1,q2,p2,q3,p3,q4,p4,q5,p5,q6,p6,q7,p7,q8,p8,q9,p9,q10,p10,q11,p11⟩ : w7.cell? ⟨w.heap.size,0,none⟩ = some (.int .i64 k) ∧ w7.frozen? ⟨w.heap.size,0,none⟩ = false ∧ w7.cell? ⟨w.heap.size,1,none⟩ = some (.int .i64 op) ∧ w7.frozen? ⟨w.heap.size,1,none⟩ = false ∧ w7.cell? ⟨w.heap.size,2,none⟩ = some (.slice a1 ds.length c1) ∧ w7.frozen? ⟨w.heap.size,2,none⟩ = false ∧ w7.cell? ⟨w.heap.size,3,none⟩ = some (.slice a2 ns.length c2) ∧ w7.frozen? ⟨w.heap.size,3,none⟩ = false ∧ w7.cell? ⟨w.heap.size,4,none⟩ = some (.slice a3 cs.length c3) ∧ w7.frozen? ⟨w.heap.size,4,none⟩ = false ∧ w7.cell? ⟨w.heap.size,5,none⟩ = some (.slice a4 kids.length c4) ∧ w7.frozen? ⟨w.heap.size,5,none⟩ = false ∧ w7.cell? ⟨(w.heap.size + 1),0,none⟩ = some (.int .i64 0) ∧ w7.frozen? ⟨(w.heap.size + 1),0,none⟩ = false ∧ w7.cell? ⟨(w.heap.size + 1),1,none⟩ = some (.int .i64 0) ∧ w7.frozen? ⟨(w.heap.size + 1),1,none⟩ = false ∧ w7.cell? ⟨(w.heap.size + 1),2,none⟩ = some (.slice none 0 0) ∧ w7.frozen? ⟨(w.heap.size + 1),2,none⟩ = false ∧ w7.cell? ⟨(w.heap.size + 1),3,none⟩ = some (.slice none 0 0) ∧ w7.frozen? ⟨(w.heap.size + 1),3,none⟩ = false ∧ w7.cell? ⟨(w.heap.size + 1),4,none⟩ = some (.slice none 0 0) ∧ w7.frozen? ⟨(w.heap.size + 1),4,none⟩ = false ∧ w7.cell? ⟨(w.heap.size + 1),5,none⟩ = some (.slice none 0 0) ∧ w7.frozen? ⟨(w.heap.size + 1),5,none⟩ = false := ⟨gcA hgr7,gfA hgr7,gcA hgr7,gfA hgr7,gcA hgr7,gfA hgr7,gcA hgr7,gfA hgr7,gcA hgr7,gfA hgr7,gcA hgr7,gfA hgr7,gcA hgr7,gfA hgr7,gcA hgr7,gfA hgr7,gcA hgr7,gfA hgr7,gcA hgr7,gfA hgr7,gcA hgr7,gfA hgr7,gcA hgr7,gfA hgr7⟩) | (at_builtin; refine wpList_copy_elems rfl _ _ rfl (Fr Q w.heap.size (w.heap.size + 2)) w2 cs (.slice a3 cs.length c3) rfl rfl rfl HE2.out (by omega) ?_; intro bb cc w3 xs hown hrow hbb1 hbb2 hgr3; have HOW : Hid (w3.ownsRow w2.heap.size 30 2 (.slice (some ⟨bb,0,none⟩) cs.length cc) cs.length xs) := hown; have HRW : Hid (RowOf 2 (ElemC (fun b => Fr Q w.heap.size (w.heap.size + 2) b ∧ b < w2.heap.size) w3) xs cs) := hrow; have HG3 : Hid ((w2.alloc (.cells #[] 30)).grownBy w3 (some w2.heap.size)) := hgr3; have hB13 : ABox w3 w.heap.size k op (.slice a1 ds.length c1) (.slice a2 ns.length c2) (.slice a3 cs.length c3) (.slice a4 kids.length c4) := (HB12.out.alloc _).grownO hgr3 (by intro e; simp only [Option.some.injEq] at e; omega); have hB23 : ABox w3 (w.heap.size + 1) 0 0 (.slice none 0 0) (.slice none 0 0) (.slice none 0 0) (.slice none 0 0) := (HB22.out.alloc _).grownO hgr3 (by intro e; simp only [Option.some.injEq] at e; omega); have hrd3 : RdAt w3 g (P + 2) := rd_grown (rd_alloc hrd2 _) hgr3 (by intro j hj; simp only [Option.some.injEq] at hj; omega); have hgq3 : w.grownBy w3 (some g) := gr_own (gr_alloc hgq2 _) hgr3 (by intro j hj; simp only [Option.some.injEq] at hj; omega); clear hown hrow hgr3 q0 q1 q2 q3 q4 q5 q6 q7 q8 q9 q10 q11 p0 p1 p2 p3 p4 p5 p6 p7 p8 p9 p10 p11; obtain ⟨hz0,q0,q1,q2,q3,q4,q5,p0,p1,p2,p3,p4,p5⟩ := hB13; obtain ⟨hz1,q6,q7,q8,q9,q10,q11,p6,p7,p8,p9,p10,p11⟩ := hB23) | (at_builtin; refine wpList_append_own_at _ rfl _ _ 34 rfl w2.heap.size 30 ie (.agg #[.int .i64 0,.slice none 0 0]) 2 32 Tryz.underlying34 hie hie0 hie1 hie2 rfl (by decide) _ _ _ rfl ((own_grown (own_grown HOW.out hgr5 (by omega)) hgr7 (by omega)).alloc _) _ _ _ [.int .i64 fop,.slice fa fds.length fc] rfl rfl (by exact cells_new _ _ _ _ (by simp)) (by intro u hu; simp only [List.mem_cons,List.not_mem_nil,or_false] at hu; rcases hu with rfl | rfl <;> rfl) (by unfold maxLen; omega) (by omega) (by rw [World.size_alloc]; have := hgr5.size; have := hgr7.size; omega) ?_; intro v' w6 hown6 hgr6 hnil6 hat6; have HO6 : Hid (w6.ownsRow w2.heap.size 30 2 v' (cs.length + 1) (xs ++ [.int .i64 fop,.slice fa fds.length fc])) := hown6; have HG6 : Hid ((w7.alloc (.cells #[.int .i64 fop,.slice fa fds.length fc] 30)).grownBy w6 (some bb)) := hgr6; obtain ⟨y6,z6,hv6,-⟩ := own_open hown6; subst hv6; have hB16 : ABox w6 w.heap.size k op (.slice a1 ds.length c1) (.slice a2 ns.length c2) (.slice a3 cs.length c3) (.slice a4 kids.length c4) := (ABox.alloc (show ABox w7 w.heap.size k op (.slice a1 ds.length c1) (.slice a2 ns.length c2) (.slice a3 cs.length c3) (.slice a4 kids.length c4) from abA) _).grownO HG6.out (by intro e; simp only [Option.some.injEq] at e; omega); have hB26 : ABox w6 (w.heap.size + 1) 0 0 (.slice none 0 0) (.slice none 0 0) (.slice none 0 0) (.slice none 0 0) := (ABox.alloc (show ABox w7 (w.heap.size + 1) 0 0 (.slice none 0 0) (.slice none 0 0) (.slice none 0 0) (.slice none 0 0) from abA) _).grownO HG6.out (by intro e; simp only [Option.some.injEq] at e; omega); clear hown6 hgr6 hnil6 hat6 q0 q1 q2 q3 q4 q5 q6 q7 q8 q9 q10 q11 p0 p1 p2 p3 p4 p5 p6 p7 p8 p9 p10 p11; obtain ⟨hz0,q0,q1,q2,q3,q4,q5,p0,p1,p2,p3,p4,p5⟩ := hB16; obtain ⟨hz1,q6,q7,q8,q9,q10,q11,p6,p7,p8,p9,p10,p11⟩ := hB26))
     have hkg : KeepsIn (fun b => Fr Q w.heap.size (w.heap.size + 2) b ∧ b < w2.heap.size) w2 w3 := (KeepsIn.of_below (below_alloc _ _)).trans (KeepsIn.of_grown HG3.out (fun b hb e => by simp only [Option.some.injEq] at e; exact absurd hb.2 (by omega)))
     have hmlt : ∀ b,b < w2.heap.size → Fr Q w.heap.size (w.heap.size + 2) b → Fr Q w.heap.size (w.heap.size + 2) b ∧ b < w2.heap.size := fun b hb h => ⟨h,hb⟩
     have hmne : ∀ b,b < w3.heap.size → (Fr Q w.heap.size (w.heap.size + 2) b ∧ b < w2.heap.size) → Fr Q w.heap.size (w.heap.size + 2) b ∧ b ≠ bb := fun b _ h => ⟨h.1,by have := h.2; omega⟩
     have hR3 : RowOf 2 (ElemC (fun b => Fr Q w.heap.size (w.heap.size + 2) b ∧ b ≠ bb) w3) xs cs := HRW.out.imp fun _ _ _ h => h.mono hmne
     have hs3 : w2.heap.size + 1 ≤ w3.heap.size := by have := HG3.out.size; simpa using this
     have hkc : KeepsIn (fun b => Fr Q w.heap.size (w.heap.size + 2) b ∧ b ≠ bb) w3 w7 := (keep_mono (fr_call HQ.out (by omega) hgr5) (fun b _ h => h.1)).trans (keep_mono (fr_call HQ.out (by omega) hgr7) (fun b _ h => h.1))
     have hkp : KeepsIn (fun b => Fr Q w.heap.size (w.heap.size + 2) b ∧ b ≠ bb) w3 (w7.alloc (.cells #[.int .i64 fop,.slice fa fds.length fc] 30)) := hkc.trans (KeepsIn.of_below (below_alloc _ _))
     have hR6 := elems_longer (R' := (Fr Q w.heap.size (w.heap.size + 2))) (v := .slice (some ⟨bb,0,none⟩) cs.length cc) (n := ⟨fop,fds⟩) (hR3.imp fun _ _ _ h => h.keep hkp) ⟨_,rfl,((devs_of_el fhv).mono (fun b _ hb => by have := hgr5.size; exact ⟨Or.inr (by omega),by omega⟩)).keep (KeepsIn.of_below (below_alloc _ _))⟩ rfl HG6.out (fun b hb e => hb.2 (by simpa [Value.ownBlock] using e.symm)) (fun b hb => hb.1)
     have e6 : cs.length + 1 = (cs ++ [(⟨fop,fds⟩ : Stil.Elem)]).length := by simp
     have hL6 : ElemsIn (Fr Q w.heap.size (w.heap.size + 2)) w6 (.slice y6 (cs.length + 1) z6) (cs ++ [⟨fop,fds⟩]) := by
      have ho := HO6.out
      rw [e6] at ho ⊢
      exact elemsIn_of_row ho hR6 (fun b hb => Or.inr (by have := (ho.lt _ hb).1; omega))
     have hk6 : KeepsIn (fun b => Fr Q w.heap.size (w.heap.size + 2) b ∧ b ≠ bb) (w7.alloc (.cells #[.int .i64 fop,.slice fa fds.length fc] 30)) w6 := KeepsIn.of_grown HG6.out (fun b hb e => hb.2 (by simp only [Option.some.injEq] at e; exact e.symm))
     have hD6 : DevsIn (Fr Q w.heap.size (w.heap.size + 2)) w6 (.slice a1 ds.length c1) ds := ((((((HD2.out.mono hmlt).keep hkg).mono hmne).keep hkp).keep hk6)).mono fun b _ h => h.1
     have hN6 : NetsIn (Fr Q w.heap.size (w.heap.size + 2)) w6 (.slice a2 ns.length c2) ns := ((((((HN2.out.mono hmlt).keep hkg).mono hmne).keep hkp).keep hk6)).mono fun b _ h => h.1
     have hK6 : ArmsIn (Fr Q w.heap.size (w.heap.size + 2)) w6 (.slice a4 kids.length c4) kids := ((((((HK2.out.mono hmlt).keep hkg).mono hmne).keep hkp).keep hk6)).mono fun b _ h => h.1
     have hr6 : RdAt w6 g (P + 90) := rd_mono (rd_grown (rd_alloc hrd _) HG6.out (by intro j hj; simp only [Option.some.injEq] at hj; omega)) (by omega)
     have hg6 : w.grownBy w6 (some g) := gr_own (gr_alloc (gr_call (gr_call hgq3 hgr5) hgr7) _) HG6.out (by intro j hj; simp only [Option.some.injEq] at hj; omega)
     refine bodyPost_ret (by simp [results,Tryz.results68,go_sem,q6,q7,q8,q9,q10,q11]; rfl) rfl ?_
     refine ⟨⟨⟨k,⟨op,ds⟩,ns⟩,cs ++ [⟨fop,fds⟩],kids⟩,_,_,_,_,rfl,DevsIn.mono (hD6.keep kfA) (fr_out _),NetsIn.mono (hN6.keep kfA) (fr_out _),ElemsIn.mono (hL6.keep kfA) (fr_out _),ArmsIn.mono (hK6.keep kfA) (fr_out _),?_,?_,rlA,glA⟩
     ·refine (ATame_eq _ _ _).2 ⟨HT.out.parts.1,fun x hx => ?_,HT.out.parts.2.2⟩
      rcases List.mem_append.1 hx with h | h
      ·exact HT.out.parts.2.1 x h
      ·rw [List.mem_singleton.1 h]; exact ⟨fhop,fhs,by show fds.length ≤ 100000; omega⟩
     ·have := HZE.out
      rw [Stil.armSz_eq]
      simp only [Stil.elemsSz,List.length_append,List.map_append,List.sum_append,List.length_cons,List.length_nil,List.map_cons,List.map_nil,List.sum_cons,List.sum_nil,Stil.elemSz] at this ⊢
      omega
    ·go_wp2_with (first | (at_builtin; refine wpList_copy_arms rfl _ _ rfl (Fr Q w.heap.size (w.heap.size + 2)) w2 kids (.slice a4 kids.length c4) rfl rfl rfl HK2.out (by omega) ?_; intro bb cc w3 xs hown hrow hbb1 hbb2 hgr3; have HOW : Hid (w3.ownsRow w2.heap.size 36 6 (.slice (some ⟨bb,0,none⟩) kids.length cc) kids.length xs) := hown; have HRW : Hid (RowOf 6 (ArmC (fun b => Fr Q w.heap.size (w.heap.size + 2) b ∧ b < w2.heap.size) w3) xs kids) := hrow; have HG3 : Hid ((w2.alloc (.cells #[] 36)).grownBy w3 (some w2.heap.size)) := hgr3; have hB13 : ABox w3 w.heap.size k op (.slice a1 ds.length c1) (.slice a2 ns.length c2) (.slice a3 cs.length c3) (.slice a4 kids.length c4) := (HB12.out.alloc _).grownO hgr3 (by intro e; simp only [Option.some.injEq] at e; omega); have hB23 : ABox w3 (w.heap.size + 1) 0 0 (.slice none 0 0) (.slice none 0 0) (.slice none 0 0) (.slice none 0 0) := (HB22.out.alloc _).grownO hgr3 (by intro e; simp only [Option.some.injEq] at e; omega); have hrd3 : RdAt w3 g (P + 2) := rd_grown (rd_alloc hrd2 _) hgr3 (by intro j hj; simp only [Option.some.injEq] at hj; omega); have hgq3 : w.grownBy w3 (some g) := gr_own (gr_alloc hgq2 _) hgr3 (by intro j hj; simp only [Option.some.injEq] at hj; omega); clear hown hrow hgr3 q0 q1 q2 q3 q4 q5 q6 q7 q8 q9 q10 q11 p0 p1 p2 p3 p4 p5 p6 p7 p8 p9 p10 p11; obtain ⟨hz0,q0,q1,q2,q3,q4,q5,p0,p1,p2,p3,p4,p5⟩ := hB13; obtain ⟨hz1,q6,q7,q8,q9,q10,q11,p6,p7,p8,p9,p10,p11⟩ := hB23) | (at_builtin; refine wpList_append_own_at _ rfl _ _ 23 rfl w2.heap.size 36 ia (.agg #[.int .i64 0,.int .i64 0,.slice none 0 0,.slice none 0 0,.slice none 0 0,.slice none 0 0]) 6 112 Tryz.underlying23 hia hia0 hia1 hia2 rfl (by decide) _ _ _ rfl (HOW.out.alloc _) _ _ _ [.int .i64 0,.int .i64 0,.slice none 0 0,.slice none 0 0,.slice none 0 0,.slice none 0 0] rfl rfl (by exact cells_new _ _ _ _ (by simp)) (by intro u hu; simp only [List.mem_cons,List.not_mem_nil,or_false] at hu; rcases hu with rfl | rfl | rfl | rfl | rfl | rfl <;> rfl) (by unfold maxLen; omega) (by omega) (by rw [World.size_alloc]; omega) ?_; intro v' w6 hown6 hgr6 hnil6 hat6; have HO6 : Hid (w6.ownsRow w2.heap.size 36 6 v' (kids.length + 1) (xs ++ [.int .i64 0,.int .i64 0,.slice none 0 0,.slice none 0 0,.slice none 0 0,.slice none 0 0])) := hown6; have HG6 : Hid ((w3.alloc (.cells #[.int .i64 0,.int .i64 0,.slice none 0 0,.slice none 0 0,.slice none 0 0,.slice none 0 0] 36)).grownBy w6 (some bb)) := hgr6; obtain ⟨y6,z6,hv6,-⟩ := own_open hown6; subst hv6; have hB16 : ABox w6 w.heap.size k op (.slice a1 ds.length c1) (.slice a2 ns.length c2) (.slice a3 cs.length c3) (.slice a4 kids.length c4) := (ABox.alloc (show ABox w3 w.heap.size k op (.slice a1 ds.length c1) (.slice a2 ns.length c2) (.slice a3 cs.length c3) (.slice a4 kids.length c4) from abA) _).grownO HG6.out (by intro e; simp only [Option.some.injEq] at e; omega); have hB26 : ABox w6 (w.heap.size + 1) 0 0 (.slice none 0 0) (.slice none 0 0) (.slice none 0 0) (.slice none 0 0) := (ABox.alloc (show ABox w3 (w.heap.size + 1) 0 0 (.slice none 0 0) (.slice none 0 0) (.slice none 0 0) (.slice none 0 0) from abA) _).grownO HG6.out (by intro e; simp only [Option.some.injEq] at e; omega); clear hown6 hgr6 hnil6 hat6 q0 q1 q2 q3 q4 q5 q6 q7 q8 q9 q10 q11 p0 p1 p2 p3 p4 p5 p6 p7 p8 p9 p10 p11; obtain ⟨hz0,q0,q1,q2,q3,q4,q5,p0,p1,p2,p3,p4,p5⟩ := hB16; obtain ⟨hz1,q6,q7,q8,q9,q10,q11,p6,p7,p8,p9,p10,p11⟩ := hB26))
     have hkg : KeepsIn (fun b => Fr Q w.heap.size (w.heap.size + 2) b ∧ b < w2.heap.size) w2 w3 := (KeepsIn.of_below (below_alloc _ _)).trans (KeepsIn.of_grown HG3.out (fun b hb e => by simp only [Option.some.injEq] at e; exact absurd hb.2 (by omega)))
     have hmlt : ∀ b,b < w2.heap.size → Fr Q w.heap.size (w.heap.size + 2) b → Fr Q w.heap.size (w.heap.size + 2) b ∧ b < w2.heap.size := fun b hb h => ⟨h,hb⟩
     have hmne : ∀ b,b < w3.heap.size → (Fr Q w.heap.size (w.heap.size + 2) b ∧ b < w2.heap.size) → Fr Q w.heap.size (w.heap.size + 2) b ∧ b ≠ bb := fun b _ h => ⟨h.1,by have := h.2; omega⟩
     have hR3 : RowOf 6 (ArmC (fun b => Fr Q w.heap.size (w.heap.size + 2) b ∧ b ≠ bb) w3) xs kids := HRW.out.imp fun _ _ _ h => h.mono hmne
     have hs3 : w2.heap.size + 1 ≤ w3.heap.size := by have := HG3.out.size; simpa using this
     have hkc : KeepsIn (fun b => Fr Q w.heap.size (w.heap.size + 2) b ∧ b ≠ bb) w3 w3 := KeepsIn.refl _ _
     have hkp : KeepsIn (fun b => Fr Q w.heap.size (w.heap.size + 2) b ∧ b ≠ bb) w3 (w3.alloc (.cells #[.int .i64 0,.int .i64 0,.slice none 0 0,.slice none 0 0,.slice none 0 0,.slice none 0 0] 36)) := hkc.trans (KeepsIn.of_below (below_alloc _ _))
     have hR6 := arms_longer (R' := (Fr Q w.heap.size (w.heap.size + 2))) (v := .slice (some ⟨bb,0,none⟩) kids.length cc) (n := ⟨⟨0,⟨0,[]⟩,[]⟩,[],[]⟩) (hR3.imp fun _ _ _ h => h.keep hkp) ⟨_,_,_,_,rfl,devs_nil _ _,nets_nil _ _,elems_nil _ _,arms_nil _ _⟩ rfl HG6.out (fun b hb e => hb.2 (by simpa [Value.ownBlock] using e.symm)) (fun b hb => hb.1)
     have e6 : kids.length + 1 = (kids ++ [(⟨⟨0,⟨0,[]⟩,[]⟩,[],[]⟩ : Stil.Arm)]).length := by simp
     have hL6 : ArmsIn (Fr Q w.heap.size (w.heap.size + 2)) w6 (.slice y6 (kids.length + 1) z6) (kids ++ [⟨⟨0,⟨0,[]⟩,[]⟩,[],[]⟩]) := by
      have ho := HO6.out
      rw [e6] at ho ⊢
      exact armsIn_of_row ho hR6 (fun b hb => Or.inr (by have := (ho.lt _ hb).1; omega))
     have hk6 : KeepsIn (fun b => Fr Q w.heap.size (w.heap.size + 2) b ∧ b ≠ bb) (w3.alloc (.cells #[.int .i64 0,.int .i64 0,.slice none 0 0,.slice none 0 0,.slice none 0 0,.slice none 0 0] 36)) w6 := KeepsIn.of_grown HG6.out (fun b hb e => hb.2 (by simp only [Option.some.injEq] at e; exact e.symm))
     have hD6 : DevsIn (Fr Q w.heap.size (w.heap.size + 2)) w6 (.slice a1 ds.length c1) ds := ((((((HD2.out.mono hmlt).keep hkg).mono hmne).keep hkp).keep hk6)).mono fun b _ h => h.1
     have hN6 : NetsIn (Fr Q w.heap.size (w.heap.size + 2)) w6 (.slice a2 ns.length c2) ns := ((((((HN2.out.mono hmlt).keep hkg).mono hmne).keep hkp).keep hk6)).mono fun b _ h => h.1
     have hE6 : ElemsIn (Fr Q w.heap.size (w.heap.size + 2)) w6 (.slice a3 cs.length c3) cs := ((((((HE2.out.mono hmlt).keep hkg).mono hmne).keep hkp).keep hk6)).mono fun b _ h => h.1
     have hr6 : RdAt w6 g (P + 90) := rd_mono (rd_grown (rd_alloc hrd3 _) HG6.out (by intro j hj; simp only [Option.some.injEq] at hj; omega)) (by omega)
     have hg6 : w.grownBy w6 (some g) := gr_own (gr_alloc hgq3 _) HG6.out (by intro j hj; simp only [Option.some.injEq] at hj; omega)
     refine bodyPost_ret (by simp [results,Tryz.results68,go_sem,q6,q7,q8,q9,q10,q11]; rfl) rfl ?_
     refine ⟨⟨⟨k,⟨op,ds⟩,ns⟩,cs,kids ++ [⟨⟨0,⟨0,[]⟩,[]⟩,[],[]⟩]⟩,_,_,_,_,rfl,DevsIn.mono (hD6.keep kfA) (fr_out _),NetsIn.mono (hN6.keep kfA) (fr_out _),ElemsIn.mono (hE6.keep kfA) (fr_out _),ArmsIn.mono (hL6.keep kfA) (fr_out _),?_,?_,rlA,glA⟩
     ·refine (ATame_eq _ _ _).2 ⟨HT.out.parts.1,HT.out.parts.2.1,fun x hx => ?_⟩
      rcases List.mem_append.1 hx with h | h
      ·exact HT.out.parts.2.2 x h
      ·rw [List.mem_singleton.1 h]; exact (ATame_eq _ _ _).2 ⟨tame_none,fun _ h => (by cases h),fun _ h => (by cases h)⟩
     ·have := HZE.out
      rw [Stil.armSz_eq]
      simp only [List.length_append,List.map_append,List.sum_append,List.length_cons,List.length_nil,List.map_cons,List.map_nil,List.sum_cons,List.sum_nil]
      have e9 : Stil.armSz ⟨⟨0,⟨0,[]⟩,[]⟩,[],[]⟩ = 0 := by rw [Stil.armSz_eq,Stil.netSz_eq]; simp [Stil.elemsSz]
      rw [e9]
      omega
    ·have hnz : Stil.netSz ⟨k,⟨op,ds⟩,ns⟩ ≤ Z := by have := HZE.out; omega
     have HSP : Hid (Calls Tryz.prog 57 #[.pointer (some ⟨g,0,none⟩),.agg #[.int .i64 k,.int .i64 op,.slice a1 ds.length c1,.slice a2 ns.length c2]] w2 fun e w' => NetOutQ (Fr Q w.heap.size (w.heap.size + 2)) e w2 w' g (P + 2 + 10 * Stil.netSz ⟨k,⟨op,ds⟩,ns⟩ + 60) (Stil.netSz ⟨k,⟨op,ds⟩,ns⟩ + 20)) :=
      s_l3SpoilNet ⟨k,⟨op,ds⟩,ns⟩ _ g (P + 2) w2 _ _ (fun b hb => by rcases hb with h | h; exact HQ.out b h.1; omega) HD2.out HN2.out HT.out.parts.1 (by omega) hrd2 (by omega)
     go_wp2_with (go_at_call 57; refine (HSP.out).mono ?_; rintro e w5 ⟨N,av5,nv5,rfl,hav5,hnv5,ht5,hz5,hrd,hgr5⟩; have HA5 : Hid (DevsIn (Fr (Fr Q w.heap.size (w.heap.size + 2)) w2.heap.size w2.heap.size) w5 av5 N.one.args) := hav5; have HN5 : Hid (NetsIn (Fr (Fr Q w.heap.size (w.heap.size + 2)) w2.heap.size w2.heap.size) w5 nv5 N.kids) := hnv5; obtain ⟨y1,z1,rfl,-⟩ := hav5; obtain ⟨y2,z2,rfl,-⟩ := hnv5; have hz0 : w.heap.size < w5.heap.size := Nat.lt_of_lt_of_le ltA hgr5.size; have hz1 : (w.heap.size + 1) < w5.heap.size := Nat.lt_of_lt_of_le ltA hgr5.size; obtain ⟨q0,p0,q1,p1,q2,p2,q3,p3,q4,p4,q5,p5,q6,p6,q7,p7,q8,p8,q9,p9,q10,p10,q11,p11⟩ : w5.cell? ⟨w.heap.size,0,none⟩ = some (.int .i64 k) ∧ w5.frozen? ⟨w.heap.size,0,none⟩ = false ∧ w5.cell? ⟨w.heap.size,1,none⟩ = some (.int .i64 op) ∧ w5.frozen? ⟨w.heap.size,1,none⟩ = false ∧ w5.cell? ⟨w.heap.size,2,none⟩ = some (.slice a1 ds.length c1) ∧ w5.frozen? ⟨w.heap.size,2,none⟩ = false ∧ w5.cell? ⟨w.heap.size,3,none⟩ = some (.slice a2 ns.length c2) ∧ w5.frozen? ⟨w.heap.size,3,none⟩ = false ∧ w5.cell? ⟨w.heap.size,4,none⟩ = some (.slice a3 cs.length c3) ∧ w5.frozen? ⟨w.heap.size,4,none⟩ = false ∧ w5.cell? ⟨w.heap.size,5,none⟩ = some (.slice a4 kids.length c4) ∧ w5.frozen? ⟨w.heap.size,5,none⟩ = false ∧ w5.cell? ⟨(w.heap.size + 1),0,none⟩ = some (.int .i64 0) ∧ w5.frozen? ⟨(w.heap.size + 1),0,none⟩ = false ∧ w5.cell? ⟨(w.heap.size + 1),1,none⟩ = some (.int .i64 0) ∧ w5.frozen? ⟨(w.heap.size + 1),1,none⟩ = false ∧ w5.cell? ⟨(w.heap.size + 1),2,none⟩ = some (.slice none 0 0) ∧ w5.frozen? ⟨(w.heap.size + 1),2,none⟩ = false ∧ w5.cell? ⟨(w.heap.size + 1),3,none⟩ = some (.slice none 0 0) ∧ w5.frozen? ⟨(w.heap.size + 1),3,none⟩ = false ∧ w5.cell? ⟨(w.heap.size + 1),4,none⟩ = some (.slice none 0 0) ∧ w5.frozen? ⟨(w.heap.size + 1),4,none⟩ = false ∧ w5.cell? ⟨(w.heap.size + 1),5,none⟩ = some (.slice none 0 0) ∧ w5.frozen? ⟨(w.heap.size + 1),5,none⟩ = false := ⟨gcA hgr5,gfA hgr5,gcA hgr5,gfA hgr5,gcA hgr5,gfA hgr5,gcA hgr5,gfA hgr5,gcA hgr5,gfA hgr5,gcA hgr5,gfA hgr5,gcA hgr5,gfA hgr5,gcA hgr5,gfA hgr5,gcA hgr5,gfA hgr5,gcA hgr5,gfA hgr5,gcA hgr5,gfA hgr5,gcA hgr5,gfA hgr5⟩)
     have hmo : ∀ b,b < w5.heap.size → Fr (Fr Q w.heap.size (w.heap.size + 2)) w2.heap.size w2.heap.size b → Fr Q w.heap.size (w.heap.size + 2) b := fun b _ h => by
      rcases h with h | h
      ·exact h.1
      ·exact Or.inr (by omega)
     have hkc : KeepsIn (Fr Q w.heap.size (w.heap.size + 2)) w2 w5 := fr_call HQ.out (by omega) hgr5
     refine bodyPost_ret (by simp [results,Tryz.results68,go_sem,q6,q7,q8,q9,q10,q11]; rfl) rfl ?_
     refine ⟨⟨N,cs,kids⟩,_,_,_,_,rfl,DevsIn.mono ((HA5.out.mono hmo).keep kfA) (fr_out _),NetsIn.mono ((HN5.out.mono hmo).keep kfA) (fr_out _),ElemsIn.mono ((HE2.out.keep hkc).keep kfA) (fr_out _),ArmsIn.mono ((HK2.out.keep hkc).keep kfA) (fr_out _),(ATame_eq _ _ _).2 ⟨ht5,HT.out.parts.2⟩,?_,rlA,glA⟩
     have := HZE.out
     rw [Stil.armSz_eq]
     omega
end Go.Proofs.YtenoanhonjdpjaaGreatDoor
