/- D17a,D17b,D17: texts put together. -/
import Derived.Test.YtenoanhonjdpjaaGreatDoorG5
set_option maxHeartbeats 4000000
set_option maxRecDepth 100000
/- A list is copied behind an empty one: append([]T{},xs...). -/
namespace Go.Proofs.YtenoanhonjdpjaaGreatDoor
open Go.RowKit Go.Sort Go.BigFrame
/-- Blocks that were told,as they lay below n,and new ones from m on. -/
def Fr (Q : Nat → Prop) (n m : Nat) (b : Nat) : Prop := (Q b ∧ b < n) ∨ m ≤ b
theorem Fr.box {Q : Nat → Prop} {n m k : Nat} (h1 : n ≤ k) (h2 : k < m) : ¬ Fr Q n m k := by
 rintro (h | h)
 ·exact absurd h.2 (by omega)
 ·omega
theorem kfA {P : Nat → Prop} {w W : World} (h : KeepsIn P w W := by (repeat (first | with_reducible exact KeepsIn.refl _ _ | with_reducible assumption | with_reducible refine KeepsIn.trans ?_ (KeepsIn.set (Fr.box (by omega) (by omega)) _) | with_reducible refine KeepsIn.trans ?_ (KeepsIn.of_below (below_alloc _ _))))) : KeepsIn P w W := h
/-- As Fr,but for the block of a list. -/
def FrO (Q : Nat → Prop) (n m : Nat) (v : Value) (b : Nat) : Prop := Fr Q n m b ∧ v.ownBlock ≠ some b
theorem FrO.keep {Q : Nat → Prop} {n m : Nat} {v : Value} {w w' : World} (h : w.grownBy w' v.ownBlock) : KeepsIn (FrO Q n m v) w w' := KeepsIn.of_grown h fun _ hb => hb.2
/-- A list of nets is copied. -/
theorem step_copy_nets {ops : Array Oper} {o : Oper} {a : Act} {w : World} {K : Act → World → Prop} {Q : Exit → Act → World → Prop} {E : Prop}
  (hg : o.guard = none) (s x : Operand) (hop : o.op = .call { callee := .builtin .append,args := #[s,x],argTypes := #[31,31] })
  (R : Nat → Prop) (W : World) (ns : List Stil.Net) (kv : Value) (hs : a.eval s = .slice (some ⟨W.heap.size,0,none⟩) 0 0) (hx : a.eval x = kv) (hw : w = W.alloc (.cells #[] 33))
  (hk : NetsIn R W kv ns) (hl : ns.length ≤ 100000)
  (hK : ∀ bb c w' xs,w'.ownsRow W.heap.size 33 4 (.slice (some ⟨bb,0,none⟩) ns.length c) ns.length xs → RowOf 4 (NetC (fun b => R b ∧ b < W.heap.size) w') xs ns → W.heap.size ≤ bb → bb < w'.heap.size → w.grownBy w' (some W.heap.size) → K (a.put o.dst (.slice (some ⟨bb,0,none⟩) ns.length c)) w') :
  if Region.wanted o (yielded ops a.tmps) = true then Oper.wp Tryz.prog o a w K Q else E := by
 obtain ⟨i0,hi,hz0,hz1,hz2⟩ := info_parts info_net
 have hk2 : NetsIn (fun b => R b ∧ b < W.heap.size) w kv ns := by
  rw [hw]
  exact (hk.mono fun b hb h => ⟨h,hb⟩).keep (KeepsIn.of_below (below_alloc _ _))
 have hsz : w.heap.size = W.heap.size + 1 := by rw [hw]; simp
 have ho : w.ownsRow W.heap.size 33 4 (.slice (some ⟨W.heap.size,0,none⟩) 0 0) 0 [] := by
  rw [hw]
  have := World.ownsRow_lit (base := W.heap.size) (e := 33) (size := 4) W #[] 0 (by omega) (by unfold maxLen; omega) rfl
  simpa using this
 obtain ⟨ad,cap,hv,hq,xs,hrow,hcell⟩ := row_of_nets hk2
 subst hv
 by_cases hd : ns.length = 0
 ·have hn : ns = [] := List.length_eq_zero_iff.1 hd
  subst hn
  have hwt : Region.wanted o (yielded ops a.tmps) = true := by simp [Region.wanted,hg]
  rw [if_pos hwt]
  have hx0 : xs = [] := by have := hrow.1; simpa using this
  subst hx0
  have hk3 := hK W.heap.size 0 w [] ho (RowOf.nil _ _) (Nat.le_refl _) (by omega) (grown_refl _ _)
  simp only [List.length_nil] at hk3 hx
  unfold Oper.wp execOp
  cases ad
  ·have e : Sem.run Tryz.prog (Builtin.append_ #[31,31] o.type #[.slice (some ⟨W.heap.size,0,none⟩) 0 0,.slice none 0 cap]) w = .ok (.slice (some ⟨W.heap.size,0,none⟩) 0 0) w := by simp [Builtin.append_,go_sem]
   simp only [hop,resolve,invoke,builtin,Sem.run_bind,Sem.run_pure,Result.andThen_ok,List.map_toArray,List.map_cons,List.map_nil,hs,hx,e]
   exact hk3
  ·rename_i t1
   have e : Sem.run Tryz.prog (Builtin.append_ #[31,31] o.type #[.slice (some ⟨W.heap.size,0,none⟩) 0 0,.slice (some t1) 0 cap]) w = .ok (.slice (some ⟨W.heap.size,0,none⟩) 0 0) w := by simp [Builtin.append_,go_sem]
   simp only [hop,resolve,invoke,builtin,Sem.run_bind,Sem.run_pure,Result.andThen_ok,List.map_toArray,List.map_cons,List.map_nil,hs,hx,e]
   exact hk3
 ·obtain ⟨p,rfl⟩ : ∃ p,ad = some p := by
   cases ad with
   | none => exact absurd (hq.2 rfl) (by have := hq.1; omega)
   | some p => exact ⟨p,rfl⟩
  refine step_append_at hg s x _ hop W.heap.size 33 i0 _ 4 64 Tryz.underlying31 hi hz0 hz1 hz2 rfl (by decide) _ _ [] hs ho _ _ _ xs hx hrow.1 (hcell _ rfl) ?_ (by unfold maxLen; omega) (by omega) (by omega) ?_
  ·intro u hu
   obtain ⟨j,hj⟩ := List.getElem?_of_mem hu
   have hjl : j < ns.length * 4 := by rw [← hrow.1]; exact (List.getElem?_eq_some_iff.1 hj).1
   obtain ⟨av,nv,he,hav,hnv⟩ := hrow.2 (j / 4) (by omega)
   have hm : xs[j]? = ((xs.drop (j / 4 * 4)).take 4)[j % 4]? := by
    rw [List.getElem?_take,if_pos (by omega),List.getElem?_drop,Nat.mul_comm,Nat.div_add_mod]
   rw [hm,he] at hj
   obtain ⟨p1,c1,rfl,_⟩ := hav
   obtain ⟨p2,c2,rfl,_⟩ := hnv
   have : u ∈ [Value.int .i64 ns[j / 4].kind,.int .i64 ns[j / 4].one.op,.slice p1 ns[j / 4].one.args.length c1,.slice p2 ns[j / 4].kids.length c2] := List.mem_of_getElem? hj
   simp only [List.mem_cons,List.not_mem_nil,or_false] at this
   rcases this with rfl | rfl | rfl | rfl <;> rfl
  ·intro v' w' h1 h2 h3
   simp only [Nat.zero_add,List.nil_append] at h1
   obtain ⟨bb,c,rfl,hb1,hb2,_,_⟩ := ownsRow_cells h1 (by omega)
   have h4 : w.grownBy w' (some W.heap.size) := h2
   exact hK bb c w' xs h1 (hrow.imp fun _ _ _ h => h.keep (KeepsIn.of_grown h4 (fun b hb e => by simp only [Option.some.injEq] at e; exact absurd hb.2 (by omega)))) hb1 hb2 h4
theorem wpList_copy_nets {ops : Array Oper} {rest : List Oper} {o : Oper} {a : Act} {w : World} {Q : Exit → Act → World → Prop}
  (hg : o.guard = none) (s x : Operand) (hop : o.op = .call { callee := .builtin .append,args := #[s,x],argTypes := #[31,31] })
  (R : Nat → Prop) (W : World) (ns : List Stil.Net) (kv : Value) (hs : a.eval s = .slice (some ⟨W.heap.size,0,none⟩) 0 0) (hx : a.eval x = kv) (hw : w = W.alloc (.cells #[] 33))
  (hk : NetsIn R W kv ns) (hl : ns.length ≤ 100000)
  (h : ∀ bb c w' xs,w'.ownsRow W.heap.size 33 4 (.slice (some ⟨bb,0,none⟩) ns.length c) ns.length xs → RowOf 4 (NetC (fun b => R b ∧ b < W.heap.size) w') xs ns → W.heap.size ≤ bb → bb < w'.heap.size → w.grownBy w' (some W.heap.size) → wpList Tryz.prog ops Q rest (a.put o.dst (.slice (some ⟨bb,0,none⟩) ns.length c)) w') :
  wpList Tryz.prog ops Q (o :: rest) a w := by
 refine wpList_plain hg fun K hK => ?_
 have hw' : Region.wanted o (yielded #[] a.tmps) = true := by simp [Region.wanted,hg]
 have := step_copy_nets (ops := #[]) (K := K) (Q := Q) (E := True) hg s x hop R W ns kv hs hx hw hk hl (fun bb c w' xs h1 h2 h3 h4 h5 => hK _ _ (h bb c w' xs h1 h2 h3 h4 h5))
 rwa [if_pos hw'] at this
/-- What spoiling leaves: a net in the memory that was told and in new. -/
def NetOutQ (Q : Nat → Prop) (e : Ending) (w w' : World) (g P N : Nat) : Prop := ∃ (n : Stil.Net) (av kv : Value),e = .returned (.agg #[.int .i64 n.kind,.int .i64 n.one.op,av,kv]) ∧ DevsIn (Fr Q w.heap.size w.heap.size) w' av n.one.args ∧ NetsIn (Fr Q w.heap.size w.heap.size) w' kv n.kids ∧ NTame n ∧ Stil.netSz n ≤ N ∧ RdAt w' g P ∧ w.grownBy w' (some g)
theorem NTame.parts {n : Stil.Net} (h : NTame n) : (-1000000 ≤ n.kind ∧ n.kind ≤ 1000000) ∧ ETame n.one ∧ ∀ x ∈ n.kids,NTame x := by
 obtain ⟨k,e,kids⟩ := n
 exact (NTame_eq _ _ _).1 h
theorem fr_call {Q : Nat → Prop} {n m g : Nat} {w w' : World} (hQ : ∀ b,Q b → g < b) (hg : g < m) (h : w.grownBy w' (some g)) : KeepsIn (Fr Q n m) w w' := KeepsIn.of_grown h (fun b hb e => by
 simp only [Option.some.injEq] at e
 rcases hb with hb | hb
 ·have := hQ b hb.1; omega
 ·omega)
theorem sum_set {α : Type} (f : α → Nat) (c : Nat) : ∀ (l : List α) (j : Nat) (x : α) (h : j < l.length),f x ≤ f l[j] + c → ((l.set j x).map f).sum ≤ (l.map f).sum + c
 | [],j,x,h,_ => absurd h (by simp)
 | y :: r,0,x,_,hx => by
  simp only [List.getElem_cons_zero] at hx
  simp only [List.set_cons_zero,List.map_cons,List.sum_cons]
  omega
 | y :: r,j + 1,x,h,hx => by
  have := sum_set f c r j x (by simpa using h) (by simpa using hx)
  simp only [List.set_cons_succ,List.map_cons,List.sum_cons]
  omega
/-- The cells of one net of a row. -/
theorem net_cells {R : Nat → Prop} {w : World} {base bb cap k : Nat} {xs : List Value} {ns : List Stil.Net} (h : w.ownsRow base 33 4 (.slice (some ⟨bb,0,none⟩) ns.length cap) ns.length xs) (hr : RowOf 4 (NetC R w) xs ns) (hk : k < ns.length) :
  ∃ av kv,w.cell? ⟨bb,k * 4,none⟩ = some (.int .i64 ns[k].kind) ∧ w.cell? ⟨bb,k * 4 + 1,none⟩ = some (.int .i64 ns[k].one.op) ∧ w.cell? ⟨bb,k * 4 + 2,none⟩ = some av ∧ w.cell? ⟨bb,k * 4 + 3,none⟩ = some kv ∧ w.frozen? ⟨bb,k * 4,none⟩ = false ∧ w.frozen? ⟨bb,k * 4 + 1,none⟩ = false ∧ w.frozen? ⟨bb,k * 4 + 2,none⟩ = false ∧ w.frozen? ⟨bb,k * 4 + 3,none⟩ = false ∧ DevsIn R w av ns[k].one.args ∧ NetsIn R w kv ns[k].kids := by
 obtain ⟨g,c,hv,_,_,_,hc⟩ := ownsRow_cells h (by omega)
 simp only [Value.slice.injEq,Option.some.injEq,Addr.mk.injEq] at hv
 obtain ⟨⟨rfl,_⟩,_⟩ := hv
 obtain ⟨av,kv,he,h1,h2⟩ := hr.2 k hk
 have hx := row_at hr hk he
 exact ⟨av,kv,hc _ _ (hx 0 _ rfl),hc _ _ (hx 1 _ rfl),hc _ _ (hx 2 _ rfl),hc _ _ (hx 3 _ rfl),h.frozenAt _,h.frozenAt _,h.frozenAt _,h.frozenAt _,h1,h2⟩
/-- A row of nets,one written anew. -/
theorem net_storedIn {R : Nat → Prop} {w : World} {base bb cap k n : Nat} {xs : List Value} {ns : List Stil.Net} {N : Stil.Net} {av kv : Value} (h : w.ownsRow base 33 4 (.slice (some ⟨bb,0,none⟩) n cap) n xs) (hr : RowOf 4 (NetC R w) xs ns) (hk : k < ns.length) (hn : ¬ R bb)
  (hav : DevsIn R w av N.one.args) (hkv : NetsIn R w kv N.kids) :
  ∃ ys,((((w.setCell ⟨bb,k * 4,none⟩ (.int .i64 N.kind)).setCell ⟨bb,k * 4 + 1,none⟩ (.int .i64 N.one.op)).setCell ⟨bb,k * 4 + 2,none⟩ av).setCell ⟨bb,k * 4 + 3,none⟩ kv).ownsRow base 33 4 (.slice (some ⟨bb,0,none⟩) n cap) n ys ∧
   RowOf 4 (NetC R ((((w.setCell ⟨bb,k * 4,none⟩ (.int .i64 N.kind)).setCell ⟨bb,k * 4 + 1,none⟩ (.int .i64 N.one.op)).setCell ⟨bb,k * 4 + 2,none⟩ av).setCell ⟨bb,k * 4 + 3,none⟩ kv)) ys (ns.set k N) := by
 refine ⟨_,((((h.stored (k * 4) _).1.stored (k * 4 + 1) _).1.stored (k * 4 + 2) _).1.stored (k * 4 + 3) _).1,?_⟩
 have hkp : KeepsIn R w ((((w.setCell ⟨bb,k * 4,none⟩ (.int .i64 N.kind)).setCell ⟨bb,k * 4 + 1,none⟩ (.int .i64 N.one.op)).setCell ⟨bb,k * 4 + 2,none⟩ av).setCell ⟨bb,k * 4 + 3,none⟩ kv) :=
  (((KeepsIn.set hn _).trans (KeepsIn.set hn _)).trans (KeepsIn.set hn _)).trans (KeepsIn.set hn _)
 have hl : xs.length = ns.length * 4 := hr.1
 have hkl : k * 4 + 3 < xs.length := by omega
 refine RowOf.set (hr.imp fun _ _ _ h => h.keep hkp) hk (by simp) ⟨av,kv,?_,hav.keep hkp,hkv.keep hkp⟩ ?_
 ·apply List.ext_getElem?
  intro j
  rw [List.getElem?_take]
  by_cases hj : j < 4
  ·rw [if_pos hj,List.getElem?_drop]
   have : j = 0 ∨ j = 1 ∨ j = 2 ∨ j = 3 := by omega
   rcases this with rfl | rfl | rfl | rfl
   ·rw [List.getElem?_set_ne (by omega),List.getElem?_set_ne (by omega),List.getElem?_set_ne (by omega),Nat.add_zero,List.getElem?_set_self (by omega)]; rfl
   ·rw [List.getElem?_set_ne (by omega),List.getElem?_set_ne (by omega),List.getElem?_set_self (by simp; omega)]; rfl
   ·rw [List.getElem?_set_ne (by omega),List.getElem?_set_self (by simp; omega)]; rfl
   ·rw [List.getElem?_set_self (by simp; omega)]; rfl
  ·rw [if_neg hj,List.getElem?_eq_none (by simp; omega)]
 ·intro j hj
  rw [List.getElem?_set_ne (by omega),List.getElem?_set_ne (by omega),List.getElem?_set_ne (by omega),List.getElem?_set_ne (by omega)]
/-- A row that owns its memory,one longer. -/
theorem nets_longer {R R' : Nat → Prop} {w w' : World} {v : Value} {xs cs : List Value} {ns : List Stil.Net} {n : Stil.Net} (h : RowOf 4 (NetC R w) xs ns) (hc : NetC R w cs n) (hl : cs.length = 4) (hg : w.grownBy w' v.ownBlock) (hr : ∀ b,R b → v.ownBlock ≠ some b) (hm : ∀ b,R b → R' b) : RowOf 4 (NetC R' w') (xs ++ cs) (ns ++ [n]) :=
 ((h.append (RowOf.one hl hc)).imp fun _ _ _ h => (h.keep (KeepsIn.of_grown hg hr)).mono fun b _ => hm b)
theorem tame_one {n : Stil.Net} {op : Int} {ds : List Stil.Dev} (h : NTame n) (ho : -1000000 ≤ op ∧ op ≤ 1000000) (hs : ∀ d ∈ ds,Small d) (hl : ds.length ≤ 100000) : NTame ⟨n.kind,⟨op,ds⟩,n.kids⟩ := (NTame_eq _ _ _).2 ⟨h.parts.1,⟨ho,hs,hl⟩,h.parts.2.2⟩
theorem tame_kind {n : Stil.Net} {k : Int} (h : NTame n) (hk : -1000000 ≤ k ∧ k ≤ 1000000) : NTame ⟨k,n.one,n.kids⟩ := (NTame_eq _ _ _).2 ⟨hk,h.parts.2.1,h.parts.2.2⟩
theorem tame_with {n : Stil.Net} {ks : List Stil.Net} (h : NTame n) (hk : ∀ x ∈ ks,NTame x) : NTame ⟨n.kind,n.one,ks⟩ := (NTame_eq _ _ _).2 ⟨h.parts.1,h.parts.2.1,hk⟩
theorem NBox.alloc {w : World} {b : Nat} {k op : Int} {av kv : Value} (h : NBox w b k op av kv) (o : Obj) : NBox (w.alloc o) b k op av kv := h.grownO (grown_below (below_alloc w o) none) (by simp)
theorem NBox.set {w : World} {b b' o : Nat} {k op : Int} {av kv v : Value} (h : NBox w b k op av kv) (hne : b ≠ b') : NBox (w.setCell ⟨b',o,none⟩ v) b k op av kv := by
 obtain ⟨h0,h1⟩ := h
 refine ⟨by simpa using h0,?_⟩
 simp only [cell_set_other hne,frozen_set]
 exact h1
theorem sz_kid {k : Int} {op : Int} {ds : List Stil.Dev} {kids : List Stil.Net} {x : Stil.Net} (hx : x ∈ kids) : Stil.netSz x + 1 ≤ Stil.netSz ⟨k,⟨op,ds⟩,kids⟩ := by
 rw [Stil.netSz_eq]
 have h1 := Stil.mem_le_sum Stil.netSz kids x hx
 have h2 : 0 < kids.length := List.length_pos_of_mem hx
 omega
theorem fr_out {Q : Nat → Prop} {n : Nat} (W : World) : ∀ b,b < W.heap.size → Fr Q n (n + 2) b → Fr Q n n b := fun b _ h => h.imp id (fun h => by omega)
theorem s_l3SpoilNet (n : Stil.Net) : ∀ (Q : Nat → Prop) (g P : Nat) (w : World) (av kv : Value),(∀ b,Q b → g < b) → DevsIn Q w av n.one.args → NetsIn Q w kv n.kids → NTame n → Stil.netSz n ≤ 40000 → RdAt w g P → P + 10 * Stil.netSz n + 60 ≤ 100000000 →
  Calls Tryz.prog 57 #[.pointer (some ⟨g,0,none⟩),.agg #[.int .i64 n.kind,.int .i64 n.one.op,av,kv]] w fun e w' => NetOutQ Q e w w' g (P + 10 * Stil.netSz n + 60) (Stil.netSz n + 20) := by
 induction n using Stil.net_ind with
 | h k e kids ih =>
  obtain ⟨op,ds⟩ := e
  intro Q g P w av kv hQ hav hkv htm hsz hr hP
  simp only at hav hkv
  have hg := rd_lt hr
  have HSK : Hid (∀ x ∈ kids,Stil.netSz x + 1 ≤ Stil.netSz ⟨k,⟨op,ds⟩,kids⟩) := fun x hx => sz_kid hx
  have hzl : ds.length + kids.length ≤ Stil.netSz ⟨k,⟨op,ds⟩,kids⟩ := by rw [Stil.netSz_eq]; simp only; omega
  have HZE : Hid (Stil.netSz ⟨k,⟨op,ds⟩,kids⟩ = ds.length + (kids.length + (kids.map Stil.netSz).sum)) := Stil.netSz_eq _ _ _
  obtain ⟨Z,hZ⟩ : ∃ Z,Z = Stil.netSz ⟨k,⟨op,ds⟩,kids⟩ := ⟨_,rfl⟩
  rw [← hZ] at HSK hzl HZE hsz hP ⊢
  clear hZ
  have IH : Hid (∀ x ∈ kids,∀ (Q : Nat → Prop) (g P : Nat) (w : World) (av kv : Value),(∀ b,Q b → g < b) → DevsIn Q w av x.one.args → NetsIn Q w kv x.kids → NTame x → Stil.netSz x ≤ 40000 → RdAt w g P → P + 10 * Stil.netSz x + 60 ≤ 100000000 →
   Calls Tryz.prog 57 #[.pointer (some ⟨g,0,none⟩),.agg #[.int .i64 x.kind,.int .i64 x.one.op,av,kv]] w fun e w' => NetOutQ Q e w w' g (P + 10 * Stil.netSz x + 60) (Stil.netSz x + 20)) := ih
  have HQ : Hid (∀ b,Q b → g < b) := hQ
  have HT : Hid (NTame ⟨k,⟨op,ds⟩,kids⟩) := htm
  have HD0 : Hid (DevsIn (Fr Q w.heap.size (w.heap.size + 2)) w av ds) := hav.mono fun b hb h => Or.inl ⟨h,hb⟩
  have HK0 : Hid (NetsIn (Fr Q w.heap.size (w.heap.size + 2)) w kv kids) := hkv.mono fun b hb h => Or.inl ⟨h,hb⟩
  obtain ⟨a1,c1,rfl,_⟩ := hav
  obtain ⟨a2,c2,rfl,_⟩ := hkv
  clear ih hQ htm
  go_enter Tryz.func57,Tryz.ntmps57
  go_upto_region 1 with fail
  go_cut [15] (fun c wq => ∃ b : Bool,c = .bool b ∧ (b = true → 0 < kids.length) ∧ NBox wq w.heap.size k op (.slice a1 ds.length c1) (.slice a2 kids.length c2) ∧ NBox wq (w.heap.size + 1) 0 0 (.slice none 0 0) (.slice none 0 0) ∧ DevsIn (Fr Q w.heap.size (w.heap.size + 2)) wq (.slice a1 ds.length c1) ds ∧ NetsIn (Fr Q w.heap.size (w.heap.size + 2)) wq (.slice a2 kids.length c2) kids ∧ RdAt wq g (P + 1) ∧ w.grownBy wq (some g))
  case first =>
   by_cases hk0 : 0 < kids.length
   ·go_wp2_with ((go_at_call_of 31 (Value.int IntKind.i64 3); refine (s_pick g _ _ _ raA (by omega) (by omega) (by omega)).mono ?_; rintro e wa ⟨x,rfl,hx0,hx1,hrd,hga⟩; have hz0 : w.heap.size < wa.heap.size := Nat.lt_of_lt_of_le ltA hga.size; have hz1 : (w.heap.size + 1) < wa.heap.size := Nat.lt_of_lt_of_le ltA hga.size; obtain ⟨q0,p0,q1,p1,q2,p2,q3,p3,q4,p4,q5,p5,q6,p6,q7,p7⟩ : wa.cell? ⟨w.heap.size,0,none⟩ = some (.int .i64 k) ∧ wa.frozen? ⟨w.heap.size,0,none⟩ = false ∧ wa.cell? ⟨w.heap.size,1,none⟩ = some (.int .i64 op) ∧ wa.frozen? ⟨w.heap.size,1,none⟩ = false ∧ wa.cell? ⟨w.heap.size,2,none⟩ = some (.slice a1 ds.length c1) ∧ wa.frozen? ⟨w.heap.size,2,none⟩ = false ∧ wa.cell? ⟨w.heap.size,3,none⟩ = some (.slice a2 kids.length c2) ∧ wa.frozen? ⟨w.heap.size,3,none⟩ = false ∧ wa.cell? ⟨(w.heap.size + 1),0,none⟩ = some (.int .i64 0) ∧ wa.frozen? ⟨(w.heap.size + 1),0,none⟩ = false ∧ wa.cell? ⟨(w.heap.size + 1),1,none⟩ = some (.int .i64 0) ∧ wa.frozen? ⟨(w.heap.size + 1),1,none⟩ = false ∧ wa.cell? ⟨(w.heap.size + 1),2,none⟩ = some (.slice none 0 0) ∧ wa.frozen? ⟨(w.heap.size + 1),2,none⟩ = false ∧ wa.cell? ⟨(w.heap.size + 1),3,none⟩ = some (.slice none 0 0) ∧ wa.frozen? ⟨(w.heap.size + 1),3,none⟩ = false := ⟨gcA hga,gfA hga,gcA hga,gfA hga,gcA hga,gfA hga,gcA hga,gfA hga,gcA hga,gfA hga,gcA hga,gfA hga,gcA hga,gfA hga,gcA hga,gfA hga⟩))
    go_meet
    have hkp : KeepsIn (Fr Q w.heap.size (w.heap.size + 2)) w wa := ((KeepsIn.of_below (below_alloc _ _)).trans (KeepsIn.of_below (below_alloc _ _))).trans (fr_call HQ.out (by omega) hga)
    exact ⟨decide (0 < x),rfl,fun _ => hk0,nbA,nbA,HD0.out.keep hkp,HK0.out.keep hkp,rlA,glA⟩
   ·have hkz : decide (0 < (kids.length : Int)) = false := by rw [decide_eq_false_iff_not]; omega
    go_wp2
    go_meet
    exact ⟨false,rfl,fun h => (by cases h),nbA,nbA,HD0.out.keep kfA,HK0.out.keep kfA,rlA,glA⟩
  case rest =>
   obtain ⟨b,rfl,hbk,hb1,hb2,hd1,hk1,hrd,hgq⟩ := hcut
   clear HD0 HK0 hr
   cases b with
   | true =>
    have hk0 : 0 < kids.length := hbk rfl
    clear hbk
    have HB1 : Hid (NBox wc w.heap.size k op (.slice a1 ds.length c1) (.slice a2 kids.length c2)) := hb1
    have HB2 : Hid (NBox wc (w.heap.size + 1) 0 0 (.slice none 0 0) (.slice none 0 0)) := hb2
    have HD1 : Hid (DevsIn (Fr Q w.heap.size (w.heap.size + 2)) wc (.slice a1 ds.length c1) ds) := hd1
    have HK1 : Hid (NetsIn (Fr Q w.heap.size (w.heap.size + 2)) wc (.slice a2 kids.length c2) kids) := hk1
    obtain ⟨hz0,q0,q1,q2,q3,p0,p1,p2,p3⟩ := hb1
    have hzb := hb2.1
    clear hb2 hd1 hk1
    go_upto_region 3 with (at_builtin; refine wpList_copy_nets rfl _ _ rfl (Fr Q w.heap.size (w.heap.size + 2)) wc kids (.slice a2 kids.length c2) rfl rfl rfl HK1.out (by omega) ?_; intro bb cc w3 xs hown hrow hbb1 hbb2 hgr3; have HOW : Hid (w3.ownsRow wc.heap.size 33 4 (.slice (some ⟨bb,0,none⟩) kids.length cc) kids.length xs) := hown; have HRW : Hid (RowOf 4 (NetC (fun b => Fr Q w.heap.size (w.heap.size + 2) b ∧ b < wc.heap.size) w3) xs kids) := hrow; have HG3 : Hid ((wc.alloc (.cells #[] 33)).grownBy w3 (some wc.heap.size)) := hgr3; clear hown hrow hgr3 q0 q1 q2 q3 p0 p1 p2 p3)
    have HB13 : Hid (NBox w3 w.heap.size k op (.slice a1 ds.length c1) (.slice a2 kids.length c2)) := (HB1.out.alloc _).grownO HG3.out (by intro e; simp only [Option.some.injEq] at e; omega)
    have HB23 : Hid (NBox w3 (w.heap.size + 1) 0 0 (.slice none 0 0) (.slice none 0 0)) := (HB2.out.alloc _).grownO HG3.out (by intro e; simp only [Option.some.injEq] at e; omega)
    have hrd3 : RdAt w3 g (P + 1) := rd_grown (rd_alloc hrd _) HG3.out (by intro j hj; simp only [Option.some.injEq] at hj; omega)
    have hgq3 : w.grownBy w3 (some g) := gr_own (gr_alloc hgq _) HG3.out (by intro j hj; simp only [Option.some.injEq] at hj; omega)
    have HD3 : Hid (DevsIn (Fr Q w.heap.size (w.heap.size + 2)) w3 (.slice a1 ds.length c1) ds) := ((HD1.out.mono (P := fun b => Fr Q w.heap.size (w.heap.size + 2) b ∧ b < wc.heap.size) fun b hb h => ⟨h,hb⟩).keep ((KeepsIn.of_below (below_alloc _ _)).trans (KeepsIn.of_grown HG3.out (fun b hb e => by simp only [Option.some.injEq] at e; exact absurd hb.2 (by omega))))).mono fun b _ h => h.1
    have HDB3 : Hid (DevsIn (fun b => Fr Q w.heap.size (w.heap.size + 2) b ∧ b ≠ bb) w3 (.slice a1 ds.length c1) ds) := ((HD1.out.mono (P := fun b => Fr Q w.heap.size (w.heap.size + 2) b ∧ b < wc.heap.size) fun b hb h => ⟨h,hb⟩).keep ((KeepsIn.of_below (below_alloc _ _)).trans (KeepsIn.of_grown HG3.out (fun b hb e => by simp only [Option.some.injEq] at e; exact absurd hb.2 (by omega))))).mono fun b _ h => ⟨h.1,by have := h.2; omega⟩
    have HR3 : Hid (RowOf 4 (NetC (fun b => Fr Q w.heap.size (w.heap.size + 2) b ∧ b ≠ bb) w3) xs kids) := HRW.out.imp fun _ _ _ h => h.mono fun b _ hb => ⟨hb.1,by have := hb.2; omega⟩
    clear HB1 HB2 HD1 HK1 HRW hrd hgq hz0
    go_upto_region 4 with (go_at_call_of 31 (kids.length : Nat); refine (s_pick g _ _ _ hrd3 (by omega) (by omega) (by omega)).mono ?_; rintro e w4 ⟨x,rfl,hx0,hx1,hrd4,hgr4⟩; obtain ⟨j,rfl⟩ := Int.eq_ofNat_of_zero_le hx0; have hj : j < kids.length := (by omega); clear hx0 hx1)
    have hkR : KeepsIn (fun b => Fr Q w.heap.size (w.heap.size + 2) b ∧ b ≠ bb) w3 w4 := keep_mono (fr_call HQ.out (by omega) hgr4) (fun b _ h => h.1)
    have HOW4 : Hid (w4.ownsRow wc.heap.size 33 4 (.slice (some ⟨bb,0,none⟩) kids.length cc) kids.length xs) := own_grown HOW.out hgr4 (by omega)
    have HR4 : Hid (RowOf 4 (NetC (fun b => Fr Q w.heap.size (w.heap.size + 2) b ∧ b ≠ bb) w4) xs kids) := HR3.out.imp fun _ _ _ h => h.keep hkR
    have HB14 : Hid (NBox w4 w.heap.size k op (.slice a1 ds.length c1) (.slice a2 kids.length c2)) := HB13.out.grownO hgr4 (by intro e; simp only [Option.some.injEq] at e; omega)
    have HB24 : Hid (NBox w4 (w.heap.size + 1) 0 0 (.slice none 0 0) (.slice none 0 0)) := HB23.out.grownO hgr4 (by intro e; simp only [Option.some.injEq] at e; omega)
    have HD4 : Hid (DevsIn (Fr Q w.heap.size (w.heap.size + 2)) w4 (.slice a1 ds.length c1) ds) := HD3.out.keep (fr_call HQ.out (by omega) hgr4)
    have hgq4 : w.grownBy w4 (some g) := gr_call hgq3 hgr4
    have hs4 : bb < w4.heap.size := Nat.lt_of_lt_of_le hbb2 hgr4.size
    have HDB : Hid (DevsIn (fun b => Fr Q w.heap.size (w.heap.size + 2) b ∧ b ≠ bb) w4 (.slice a1 ds.length c1) ds) := HDB3.out.keep hkR
    clear HOW HR3 HB13 HB23 HD3 hrd3 hgq3 hkR HG3 hgr4 hbb2 HDB3
    obtain ⟨av,kv,r0,r1,r2,r3,s0,s1,s2,s3,hav,hkv⟩ := net_cells HOW4.out HR4.out hj
    have HKS : Hid (Stil.netSz kids[j] + 1 ≤ Z ∧ NTame kids[j]) := ⟨HSK.out _ (List.getElem_mem hj),HT.out.parts.2.2 _ (List.getElem_mem hj)⟩
    have HI : Hid (Calls Tryz.prog 57 #[.pointer (some ⟨g,0,none⟩),.agg #[.int .i64 kids[j].kind,.int .i64 kids[j].one.op,av,kv]] w4 fun e w' => NetOutQ (fun b => Fr Q w.heap.size (w.heap.size + 2) b ∧ b ≠ bb) e w4 w' g (P + 2 + 10 * Stil.netSz kids[j] + 60) (Stil.netSz kids[j] + 20)) :=
     IH.out _ (List.getElem_mem hj) _ g (P + 2) w4 av kv (fun b hb => by rcases hb.1 with h | h; exact HQ.out b h.1; omega) hav hkv HKS.out.2 (by have := HKS.out.1; omega) hrd4 (by have := HKS.out.1; omega)
    have HSM : Hid (∀ x,Stil.netSz x ≤ Stil.netSz kids[j] + 20 → ((kids.set j x).map Stil.netSz).sum ≤ (kids.map Stil.netSz).sum + 20) := fun x hx => sum_set Stil.netSz 20 kids j x hj hx
    obtain ⟨X,hX⟩ : ∃ X,X = kids[j] := ⟨_,rfl⟩
    rw [← hX] at HI HSM HKS r0 r1
    obtain ⟨u1,t1,rfl,_⟩ := hav
    obtain ⟨u2,t2,rfl,_⟩ := hkv
    clear hX IH hrd4
    go_upto_region 5 with (go_at_call 57; refine HI.out.mono ?_; rintro e w5 ⟨N,av5,kv5,rfl,hav5,hkv5,ht5,hz5,hrd5,hgr5⟩; have HA5 : Hid (DevsIn (Fr (fun b => Fr Q w.heap.size (w.heap.size + 2) b ∧ b ≠ bb) w4.heap.size w4.heap.size) w5 av5 N.one.args) := hav5; have HV5 : Hid (NetsIn (Fr (fun b => Fr Q w.heap.size (w.heap.size + 2) b ∧ b ≠ bb) w4.heap.size w4.heap.size) w5 kv5 N.kids) := hkv5; have HT5 : Hid (NTame N) := ht5; have hown5 := own_grown HOW4.out hgr5 (by omega); obtain ⟨d0,d1,d2,d3,f0,f1,f2,f3⟩ := (⟨hown5.frozenAt (j * 4),hown5.frozenAt (j * 4 + 1),hown5.frozenAt (j * 4 + 2),hown5.frozenAt (j * 4 + 3),(grown_cell hgr5 hs4 (by omega)).trans r0,(grown_cell hgr5 hs4 (by omega)).trans r1,(grown_cell hgr5 hs4 (by omega)).trans r2,(grown_cell hgr5 hs4 (by omega)).trans r3⟩ : w5.frozen? ⟨bb,j * 4,none⟩ = false ∧ w5.frozen? ⟨bb,j * 4 + 1,none⟩ = false ∧ w5.frozen? ⟨bb,j * 4 + 2,none⟩ = false ∧ w5.frozen? ⟨bb,j * 4 + 3,none⟩ = false ∧ w5.cell? ⟨bb,j * 4,none⟩ = _ ∧ w5.cell? ⟨bb,j * 4 + 1,none⟩ = _ ∧ w5.cell? ⟨bb,j * 4 + 2,none⟩ = _ ∧ w5.cell? ⟨bb,j * 4 + 3,none⟩ = _); obtain ⟨y1,z1,rfl,_⟩ := hav5; obtain ⟨y2,z2,rfl,_⟩ := hkv5; clear hown5 ht5 r0 r1 r2 r3 s0 s1 s2 s3)
    obtain ⟨W,hW⟩ : ∃ W,W = ((((w5.setCell ⟨bb,j * 4,none⟩ (.int .i64 N.kind)).setCell ⟨bb,j * 4 + 1,none⟩ (.int .i64 N.one.op)).setCell ⟨bb,j * 4 + 2,none⟩ (.slice y1 N.one.args.length z1)).setCell ⟨bb,j * 4 + 3,none⟩ (.slice y2 N.kids.length z2)) := ⟨_,rfl⟩
    rw [← hW]
    have hs5 := hgr5.size
    have hmo : ∀ b,b < w5.heap.size → Fr (fun b => Fr Q w.heap.size (w.heap.size + 2) b ∧ b ≠ bb) w4.heap.size w4.heap.size b → Fr Q w.heap.size (w.heap.size + 2) b ∧ b ≠ bb := fun b _ h => by
     rcases h with h | h
     ·exact h.1
     ·exact ⟨Or.inr (by omega),by omega⟩
    have hk5 : KeepsIn (fun b => Fr Q w.heap.size (w.heap.size + 2) b ∧ b ≠ bb) w4 w5 := keep_mono (fr_call HQ.out (by omega) hgr5) (fun b _ h => h.1)
    have hst := net_storedIn (own_grown HOW4.out hgr5 (by omega)) (HR4.out.imp fun _ _ _ h => h.keep hk5) hj (fun h => h.2 rfl) (HA5.out.mono hmo) (HV5.out.mono hmo)
    rw [← hW] at hst
    obtain ⟨ys,hownW,hrowW⟩ := hst
    have hB1 : NBox W w.heap.size k op (.slice a1 ds.length c1) (.slice a2 kids.length c2) := by
     rw [hW]
     exact ((((HB14.out.grownO hgr5 (by intro e; simp only [Option.some.injEq] at e; omega)).set (by omega)).set (by omega)).set (by omega)).set (by omega)
    have hB2 : NBox W (w.heap.size + 1) 0 0 (.slice none 0 0) (.slice none 0 0) := by
     rw [hW]
     exact ((((HB24.out.grownO hgr5 (by intro e; simp only [Option.some.injEq] at e; omega)).set (by omega)).set (by omega)).set (by omega)).set (by omega)
    have hrW : RdAt W g (P + 2 + 10 * Stil.netSz X + 60) := by
     rw [hW]
     exact rd_set (rd_set (rd_set (rd_set hrd5 (by omega) _) (by omega) _) (by omega) _) (by omega) _
    have hgW : w.grownBy W (some g) := by
     rw [hW]
     have hb : w.heap.size ≤ bb := by omega
     exact gr_set hb (gr_set hb (gr_set hb (gr_set hb (gr_call hgq4 hgr5) _) _) _) _
    have hdW : DevsIn (Fr Q w.heap.size (w.heap.size + 2)) W (.slice a1 ds.length c1) ds := by
     have h4 : DevsIn (fun b => Fr Q w.heap.size (w.heap.size + 2) b ∧ b ≠ bb) w4 (.slice a1 ds.length c1) ds := HDB.out
     rw [hW]
     have hn : ¬ (fun b => Fr Q w.heap.size (w.heap.size + 2) b ∧ b ≠ bb) bb := fun h => h.2 rfl
     exact ((h4.keep hk5).keep ((((KeepsIn.set hn _).trans (KeepsIn.set hn _)).trans (KeepsIn.set hn _)).trans (KeepsIn.set hn _))).mono fun b _ h => h.1
    have hnW : NetsIn (Fr Q w.heap.size (w.heap.size + 2)) W (.slice (some ⟨bb,0,none⟩) kids.length cc) (kids.set j N) := by
     have e : kids.length = (kids.set j N).length := by simp
     rw [e] at hownW ⊢
     exact netsIn_of_row hownW (hrowW.imp fun _ _ _ h => h.mono fun b _ hb => hb.1) (fun b hb => by
      have : bb = b := by simpa [Value.ownBlock] using hb
      exact Or.inr (by omega))
    have HNW : Hid (NetsIn (Fr Q w.heap.size (w.heap.size + 2)) W (.slice (some ⟨bb,0,none⟩) kids.length cc) (kids.set j N)) := hnW
    have HDW : Hid (DevsIn (Fr Q w.heap.size (w.heap.size + 2)) W (.slice a1 ds.length c1) ds) := hdW
    obtain ⟨hz0,q0,q1,q2,q3,p0,p1,p2,p3⟩ := hB1
    obtain ⟨hz1,q4,q5,q6,q7,p4,p5,p6,p7⟩ := hB2
    clear hW hownW hrowW hnW hdW hk5 hmo HOW4 HR4 HB14 HB24 HD4 HA5 HV5 d0 d1 d2 d3 f0 f1 f2 f3 HI
    go_wp2
    refine bodyPost_ret (by simp [results,Tryz.results57,go_sem,q4,q5,q6,q7]; rfl) rfl ?_
    refine ⟨⟨k,⟨op,ds⟩,kids.set j N⟩,_,_,rfl,DevsIn.mono (HDW.out.keep kfA) (fr_out _),NetsIn.mono (HNW.out.keep kfA) (fr_out _),?_,?_,?_,glA⟩
    ·refine (NTame_eq _ _ _).2 ⟨HT.out.parts.1,HT.out.parts.2.1,fun x hx => ?_⟩
     rcases List.mem_or_eq_of_mem_set hx with h | rfl
     ·exact HT.out.parts.2.2 x h
     ·exact HT5.out
    ·have := HSM.out N hz5
     have := HZE.out
     rw [Stil.netSz_eq]
     simp only [List.length_set]
     omega
    ·have := HKS.out.1
     (repeat (first | with_reducible assumption | with_reducible refine rd_set ?_ (by first | omega | (simp; omega)) _ | with_reducible refine rd_alloc ?_ _ | with_reducible refine rd_drewN ?_ _ | with_reducible refine rd_drew ?_ | exact rd_mono (by with_reducible assumption) (by omega)))
   | false =>
    clear hbk IH HSK
    obtain ⟨i0,hi,hi0,hi1,hi2⟩ := info_parts info_net
    have HD1 : Hid (DevsIn (Fr Q w.heap.size (w.heap.size + 2)) wc (.slice a1 ds.length c1) ds) := hd1
    have HK1 : Hid (NetsIn (Fr Q w.heap.size (w.heap.size + 2)) wc (.slice a2 kids.length c2) kids) := hk1
    obtain ⟨hz0,q0,q1,q2,q3,p0,p1,p2,p3⟩ := hb1
    obtain ⟨hz1,q4,q5,q6,q7,p4,p5,p6,p7⟩ := hb2
    clear hd1 hk1
    go_upto_region 9 with ((go_at_call_of 31 (Value.int IntKind.i64 6); refine (s_pick g _ _ _ raA (by omega) (by omega) (by omega)).mono ?_; rintro e w2 ⟨x,rfl,hx0,hx1,hrd2,hgb⟩; have hz0 : w.heap.size < w2.heap.size := Nat.lt_of_lt_of_le ltA hgb.size; have hz1 : (w.heap.size + 1) < w2.heap.size := Nat.lt_of_lt_of_le ltA hgb.size; obtain ⟨q0,p0,q1,p1,q2,p2,q3,p3,q4,p4,q5,p5,q6,p6,q7,p7⟩ : w2.cell? ⟨w.heap.size,0,none⟩ = some (.int .i64 k) ∧ w2.frozen? ⟨w.heap.size,0,none⟩ = false ∧ w2.cell? ⟨w.heap.size,1,none⟩ = some (.int .i64 op) ∧ w2.frozen? ⟨w.heap.size,1,none⟩ = false ∧ w2.cell? ⟨w.heap.size,2,none⟩ = some (.slice a1 ds.length c1) ∧ w2.frozen? ⟨w.heap.size,2,none⟩ = false ∧ w2.cell? ⟨w.heap.size,3,none⟩ = some (.slice a2 kids.length c2) ∧ w2.frozen? ⟨w.heap.size,3,none⟩ = false ∧ w2.cell? ⟨(w.heap.size + 1),0,none⟩ = some (.int .i64 0) ∧ w2.frozen? ⟨(w.heap.size + 1),0,none⟩ = false ∧ w2.cell? ⟨(w.heap.size + 1),1,none⟩ = some (.int .i64 0) ∧ w2.frozen? ⟨(w.heap.size + 1),1,none⟩ = false ∧ w2.cell? ⟨(w.heap.size + 1),2,none⟩ = some (.slice none 0 0) ∧ w2.frozen? ⟨(w.heap.size + 1),2,none⟩ = false ∧ w2.cell? ⟨(w.heap.size + 1),3,none⟩ = some (.slice none 0 0) ∧ w2.frozen? ⟨(w.heap.size + 1),3,none⟩ = false := ⟨gcA hgb,gfA hgb,gcA hgb,gfA hgb,gcA hgb,gfA hgb,gcA hgb,gfA hgb,gcA hgb,gfA hgb,gcA hgb,gfA hgb,gcA hgb,gfA hgb,gcA hgb,gfA hgb⟩))
    have HD2 : Hid (DevsIn (Fr Q w.heap.size (w.heap.size + 2)) w2 (.slice a1 ds.length c1) ds) := HD1.out.keep (fr_call HQ.out (by omega) hgb)
    have HK2 : Hid (NetsIn (Fr Q w.heap.size (w.heap.size + 2)) w2 (.slice a2 kids.length c2) kids) := HK1.out.keep (fr_call HQ.out (by omega) hgb)
    have HB12 : Hid (NBox w2 w.heap.size k op (.slice a1 ds.length c1) (.slice a2 kids.length c2)) := ⟨hz0,q0,q1,q2,q3,p0,p1,p2,p3⟩
    have HB22 : Hid (NBox w2 (w.heap.size + 1) 0 0 (.slice none 0 0) (.slice none 0 0)) := ⟨hz1,q4,q5,q6,q7,p4,p5,p6,p7⟩
    have hgq2 : w.grownBy w2 (some g) := gr_call hgq hgb
    clear HD1 HK1 hgq hgb hrd
    have hx : x = 0 ∨ x = 1 ∨ x = 2 ∨ x = 3 ∨ x = 4 ∨ x = 5 := by omega
    clear hx0 hx1
    rcases hx with rfl | rfl | rfl | rfl | rfl | rfl
    ·go_wp2_with ((go_at_call_of 59 (7 : Nat); refine (s_num g _ _ _ [-1,0,1,2,3,4,5] _ raA (by omega) (ints_of_from (by simp [IntsFrom,go_sem])) (by simp) (by first | (simp; omega) | omega) (by simp) (by simp)).mono ?_; rintro e w4 ⟨y,rfl,hy,hrd,hgr4⟩; simp only [List.mem_cons,List.not_mem_nil,or_false] at hy; have hz0 : w.heap.size < w4.heap.size := Nat.lt_of_lt_of_le ltA hgr4.size; have hz1 : (w.heap.size + 1) < w4.heap.size := Nat.lt_of_lt_of_le ltA hgr4.size; obtain ⟨q0,p0,q1,p1,q2,p2,q3,p3,q4,p4,q5,p5,q6,p6,q7,p7⟩ : w4.cell? ⟨w.heap.size,0,none⟩ = some (.int .i64 k) ∧ w4.frozen? ⟨w.heap.size,0,none⟩ = false ∧ w4.cell? ⟨w.heap.size,1,none⟩ = some (.int .i64 op) ∧ w4.frozen? ⟨w.heap.size,1,none⟩ = false ∧ w4.cell? ⟨w.heap.size,2,none⟩ = some (.slice a1 ds.length c1) ∧ w4.frozen? ⟨w.heap.size,2,none⟩ = false ∧ w4.cell? ⟨w.heap.size,3,none⟩ = some (.slice a2 kids.length c2) ∧ w4.frozen? ⟨w.heap.size,3,none⟩ = false ∧ w4.cell? ⟨(w.heap.size + 1),0,none⟩ = some (.int .i64 0) ∧ w4.frozen? ⟨(w.heap.size + 1),0,none⟩ = false ∧ w4.cell? ⟨(w.heap.size + 1),1,none⟩ = some (.int .i64 0) ∧ w4.frozen? ⟨(w.heap.size + 1),1,none⟩ = false ∧ w4.cell? ⟨(w.heap.size + 1),2,none⟩ = some (.slice none 0 0) ∧ w4.frozen? ⟨(w.heap.size + 1),2,none⟩ = false ∧ w4.cell? ⟨(w.heap.size + 1),3,none⟩ = some (.slice none 0 0) ∧ w4.frozen? ⟨(w.heap.size + 1),3,none⟩ = false := ⟨gcA hgr4,gfA hgr4,gcA hgr4,gfA hgr4,gcA hgr4,gfA hgr4,gcA hgr4,gfA hgr4,gcA hgr4,gfA hgr4,gcA hgr4,gfA hgr4,gcA hgr4,gfA hgr4,gcA hgr4,gfA hgr4⟩))
     have hkp : KeepsIn (Fr Q w.heap.size (w.heap.size + 2)) w2 w4 := (KeepsIn.of_below (below_alloc _ _)).trans (fr_call HQ.out (by omega) hgr4)
     have hD4 := HD2.out.keep hkp
     have hN4 := HK2.out.keep hkp
     refine bodyPost_ret (by simp [results,Tryz.results57,go_sem,q4,q5,q6,q7]; rfl) rfl ?_
     refine ⟨⟨y,⟨op,ds⟩,kids⟩,_,_,rfl,DevsIn.mono (hD4.keep kfA) (fr_out _),NetsIn.mono (hN4.keep kfA) (fr_out _),tame_kind HT.out (by omega),?_,rlA,glA⟩
     have := HZE.out
     rw [Stil.netSz_eq]
     simp only
     omega
    ·go_wp2_with (first | (go_at_call 67; refine (s_l2Contact g _ _ (by exact hrd3) (by omega)).mono ?_; rintro e w5 ⟨eop,ev,eds,rfl,ehop,ehv,ehs,ehl,hrd,hgr5⟩; obtain ⟨ea,ec,rfl,_,_⟩ := id ehv; have hz0 : w.heap.size < w5.heap.size := Nat.lt_of_lt_of_le ltA hgr5.size; have hz1 : (w.heap.size + 1) < w5.heap.size := Nat.lt_of_lt_of_le ltA hgr5.size; obtain ⟨q0,p0,q1,p1,q2,p2,q3,p3,q4,p4,q5,p5,q6,p6,q7,p7⟩ : w5.cell? ⟨w.heap.size,0,none⟩ = some (.int .i64 k) ∧ w5.frozen? ⟨w.heap.size,0,none⟩ = false ∧ w5.cell? ⟨w.heap.size,1,none⟩ = some (.int .i64 op) ∧ w5.frozen? ⟨w.heap.size,1,none⟩ = false ∧ w5.cell? ⟨w.heap.size,2,none⟩ = some (.slice a1 ds.length c1) ∧ w5.frozen? ⟨w.heap.size,2,none⟩ = false ∧ w5.cell? ⟨w.heap.size,3,none⟩ = some (.slice a2 kids.length c2) ∧ w5.frozen? ⟨w.heap.size,3,none⟩ = false ∧ w5.cell? ⟨(w.heap.size + 1),0,none⟩ = some (.int .i64 0) ∧ w5.frozen? ⟨(w.heap.size + 1),0,none⟩ = false ∧ w5.cell? ⟨(w.heap.size + 1),1,none⟩ = some (.int .i64 0) ∧ w5.frozen? ⟨(w.heap.size + 1),1,none⟩ = false ∧ w5.cell? ⟨(w.heap.size + 1),2,none⟩ = some (.slice none 0 0) ∧ w5.frozen? ⟨(w.heap.size + 1),2,none⟩ = false ∧ w5.cell? ⟨(w.heap.size + 1),3,none⟩ = some (.slice none 0 0) ∧ w5.frozen? ⟨(w.heap.size + 1),3,none⟩ = false := ⟨gcA hgr5,gfA hgr5,gcA hgr5,gfA hgr5,gcA hgr5,gfA hgr5,gcA hgr5,gfA hgr5,gcA hgr5,gfA hgr5,gcA hgr5,gfA hgr5,gcA hgr5,gfA hgr5,gcA hgr5,gfA hgr5⟩) | (at_builtin; refine wpList_copy_nets rfl _ _ rfl (Fr Q w.heap.size (w.heap.size + 2)) w2 kids (.slice a2 kids.length c2) rfl rfl rfl HK2.out (by omega) ?_; intro bb cc w3 xs hown hrow hbb1 hbb2 hgr3; have HOW : Hid (w3.ownsRow w2.heap.size 33 4 (.slice (some ⟨bb,0,none⟩) kids.length cc) kids.length xs) := hown; have HRW : Hid (RowOf 4 (NetC (fun b => Fr Q w.heap.size (w.heap.size + 2) b ∧ b < w2.heap.size) w3) xs kids) := hrow; have HG3 : Hid ((w2.alloc (.cells #[] 33)).grownBy w3 (some w2.heap.size)) := hgr3; have hB13 : NBox w3 w.heap.size k op (.slice a1 ds.length c1) (.slice a2 kids.length c2) := (HB12.out.alloc _).grownO hgr3 (by intro e; simp only [Option.some.injEq] at e; omega); have hB23 : NBox w3 (w.heap.size + 1) 0 0 (.slice none 0 0) (.slice none 0 0) := (HB22.out.alloc _).grownO hgr3 (by intro e; simp only [Option.some.injEq] at e; omega); have hrd3 : RdAt w3 g (P + 2) := rd_grown (rd_alloc hrd2 _) hgr3 (by intro j hj; simp only [Option.some.injEq] at hj; omega); have hgq3 : w.grownBy w3 (some g) := gr_own (gr_alloc hgq2 _) hgr3 (by intro j hj; simp only [Option.some.injEq] at hj; omega); clear hown hrow hgr3 q0 q1 q2 q3 q4 q5 q6 q7 p0 p1 p2 p3 p4 p5 p6 p7; obtain ⟨hz0,q0,q1,q2,q3,p0,p1,p2,p3⟩ := hB13; obtain ⟨hz1,q4,q5,q6,q7,p4,p5,p6,p7⟩ := hB23) | (at_builtin; refine wpList_append_own_at _ rfl _ _ 31 rfl w2.heap.size 33 i0 (.agg #[.int .i64 0,.int .i64 0,.slice none 0 0,.slice none 0 0]) 4 64 Tryz.underlying31 hi hi0 hi1 hi2 rfl (by decide) _ _ _ rfl ((own_grown HOW.out hgr5 (by omega)).alloc _) _ _ _ [.int .i64 1,.int .i64 eop,.slice ea eds.length ec,.slice none 0 0] rfl rfl (by exact cells_new _ _ _ _ (by simp)) (by intro u hu; simp at hu; rcases hu with rfl | rfl | rfl | rfl <;> rfl) (by unfold maxLen; omega) (by omega) (by rw [World.size_alloc]; have := hgr5.size; omega) ?_; intro v' w6 hown6 hgr6 hnil6 hat6; have HO6 : Hid (w6.ownsRow w2.heap.size 33 4 v' (kids.length + 1) (xs ++ [.int .i64 1,.int .i64 eop,.slice ea eds.length ec,.slice none 0 0])) := hown6; have HG6 : Hid ((w5.alloc (.cells #[.int .i64 1,.int .i64 eop,.slice ea eds.length ec,.slice none 0 0] 33)).grownBy w6 (some bb)) := hgr6; obtain ⟨y6,z6,hv6,_⟩ := own_open hown6; subst hv6; have hB16 : NBox w6 w.heap.size k op (.slice a1 ds.length c1) (.slice a2 kids.length c2) := (NBox.alloc (show NBox w5 w.heap.size k op (.slice a1 ds.length c1) (.slice a2 kids.length c2) from nbA) _).grownO HG6.out (by intro e; simp only [Option.some.injEq] at e; omega); have hB26 : NBox w6 (w.heap.size + 1) 0 0 (.slice none 0 0) (.slice none 0 0) := (NBox.alloc (show NBox w5 (w.heap.size + 1) 0 0 (.slice none 0 0) (.slice none 0 0) from nbA) _).grownO HG6.out (by intro e; simp only [Option.some.injEq] at e; omega); clear hown6 hgr6 hnil6 hat6 q0 q1 q2 q3 q4 q5 q6 q7 p0 p1 p2 p3 p4 p5 p6 p7; obtain ⟨hz0,q0,q1,q2,q3,p0,p1,p2,p3⟩ := hB16; obtain ⟨hz1,q4,q5,q6,q7,p4,p5,p6,p7⟩ := hB26))
     have hn : ∀ W : World,∀ b,b < W.heap.size → (Fr Q w.heap.size (w.heap.size + 2) b ∧ b ≠ bb) → Fr Q w.heap.size (w.heap.size + 2) b := fun _ b _ h => h.1
     have hD : ∀ (v : Value) (xs' : List Stil.Dev),DevsIn (Fr Q w.heap.size (w.heap.size + 2)) w2 v xs' → DevsIn (fun b => Fr Q w.heap.size (w.heap.size + 2) b ∧ b ≠ bb) w3 v xs' := fun v xs' h => ((h.mono (P := fun b => Fr Q w.heap.size (w.heap.size + 2) b ∧ b < w2.heap.size) fun b hb h => ⟨h,hb⟩).keep ((KeepsIn.of_below (below_alloc _ _)).trans (KeepsIn.of_grown HG3.out (fun b hb e => by simp only [Option.some.injEq] at e; exact absurd hb.2 (by omega))))).mono fun b _ h => ⟨h.1,by have := h.2; omega⟩
     have hR3 : RowOf 4 (NetC (fun b => Fr Q w.heap.size (w.heap.size + 2) b ∧ b ≠ bb) w3) xs kids := HRW.out.imp fun _ _ _ h => h.mono fun b _ hb => ⟨hb.1,by have := hb.2; omega⟩
     have hs3 : w2.heap.size + 1 ≤ w3.heap.size := by have := HG3.out.size; simpa using this
     have hkc : KeepsIn (fun b => Fr Q w.heap.size (w.heap.size + 2) b ∧ b ≠ bb) w3 w5 := keep_mono (fr_call HQ.out (by omega) hgr5) (fun b _ h => h.1)
     have hkp : KeepsIn (fun b => Fr Q w.heap.size (w.heap.size + 2) b ∧ b ≠ bb) w3 (w5.alloc (.cells #[.int .i64 1,.int .i64 eop,.slice ea eds.length ec,.slice none 0 0] 33)) := hkc.trans (KeepsIn.of_below (below_alloc _ _))
     have hR6 := nets_longer (R' := Fr Q w.heap.size (w.heap.size + 2)) (v := .slice (some ⟨bb,0,none⟩) kids.length cc) (n := ⟨1,⟨eop,eds⟩,[]⟩) (hR3.imp fun _ _ _ h => h.keep hkp) ⟨_,_,rfl,((devs_of_el ehv).mono (fun b _ hb => ⟨Or.inr (by omega),by omega⟩)).keep (KeepsIn.of_below (below_alloc _ _)),nets_nil _ _⟩ rfl HG6.out (fun b hb e => hb.2 (by simpa [Value.ownBlock] using e.symm)) (fun b hb => hb.1)
     have e6 : kids.length + 1 = (kids ++ [(⟨1,⟨eop,eds⟩,[]⟩ : Stil.Net)]).length := by simp
     have hN6 : NetsIn (Fr Q w.heap.size (w.heap.size + 2)) w6 (.slice y6 (kids.length + 1) z6) (kids ++ [⟨1,⟨eop,eds⟩,[]⟩]) := by
      have ho := HO6.out
      rw [e6] at ho ⊢
      exact netsIn_of_row ho hR6 (fun b hb => Or.inr (by have := (ho.lt _ hb).1; omega))
     have hD6 : DevsIn (Fr Q w.heap.size (w.heap.size + 2)) w6 (.slice a1 ds.length c1) ds := (((hD _ _ HD2.out).keep hkp).keep (KeepsIn.of_grown HG6.out (fun b hb e => hb.2 (by simp only [Option.some.injEq] at e; exact e.symm)))).mono (hn _)
     have hr6 : RdAt w6 g (P + 40) := rd_mono (rd_grown (rd_alloc hrd _) HG6.out (by intro j hj; simp only [Option.some.injEq] at hj; omega)) (by omega)
     have hg6 : w.grownBy w6 (some g) := gr_own (gr_alloc (gr_call hgq3 hgr5) _) HG6.out (by intro j hj; simp only [Option.some.injEq] at hj; omega)
     refine bodyPost_ret (by simp [results,Tryz.results57,go_sem,q4,q5,q6,q7]; rfl) rfl ?_
     refine ⟨⟨k,⟨op,ds⟩,kids ++ [⟨1,⟨eop,eds⟩,[]⟩]⟩,_,_,rfl,DevsIn.mono (hD6.keep kfA) (fr_out _),NetsIn.mono (hN6.keep kfA) (fr_out _),?_,?_,rlA,glA⟩
     ·refine (NTame_eq _ _ _).2 ⟨HT.out.parts.1,HT.out.parts.2.1,fun x hx => ?_⟩
      rcases List.mem_append.1 hx with h | h
      ·exact HT.out.parts.2.2 x h
      ·rw [List.mem_singleton.1 h]; exact tame_contact (by decide) ehop ehs (by omega)
     ·have := HZE.out
      rw [Stil.netSz_eq]
      simp only [List.length_append,List.map_append,List.sum_append,List.length_cons,List.length_nil,List.map_cons,List.map_nil,List.sum_cons,List.sum_nil]
      have e9 : Stil.netSz ⟨1,⟨eop,eds⟩,[]⟩ = eds.length := by rw [Stil.netSz_eq]; simp
      rw [e9]
      omega
    ·go_wp2
     refine bodyPost_ret (by simp [results,Tryz.results57,go_sem,q4,q5,q6,q7]; rfl) rfl ?_
     refine ⟨⟨k,⟨op,ds⟩,[]⟩,_,_,rfl,DevsIn.mono (HD2.out.keep kfA) (fr_out _),nets_nil _ _,tame_with HT.out (fun _ h => (by cases h)),?_,rlA,glA⟩
     have := HZE.out
     rw [Stil.netSz_eq]
     simp only [List.length_nil,List.map_nil,List.sum_nil]
     omega
    ·go_wp2_with ((go_at_call 64; refine (s_l2Coil g _ _ (by exact hrd2) (by omega)).mono ?_; rintro e w5 ⟨eop,ev,eds,rfl,ehop,ehv,ehs,ehl,hrd,hgr5⟩; obtain ⟨ea,ec,rfl,_,_⟩ := id ehv; have hz0 : w.heap.size < w5.heap.size := Nat.lt_of_lt_of_le ltA hgr5.size; have hz1 : (w.heap.size + 1) < w5.heap.size := Nat.lt_of_lt_of_le ltA hgr5.size; obtain ⟨q0,p0,q1,p1,q2,p2,q3,p3,q4,p4,q5,p5,q6,p6,q7,p7⟩ : w5.cell? ⟨w.heap.size,0,none⟩ = some (.int .i64 k) ∧ w5.frozen? ⟨w.heap.size,0,none⟩ = false ∧ w5.cell? ⟨w.heap.size,1,none⟩ = some (.int .i64 op) ∧ w5.frozen? ⟨w.heap.size,1,none⟩ = false ∧ w5.cell? ⟨w.heap.size,2,none⟩ = some (.slice a1 ds.length c1) ∧ w5.frozen? ⟨w.heap.size,2,none⟩ = false ∧ w5.cell? ⟨w.heap.size,3,none⟩ = some (.slice a2 kids.length c2) ∧ w5.frozen? ⟨w.heap.size,3,none⟩ = false ∧ w5.cell? ⟨(w.heap.size + 1),0,none⟩ = some (.int .i64 0) ∧ w5.frozen? ⟨(w.heap.size + 1),0,none⟩ = false ∧ w5.cell? ⟨(w.heap.size + 1),1,none⟩ = some (.int .i64 0) ∧ w5.frozen? ⟨(w.heap.size + 1),1,none⟩ = false ∧ w5.cell? ⟨(w.heap.size + 1),2,none⟩ = some (.slice none 0 0) ∧ w5.frozen? ⟨(w.heap.size + 1),2,none⟩ = false ∧ w5.cell? ⟨(w.heap.size + 1),3,none⟩ = some (.slice none 0 0) ∧ w5.frozen? ⟨(w.heap.size + 1),3,none⟩ = false := ⟨gcA hgr5,gfA hgr5,gcA hgr5,gfA hgr5,gcA hgr5,gfA hgr5,gcA hgr5,gfA hgr5,gcA hgr5,gfA hgr5,gcA hgr5,gfA hgr5,gcA hgr5,gfA hgr5,gcA hgr5,gfA hgr5⟩))
     have hN5 := HK2.out.keep (fr_call HQ.out (by omega) hgr5)
     have hD5 : DevsIn (Fr Q w.heap.size (w.heap.size + 2)) w5 (.slice ea eds.length ec) eds := (devs_of_el ehv).mono (fun b _ hb => Or.inr (by omega))
     refine bodyPost_ret (by simp [results,Tryz.results57,go_sem,q4,q5,q6,q7]; rfl) rfl ?_
     refine ⟨⟨k,⟨eop,eds⟩,kids⟩,_,_,rfl,DevsIn.mono (hD5.keep kfA) (fr_out _),NetsIn.mono (hN5.keep kfA) (fr_out _),tame_one HT.out ehop ehs (by omega),?_,rlA,glA⟩
     have := HZE.out
     rw [Stil.netSz_eq]
     simp only
     omega
    ·go_wp2_with ((go_at_call 95; refine (s_l2Spoil g _ op _ ds _ (by exact hrd2) (by omega) HT.out.parts.2.1.1 (el_of_devs (HD2.out.mono (fun b _ hb => by rcases hb with h | h; exact HQ.out b h.1; omega))) HT.out.parts.2.1.2.1 (by omega)).mono ?_; rintro e w5 ⟨eop,ev,eds,rfl,ehop,ehv,ehs,ehl,hrd,hgr5⟩; obtain ⟨ea,ec,rfl,_,_⟩ := id ehv; have hz0 : w.heap.size < w5.heap.size := Nat.lt_of_lt_of_le ltA hgr5.size; have hz1 : (w.heap.size + 1) < w5.heap.size := Nat.lt_of_lt_of_le ltA hgr5.size; obtain ⟨q0,p0,q1,p1,q2,p2,q3,p3,q4,p4,q5,p5,q6,p6,q7,p7⟩ : w5.cell? ⟨w.heap.size,0,none⟩ = some (.int .i64 k) ∧ w5.frozen? ⟨w.heap.size,0,none⟩ = false ∧ w5.cell? ⟨w.heap.size,1,none⟩ = some (.int .i64 op) ∧ w5.frozen? ⟨w.heap.size,1,none⟩ = false ∧ w5.cell? ⟨w.heap.size,2,none⟩ = some (.slice a1 ds.length c1) ∧ w5.frozen? ⟨w.heap.size,2,none⟩ = false ∧ w5.cell? ⟨w.heap.size,3,none⟩ = some (.slice a2 kids.length c2) ∧ w5.frozen? ⟨w.heap.size,3,none⟩ = false ∧ w5.cell? ⟨(w.heap.size + 1),0,none⟩ = some (.int .i64 0) ∧ w5.frozen? ⟨(w.heap.size + 1),0,none⟩ = false ∧ w5.cell? ⟨(w.heap.size + 1),1,none⟩ = some (.int .i64 0) ∧ w5.frozen? ⟨(w.heap.size + 1),1,none⟩ = false ∧ w5.cell? ⟨(w.heap.size + 1),2,none⟩ = some (.slice none 0 0) ∧ w5.frozen? ⟨(w.heap.size + 1),2,none⟩ = false ∧ w5.cell? ⟨(w.heap.size + 1),3,none⟩ = some (.slice none 0 0) ∧ w5.frozen? ⟨(w.heap.size + 1),3,none⟩ = false := ⟨gcA hgr5,gfA hgr5,gcA hgr5,gfA hgr5,gcA hgr5,gfA hgr5,gcA hgr5,gfA hgr5,gcA hgr5,gfA hgr5,gcA hgr5,gfA hgr5,gcA hgr5,gfA hgr5,gcA hgr5,gfA hgr5⟩))
     have hN5 := HK2.out.keep (fr_call HQ.out (by omega) hgr5)
     have hD5 : DevsIn (Fr Q w.heap.size (w.heap.size + 2)) w5 (.slice ea eds.length ec) eds := (devs_of_el ehv).mono (fun b _ hb => Or.inr (by omega))
     refine bodyPost_ret (by simp [results,Tryz.results57,go_sem,q4,q5,q6,q7]; rfl) rfl ?_
     refine ⟨⟨k,⟨eop,eds⟩,kids⟩,_,_,rfl,DevsIn.mono (hD5.keep kfA) (fr_out _),NetsIn.mono (hN5.keep kfA) (fr_out _),tame_one HT.out ehop ehs (by omega),?_,rlA,glA⟩
     have := HZE.out
     rw [Stil.netSz_eq]
     simp only
     omega
    ·go_wp2_with (first | (at_builtin; refine wpList_copy_nets rfl _ _ rfl (Fr Q w.heap.size (w.heap.size + 2)) w2 kids (.slice a2 kids.length c2) rfl rfl rfl HK2.out (by omega) ?_; intro bb cc w3 xs hown hrow hbb1 hbb2 hgr3; have HOW : Hid (w3.ownsRow w2.heap.size 33 4 (.slice (some ⟨bb,0,none⟩) kids.length cc) kids.length xs) := hown; have HRW : Hid (RowOf 4 (NetC (fun b => Fr Q w.heap.size (w.heap.size + 2) b ∧ b < w2.heap.size) w3) xs kids) := hrow; have HG3 : Hid ((w2.alloc (.cells #[] 33)).grownBy w3 (some w2.heap.size)) := hgr3; have hB13 : NBox w3 w.heap.size k op (.slice a1 ds.length c1) (.slice a2 kids.length c2) := (HB12.out.alloc _).grownO hgr3 (by intro e; simp only [Option.some.injEq] at e; omega); have hB23 : NBox w3 (w.heap.size + 1) 0 0 (.slice none 0 0) (.slice none 0 0) := (HB22.out.alloc _).grownO hgr3 (by intro e; simp only [Option.some.injEq] at e; omega); have hrd3 : RdAt w3 g (P + 2) := rd_grown (rd_alloc hrd2 _) hgr3 (by intro j hj; simp only [Option.some.injEq] at hj; omega); have hgq3 : w.grownBy w3 (some g) := gr_own (gr_alloc hgq2 _) hgr3 (by intro j hj; simp only [Option.some.injEq] at hj; omega); clear hown hrow hgr3 q0 q1 q2 q3 q4 q5 q6 q7 p0 p1 p2 p3 p4 p5 p6 p7; obtain ⟨hz0,q0,q1,q2,q3,p0,p1,p2,p3⟩ := hB13; obtain ⟨hz1,q4,q5,q6,q7,p4,p5,p6,p7⟩ := hB23) | (at_builtin; refine wpList_append_own_at _ rfl _ _ 31 rfl w2.heap.size 33 i0 (.agg #[.int .i64 0,.int .i64 0,.slice none 0 0,.slice none 0 0]) 4 64 Tryz.underlying31 hi hi0 hi1 hi2 rfl (by decide) _ _ _ rfl (HOW.out.alloc _) _ _ _ [.int .i64 0,.int .i64 0,.slice none 0 0,.slice none 0 0] rfl rfl (by exact cells_new _ _ _ _ (by simp)) (by intro u hu; simp at hu; rcases hu with rfl | rfl | rfl | rfl <;> rfl) (by unfold maxLen; omega) (by omega) (by rw [World.size_alloc]; omega) ?_; intro v' w6 hown6 hgr6 hnil6 hat6; have HO6 : Hid (w6.ownsRow w2.heap.size 33 4 v' (kids.length + 1) (xs ++ [.int .i64 0,.int .i64 0,.slice none 0 0,.slice none 0 0])) := hown6; have HG6 : Hid ((w3.alloc (.cells #[.int .i64 0,.int .i64 0,.slice none 0 0,.slice none 0 0] 33)).grownBy w6 (some bb)) := hgr6; obtain ⟨y6,z6,hv6,_⟩ := own_open hown6; subst hv6; have hB16 : NBox w6 w.heap.size k op (.slice a1 ds.length c1) (.slice a2 kids.length c2) := (NBox.alloc (show NBox w3 w.heap.size k op (.slice a1 ds.length c1) (.slice a2 kids.length c2) from nbA) _).grownO HG6.out (by intro e; simp only [Option.some.injEq] at e; omega); have hB26 : NBox w6 (w.heap.size + 1) 0 0 (.slice none 0 0) (.slice none 0 0) := (NBox.alloc (show NBox w3 (w.heap.size + 1) 0 0 (.slice none 0 0) (.slice none 0 0) from nbA) _).grownO HG6.out (by intro e; simp only [Option.some.injEq] at e; omega); clear hown6 hgr6 hnil6 hat6 q0 q1 q2 q3 q4 q5 q6 q7 p0 p1 p2 p3 p4 p5 p6 p7; obtain ⟨hz0,q0,q1,q2,q3,p0,p1,p2,p3⟩ := hB16; obtain ⟨hz1,q4,q5,q6,q7,p4,p5,p6,p7⟩ := hB26))
     have hn : ∀ W : World,∀ b,b < W.heap.size → (Fr Q w.heap.size (w.heap.size + 2) b ∧ b ≠ bb) → Fr Q w.heap.size (w.heap.size + 2) b := fun _ b _ h => h.1
     have hD : ∀ (v : Value) (xs' : List Stil.Dev),DevsIn (Fr Q w.heap.size (w.heap.size + 2)) w2 v xs' → DevsIn (fun b => Fr Q w.heap.size (w.heap.size + 2) b ∧ b ≠ bb) w3 v xs' := fun v xs' h => ((h.mono (P := fun b => Fr Q w.heap.size (w.heap.size + 2) b ∧ b < w2.heap.size) fun b hb h => ⟨h,hb⟩).keep ((KeepsIn.of_below (below_alloc _ _)).trans (KeepsIn.of_grown HG3.out (fun b hb e => by simp only [Option.some.injEq] at e; exact absurd hb.2 (by omega))))).mono fun b _ h => ⟨h.1,by have := h.2; omega⟩
     have hR3 : RowOf 4 (NetC (fun b => Fr Q w.heap.size (w.heap.size + 2) b ∧ b ≠ bb) w3) xs kids := HRW.out.imp fun _ _ _ h => h.mono fun b _ hb => ⟨hb.1,by have := hb.2; omega⟩
     have hkp : KeepsIn (fun b => Fr Q w.heap.size (w.heap.size + 2) b ∧ b ≠ bb) w3 (w3.alloc (.cells #[.int .i64 0,.int .i64 0,.slice none 0 0,.slice none 0 0] 33)) := KeepsIn.of_below (below_alloc _ _)
     have hR6 := nets_longer (R' := Fr Q w.heap.size (w.heap.size + 2)) (v := .slice (some ⟨bb,0,none⟩) kids.length cc) (n := ⟨0,⟨0,[]⟩,[]⟩) (hR3.imp fun _ _ _ h => h.keep hkp) ⟨_,_,rfl,devs_nil _ _,nets_nil _ _⟩ rfl HG6.out (fun b hb e => hb.2 (by simpa [Value.ownBlock] using e.symm)) (fun b hb => hb.1)
     have e6 : kids.length + 1 = (kids ++ [(⟨0,⟨0,[]⟩,[]⟩ : Stil.Net)]).length := by simp
     have hN6 : NetsIn (Fr Q w.heap.size (w.heap.size + 2)) w6 (.slice y6 (kids.length + 1) z6) (kids ++ [⟨0,⟨0,[]⟩,[]⟩]) := by
      have ho := HO6.out
      rw [e6] at ho ⊢
      exact netsIn_of_row ho hR6 (fun b hb => Or.inr (by have := (ho.lt _ hb).1; omega))
     have hD6 : DevsIn (Fr Q w.heap.size (w.heap.size + 2)) w6 (.slice a1 ds.length c1) ds := (((hD _ _ HD2.out).keep hkp).keep (KeepsIn.of_grown HG6.out (fun b hb e => hb.2 (by simp only [Option.some.injEq] at e; exact e.symm)))).mono (hn _)
     have hr6 : RdAt w6 g (P + 40) := rd_mono (rd_grown (rd_alloc hrd3 _) HG6.out (by intro j hj; simp only [Option.some.injEq] at hj; omega)) (by omega)
     have hg6 : w.grownBy w6 (some g) := gr_own (gr_alloc hgq3 _) HG6.out (by intro j hj; simp only [Option.some.injEq] at hj; omega)
     refine bodyPost_ret (by simp [results,Tryz.results57,go_sem,q4,q5,q6,q7]; rfl) rfl ?_
     refine ⟨⟨k,⟨op,ds⟩,kids ++ [⟨0,⟨0,[]⟩,[]⟩]⟩,_,_,rfl,DevsIn.mono (hD6.keep kfA) (fr_out _),NetsIn.mono (hN6.keep kfA) (fr_out _),?_,?_,rlA,glA⟩
     ·refine (NTame_eq _ _ _).2 ⟨HT.out.parts.1,HT.out.parts.2.1,fun x hx => ?_⟩
      rcases List.mem_append.1 hx with h | h
      ·exact HT.out.parts.2.2 x h
      ·rw [List.mem_singleton.1 h]; exact tame_contact (by decide) (by decide) (fun _ h => (by cases h)) (by simp)
     ·have := HZE.out
      rw [Stil.netSz_eq]
      simp only [List.length_append,List.map_append,List.sum_append,List.length_cons,List.length_nil,List.map_cons,List.map_nil,List.sum_cons,List.sum_nil]
      have e9 : Stil.netSz ⟨0,⟨0,[]⟩,[]⟩ = 0 := by rw [Stil.netSz_eq]; simp
      rw [e9]
      omega
end Go.Proofs.YtenoanhonjdpjaaGreatDoor
