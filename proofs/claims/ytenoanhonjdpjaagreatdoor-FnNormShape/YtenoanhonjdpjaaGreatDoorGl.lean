/- A0,N1,A1: texts put together. -/
import Derived.Test.YtenoanhonjdpjaaGreatDoorGU
import Derived.Maps.AppendAt
import Derived.Deep.RegionLaw
import Derived.Test.YtenoanhonjdpjaaGreatDoorGA
/- An append in a region,in place or anew. -/
namespace Go.Proofs.YtenoanhonjdpjaaGreatDoor
open Go.RowKit Go.Sort Go.BigFrame
theorem step_append_at {P : Program} {ops : Array Oper} {o : Oper} {a : Act} {w : World} {K : Act -> World -> Prop} {Q : Exit -> Act -> World -> Prop} {E : Prop}
  (hg : o.guard = none) (s x : Operand) (t : TypeId) (hop : o.op = .call { callee := .builtin .append,args := #[s,x],argTypes := #[t,t] })
  (base : Nat) (e : TypeId) (i : TypeInfo) (z : Value) (size bytes : Nat) (ht : P.underlying t = some (.slice e)) (hi : P.info? e = some i) (hz : i.zero = some z)
  (hsize : i.size = size) (hby : i.bytes = bytes) (hzs : z.cells.size = size) (hsz : 0 < size)
  (v : Value) (n : Nat) (xs : List Value) (hs : a.eval s = v) (hown : w.ownsRow base e size v n xs)
  (ad : Addr) (m c : Nat) (news : List Value) (hx : a.eval x = .slice (some ad) m c) (hl : news.length = m * size) (hnews : ∀ j u,news[j]? = some u -> w.cell? (ad.add j) = some u) (h1 : ∀ u ∈ news,u.oneCell' = true)
  (h63 : n + m <= maxLen) (hbytes : (n + m) * bytes <= 140737488355328) (hbase : base <= w.heap.size)
  (hK : ∀ v' w',w'.ownsRow base e size v' (n + m) (xs ++ news) -> w.grownBy w' v.ownBlock -> (v'.ownBlock = v.ownBlock ∨ v'.ownBlock = some w.heap.size) -> K (a.put o.dst v') w') :
  if Region.wanted o (yielded ops a.tmps) = true then Oper.wp P o a w K Q else E := by
 have hw : Region.wanted o (yielded ops a.tmps) = true := by simp [Region.wanted,hg]
 rw [if_pos hw]
 obtain ⟨v',w',hr,h2,h3,h4,h5⟩ := run_append_own_at (P := P) w base t o.type e i z size bytes ht hi hz hsize hby hzs hsz v n xs hown ad m c news hl hnews h1 h63 hbytes hbase
 unfold Oper.wp execOp
 simp only [hop,resolve,invoke,builtin,Sem.run_bind,Sem.run_pure,Result.andThen_ok,List.map_toArray,List.map_cons,List.map_nil,hs,hx,hr]
 exact hK v' w' h2 h3 h5
theorem devs_cells_at {w : World} {b o : Nat} {ds : List Stil.Dev} (h : ∀ i (h : i < ds.length),DevAt w b (o + i * 3) ds[i]) : ∀ j u,(devsCells ds)[j]? = some u -> w.cell? ((⟨b,o,none⟩ : Addr).add j) = some u := by
 intro j u hu
 have hj : j < (devsCells ds).length := (List.getElem?_eq_some_iff.1 hu).1
 have hlen : (devsCells ds).length = ds.length * 3 := by
  clear hu hj h
  induction ds with
  | nil => rfl
  | cons d r ih => have e : devsCells (d :: r) = .int .i64 d.kind :: .int .i64 d.n :: .int .i64 d.p :: devsCells r := rfl; rw [e]; simp [ih]; omega
 have hi : j / 3 < ds.length := by omega
 obtain ⟨a1,a2,a3⟩ := devsCells_get ds (j / 3) hi
 obtain ⟨c1,c2,c3⟩ := h (j / 3) hi
 rw [Addr.add_lit]
 have hx : j = j / 3 * 3 ∨ j = j / 3 * 3 + 1 ∨ j = j / 3 * 3 + 2 := by omega
 rcases hx with e | e | e
 ·rw [e] at hu
  rw [hu] at a1
  have e2 : o + j = o + j / 3 * 3 := by omega
  rw [e2,c1]; exact a1.symm
 ·rw [e] at hu
  rw [hu] at a2
  have e2 : o + j = o + j / 3 * 3 + 1 := by omega
  rw [e2,c2]; exact a2.symm
 ·rw [e] at hu
  rw [hu] at a3
  have e2 : o + j = o + j / 3 * 3 + 2 := by omega
  rw [e2,c3]; exact a3.symm
theorem grownO_cell {w w' : World} {r : Option Nat} {b o : Nat} (h : w.grownBy w' r) (hb : b < w.heap.size) (hne : r ≠ some b) : w'.cell? ⟨b,o,none⟩ = w.cell? ⟨b,o,none⟩ := by
 simp only [World.cell?,h.block b hb (fun e => hne e.symm)]
theorem grownO_frozen {w w' : World} {r : Option Nat} {b o : Nat} (h : w.grownBy w' r) (hb : b < w.heap.size) (hne : r ≠ some b) : w'.frozen? ⟨b,o,none⟩ = w.frozen? ⟨b,o,none⟩ := by
 simp only [World.frozen?,h.block b hb (fun e => hne e.symm)]
theorem slice_of_owns {w : World} {base s n : Nat} {e : TypeId} {v : Value} {xs : List Value} (h : w.ownsRow base e s v n xs) : ∃ a cap,v = .slice a n cap := by
 rcases h.2 with ⟨h0,h1⟩ | ⟨g,c,cur,h0,_⟩
 ·exact ⟨none,0,by rw [h0,h1]⟩
 ·exact ⟨_,_,h0⟩
set_option maxHeartbeats 1000000 in
set_option maxRecDepth 100000 in
theorem i_normElem (op : Int) (v : Value) (ds : List Stil.Dev) (w : World) (hat : DevsAt w v ds) (hl : ds.length <= 1048576) :
  Calls Tryz.prog 90 #[.agg #[.int .i64 op,v]] w fun e w' => ∃ u,e = .returned (.agg #[.int .i64 op,u]) ∧ w'.ownsRow w.heap.size 42 3 u ds.length (devsCells ds) ∧ Below w.heap.size w w' := by
 obtain ⟨i0,hi,hz0,hz1,hz2⟩ := info_parts info_dev
 obtain ⟨a,cap,rfl,hc⟩ := hat
 by_cases hd : ds.length = 0
 ·obtain rfl : ds = [] := List.length_eq_zero_iff.1 hd
  clear hc
  have hown : ∀ W : World,W.ownsRow w.heap.size 42 3 (.slice none 0 0) 0 [] := fun W => ⟨rfl,Or.inl ⟨rfl,rfl⟩⟩
  cases a
  all_goals
   go_enter Tryz.func90,Tryz.ntmps90
   go_upto_region 1 with fail
   go_region
   all_goals go_wp2
   all_goals exact bodyPost_ret (v := .agg #[.int .i64 op,.slice none 0 0]) (by simp [results,Tryz.results90,go_sem]) rfl ⟨_,rfl,hown _,blA⟩
 ·obtain ⟨b,o,rfl,hbl,_⟩ := hc 0 (by omega)
  have hc2 : ∀ i (h : i < ds.length),DevAt w b (o + i * 3) ds[i] := by
   intro i h
   obtain ⟨b1,o1,e1,_,h1⟩ := hc i h
   simp only [Option.some.injEq,Addr.mk.injEq,and_true] at e1
   obtain ⟨rfl,rfl⟩ := e1
   exact h1
  have HCC : Hid (∀ W,Below w.heap.size w W -> ∀ j u,(devsCells ds)[j]? = some u -> W.cell? ((⟨b,o,none⟩ : Addr).add j) = some u) := by
   intro W hW
   exact devs_cells_at (fun i h => (hc2 i h).below hW hbl)
  clear hc hc2
  go_enter Tryz.func90,Tryz.ntmps90
  obtain ⟨W,hW⟩ : ∃ W,W = (w.alloc (.cells #[.int .i64 op,.slice (some ⟨b,o,none⟩) ds.length cap] 30)).alloc (.cells #[.int .i64 0,.slice none 0 0] 30) := ⟨_,rfl⟩
  have hsW : W.heap.size = w.heap.size + 2 := by rw [hW]; simp
  have q0 : W.cell? ⟨w.heap.size,0,none⟩ = some (.int .i64 op) := by rw [hW]; simp [go_sem]
  have q1 : W.cell? ⟨w.heap.size,1,none⟩ = some (.slice (some ⟨b,o,none⟩) ds.length cap) := by rw [hW]; simp [go_sem]
  have q2 : W.cell? ⟨w.heap.size + 1,0,none⟩ = some (.int .i64 0) := by rw [hW]; simp [go_sem]
  have q3 : W.cell? ⟨w.heap.size + 1,1,none⟩ = some (.slice none 0 0) := by rw [hW]; simp [go_sem]
  have p2 : W.frozen? ⟨w.heap.size + 1,0,none⟩ = false := by rw [hW]; simp [go_sem]
  have p3 : W.frozen? ⟨w.heap.size + 1,1,none⟩ = false := by rw [hW]; simp [go_sem]
  have hbW : Below w.heap.size w W := by rw [hW]; exact bl_alloc (below_alloc _ _) _
  have HCW := HCC.out W hbW
  have HCX : Hid (∀ j u,(devsCells ds)[j]? = some u -> W.cell? ((⟨b,o,none⟩ : Addr).add j) = some u) := HCW
  have HSW : Hid (W.heap.size = w.heap.size + 2) := hsW
  clear HCW
  go_upto_region 1 with fail
  rw [← hW]
  clear hW hsW HCC
  go_region_law (refine step_append_at rfl _ _ 28 rfl (w.heap.size + 2) 42 i0 (.agg #[.int .i64 0,.int .i64 0,.int .i64 0]) 3 24 Tryz.underlying28 hi hz0 hz1 hz2 rfl (by decide) (.slice none 0 0) 0 [] rfl ⟨rfl,Or.inl ⟨rfl,rfl⟩⟩ _ _ _ (devsCells ds) rfl (devsCells_length ds) (by exact HCX.out) (devsCells_one ds) (by unfold maxLen; omega) (by omega) (by have := HSW.out; simp only [World.size_drew]; omega) ?_; intro v' w6 hown6 hgr6 hat6; obtain ⟨a6,c6,hv6⟩ := slice_of_owns hown6; subst hv6; have hs6 : w.heap.size + 1 < w6.heap.size := (by have h1 := HSW.out; have h2 := hgr6.size; simp at h2; omega); have g0 : w6.cell? ⟨w.heap.size,0,none⟩ = some (.int .i64 op) := (grownO_cell hgr6 (by have h1 := HSW.out; simp; omega) (by simp [Value.ownBlock])).trans (by simpa using q0); have g2 : w6.cell? ⟨w.heap.size + 1,0,none⟩ = some (.int .i64 0) := (grownO_cell hgr6 (by have h1 := HSW.out; simp; omega) (by simp [Value.ownBlock])).trans (by simpa using q2); have g3 : w6.cell? ⟨w.heap.size + 1,1,none⟩ = some (.slice none 0 0) := (grownO_cell hgr6 (by have h1 := HSW.out; simp; omega) (by simp [Value.ownBlock])).trans (by simpa using q3); have y2 : w6.frozen? ⟨w.heap.size + 1,0,none⟩ = false := (grownO_frozen hgr6 (by have h1 := HSW.out; simp; omega) (by simp [Value.ownBlock])).trans (by simpa using p2); have y3 : w6.frozen? ⟨w.heap.size + 1,1,none⟩ = false := (grownO_frozen hgr6 (by have h1 := HSW.out; simp; omega) (by simp [Value.ownBlock])).trans (by simpa using p3))
  all_goals go_wp2
  all_goals
   refine bodyPost_ret (v := .agg #[.int .i64 op,.slice a6 (0 + ds.length) c6]) (by simp [results,Tryz.results90,go_sem,g2,g3]) rfl ⟨_,rfl,?_,?_⟩
   ·have h0 := ownsRow_setCell_below (a := ⟨w.heap.size + 1,1,none⟩) (ownsRow_setCell_below (a := ⟨w.heap.size + 1,0,none⟩) hown6 (Nat.lt_succ_self _) (.int .i64 op)) (Nat.lt_succ_self _) (.slice a6 (0 + ds.length) c6)
    have h1 := Joins.ownsRow_le h0 (show w.heap.size <= w.heap.size + 2 by omega)
    simpa using h1
   ·have hbg : Below W.heap.size W w6 := (Below.refl W.heap.size W).drew.grown hgr6 (Nat.le_refl _) (fun k hk => by simp [Value.ownBlock] at hk)
    have hb6 : Below w.heap.size w w6 := hbW.trans (hbg.mono (by have := HSW.out; omega))
    exact (hb6.setCell (by simp) _).setCell (by simp) _
theorem grownSelf (w : World) (r : Option Nat) : w.grownBy w r := ⟨rfl,rfl,rfl,Nat.le_refl _,fun _ _ _ => rfl⟩
theorem step_append_devs {ops : Array Oper} {o : Oper} {a : Act} {w : World} {K : Act -> World -> Prop} {Q : Exit -> Act -> World -> Prop} {E : Prop}
  (hg : o.guard = none) (s x : Operand) (hop : o.op = .call { callee := .builtin .append,args := #[s,x],argTypes := #[28,28] })
  (base : Nat) (N : Nat) (ds : List Stil.Dev) (hs : a.eval s = .slice (some ⟨N,0,none⟩) 0 0) (hown : w.ownsRow base 42 3 (.slice (some ⟨N,0,none⟩) 0 0) 0 [])
  (t0 : Option Addr) (u0 : Nat) (hx : a.eval x = .slice t0 ds.length u0) (hat : DevsAt w (.slice t0 ds.length u0) ds) (hl : ds.length <= 1048576) (hbase : base <= w.heap.size)
  (hK : ∀ v' w',w'.ownsRow base 42 3 v' ds.length (devsCells ds) -> w.grownBy w' (some N) -> K (a.put o.dst v') w') :
  if Region.wanted o (yielded ops a.tmps) = true then Oper.wp Tryz.prog o a w K Q else E := by
 obtain ⟨i0,hi,hz0,hz1,hz2⟩ := info_parts info_dev
 by_cases hd : ds.length = 0
 ·have hn : ds = [] := List.length_eq_zero_iff.1 hd
  subst hn
  have hw : Region.wanted o (yielded ops a.tmps) = true := by simp [Region.wanted,hg]
  rw [if_pos hw]
  have hk := hK _ w hown (grownSelf _ _)
  unfold Oper.wp execOp
  cases t0
  ·have e : Sem.run Tryz.prog (Builtin.append_ #[28,28] o.type #[.slice (some ⟨N,0,none⟩) 0 0,.slice none 0 u0]) w = .ok (.slice (some ⟨N,0,none⟩) 0 0) w := by simp [Builtin.append_,go_sem]
   simp only [hop,resolve,invoke,builtin,Sem.run_bind,Sem.run_pure,Result.andThen_ok,List.map_toArray,List.map_cons,List.map_nil,hs,hx,List.length_nil,e]
   exact hk
  ·rename_i t1
   have e : Sem.run Tryz.prog (Builtin.append_ #[28,28] o.type #[.slice (some ⟨N,0,none⟩) 0 0,.slice (some t1) 0 u0]) w = .ok (.slice (some ⟨N,0,none⟩) 0 0) w := by simp [Builtin.append_,go_sem]
   simp only [hop,resolve,invoke,builtin,Sem.run_bind,Sem.run_pure,Result.andThen_ok,List.map_toArray,List.map_cons,List.map_nil,hs,hx,List.length_nil,e]
   exact hk
 ·obtain ⟨a1,c1,hv,hc⟩ := hat
  simp only [Value.slice.injEq] at hv
  obtain ⟨rfl,_,rfl⟩ := hv
  obtain ⟨b,o1,rfl,hbl,_⟩ := hc 0 (by omega)
  have hc2 : ∀ i (h : i < ds.length),DevAt w b (o1 + i * 3) ds[i] := by
   intro i h
   obtain ⟨b1,o2,e1,_,h1⟩ := hc i h
   simp only [Option.some.injEq,Addr.mk.injEq,and_true] at e1
   obtain ⟨rfl,rfl⟩ := e1
   exact h1
  refine step_append_at hg s x _ hop base 42 i0 _ 3 24 Tryz.underlying28 hi hz0 hz1 hz2 rfl (by decide) _ 0 [] hs hown _ _ _ (devsCells ds) hx (devsCells_length ds) (devs_cells_at hc2) (devsCells_one ds) (by unfold maxLen; omega) (by omega) hbase ?_
  intro v' w' h1 h2 _
  rw [Nat.zero_add,List.nil_append] at h1
  exact hK v' w' h1 h2
end Go.Proofs.YtenoanhonjdpjaaGreatDoor
/- M7: texts put together. -/
/- Plain models of chapters 5 and 6: instructions; the verifier's run. -/
namespace Stil
structure Inst where
 code : Int
 one : Elem
def Inst.wf (i : Inst) : Prop := i64 i.code ∧ i.one.wf
def Inst.fits (i : Inst) : Prop := i64 i.code ∧ i.one.fits
def instSz (i : Inst) : Nat := elemSz i.one
def instsSz (l : List Inst) : Nat := l.length + (l.map instSz).sum
theorem instFits_of {i : Inst} (h : i.wf) (hs : instSz i <= 1048576) : i.fits := ⟨h.1,elemFits_of h.2 hs⟩
theorem insts_fit {l : List Inst} (h : ∀ x ∈ l,x.wf) (hs : instsSz l <= 1048576) : (∀ x ∈ l,x.fits) ∧ l.length <= 1048576 := by
 have e : instsSz l = l.length + (l.map instSz).sum := rfl
 refine ⟨fun x hx => instFits_of (h x hx) ?_,by omega⟩
 have := mem_le_sum instSz l x hx
 omega
def listWords : List (List UInt8) := [[],[108,100],[97,110,100],[111,114],[97,110,98],[111,114,98],[105,110,118],[109,112,115],[109,114,100],[109,112,112],[99,111,105,108],[101,110,100]]
def noElem (e : Elem) : Bool := e.op == 0 && e.args.length == 0
/-- Is this an instruction? -/
def listOk (i : Inst) : Bool := if i.code < 1 ∨ 11 < i.code then false else if i.code <= 3 then isContact i.one.op i.one.args else if i.code = 10 then isCoil i.one.op i.one.args else noElem i.one
/-- What is known ahead of an instruction. -/
structure Pt where
 bits : Int
 forks : Int
 seen : Bool
 coil : Bool
def pt0 : Pt := ⟨0,0,false,false⟩
def needs (c : Int) : Int := if c = 1 then 0 else if c = 4 ∨ c = 5 then 2 else 1
def low (c : Int) : Int := if c = 5 then 2 else 1
def wrong (s : Pt) (i : Inst) : Int :=
 if listOk i = false then 2
 else if s.bits < needs i.code then 3
 else if i.code = 1 ∧ s.bits = 16 then 4
 else if 7 <= i.code ∧ 1 < s.bits then 5
 else if s.seen = true ∧ s.bits = low i.code ∧ (i.code = 3 ∨ i.code = 6 ∨ i.code = 5) then 6
 else if i.code = 7 ∧ s.forks = 8 then 7
 else if (i.code = 8 ∨ i.code = 9) ∧ s.forks = 0 then 7
 else if i.code = 11 ∧ 0 < s.forks then 7
 else if (i.code = 8 ∨ i.code = 9 ∨ i.code = 11) ∧ s.coil = false then 8
 else 0
def next (s : Pt) (c : Int) : Pt :=
 if c = 11 then pt0
 else ⟨if c = 1 then s.bits + 1 else if c = 4 ∨ c = 5 then s.bits - 1 else s.bits,if c = 7 then s.forks + 1 else if c = 9 then s.forks - 1 else s.forks,s.seen || c == 10 || c == 7,c == 10⟩
def sureFrom : Pt -> Nat -> List Inst -> Int × Nat
 | s,k,[] => if 0 < s.bits then (9,k) else (0,0)
 | s,k,i :: r => if 0 < wrong s i then (wrong s i,k) else sureFrom (next s i.code) (k + 1) r
def sureCheck (l : List Inst) : Int × Nat := if 1000 < l.length then (1,0) else sureFrom pt0 0 l
theorem sureFrom_drop (l : List Inst) (s : Pt) (j : Nat) (h : j < l.length) : sureFrom s j (l.drop j) = if 0 < wrong s l[j] then (wrong s l[j],j) else sureFrom (next s l[j].code) (j + 1) (l.drop (j + 1)) := by
 rw [List.drop_eq_getElem_cons h]; rfl
theorem sureFrom_end (l : List Inst) (s : Pt) (j : Nat) (h : l.length <= j) : sureFrom s j (l.drop j) = if 0 < s.bits then (9,j) else (0,0) := by
 rw [List.drop_of_length_le h]; rfl
/-- What holds at every place that a run comes to. -/
def Pt.good (s : Pt) : Prop := 0 <= s.bits ∧ s.bits <= 16 ∧ 0 <= s.forks ∧ s.forks <= 8 ∧ (s.bits = 0 -> s = pt0)
theorem good0 : pt0.good := ⟨by decide,by decide,by decide,by decide,fun _ => rfl⟩
theorem wrong_bound (s : Pt) (i : Inst) : 0 <= wrong s i ∧ wrong s i <= 8 := by
 unfold wrong
 repeat' split
 all_goals omega
theorem ok_code {i : Inst} (h : listOk i = true) : 1 <= i.code ∧ i.code <= 11 := by
 unfold listOk at h
 split at h
 ·cases h
 ·omega
/-- The facts of an instruction with which nothing is wrong. -/
theorem wrong_zero {s : Pt} {i : Inst} (h : wrong s i = 0) : listOk i = true ∧ needs i.code <= s.bits ∧ ¬ (i.code = 1 ∧ s.bits = 16) ∧ ¬ (7 <= i.code ∧ 1 < s.bits) ∧ ¬ (s.seen = true ∧ s.bits = low i.code ∧ (i.code = 3 ∨ i.code = 6 ∨ i.code = 5)) ∧
  ¬ (i.code = 7 ∧ s.forks = 8) ∧ ¬ ((i.code = 8 ∨ i.code = 9) ∧ s.forks = 0) ∧ ¬ (i.code = 11 ∧ 0 < s.forks) ∧ ¬ ((i.code = 8 ∨ i.code = 9 ∨ i.code = 11) ∧ s.coil = false) := by
 unfold wrong at h
 split at h
 ·omega
 rename_i h0
 split at h
 ·omega
 rename_i h1
 split at h
 ·omega
 rename_i h2
 split at h
 ·omega
 rename_i h3
 split at h
 ·omega
 rename_i h4
 split at h
 ·omega
 rename_i h5
 split at h
 ·omega
 rename_i h6
 split at h
 ·omega
 rename_i h7
 split at h
 ·omega
 rename_i h8
 exact ⟨by simpa using h0,by omega,h2,h3,h4,h5,h6,h7,h8⟩
theorem good_next {s : Pt} {i : Inst} (g : s.good) (h : wrong s i = 0) : (next s i.code).good := by
 obtain ⟨h0,h1,h2,h3,_,h5,h6,_,_⟩ := wrong_zero h
 obtain ⟨a,b,c,d,e⟩ := g
 have hc := ok_code h0
 unfold next
 by_cases hE : i.code = 11
 ·rw [if_pos hE]; exact good0
 ·rw [if_neg hE]
  unfold needs at h1
  refine ⟨?_,?_,?_,?_,?_⟩
  ·show 0 <= (if i.code = 1 then s.bits + 1 else if i.code = 4 ∨ i.code = 5 then s.bits - 1 else s.bits)
   split
   ·omega
   ·split <;> omega
  ·show (if i.code = 1 then s.bits + 1 else if i.code = 4 ∨ i.code = 5 then s.bits - 1 else s.bits) <= 16
   split
   ·omega
   ·split <;> omega
  ·show 0 <= (if i.code = 7 then s.forks + 1 else if i.code = 9 then s.forks - 1 else s.forks)
   split
   ·omega
   ·split <;> omega
  ·show (if i.code = 7 then s.forks + 1 else if i.code = 9 then s.forks - 1 else s.forks) <= 8
   split
   ·omega
   ·split <;> omega
  ·intro hz
   exfalso
   have hz' : (if i.code = 1 then s.bits + 1 else if i.code = 4 ∨ i.code = 5 then s.bits - 1 else s.bits) = 0 := hz
   by_cases c1 : i.code = 1
   ·rw [if_pos c1] at hz'; clear h1; omega
   ·rw [if_neg c1] at hz' h1
    by_cases c2 : i.code = 4 ∨ i.code = 5
    ·rw [if_pos c2] at hz' h1; omega
    ·rw [if_neg c2] at hz' h1; omega
/-- The program's rules,in their order. -/
def rule (k : Nat) (s : Pt) (i : Inst) : Bool :=
 match k with
 | 0 => !listOk i
 | 1 => decide (s.bits < needs i.code)
 | 2 => decide (i.code = 1) && decide (s.bits = 16)
 | 3 => if i.code = 7 ∨ i.code = 8 ∨ i.code = 9 ∨ i.code = 10 ∨ i.code = 11 then decide (1 < s.bits) else false
 | 4 => if i.code = 3 ∨ i.code = 6 then s.seen && decide (s.bits = 1) else if i.code = 5 then s.seen && decide (s.bits = 2) else false
 | 5 => if i.code = 7 then decide (s.forks = 8) else if i.code = 8 ∨ i.code = 9 then decide (s.forks = 0) else if i.code = 11 then decide (s.forks ≠ 0) else false
 | _ => if i.code = 8 ∨ i.code = 9 ∨ i.code = 11 then !s.coil else false
theorem wrong_rules {s : Pt} (i : Inst) (_g0 : 0 <= s.bits) (g : 0 <= s.forks) :
  wrong s i = if rule 0 s i then 2 else if rule 1 s i then 3 else if rule 2 s i then 4 else if rule 3 s i then 5 else if rule 4 s i then 6 else if rule 5 s i then 7 else if rule 6 s i then 8 else 0 := by
 cases h0 : listOk i with
 | true =>
  have hc := ok_code h0
  have hx : i.code = 1 ∨ i.code = 2 ∨ i.code = 3 ∨ i.code = 4 ∨ i.code = 5 ∨ i.code = 6 ∨ i.code = 7 ∨ i.code = 8 ∨ i.code = 9 ∨ i.code = 10 ∨ i.code = 11 := by omega
  rcases hx with h | h | h | h | h | h | h | h | h | h | h
  all_goals simp [wrong,rule,needs,low,h0,h]
  all_goals grind
 | false => simp [wrong,rule,h0]
/-- The program's point behind an instruction is the specification's,where nothing is wrong. -/
def behind (s : Pt) (c : Int) : Pt := ⟨if c = 1 then s.bits + 1 else if c = 4 ∨ c = 5 ∨ c = 11 then s.bits - 1 else s.bits,if c = 7 then s.forks + 1 else if c = 9 then s.forks - 1 else s.forks,decide (c ≠ 11) && (s.seen || c == 10 || c == 7),c == 10⟩
theorem behind_next {s : Pt} {i : Inst} (g : s.good) (h : wrong s i = 0) : behind s i.code = next s i.code := by
 obtain ⟨h0,h1,_,h3,_,_,_,h7,_⟩ := wrong_zero h
 obtain ⟨a,b,c,d,e⟩ := g
 have hc := ok_code h0
 unfold next behind
 by_cases hE : i.code = 11
 ·rw [if_pos hE]
  have hb : s.bits = 1 := by
   have : needs i.code = 1 := by rw [hE]; rfl
   omega
  have hf : s.forks = 0 := by omega
  simp [hE,hb,hf,pt0]
 ·rw [if_neg hE]
  simp [hE]
theorem good_zero {s : Pt} (g : s.good) : (s = pt0) ↔ s.bits <= 0 := by
 constructor
 ·rintro rfl; decide
 ·intro h; exact g.2.2.2.2 (by have := g.1; omega)
end Stil
/- T7: texts put together. -/
/- How lists of instructions lie in memory. -/
namespace Go.Proofs.YtenoanhonjdpjaaGreatDoor
open Go.RowKit Go.Sort Go.BigFrame
end Go.Proofs.YtenoanhonjdpjaaGreatDoor
/- L7c: texts put together. -/
/- Contracts of the laws' helpers for lists of instructions: are two the same. -/
namespace Go.Proofs.YtenoanhonjdpjaaGreatDoor
open Go.RowKit Go.Sort Go.BigFrame
end Go.Proofs.YtenoanhonjdpjaaGreatDoor
/- P1,P2,P3,P4,P5,P6: texts put together. -/
/- Marks: the whole numbers that a mark goes through,in their order,as places in memory; nothing is said of what they held. -/
namespace Go.Proofs.YtenoanhonjdpjaaGreatDoor
open Go.RowKit Go.Sort Go.BigFrame
/-- A place: block and offset. -/
abbrev Pl := Nat × Nat
def ad (p : Pl) : Addr := ⟨p.1,p.2,none⟩
end Go.Proofs.YtenoanhonjdpjaaGreatDoor
/- M8,M8b: texts put together. -/
/- Plain model of chapter 4: the normal form of nets. -/
namespace Stil
def flatKids (k : Int) (l : List Net) : List Net := l.flatMap fun n => if n.kind = k then n.kids else [n]
def blockOf (k : Int) (ks : List Net) : Net := if h : ks.length = 1 then ks[0] else ⟨k,⟨0,[]⟩,ks⟩
def normNet : Net -> Net
 | ⟨k,e,kids⟩ => if k = 2 ∨ k = 3 then blockOf k (flatKids k (kids.map normNet)) else ⟨k,e,kids.map normNet⟩
theorem normNet_eq (k : Int) (e : Elem) (kids : List Net) : normNet ⟨k,e,kids⟩ = if k = 2 ∨ k = 3 then blockOf k (flatKids k (kids.map normNet)) else ⟨k,e,kids.map normNet⟩ := by rw [normNet]
theorem normNet_blk (n : Net) (h : n.kind = 2 ∨ n.kind = 3) : normNet n = blockOf n.kind (flatKids n.kind (n.kids.map normNet)) := by
 obtain ⟨k,e,kids⟩ := n
 rw [normNet_eq,if_pos h]
theorem normNet_oth (n : Net) (h : ¬ (n.kind = 2 ∨ n.kind = 3)) : normNet n = ⟨n.kind,n.one,n.kids.map normNet⟩ := by
 obtain ⟨k,e,kids⟩ := n
 rw [normNet_eq,if_neg h]
theorem flatKids_append (k : Int) (a b : List Net) : flatKids k (a ++ b) = flatKids k a ++ flatKids k b := by simp [flatKids]
theorem flatKids_one (k : Int) (n : Net) : flatKids k [n] = if n.kind = k then n.kids else [n] := by simp [flatKids]
def sizes (l : List Net) : Nat := (l.map netSize).sum
theorem sizes_append (a b : List Net) : sizes (a ++ b) = sizes a + sizes b := by simp [sizes]
theorem netSize_kids (n : Net) : netSize n = 1 + sizes n.kids := by obtain ⟨k,e,kids⟩ := n; exact netSize_eq k e kids
theorem len_sizes (l : List Net) : l.length <= sizes l := by
 induction l with
 | nil => simp [sizes]
 | cons x r ih =>
  have := netSize_kids x
  simp only [sizes,List.map_cons,List.sum_cons,List.length_cons] at ih ⊢
  omega
theorem flatKids_sizes (k : Int) (l : List Net) : sizes (flatKids k l) <= sizes l := by
 induction l with
 | nil => simp [flatKids,sizes]
 | cons x r ih =>
  have e : x :: r = [x] ++ r := rfl
  rw [e,flatKids_append,sizes_append,sizes_append,flatKids_one]
  have h : sizes (if x.kind = k then x.kids else [x]) <= sizes [x] := by
   have h2 : sizes [x] = netSize x := by simp [sizes]
   split
   ·have := netSize_kids x; omega
   ·exact Nat.le_refl _
  omega
theorem blockOf_size (k : Int) (ks : List Net) : netSize (blockOf k ks) <= 1 + sizes ks := by
 unfold blockOf
 split
 ·rename_i h
  have h2 := mem_le_sum netSize ks ks[0] (List.getElem_mem _)
  unfold sizes
  omega
 ·rw [netSize_kids]; exact Nat.le_refl _
theorem normNet_size (n : Net) : netSize (normNet n) <= netSize n := by
 refine net_ind (fun n => netSize (normNet n) <= netSize n) ?_ n
 intro k e kids ih
 have hs : sizes (kids.map normNet) <= sizes kids := by
  clear n
  induction kids with
  | nil => simp [sizes]
  | cons x r ih2 =>
   have h1 := ih x (by simp)
   have h2 := ih2 (fun y hy => ih y (List.mem_cons_of_mem _ hy))
   simp only [sizes,List.map_cons,List.sum_cons] at h2 ⊢
   omega
 rw [normNet_eq]
 have h0 : netSize ⟨k,e,kids⟩ = 1 + sizes kids := netSize_kids _
 split
 ·have h1 := blockOf_size k (flatKids k (kids.map normNet))
  have h2 := flatKids_sizes k (kids.map normNet)
  omega
 ·rw [netSize_kids]
  simp only
  omega
theorem norm_sizes (l : List Net) : sizes (l.map normNet) <= sizes l := by
 induction l with
 | nil => simp [sizes]
 | cons x r ih =>
  have h1 := normNet_size x
  simp only [sizes,List.map_cons,List.sum_cons] at ih ⊢
  omega
theorem sizes_take (l : List Net) (n : Nat) : sizes (l.take n) <= sizes l := by
 have h := sizes_append (l.take n) (l.drop n)
 rw [List.take_append_drop] at h
 omega
theorem flat_take (k : Int) (l : List Net) (n : Nat) : (flatKids k ((l.take n).map normNet)).length <= sizes (l.map normNet) := by
 have h1 := len_sizes (flatKids k ((l.take n).map normNet))
 have h2 := flatKids_sizes k ((l.take n).map normNet)
 have h3 := sizes_take (l.map normNet) n
 rw [← List.map_take] at h3
 omega
theorem flat_snoc (k : Int) (l : List Net) (j : Nat) (h : j < l.length) : flatKids k ((l.take (j + 1)).map normNet) = flatKids k ((l.take j).map normNet) ++ (if (normNet l[j]).kind = k then (normNet l[j]).kids else [normNet l[j]]) := by
 rw [List.take_succ_eq_append_getElem h,List.map_append,flatKids_append]
 congr 1
 exact flatKids_one k _
theorem firstPos_zero (l : List Int) (h : ∀ x ∈ l,0 <= x) (h0 : firstPos l = 0) : ∀ x ∈ l,x = 0 := by
 induction l with
 | nil => intro x hx; cases hx
 | cons y r ih =>
  unfold firstPos at h0
  have hy := h y (by simp)
  split at h0
  ·omega
  ·intro x hx
   rcases List.mem_cons.1 hx with rfl | hx
   ·omega
   ·exact ih (fun z hz => h z (by simp [hz])) h0 x hx
theorem right_parts {k : Int} {e : Elem} {kids : List Net} (h : netWrong ⟨k,e,kids⟩ = 0) :
  (k = 1 ∧ kids = []) ∨ ((k = 2 ∨ k = 3) ∧ 0 < kids.length ∧ ∀ x ∈ kids,netWrong x = 0) ∨ (k = 4 ∧ e = ⟨0,[]⟩ ∧ ∃ x,kids = [x] ∧ netWrong x = 0) := by
 rw [netWrong_eq] at h
 by_cases h1 : k = 1
 ·rw [if_pos h1] at h
  refine .inl ⟨h1,?_⟩
  by_cases h2 : 0 < kids.length
  ·rw [if_pos h2] at h; omega
  ·exact List.length_eq_zero_iff.1 (by omega)
 ·rw [if_neg h1] at h
  by_cases h2 : badNet k e.op e.args.length kids.length = true
  ·rw [if_pos h2] at h; omega
  ·rw [if_neg h2] at h
   have hk := firstPos_zero _ (fun x hx => by obtain ⟨n,_,rfl⟩ := List.mem_map.1 hx; exact (netWrong_bound n).1) h
   have hk2 : ∀ x ∈ kids,netWrong x = 0 := fun x hx => hk _ (List.mem_map.2 ⟨x,hx,rfl⟩)
   simp only [badNet,Bool.or_eq_true,decide_eq_true_eq,bne_iff_ne,ne_eq,beq_iff_eq,Bool.and_eq_true,not_or,not_and,Decidable.not_not] at h2
   obtain ⟨⟨⟨⟨⟨a1,a2⟩,a3⟩,a4⟩,a5⟩,a6⟩ := h2
   by_cases h4 : k = 4
   ·refine .inr (.inr ⟨h4,?_,?_⟩)
    ·obtain ⟨op,args⟩ := e
     simp only at a3 a4
     have : args = [] := List.length_eq_zero_iff.1 (by omega)
     subst this
     subst a3
     rfl
    ·have hl := a6 h4
     have hl2 : kids.length = 1 := by omega
     obtain ⟨x,rfl⟩ := List.length_eq_one_iff.1 hl2
     exact ⟨x,rfl,hk2 x (by simp)⟩
   ·exact .inr (.inl ⟨by omega,by omega,hk2⟩)
def normTop (n : Net) : Net := if 400 < netSize n ∨ 0 < netWrong n then ⟨0,⟨0,[]⟩,[]⟩ else normNet n
theorem kids_sizes {k : Int} {e : Elem} {kids : List Net} {c : Nat} (h : netSize ⟨k,e,kids⟩ <= c) : sizes (kids.map normNet) <= c ∧ ∀ x ∈ kids,netSize x <= c := by
 have h1 := norm_sizes kids
 rw [netSize_eq] at h
 refine ⟨by unfold sizes at h1 ⊢; omega,fun x hx => ?_⟩
 have := mem_le_sum netSize kids x hx
 omega
end Stil
/- Y1,Y2,Y4,Y3,Y3b: texts put together. -/
/- Nets in memory of their own: trees of what lies where. -/
namespace Go.Proofs.YtenoanhonjdpjaaGreatDoor
open Go.RowKit Go.Sort Go.BigFrame
/-- Two values that own no block in common. -/
def Aside (u v : Value) : Prop := u.ownBlock = none ∨ u.ownBlock ≠ v.ownBlock
theorem Aside.symm {u v : Value} (h : Aside u v) : Aside v u := by
 rcases h with h | h
 ·by_cases e : v.ownBlock = none
  ·exact .inl e
  ·exact .inr (by rw [h]; exact e)
 ·exact .inr (fun e => h e.symm)
theorem aside_new {x y : Value} {n : Nat} (hx : ∀ k,x.ownBlock = some k -> k < n) (hy : ∀ k,y.ownBlock = some k -> n <= k) : Aside x y := by
 by_cases e : x.ownBlock = none
 ·exact .inl e
 ·obtain ⟨k,hk⟩ := Option.ne_none_iff_exists'.1 e
  refine .inr (fun e2 => ?_)
  rw [hk] at e2
  have h1 := hx k hk
  have h2 := hy k e2.symm
  omega
/-- A net,with the values of its operands' and its kids' rows. -/
structure MNet where
 kind : Int
 op : Int
 ds : List Stil.Dev
 av : Value
 kv : Value
 kids : List MNet
theorem mnet_ind (P : MNet -> Prop) (h : ∀ k op ds av kv kids,(∀ x ∈ kids,P x) -> P ⟨k,op,ds,av,kv,kids⟩) : ∀ n,P n
 | ⟨k,op,ds,av,kv,kids⟩ => h k op ds av kv kids (fun x _ => mnet_ind P h x)
def MNet.net : MNet -> Stil.Net
 | ⟨k,op,ds,_,_,kids⟩ => ⟨k,⟨op,ds⟩,kids.map MNet.net⟩
theorem MNet.net_eq (m : MNet) : m.net = ⟨m.kind,⟨m.op,m.ds⟩,m.kids.map MNet.net⟩ := by obtain ⟨k,op,ds,av,kv,kids⟩ := m; rw [MNet.net]
def MNet.vals : MNet -> List Value
 | ⟨_,_,_,av,kv,kids⟩ => av :: kv :: (kids.map MNet.vals).flatten
def mVals (ms : List MNet) : List Value := (ms.map MNet.vals).flatten
theorem MNet.vals_eq (m : MNet) : m.vals = m.av :: m.kv :: mVals m.kids := by obtain ⟨k,op,ds,av,kv,kids⟩ := m; rw [MNet.vals]; rfl
theorem mVals_append (a b : List MNet) : mVals (a ++ b) = mVals a ++ mVals b := by simp [mVals]
theorem mVals_one (m : MNet) : mVals [m] = m.vals := by simp [mVals]
theorem mem_mVals {ms : List MNet} {x : Value} : x ∈ mVals ms ↔ ∃ m ∈ ms,x ∈ m.vals := by
 simp only [mVals,List.mem_flatten,List.mem_map]
 constructor
 ·rintro ⟨_,⟨m,hm,rfl⟩,hx⟩; exact ⟨m,hm,hx⟩
 ·rintro ⟨m,hm,hx⟩; exact ⟨_,⟨m,hm,rfl⟩,hx⟩
def MNet.cells (m : MNet) : List Value := [.int .i64 m.kind,.int .i64 m.op,m.av,m.kv]
def mCells (ms : List MNet) : List Value := ms.flatMap MNet.cells
theorem mCells_append (a b : List MNet) : mCells (a ++ b) = mCells a ++ mCells b := by simp [mCells]
theorem mCells_len (ms : List MNet) : (mCells ms).length = ms.length * 4 := by
 induction ms with
 | nil => rfl
 | cons m r ih =>
  have e : mCells (m :: r) = m.cells ++ mCells r := rfl
  rw [e,List.length_append,ih]
  simp [MNet.cells]; omega
theorem mCells_get : ∀ (ms : List MNet) (i : Nat) (h : i < ms.length),(mCells ms)[i * 4]? = some (.int .i64 ms[i].kind) ∧ (mCells ms)[i * 4 + 1]? = some (.int .i64 ms[i].op) ∧ (mCells ms)[i * 4 + 2]? = some ms[i].av ∧ (mCells ms)[i * 4 + 3]? = some ms[i].kv
 | [],_,h => by simp at h
 | m :: r,0,_ => ⟨rfl,rfl,rfl,rfl⟩
 | m :: r,i + 1,h => by
  obtain ⟨a1,a2,a3,a4⟩ := mCells_get r i (by simpa using h)
  have e : mCells (m :: r) = .int .i64 m.kind :: .int .i64 m.op :: m.av :: m.kv :: mCells r := rfl
  have e1 : (i + 1) * 4 = i * 4 + 1 + 1 + 1 + 1 := by omega
  rw [e,e1]
  exact ⟨by simpa using a1,by simpa using a2,by simpa using a3,by simpa using a4⟩
/-- The net owns its memory. -/
def MOk (w : World) (base : Nat) : MNet -> Prop
 | ⟨_,_,ds,av,kv,kids⟩ => w.ownsRow base 42 3 av ds.length (devsCells ds) ∧ w.ownsRow base 33 4 kv kids.length (mCells kids) ∧ ∀ p ∈ kids.map (MOk w base),p
theorem MOk_iff (w : World) (base : Nat) (m : MNet) : MOk w base m ↔ w.ownsRow base 42 3 m.av m.ds.length (devsCells m.ds) ∧ w.ownsRow base 33 4 m.kv m.kids.length (mCells m.kids) ∧ ∀ x ∈ m.kids,MOk w base x := by
 obtain ⟨k,op,ds,av,kv,kids⟩ := m
 rw [MOk,Stil.all_map]
theorem MOk.map {w w' : World} {base base' : Nat} (m : MNet) (h : MOk w base m) (hk : ∀ (e : TypeId) (s n : Nat) (v : Value) (xs : List Value),v ∈ m.vals -> w.ownsRow base e s v n xs -> w'.ownsRow base' e s v n xs) : MOk w' base' m := by
 revert h hk
 refine mnet_ind (fun m => MOk w base m -> (∀ (e : TypeId) (s n : Nat) (v : Value) (xs : List Value),v ∈ m.vals -> w.ownsRow base e s v n xs -> w'.ownsRow base' e s v n xs) -> MOk w' base' m) ?_ m
 intro k op ds av kv kids ih h hk
 rw [MOk_iff] at h ⊢
 simp only [MNet.vals_eq] at hk
 refine ⟨hk _ _ _ _ _ (by simp) h.1,hk _ _ _ _ _ (by simp) h.2.1,fun x hx => ih x hx (h.2.2 x hx) (fun e s n v xs hv => hk e s n v xs ?_)⟩
 exact List.mem_cons_of_mem _ (List.mem_cons_of_mem _ (mem_mVals.2 ⟨x,hx,hv⟩))
theorem MOk.below {w w' : World} {base : Nat} {m : MNet} (h : MOk w base m) (hb : Below w.heap.size w w') : MOk w' base m := MOk.map m h (fun _ _ _ _ _ _ ho => ownsRow_below ho hb)
theorem MOk.kept {w w' : World} {base : Nat} {m : MNet} {x : Value} (h : MOk w base m) (hg : w.grownBy w' x.ownBlock) (ha : ∀ u ∈ m.vals,Aside u x) : MOk w' base m := MOk.map m h (fun _ _ _ _ _ hv ho => ho.kept hg (ha _ hv))
theorem MOk.le {w : World} {base base' : Nat} {m : MNet} (h : MOk w base m) (hl : base' <= base) : MOk w base' m := MOk.map m h (fun _ _ _ _ _ _ ho => Joins.ownsRow_le ho hl)
theorem MOk.lt {w : World} {base : Nat} (m : MNet) (h : MOk w base m) : ∀ x ∈ m.vals,∀ k,x.ownBlock = some k -> base <= k ∧ k < w.heap.size := by
 revert h
 refine mnet_ind (fun m => MOk w base m -> ∀ x ∈ m.vals,∀ k,x.ownBlock = some k -> base <= k ∧ k < w.heap.size) ?_ m
 intro k op ds av kv kids ih h x hx j hj
 rw [MOk_iff] at h
 rw [MNet.vals_eq] at hx
 simp only [List.mem_cons] at hx
 rcases hx with rfl | rfl | hx
 ·exact h.1.lt j hj
 ·exact h.2.1.lt j hj
 ·obtain ⟨y,hy,hx⟩ := mem_mVals.1 hx
  exact ih y hy (h.2.2 y hy) x hx j hj
/-- A net in memory of its own,no two rows of it the same. -/
def MOwn (w : World) (base : Nat) (m : MNet) : Prop := MOk w base m ∧ m.vals.Pairwise Aside
theorem MOwn.below {w w' : World} {base : Nat} {m : MNet} (h : MOwn w base m) (hb : Below w.heap.size w w') : MOwn w' base m := ⟨h.1.below hb,h.2⟩
theorem MOwn.le {w : World} {base base' : Nat} {m : MNet} (h : MOwn w base m) (hl : base' <= base) : MOwn w base' m := ⟨h.1.le hl,h.2⟩
/-- A row of nets in memory of its own. -/
def MRow (w : World) (base : Nat) (v : Value) (ms : List MNet) : Prop := w.ownsRow base 33 4 v ms.length (mCells ms) ∧ (∀ m ∈ ms,MOk w base m) ∧ (v :: mVals ms).Pairwise Aside
theorem MRow.nil (w : World) (base : Nat) : MRow w base (.slice none 0 0) [] := ⟨World.ownsRow_nil _ _ _ _,(fun m hm => by cases hm),List.pairwise_singleton _ _⟩
theorem MRow.below {w w' : World} {base : Nat} {v : Value} {ms : List MNet} (h : MRow w base v ms) (hb : Below w.heap.size w w') : MRow w' base v ms := ⟨ownsRow_below h.1 hb,fun m hm => (h.2.1 m hm).below hb,h.2.2⟩
theorem MRow.le {w : World} {base base' : Nat} {v : Value} {ms : List MNet} (h : MRow w base v ms) (hl : base' <= base) : MRow w base' v ms := ⟨Joins.ownsRow_le h.1 hl,fun m hm => (h.2.1 m hm).le hl,h.2.2⟩
theorem MRow.lt {w : World} {base : Nat} {v : Value} {ms : List MNet} (h : MRow w base v ms) : ∀ x ∈ v :: mVals ms,∀ k,x.ownBlock = some k -> base <= k ∧ k < w.heap.size := by
 intro x hx k hk
 rcases List.mem_cons.1 hx with rfl | hx
 ·exact h.1.lt k hk
 ·obtain ⟨m,hm,hx⟩ := mem_mVals.1 hx
  exact (h.2.1 m hm).lt m x hx k hk
/-- More nets in the row: it is grown from w on. -/
theorem MRow.add {w w' : World} {base : Nat} {v v' : Value} {ms ks : List MNet} (h : MRow w base v ms) (hk : ∀ m ∈ ks,MOk w base m) (hp : (v :: (mVals ms ++ mVals ks)).Pairwise Aside)
  (hown : w'.ownsRow base 33 4 v' (ms.length + ks.length) (mCells ms ++ mCells ks)) (hg : w.grownBy w' v.ownBlock) (hat : v'.ownBlock = v.ownBlock ∨ v'.ownBlock = some w.heap.size) : MRow w' base v' (ms ++ ks) := by
 rw [List.pairwise_cons] at hp
 have hkl : ∀ x ∈ mVals ms ++ mVals ks,∀ k,x.ownBlock = some k -> k < w.heap.size := by
  intro x hx k hk2
  rcases List.mem_append.1 hx with hx | hx
  ·exact (h.lt x (List.mem_cons_of_mem _ hx) k hk2).2
  ·obtain ⟨m,hm,hx⟩ := mem_mVals.1 hx
   exact ((hk m hm).lt m x hx k hk2).2
 refine ⟨by rw [List.length_append,mCells_append]; exact hown,fun m hm => ?_,?_⟩
 ·rcases List.mem_append.1 hm with hm | hm
  ·exact (h.2.1 m hm).kept hg (fun u hu => (hp.1 u (List.mem_append_left _ (mem_mVals.2 ⟨m,hm,hu⟩))).symm)
  ·exact (hk m hm).kept hg (fun u hu => (hp.1 u (List.mem_append_right _ (mem_mVals.2 ⟨m,hm,hu⟩))).symm)
 ·rw [mVals_append,List.pairwise_cons]
  refine ⟨fun y hy => ?_,hp.2⟩
  rcases hat with e | e
  ·rcases hp.1 y hy with h0 | h0
   ·exact .inl (by rw [e]; exact h0)
   ·exact .inr (by rw [e]; exact h0)
  ·refine .inr (fun e2 => ?_)
   rw [e] at e2
   have := hkl y hy _ e2.symm
   omega
/-- What is new since the row was there stands apart from it. -/
theorem MRow.apart {w w1 : World} {base : Nat} {v : Value} {ms ks : List MNet} {b1 : Nat} (h : MRow w base v ms) (hk : ∀ m ∈ ks,MOk w1 b1 m) (hb : w.heap.size <= b1) (hp : (mVals ks).Pairwise Aside) : (v :: (mVals ms ++ mVals ks)).Pairwise Aside := by
 have hx := h.lt
 have hy : ∀ y ∈ mVals ks,∀ k,y.ownBlock = some k -> w.heap.size <= k := by
  intro y hy k hk2
  obtain ⟨m,hm,hy⟩ := mem_mVals.1 hy
  exact Nat.le_trans hb ((hk m hm).lt m y hy k hk2).1
 have h2 := h.2.2
 rw [List.pairwise_cons] at h2 ⊢
 refine ⟨fun y hy2 => ?_,List.pairwise_append.2 ⟨h2.2,hp,fun x hx2 y hy2 => aside_new (fun k hk2 => (hx x (List.mem_cons_of_mem _ hx2) k hk2).2) (hy y hy2)⟩⟩
 rcases List.mem_append.1 hy2 with hy2 | hy2
 ·exact h2.1 y hy2
 ·exact aside_new (fun k hk2 => (hx v (by simp) k hk2).2) (hy y hy2)
theorem MOwn.kids {w : World} {base : Nat} {m : MNet} (h : MOwn w base m) : (∀ x ∈ m.kids,MOk w base x) ∧ (mVals m.kids).Pairwise Aside := by
 refine ⟨((MOk_iff w base m).1 h.1).2.2,?_⟩
 have h2 := h.2
 rw [MNet.vals_eq,List.pairwise_cons,List.pairwise_cons] at h2
 exact h2.2.2
theorem MRow.one {w : World} {base : Nat} {v : Value} {ms : List MNet} (h : MRow w base v ms) (i : Nat) (hi : i < ms.length) : MOwn w base ms[i] := by
 refine ⟨h.2.1 _ (List.getElem_mem hi),?_⟩
 have h2 := (List.pairwise_cons.1 h.2.2).2
 unfold mVals at h2
 rw [List.pairwise_flatten] at h2
 exact h2.1 _ (List.mem_map.2 ⟨_,List.getElem_mem hi,rfl⟩)
/-- A net of a row of nets: its operands' row stands apart. -/
theorem MRow.net {w : World} {base : Nat} {v av : Value} {ms : List MNet} (k op : Int) (ds : List Stil.Dev) (h : MRow w base v ms) (ha : w.ownsRow base 42 3 av ds.length (devsCells ds)) (hd : ∀ x ∈ v :: mVals ms,Aside av x) : MOwn w base ⟨k,op,ds,av,v,ms⟩ := by
 refine ⟨(MOk_iff _ _ _).2 ⟨ha,h.1,h.2.1⟩,?_⟩
 rw [MNet.vals_eq,List.pairwise_cons]
 exact ⟨hd,h.2.2⟩
theorem aside_nil (x : Value) : Aside (.slice none 0 0) x := .inl rfl
/-- What it holds. -/
theorem MOk.from {w : World} {base : Nat} (m : MNet) (h : MOk w base m) : DevsFrom base w m.av m.net.one.args ∧ NetsFrom base w m.kv m.net.kids := by
 revert h
 refine mnet_ind (fun m => MOk w base m -> DevsFrom base w m.av m.net.one.args ∧ NetsFrom base w m.kv m.net.kids) ?_ m
 intro k op ds av kv kids ih h
 rw [MOk_iff] at h
 rw [MNet.net_eq]
 refine ⟨DevsFrom.of_owns h.1,?_⟩
 simp only at h ⊢
 by_cases hz : kids.length = 0
 ·obtain ⟨a,cap,rfl⟩ := slice_of_owns h.2.1
  exact ⟨a,cap,by simp,fun i hi => absurd hi (by simp; omega)⟩
 ·obtain ⟨g,cap,hv,hbase,hlt,_,hcell⟩ := ownsRow_cells h.2.1 (by omega)
  subst hv
  refine ⟨_,cap,by simp,fun i hi => ⟨g,0,rfl,hbase,hlt,?_⟩⟩
  have hi' : i < kids.length := by simpa using hi
  obtain ⟨a1,a2,a3,a4⟩ := mCells_get kids i hi'
  obtain ⟨f1,f2⟩ := ih _ (List.getElem_mem hi') (h.2.2 _ (List.getElem_mem hi'))
  rw [List.getElem_map,NetFrom_iff,Nat.zero_add]
  have e := MNet.net_eq kids[i]
  have e1 : kids[i].net.kind = kids[i].kind := by rw [e]
  have e2 : kids[i].net.one.op = kids[i].op := by rw [e]
  rw [e1,e2]
  exact ⟨hcell _ _ a1,hcell _ _ a2,⟨_,hcell _ _ a3,f1⟩,⟨_,hcell _ _ a4,f2⟩⟩
end Go.Proofs.YtenoanhonjdpjaaGreatDoor
