/- S2g,S2h,S2i,S2j,S2k,S2l,L1: texts put together. -/
import Derived.Test.YtenoanhonjdpjaaGreatDoorGB
import Derived.Lib.SmallJoins
import Derived.Deep.RegionLaw
import Derived.Deep.DeepCutAuto
import Derived.ProofKit
import Derived.OpenShut
import Derived.OpenVars
import Derived.LaidMore
import Derived.Lay
import Derived.Deep.DeepHandedRow
import Derived.RangeFuncNested
import Derived.RangeFuncBound
import Derived.RangeFuncCalls
import Derived.RangeFuncLeaves
import Derived.Shelf.Abstract
/- Contracts of the specification's chapter 2,seventh part: ElemText. -/
namespace Go.Proofs.YtenoanhonjdpjaaGreatDoor
open Go.RowKit Go.Sort Go.BigFrame
theorem info_dev : (Tryz.prog.info? 42).map (fun i => (i.zero,i.size,i.bytes)) = some (some (.agg #[.int .i64 0,.int .i64 0,.int .i64 0]),3,24) := by kernel_rfl
def devCells (d : Stil.Dev) : List Value := [.int .i64 d.kind,.int .i64 d.n,.int .i64 d.p]
def devsCells (ds : List Stil.Dev) : List Value := ds.flatMap devCells
theorem devsCells_length (ds : List Stil.Dev) : (devsCells ds).length = ds.length * 3 := by
 induction ds with
 | nil => rfl
 | cons d r ih => simp [devsCells,devCells] at ih ⊢; omega
theorem devsCells_snoc (ds : List Stil.Dev) (d : Stil.Dev) : devsCells (ds ++ [d]) = devsCells ds ++ devCells d := by simp [devsCells]
theorem devsCells_get (ds : List Stil.Dev) : ∀ (i : Nat) (h : i < ds.length),(devsCells ds)[i * 3]? = some (.int .i64 ds[i].kind) ∧ (devsCells ds)[i * 3 + 1]? = some (.int .i64 ds[i].n) ∧ (devsCells ds)[i * 3 + 2]? = some (.int .i64 ds[i].p) := by
 induction ds with
 | nil => intro i h; simp at h
 | cons d r ih =>
  intro i h
  have e : devsCells (d :: r) = .int .i64 d.kind :: .int .i64 d.n :: .int .i64 d.p :: devsCells r := rfl
  cases i with
  | zero => rw [e]; simp
  | succ i =>
   have h' : i < r.length := by simpa using h
   rw [e]
   have := ih i h'
   have e0 : (i + 1) * 3 = i * 3 + 3 := by omega
   rw [e0]
   simpa using this
theorem add_plain (g j : Nat) : (⟨g,0,none⟩ : Addr).add j = ⟨g,j,none⟩ := by unfold Addr.add; split <;> simp_all
theorem ownsRow_cells {w : World} {base : Nat} {e : TypeId} {size : Nat} {v : Value} {n : Nat} {xs : List Value} (h : w.ownsRow base e size v n xs) (hn : 0 < n) : ∃ g cap,v = .slice (some ⟨g,0,none⟩) n cap ∧ base ≤ g ∧ g < w.heap.size ∧ n ≤ cap ∧ ∀ j u,xs[j]? = some u → w.cell? ⟨g,j,none⟩ = some u := by
 have h2 := h.2
 rcases h2 with ⟨_,h0⟩ | ⟨g,cap,cur,hv,hg,_,hc,_⟩
 ·omega
 ·refine ⟨g,cap,hv,hg,(h.lt g (by rw [hv]; rfl)).2,hc,fun j u hu => ?_⟩
  have := h.cells (g := g) (by rw [hv]; rfl) j u hu
  rwa [add_plain] at this
theorem DevsAt.of_owns {w : World} {base : Nat} {v : Value} {ds : List Stil.Dev} (h : w.ownsRow base 42 3 v ds.length (devsCells ds)) : DevsAt w v ds := by
 by_cases hd : ds.length = 0
 ·have hn : ds = [] := List.length_eq_zero_iff.1 hd
  subst hn
  rcases h.2 with ⟨h0,_⟩ | ⟨g,cap,cur,hv,_⟩
  ·exact ⟨none,0,h0,fun i hi => by simp at hi⟩
  ·exact ⟨_,cap,hv,fun i hi => by simp at hi⟩
 ·obtain ⟨g,cap,hv,_,hlt,_,hc⟩ := ownsRow_cells h (by omega)
  refine ⟨_,cap,hv,fun i hi => ⟨g,0,rfl,hlt,?_⟩⟩
  obtain ⟨a1,a2,a3⟩ := devsCells_get ds i hi
  unfold DevAt
  rw [Nat.zero_add]
  exact ⟨hc _ _ a1,hc _ _ a2,hc _ _ a3⟩
theorem ownsRow_below {w w' : World} {base : Nat} {e : TypeId} {size : Nat} {v : Value} {n : Nat} {xs : List Value} (h : w.ownsRow base e size v n xs) (hb : Below w.heap.size w w') : w'.ownsRow base e size v n xs := by
 refine ⟨h.1,?_⟩
 rcases h.2 with h0 | ⟨g,cap,cur,hv,hg,hh,hr⟩
 ·exact Or.inl h0
 ·have := (h.lt g (by rw [hv]; rfl)).2
  exact Or.inr ⟨g,cap,cur,hv,hg,by rw [hb.block g this]; exact hh,hr⟩
theorem cells_new (W : World) (cs : List Value) (t : TypeId) (b : Nat) (hb : b = W.heap.size) : ∀ j u,cs[j]? = some u → (W.alloc (.cells cs.toArray t)).cell? ((⟨b,0,none⟩ : Addr).add j) = some u := by
 subst hb
 intro j u hj
 rw [add_plain,World.cell?_alloc_at _ _ _ _ rfl]
 simpa using hj
theorem step_append_own {P : Program} {ops : Array Oper} {o : Oper} {a : Act} {w : World} {K : Act → World → Prop} {Q : Exit → Act → World → Prop} {E : Prop}
  (hg : o.guard = none) (s x : Operand) (t : TypeId) (hop : o.op = .call { callee := .builtin .append,args := #[s,x],argTypes := #[t,t] })
  (base : Nat) (e : TypeId) (i : TypeInfo) (z : Value) (size bytes : Nat) (ht : P.underlying t = some (.slice e)) (hi : P.info? e = some i) (hz : i.zero = some z)
  (hsize : i.size = size) (hby : i.bytes = bytes) (hzs : z.cells.size = size) (hsz : 0 < size)
  (v : Value) (n : Nat) (xs : List Value) (hs : a.eval s = v) (hown : w.ownsRow base e size v n xs)
  (ad : Addr) (m c : Nat) (news : List Value) (hx : a.eval x = .slice (some ad) m c) (hl : news.length = m * size) (hnews : ∀ j u,news[j]? = some u → w.cell? (ad.add j) = some u) (h1 : ∀ u ∈ news,u.oneCell' = true)
  (h63 : n + m ≤ maxLen) (hbytes : (n + m) * bytes ≤ 140737488355328) (hbase : base ≤ w.heap.size)
  (hK : ∀ v' w',w'.ownsRow base e size v' (n + m) (xs ++ news) → w.grownBy w' v.ownBlock → K (a.put o.dst v') w') :
  if Region.wanted o (yielded ops a.tmps) = true then Oper.wp P o a w K Q else E := by
 have hw : Region.wanted o (yielded ops a.tmps) = true := by simp [Region.wanted,hg]
 rw [if_pos hw]
 exact wp_append_own w s x t hop base e i z size bytes ht hi hz hsize hby hzs hsz v n xs hs hown ad m c news hx hl hnews h1 h63 hbytes hbase fun v' w' h2 h3 _ => hK v' w' h2 h3
theorem devsCells_one (ds : List Stil.Dev) : ∀ u ∈ devsCells ds,u.oneCell' = true := by
 intro u hu
 simp only [devsCells,List.mem_flatMap,devCells] at hu
 obtain ⟨d,_,hd⟩ := hu
 simp at hd
 rcases hd with rfl | rfl | rfl <;> rfl
theorem dev_eta (d e : Stil.Dev) : (d = e) ↔ (d.kind = e.kind ∧ d.n = e.n ∧ d.p = e.p) := by
 cases d; cases e; simp
end Go.Proofs.YtenoanhonjdpjaaGreatDoor
/- From what a row says of memory to what the walks ask: a slice of operands. -/
namespace Go.Proofs.YtenoanhonjdpjaaGreatDoor
open Go.ChangeShapes Go.WideShapes Go.ChangeAt Go.RowKit
theorem cInt : Tryz.prog.cellsOf 3 = 1 := by kernel_rfl
theorem lt_of_cell {W : World} {b o : Nat} {v : Value} (h : W.cell? ⟨b,o,none⟩ = some v) : b < W.heap.size := by
 unfold World.cell? at h
 cases hh : W.heap[b]? with
 | none => simp [hh] at h
 | some x => exact (Array.getElem?_eq_some_iff.1 hh).1
end Go.Proofs.YtenoanhonjdpjaaGreatDoor
/- T3,T3b,T3d,T3c: texts put together. -/
/- How ladders lie in memory. -/
namespace Go.Proofs.YtenoanhonjdpjaaGreatDoor
open Go.RowKit Go.Sort Go.BigFrame
/-- The net n lies at this place. -/
def NetAt (w : World) : Nat → Nat → Stil.Net → Prop
 | b,o,⟨k,e,kids⟩ => w.cell? ⟨b,o,none⟩ = some (.int .i64 k) ∧ w.cell? ⟨b,o + 1,none⟩ = some (.int .i64 e.op) ∧
   (∃ av,w.cell? ⟨b,o + 2,none⟩ = some av ∧ DevsAt w av e.args) ∧
   ∃ a cap,w.cell? ⟨b,o + 3,none⟩ = some (.slice a kids.length cap) ∧ ∀ i (h : i < kids.length),∃ b' o',a = some ⟨b',o',none⟩ ∧ b' < w.heap.size ∧
    (have := List.sizeOf_lt_of_mem (List.getElem_mem h); NetAt w b' (o' + i * 4) kids[i])
theorem NetAt_eq (w : World) (b o : Nat) (k : Int) (e : Stil.Elem) (kids : List Stil.Net) : NetAt w b o ⟨k,e,kids⟩ = (w.cell? ⟨b,o,none⟩ = some (.int .i64 k) ∧ w.cell? ⟨b,o + 1,none⟩ = some (.int .i64 e.op) ∧
   (∃ av,w.cell? ⟨b,o + 2,none⟩ = some av ∧ DevsAt w av e.args) ∧
   ∃ a cap,w.cell? ⟨b,o + 3,none⟩ = some (.slice a kids.length cap) ∧ ∀ i (h : i < kids.length),∃ b' o',a = some ⟨b',o',none⟩ ∧ b' < w.heap.size ∧ NetAt w b' (o' + i * 4) kids[i]) := by rw [NetAt]
/-- The value v is a slice of just these nets. -/
def NetsAt (w : World) (v : Value) (ns : List Stil.Net) : Prop := ∃ a cap,v = .slice a ns.length cap ∧ ∀ i (h : i < ns.length),∃ b o,a = some ⟨b,o,none⟩ ∧ b < w.heap.size ∧ NetAt w b (o + i * 4) ns[i]
theorem NetAt_iff (w : World) (b o : Nat) (k : Int) (e : Stil.Elem) (kids : List Stil.Net) : NetAt w b o ⟨k,e,kids⟩ ↔ (w.cell? ⟨b,o,none⟩ = some (.int .i64 k) ∧ w.cell? ⟨b,o + 1,none⟩ = some (.int .i64 e.op) ∧
   (∃ av,w.cell? ⟨b,o + 2,none⟩ = some av ∧ DevsAt w av e.args) ∧ ∃ kv,w.cell? ⟨b,o + 3,none⟩ = some kv ∧ NetsAt w kv kids) := by
 rw [NetAt_eq]
 constructor
 ·rintro ⟨h1,h2,h3,a,cap,h4,h5⟩; exact ⟨h1,h2,h3,_,h4,a,cap,rfl,h5⟩
 ·rintro ⟨h1,h2,h3,_,h4,a,cap,rfl,h5⟩; exact ⟨h1,h2,h3,a,cap,h4,h5⟩
theorem NetAt.below {w w' : World} (hb : Below w.heap.size w w') : ∀ (n : Stil.Net) (b o : Nat),NetAt w b o n → b < w.heap.size → NetAt w' b o n := by
 intro n
 induction n using Stil.net_ind with
 | h k e kids ih =>
  intro b o h hlt
  rw [NetAt_eq] at h ⊢
  obtain ⟨h1,h2,⟨av,h3,h4⟩,a,cap,h5,h6⟩ := h
  refine ⟨?_,?_,⟨av,?_,h4.below hb⟩,a,cap,?_,fun i hi => ?_⟩
  ·rw [hb.cell (p := ⟨b,o,none⟩) hlt]; exact h1
  ·rw [hb.cell (p := ⟨b,o + 1,none⟩) hlt]; exact h2
  ·rw [hb.cell (p := ⟨b,o + 2,none⟩) hlt]; exact h3
  ·rw [hb.cell (p := ⟨b,o + 3,none⟩) hlt]; exact h5
  ·obtain ⟨b',o',ha,hl',hn⟩ := h6 i hi
   exact ⟨b',o',ha,Nat.lt_of_lt_of_le hl' hb.size,ih _ (List.getElem_mem hi) b' _ hn hl'⟩
theorem NetsAt.below {w w' : World} {v : Value} {ns : List Stil.Net} (h : NetsAt w v ns) (hb : Below w.heap.size w w') : NetsAt w' v ns := by
 obtain ⟨a,cap,hv,hc⟩ := h
 refine ⟨a,cap,hv,fun i hi => ?_⟩
 obtain ⟨b,o,ha,hlt,hn⟩ := hc i hi
 exact ⟨b,o,ha,Nat.lt_of_lt_of_le hlt hb.size,NetAt.below hb _ _ _ hn hlt⟩
/-- The contact or coil e lies at this place. -/
def ElemAt (w : World) (b o : Nat) (e : Stil.Elem) : Prop := w.cell? ⟨b,o,none⟩ = some (.int .i64 e.op) ∧ ∃ av,w.cell? ⟨b,o + 1,none⟩ = some av ∧ DevsAt w av e.args
/-- The value v is a slice of just these contacts and coils. -/
def ElemsAt (w : World) (v : Value) (es : List Stil.Elem) : Prop := ∃ a cap,v = .slice a es.length cap ∧ ∀ i (h : i < es.length),∃ b o,a = some ⟨b,o,none⟩ ∧ b < w.heap.size ∧ ElemAt w b (o + i * 2) es[i]
theorem ElemAt.below {w w' : World} {b o : Nat} {e : Stil.Elem} (h : ElemAt w b o e) (hb : Below w.heap.size w w') (hlt : b < w.heap.size) : ElemAt w' b o e := by
 obtain ⟨h1,av,h2,h3⟩ := h
 exact ⟨by rw [hb.cell (p := ⟨b,o,none⟩) hlt]; exact h1,av,by rw [hb.cell (p := ⟨b,o + 1,none⟩) hlt]; exact h2,h3.below hb⟩
theorem ElemsAt.below {w w' : World} {v : Value} {es : List Stil.Elem} (h : ElemsAt w v es) (hb : Below w.heap.size w w') : ElemsAt w' v es := by
 obtain ⟨a,cap,hv,hc⟩ := h
 refine ⟨a,cap,hv,fun i hi => ?_⟩
 obtain ⟨b,o,ha,hlt,hn⟩ := hc i hi
 exact ⟨b,o,ha,Nat.lt_of_lt_of_le hlt hb.size,hn.below hb hlt⟩
/-- The arm lies at this place. -/
def ArmAt (w : World) : Nat → Nat → Stil.Arm → Prop
 | b,o,⟨n,coils,kids⟩ => NetAt w b o n ∧ (∃ cv,w.cell? ⟨b,o + 4,none⟩ = some cv ∧ ElemsAt w cv coils) ∧
   ∃ a cap,w.cell? ⟨b,o + 5,none⟩ = some (.slice a kids.length cap) ∧ ∀ i (h : i < kids.length),∃ b' o',a = some ⟨b',o',none⟩ ∧ b' < w.heap.size ∧
    (have := List.sizeOf_lt_of_mem (List.getElem_mem h); ArmAt w b' (o' + i * 6) kids[i])
theorem ArmAt_eq (w : World) (b o : Nat) (n : Stil.Net) (coils : List Stil.Elem) (kids : List Stil.Arm) : ArmAt w b o ⟨n,coils,kids⟩ = (NetAt w b o n ∧ (∃ cv,w.cell? ⟨b,o + 4,none⟩ = some cv ∧ ElemsAt w cv coils) ∧
   ∃ a cap,w.cell? ⟨b,o + 5,none⟩ = some (.slice a kids.length cap) ∧ ∀ i (h : i < kids.length),∃ b' o',a = some ⟨b',o',none⟩ ∧ b' < w.heap.size ∧ ArmAt w b' (o' + i * 6) kids[i]) := by rw [ArmAt]
/-- The value v is a slice of just these arms. -/
def ArmsAt (w : World) (v : Value) (l : List Stil.Arm) : Prop := ∃ a cap,v = .slice a l.length cap ∧ ∀ i (h : i < l.length),∃ b o,a = some ⟨b,o,none⟩ ∧ b < w.heap.size ∧ ArmAt w b (o + i * 6) l[i]
theorem ArmAt.below {w w' : World} (hb : Below w.heap.size w w') : ∀ (n : Stil.Arm) (b o : Nat),ArmAt w b o n → b < w.heap.size → ArmAt w' b o n := by
 intro n
 induction n using Stil.arm_ind with
 | h n coils kids ih =>
  intro b o h hlt
  rw [ArmAt_eq] at h ⊢
  obtain ⟨h1,⟨cv,h3,h4⟩,a,cap,h5,h6⟩ := h
  refine ⟨NetAt.below hb _ _ _ h1 hlt,⟨cv,?_,h4.below hb⟩,a,cap,?_,fun i hi => ?_⟩
  ·rw [hb.cell (p := ⟨b,o + 4,none⟩) hlt]; exact h3
  ·rw [hb.cell (p := ⟨b,o + 5,none⟩) hlt]; exact h5
  ·obtain ⟨b',o',ha,hl',hn⟩ := h6 i hi
   exact ⟨b',o',ha,Nat.lt_of_lt_of_le hl' hb.size,ih _ (List.getElem_mem hi) b' _ hn hl'⟩
theorem ArmsAt.below {w w' : World} {v : Value} {ns : List Stil.Arm} (h : ArmsAt w v ns) (hb : Below w.heap.size w w') : ArmsAt w' v ns := by
 obtain ⟨a,cap,hv,hc⟩ := h
 refine ⟨a,cap,hv,fun i hi => ?_⟩
 obtain ⟨b,o,ha,hlt,hn⟩ := hc i hi
 exact ⟨b,o,ha,Nat.lt_of_lt_of_le hlt hb.size,ArmAt.below hb _ _ _ hn hlt⟩
theorem NetAt.open {w : World} {b o : Nat} {n : Stil.Net} (h : NetAt w b o n) : w.cell? ⟨b,o,none⟩ = some (.int .i64 n.kind) ∧ w.cell? ⟨b,o + 1,none⟩ = some (.int .i64 n.one.op) ∧
   ∃ av kv,w.cell? ⟨b,o + 2,none⟩ = some av ∧ w.cell? ⟨b,o + 3,none⟩ = some kv ∧ DevsAt w av n.one.args ∧ NetsAt w kv n.kids := by
 obtain ⟨k,e,kids⟩ := n
 obtain ⟨h1,h2,⟨av,h3,h4⟩,kv,h5,h6⟩ := (NetAt_iff _ _ _ _ _ _).1 h
 exact ⟨h1,h2,av,kv,h3,h5,h4,h6⟩
theorem ArmAt.open {w : World} {b o : Nat} {n : Stil.Arm} (h : ArmAt w b o n) : NetAt w b o n.net ∧ ∃ cv kv,w.cell? ⟨b,o + 4,none⟩ = some cv ∧ w.cell? ⟨b,o + 5,none⟩ = some kv ∧ ElemsAt w cv n.coils ∧ ArmsAt w kv n.kids := by
 obtain ⟨n,coils,kids⟩ := n
 rw [ArmAt_eq] at h
 obtain ⟨h1,⟨cv,h3,h4⟩,a,cap,h5,h6⟩ := h
 exact ⟨h1,cv,_,h3,h5,h4,a,cap,rfl,h6⟩
theorem cellSetOther {W : World} {b c o p : Nat} {v : Value} (h : c ≠ b) : (W.setCell ⟨b,o,none⟩ v).cell? ⟨c,p,none⟩ = W.cell? ⟨c,p,none⟩ := by
 simp [go_sem]
theorem cellSetOff {W : World} {b o p : Nat} {v : Value} (h : p ≠ o) : (W.setCell ⟨b,o,none⟩ v).cell? ⟨b,p,none⟩ = W.cell? ⟨b,p,none⟩ := by
 simp [go_sem]
theorem cellSetAt {W : World} {b o : Nat} {v u : Value} (h : W.cell? ⟨b,o,none⟩ = some u) : (W.setCell ⟨b,o,none⟩ v).cell? ⟨b,o,none⟩ = some v := by
 simp [go_sem,h]
theorem sizeSet (W : World) (p : Addr) (v : Value) : W.heap.size ≤ (W.setCell p v).heap.size := ((Below.refl 0 W).setCell (Nat.zero_le _) v).size
def DevsFrom (lo : Nat) (w : World) (v : Value) (ds : List Stil.Dev) : Prop := ∃ a cap,v = .slice a ds.length cap ∧ ∀ i (h : i < ds.length),∃ b o,a = some ⟨b,o,none⟩ ∧ lo ≤ b ∧ b < w.heap.size ∧ DevAt w b (o + i * 3) ds[i]
theorem DevsFrom.at {lo : Nat} {w : World} {v : Value} {ds : List Stil.Dev} (h : DevsFrom lo w v ds) : DevsAt w v ds := by
 obtain ⟨a,cap,hv,hc⟩ := h
 refine ⟨a,cap,hv,fun i hi => ?_⟩
 obtain ⟨b,o,ha,hl',hb,hd⟩ := hc i hi
 exact ⟨b,o,ha,hb,hd⟩
theorem DevsFrom.of_owns {w : World} {base : Nat} {v : Value} {ds : List Stil.Dev} (h : w.ownsRow base 42 3 v ds.length (devsCells ds)) : DevsFrom base w v ds := by
 by_cases hd : ds.length = 0
 ·have hn : ds = [] := List.length_eq_zero_iff.1 hd
  subst hn
  rcases h.2 with ⟨h0,_⟩ | ⟨g,cap,cur,hv,_⟩
  ·exact ⟨none,0,h0,fun i hi => by simp at hi⟩
  ·exact ⟨_,cap,hv,fun i hi => by simp at hi⟩
 ·obtain ⟨g,cap,hv,hbase,hlt,_,hc⟩ := ownsRow_cells h (by omega)
  refine ⟨_,cap,hv,fun i hi => ⟨g,0,rfl,hbase,hlt,?_⟩⟩
  obtain ⟨a1,a2,a3⟩ := devsCells_get ds i hi
  unfold DevAt
  rw [Nat.zero_add]
  exact ⟨hc _ _ a1,hc _ _ a2,hc _ _ a3⟩
/-- The net lies at this place,and whatever it holds at or beyond lo. -/
def NetFrom (lo : Nat) (w : World) : Nat → Nat → Stil.Net → Prop
 | b,o,⟨k,e,kids⟩ => w.cell? ⟨b,o,none⟩ = some (.int .i64 k) ∧ w.cell? ⟨b,o + 1,none⟩ = some (.int .i64 e.op) ∧
   (∃ av,w.cell? ⟨b,o + 2,none⟩ = some av ∧ DevsFrom lo w av e.args) ∧
   ∃ a cap,w.cell? ⟨b,o + 3,none⟩ = some (.slice a kids.length cap) ∧ ∀ i (h : i < kids.length),∃ b' o',a = some ⟨b',o',none⟩ ∧ lo ≤ b' ∧ b' < w.heap.size ∧
    (have := List.sizeOf_lt_of_mem (List.getElem_mem h); NetFrom lo w b' (o' + i * 4) kids[i])
theorem NetFrom_eq (lo : Nat) (w : World) (b o : Nat) (k : Int) (e : Stil.Elem) (kids : List Stil.Net) : NetFrom lo w b o ⟨k,e,kids⟩ = (w.cell? ⟨b,o,none⟩ = some (.int .i64 k) ∧ w.cell? ⟨b,o + 1,none⟩ = some (.int .i64 e.op) ∧
   (∃ av,w.cell? ⟨b,o + 2,none⟩ = some av ∧ DevsFrom lo w av e.args) ∧
   ∃ a cap,w.cell? ⟨b,o + 3,none⟩ = some (.slice a kids.length cap) ∧ ∀ i (h : i < kids.length),∃ b' o',a = some ⟨b',o',none⟩ ∧ lo ≤ b' ∧ b' < w.heap.size ∧ NetFrom lo w b' (o' + i * 4) kids[i]) := by rw [NetFrom]
def NetsFrom (lo : Nat) (w : World) (v : Value) (ns : List Stil.Net) : Prop := ∃ a cap,v = .slice a ns.length cap ∧ ∀ i (h : i < ns.length),∃ b o,a = some ⟨b,o,none⟩ ∧ lo ≤ b ∧ b < w.heap.size ∧ NetFrom lo w b (o + i * 4) ns[i]
theorem NetFrom_iff (lo : Nat) (w : World) (b o : Nat) (n : Stil.Net) : NetFrom lo w b o n ↔ (w.cell? ⟨b,o,none⟩ = some (.int .i64 n.kind) ∧ w.cell? ⟨b,o + 1,none⟩ = some (.int .i64 n.one.op) ∧
   (∃ av,w.cell? ⟨b,o + 2,none⟩ = some av ∧ DevsFrom lo w av n.one.args) ∧ ∃ kv,w.cell? ⟨b,o + 3,none⟩ = some kv ∧ NetsFrom lo w kv n.kids) := by
 obtain ⟨k,e,kids⟩ := n
 rw [NetFrom_eq]
 constructor
 ·rintro ⟨h1,h2,h3,a,cap,h4,h5⟩; exact ⟨h1,h2,h3,_,h4,a,cap,rfl,h5⟩
 ·rintro ⟨h1,h2,h3,_,h4,a,cap,rfl,h5⟩; exact ⟨h1,h2,h3,a,cap,h4,h5⟩
theorem NetFrom.at {lo : Nat} {w : World} : ∀ (n : Stil.Net) (b o : Nat),NetFrom lo w b o n → NetAt w b o n := by
 intro n
 induction n using Stil.net_ind with
 | h k e kids ih =>
  intro b o h
  rw [NetFrom_eq] at h
  rw [NetAt_eq]
  obtain ⟨h1,h2,⟨av,h3,h4⟩,a,cap,h5,h6⟩ := h
  refine ⟨h1,h2,⟨av,h3,h4.at⟩,a,cap,h5,fun i hi => ?_⟩
  obtain ⟨b',o',ha,hlo,hl',hn⟩ := h6 i hi
  exact ⟨b',o',ha,hl',ih _ (List.getElem_mem hi) b' _ hn⟩
theorem NetsFrom.at {lo : Nat} {w : World} {v : Value} {ns : List Stil.Net} (h : NetsFrom lo w v ns) : NetsAt w v ns := by
 obtain ⟨a,cap,hv,hc⟩ := h
 refine ⟨a,cap,hv,fun i hi => ?_⟩
 obtain ⟨b,o,ha,hl',hb,hd⟩ := hc i hi
 exact ⟨b,o,ha,hb,NetFrom.at _ _ _ hd⟩
def ElemFrom (lo : Nat) (w : World) (b o : Nat) (e : Stil.Elem) : Prop := w.cell? ⟨b,o,none⟩ = some (.int .i64 e.op) ∧ ∃ av,w.cell? ⟨b,o + 1,none⟩ = some av ∧ DevsFrom lo w av e.args
def ElemsFrom (lo : Nat) (w : World) (v : Value) (es : List Stil.Elem) : Prop := ∃ a cap,v = .slice a es.length cap ∧ ∀ i (h : i < es.length),∃ b o,a = some ⟨b,o,none⟩ ∧ lo ≤ b ∧ b < w.heap.size ∧ ElemFrom lo w b (o + i * 2) es[i]
theorem ElemsFrom.at {lo : Nat} {w : World} {v : Value} {es : List Stil.Elem} (h : ElemsFrom lo w v es) : ElemsAt w v es := by
 obtain ⟨a,cap,hv,hc⟩ := h
 refine ⟨a,cap,hv,fun i hi => ?_⟩
 obtain ⟨b,o,ha,hl',hb,h1,av,h2,h3⟩ := hc i hi
 exact ⟨b,o,ha,hb,h1,av,h2,h3.at⟩
def ArmFrom (lo : Nat) (w : World) : Nat → Nat → Stil.Arm → Prop
 | b,o,⟨n,coils,kids⟩ => NetFrom lo w b o n ∧ (∃ cv,w.cell? ⟨b,o + 4,none⟩ = some cv ∧ ElemsFrom lo w cv coils) ∧
   ∃ a cap,w.cell? ⟨b,o + 5,none⟩ = some (.slice a kids.length cap) ∧ ∀ i (h : i < kids.length),∃ b' o',a = some ⟨b',o',none⟩ ∧ lo ≤ b' ∧ b' < w.heap.size ∧
    (have := List.sizeOf_lt_of_mem (List.getElem_mem h); ArmFrom lo w b' (o' + i * 6) kids[i])
theorem ArmFrom_eq (lo : Nat) (w : World) (b o : Nat) (n : Stil.Net) (coils : List Stil.Elem) (kids : List Stil.Arm) : ArmFrom lo w b o ⟨n,coils,kids⟩ = (NetFrom lo w b o n ∧ (∃ cv,w.cell? ⟨b,o + 4,none⟩ = some cv ∧ ElemsFrom lo w cv coils) ∧
   ∃ a cap,w.cell? ⟨b,o + 5,none⟩ = some (.slice a kids.length cap) ∧ ∀ i (h : i < kids.length),∃ b' o',a = some ⟨b',o',none⟩ ∧ lo ≤ b' ∧ b' < w.heap.size ∧ ArmFrom lo w b' (o' + i * 6) kids[i]) := by rw [ArmFrom]
def ArmsFrom (lo : Nat) (w : World) (v : Value) (l : List Stil.Arm) : Prop := ∃ a cap,v = .slice a l.length cap ∧ ∀ i (h : i < l.length),∃ b o,a = some ⟨b,o,none⟩ ∧ lo ≤ b ∧ b < w.heap.size ∧ ArmFrom lo w b (o + i * 6) l[i]
theorem ArmFrom_iff (lo : Nat) (w : World) (b o : Nat) (n : Stil.Arm) : ArmFrom lo w b o n ↔ (NetFrom lo w b o n.net ∧ (∃ cv,w.cell? ⟨b,o + 4,none⟩ = some cv ∧ ElemsFrom lo w cv n.coils) ∧ ∃ kv,w.cell? ⟨b,o + 5,none⟩ = some kv ∧ ArmsFrom lo w kv n.kids) := by
 obtain ⟨k,e,kids⟩ := n
 rw [ArmFrom_eq]
 constructor
 ·rintro ⟨h1,h3,a,cap,h4,h5⟩; exact ⟨h1,h3,_,h4,a,cap,rfl,h5⟩
 ·rintro ⟨h1,h3,_,h4,a,cap,rfl,h5⟩; exact ⟨h1,h3,a,cap,h4,h5⟩
theorem ArmFrom.at {lo : Nat} {w : World} : ∀ (n : Stil.Arm) (b o : Nat),ArmFrom lo w b o n → ArmAt w b o n := by
 intro n
 induction n using Stil.arm_ind with
 | h n coils kids ih =>
  intro b o h
  rw [ArmFrom_eq] at h
  rw [ArmAt_eq]
  obtain ⟨h1,⟨cv,h3,h4⟩,a,cap,h5,h6⟩ := h
  refine ⟨NetFrom.at _ _ _ h1,⟨cv,h3,h4.at⟩,a,cap,h5,fun i hi => ?_⟩
  obtain ⟨b',o',ha,hlo,hl',hn⟩ := h6 i hi
  exact ⟨b',o',ha,hl',ih _ (List.getElem_mem hi) b' _ hn⟩
theorem ArmsFrom.at {lo : Nat} {w : World} {v : Value} {ns : List Stil.Arm} (h : ArmsFrom lo w v ns) : ArmsAt w v ns := by
 obtain ⟨a,cap,hv,hc⟩ := h
 refine ⟨a,cap,hv,fun i hi => ?_⟩
 obtain ⟨b,o,ha,hl',hb,hd⟩ := hc i hi
 exact ⟨b,o,ha,hb,ArmFrom.at _ _ _ hd⟩
/-- All blocks of cells but those of C are kept. -/
structure KeepC (C : Nat → Prop) (W W' : World) : Prop where
 size : W.heap.size ≤ W'.heap.size
 same : ∀ (k : Nat) (o : Obj),¬ C k → W.heap[k]? = some o → o.isCells = true → W'.heap[k]? = some o
theorem KeepC.refl (C : Nat → Prop) (W : World) : KeepC C W W := ⟨Nat.le_refl _,fun _ _ _ h _ => h⟩
theorem KeepC.trans {C : Nat → Prop} {X Y Z : World} (h : KeepC C X Y) (k : KeepC C Y Z) : KeepC C X Z := ⟨Nat.le_trans h.size k.size,fun i o hc hi ho => k.same i o hc (h.same i o hc hi ho) ho⟩
theorem KeepC.of_below {C : Nat → Prop} {W W' : World} (h : Below W.heap.size W W') : KeepC C W W' :=
 ⟨h.size,fun k _ _ hk _ => (h.block k (Array.getElem?_eq_some_iff.1 hk).1).trans hk⟩
theorem KeepC.drew {C : Nat → Prop} {W W' : World} (h : KeepC C W W') : KeepC C W W'.drew := ⟨h.size,h.same⟩
theorem KeepC.call {C : Nat → Prop} {W X Y : World} (h : KeepC C W X) (hb : Below X.heap.size X Y) : KeepC C W Y := h.trans (.of_below hb)
theorem KeepC.set {C : Nat → Prop} {W W' : World} {b o : Nat} (h : KeepC C W W') (hb : C b) (v : Value) : KeepC C W (W'.setCell ⟨b,o,none⟩ v) :=
 h.trans ⟨by simp [World.setCell],fun k _ hc hk _ => (Below.heap_setCell W' ⟨b,o,none⟩ v k (fun e => hc (by rw [e]; exact hb))).trans hk⟩
theorem KeepC.putObj {C : Nat → Prop} (W : World) {l : Nat} {o : Obj} (o' : Obj) (h : W.heap[l]? = some o) (ho : o.isCells = false) : KeepC C W (W.putObj l o') :=
 ⟨by simp [World.putObj],fun k p _ hk hp => by
  by_cases e : k = l
  ·subst e
   rw [h] at hk
   cases hk
   rw [ho] at hp
   cases hp
  ·rw [World.putObj_heap_other e]; exact hk⟩
theorem KeepC.cell {C : Nat → Prop} {W W' : World} (h : KeepC C W W') {b o : Nat} {v : Value} (hb : ¬ C b) (hc : W.cell? ⟨b,o,none⟩ = some v) : W'.cell? ⟨b,o,none⟩ = some v := by
 obtain ⟨p,hp,hq⟩ := cells_of_cell hc
 exact (World.cell?_of_block (w := W) ((h.same b p hb hp hq).trans hp.symm)).trans hc
theorem lt_of_cell3 {W : World} {b o : Nat} {v : Value} (h : W.cell? ⟨b,o,none⟩ = some v) : b < W.heap.size := by
 obtain ⟨p,hp,_⟩ := cells_of_cell h
 exact (Array.getElem?_eq_some_iff.1 hp).1
/-- What a round that goes on keeps. -/
def Kept (n₀ : Nat) (C : Nat → Prop) (W W' : World) : Prop := Below n₀ W W' ∧ KeepC C W W'
theorem Kept.t {n₀ : Nat} {C : Nat → Prop} {X Y Z : World} (h : Kept n₀ C X Y) (k : Kept n₀ C Y Z) : Kept n₀ C X Z := ⟨h.1.trans k.1,h.2.trans k.2⟩
theorem Kept.b {n₀ : Nat} {C : Nat → Prop} {w : World} (hn : n₀ ≤ w.heap.size) (W : World) (l : Nat) (o o' : Obj) (hl : w.heap.size ≤ l) (h : W.heap[l]? = some o) (hc : o.isCells = false) (hw : o.isWalk = false) : Kept n₀ C W (W.putObj l o') :=
 ⟨belowK_b hn W l o o' hl h hc hw,KeepC.putObj W o' h hc⟩
theorem Kept.refl (n₀ : Nat) (C : Nat → Prop) (W : World) : Kept n₀ C W W := ⟨Below.refl _ _,KeepC.refl _ _⟩
theorem Kept.of_below {n₀ : Nat} {C : Nat → Prop} {W W' : World} (hn : n₀ ≤ W.heap.size) (h : Below W.heap.size W W') : Kept n₀ C W W' := ⟨h.mono hn,.of_below h⟩
/-- A net that was handed out: its lists lie in w. -/
structure NetV (w : World) (P : Stil.Net → Prop) where
 net : Stil.Net
 av : Value
 kv : Value
 hav : DevsAt w av net.one.args
 hkv : NetsAt w kv net.kids
 mem : P net
/-- An arm that was handed out: its lists lie in w. -/
structure ArmV (w : World) (P : Stil.Arm → Prop) where
 arm : Stil.Arm
 av : Value
 nv : Value
 cv : Value
 kv : Value
 hav : DevsAt w av arm.net.one.args
 hnv : NetsAt w nv arm.net.kids
 hcv : ElemsAt w cv arm.coils
 hkv : ArmsAt w kv arm.kids
 mem : P arm
/-- A slice of nets in W,not in C,whose lists lie in w. -/
def NetsSeen (w : World) (C : Nat → Prop) (W : World) (v : Value) (l : List Stil.Net) : Prop := ∃ a cap,v = .slice a l.length cap ∧ ∀ i (h : i < l.length),∃ b o,a = some ⟨b,o,none⟩ ∧ ¬ C b ∧
 ∃ av kv,W.cell? ⟨b,o + i * 4,none⟩ = some (.int .i64 l[i].kind) ∧ W.cell? ⟨b,o + i * 4 + 1,none⟩ = some (.int .i64 l[i].one.op) ∧ W.cell? ⟨b,o + i * 4 + 2,none⟩ = some av ∧ W.cell? ⟨b,o + i * 4 + 3,none⟩ = some kv ∧ DevsAt w av l[i].one.args ∧ NetsAt w kv l[i].kids
theorem NetsSeen.keep {w : World} {C : Nat → Prop} {W W' : World} {v : Value} {l : List Stil.Net} (h : NetsSeen w C W v l) (hk : KeepC C W W') : NetsSeen w C W' v l := by
 obtain ⟨a,cap,hv,hc⟩ := h
 refine ⟨a,cap,hv,fun i hi => ?_⟩
 obtain ⟨b,o,ha,hb,av,kv,x0,x1,x2,x3,h1,h2⟩ := hc i hi
 exact ⟨b,o,ha,hb,av,kv,hk.cell hb x0,hk.cell hb x1,hk.cell hb x2,hk.cell hb x3,h1,h2⟩
theorem NetsSeen.of_at {w : World} {C : Nat → Prop} {W : World} {v : Value} {l : List Stil.Net} (h : NetsAt w v l) (hb : Below w.heap.size w W) (hC : ∀ k,C k → w.heap.size ≤ k) : NetsSeen w C W v l := by
 obtain ⟨a,cap,hv,hc⟩ := h
 refine ⟨a,cap,hv,fun i hi => ?_⟩
 obtain ⟨b,o,ha,hlt,hn⟩ := hc i hi
 obtain ⟨x0,x1,av,kv,x2,x3,h1,h2⟩ := hn.open
 exact ⟨b,o,ha,fun h => by have := hC b h; omega,av,kv,(hb.cell (p := ⟨b,_,none⟩) hlt).trans x0,(hb.cell (p := ⟨b,_,none⟩) hlt).trans x1,(hb.cell (p := ⟨b,_,none⟩) hlt).trans x2,(hb.cell (p := ⟨b,_,none⟩) hlt).trans x3,h1,h2⟩
/-- A slice of arms in W,not in C,whose lists lie in w. -/
def ArmsSeen (w : World) (C : Nat → Prop) (W : World) (v : Value) (l : List Stil.Arm) : Prop := ∃ a cap,v = .slice a l.length cap ∧ ∀ i (h : i < l.length),∃ b o,a = some ⟨b,o,none⟩ ∧ ¬ C b ∧
 ∃ av nv cv kv,W.cell? ⟨b,o + i * 6,none⟩ = some (.int .i64 l[i].net.kind) ∧ W.cell? ⟨b,o + i * 6 + 1,none⟩ = some (.int .i64 l[i].net.one.op) ∧ W.cell? ⟨b,o + i * 6 + 2,none⟩ = some av ∧ W.cell? ⟨b,o + i * 6 + 3,none⟩ = some nv ∧
  W.cell? ⟨b,o + i * 6 + 4,none⟩ = some cv ∧ W.cell? ⟨b,o + i * 6 + 5,none⟩ = some kv ∧ DevsAt w av l[i].net.one.args ∧ NetsAt w nv l[i].net.kids ∧ ElemsAt w cv l[i].coils ∧ ArmsAt w kv l[i].kids
theorem ArmsSeen.keep {w : World} {C : Nat → Prop} {W W' : World} {v : Value} {l : List Stil.Arm} (h : ArmsSeen w C W v l) (hk : KeepC C W W') : ArmsSeen w C W' v l := by
 obtain ⟨a,cap,hv,hc⟩ := h
 refine ⟨a,cap,hv,fun i hi => ?_⟩
 obtain ⟨b,o,ha,hb,av,nv,cv,kv,x0,x1,x2,x3,x4,x5,h1⟩ := hc i hi
 exact ⟨b,o,ha,hb,av,nv,cv,kv,hk.cell hb x0,hk.cell hb x1,hk.cell hb x2,hk.cell hb x3,hk.cell hb x4,hk.cell hb x5,h1⟩
theorem ArmsSeen.of_at {w : World} {C : Nat → Prop} {W : World} {v : Value} {l : List Stil.Arm} (h : ArmsAt w v l) (hb : Below w.heap.size w W) (hC : ∀ k,C k → w.heap.size ≤ k) : ArmsSeen w C W v l := by
 obtain ⟨a,cap,hv,hc⟩ := h
 refine ⟨a,cap,hv,fun i hi => ?_⟩
 obtain ⟨b,o,ha,hlt,hn⟩ := hc i hi
 obtain ⟨hna,cv,kv,x4,x5,h3,h4⟩ := hn.open
 obtain ⟨x0,x1,av,nv,x2,x3,h1,h2⟩ := hna.open
 exact ⟨b,o,ha,fun h => by have := hC b h; omega,av,nv,cv,kv,(hb.cell (p := ⟨b,_,none⟩) hlt).trans x0,(hb.cell (p := ⟨b,_,none⟩) hlt).trans x1,(hb.cell (p := ⟨b,_,none⟩) hlt).trans x2,(hb.cell (p := ⟨b,_,none⟩) hlt).trans x3,(hb.cell (p := ⟨b,_,none⟩) hlt).trans x4,(hb.cell (p := ⟨b,_,none⟩) hlt).trans x5,h1,h2,h3,h4⟩
theorem kf_set {B : Nat} {W X : World} (h : KeepsFrom B W X) (p : Addr) (v : Value) : KeepsFrom B W (X.setCell p v) := h.trans ((KeepsOthers.setCell X p v).from B)
theorem kf_call {B : Nat} {W X Y : World} (h : KeepsFrom B W X) (hb : Below X.heap.size X Y) : KeepsFrom B W Y := h.trans ⟨hb.size,fun k _ _ hk _ => (hb.block k (Array.getElem?_eq_some_iff.1 hk).1).trans hk⟩
theorem kf_drew {B : Nat} {W X : World} (h : KeepsFrom B W X) : KeepsFrom B W X.drew := h.trans ((KeepsOthers.drew X).from B)
theorem kp_set {n₀ : Nat} {C : Nat → Prop} {W X : World} {b o : Nat} (h : Kept n₀ C W X) (hb : n₀ ≤ b) (hc : C b) (v : Value) : Kept n₀ C W (X.setCell ⟨b,o,none⟩ v) := ⟨h.1.setCell (p := ⟨b,o,none⟩) hb v,h.2.set hc v⟩
theorem kp_call {n₀ : Nat} {C : Nat → Prop} {W X Y : World} (h : Kept n₀ C W X) (hn : n₀ ≤ W.heap.size) (hb : Below X.heap.size X Y) : Kept n₀ C W Y := h.t (Kept.of_below (Nat.le_trans hn h.2.size) hb)
theorem kp_drew {n₀ : Nat} {C : Nat → Prop} {W X : World} (h : Kept n₀ C W X) : Kept n₀ C W X.drew := ⟨h.1.drew,h.2.drew⟩
theorem cell_alloc_keep {W : World} {b o : Nat} {v : Value} (ob : Obj) (h : W.cell? ⟨b,o,none⟩ = some v) : (W.alloc ob).cell? ⟨b,o,none⟩ = some v := ((below_alloc W ob).cell (p := ⟨b,o,none⟩) (lt_of_cell3 h)).trans h
theorem frozen_alloc_keep {W : World} {b o : Nat} {v : Value} (ob : Obj) (h : W.cell? ⟨b,o,none⟩ = some v) (hf : W.frozen? ⟨b,o,none⟩ = false) : (W.alloc ob).frozen? ⟨b,o,none⟩ = false := ((below_alloc W ob).frozen (p := ⟨b,o,none⟩) (lt_of_cell3 h)).trans hf
theorem share {T G : Prop} (hf : T → G) (ht : T) : G := hf ht
theorem room_of_none {F : Fence} (hd : F.depth = none) (k : Nat) : F.room k := fun d h => by rw [hd] at h; cases h
theorem RoundIn.anyDepth {F : Fence} (hd : F.depth = none) {m m' : Nat} {P : Program} {l : Nat} {f : FuncId} {tmps : Array Value} {assign body : Code} {w : World} {R : Ending → World → Prop}
  (h : RoundIn F m P l f tmps assign body w R) : RoundIn F m' P l f tmps assign body w R := ⟨h.1,fun c cs _ => h.2 c cs (room_of_none hd _)⟩
theorem YieldAt.anyDepth {F : Fence} (hd : F.depth = none) {m : Nat} (m' : Nat) {P : Program} {l : Nat} {args : Array Value} {W : World} {R : Ending → World → Prop} (h : YieldAt F m P l args W R) : YieldAt F m' P l args W R := by
 obtain ⟨fn,tmps,assign,body,hy,hR⟩ := h
 exact ⟨fn,tmps,assign,body,hy,RoundIn.anyDepth hd hR⟩
end Go.Proofs.YtenoanhonjdpjaaGreatDoor
