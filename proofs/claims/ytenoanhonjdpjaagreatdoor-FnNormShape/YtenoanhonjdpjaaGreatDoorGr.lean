/- Z1,Z2,Z3,Z4,Z5,Z5b: texts put together. -/
import Derived.Test.YtenoanhonjdpjaaGreatDoorY6b
/- Coils and arms in memory of their own: trees of what lies where. -/
namespace Go.Proofs.YtenoanhonjdpjaaGreatDoor
open Go.RowKit Go.Sort Go.BigFrame
/-- A coil,with the value of its operands' row. -/
structure MElem where
 op : Int
 ds : List Stil.Dev
 av : Value
def MElem.elem (m : MElem) : Stil.Elem := ⟨m.op,m.ds⟩
def eVals (es : List MElem) : List Value := es.map MElem.av
def MElem.cells (m : MElem) : List Value := [.int .i64 m.op,m.av]
def eCells (es : List MElem) : List Value := es.flatMap MElem.cells
theorem eCells_append (a b : List MElem) : eCells (a ++ b) = eCells a ++ eCells b := by simp [eCells]
theorem eVals_append (a b : List MElem) : eVals (a ++ b) = eVals a ++ eVals b := by simp [eVals]
theorem mem_eVals {es : List MElem} {x : Value} : x ∈ eVals es ↔ ∃ m ∈ es,m.av = x := by simp [eVals]
theorem eCells_len (es : List MElem) : (eCells es).length = es.length * 2 := by
 induction es with
 | nil => rfl
 | cons m r ih =>
  have e : eCells (m :: r) = m.cells ++ eCells r := rfl
  rw [e,List.length_append,ih]
  simp [MElem.cells]; omega
theorem eCells_get : ∀ (es : List MElem) (i : Nat) (h : i < es.length),(eCells es)[i * 2]? = some (.int .i64 es[i].op) ∧ (eCells es)[i * 2 + 1]? = some es[i].av
 | [],_,h => by simp at h
 | m :: r,0,_ => ⟨rfl,rfl⟩
 | m :: r,i + 1,h => by
  obtain ⟨a1,a2⟩ := eCells_get r i (by simpa using h)
  have e : eCells (m :: r) = .int .i64 m.op :: m.av :: eCells r := rfl
  have e1 : (i + 1) * 2 = i * 2 + 1 + 1 := by omega
  rw [e,e1]
  exact ⟨by simpa using a1,by simpa using a2⟩
def EOk (w : World) (base : Nat) (m : MElem) : Prop := w.ownsRow base 42 3 m.av m.ds.length (devsCells m.ds)
/-- A row of coils in memory of its own. -/
def ERow (w : World) (base : Nat) (v : Value) (es : List MElem) : Prop := w.ownsRow base 30 2 v es.length (eCells es) ∧ (∀ m ∈ es,EOk w base m) ∧ (v :: eVals es).Pairwise Aside
theorem ERow.nil (w : World) (base : Nat) : ERow w base (.slice none 0 0) [] := ⟨World.ownsRow_nil _ _ _ _,(fun m hm => by cases hm),List.pairwise_singleton _ _⟩
theorem ERow.below {w w' : World} {base : Nat} {v : Value} {es : List MElem} (h : ERow w base v es) (hb : Below w.heap.size w w') : ERow w' base v es := ⟨ownsRow_below h.1 hb,fun m hm => ownsRow_below (h.2.1 m hm) hb,h.2.2⟩
theorem ERow.le {w : World} {base base' : Nat} {v : Value} {es : List MElem} (h : ERow w base v es) (hl : base' <= base) : ERow w base' v es := ⟨Joins.ownsRow_le h.1 hl,fun m hm => Joins.ownsRow_le (h.2.1 m hm) hl,h.2.2⟩
theorem ERow.lt {w : World} {base : Nat} {v : Value} {es : List MElem} (h : ERow w base v es) : ∀ x ∈ v :: eVals es,∀ k,x.ownBlock = some k -> base <= k ∧ k < w.heap.size := by
 intro x hx k hk
 rcases List.mem_cons.1 hx with rfl | hx
 ·exact h.1.lt k hk
 ·obtain ⟨m,hm,rfl⟩ := mem_eVals.1 hx
  exact (h.2.1 m hm).lt k hk
theorem ERow.add {w w' : World} {base : Nat} {v v' : Value} {es ks : List MElem} (h : ERow w base v es) (hk : ∀ m ∈ ks,EOk w base m) (hp : (v :: (eVals es ++ eVals ks)).Pairwise Aside)
  (hown : w'.ownsRow base 30 2 v' (es.length + ks.length) (eCells es ++ eCells ks)) (hg : w.grownBy w' v.ownBlock) (hat : v'.ownBlock = v.ownBlock ∨ v'.ownBlock = some w.heap.size) : ERow w' base v' (es ++ ks) := by
 rw [List.pairwise_cons] at hp
 have hkl : ∀ x ∈ eVals es ++ eVals ks,∀ k,x.ownBlock = some k -> k < w.heap.size := by
  intro x hx k hk2
  rcases List.mem_append.1 hx with hx | hx
  ·exact (h.lt x (List.mem_cons_of_mem _ hx) k hk2).2
  ·obtain ⟨m,hm,rfl⟩ := mem_eVals.1 hx
   exact ((hk m hm).lt k hk2).2
 refine ⟨by rw [List.length_append,eCells_append]; exact hown,fun m hm => ?_,?_⟩
 ·rcases List.mem_append.1 hm with hm | hm
  ·exact (h.2.1 m hm).kept hg (hp.1 _ (List.mem_append_left _ (mem_eVals.2 ⟨m,hm,rfl⟩))).symm
  ·exact (hk m hm).kept hg (hp.1 _ (List.mem_append_right _ (mem_eVals.2 ⟨m,hm,rfl⟩))).symm
 ·rw [eVals_append,List.pairwise_cons]
  refine ⟨fun y hy => ?_,hp.2⟩
  rcases hat with e | e
  ·rcases hp.1 y hy with h0 | h0
   ·exact .inl (by rw [e]; exact h0)
   ·exact .inr (by rw [e]; exact h0)
  ·refine .inr (fun e2 => ?_)
   rw [e] at e2
   have := hkl y hy _ e2.symm
   omega
/-- An arm,with the values of its rows. -/
structure MArm where
 net : MNet
 cv : Value
 coils : List MElem
 kv : Value
 kids : List MArm
theorem marm_ind (P : MArm -> Prop) (h : ∀ n cv cs kv kids,(∀ x ∈ kids,P x) -> P ⟨n,cv,cs,kv,kids⟩) : ∀ n,P n
 | ⟨n,cv,cs,kv,kids⟩ => h n cv cs kv kids (fun x _ => marm_ind P h x)
def MArm.arm : MArm -> Stil.Arm
 | ⟨n,_,cs,_,kids⟩ => ⟨n.net,cs.map MElem.elem,kids.map MArm.arm⟩
theorem MArm.arm_eq (m : MArm) : m.arm = ⟨m.net.net,m.coils.map MElem.elem,m.kids.map MArm.arm⟩ := by obtain ⟨n,cv,cs,kv,kids⟩ := m; rw [MArm.arm]
def MArm.vals : MArm -> List Value
 | ⟨n,cv,cs,kv,kids⟩ => n.vals ++ ((cv :: eVals cs) ++ (kv :: (kids.map MArm.vals).flatten))
def aVals (ars : List MArm) : List Value := (ars.map MArm.vals).flatten
theorem MArm.vals_eq (m : MArm) : m.vals = m.net.vals ++ ((m.cv :: eVals m.coils) ++ (m.kv :: aVals m.kids)) := by obtain ⟨n,cv,cs,kv,kids⟩ := m; rw [MArm.vals]; rfl
theorem aVals_append (a b : List MArm) : aVals (a ++ b) = aVals a ++ aVals b := by simp [aVals]
theorem aVals_one (m : MArm) : aVals [m] = m.vals := by simp [aVals]
theorem mem_aVals {ars : List MArm} {x : Value} : x ∈ aVals ars ↔ ∃ m ∈ ars,x ∈ m.vals := by
 simp only [aVals,List.mem_flatten,List.mem_map]
 constructor
 ·rintro ⟨_,⟨m,hm,rfl⟩,hx⟩; exact ⟨m,hm,hx⟩
 ·rintro ⟨m,hm,hx⟩; exact ⟨_,⟨m,hm,rfl⟩,hx⟩
def MArm.cells (m : MArm) : List Value := [.int .i64 m.net.kind,.int .i64 m.net.op,m.net.av,m.net.kv,m.cv,m.kv]
def aCells (ars : List MArm) : List Value := ars.flatMap MArm.cells
theorem aCells_append (a b : List MArm) : aCells (a ++ b) = aCells a ++ aCells b := by simp [aCells]
theorem aCells_len (ars : List MArm) : (aCells ars).length = ars.length * 6 := by
 induction ars with
 | nil => rfl
 | cons m r ih =>
  have e : aCells (m :: r) = m.cells ++ aCells r := rfl
  rw [e,List.length_append,ih]
  simp [MArm.cells]; omega
theorem aCells_get : ∀ (ars : List MArm) (i : Nat) (h : i < ars.length),(aCells ars)[i * 6]? = some (.int .i64 ars[i].net.kind) ∧ (aCells ars)[i * 6 + 1]? = some (.int .i64 ars[i].net.op) ∧ (aCells ars)[i * 6 + 2]? = some ars[i].net.av ∧ (aCells ars)[i * 6 + 3]? = some ars[i].net.kv ∧ (aCells ars)[i * 6 + 4]? = some ars[i].cv ∧ (aCells ars)[i * 6 + 5]? = some ars[i].kv
 | [],_,h => by simp at h
 | m :: r,0,_ => ⟨rfl,rfl,rfl,rfl,rfl,rfl⟩
 | m :: r,i + 1,h => by
  obtain ⟨a1,a2,a3,a4,a5,a6⟩ := aCells_get r i (by simpa using h)
  have e : aCells (m :: r) = .int .i64 m.net.kind :: .int .i64 m.net.op :: m.net.av :: m.net.kv :: m.cv :: m.kv :: aCells r := rfl
  have e1 : (i + 1) * 6 = i * 6 + 1 + 1 + 1 + 1 + 1 + 1 := by omega
  rw [e,e1]
  exact ⟨by simpa using a1,by simpa using a2,by simpa using a3,by simpa using a4,by simpa using a5,by simpa using a6⟩
/-- The arm owns its memory. -/
def AOk (w : World) (base : Nat) : MArm -> Prop
 | ⟨n,cv,cs,kv,kids⟩ => MOk w base n ∧ (w.ownsRow base 30 2 cv cs.length (eCells cs) ∧ ∀ m ∈ cs,EOk w base m) ∧ w.ownsRow base 36 6 kv kids.length (aCells kids) ∧ ∀ p ∈ kids.map (AOk w base),p
theorem AOk_iff (w : World) (base : Nat) (m : MArm) : AOk w base m ↔ MOk w base m.net ∧ (w.ownsRow base 30 2 m.cv m.coils.length (eCells m.coils) ∧ ∀ x ∈ m.coils,EOk w base x) ∧ w.ownsRow base 36 6 m.kv m.kids.length (aCells m.kids) ∧ ∀ x ∈ m.kids,AOk w base x := by
 obtain ⟨n,cv,cs,kv,kids⟩ := m
 rw [AOk,Stil.all_map]
theorem AOk.map {w w' : World} {base base' : Nat} (m : MArm) (h : AOk w base m) (hk : ∀ (e : TypeId) (s n : Nat) (v : Value) (xs : List Value),v ∈ m.vals -> w.ownsRow base e s v n xs -> w'.ownsRow base' e s v n xs) : AOk w' base' m := by
 revert h hk
 refine marm_ind (fun m => AOk w base m -> (∀ (e : TypeId) (s n : Nat) (v : Value) (xs : List Value),v ∈ m.vals -> w.ownsRow base e s v n xs -> w'.ownsRow base' e s v n xs) -> AOk w' base' m) ?_ m
 intro n cv cs kv kids ih h hk
 rw [AOk_iff] at h ⊢
 simp only [MArm.vals_eq] at hk
 obtain ⟨h1,⟨h2,h3⟩,h4,h5⟩ := h
 refine ⟨MOk.map n h1 (fun e s k v xs hv => hk e s k v xs (List.mem_append_left _ hv)),⟨hk _ _ _ _ _ (by simp) h2,fun x hx => hk _ _ _ _ _ ?_ (h3 x hx)⟩,hk _ _ _ _ _ (by simp) h4,fun x hx => ih x hx (h5 x hx) (fun e s k v xs hv => hk e s k v xs ?_)⟩
 ·exact List.mem_append_right _ (List.mem_append_left _ (List.mem_cons_of_mem _ (mem_eVals.2 ⟨x,hx,rfl⟩)))
 ·exact List.mem_append_right _ (List.mem_append_right _ (List.mem_cons_of_mem _ (mem_aVals.2 ⟨x,hx,hv⟩)))
theorem AOk.below {w w' : World} {base : Nat} {m : MArm} (h : AOk w base m) (hb : Below w.heap.size w w') : AOk w' base m := AOk.map m h (fun _ _ _ _ _ _ ho => ownsRow_below ho hb)
theorem AOk.kept {w w' : World} {base : Nat} {m : MArm} {x : Value} (h : AOk w base m) (hg : w.grownBy w' x.ownBlock) (ha : ∀ u ∈ m.vals,Aside u x) : AOk w' base m := AOk.map m h (fun _ _ _ _ _ hv ho => ho.kept hg (ha _ hv))
theorem AOk.le {w : World} {base base' : Nat} {m : MArm} (h : AOk w base m) (hl : base' <= base) : AOk w base' m := AOk.map m h (fun _ _ _ _ _ _ ho => Joins.ownsRow_le ho hl)
theorem AOk.lt {w : World} {base : Nat} (m : MArm) (h : AOk w base m) : ∀ x ∈ m.vals,∀ k,x.ownBlock = some k -> base <= k ∧ k < w.heap.size := by
 revert h
 refine marm_ind (fun m => AOk w base m -> ∀ x ∈ m.vals,∀ k,x.ownBlock = some k -> base <= k ∧ k < w.heap.size) ?_ m
 intro n cv cs kv kids ih h x hx j hj
 rw [AOk_iff] at h
 obtain ⟨h1,⟨h2,h3⟩,h4,h5⟩ := h
 rw [MArm.vals_eq] at hx
 simp only [List.mem_append,List.mem_cons] at hx
 rcases hx with hx | (rfl | hx) | rfl | hx
 ·exact h1.lt _ x hx j hj
 ·exact h2.lt j hj
 ·obtain ⟨y,hy,rfl⟩ := mem_eVals.1 hx
  exact (h3 y hy).lt j hj
 ·exact h4.lt j hj
 ·obtain ⟨y,hy,hx⟩ := mem_aVals.1 hx
  exact ih y hy (h5 y hy) x hx j hj
def AOwn (w : World) (base : Nat) (m : MArm) : Prop := AOk w base m ∧ m.vals.Pairwise Aside
theorem AOwn.below {w w' : World} {base : Nat} {m : MArm} (h : AOwn w base m) (hb : Below w.heap.size w w') : AOwn w' base m := ⟨h.1.below hb,h.2⟩
theorem AOwn.le {w : World} {base base' : Nat} {m : MArm} (h : AOwn w base m) (hl : base' <= base) : AOwn w base' m := ⟨h.1.le hl,h.2⟩
/-- A row of arms in memory of its own. -/
def ARow (w : World) (base : Nat) (v : Value) (ars : List MArm) : Prop := w.ownsRow base 36 6 v ars.length (aCells ars) ∧ (∀ m ∈ ars,AOk w base m) ∧ (v :: aVals ars).Pairwise Aside
theorem ARow.nil (w : World) (base : Nat) : ARow w base (.slice none 0 0) [] := ⟨World.ownsRow_nil _ _ _ _,(fun m hm => by cases hm),List.pairwise_singleton _ _⟩
theorem ARow.below {w w' : World} {base : Nat} {v : Value} {ars : List MArm} (h : ARow w base v ars) (hb : Below w.heap.size w w') : ARow w' base v ars := ⟨ownsRow_below h.1 hb,fun m hm => (h.2.1 m hm).below hb,h.2.2⟩
theorem ARow.le {w : World} {base base' : Nat} {v : Value} {ars : List MArm} (h : ARow w base v ars) (hl : base' <= base) : ARow w base' v ars := ⟨Joins.ownsRow_le h.1 hl,fun m hm => (h.2.1 m hm).le hl,h.2.2⟩
theorem ARow.lt {w : World} {base : Nat} {v : Value} {ars : List MArm} (h : ARow w base v ars) : ∀ x ∈ v :: aVals ars,∀ k,x.ownBlock = some k -> base <= k ∧ k < w.heap.size := by
 intro x hx k hk
 rcases List.mem_cons.1 hx with rfl | hx
 ·exact h.1.lt k hk
 ·obtain ⟨m,hm,hx⟩ := mem_aVals.1 hx
  exact (h.2.1 m hm).lt m x hx k hk
theorem ARow.add {w w' : World} {base : Nat} {v v' : Value} {ars ks : List MArm} (h : ARow w base v ars) (hk : ∀ m ∈ ks,AOk w base m) (hp : (v :: (aVals ars ++ aVals ks)).Pairwise Aside)
  (hown : w'.ownsRow base 36 6 v' (ars.length + ks.length) (aCells ars ++ aCells ks)) (hg : w.grownBy w' v.ownBlock) (hat : v'.ownBlock = v.ownBlock ∨ v'.ownBlock = some w.heap.size) : ARow w' base v' (ars ++ ks) := by
 rw [List.pairwise_cons] at hp
 have hkl : ∀ x ∈ aVals ars ++ aVals ks,∀ k,x.ownBlock = some k -> k < w.heap.size := by
  intro x hx k hk2
  rcases List.mem_append.1 hx with hx | hx
  ·exact (h.lt x (List.mem_cons_of_mem _ hx) k hk2).2
  ·obtain ⟨m,hm,hx⟩ := mem_aVals.1 hx
   exact ((hk m hm).lt m x hx k hk2).2
 refine ⟨by rw [List.length_append,aCells_append]; exact hown,fun m hm => ?_,?_⟩
 ·rcases List.mem_append.1 hm with hm | hm
  ·exact (h.2.1 m hm).kept hg (fun u hu => (hp.1 u (List.mem_append_left _ (mem_aVals.2 ⟨m,hm,hu⟩))).symm)
  ·exact (hk m hm).kept hg (fun u hu => (hp.1 u (List.mem_append_right _ (mem_aVals.2 ⟨m,hm,hu⟩))).symm)
 ·rw [aVals_append,List.pairwise_cons]
  refine ⟨fun y hy => ?_,hp.2⟩
  rcases hat with e | e
  ·rcases hp.1 y hy with h0 | h0
   ·exact .inl (by rw [e]; exact h0)
   ·exact .inr (by rw [e]; exact h0)
  ·refine .inr (fun e2 => ?_)
   rw [e] at e2
   have := hkl y hy _ e2.symm
   omega
theorem ARow.apart {w w1 : World} {base : Nat} {v : Value} {ars ks : List MArm} {b1 : Nat} (h : ARow w base v ars) (hk : ∀ m ∈ ks,AOk w1 b1 m) (hb : w.heap.size <= b1) (hp : (aVals ks).Pairwise Aside) : (v :: (aVals ars ++ aVals ks)).Pairwise Aside := by
 have hx := h.lt
 have hy : ∀ y ∈ aVals ks,∀ k,y.ownBlock = some k -> w.heap.size <= k := by
  intro y hy k hk2
  obtain ⟨m,hm,hy⟩ := mem_aVals.1 hy
  exact Nat.le_trans hb ((hk m hm).lt m y hy k hk2).1
 have h2 := h.2.2
 rw [List.pairwise_cons] at h2 ⊢
 refine ⟨fun y hy2 => ?_,List.pairwise_append.2 ⟨h2.2,hp,fun x hx2 y hy2 => aside_new (fun k hk2 => (hx x (List.mem_cons_of_mem _ hx2) k hk2).2) (hy y hy2)⟩⟩
 rcases List.mem_append.1 hy2 with hy2 | hy2
 ·exact h2.1 y hy2
 ·exact aside_new (fun k hk2 => (hx v (by simp) k hk2).2) (hy y hy2)
/-- What the coils of a row hold. -/
theorem elems_from {w : World} {base : Nat} {v : Value} {es : List MElem} (h1 : w.ownsRow base 30 2 v es.length (eCells es)) (h2 : ∀ m ∈ es,EOk w base m) : ElemsFrom base w v (es.map MElem.elem) := by
 by_cases hz : es.length = 0
 ·obtain ⟨a,cap,rfl⟩ := slice_of_owns h1
  exact ⟨a,cap,by simp,fun i hi => absurd hi (by simp; omega)⟩
 ·obtain ⟨g,cap,hv,hbase,hlt,_,hcell⟩ := ownsRow_cells h1 (by omega)
  subst hv
  refine ⟨_,cap,by simp,fun i hi => ⟨g,0,rfl,hbase,hlt,?_⟩⟩
  have hi' : i < es.length := by simpa using hi
  obtain ⟨a1,a2⟩ := eCells_get es i hi'
  rw [List.getElem_map,Nat.zero_add]
  exact ⟨hcell _ _ a1,_,hcell _ _ a2,DevsFrom.of_owns (h2 _ (List.getElem_mem hi'))⟩
/-- What an arm holds. -/
theorem AOk.from {w : World} {base : Nat} (m : MArm) (h : AOk w base m) : DevsFrom base w m.net.av m.arm.net.one.args ∧ NetsFrom base w m.net.kv m.arm.net.kids ∧ ElemsFrom base w m.cv m.arm.coils ∧ ArmsFrom base w m.kv m.arm.kids := by
 revert h
 refine marm_ind (fun m => AOk w base m -> DevsFrom base w m.net.av m.arm.net.one.args ∧ NetsFrom base w m.net.kv m.arm.net.kids ∧ ElemsFrom base w m.cv m.arm.coils ∧ ArmsFrom base w m.kv m.arm.kids) ?_ m
 intro n cv cs kv kids ih h
 rw [AOk_iff] at h
 rw [MArm.arm_eq]
 simp only at h ⊢
 obtain ⟨h1,⟨h2,h3⟩,h4,h5⟩ := h
 obtain ⟨f1,f2⟩ := MOk.from n h1
 refine ⟨f1,f2,elems_from h2 h3,?_⟩
 by_cases hz : kids.length = 0
 ·obtain ⟨a,cap,rfl⟩ := slice_of_owns h4
  exact ⟨a,cap,by simp,fun i hi => absurd hi (by simp; omega)⟩
 ·obtain ⟨g,cap,hv,hbase,hlt,_,hcell⟩ := ownsRow_cells h4 (by omega)
  subst hv
  refine ⟨_,cap,by simp,fun i hi => ⟨g,0,rfl,hbase,hlt,?_⟩⟩
  have hi' : i < kids.length := by simpa using hi
  obtain ⟨a1,a2,a3,a4,a5,a6⟩ := aCells_get kids i hi'
  obtain ⟨g1,g2,g3,g4⟩ := ih _ (List.getElem_mem hi') (h5 _ (List.getElem_mem hi'))
  rw [List.getElem_map,ArmFrom_iff,NetFrom_iff,Nat.zero_add]
  have e := MArm.arm_eq kids[i]
  have e1 : kids[i].arm.net.kind = kids[i].net.kind := by rw [e]; simp only; rw [MNet.net_eq]
  have e2 : kids[i].arm.net.one.op = kids[i].net.op := by rw [e]; simp only; rw [MNet.net_eq]
  rw [e1,e2]
  exact ⟨⟨hcell _ _ a1,hcell _ _ a2,⟨_,hcell _ _ a3,g1⟩,⟨_,hcell _ _ a4,g2⟩⟩,⟨_,hcell _ _ a5,g3⟩,⟨_,hcell _ _ a6,g4⟩⟩
end Go.Proofs.YtenoanhonjdpjaaGreatDoor
/- Z6,Z6b,Z6c,Z7a: texts put together. -/
/- The laws' copies of coils and arms,in memory of their own. -/
namespace Go.Proofs.YtenoanhonjdpjaaGreatDoor
open Go.RowKit Go.Sort Go.BigFrame
/-- An arm is answered that owns its memory. -/
def ArmRet (w : World) (base : Nat) (a : Stil.Arm) (e : Ending) : Prop := ∃ (k op : Int) (ds : List Stil.Dev) (a1 : Option Addr) (c1 : Nat) (ns : List MNet) (a2 : Option Addr) (c2 : Nat) (cs : List MElem) (a3 : Option Addr) (c3 : Nat) (ks : List MArm) (a4 : Option Addr) (c4 : Nat),e = .returned (.agg #[.int .i64 k,.int .i64 op,.slice a1 ds.length c1,.slice a2 ns.length c2,.slice a3 cs.length c3,.slice a4 ks.length c4]) ∧ AOwn w base ⟨⟨k,op,ds,.slice a1 ds.length c1,.slice a2 ns.length c2,ns⟩,.slice a3 cs.length c3,cs,.slice a4 ks.length c4,ks⟩ ∧ (MArm.mk ⟨k,op,ds,.slice a1 ds.length c1,.slice a2 ns.length c2,ns⟩ (.slice a3 cs.length c3) cs (.slice a4 ks.length c4) ks).arm = a
theorem eCells_one' {w : World} {base : Nat} {ks : List MElem} (hk : ∀ m ∈ ks,EOk w base m) : ∀ u ∈ eCells ks,u.oneCell' = true := by
 intro u hu
 obtain ⟨m,hm,hu⟩ := List.mem_flatMap.1 hu
 obtain ⟨a1,c1,e1⟩ := slice_of_owns (hk m hm)
 simp only [MElem.cells,List.mem_cons,List.mem_nil_iff,or_false] at hu
 rcases hu with rfl | rfl
 ·rfl
 ·rw [e1]; rfl
theorem aCells_one' {w : World} {base : Nat} {ks : List MArm} (hk : ∀ m ∈ ks,AOk w base m) : ∀ u ∈ aCells ks,u.oneCell' = true := by
 intro u hu
 obtain ⟨m,hm,hu⟩ := List.mem_flatMap.1 hu
 obtain ⟨h1,⟨h2,_⟩,h3,_⟩ := (AOk_iff w base m).1 (hk m hm)
 have h1' := (MOk_iff w base m.net).1 h1
 obtain ⟨a1,c1,e1⟩ := slice_of_owns h1'.1
 obtain ⟨a2,c2,e2⟩ := slice_of_owns h1'.2.1
 obtain ⟨a3,c3,e3⟩ := slice_of_owns h2
 obtain ⟨a4,c4,e4⟩ := slice_of_owns h3
 simp only [MArm.cells,List.mem_cons,List.mem_nil_iff,or_false] at hu
 rcases hu with rfl | rfl | rfl | rfl | rfl | rfl
 ·rfl
 ·rfl
 ·rw [e1]; rfl
 ·rw [e2]; rfl
 ·rw [e3]; rfl
 ·rw [e4]; rfl
theorem step_grow_elems {ops : Array Oper} {o : Oper} {a : Act} {w : World} {K : Act -> World -> Prop} {Q : Exit -> Act -> World -> Prop} {E : Prop}
  (hg : o.guard = none) (s x : Operand) (hop : o.op = .call { callee := .builtin .append,args := #[s,x],argTypes := #[34,34] })
  (base lo : Nat) (ra : Option Addr) (rc : Nat) (ms ks : List MElem) (ad : Option Addr) (c : Nat) (hs : a.eval s = .slice ra ms.length rc) (hx : a.eval x = .slice ad ks.length c)
  (hrow : ERow w base (.slice ra ms.length rc) ms) (hxs : 0 < ks.length -> ∃ p,ad = some p ∧ ∀ j u,(eCells ks)[j]? = some u -> w.cell? (p.add j) = some u)
  (hk : ∀ m ∈ ks,EOk w base m) (hp : (Value.slice ra ms.length rc :: (eVals ms ++ eVals ks)).Pairwise Aside) (hl : ms.length + ks.length <= 1000000) (hbase : base <= w.heap.size) (hlo : lo <= w.heap.size) (hvl : ∀ k,(Value.slice ra ms.length rc).ownBlock = some k -> lo <= k)
  (hK : ∀ a' c' w',ERow w' base (.slice a' (ms.length + ks.length) c') (ms ++ ks) -> Below lo w w' -> (∀ k,(Value.slice a' (ms.length + ks.length) c').ownBlock = some k -> lo <= k) -> K (a.put o.dst (.slice a' (ms.length + ks.length) c')) w') :
  if Region.wanted o (yielded ops a.tmps) = true then Oper.wp Tryz.prog o a w K Q else E := by
 obtain ⟨i0,hi,hz0,hz1,hz2⟩ := info_parts info_Elem
 by_cases hd : ks.length = 0
 ·have hn : ks = [] := List.length_eq_zero_iff.1 hd
  subst hn
  have hw : Region.wanted o (yielded ops a.tmps) = true := by simp [Region.wanted,hg]
  rw [if_pos hw]
  have hcap : ms.length <= rc := by
   rcases hrow.1.2 with ⟨h0,h1⟩ | ⟨g,c',cur,h0,_,_,hnc,_⟩
   ·rw [h1]; exact Nat.zero_le _
   ·simp only [Value.slice.injEq] at h0
    rw [h0.2.2]; exact hnc
  have hk2 := hK ra rc w (by simpa using hrow) (Below.refl _ _) (by simpa using hvl)
  simp only [List.length_nil,Nat.add_zero] at hk2 hx
  unfold Oper.wp execOp
  cases ad
  ·have e : Sem.run Tryz.prog (Builtin.append_ #[34,34] o.type #[.slice ra ms.length rc,.slice none 0 c]) w = .ok (.slice ra ms.length rc) w := by cases ra <;> simp [Builtin.append_,go_sem,hcap]
   simp only [hop,resolve,invoke,builtin,Sem.run_bind,Sem.run_pure,Result.andThen_ok,List.map_toArray,List.map_cons,List.map_nil,hs,hx,e]
   exact hk2
  ·rename_i t1
   have e : Sem.run Tryz.prog (Builtin.append_ #[34,34] o.type #[.slice ra ms.length rc,.slice (some t1) 0 c]) w = .ok (.slice ra ms.length rc) w := by cases ra <;> simp [Builtin.append_,go_sem,hcap]
   simp only [hop,resolve,invoke,builtin,Sem.run_bind,Sem.run_pure,Result.andThen_ok,List.map_toArray,List.map_cons,List.map_nil,hs,hx,e]
   exact hk2
 ·obtain ⟨p,rfl,hcs⟩ := hxs (by omega)
  refine step_append_at hg s x _ hop base 30 i0 _ 2 32 Tryz.underlying34 hi hz0 hz1 hz2 rfl (by decide) _ _ (eCells ms) hs hrow.1 _ _ _ (eCells ks) hx (eCells_len ks) hcs (eCells_one' hk) (by unfold maxLen; omega) (by omega) hbase ?_
  intro v' w' h1 h2 h3
  obtain ⟨a6,c6,hv6⟩ := slice_of_owns h1
  subst hv6
  refine hK a6 c6 w' (hrow.add hk hp h1 h2 h3) ((Below.refl _ _).grown h2 hlo hvl) (fun k hk2 => ?_)
  rcases h3 with e | e
  ·exact hvl k (by rw [← e]; exact hk2)
  ·rw [e] at hk2
   cases hk2
   exact hlo
theorem wpList_grow_elems {ops : Array Oper} {rest : List Oper} {o : Oper} {a : Act} {w : World} {Q : Exit -> Act -> World -> Prop}
  (hg : o.guard = none) (s x : Operand) (hop : o.op = .call { callee := .builtin .append,args := #[s,x],argTypes := #[34,34] })
  (base lo : Nat) (ra : Option Addr) (rc : Nat) (ms ks : List MElem) (ad : Option Addr) (c : Nat) (hs : a.eval s = .slice ra ms.length rc) (hx : a.eval x = .slice ad ks.length c)
  (hrow : ERow w base (.slice ra ms.length rc) ms) (hxs : 0 < ks.length -> ∃ p,ad = some p ∧ ∀ j u,(eCells ks)[j]? = some u -> w.cell? (p.add j) = some u)
  (hk : ∀ m ∈ ks,EOk w base m) (hp : (Value.slice ra ms.length rc :: (eVals ms ++ eVals ks)).Pairwise Aside) (hl : ms.length + ks.length <= 1000000) (hbase : base <= w.heap.size) (hlo : lo <= w.heap.size) (hvl : ∀ k,(Value.slice ra ms.length rc).ownBlock = some k -> lo <= k)
  (h : ∀ a' c' w',ERow w' base (.slice a' (ms.length + ks.length) c') (ms ++ ks) -> Below lo w w' -> (∀ k,(Value.slice a' (ms.length + ks.length) c').ownBlock = some k -> lo <= k) -> wpList Tryz.prog ops Q rest (a.put o.dst (.slice a' (ms.length + ks.length) c')) w') :
  wpList Tryz.prog ops Q (o :: rest) a w := by
 refine wpList_plain hg fun K hK => ?_
 have hw : Region.wanted o (yielded #[] a.tmps) = true := by simp [Region.wanted,hg]
 have := step_grow_elems (ops := #[]) (K := K) (Q := Q) (E := True) hg s x hop base lo ra rc ms ks ad c hs hx hrow hxs hk hp hl hbase hlo hvl (fun a' c' w' h1 h2 h3 => hK _ _ (h a' c' w' h1 h2 h3))
 rwa [if_pos hw] at this
theorem step_grow_arms {ops : Array Oper} {o : Oper} {a : Act} {w : World} {K : Act -> World -> Prop} {Q : Exit -> Act -> World -> Prop} {E : Prop}
  (hg : o.guard = none) (s x : Operand) (hop : o.op = .call { callee := .builtin .append,args := #[s,x],argTypes := #[23,23] })
  (base lo : Nat) (ra : Option Addr) (rc : Nat) (ms ks : List MArm) (ad : Option Addr) (c : Nat) (hs : a.eval s = .slice ra ms.length rc) (hx : a.eval x = .slice ad ks.length c)
  (hrow : ARow w base (.slice ra ms.length rc) ms) (hxs : 0 < ks.length -> ∃ p,ad = some p ∧ ∀ j u,(aCells ks)[j]? = some u -> w.cell? (p.add j) = some u)
  (hk : ∀ m ∈ ks,AOk w base m) (hp : (Value.slice ra ms.length rc :: (aVals ms ++ aVals ks)).Pairwise Aside) (hl : ms.length + ks.length <= 1000000) (hbase : base <= w.heap.size) (hlo : lo <= w.heap.size) (hvl : ∀ k,(Value.slice ra ms.length rc).ownBlock = some k -> lo <= k)
  (hK : ∀ a' c' w',ARow w' base (.slice a' (ms.length + ks.length) c') (ms ++ ks) -> Below lo w w' -> (∀ k,(Value.slice a' (ms.length + ks.length) c').ownBlock = some k -> lo <= k) -> K (a.put o.dst (.slice a' (ms.length + ks.length) c')) w') :
  if Region.wanted o (yielded ops a.tmps) = true then Oper.wp Tryz.prog o a w K Q else E := by
 obtain ⟨i0,hi,hz0,hz1,hz2⟩ := info_parts info_Arm
 by_cases hd : ks.length = 0
 ·have hn : ks = [] := List.length_eq_zero_iff.1 hd
  subst hn
  have hw : Region.wanted o (yielded ops a.tmps) = true := by simp [Region.wanted,hg]
  rw [if_pos hw]
  have hcap : ms.length <= rc := by
   rcases hrow.1.2 with ⟨h0,h1⟩ | ⟨g,c',cur,h0,_,_,hnc,_⟩
   ·rw [h1]; exact Nat.zero_le _
   ·simp only [Value.slice.injEq] at h0
    rw [h0.2.2]; exact hnc
  have hk2 := hK ra rc w (by simpa using hrow) (Below.refl _ _) (by simpa using hvl)
  simp only [List.length_nil,Nat.add_zero] at hk2 hx
  unfold Oper.wp execOp
  cases ad
  ·have e : Sem.run Tryz.prog (Builtin.append_ #[23,23] o.type #[.slice ra ms.length rc,.slice none 0 c]) w = .ok (.slice ra ms.length rc) w := by cases ra <;> simp [Builtin.append_,go_sem,hcap]
   simp only [hop,resolve,invoke,builtin,Sem.run_bind,Sem.run_pure,Result.andThen_ok,List.map_toArray,List.map_cons,List.map_nil,hs,hx,e]
   exact hk2
  ·rename_i t1
   have e : Sem.run Tryz.prog (Builtin.append_ #[23,23] o.type #[.slice ra ms.length rc,.slice (some t1) 0 c]) w = .ok (.slice ra ms.length rc) w := by cases ra <;> simp [Builtin.append_,go_sem,hcap]
   simp only [hop,resolve,invoke,builtin,Sem.run_bind,Sem.run_pure,Result.andThen_ok,List.map_toArray,List.map_cons,List.map_nil,hs,hx,e]
   exact hk2
 ·obtain ⟨p,rfl,hcs⟩ := hxs (by omega)
  refine step_append_at hg s x _ hop base 36 i0 _ 6 112 Tryz.underlying23 hi hz0 hz1 hz2 rfl (by decide) _ _ (aCells ms) hs hrow.1 _ _ _ (aCells ks) hx (aCells_len ks) hcs (aCells_one' hk) (by unfold maxLen; omega) (by omega) hbase ?_
  intro v' w' h1 h2 h3
  obtain ⟨a6,c6,hv6⟩ := slice_of_owns h1
  subst hv6
  refine hK a6 c6 w' (hrow.add hk hp h1 h2 h3) ((Below.refl _ _).grown h2 hlo hvl) (fun k hk2 => ?_)
  rcases h3 with e | e
  ·exact hvl k (by rw [← e]; exact hk2)
  ·rw [e] at hk2
   cases hk2
   exact hlo
theorem wpList_grow_arms {ops : Array Oper} {rest : List Oper} {o : Oper} {a : Act} {w : World} {Q : Exit -> Act -> World -> Prop}
  (hg : o.guard = none) (s x : Operand) (hop : o.op = .call { callee := .builtin .append,args := #[s,x],argTypes := #[23,23] })
  (base lo : Nat) (ra : Option Addr) (rc : Nat) (ms ks : List MArm) (ad : Option Addr) (c : Nat) (hs : a.eval s = .slice ra ms.length rc) (hx : a.eval x = .slice ad ks.length c)
  (hrow : ARow w base (.slice ra ms.length rc) ms) (hxs : 0 < ks.length -> ∃ p,ad = some p ∧ ∀ j u,(aCells ks)[j]? = some u -> w.cell? (p.add j) = some u)
  (hk : ∀ m ∈ ks,AOk w base m) (hp : (Value.slice ra ms.length rc :: (aVals ms ++ aVals ks)).Pairwise Aside) (hl : ms.length + ks.length <= 1000000) (hbase : base <= w.heap.size) (hlo : lo <= w.heap.size) (hvl : ∀ k,(Value.slice ra ms.length rc).ownBlock = some k -> lo <= k)
  (h : ∀ a' c' w',ARow w' base (.slice a' (ms.length + ks.length) c') (ms ++ ks) -> Below lo w w' -> (∀ k,(Value.slice a' (ms.length + ks.length) c').ownBlock = some k -> lo <= k) -> wpList Tryz.prog ops Q rest (a.put o.dst (.slice a' (ms.length + ks.length) c')) w') :
  wpList Tryz.prog ops Q (o :: rest) a w := by
 refine wpList_plain hg fun K hK => ?_
 have hw : Region.wanted o (yielded #[] a.tmps) = true := by simp [Region.wanted,hg]
 have := step_grow_arms (ops := #[]) (K := K) (Q := Q) (E := True) hg s x hop base lo ra rc ms ks ad c hs hx hrow hxs hk hp hl hbase hlo hvl (fun a' c' w' h1 h2 h3 => hK _ _ (h a' c' w' h1 h2 h3))
 rwa [if_pos hw] at this
end Go.Proofs.YtenoanhonjdpjaaGreatDoor
