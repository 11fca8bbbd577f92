/- Z1, Z2, Z3, Z4, Z5, Z5b: texts put together. -/
import Derived.Test.YtpaljcoojkbhnaaGreatDoorGm
set_option maxHeartbeats 4000000
set_option maxRecDepth 100000
/- Coils and arms in memory of their own: trees of what lies where. -/
namespace Go.Proofs.YtpaljcoojkbhnaaGreatDoor
open Go.RowKit Go.Sort Go.BigFrame
/-- A coil, with the value of its operands' row. -/
structure MElem where
 op : Int
 ds : List Stil.Dev
 av : Value
def MElem.elem (m : MElem) : Stil.Elem := ⟨m.op, m.ds⟩
def eVals (es : List MElem) : List Value := es.map MElem.av
def MElem.cells (m : MElem) : List Value := [.int .i64 m.op, m.av]
def eCells (es : List MElem) : List Value := es.flatMap MElem.cells
theorem eCells_append (a b : List MElem) : eCells (a ++ b) = eCells a ++ eCells b := by simp [eCells]
theorem eVals_append (a b : List MElem) : eVals (a ++ b) = eVals a ++ eVals b := by simp [eVals]
theorem mem_eVals {es : List MElem} {x : Value} : x ∈ eVals es ↔ ∃ m ∈ es, m.av = x := by simp [eVals]
theorem eCells_len (es : List MElem) : (eCells es).length = es.length * 2 := by
 induction es with
 | nil => rfl
 | cons m r ih =>
  have e : eCells (m :: r) = m.cells ++ eCells r := rfl
  rw [e, List.length_append, ih]
  simp [MElem.cells]; omega
theorem eCells_get : ∀ (es : List MElem) (i : Nat) (h : i < es.length), (eCells es)[i * 2]? = some (.int .i64 es[i].op) ∧ (eCells es)[i * 2 + 1]? = some es[i].av
 | [], _, h => by simp at h
 | m :: r, 0, _ => ⟨rfl, rfl⟩
 | m :: r, i + 1, h => by
  obtain ⟨a1, a2⟩ := eCells_get r i (by simpa using h)
  have e : eCells (m :: r) = .int .i64 m.op :: m.av :: eCells r := rfl
  have e1 : (i + 1) * 2 = i * 2 + 1 + 1 := by omega
  rw [e, e1]
  exact ⟨by simpa using a1, by simpa using a2⟩
def EOk (w : World) (base : Nat) (m : MElem) : Prop := w.ownsRow base 117 3 m.av m.ds.length (devsCells m.ds)
/-- A row of coils in memory of its own. -/
def ERow (w : World) (base : Nat) (v : Value) (es : List MElem) : Prop := w.ownsRow base 26 2 v es.length (eCells es) ∧ (∀ m ∈ es, EOk w base m) ∧ (v :: eVals es).Pairwise Aside
theorem ERow.lt {w : World} {base : Nat} {v : Value} {es : List MElem} (h : ERow w base v es) : ∀ x ∈ v :: eVals es, ∀ k, x.ownBlock = some k → base ≤ k ∧ k < w.heap.size := by
 intro x hx k hk
 rcases List.mem_cons.1 hx with rfl | hx
 ·exact h.1.lt k hk
 ·obtain ⟨m, hm, rfl⟩ := mem_eVals.1 hx
  exact (h.2.1 m hm).lt k hk
theorem ERow.add {w w' : World} {base : Nat} {v v' : Value} {es ks : List MElem} (h : ERow w base v es) (hk : ∀ m ∈ ks, EOk w base m) (hp : (v :: (eVals es ++ eVals ks)).Pairwise Aside)
  (hown : w'.ownsRow base 26 2 v' (es.length + ks.length) (eCells es ++ eCells ks)) (hg : w.grownBy w' v.ownBlock) (hat : v'.ownBlock = v.ownBlock ∨ v'.ownBlock = some w.heap.size) : ERow w' base v' (es ++ ks) := by
 rw [List.pairwise_cons] at hp
 have hkl : ∀ x ∈ eVals es ++ eVals ks, ∀ k, x.ownBlock = some k → k < w.heap.size := by
  intro x hx k hk2
  rcases List.mem_append.1 hx with hx | hx
  ·exact (h.lt x (List.mem_cons_of_mem _ hx) k hk2).2
  ·obtain ⟨m, hm, rfl⟩ := mem_eVals.1 hx
   exact ((hk m hm).lt k hk2).2
 refine ⟨by rw [List.length_append, eCells_append]; exact hown, fun m hm => ?_, ?_⟩
 ·rcases List.mem_append.1 hm with hm | hm
  ·exact (h.2.1 m hm).kept hg (hp.1 _ (List.mem_append_left _ (mem_eVals.2 ⟨m, hm, rfl⟩))).symm
  ·exact (hk m hm).kept hg (hp.1 _ (List.mem_append_right _ (mem_eVals.2 ⟨m, hm, rfl⟩))).symm
 ·rw [eVals_append, List.pairwise_cons]
  refine ⟨fun y hy => ?_, hp.2⟩
  rcases hat with e | e
  ·rcases hp.1 y hy with h0 | h0
   ·exact .inl (by rw [e]; exact h0)
   ·exact .inr (by rw [e]; exact h0)
  ·refine .inr (fun e2 => ?_)
   rw [e] at e2
   have := hkl y hy _ e2.symm
   omega
/-- An arm, with the values of its rows. -/
structure MArm where
 net : MNet
 cv : Value
 coils : List MElem
 kv : Value
 kids : List MArm
theorem marm_ind (P : MArm → Prop) (h : ∀ n cv cs kv kids, (∀ x ∈ kids, P x) → P ⟨n, cv, cs, kv, kids⟩) : ∀ n, P n
 | ⟨n, cv, cs, kv, kids⟩ => h n cv cs kv kids (fun x _ => marm_ind P h x)
def MArm.arm : MArm → Stil.Arm
 | ⟨n, _, cs, _, kids⟩ => ⟨n.net, cs.map MElem.elem, kids.map MArm.arm⟩
theorem MArm.arm_eq (m : MArm) : m.arm = ⟨m.net.net, m.coils.map MElem.elem, m.kids.map MArm.arm⟩ := by obtain ⟨n, cv, cs, kv, kids⟩ := m; rw [MArm.arm]
def MArm.vals : MArm → List Value
 | ⟨n, cv, cs, kv, kids⟩ => n.vals ++ ((cv :: eVals cs) ++ (kv :: (kids.map MArm.vals).flatten))
def aVals (ars : List MArm) : List Value := (ars.map MArm.vals).flatten
theorem MArm.vals_eq (m : MArm) : m.vals = m.net.vals ++ ((m.cv :: eVals m.coils) ++ (m.kv :: aVals m.kids)) := by obtain ⟨n, cv, cs, kv, kids⟩ := m; rw [MArm.vals]; rfl
theorem aVals_append (a b : List MArm) : aVals (a ++ b) = aVals a ++ aVals b := by simp [aVals]
theorem aVals_one (m : MArm) : aVals [m] = m.vals := by simp [aVals]
theorem mem_aVals {ars : List MArm} {x : Value} : x ∈ aVals ars ↔ ∃ m ∈ ars, x ∈ m.vals := by
 simp only [aVals, List.mem_flatten, List.mem_map]
 constructor
 ·rintro ⟨_, ⟨m, hm, rfl⟩, hx⟩; exact ⟨m, hm, hx⟩
 ·rintro ⟨m, hm, hx⟩; exact ⟨_, ⟨m, hm, rfl⟩, hx⟩
def MArm.cells (m : MArm) : List Value := [.int .i64 m.net.kind, .int .i64 m.net.op, m.net.av, m.net.kv, m.cv, m.kv]
def aCells (ars : List MArm) : List Value := ars.flatMap MArm.cells
theorem aCells_append (a b : List MArm) : aCells (a ++ b) = aCells a ++ aCells b := by simp [aCells]
theorem aCells_len (ars : List MArm) : (aCells ars).length = ars.length * 6 := by
 induction ars with
 | nil => rfl
 | cons m r ih =>
  have e : aCells (m :: r) = m.cells ++ aCells r := rfl
  rw [e, List.length_append, ih]
  simp [MArm.cells]; omega
theorem aCells_get : ∀ (ars : List MArm) (i : Nat) (h : i < ars.length), (aCells ars)[i * 6]? = some (.int .i64 ars[i].net.kind) ∧ (aCells ars)[i * 6 + 1]? = some (.int .i64 ars[i].net.op) ∧ (aCells ars)[i * 6 + 2]? = some ars[i].net.av ∧ (aCells ars)[i * 6 + 3]? = some ars[i].net.kv ∧ (aCells ars)[i * 6 + 4]? = some ars[i].cv ∧ (aCells ars)[i * 6 + 5]? = some ars[i].kv
 | [], _, h => by simp at h
 | m :: r, 0, _ => ⟨rfl, rfl, rfl, rfl, rfl, rfl⟩
 | m :: r, i + 1, h => by
  obtain ⟨a1, a2, a3, a4, a5, a6⟩ := aCells_get r i (by simpa using h)
  have e : aCells (m :: r) = .int .i64 m.net.kind :: .int .i64 m.net.op :: m.net.av :: m.net.kv :: m.cv :: m.kv :: aCells r := rfl
  have e1 : (i + 1) * 6 = i * 6 + 1 + 1 + 1 + 1 + 1 + 1 := by omega
  rw [e, e1]
  exact ⟨by simpa using a1, by simpa using a2, by simpa using a3, by simpa using a4, by simpa using a5, by simpa using a6⟩
/-- The arm owns its memory. -/
def AOk (w : World) (base : Nat) : MArm → Prop
 | ⟨n, cv, cs, kv, kids⟩ => MOk w base n ∧ (w.ownsRow base 26 2 cv cs.length (eCells cs) ∧ ∀ m ∈ cs, EOk w base m) ∧ w.ownsRow base 80 6 kv kids.length (aCells kids) ∧ ∀ p ∈ kids.map (AOk w base), p
theorem AOk_iff (w : World) (base : Nat) (m : MArm) : AOk w base m ↔ MOk w base m.net ∧ (w.ownsRow base 26 2 m.cv m.coils.length (eCells m.coils) ∧ ∀ x ∈ m.coils, EOk w base x) ∧ w.ownsRow base 80 6 m.kv m.kids.length (aCells m.kids) ∧ ∀ x ∈ m.kids, AOk w base x := by
 obtain ⟨n, cv, cs, kv, kids⟩ := m
 rw [AOk, Stil.all_map]
theorem AOk.map {w w' : World} {base base' : Nat} (m : MArm) (h : AOk w base m) (hk : ∀ (e : TypeId) (s n : Nat) (v : Value) (xs : List Value), v ∈ m.vals → w.ownsRow base e s v n xs → w'.ownsRow base' e s v n xs) : AOk w' base' m := by
 revert h hk
 refine marm_ind (fun m => AOk w base m → (∀ (e : TypeId) (s n : Nat) (v : Value) (xs : List Value), v ∈ m.vals → w.ownsRow base e s v n xs → w'.ownsRow base' e s v n xs) → AOk w' base' m) ?_ m
 intro n cv cs kv kids ih h hk
 rw [AOk_iff] at h ⊢
 simp only [MArm.vals_eq] at hk
 obtain ⟨h1, ⟨h2, h3⟩, h4, h5⟩ := h
 refine ⟨MOk.map n h1 (fun e s k v xs hv => hk e s k v xs (List.mem_append_left _ hv)), ⟨hk _ _ _ _ _ (by simp) h2, fun x hx => hk _ _ _ _ _ ?_ (h3 x hx)⟩, hk _ _ _ _ _ (by simp) h4, fun x hx => ih x hx (h5 x hx) (fun e s k v xs hv => hk e s k v xs ?_)⟩
 ·exact List.mem_append_right _ (List.mem_append_left _ (List.mem_cons_of_mem _ (mem_eVals.2 ⟨x, hx, rfl⟩)))
 ·exact List.mem_append_right _ (List.mem_append_right _ (List.mem_cons_of_mem _ (mem_aVals.2 ⟨x, hx, hv⟩)))
theorem AOk.below {w w' : World} {base : Nat} {m : MArm} (h : AOk w base m) (hb : Below w.heap.size w w') : AOk w' base m := AOk.map m h (fun _ _ _ _ _ _ ho => ownsRow_below ho hb)
theorem AOk.kept {w w' : World} {base : Nat} {m : MArm} {x : Value} (h : AOk w base m) (hg : w.grownBy w' x.ownBlock) (ha : ∀ u ∈ m.vals, Aside u x) : AOk w' base m := AOk.map m h (fun _ _ _ _ _ hv ho => ho.kept hg (ha _ hv))
theorem AOk.le {w : World} {base base' : Nat} {m : MArm} (h : AOk w base m) (hl : base' ≤ base) : AOk w base' m := AOk.map m h (fun _ _ _ _ _ _ ho => Joins.ownsRow_le ho hl)
theorem AOk.low {w w' : World} {base lo : Nat} {m : MArm} (h : AOk w base m) (hb : Below lo w w') (hv : ∀ x ∈ m.vals, ∀ k, x.ownBlock = some k → k < lo) : AOk w' base m := AOk.map m h (fun _ _ _ _ _ hx ho => ownsRow_low ho hb (hv _ hx))
theorem AOk.lt {w : World} {base : Nat} (m : MArm) (h : AOk w base m) : ∀ x ∈ m.vals, ∀ k, x.ownBlock = some k → base ≤ k ∧ k < w.heap.size := by
 revert h
 refine marm_ind (fun m => AOk w base m → ∀ x ∈ m.vals, ∀ k, x.ownBlock = some k → base ≤ k ∧ k < w.heap.size) ?_ m
 intro n cv cs kv kids ih h x hx j hj
 rw [AOk_iff] at h
 obtain ⟨h1, ⟨h2, h3⟩, h4, h5⟩ := h
 rw [MArm.vals_eq] at hx
 simp only [List.mem_append, List.mem_cons] at hx
 rcases hx with hx | (rfl | hx) | rfl | hx
 ·exact h1.lt _ x hx j hj
 ·exact h2.lt j hj
 ·obtain ⟨y, hy, rfl⟩ := mem_eVals.1 hx
  exact (h3 y hy).lt j hj
 ·exact h4.lt j hj
 ·obtain ⟨y, hy, hx⟩ := mem_aVals.1 hx
  exact ih y hy (h5 y hy) x hx j hj
def AOwn (w : World) (base : Nat) (m : MArm) : Prop := AOk w base m ∧ m.vals.Pairwise Aside
theorem AOwn.below {w w' : World} {base : Nat} {m : MArm} (h : AOwn w base m) (hb : Below w.heap.size w w') : AOwn w' base m := ⟨h.1.below hb, h.2⟩
theorem AOwn.le {w : World} {base base' : Nat} {m : MArm} (h : AOwn w base m) (hl : base' ≤ base) : AOwn w base' m := ⟨h.1.le hl, h.2⟩
/-- A row of arms in memory of its own. -/
def ARow (w : World) (base : Nat) (v : Value) (ars : List MArm) : Prop := w.ownsRow base 80 6 v ars.length (aCells ars) ∧ (∀ m ∈ ars, AOk w base m) ∧ (v :: aVals ars).Pairwise Aside
theorem ARow.nil (w : World) (base : Nat) : ARow w base (.slice none 0 0) [] := ⟨World.ownsRow_nil _ _ _ _, (fun m hm => by cases hm), List.pairwise_singleton _ _⟩
theorem ARow.below {w w' : World} {base : Nat} {v : Value} {ars : List MArm} (h : ARow w base v ars) (hb : Below w.heap.size w w') : ARow w' base v ars := ⟨ownsRow_below h.1 hb, fun m hm => (h.2.1 m hm).below hb, h.2.2⟩
theorem ARow.le {w : World} {base base' : Nat} {v : Value} {ars : List MArm} (h : ARow w base v ars) (hl : base' ≤ base) : ARow w base' v ars := ⟨Joins.ownsRow_le h.1 hl, fun m hm => (h.2.1 m hm).le hl, h.2.2⟩
theorem ARow.lt {w : World} {base : Nat} {v : Value} {ars : List MArm} (h : ARow w base v ars) : ∀ x ∈ v :: aVals ars, ∀ k, x.ownBlock = some k → base ≤ k ∧ k < w.heap.size := by
 intro x hx k hk
 rcases List.mem_cons.1 hx with rfl | hx
 ·exact h.1.lt k hk
 ·obtain ⟨m, hm, hx⟩ := mem_aVals.1 hx
  exact (h.2.1 m hm).lt m x hx k hk
theorem ARow.add {w w' : World} {base : Nat} {v v' : Value} {ars ks : List MArm} (h : ARow w base v ars) (hk : ∀ m ∈ ks, AOk w base m) (hp : (v :: (aVals ars ++ aVals ks)).Pairwise Aside)
  (hown : w'.ownsRow base 80 6 v' (ars.length + ks.length) (aCells ars ++ aCells ks)) (hg : w.grownBy w' v.ownBlock) (hat : v'.ownBlock = v.ownBlock ∨ v'.ownBlock = some w.heap.size) : ARow w' base v' (ars ++ ks) := by
 rw [List.pairwise_cons] at hp
 have hkl : ∀ x ∈ aVals ars ++ aVals ks, ∀ k, x.ownBlock = some k → k < w.heap.size := by
  intro x hx k hk2
  rcases List.mem_append.1 hx with hx | hx
  ·exact (h.lt x (List.mem_cons_of_mem _ hx) k hk2).2
  ·obtain ⟨m, hm, hx⟩ := mem_aVals.1 hx
   exact ((hk m hm).lt m x hx k hk2).2
 refine ⟨by rw [List.length_append, aCells_append]; exact hown, fun m hm => ?_, ?_⟩
 ·rcases List.mem_append.1 hm with hm | hm
  ·exact (h.2.1 m hm).kept hg (fun u hu => (hp.1 u (List.mem_append_left _ (mem_aVals.2 ⟨m, hm, hu⟩))).symm)
  ·exact (hk m hm).kept hg (fun u hu => (hp.1 u (List.mem_append_right _ (mem_aVals.2 ⟨m, hm, hu⟩))).symm)
 ·rw [aVals_append, List.pairwise_cons]
  refine ⟨fun y hy => ?_, hp.2⟩
  rcases hat with e | e
  ·rcases hp.1 y hy with h0 | h0
   ·exact .inl (by rw [e]; exact h0)
   ·exact .inr (by rw [e]; exact h0)
  ·refine .inr (fun e2 => ?_)
   rw [e] at e2
   have := hkl y hy _ e2.symm
   omega
theorem ARow.apart {w w1 : World} {base : Nat} {v : Value} {ars ks : List MArm} {b1 : Nat} (h : ARow w base v ars) (hk : ∀ m ∈ ks, AOk w1 b1 m) (hb : w.heap.size ≤ b1) (hp : (aVals ks).Pairwise Aside) : (v :: (aVals ars ++ aVals ks)).Pairwise Aside := by
 have hx := h.lt
 have hy : ∀ y ∈ aVals ks, ∀ k, y.ownBlock = some k → w.heap.size ≤ k := by
  intro y hy k hk2
  obtain ⟨m, hm, hy⟩ := mem_aVals.1 hy
  exact Nat.le_trans hb ((hk m hm).lt m y hy k hk2).1
 have h2 := h.2.2
 rw [List.pairwise_cons] at h2 ⊢
 refine ⟨fun y hy2 => ?_, List.pairwise_append.2 ⟨h2.2, hp, fun x hx2 y hy2 => aside_new (fun k hk2 => (hx x (List.mem_cons_of_mem _ hx2) k hk2).2) (hy y hy2)⟩⟩
 rcases List.mem_append.1 hy2 with hy2 | hy2
 ·exact h2.1 y hy2
 ·exact aside_new (fun k hk2 => (hx v (by simp) k hk2).2) (hy y hy2)
/-- What the coils of a row hold. -/
theorem elems_from {w : World} {base : Nat} {v : Value} {es : List MElem} (h1 : w.ownsRow base 26 2 v es.length (eCells es)) (h2 : ∀ m ∈ es, EOk w base m) : ElemsFrom base w v (es.map MElem.elem) := by
 by_cases hz : es.length = 0
 ·obtain ⟨a, cap, rfl⟩ := slice_of_owns h1
  exact ⟨a, cap, by simp, fun i hi => absurd hi (by simp; omega)⟩
 ·obtain ⟨g, cap, hv, hbase, hlt, _, hcell⟩ := ownsRow_cells h1 (by omega)
  subst hv
  refine ⟨_, cap, by simp, fun i hi => ⟨g, 0, rfl, hbase, hlt, ?_⟩⟩
  have hi' : i < es.length := by simpa using hi
  obtain ⟨a1, a2⟩ := eCells_get es i hi'
  rw [List.getElem_map, Nat.zero_add]
  exact ⟨hcell _ _ a1, _, hcell _ _ a2, DevsFrom.of_owns (h2 _ (List.getElem_mem hi'))⟩
/-- What an arm holds. -/
theorem AOk.from {w : World} {base : Nat} (m : MArm) (h : AOk w base m) : DevsFrom base w m.net.av m.arm.net.one.args ∧ NetsFrom base w m.net.kv m.arm.net.kids ∧ ElemsFrom base w m.cv m.arm.coils ∧ ArmsFrom base w m.kv m.arm.kids := by
 revert h
 refine marm_ind (fun m => AOk w base m → DevsFrom base w m.net.av m.arm.net.one.args ∧ NetsFrom base w m.net.kv m.arm.net.kids ∧ ElemsFrom base w m.cv m.arm.coils ∧ ArmsFrom base w m.kv m.arm.kids) ?_ m
 intro n cv cs kv kids ih h
 rw [AOk_iff] at h
 rw [MArm.arm_eq]
 simp only at h ⊢
 obtain ⟨h1, ⟨h2, h3⟩, h4, h5⟩ := h
 obtain ⟨f1, f2⟩ := MOk.from n h1
 refine ⟨f1, f2, elems_from h2 h3, ?_⟩
 by_cases hz : kids.length = 0
 ·obtain ⟨a, cap, rfl⟩ := slice_of_owns h4
  exact ⟨a, cap, by simp, fun i hi => absurd hi (by simp; omega)⟩
 ·obtain ⟨g, cap, hv, hbase, hlt, _, hcell⟩ := ownsRow_cells h4 (by omega)
  subst hv
  refine ⟨_, cap, by simp, fun i hi => ⟨g, 0, rfl, hbase, hlt, ?_⟩⟩
  have hi' : i < kids.length := by simpa using hi
  obtain ⟨a1, a2, a3, a4, a5, a6⟩ := aCells_get kids i hi'
  obtain ⟨g1, g2, g3, g4⟩ := ih _ (List.getElem_mem hi') (h5 _ (List.getElem_mem hi'))
  rw [List.getElem_map, ArmFrom_iff, NetFrom_iff, Nat.zero_add]
  have e := MArm.arm_eq kids[i]
  have e1 : kids[i].arm.net.kind = kids[i].net.kind := by rw [e]; simp only; rw [MNet.net_eq]
  have e2 : kids[i].arm.net.one.op = kids[i].net.op := by rw [e]; simp only; rw [MNet.net_eq]
  rw [e1, e2]
  exact ⟨⟨hcell _ _ a1, hcell _ _ a2, ⟨_, hcell _ _ a3, g1⟩, ⟨_, hcell _ _ a4, g2⟩⟩, ⟨_, hcell _ _ a5, g3⟩, ⟨_, hcell _ _ a6, g4⟩⟩
/-- Rows of parts of two cells that begin with one number. -/
def elPs (b : Nat) : Nat → List (List Pl) → List Pl
 | _, [] => []
 | o, q :: r => (b, o) :: (q ++ elPs b (o + 2) r)
theorem elPs_snoc (b : Nat) : ∀ (qs : List (List Pl)) (o i : Nat) (h : i < qs.length), elPs b o (qs.take (i + 1)) = elPs b o (qs.take i) ++ ((b, o + i * 2) :: qs[i])
 | [], _, _, h => by simp at h
 | q :: r, o, 0, _ => by simp [elPs]
 | q :: r, o, i + 1, h => by
  have ih := elPs_snoc b r (o + 2) i (by simpa using h)
  rw [List.take_succ_cons, List.take_succ_cons, elPs, elPs, ih]
  have e : o + 2 + i * 2 = o + (i + 1) * 2 := by omega
  simp [e, List.append_assoc]
theorem elPs_split (b : Nat) : ∀ (qs : List (List Pl)) (o i : Nat), i ≤ qs.length → elPs b o qs = elPs b o (qs.take i) ++ elPs b (o + i * 2) (qs.drop i)
 | qs, o, 0, _ => by simp [elPs]
 | [], _, i + 1, h => by simp at h
 | q :: r, o, i + 1, h => by
  have ih := elPs_split b r (o + 2) i (by simpa using h)
  rw [List.take_succ_cons, List.drop_succ_cons, elPs, elPs, ih]
  have e : o + 2 + i * 2 = o + (i + 1) * 2 := by omega
  simp [e, List.append_assoc]
theorem elPs_len (b : Nat) : ∀ (qs : List (List Pl)) (o : Nat), qs.length ≤ (elPs b o qs).length := by
 intro qs
 induction qs with
 | nil => intro o; simp
 | cons q r ih => intro o; have := ih (o + 2); simp [elPs]; omega
theorem elPs_mem (b : Nat) : ∀ (qs : List (List Pl)) (o : Nat) (p : Pl), p ∈ elPs b o qs → (∃ i, i < qs.length ∧ p = (b, o + i * 2)) ∨ ∃ q ∈ qs, p ∈ q
 | [], _, p, h => by simp [elPs] at h
 | q :: r, o, p, h => by
  rw [elPs] at h
  simp only [List.mem_cons, List.mem_append] at h
  rcases h with h | h | h
  ·exact .inl ⟨0, by simp, by simpa using h⟩
  ·exact .inr ⟨q, by simp, h⟩
  ·rcases elPs_mem b r (o + 2) p h with ⟨i, hi, hp⟩ | ⟨q', hq', hp⟩
   ·refine .inl ⟨i + 1, by simp; omega, ?_⟩
    have e : o + 2 + i * 2 = o + (i + 1) * 2 := by omega
    rwa [e] at hp
   ·exact .inr ⟨q', List.mem_cons_of_mem _ hq', hp⟩
theorem elPs_nodup (b : Nat) : ∀ (qs : List (List Pl)) (o : Nat), (∀ q ∈ qs, q.Nodup ∧ ∀ p ∈ q, p.1 ≠ b) → qs.Pairwise (fun q r => ∀ p ∈ q, p ∉ r) → (elPs b o qs).Nodup
 | [], _, _, _ => List.nodup_nil
 | q :: r, o, h1, h2 => by
  have ih := elPs_nodup b r (o + 2) (fun x hx => h1 x (List.mem_cons_of_mem _ hx)) (List.pairwise_cons.1 h2).2
  obtain ⟨hq1, hq2⟩ := h1 q (by simp)
  have hr : ∀ p ∈ elPs b (o + 2) r, p ≠ (b, o) ∧ p ∉ q := by
   intro p hp
   rcases elPs_mem b r (o + 2) p hp with ⟨i, _, hp⟩ | ⟨x, hx, hp⟩
   ·subst hp
    refine ⟨fun e => ?_, fun e => hq2 _ e rfl⟩
    have := (Prod.mk.inj e).2; omega
   ·have hx2 := (h1 x (List.mem_cons_of_mem _ hx)).2 p hp
    exact ⟨fun e => hx2 (by rw [e]), fun e => (List.pairwise_cons.1 h2).1 x hx p e hp⟩
  rw [elPs, List.nodup_cons, List.nodup_append]
  refine ⟨fun h => ?_, hq1, ih, fun a ha c hc e => ?_⟩
  ·rcases List.mem_append.1 h with h | h
   ·exact hq2 _ h rfl
   ·exact (hr _ h).1 rfl
  ·subst e; exact (hr _ hc).2 ha
def MElem.dps (m : MElem) : List Pl := blockPs (vb m.av) m.ds.length
/-- The places of a row of coils. -/
def ePs (v : Value) (es : List MElem) : List Pl := elPs (vb v) 0 (es.map MElem.dps)
/-- How a row of coils lies. -/
def ESh (Q : Pl → Prop) (w : World) (v : Value) (es : List MElem) : Prop := (∃ a cap, v = .slice a es.length cap ∧ (0 < es.length → a = some ⟨vb v, 0, none⟩)) ∧
 ∀ i (h : i < es.length), vb v < w.heap.size ∧ Q (vb v, i * 2 + 1) ∧ w.cell? ⟨vb v, i * 2 + 1, none⟩ = some es[i].av ∧ DevsSh es[i].av es[i].dps
theorem ESh.map {Q : Pl → Prop} {w w' : World} {v : Value} {es : List MElem} (hs : w.heap.size ≤ w'.heap.size) (hc : ∀ b o, b < w.heap.size → Q (b, o) → w'.cell? ⟨b, o, none⟩ = w.cell? ⟨b, o, none⟩) (h : ESh Q w v es) : ESh Q w' v es :=
 ⟨h.1, fun i hi => by
  obtain ⟨c1, c2, c3, c4⟩ := h.2 i hi
  exact ⟨Nat.lt_of_lt_of_le c1 hs, c2, (hc _ _ c1 c2).trans c3, c4⟩⟩
theorem p_markElems (Q : Pl → Prop) (v : Value) (es : List MElem) (k : Int) (w : World) (hsh : ESh Q w v es) (hi : NumsAt w (ePs v es)) (hnd : (ePs v es).Nodup) (hq : ∀ p ∈ ePs v es, ¬ Q p) (hk0 : 0 ≤ k) (hkl : k + (ePs v es).length ≤ 4611686018427387904) :
  Calls Tryz.prog 42 #[v, .int .i64 k] w fun e w' => e = .returned (.int .i64 (k + (ePs v es).length)) ∧ Marked w w' (ePs v es) k := by
 obtain ⟨⟨a, cap, hv, ha⟩, hcs⟩ := hsh
 obtain ⟨b, hb⟩ : ∃ b, b = vb v := ⟨_, rfl⟩
 obtain ⟨qs, hqs⟩ : ∃ qs, qs = es.map MElem.dps := ⟨_, rfl⟩
 have hrps : ePs v es = elPs b 0 qs := by rw [hb, hqs]; rfl
 rw [hrps] at hi hnd hq hkl ⊢
 rw [← hb] at ha hcs
 subst hv
 clear hb hrps
 obtain ⟨n, hn⟩ : ∃ n, n = es.length := ⟨_, rfl⟩
 have HN : Hid (n = es.length) := hn
 have HQL : Hid (qs.length = es.length) := by show _ = _; rw [hqs]; simp
 have HQG : Hid (∀ i (h : i < qs.length) (h' : i < es.length), qs[i] = es[i].dps) := by
  intro i h h'
  subst hqs
  rw [List.getElem_map]
 have HI : Hid (NumsAt w (elPs b 0 qs)) := hi
 have HND : Hid (elPs b 0 qs).Nodup := hnd
 have HKL : Hid (k + (elPs b 0 qs).length ≤ 4611686018427387904) := hkl
 have HQ : Hid (∀ p ∈ elPs b 0 qs, ¬ Q p) := hq
 have HCS : Hid (∀ i (h : i < es.length), b < w.heap.size ∧ Q (b, i * 2 + 1) ∧ w.cell? ⟨b, i * 2 + 1, none⟩ = some es[i].av ∧ DevsSh es[i].av es[i].dps) := hcs
 have HA : Hid (0 < n → a = some ⟨b, 0, none⟩) := by rw [hn]; exact ha
 have hnb : n ≤ 4611686018427387904 := by
  have h3 := elPs_len b qs 0
  have := HQL.out
  omega
 rw [← hn]
 clear hi hnd hkl ha hn hcs hq hqs
 go_enter Tryz.func42, Tryz.ntmps42
 go_wp2
 go_loopw [1, 5] (fun kv iv wr => ∃ (i : Nat) (L : Nat), i ≤ n ∧ L = (elPs b 0 (qs.take i)).length ∧ kv = .int .i64 (k + L) ∧ iv = .int .i64 i ∧ Marked w wr (elPs b 0 (qs.take i)) k) (fun _ iv _ => n - (intOf iv).toNat)
 case atStart => exact ⟨0, 0, by omega, by simp [elPs], by simp, rfl, by simpa [elPs] using Marked.of_below (Below.refl _ _)⟩
 case round =>
  obtain ⟨i, L, hi, hL, rfl, rfl, hm⟩ := hrel
  have HM : Hid (Marked w wr (elPs b 0 (qs.take i)) k) := hm
  have HL : Hid (L = (elPs b 0 (qs.take i)).length) := hL
  clear hm hL
  by_cases hlt : i < n
  ·have hlk : i < es.length := by have := HN.out; omega
   have hlq : i < qs.length := by have := HQL.out; omega
   obtain rfl := HA.out (by omega)
   obtain ⟨hbz, hQ2, hav, hsD0⟩ := HCS.out i hlk
   have hspl : elPs b 0 qs = elPs b 0 (qs.take i) ++ (((b, 0 + i * 2) :: qs[i]) ++ elPs b (0 + (i + 1) * 2) (qs.drop (i + 1))) := by
    rw [elPs_split b qs 0 (i + 1) (by omega), elPs_snoc b qs 0 i hlq, List.append_assoc]
   have HSN : Hid (elPs b 0 (qs.take (i + 1)) = elPs b 0 (qs.take i) ++ ((b, 0 + i * 2) :: qs[i])) := elPs_snoc b qs 0 i hlq
   rw [HQG.out i hlq hlk] at hspl HSN
   obtain ⟨x, hx⟩ : ∃ x, x = es[i] := ⟨_, rfl⟩
   rw [← hx] at hspl HSN hav hsD0
   have hI := HI.out
   have hN := HND.out
   have hK := HKL.out
   have hQp := HQ.out
   rw [hspl] at hI hN hK hQp
   obtain ⟨A, hA⟩ : ∃ A, A = elPs b 0 (qs.take i) := ⟨_, rfl⟩
   obtain ⟨Z, hZ⟩ : ∃ Z, Z = elPs b (0 + (i + 1) * 2) (qs.drop (i + 1)) := ⟨_, rfl⟩
   rw [← hA] at hI hN hK HM HL HSN hQp
   rw [← hZ] at hI hN hK hQp
   rw [Nat.zero_add] at hI hN hK hQp HSN
   obtain ⟨P, hP⟩ : ∃ P : List Pl, P = [(b, i * 2)] := ⟨_, rfl⟩
   obtain ⟨D, hD⟩ : ∃ D, D = x.dps := ⟨_, rfl⟩
   have hPq : ((b, i * 2) :: x.dps) = P ++ D := by rw [hP, hD]; rfl
   rw [hPq] at hI hN hK HSN hQp
   have hsD : DevsSh x.av D := by rw [hD]; exact hsD0
   clear hspl hA hZ hx hPq hD hsD0
   have hNA := List.nodup_append.1 hN
   have hNP := List.nodup_append.1 hNA.2.1
   have hNQ := List.nodup_append.1 hNP.1
   have HDA : Hid (∀ p ∈ A, p ∉ P ++ D) := fun p hp hpq => hNA.2.2 p hp p (List.mem_append_left _ hpq) rfl
   have HDP : Hid (∀ p ∈ P, p ∉ D) := fun p hp hpq => hNQ.2.2 p hp p hpq rfl
   have HND2 : Hid D.Nodup := hNQ.2.1
   have hIw : NumsAt wr (P ++ D) := (hI.right.left).marked HM.out (fun p hp hpa => hNA.2.2 p hpa p (List.mem_append_left _ hp) rfl)
   have hIP : NumsAt wr P := hIw.left
   have HIP : Hid (∀ p ∈ P, p.1 < wr.heap.size) := fun p hp => (hIP p hp).1
   have HID : Hid (NumsAt wr D) := hIw.right
   have HAL : Hid (∀ p ∈ A, p.1 < w.heap.size) := fun p hp => (hI.left p hp).1
   have hQA : ∀ p ∈ A, ¬ Q p := fun p hp => hQp p (List.mem_append_left _ hp)
   have hc2 : wr.cell? ⟨b, i * 2 + 1, none⟩ = some x.av := (HM.out.2.1 (b, i * 2 + 1) hbz (fun h => hQA _ h hQ2)).trans hav
   have hLn := HL.out
   have hPl : P.length = 1 := by rw [hP]; rfl
   simp only [List.length_append] at hK
   have hq1 : D.length ≤ 4611686018427387904 := by omega
   have hk2 : k + L + 1 ≤ 4611686018427387904 := by omega
   have HC : Hid (∀ W, NumsAt W D → Calls Tryz.prog 30 #[x.av, .int .i64 (k + L + 1)] W fun e w' => e = .returned (.int .i64 (k + L + 1 + D.length)) ∧ Marked W w' D (k + L + 1)) := fun W hW => p_markDevs x.av D (k + L + 1) W hsD hW HND2.out (by omega) hk2 hq1
   obtain ⟨hb0, ⟨n0, c0⟩, f0⟩ : b < wr.heap.size ∧ (∃ n, wr.cell? ⟨b, i * 2, none⟩ = some (.int .i64 n)) ∧ wr.frozen? ⟨b, i * 2, none⟩ = false := hIP (b, i * 2) (by rw [hP]; simp)
   have HMP : Hid (Marked wr (wr.setCell ⟨b, i * 2, none⟩ (.int .i64 (k + L))) P (k + L)) := by rw [hP]; exact Marked.one (k + L) c0
   have HPL : Hid (P.length = 1) := hPl
   obtain ⟨xav, hxav⟩ : ∃ v, v = x.av := ⟨_, rfl⟩
   rw [← hxav] at hc2 HC hsD
   obtain ⟨a', n', cap', rfl, hz1, hz2⟩ := hsD
   clear hz1 hz2 hI hN hK hNA hNP hNQ hIw hIP hav hP hLn hQA hQp hQ2 hxav
   have w1 : IntKind.i64.wrap (k + (L : Int) + 1) = k + L + 1 := by rw [IntKind.wrap_i64]; omega
   go_wp2_with (go_at_call 30; refine (HC.out _ (HID.out.marked HMP.out (fun p hp hpp => HDP.out p hpp hp))).mono ?_; rintro e w3 ⟨rfl, hm3⟩)
   refine ⟨⟨i + 1, L + 1 + D.length, by omega, ?_, ?_, by go_num, ?_⟩, by simp [intOf]; omega⟩
   ·rw [HSN.out, List.length_append, List.length_append, HPL.out, ← HL.out]; omega
   ·congr 1; omega
   ·rw [HSN.out]
    refine Marked.append HM.out ?_ HAL.out HDA.out
    rw [← HL.out]
    refine Marked.append HMP.out ?_ HIP.out HDP.out
    rw [HPL.out]; exact hm3
  ·obtain rfl : i = n := by omega
   go_wp2
   go_ret
   have hT : qs.take i = qs := List.take_of_length_le (by have := HN.out; have := HQL.out; omega)
   refine ⟨ret_int (by rw [HL.out, hT]), ?_⟩
   have := HM.out
   rwa [hT] at this
theorem p_heldElems (Q : Pl → Prop) (v : Value) (es : List MElem) (k : Int) (w : World) (hsh : ESh Q w v es) (hh : HeldAt w (ePs v es) k) (hk0 : 0 ≤ k) (hkl : k + (ePs v es).length ≤ 4611686018427387904) :
  Calls Tryz.prog 44 #[v, .int .i64 k] w fun e w' => e = .returned (.int .i64 (k + (ePs v es).length)) ∧ w' = w := by
 obtain ⟨⟨a, cap, hv, ha⟩, hcs⟩ := hsh
 obtain ⟨b, hb⟩ : ∃ b, b = vb v := ⟨_, rfl⟩
 obtain ⟨qs, hqs⟩ : ∃ qs, qs = es.map MElem.dps := ⟨_, rfl⟩
 have hrps : ePs v es = elPs b 0 qs := by rw [hb, hqs]; rfl
 rw [hrps] at hh hkl ⊢
 rw [← hb] at ha hcs
 subst hv
 clear hb hrps
 obtain ⟨n, hn⟩ : ∃ n, n = es.length := ⟨_, rfl⟩
 have HN : Hid (n = es.length) := hn
 have HQL : Hid (qs.length = es.length) := by show _ = _; rw [hqs]; simp
 have HQG : Hid (∀ i (h : i < qs.length) (h' : i < es.length), qs[i] = es[i].dps) := by
  intro i h h'
  subst hqs
  rw [List.getElem_map]
 have HH : Hid (HeldAt w (elPs b 0 qs) k) := hh
 have HKL : Hid (k + (elPs b 0 qs).length ≤ 4611686018427387904) := hkl
 have HCS : Hid (∀ i (h : i < es.length), w.cell? ⟨b, i * 2 + 1, none⟩ = some es[i].av ∧ DevsSh es[i].av es[i].dps) := fun i h => (hcs i h).2.2
 have HA : Hid (0 < n → a = some ⟨b, 0, none⟩) := by rw [hn]; exact ha
 have hnb : n ≤ 4611686018427387904 := by
  have h3 := elPs_len b qs 0
  have := HQL.out
  omega
 rw [← hn]
 clear hh hkl ha hn hcs hqs
 go_enter Tryz.func44, Tryz.ntmps44
 go_wp2
 go_loopw [1, 5] (fun kv iv wr => ∃ (i : Nat) (L : Nat), i ≤ n ∧ L = (elPs b 0 (qs.take i)).length ∧ kv = .int .i64 (k + L) ∧ iv = .int .i64 i ∧ wr = w) (fun _ iv _ => n - (intOf iv).toNat)
 case atStart => exact ⟨0, 0, by omega, by simp [elPs], by simp, rfl, rfl⟩
 case round =>
  obtain ⟨i, L, hi, hL, rfl, rfl, rfl⟩ := hrel
  have HL : Hid (L = (elPs b 0 (qs.take i)).length) := hL
  clear hL
  by_cases hlt : i < n
  ·have hlk : i < es.length := by have := HN.out; omega
   have hlq : i < qs.length := by have := HQL.out; omega
   obtain rfl := HA.out (by omega)
   obtain ⟨hav, hsD0⟩ := HCS.out i hlk
   have hspl : elPs b 0 qs = elPs b 0 (qs.take i) ++ (((b, 0 + i * 2) :: qs[i]) ++ elPs b (0 + (i + 1) * 2) (qs.drop (i + 1))) := by
    rw [elPs_split b qs 0 (i + 1) (by omega), elPs_snoc b qs 0 i hlq, List.append_assoc]
   have HSN : Hid (elPs b 0 (qs.take (i + 1)) = elPs b 0 (qs.take i) ++ ((b, 0 + i * 2) :: qs[i])) := elPs_snoc b qs 0 i hlq
   rw [HQG.out i hlq hlk] at hspl HSN
   obtain ⟨x, hx⟩ : ∃ x, x = es[i] := ⟨_, rfl⟩
   rw [← hx] at hspl HSN hav hsD0
   have hH := HH.out
   have hK := HKL.out
   rw [hspl] at hH hK
   rw [Nat.zero_add] at hH hK HSN
   have hH2 := hH.right.left
   rw [← HL.out] at hH2
   obtain ⟨D, hD⟩ : ∃ D, D = x.dps := ⟨_, rfl⟩
   have hsD : DevsSh x.av D := by rw [hD]; exact hsD0
   rw [← hD] at hH2 hK HSN
   have c0 : wr.cell? ⟨b, i * 2, none⟩ = some (.int .i64 (k + L)) := by
    have h : wr.cell? ⟨b, i * 2, none⟩ = some (.int .i64 (k + L + ((0 : Nat) : Int))) := hH2 0 (by simp)
    simpa using h
   have hHq : HeldAt wr D (k + L + 1) := by
    have h2 : HeldAt wr ([(b, i * 2)] ++ D) (k + L) := hH2
    simpa using h2.right
   simp only [List.length_append, List.length_cons] at hK
   have hLn := HL.out
   have HC : Hid (Calls Tryz.prog 43 #[x.av, .int .i64 (k + L + 1)] wr fun e w' => e = .returned (.int .i64 (k + L + 1 + D.length)) ∧ w' = wr) := p_heldDevs x.av D (k + L + 1) wr hsD hHq (by omega) (by omega) (by omega)
   have w1 : IntKind.i64.wrap (k + (L : Int) + 1) = k + L + 1 := by rw [IntKind.wrap_i64]; omega
   have hpos : ¬ (k + (L : Int) + 1 + D.length < 0) := by omega
   obtain ⟨xav, hxav⟩ : ∃ v, v = x.av := ⟨_, rfl⟩
   rw [← hxav] at hav HC hsD
   obtain ⟨a', n', cap', rfl, hz1, hz2⟩ := hsD
   clear hz1 hz2 hspl hH hK hH2 hHq hLn hx hD hsD0 hxav
   go_wp2_with (go_at_call 43; refine HC.out.mono ?_; rintro e w3 ⟨rfl, rfl⟩)
   refine ⟨⟨i + 1, L + 1 + D.length, by omega, ?_, ?_, by go_num, trivial⟩, by simp [intOf]; omega⟩
   ·rw [HSN.out, List.length_append, ← HL.out]; simp; omega
   ·congr 1; omega
  ·obtain rfl : i = n := by omega
   go_wp2
   go_ret
   have hT : qs.take i = qs := List.take_of_length_le (by have := HN.out; have := HQL.out; omega)
   exact ⟨ret_int (by rw [HL.out, hT]), rfl⟩
/-- What belongs to an arm beyond its own two numbers. -/
def MArm.inner : MArm → List Pl
 | ⟨n, cv, cs, kv, kids⟩ => n.dps ++ (n.rps ++ (ePs cv cs ++ strPs 6 (vb kv) 0 (kids.map MArm.inner)))
def MArm.kps (m : MArm) : List Pl := strPs 6 (vb m.kv) 0 (m.kids.map MArm.inner)
theorem MArm.inner_eq (m : MArm) : m.inner = m.net.dps ++ (m.net.rps ++ (ePs m.cv m.coils ++ m.kps)) := by obtain ⟨n, cv, cs, kv, kids⟩ := m; rw [MArm.inner]; rfl
/-- How the arm lies; where the rows' values lie (Q) nothing is marked. -/
def ASh (Q : Pl → Prop) (w : World) : MArm → Prop
 | ⟨n, cv, cs, kv, kids⟩ => MSh Q w n ∧ ESh Q w cv cs ∧ (∃ a cap, kv = .slice a kids.length cap ∧ (0 < kids.length → a = some ⟨vb kv, 0, none⟩)) ∧
  (∀ i (h : i < kids.length), vb kv < w.heap.size ∧ (Q (vb kv, i * 6 + 2) ∧ Q (vb kv, i * 6 + 3) ∧ Q (vb kv, i * 6 + 4) ∧ Q (vb kv, i * 6 + 5)) ∧ w.cell? ⟨vb kv, i * 6 + 2, none⟩ = some kids[i].net.av ∧ w.cell? ⟨vb kv, i * 6 + 3, none⟩ = some kids[i].net.kv ∧ w.cell? ⟨vb kv, i * 6 + 4, none⟩ = some kids[i].cv ∧ w.cell? ⟨vb kv, i * 6 + 5, none⟩ = some kids[i].kv) ∧ ∀ p ∈ kids.map (ASh Q w), p
theorem ASh_iff (Q : Pl → Prop) (w : World) (m : MArm) : ASh Q w m ↔ MSh Q w m.net ∧ ESh Q w m.cv m.coils ∧ (∃ a cap, m.kv = .slice a m.kids.length cap ∧ (0 < m.kids.length → a = some ⟨vb m.kv, 0, none⟩)) ∧
  (∀ i (h : i < m.kids.length), vb m.kv < w.heap.size ∧ (Q (vb m.kv, i * 6 + 2) ∧ Q (vb m.kv, i * 6 + 3) ∧ Q (vb m.kv, i * 6 + 4) ∧ Q (vb m.kv, i * 6 + 5)) ∧ w.cell? ⟨vb m.kv, i * 6 + 2, none⟩ = some m.kids[i].net.av ∧ w.cell? ⟨vb m.kv, i * 6 + 3, none⟩ = some m.kids[i].net.kv ∧ w.cell? ⟨vb m.kv, i * 6 + 4, none⟩ = some m.kids[i].cv ∧ w.cell? ⟨vb m.kv, i * 6 + 5, none⟩ = some m.kids[i].kv) ∧ ∀ x ∈ m.kids, ASh Q w x := by
 obtain ⟨n, cv, cs, kv, kids⟩ := m
 rw [ASh, Stil.all_map]
theorem ASh.map {Q : Pl → Prop} {w w' : World} (hs : w.heap.size ≤ w'.heap.size) (hc : ∀ b o, b < w.heap.size → Q (b, o) → w'.cell? ⟨b, o, none⟩ = w.cell? ⟨b, o, none⟩) (m : MArm) : ASh Q w m → ASh Q w' m := by
 refine marm_ind (fun m => ASh Q w m → ASh Q w' m) ?_ m
 intro n cv cs kv kids ih h
 rw [ASh_iff] at h ⊢
 obtain ⟨h0, h1, h2, h3, h4⟩ := h
 refine ⟨MSh.map hs hc _ h0, h1.map hs hc, h2, fun i hi => ?_, fun x hx => ih x hx (h4 x hx)⟩
 obtain ⟨c1, ⟨q2, q3, q4, q5⟩, c2, c3, c4, c5⟩ := h3 i hi
 exact ⟨Nat.lt_of_lt_of_le c1 hs, ⟨q2, q3, q4, q5⟩, (hc _ _ c1 q2).trans c2, (hc _ _ c1 q3).trans c3, (hc _ _ c1 q4).trans c4, (hc _ _ c1 q5).trans c5⟩
theorem ASh.below {Q : Pl → Prop} {w w' : World} {m : MArm} (h : ASh Q w m) (hb : Below w.heap.size w w') : ASh Q w' m := ASh.map hb.size (fun b o hl _ => hb.cell (p := ⟨b, o, none⟩) hl) m h
theorem ASh.marked {Q : Pl → Prop} {w w' : World} {m : MArm} {ps : List Pl} {k : Int} (h : ASh Q w m) (hm : Marked w w' ps k) (hq : ∀ p ∈ ps, ¬ Q p) : ASh Q w' m := ASh.map hm.1 (fun b o hl hQ => hm.2.1 (b, o) hl (fun hp => hq _ hp hQ)) m h
theorem p_markArms (Q : Pl → Prop) (m : MArm) : ∀ (k : Int) (w : World), ASh Q w m → NumsAt w m.kps → m.kps.Nodup → (∀ p ∈ m.kps, ¬ Q p) → 0 ≤ k → k + m.kps.length ≤ 4611686018427387904 →
  Calls Tryz.prog 17 #[m.kv, .int .i64 k] w fun e w' => e = .returned (.int .i64 (k + m.kps.length)) ∧ Marked w w' m.kps k := by
 refine marm_ind (fun m => ∀ (k : Int) (w : World), ASh Q w m → NumsAt w m.kps → m.kps.Nodup → (∀ p ∈ m.kps, ¬ Q p) → 0 ≤ k → k + m.kps.length ≤ 4611686018427387904 →
  Calls Tryz.prog 17 #[m.kv, .int .i64 k] w fun e w' => e = .returned (.int .i64 (k + m.kps.length)) ∧ Marked w w' m.kps k) ?_ m
 intro nt cv0 cs0 kv0 kids ih k w hsh hi hnd hq hk0 hkl
 have IH : Hid (∀ x ∈ kids, ∀ (k : Int) (w : World), ASh Q w x → NumsAt w x.kps → x.kps.Nodup → (∀ p ∈ x.kps, ¬ Q p) → 0 ≤ k → k + x.kps.length ≤ 4611686018427387904 →
  Calls Tryz.prog 17 #[x.kv, .int .i64 k] w fun e w' => e = .returned (.int .i64 (k + x.kps.length)) ∧ Marked w w' x.kps k) := ih
 rw [ASh_iff] at hsh
 obtain ⟨_, _, ⟨a, cap, hkv, ha⟩, hcs, hks⟩ := hsh
 simp only at hkv ha hcs hks
 obtain ⟨b, hb⟩ : ∃ b, b = vb kv0 := ⟨_, rfl⟩
 obtain ⟨qs, hqs⟩ : ∃ qs, qs = kids.map MArm.inner := ⟨_, rfl⟩
 have hrps : (MArm.mk nt cv0 cs0 kv0 kids).kps = strPs 6 b 0 qs := by rw [hb, hqs]; rfl
 rw [hrps] at hi hnd hq hkl ⊢
 rw [← hb] at ha hcs
 simp only
 subst hkv
 clear hb hrps ih
 obtain ⟨n, hn⟩ : ∃ n, n = kids.length := ⟨_, rfl⟩
 have HN : Hid (n = kids.length) := hn
 have HQL : Hid (qs.length = kids.length) := by show _ = _; rw [hqs]; simp
 have HQG : Hid (∀ i (h : i < qs.length) (h' : i < kids.length), qs[i] = kids[i].net.dps ++ (kids[i].net.rps ++ (ePs kids[i].cv kids[i].coils ++ kids[i].kps))) := by
  intro i h h'
  subst hqs
  rw [List.getElem_map, MArm.inner_eq]
 have HI : Hid (NumsAt w (strPs 6 b 0 qs)) := hi
 have HND : Hid (strPs 6 b 0 qs).Nodup := hnd
 have HKL : Hid (k + (strPs 6 b 0 qs).length ≤ 4611686018427387904) := hkl
 have HQ : Hid (∀ p ∈ strPs 6 b 0 qs, ¬ Q p) := hq
 have HCS : Hid (∀ i (h : i < kids.length), b < w.heap.size ∧ (Q (b, i * 6 + 2) ∧ Q (b, i * 6 + 3) ∧ Q (b, i * 6 + 4) ∧ Q (b, i * 6 + 5)) ∧ w.cell? ⟨b, i * 6 + 2, none⟩ = some kids[i].net.av ∧ w.cell? ⟨b, i * 6 + 3, none⟩ = some kids[i].net.kv ∧ w.cell? ⟨b, i * 6 + 4, none⟩ = some kids[i].cv ∧ w.cell? ⟨b, i * 6 + 5, none⟩ = some kids[i].kv) := hcs
 have HKS : Hid (∀ x ∈ kids, ASh Q w x) := hks
 have HA : Hid (0 < n → a = some ⟨b, 0, none⟩) := by rw [hn]; exact ha
 have hnb : n ≤ 4611686018427387904 := by
  have h3 := strPs_len 6 b qs 0
  have := HQL.out
  omega
 rw [← hn]
 clear hi hnd hkl ha hn hcs hks hq hqs
 go_enter Tryz.func17, Tryz.ntmps17
 go_wp2
 go_loopw [1, 5] (fun kv iv wr => ∃ (i : Nat) (L : Nat), i ≤ n ∧ L = (strPs 6 b 0 (qs.take i)).length ∧ kv = .int .i64 (k + L) ∧ iv = .int .i64 i ∧ Marked w wr (strPs 6 b 0 (qs.take i)) k) (fun _ iv _ => n - (intOf iv).toNat)
 case atStart => exact ⟨0, 0, by omega, by simp [strPs], by simp, rfl, by simpa [strPs] using Marked.of_below (Below.refl _ _)⟩
 case round =>
  obtain ⟨i, L, hi, hL, rfl, rfl, hm⟩ := hrel
  have HM : Hid (Marked w wr (strPs 6 b 0 (qs.take i)) k) := hm
  have HL : Hid (L = (strPs 6 b 0 (qs.take i)).length) := hL
  clear hm hL
  by_cases hlt : i < n
  ·have hlk : i < kids.length := by have := HN.out; omega
   have hlq : i < qs.length := by have := HQL.out; omega
   obtain rfl := HA.out (by omega)
   obtain ⟨hbz, ⟨hQ2, hQ3, hQ4, hQ5⟩, hav, hnv, hcv, hkv⟩ := HCS.out i hlk
   have hshx := HKS.out _ (List.getElem_mem hlk)
   have hspl : strPs 6 b 0 qs = strPs 6 b 0 (qs.take i) ++ (((b, 0 + i * 6) :: (b, 0 + i * 6 + 1) :: qs[i]) ++ strPs 6 b (0 + (i + 1) * 6) (qs.drop (i + 1))) := by
    rw [strPs_split 6 b qs 0 (i + 1) (by omega), strPs_snoc 6 b qs 0 i hlq, List.append_assoc]
   have HSN : Hid (strPs 6 b 0 (qs.take (i + 1)) = strPs 6 b 0 (qs.take i) ++ ((b, 0 + i * 6) :: (b, 0 + i * 6 + 1) :: qs[i])) := strPs_snoc 6 b qs 0 i hlq
   rw [HQG.out i hlq hlk] at hspl HSN
   have IHX := IH.out _ (List.getElem_mem hlk)
   obtain ⟨x, hx⟩ : ∃ x, x = kids[i] := ⟨_, rfl⟩
   rw [← hx] at hspl HSN hav hnv hcv hkv hshx IHX
   have hI := HI.out
   have hN := HND.out
   have hK := HKL.out
   have hQp := HQ.out
   rw [hspl] at hI hN hK hQp
   obtain ⟨A, hA⟩ : ∃ A, A = strPs 6 b 0 (qs.take i) := ⟨_, rfl⟩
   obtain ⟨Z, hZ⟩ : ∃ Z, Z = strPs 6 b (0 + (i + 1) * 6) (qs.drop (i + 1)) := ⟨_, rfl⟩
   rw [← hA] at hI hN hK HM HL HSN hQp
   rw [← hZ] at hI hN hK hQp
   rw [Nat.zero_add] at hI hN hK hQp HSN
   obtain ⟨P, hP⟩ : ∃ P : List Pl, P = [(b, i * 6), (b, i * 6 + 1)] := ⟨_, rfl⟩
   obtain ⟨D, hD⟩ : ∃ D, D = x.net.dps := ⟨_, rfl⟩
   obtain ⟨R, hR⟩ : ∃ R, R = x.net.rps := ⟨_, rfl⟩
   obtain ⟨E, hE⟩ : ∃ E, E = ePs x.cv x.coils := ⟨_, rfl⟩
   obtain ⟨K, hKd⟩ : ∃ K, K = x.kps := ⟨_, rfl⟩
   have hPq : ((b, i * 6) :: (b, i * 6 + 1) :: (x.net.dps ++ (x.net.rps ++ (ePs x.cv x.coils ++ x.kps)))) = P ++ (D ++ (R ++ (E ++ K))) := by rw [hP, hD, hR, hE, hKd]; rfl
   rw [hPq] at hI hN hK HSN hQp
   have hshx2 := (ASh_iff Q w x).1 hshx
   have hsD : DevsSh x.net.av D := by rw [hD]; exact ((MSh_iff Q w x.net).1 hshx2.1).1
   have hsN : ∃ a n cap, x.net.kv = .slice a n cap := by
    obtain ⟨a1, c1, h1, _⟩ := ((MSh_iff Q w x.net).1 hshx2.1).2.1
    exact ⟨a1, _, c1, h1⟩
   have hsE : ∃ a n cap, x.cv = .slice a n cap := by
    obtain ⟨a1, c1, h1, _⟩ := hshx2.2.1.1
    exact ⟨a1, _, c1, h1⟩
   have hsK : ∃ a n cap, x.kv = .slice a n cap := by
    obtain ⟨a1, c1, h1, _⟩ := hshx2.2.2.1
    exact ⟨a1, _, c1, h1⟩
   clear hspl hA hZ hx hPq hshx2
   have hNA := List.nodup_append.1 hN
   have hNP := List.nodup_append.1 hNA.2.1
   have hNQ := List.nodup_append.1 hNP.1
   have hND := List.nodup_append.1 hNQ.2.1
   have hNR := List.nodup_append.1 hND.2.1
   have hNE := List.nodup_append.1 hNR.2.1
   have HDA : Hid (∀ p ∈ A, p ∉ P ++ (D ++ (R ++ (E ++ K)))) := fun p hp hpq => hNA.2.2 p hp p (List.mem_append_left _ hpq) rfl
   have HDP : Hid (∀ p ∈ P, p ∉ D ++ (R ++ (E ++ K))) := fun p hp hpq => hNQ.2.2 p hp p hpq rfl
   have HDD : Hid (∀ p ∈ D, p ∉ R ++ (E ++ K)) := fun p hp hpq => hND.2.2 p hp p hpq rfl
   have HDR : Hid (∀ p ∈ R, p ∉ E ++ K) := fun p hp hpq => hNR.2.2 p hp p hpq rfl
   have HDE : Hid (∀ p ∈ E, p ∉ K) := fun p hp hpq => hNE.2.2 p hp p hpq rfl
   have hIw : NumsAt wr (P ++ (D ++ (R ++ (E ++ K)))) := (hI.right.left).marked HM.out (fun p hp hpa => hNA.2.2 p hpa p (List.mem_append_left _ hp) rfl)
   have hIP : NumsAt wr P := hIw.left
   have HIP : Hid (∀ p ∈ P, p.1 < wr.heap.size) := fun p hp => (hIP p hp).1
   have HID : Hid (NumsAt wr D) := hIw.right.left
   have HIR : Hid (NumsAt wr R) := hIw.right.right.left
   have HIE : Hid (NumsAt wr E) := hIw.right.right.right.left
   have HIK : Hid (NumsAt wr K) := hIw.right.right.right.right
   have HAL : Hid (∀ p ∈ A, p.1 < w.heap.size) := fun p hp => (hI.left p hp).1
   have hQA : ∀ p ∈ A, ¬ Q p := fun p hp => hQp p (List.mem_append_left _ hp)
   have hQin : ∀ p ∈ P ++ (D ++ (R ++ (E ++ K))), ¬ Q p := fun p hp => hQp p (List.mem_append_right _ (List.mem_append_left _ hp))
   have HQP : Hid (∀ p ∈ P, ¬ Q p) := fun p hp => hQin p (List.mem_append_left _ hp)
   have HQD : Hid (∀ p ∈ D, ¬ Q p) := fun p hp => hQin p (List.mem_append_right _ (List.mem_append_left _ hp))
   have HQR : Hid (∀ p ∈ R, ¬ Q p) := fun p hp => hQin p (List.mem_append_right _ (List.mem_append_right _ (List.mem_append_left _ hp)))
   have HQE : Hid (∀ p ∈ E, ¬ Q p) := fun p hp => hQin p (List.mem_append_right _ (List.mem_append_right _ (List.mem_append_right _ (List.mem_append_left _ hp))))
   have hQK : ∀ p ∈ K, ¬ Q p := fun p hp => hQin p (List.mem_append_right _ (List.mem_append_right _ (List.mem_append_right _ (List.mem_append_right _ hp))))
   have hc2 : wr.cell? ⟨b, i * 6 + 2, none⟩ = some x.net.av := (HM.out.2.1 (b, i * 6 + 2) hbz (fun h => hQA _ h hQ2)).trans hav
   have hc3 : wr.cell? ⟨b, i * 6 + 3, none⟩ = some x.net.kv := (HM.out.2.1 (b, i * 6 + 3) hbz (fun h => hQA _ h hQ3)).trans hnv
   have hc4 : wr.cell? ⟨b, i * 6 + 4, none⟩ = some x.cv := (HM.out.2.1 (b, i * 6 + 4) hbz (fun h => hQA _ h hQ4)).trans hcv
   have hc5 : wr.cell? ⟨b, i * 6 + 5, none⟩ = some x.kv := (HM.out.2.1 (b, i * 6 + 5) hbz (fun h => hQA _ h hQ5)).trans hkv
   have HSX : Hid (ASh Q wr x) := hshx.marked HM.out hQA
   have hLn := HL.out
   have hPl : P.length = 2 := by rw [hP]; rfl
   simp only [List.length_append] at hK
   have HC : Hid (∀ W, NumsAt W D → Calls Tryz.prog 30 #[x.net.av, .int .i64 (k + L + 2)] W fun e w' => e = .returned (.int .i64 (k + L + 2 + D.length)) ∧ Marked W w' D (k + L + 2)) := fun W hW => p_markDevs x.net.av D (k + L + 2) W hsD hW hND.1 (by omega) (by omega) (by omega)
   have HC2 : Hid (∀ W, ASh Q W x → NumsAt W R → Calls Tryz.prog 32 #[x.net.kv, .int .i64 (k + L + 2 + D.length)] W fun e w' => e = .returned (.int .i64 (k + L + 2 + D.length + R.length)) ∧ Marked W w' R (k + L + 2 + D.length)) := by
    intro W h1 h2
    rw [hR] at h2 ⊢
    exact p_markNets Q x.net _ W ((ASh_iff Q W x).1 h1).1 h2 (by rw [← hR]; exact hNR.1) (by rw [← hR]; exact HQR.out) (by omega) (by rw [← hR]; omega)
   have HC3 : Hid (∀ W, ASh Q W x → NumsAt W E → Calls Tryz.prog 42 #[x.cv, .int .i64 (k + L + 2 + D.length + R.length)] W fun e w' => e = .returned (.int .i64 (k + L + 2 + D.length + R.length + E.length)) ∧ Marked W w' E (k + L + 2 + D.length + R.length)) := by
    intro W h1 h2
    rw [hE] at h2 ⊢
    exact p_markElems Q x.cv x.coils _ W ((ASh_iff Q W x).1 h1).2.1 h2 (by rw [← hE]; exact hNE.1) (by rw [← hE]; exact HQE.out) (by omega) (by rw [← hE]; omega)
   have HC4 : Hid (∀ W, ASh Q W x → NumsAt W K → Calls Tryz.prog 17 #[x.kv, .int .i64 (k + L + 2 + D.length + R.length + E.length)] W fun e w' => e = .returned (.int .i64 (k + L + 2 + D.length + R.length + E.length + K.length)) ∧ Marked W w' K (k + L + 2 + D.length + R.length + E.length)) := by
    intro W h1 h2
    rw [hKd] at h2 ⊢
    exact IHX _ W h1 h2 (by rw [← hKd]; exact hNE.2.1) (by rw [← hKd]; exact hQK) (by omega) (by rw [← hKd]; omega)
   obtain ⟨⟨hb0, ⟨n0, c0⟩, f0⟩, ⟨_, ⟨n1, c1⟩, f1⟩⟩ : (b < wr.heap.size ∧ (∃ n, wr.cell? ⟨b, i * 6, none⟩ = some (.int .i64 n)) ∧ wr.frozen? ⟨b, i * 6, none⟩ = false) ∧ (b < wr.heap.size ∧ (∃ n, wr.cell? ⟨b, i * 6 + 1, none⟩ = some (.int .i64 n)) ∧ wr.frozen? ⟨b, i * 6 + 1, none⟩ = false) :=
    ⟨hIP (b, i * 6) (by rw [hP]; simp), hIP (b, i * 6 + 1) (by rw [hP]; simp)⟩
   have HMP : Hid (Marked wr ((wr.setCell ⟨b, i * 6, none⟩ (.int .i64 (k + L))).setCell ⟨b, i * 6 + 1, none⟩ (.int .i64 (k + L + 1))) P (k + L)) := by rw [hP]; exact Marked.two (k + L) hb0 c0 c1
   have HPL : Hid (P.length = 2) := hPl
   have HQH : Hid (Q (b, i * 6 + 3) ∧ Q (b, i * 6 + 4) ∧ Q (b, i * 6 + 5)) := ⟨hQ3, hQ4, hQ5⟩
   have hkb : k + L + 2 ≤ 4611686018427387904 := by omega
   obtain ⟨xav, hxav⟩ : ∃ v, v = x.net.av := ⟨_, rfl⟩
   obtain ⟨xnv, hxnv⟩ : ∃ v, v = x.net.kv := ⟨_, rfl⟩
   obtain ⟨xcv, hxcv⟩ : ∃ v, v = x.cv := ⟨_, rfl⟩
   obtain ⟨xkv, hxkv⟩ : ∃ v, v = x.kv := ⟨_, rfl⟩
   rw [← hxav] at hc2 HC hsD
   rw [← hxnv] at hc3 HC2 hsN
   rw [← hxcv] at hc4 HC3 hsE
   rw [← hxkv] at hc5 HC4 hsK
   obtain ⟨a', n', cap', rfl, hz1, hz2⟩ := hsD
   obtain ⟨aN, nN, cN, rfl⟩ := hsN
   obtain ⟨aE, nE, cE, rfl⟩ := hsE
   obtain ⟨aK, nK, cK, rfl⟩ := hsK
   clear hz1 hz2 hI hN hK hNA hNP hNQ hND hNR hNE hIw hIP hav hnv hcv hkv hP hLn hQA hQK hQin hQp hshx IHX hQ2 hQ3 hQ4 hQ5 hxav hxnv hxcv hxkv hD hR hE hKd
   have w1 : IntKind.i64.wrap (k + (L : Int) + 1) = k + L + 1 := by rw [IntKind.wrap_i64]; omega
   have w2 : IntKind.i64.wrap (k + (L : Int) + 1 + 1) = k + L + 2 := by rw [IntKind.wrap_i64]; omega
   go_wp2_with (go_at_call 30; refine (HC.out _ (HID.out.marked HMP.out (fun p hp hpp => HDP.out p hpp (List.mem_append_left _ hp)))).mono ?_; rintro e w3 ⟨rfl, hm3⟩; have hb3 : b < w3.heap.size := Nat.lt_of_lt_of_le (by simpa using hb0) hm3.1; have g3 : w3.cell? ⟨b, i * 6 + 3, none⟩ = some (.slice aN nN cN) := (hm3.2.1 (b, i * 6 + 3) (by simpa using hb0) (fun h => HQD.out _ h HQH.out.1)).trans ((cellSetOff (by omega)).trans ((cellSetOff (by omega)).trans hc3)); have g4 : w3.cell? ⟨b, i * 6 + 4, none⟩ = some (.slice aE nE cE) := (hm3.2.1 (b, i * 6 + 4) (by simpa using hb0) (fun h => HQD.out _ h HQH.out.2.1)).trans ((cellSetOff (by omega)).trans ((cellSetOff (by omega)).trans hc4)); have g5 : w3.cell? ⟨b, i * 6 + 5, none⟩ = some (.slice aK nK cK) := (hm3.2.1 (b, i * 6 + 5) (by simpa using hb0) (fun h => HQD.out _ h HQH.out.2.2)).trans ((cellSetOff (by omega)).trans ((cellSetOff (by omega)).trans hc5)))
   have HS3 : Hid (ASh Q w3 x) := (HSX.out.marked HMP.out HQP.out).marked hm3 HQD.out
   have HR3 : Hid (NumsAt w3 R) := (HIR.out.marked HMP.out (fun p hp hpp => HDP.out p hpp (List.mem_append_right _ (List.mem_append_left _ hp)))).marked hm3 (fun p hp hpd => HDD.out p hpd (List.mem_append_left _ hp))
   have HE3 : Hid (NumsAt w3 E) := (HIE.out.marked HMP.out (fun p hp hpp => HDP.out p hpp (List.mem_append_right _ (List.mem_append_right _ (List.mem_append_left _ hp))))).marked hm3 (fun p hp hpd => HDD.out p hpd (List.mem_append_right _ (List.mem_append_left _ hp)))
   have HK3 : Hid (NumsAt w3 K) := (HIK.out.marked HMP.out (fun p hp hpp => HDP.out p hpp (List.mem_append_right _ (List.mem_append_right _ (List.mem_append_right _ hp))))).marked hm3 (fun p hp hpd => HDD.out p hpd (List.mem_append_right _ (List.mem_append_right _ hp)))
   have HM3 : Hid (Marked w w3 (A ++ (P ++ D)) k) := by
    refine Marked.append HM.out ?_ HAL.out (fun p hp hq => HDA.out p hp (by rcases List.mem_append.1 hq with h | h; exact List.mem_append_left _ h; exact List.mem_append_right _ (List.mem_append_left _ h)))
    rw [← HL.out]
    refine Marked.append HMP.out ?_ HIP.out (fun p hp hq => HDP.out p hp (List.mem_append_left _ hq))
    rw [HPL.out]; exact hm3
   have HID3 : Hid (∀ p ∈ D, p.1 < w3.heap.size) := fun p hp => Nat.lt_of_lt_of_le (HID.out p hp).1 (Nat.le_trans HMP.out.1 hm3.1)
   clear hm3 hc2 hc3 hc4 hc5 c0 c1 f0 f1
   go_wp2_with (go_at_call 32; refine (HC2.out _ HS3.out HR3.out).mono ?_; rintro e w4 ⟨rfl, hm4⟩; have hb4 : b < w4.heap.size := Nat.lt_of_lt_of_le hb3 hm4.1; have g4' : w4.cell? ⟨b, i * 6 + 4, none⟩ = some (.slice aE nE cE) := (hm4.2.1 (b, i * 6 + 4) hb3 (fun h => HQR.out _ h HQH.out.2.1)).trans g4; have g5' : w4.cell? ⟨b, i * 6 + 5, none⟩ = some (.slice aK nK cK) := (hm4.2.1 (b, i * 6 + 5) hb3 (fun h => HQR.out _ h HQH.out.2.2)).trans g5)
   have HS4 : Hid (ASh Q w4 x) := HS3.out.marked hm4 HQR.out
   have HE4 : Hid (NumsAt w4 E) := HE3.out.marked hm4 (fun p hp hpd => HDR.out p hpd (List.mem_append_left _ hp))
   have HK4 : Hid (NumsAt w4 K) := HK3.out.marked hm4 (fun p hp hpd => HDR.out p hpd (List.mem_append_right _ hp))
   have HM4 : Hid (Marked w3 w4 R (k + L + 2 + D.length)) := hm4
   clear hm4 g3 g4 g5
   go_wp2_with (go_at_call 42; refine (HC3.out _ HS4.out HE4.out).mono ?_; rintro e w5 ⟨rfl, hm5⟩; have hb5 : b < w5.heap.size := Nat.lt_of_lt_of_le hb4 hm5.1; have g5'' : w5.cell? ⟨b, i * 6 + 5, none⟩ = some (.slice aK nK cK) := (hm5.2.1 (b, i * 6 + 5) hb4 (fun h => HQE.out _ h HQH.out.2.2)).trans g5')
   have HS5 : Hid (ASh Q w5 x) := HS4.out.marked hm5 HQE.out
   have HK5 : Hid (NumsAt w5 K) := HK4.out.marked hm5 (fun p hp hpd => HDE.out p hpd hp)
   have HM5 : Hid (Marked w4 w5 E (k + L + 2 + D.length + R.length)) := hm5
   clear hm5 g4' g5'
   go_wp2_with (go_at_call 17; refine (HC4.out _ HS5.out HK5.out).mono ?_; rintro e w6 ⟨rfl, hm6⟩)
   refine ⟨⟨i + 1, L + 2 + D.length + R.length + E.length + K.length, by omega, ?_, ?_, by go_num, ?_⟩, by simp [intOf]; omega⟩
   ·rw [HSN.out, List.length_append, List.length_append, List.length_append, List.length_append, List.length_append, HPL.out, ← HL.out]; omega
   ·congr 1; omega
   ·have e1 : A ++ (P ++ (D ++ (R ++ (E ++ K)))) = (A ++ (P ++ D)) ++ (R ++ (E ++ K)) := by simp [List.append_assoc]
    rw [HSN.out, e1]
    have eL : k + ((A ++ (P ++ D)).length : Int) = k + L + 2 + D.length := by rw [List.length_append, List.length_append, HPL.out, ← HL.out]; omega
    refine Marked.append HM3.out ?_ ?_ ?_
    ·rw [eL]
     refine Marked.append HM4.out ?_ (fun p hp => (HR3.out p hp).1) HDR.out
     exact Marked.append HM5.out hm6 (fun p hp => (HE4.out p hp).1) HDE.out
    ·intro p hp
     rcases List.mem_append.1 hp with hp | hp
     ·exact HAL.out p hp
     ·have hz : wr.heap.size = w.heap.size ∨ w.heap.size ≤ wr.heap.size := .inr HM.out.1
      rcases List.mem_append.1 hp with hp | hp
      ·exact (HI.out p (by rw [strPs_split 6 b qs 0 (i + 1) (by omega), HSN.out]; exact List.mem_append_left _ (List.mem_append_right _ (List.mem_append_left _ hp)))).1
      ·exact (HI.out p (by rw [strPs_split 6 b qs 0 (i + 1) (by omega), HSN.out]; exact List.mem_append_left _ (List.mem_append_right _ (List.mem_append_right _ (List.mem_append_left _ hp))))).1
    ·intro p hp hq
     rcases List.mem_append.1 hp with hp | hp
     ·exact HDA.out p hp (List.mem_append_right _ (List.mem_append_right _ hq))
     ·rcases List.mem_append.1 hp with hp | hp
      ·exact HDP.out p hp (List.mem_append_right _ hq)
      ·exact HDD.out p hp hq
  ·obtain rfl : i = n := by omega
   go_wp2
   go_ret
   have hT : qs.take i = qs := List.take_of_length_le (by have := HN.out; have := HQL.out; omega)
   refine ⟨ret_int (by rw [HL.out, hT]), ?_⟩
   have := HM.out
   rwa [hT] at this
theorem p_heldArms (Q : Pl → Prop) (m : MArm) : ∀ (k : Int) (w : World), ASh Q w m → HeldAt w m.kps k → 0 ≤ k → k + m.kps.length ≤ 4611686018427387904 →
  Calls Tryz.prog 18 #[m.kv, .int .i64 k] w fun e w' => e = .returned (.int .i64 (k + m.kps.length)) ∧ w' = w := by
 refine marm_ind (fun m => ∀ (k : Int) (w : World), ASh Q w m → HeldAt w m.kps k → 0 ≤ k → k + m.kps.length ≤ 4611686018427387904 →
  Calls Tryz.prog 18 #[m.kv, .int .i64 k] w fun e w' => e = .returned (.int .i64 (k + m.kps.length)) ∧ w' = w) ?_ m
 intro nt cv0 cs0 kv0 kids ih k w hsh hh hk0 hkl
 have IH : Hid (∀ x ∈ kids, ∀ (k : Int) (w : World), ASh Q w x → HeldAt w x.kps k → 0 ≤ k → k + x.kps.length ≤ 4611686018427387904 →
  Calls Tryz.prog 18 #[x.kv, .int .i64 k] w fun e w' => e = .returned (.int .i64 (k + x.kps.length)) ∧ w' = w) := ih
 rw [ASh_iff] at hsh
 obtain ⟨_, _, ⟨a, cap, hkv, ha⟩, hcs, hks⟩ := hsh
 simp only at hkv ha hcs hks
 obtain ⟨b, hb⟩ : ∃ b, b = vb kv0 := ⟨_, rfl⟩
 obtain ⟨qs, hqs⟩ : ∃ qs, qs = kids.map MArm.inner := ⟨_, rfl⟩
 have hrps : (MArm.mk nt cv0 cs0 kv0 kids).kps = strPs 6 b 0 qs := by rw [hb, hqs]; rfl
 rw [hrps] at hh hkl ⊢
 rw [← hb] at ha hcs
 simp only
 subst hkv
 clear hb hrps ih
 obtain ⟨n, hn⟩ : ∃ n, n = kids.length := ⟨_, rfl⟩
 have HN : Hid (n = kids.length) := hn
 have HQL : Hid (qs.length = kids.length) := by show _ = _; rw [hqs]; simp
 have HQG : Hid (∀ i (h : i < qs.length) (h' : i < kids.length), qs[i] = kids[i].net.dps ++ (kids[i].net.rps ++ (ePs kids[i].cv kids[i].coils ++ kids[i].kps))) := by
  intro i h h'
  subst hqs
  rw [List.getElem_map, MArm.inner_eq]
 have HH : Hid (HeldAt w (strPs 6 b 0 qs) k) := hh
 have HKL : Hid (k + (strPs 6 b 0 qs).length ≤ 4611686018427387904) := hkl
 have HCS : Hid (∀ i (h : i < kids.length), w.cell? ⟨b, i * 6 + 2, none⟩ = some kids[i].net.av ∧ w.cell? ⟨b, i * 6 + 3, none⟩ = some kids[i].net.kv ∧ w.cell? ⟨b, i * 6 + 4, none⟩ = some kids[i].cv ∧ w.cell? ⟨b, i * 6 + 5, none⟩ = some kids[i].kv) := fun i h => (hcs i h).2.2
 have HKS : Hid (∀ x ∈ kids, ASh Q w x) := hks
 have HA : Hid (0 < n → a = some ⟨b, 0, none⟩) := by rw [hn]; exact ha
 have hnb : n ≤ 4611686018427387904 := by
  have h3 := strPs_len 6 b qs 0
  have := HQL.out
  omega
 rw [← hn]
 clear hh hkl ha hn hcs hks hqs
 go_enter Tryz.func18, Tryz.ntmps18
 go_wp2
 go_loopw [1, 5] (fun kv iv wr => ∃ (i : Nat) (L : Nat), i ≤ n ∧ L = (strPs 6 b 0 (qs.take i)).length ∧ kv = .int .i64 (k + L) ∧ iv = .int .i64 i ∧ wr = w) (fun _ iv _ => n - (intOf iv).toNat)
 case atStart => exact ⟨0, 0, by omega, by simp [strPs], by simp, rfl, rfl⟩
 case round =>
  obtain ⟨i, L, hi, hL, rfl, rfl, rfl⟩ := hrel
  have HL : Hid (L = (strPs 6 b 0 (qs.take i)).length) := hL
  clear hL
  by_cases hlt : i < n
  ·have hlk : i < kids.length := by have := HN.out; omega
   have hlq : i < qs.length := by have := HQL.out; omega
   obtain rfl := HA.out (by omega)
   obtain ⟨hav, hnv, hcv, hkv⟩ := HCS.out i hlk
   have hshx := HKS.out _ (List.getElem_mem hlk)
   have hspl : strPs 6 b 0 qs = strPs 6 b 0 (qs.take i) ++ (((b, 0 + i * 6) :: (b, 0 + i * 6 + 1) :: qs[i]) ++ strPs 6 b (0 + (i + 1) * 6) (qs.drop (i + 1))) := by
    rw [strPs_split 6 b qs 0 (i + 1) (by omega), strPs_snoc 6 b qs 0 i hlq, List.append_assoc]
   have HSN : Hid (strPs 6 b 0 (qs.take (i + 1)) = strPs 6 b 0 (qs.take i) ++ ((b, 0 + i * 6) :: (b, 0 + i * 6 + 1) :: qs[i])) := strPs_snoc 6 b qs 0 i hlq
   rw [HQG.out i hlq hlk] at hspl HSN
   have IHX := IH.out _ (List.getElem_mem hlk)
   obtain ⟨x, hx⟩ : ∃ x, x = kids[i] := ⟨_, rfl⟩
   rw [← hx] at hspl HSN hav hnv hcv hkv hshx IHX
   have hH := HH.out
   have hK := HKL.out
   rw [hspl] at hH hK
   rw [Nat.zero_add] at hH hK HSN
   have hH2 := hH.right.left
   rw [← HL.out] at hH2
   obtain ⟨D, hD⟩ : ∃ D, D = x.net.dps := ⟨_, rfl⟩
   obtain ⟨R, hR⟩ : ∃ R, R = x.net.rps := ⟨_, rfl⟩
   obtain ⟨E, hE⟩ : ∃ E, E = ePs x.cv x.coils := ⟨_, rfl⟩
   obtain ⟨K, hKd⟩ : ∃ K, K = x.kps := ⟨_, rfl⟩
   have hshx2 := (ASh_iff Q wr x).1 hshx
   have hsD : DevsSh x.net.av D := by rw [hD]; exact ((MSh_iff Q wr x.net).1 hshx2.1).1
   have hsN : ∃ a n cap, x.net.kv = .slice a n cap := by
    obtain ⟨a1, c1, h1, _⟩ := ((MSh_iff Q wr x.net).1 hshx2.1).2.1
    exact ⟨a1, _, c1, h1⟩
   have hsE : ∃ a n cap, x.cv = .slice a n cap := by
    obtain ⟨a1, c1, h1, _⟩ := hshx2.2.1.1
    exact ⟨a1, _, c1, h1⟩
   have hsK : ∃ a n cap, x.kv = .slice a n cap := by
    obtain ⟨a1, c1, h1, _⟩ := hshx2.2.2.1
    exact ⟨a1, _, c1, h1⟩
   rw [← hD, ← hR, ← hE, ← hKd] at hH2 hK HSN
   have c0 : wr.cell? ⟨b, i * 6, none⟩ = some (.int .i64 (k + L)) := by
    have h : wr.cell? ⟨b, i * 6, none⟩ = some (.int .i64 (k + L + ((0 : Nat) : Int))) := hH2 0 (by simp)
    simpa using h
   have c1 : wr.cell? ⟨b, i * 6 + 1, none⟩ = some (.int .i64 (k + L + 1)) := by
    have h : wr.cell? ⟨b, i * 6 + 1, none⟩ = some (.int .i64 (k + L + ((1 : Nat) : Int))) := hH2 1 (by simp)
    simpa using h
   have hHq : HeldAt wr (D ++ (R ++ (E ++ K))) (k + L + 2) := by
    have h2 : HeldAt wr ([(b, i * 6), (b, i * 6 + 1)] ++ (D ++ (R ++ (E ++ K)))) (k + L) := hH2
    simpa using h2.right
   simp only [List.length_append, List.length_cons] at hK
   have hLn := HL.out
   have hR1 := hHq.right.left
   have hE1 := hHq.right.right.left
   have hK1 := hHq.right.right.right
   have HC : Hid (Calls Tryz.prog 43 #[x.net.av, .int .i64 (k + L + 2)] wr fun e w' => e = .returned (.int .i64 (k + L + 2 + D.length)) ∧ w' = wr) := p_heldDevs x.net.av D (k + L + 2) wr hsD hHq.left (by omega) (by omega) (by omega)
   have HC2 : Hid (Calls Tryz.prog 34 #[x.net.kv, .int .i64 (k + L + 2 + D.length)] wr fun e w' => e = .returned (.int .i64 (k + L + 2 + D.length + R.length)) ∧ w' = wr) := by
    rw [hR] at hR1 ⊢
    exact p_heldNets Q x.net _ wr hshx2.1 hR1 (by omega) (by rw [← hR]; omega)
   have HC3 : Hid (Calls Tryz.prog 44 #[x.cv, .int .i64 (k + L + 2 + D.length + R.length)] wr fun e w' => e = .returned (.int .i64 (k + L + 2 + D.length + R.length + E.length)) ∧ w' = wr) := by
    rw [hE] at hE1 ⊢
    exact p_heldElems Q x.cv x.coils _ wr hshx2.2.1 hE1 (by omega) (by rw [← hE]; omega)
   have HC4 : Hid (Calls Tryz.prog 18 #[x.kv, .int .i64 (k + L + 2 + D.length + R.length + E.length)] wr fun e w' => e = .returned (.int .i64 (k + L + 2 + D.length + R.length + E.length + K.length)) ∧ w' = wr) := by
    rw [hKd] at hK1 ⊢
    exact IHX _ wr hshx hK1 (by omega) (by rw [← hKd]; omega)
   have w1 : IntKind.i64.wrap (k + (L : Int) + 1) = k + L + 1 := by rw [IntKind.wrap_i64]; omega
   have w2 : IntKind.i64.wrap (k + (L : Int) + 1 + 1) = k + L + 2 := by rw [IntKind.wrap_i64]; omega
   have hp1 : ¬ (k + (L : Int) + 2 + D.length < 0) := by omega
   have hp2 : ¬ (k + (L : Int) + 2 + D.length + R.length < 0) := by omega
   have hp3 : ¬ (k + (L : Int) + 2 + D.length + R.length + E.length < 0) := by omega
   have hp4 : ¬ (k + (L : Int) + 2 + D.length + R.length + E.length + K.length < 0) := by omega
   obtain ⟨xav, hxav⟩ : ∃ v, v = x.net.av := ⟨_, rfl⟩
   obtain ⟨xnv, hxnv⟩ : ∃ v, v = x.net.kv := ⟨_, rfl⟩
   obtain ⟨xcv, hxcv⟩ : ∃ v, v = x.cv := ⟨_, rfl⟩
   obtain ⟨xkv, hxkv⟩ : ∃ v, v = x.kv := ⟨_, rfl⟩
   rw [← hxav] at hav HC hsD
   rw [← hxnv] at hnv HC2 hsN
   rw [← hxcv] at hcv HC3 hsE
   rw [← hxkv] at hkv HC4 hsK
   obtain ⟨a', n', cap', rfl, hz1, hz2⟩ := hsD
   obtain ⟨aN, nN, cN, rfl⟩ := hsN
   obtain ⟨aE, nE, cE, rfl⟩ := hsE
   obtain ⟨aK, nK, cK, rfl⟩ := hsK
   clear hz1 hz2 hspl hH hK hH2 hHq hLn hx hD hR hE hKd hshx hshx2 IHX hxav hxnv hxcv hxkv hR1 hE1 hK1
   go_wp2_with (first | (go_at_call 43; refine HC.out.mono ?_; rintro e w3 ⟨rfl, rfl⟩) | (go_at_call 34; refine HC2.out.mono ?_; rintro e w4 ⟨rfl, rfl⟩) | (go_at_call 44; refine HC3.out.mono ?_; rintro e w5 ⟨rfl, rfl⟩) | (go_at_call 18; refine HC4.out.mono ?_; rintro e w6 ⟨rfl, rfl⟩))
   refine ⟨⟨i + 1, L + 2 + D.length + R.length + E.length + K.length, by omega, ?_, ?_, by go_num, trivial⟩, by simp [intOf]; omega⟩
   ·rw [HSN.out, List.length_append, ← HL.out]; simp; omega
   ·congr 1; omega
  ·obtain rfl : i = n := by omega
   go_wp2
   go_ret
   have hT : qs.take i = qs := List.take_of_length_le (by have := HN.out; have := HQL.out; omega)
   exact ⟨ret_int (by rw [HL.out, hT]), rfl⟩
/-- What a row holds: operands (0), nets (1), coils (2), arms (3); and where its numbers lie. -/
def isNum (t o : Nat) : Prop := match t with
 | 0 => True
 | 1 => o % 4 < 2
 | 2 => o % 2 = 0
 | _ => o % 6 < 2
abbrev Tg := Value × Nat
def MNet.tags : MNet → List Tg
 | ⟨_, _, _, av, kv, kids⟩ => (av, 0) :: (kv, 1) :: (kids.map MNet.tags).flatten
theorem MNet.tags_eq (m : MNet) : m.tags = (m.av, 0) :: (m.kv, 1) :: (m.kids.map MNet.tags).flatten := by obtain ⟨k, op, ds, av, kv, kids⟩ := m; rw [MNet.tags]
theorem MNet.tags_vals (m : MNet) : m.tags.map (·.1) = m.vals := by
 refine mnet_ind (fun m => m.tags.map (·.1) = m.vals) ?_ m
 intro k op ds av kv kids ih
 rw [MNet.tags_eq, MNet.vals_eq]
 simp only [List.map_cons, List.map_flatten, List.map_map, mVals]
 congr 3
 exact List.map_congr_left (fun x hx => ih x hx)
def MArm.tags : MArm → List Tg
 | ⟨n, cv, cs, kv, kids⟩ => n.tags ++ (((cv, 2) :: cs.map (fun m => (m.av, 0))) ++ ((kv, 3) :: (kids.map MArm.tags).flatten))
theorem MArm.tags_eq (m : MArm) : m.tags = m.net.tags ++ (((m.cv, 2) :: m.coils.map (fun m => (m.av, 0))) ++ ((m.kv, 3) :: (m.kids.map MArm.tags).flatten)) := by obtain ⟨n, cv, cs, kv, kids⟩ := m; rw [MArm.tags]
theorem MArm.tags_vals (m : MArm) : m.tags.map (·.1) = m.vals := by
 refine marm_ind (fun m => m.tags.map (·.1) = m.vals) ?_ m
 intro n cv cs kv kids ih
 rw [MArm.tags_eq, MArm.vals_eq]
 simp only [List.map_append, List.map_cons, List.map_flatten, List.map_map, aVals, MNet.tags_vals]
 congr 2
 ·congr 2
  exact List.map_congr_left (fun x hx => ih x hx)
theorem MNet.rows_tags (m : MNet) : ∀ v ∈ m.rows, (v, 1) ∈ m.tags := by
 refine mnet_ind (fun m => ∀ v ∈ m.rows, (v, 1) ∈ m.tags) ?_ m
 intro k op ds av kv kids ih v hv
 rw [MNet.rows_eq] at hv
 rw [MNet.tags_eq]
 rcases List.mem_cons.1 hv with hv | hv
 ·simp [hv]
 ·obtain ⟨l, hl, hv⟩ := List.mem_flatten.1 hv
  obtain ⟨x, hx, rfl⟩ := List.mem_map.1 hl
  exact List.mem_cons_of_mem _ (List.mem_cons_of_mem _ (List.mem_flatten.2 ⟨_, List.mem_map.2 ⟨x, hx, rfl⟩, ih x hx v hv⟩))
/-- Where the rows' values lie. -/
def headsT (ts : List Tg) (p : Pl) : Prop := ∃ t ∈ ts, t.1.ownBlock = some p.1 ∧ ¬ isNum t.2 p.2
/-- Where the rows' numbers lie. -/
def numsT (ts : List Tg) (p : Pl) : Prop := ∃ t ∈ ts, t.1.ownBlock = some p.1 ∧ isNum t.2 p.2
theorem tag_uniq {ts : List Tg} (h : (ts.map (·.1)).Pairwise Aside) {t u : Tg} (ht : t ∈ ts) (hu : u ∈ ts) {k : Nat} (h1 : t.1.ownBlock = some k) (h2 : u.1.ownBlock = some k) : t = u := by
 obtain ⟨i, hi, rfl⟩ := List.getElem_of_mem ht
 obtain ⟨j, hj, rfl⟩ := List.getElem_of_mem hu
 rw [List.pairwise_map] at h
 have hp := List.pairwise_iff_getElem.1 h
 rcases Nat.lt_trichotomy i j with e | e | e
 ·exact ((hp i j hi hj e).no h1 h2).elim
 ·subst e; rfl
 ·exact ((hp j i hj hi e).no h2 h1).elim
theorem nums_heads {ts : List Tg} (h : (ts.map (·.1)).Pairwise Aside) {p : Pl} (h1 : numsT ts p) : ¬ headsT ts p := by
 rintro ⟨u, hu, hb, hn⟩
 obtain ⟨t, ht, hb2, hn2⟩ := h1
 have e := tag_uniq h ht hu hb2 hb
 rw [e] at hn2
 exact hn hn2
theorem numsT.mono {ts us : List Tg} {p : Pl} (h : numsT ts p) (hs : ∀ t ∈ ts, t ∈ us) : numsT us p := by
 obtain ⟨t, ht, h1⟩ := h
 exact ⟨t, hs t ht, h1⟩
theorem headsT.mono {ts us : List Tg} {p : Pl} (h : headsT ts p) (hs : ∀ t ∈ ts, t ∈ us) : headsT us p := by
 obtain ⟨t, ht, h1⟩ := h
 exact ⟨t, hs t ht, h1⟩
theorem MNet.nums {w : World} {base : Nat} (m : MNet) : MOk w base m → ∀ p ∈ m.inner, numsT m.tags p := by
 refine mnet_ind (fun m => MOk w base m → ∀ p ∈ m.inner, numsT m.tags p) ?_ m
 intro k op ds av kv kids ih h p hp
 obtain ⟨hA, hK, hkids⟩ := (MOk_iff _ _ _).1 h
 simp only at hA hK hkids
 rw [MNet.inner_eq] at hp
 rw [MNet.tags_eq]
 rcases List.mem_append.1 hp with hp | hp
 ·exact ⟨(av, 0), by simp, ((devs_block hA).2.2 p hp).2, trivial⟩
 ·rcases strPs_mem 4 _ _ 0 p hp with ⟨i, hi, hp⟩ | ⟨q, hq, hp⟩
  ·have hi' : i < kids.length := by simpa using hi
   obtain ⟨g, cap, hv, _⟩ := ownsRow_cells hK (by omega)
   have hg : kv.ownBlock = some (vb kv) := by rw [hv]; rfl
   refine ⟨(kv, 1), by simp, ?_, ?_⟩
   ·rcases hp with rfl | rfl <;> exact hg
   ·rcases hp with rfl | rfl
    ·show (0 + i * 4) % 4 < 2; omega
    ·show (0 + i * 4 + 1) % 4 < 2; omega
  ·obtain ⟨x, hx, rfl⟩ := List.mem_map.1 hq
   exact (ih x hx (hkids x hx) p hp).mono (fun t ht => List.mem_cons_of_mem _ (List.mem_cons_of_mem _ (List.mem_flatten.2 ⟨_, List.mem_map.2 ⟨x, hx, rfl⟩, ht⟩)))
theorem elem_nums {w : World} {base : Nat} {v : Value} {es : List MElem} (h1 : w.ownsRow base 26 2 v es.length (eCells es)) (h2 : ∀ m ∈ es, EOk w base m) : ∀ p ∈ ePs v es, numsT ((v, 2) :: es.map (fun m => (m.av, 0))) p := by
 intro p hp
 rcases elPs_mem _ _ 0 p hp with ⟨i, hi, hp⟩ | ⟨q, hq, hp⟩
 ·have hi' : i < es.length := by simpa using hi
  obtain ⟨g, cap, hv, _⟩ := ownsRow_cells h1 (by omega)
  have hg : v.ownBlock = some (vb v) := by rw [hv]; rfl
  subst hp
  refine ⟨(v, 2), by simp, hg, ?_⟩
  show (0 + i * 2) % 2 = 0
  omega
 ·obtain ⟨x, hx, rfl⟩ := List.mem_map.1 hq
  exact ⟨(x.av, 0), List.mem_cons_of_mem _ (List.mem_map.2 ⟨x, hx, rfl⟩), ((devs_block (h2 x hx)).2.2 p hp).2, trivial⟩
theorem MArm.nums {w : World} {base : Nat} (m : MArm) : AOk w base m → ∀ p ∈ m.inner, numsT m.tags p := by
 refine marm_ind (fun m => AOk w base m → ∀ p ∈ m.inner, numsT m.tags p) ?_ m
 intro n cv cs kv kids ih h p hp
 obtain ⟨hN, ⟨hC, hCs⟩, hK, hkids⟩ := (AOk_iff _ _ _).1 h
 simp only at hN hC hCs hK hkids
 rw [MArm.inner_eq] at hp
 rw [MArm.tags_eq]
 simp only at hp ⊢
 rw [← List.append_assoc, ← MNet.inner_eq] at hp
 rcases List.mem_append.1 hp with hp | hp
 ·exact (n.nums hN p hp).mono (fun t ht => List.mem_append_left _ ht)
 rcases List.mem_append.1 hp with hp | hp
 ·exact (elem_nums hC hCs p hp).mono (fun t ht => List.mem_append_right _ (List.mem_append_left _ ht))
 ·rcases strPs_mem 6 _ _ 0 p hp with ⟨i, hi, hp⟩ | ⟨q, hq, hp⟩
  ·have hi' : i < kids.length := by simpa using hi
   obtain ⟨g, cap, hv, _⟩ := ownsRow_cells hK (by omega)
   have hg : kv.ownBlock = some (vb kv) := by rw [hv]; rfl
   refine ⟨(kv, 3), by simp, ?_, ?_⟩
   ·rcases hp with rfl | rfl <;> exact hg
   ·rcases hp with rfl | rfl
    ·show (0 + i * 6) % 6 < 2; omega
    ·show (0 + i * 6 + 1) % 6 < 2; omega
  ·obtain ⟨x, hx, rfl⟩ := List.mem_map.1 hq
   exact (ih x hx (hkids x hx) p hp).mono (fun t ht => List.mem_append_right _ (List.mem_append_right _ (List.mem_cons_of_mem _ (List.mem_flatten.2 ⟨_, List.mem_map.2 ⟨x, hx, rfl⟩, ht⟩))))
theorem ASh.mono {Q Q' : Pl → Prop} {w : World} (hq : ∀ p, Q p → Q' p) (m : MArm) : ASh Q w m → ASh Q' w m := by
 refine marm_ind (fun m => ASh Q w m → ASh Q' w m) ?_ m
 intro n cv cs kv kids ih h
 rw [ASh_iff] at h ⊢
 obtain ⟨h0, ⟨e1, e2⟩, h2, h3, h4⟩ := h
 refine ⟨MSh.mono hq _ h0, ⟨e1, fun i hi => ?_⟩, h2, fun i hi => ?_, fun x hx => ih x hx (h4 x hx)⟩
 ·obtain ⟨c1, c2, c3, c4⟩ := e2 i hi
  exact ⟨c1, hq _ c2, c3, c4⟩
 ·obtain ⟨c1, ⟨q2, q3, q4, q5⟩, c2⟩ := h3 i hi
  exact ⟨c1, ⟨hq _ q2, hq _ q3, hq _ q4, hq _ q5⟩, c2⟩
/-- Numbers lie at every place of a row of coils. -/
theorem elem_places {w : World} {base : Nat} {v : Value} {es : List MElem} (h : ERow w base v es) : ESh (headsT ((v, 2) :: es.map (fun m => (m.av, 0)))) w v es ∧ NumsAt w (ePs v es) ∧ (ePs v es).Nodup := by
 obtain ⟨h1, h2, hp⟩ := h
 rw [List.pairwise_cons] at hp
 have hkvb : 0 < es.length → v.ownBlock = some (vb v) := by
  intro hz
  obtain ⟨g, cap, hv, _⟩ := ownsRow_cells h1 hz
  rw [hv]; rfl
 refine ⟨⟨?_, fun i hi => ?_⟩, fun p hp2 => ?_, ?_⟩
 ·by_cases hz : es.length = 0
  ·obtain ⟨a, cap, rfl⟩ := slice_of_owns h1
   exact ⟨a, cap, rfl, fun h => absurd h (by omega)⟩
  ·obtain ⟨g, cap, hv, _⟩ := ownsRow_cells h1 (by omega)
   refine ⟨some ⟨g, 0, none⟩, cap, hv, fun _ => ?_⟩
   rw [hv]; rfl
 ·obtain ⟨g, cap, hv, _, hlt, _, hcell⟩ := ownsRow_cells h1 (by omega)
  have e : vb v = g := by rw [hv]; rfl
  obtain ⟨_, a2⟩ := eCells_get es i hi
  rw [e]
  refine ⟨hlt, ⟨(v, 2), by simp, by rw [hv]; rfl, ?_⟩, hcell _ _ a2, (devs_block (h2 _ (List.getElem_mem hi))).1⟩
  show ¬ (i * 2 + 1) % 2 = 0
  omega
 ·rcases elPs_mem _ _ 0 p hp2 with ⟨i, hi, hp3⟩ | ⟨q, hq, hp3⟩
  ·have hi' : i < es.length := by simpa using hi
   obtain ⟨g, cap, hv, _, hlt, _, hcell⟩ := ownsRow_cells h1 (by omega)
   have e : vb v = g := by rw [hv]; rfl
   obtain ⟨a1, _⟩ := eCells_get es i hi'
   subst hp3
   rw [e]
   subst hv
   exact ⟨hlt, ⟨_, by rw [ad]; simp only [Nat.zero_add]; exact hcell _ _ a1⟩, h1.frozenAt _⟩
  ·obtain ⟨x, hx, rfl⟩ := List.mem_map.1 hq
   exact (devs_block (h2 x hx)).2.1 p hp3
 ·refine elPs_nodup _ _ 0 (fun q hq => ?_) ?_
  ·obtain ⟨x, hx, rfl⟩ := List.mem_map.1 hq
   refine ⟨blockPs_nodup _ _, fun p hp3 e => ?_⟩
   have h3 := ((devs_block (h2 x hx)).2.2 p hp3).2
   rw [e] at h3
   exact (hp.1 x.av (mem_eVals.2 ⟨x, hx, rfl⟩)).no (hkvb (List.length_pos_of_mem hx)) h3
  ·rw [List.pairwise_map]
   have hpe := hp.2
   unfold eVals at hpe
   rw [List.pairwise_map] at hpe
   refine List.Pairwise.imp_of_mem (fun {a b} ha hb hab p hp3 hp4 => ?_) hpe
   exact hab.no ((devs_block (h2 a ha)).2.2 p hp3).2 ((devs_block (h2 b hb)).2.2 p hp4).2
theorem numsT.val {ts : List Tg} {p : Pl} (h : numsT ts p) : ∃ x ∈ ts.map (·.1), x.ownBlock = some p.1 := by
 obtain ⟨t, ht, h1, _⟩ := h
 exact ⟨t.1, List.mem_map.2 ⟨t, ht, rfl⟩, h1⟩
theorem etags_vals (v : Value) (es : List MElem) : ((v, 2) :: es.map (fun m => (m.av, 0)) : List Tg).map (·.1) = v :: eVals es := by
 simp [eVals, Function.comp]
theorem MArm.nums_at {w : World} {base : Nat} (m : MArm) : AOwn w base m → ASh (headsT m.tags) w m ∧ NumsAt w m.inner ∧ m.inner.Nodup := by
 refine marm_ind (fun m => AOwn w base m → ASh (headsT m.tags) w m ∧ NumsAt w m.inner ∧ m.inner.Nodup) ?_ m
 intro n cv cs kv kids ih h
 obtain ⟨hok, hpw⟩ := h
 obtain ⟨hN, ⟨hC, hCs⟩, hK, hkids⟩ := (AOk_iff _ _ _).1 hok
 simp only at hN hC hCs hK hkids
 rw [MArm.vals_eq] at hpw
 simp only at hpw
 obtain ⟨pN, pR, pNR⟩ := List.pairwise_append.1 hpw
 obtain ⟨pC, pK, pCK⟩ := List.pairwise_append.1 pR
 obtain ⟨pKv, pKs⟩ := List.pairwise_cons.1 pK
 have pKs2 := pKs
 unfold aVals at pKs2
 rw [List.pairwise_flatten] at pKs2
 have hown : ∀ x ∈ kids, AOwn w base x := fun x hx => ⟨hkids x hx, pKs2.1 _ (List.mem_map.2 ⟨x, hx, rfl⟩)⟩
 have hvm : ∀ x ∈ kids, ∀ v ∈ x.vals, v ∈ aVals kids := fun x hx v hv => mem_aVals.2 ⟨x, hx, hv⟩
 obtain ⟨nS, nN, nD, _, _⟩ := MNet.places n ⟨hN, pN⟩
 obtain ⟨eS, eN, eD⟩ := elem_places (v := cv) (es := cs) ⟨hC, hCs, pC⟩
 have hnn := n.nums hN
 have hen := elem_nums hC hCs
 have hkvb : 0 < kids.length → kv.ownBlock = some (vb kv) := by
  intro hz
  obtain ⟨g, cap, hv, _⟩ := ownsRow_cells hK hz
  rw [hv]; rfl
 have hkn : ∀ x ∈ kids, ∀ p ∈ x.inner, ∃ v ∈ x.vals, v.ownBlock = some p.1 := by
  intro x hx p hp
  obtain ⟨v, hv, hb⟩ := (x.nums (hkids x hx) p hp).val
  rw [MArm.tags_vals] at hv
  exact ⟨v, hv, hb⟩
 have hkps : ∀ p ∈ (MArm.mk n cv cs kv kids).kps, ∃ v ∈ kv :: aVals kids, v.ownBlock = some p.1 := by
  intro p hp
  rcases strPs_mem 6 _ _ 0 p hp with ⟨i, hi, hp⟩ | ⟨q, hq, hp⟩
  ·have hi' : i < kids.length := by simpa using hi
   refine ⟨kv, by simp, ?_⟩
   rcases hp with rfl | rfl <;> exact hkvb (by omega)
  ·obtain ⟨x, hx, rfl⟩ := List.mem_map.1 hq
   obtain ⟨v, hv, hb⟩ := hkn x hx p hp
   exact ⟨v, List.mem_cons_of_mem _ (hvm x hx v hv), hb⟩
 have hin : (MArm.mk n cv cs kv kids).inner = n.inner ++ (ePs cv cs ++ (MArm.mk n cv cs kv kids).kps) := by
  rw [MArm.inner_eq, ← List.append_assoc, ← MNet.inner_eq]
 refine ⟨?_, ?_, ?_⟩
 ·rw [ASh_iff]
  refine ⟨MSh.mono (fun p hp => ?_) n nS, ⟨eS.1, fun i hi => ?_⟩, ?_, fun i hi => ?_, fun x hx => ASh.mono (fun p hp => hp.mono (fun t ht => ?_)) x (ih x hx (hown x hx)).1⟩
  ·obtain ⟨h4, v, hv, hb⟩ := hp
   refine ⟨(v, 1), ?_, hb, ?_⟩
   ·rw [MArm.tags_eq]; exact List.mem_append_left _ (n.rows_tags v hv)
   ·show ¬ p.2 % 4 < 2
    omega
  ·obtain ⟨c1, c2, c3, c4⟩ := eS.2 i hi
   exact ⟨c1, c2.mono (fun t ht => by rw [MArm.tags_eq]; exact List.mem_append_right _ (List.mem_append_left _ ht)), c3, c4⟩
  ·simp only
   by_cases hz : kids.length = 0
   ·obtain ⟨a, cap, rfl⟩ := slice_of_owns hK
    exact ⟨a, cap, rfl, fun h => absurd h (by omega)⟩
   ·obtain ⟨g, cap, hv, _⟩ := ownsRow_cells hK (by omega)
    refine ⟨some ⟨g, 0, none⟩, cap, hv, fun _ => ?_⟩
    rw [hv]; rfl
  ·simp only at hi ⊢
   obtain ⟨g, cap, hv, _, hlt, _, hcell⟩ := ownsRow_cells hK (by omega)
   have e : vb kv = g := by rw [hv]; rfl
   have hg : kv.ownBlock = some g := by rw [hv]; rfl
   rw [e]
   obtain ⟨_, _, a3, a4, a5, a6⟩ := aCells_get kids i hi
   have hh : ∀ o, ¬ o % 6 < 2 → headsT (MArm.mk n cv cs kv kids).tags (g, o) := fun o ho => ⟨(kv, 3), by rw [MArm.tags_eq]; simp, hg, ho⟩
   exact ⟨hlt, ⟨hh _ (by omega), hh _ (by omega), hh _ (by omega), hh _ (by omega)⟩, hcell _ _ a3, hcell _ _ a4, hcell _ _ a5, hcell _ _ a6⟩
  ·rw [MArm.tags_eq]
   exact List.mem_append_right _ (List.mem_append_right _ (List.mem_cons_of_mem _ (List.mem_flatten.2 ⟨_, List.mem_map.2 ⟨x, hx, rfl⟩, ht⟩)))
 ·rw [hin]
  intro p hp
  rcases List.mem_append.1 hp with hp | hp
  ·exact nN p hp
  rcases List.mem_append.1 hp with hp | hp
  ·exact eN p hp
  ·rcases strPs_mem 6 _ _ 0 p hp with ⟨i, hi, hp5⟩ | ⟨q, hq, hp5⟩
   ·have hi' : i < kids.length := by simpa using hi
    obtain ⟨g, cap, hv, _, hlt, _, hcell⟩ := ownsRow_cells hK (by omega)
    have e : vb kv = g := by rw [hv]; rfl
    have hfz : ∀ o, w.frozen? ⟨g, o, none⟩ = false := fun o => by
     rw [hv] at hK
     exact hK.frozenAt o
    simp only [e] at hp5
    obtain ⟨a1, a2, _, _, _, _⟩ := aCells_get kids i hi'
    rcases hp5 with hp5 | hp5
    ·rw [hp5]
     exact ⟨hlt, ⟨_, by rw [ad]; simp only [Nat.zero_add]; exact hcell _ _ a1⟩, hfz _⟩
    ·rw [hp5]
     exact ⟨hlt, ⟨_, by rw [ad]; simp only [Nat.zero_add]; exact hcell _ _ a2⟩, hfz _⟩
   ·obtain ⟨x, hx, rfl⟩ := List.mem_map.1 hq
    exact (ih x hx (hown x hx)).2.1 p hp5
 ·rw [hin, List.nodup_append]
  refine ⟨nD, List.nodup_append.2 ⟨eD, strPs_nodup 6 _ (by omega) _ 0 (fun q hq => ?_) ?_, fun p hp r hr e => ?_⟩, fun p hp r hr e => ?_⟩
  ·obtain ⟨x, hx, rfl⟩ := List.mem_map.1 hq
   refine ⟨(ih x hx (hown x hx)).2.2, fun p hp e => ?_⟩
   obtain ⟨v, hv, hb⟩ := hkn x hx p hp
   simp only at e
   rw [e] at hb
   exact (pKv v (hvm x hx v hv)).no (hkvb (List.length_pos_of_mem hx)) hb
  ·rw [List.pairwise_map]
   refine List.pairwise_iff_getElem.2 (fun i j hi hj hij p hp hp2 => ?_)
   have hx := List.getElem_mem hi
   have hy := List.getElem_mem hj
   obtain ⟨u, hu, h1⟩ := hkn _ hx p hp
   obtain ⟨v, hv, h2⟩ := hkn _ hy p hp2
   have hpp := pKs2.2
   rw [List.pairwise_map] at hpp
   exact ((List.pairwise_iff_getElem.1 hpp) i j hi hj hij u hu v hv).no h1 h2
  ·subst e
   obtain ⟨u, hu, h1⟩ := (hen p hp).val
   rw [etags_vals] at hu
   obtain ⟨v, hv, h2⟩ := hkps p hr
   exact (pCK u hu v hv).no h1 h2
  ·subst e
   obtain ⟨u, hu, h1⟩ := (hnn p hp).val
   rw [MNet.tags_vals] at hu
   rcases List.mem_append.1 hr with hr | hr
   ·obtain ⟨v, hv, h2⟩ := (hen p hr).val
    rw [etags_vals] at hv
    exact (pNR u hu v (List.mem_append_left _ hv)).no h1 h2
   ·obtain ⟨v, hv, h2⟩ := hkps p hr
    exact (pNR u hu v (List.mem_append_right _ hv)).no h1 h2
theorem MArm.places {w : World} {base : Nat} (m : MArm) (h : AOwn w base m) : ASh (headsT m.tags) w m ∧ NumsAt w m.inner ∧ m.inner.Nodup ∧ (∀ p ∈ m.inner, base ≤ p.1) ∧ (∀ p ∈ m.inner, ¬ headsT m.tags p) ∧ ∀ p, headsT m.tags p → base ≤ p.1 := by
 obtain ⟨h1, h2, h3⟩ := m.nums_at h
 refine ⟨h1, h2, h3, fun p hp => ?_, fun p hp => ?_, fun p hp => ?_⟩
 ·obtain ⟨v, hv, hb⟩ := (m.nums h.1 p hp).val
  rw [MArm.tags_vals] at hv
  exact (h.1.lt m v hv _ hb).1
 ·exact nums_heads (by rw [MArm.tags_vals]; exact h.2) (m.nums h.1 p hp)
 ·obtain ⟨t, ht, hb, _⟩ := hp
  refine (h.1.lt m t.1 ?_ _ hb).1
  rw [← MArm.tags_vals]
  exact List.mem_map.2 ⟨t, ht, rfl⟩
end Go.Proofs.YtpaljcoojkbhnaaGreatDoor
