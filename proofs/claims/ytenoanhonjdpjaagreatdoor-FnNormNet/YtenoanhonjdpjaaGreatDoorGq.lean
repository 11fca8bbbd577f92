/- Z1, Z2, Z3, Z4, Z5, Z5b: texts put together. -/
import Derived.Test.YtenoanhonjdpjaaGreatDoorGm
import Derived.Test.YtenoanhonjdpjaaGreatDoorGl
import Derived.Test.YtenoanhonjdpjaaGreatDoorY8
/- Coils and arms in memory of their own: trees of what lies where. -/
namespace Go.Proofs.YtenoanhonjdpjaaGreatDoor
open Go.RowKit Go.Sort Go.BigFrame
/-- A coil, with the value of its operands' row. -/
structure MElem where
  op : Int
  ds : List Stil.Dev
  av : Value
def MElem.elem (m : MElem) : Stil.Elem := ⟨m.op, m.ds⟩
def eVals (es : List MElem) : List Value := es.map MElem.av
def MElem.cells (m : MElem) : List Value := [.int .i64 m.op, m.av]
def eCells (es : List MElem) : List Value := es.flatMap MElem.cells
theorem eCells_append (a b : List MElem) : eCells (a ++ b) = eCells a ++ eCells b := by simp [eCells]
theorem eVals_append (a b : List MElem) : eVals (a ++ b) = eVals a ++ eVals b := by simp [eVals]
theorem mem_eVals {es : List MElem} {x : Value} : x ∈ eVals es ↔ ∃ m ∈ es, m.av = x := by simp [eVals]
theorem eCells_len (es : List MElem) : (eCells es).length = es.length * 2 := by
  induction es with
  | nil => rfl
  | cons m r ih =>
    have e : eCells (m :: r) = m.cells ++ eCells r := rfl
    rw [e, List.length_append, ih]
    simp [MElem.cells]; omega
theorem eCells_get : ∀ (es : List MElem) (i : Nat) (h : i < es.length), (eCells es)[i * 2]? = some (.int .i64 es[i].op) ∧ (eCells es)[i * 2 + 1]? = some es[i].av
  | [], _, h => by simp at h
  | m :: r, 0, _ => ⟨rfl, rfl⟩
  | m :: r, i + 1, h => by
    obtain ⟨a1, a2⟩ := eCells_get r i (by simpa using h)
    have e : eCells (m :: r) = .int .i64 m.op :: m.av :: eCells r := rfl
    have e1 : (i + 1) * 2 = i * 2 + 1 + 1 := by omega
    rw [e, e1]
    exact ⟨by simpa using a1, by simpa using a2⟩
def EOk (w : World) (base : Nat) (m : MElem) : Prop := w.ownsRow base 42 3 m.av m.ds.length (devsCells m.ds)
/-- A row of coils in memory of its own. -/
def ERow (w : World) (base : Nat) (v : Value) (es : List MElem) : Prop := w.ownsRow base 30 2 v es.length (eCells es) ∧ (∀ m ∈ es, EOk w base m) ∧ (v :: eVals es).Pairwise Aside
theorem ERow.nil (w : World) (base : Nat) : ERow w base (.slice none 0 0) [] := ⟨World.ownsRow_nil _ _ _ _, (fun m hm => by cases hm), List.pairwise_singleton _ _⟩
theorem ERow.below {w w' : World} {base : Nat} {v : Value} {es : List MElem} (h : ERow w base v es) (hb : Below w.heap.size w w') : ERow w' base v es := ⟨ownsRow_below h.1 hb, fun m hm => ownsRow_below (h.2.1 m hm) hb, h.2.2⟩
theorem ERow.le {w : World} {base base' : Nat} {v : Value} {es : List MElem} (h : ERow w base v es) (hl : base' ≤ base) : ERow w base' v es := ⟨Joins.ownsRow_le h.1 hl, fun m hm => Joins.ownsRow_le (h.2.1 m hm) hl, h.2.2⟩
theorem ERow.lt {w : World} {base : Nat} {v : Value} {es : List MElem} (h : ERow w base v es) : ∀ x ∈ v :: eVals es, ∀ k, x.ownBlock = some k → base ≤ k ∧ k < w.heap.size := by
  intro x hx k hk
  rcases List.mem_cons.1 hx with rfl | hx
  · exact h.1.lt k hk
  · obtain ⟨m, hm, rfl⟩ := mem_eVals.1 hx
    exact (h.2.1 m hm).lt k hk
theorem ERow.add {w w' : World} {base : Nat} {v v' : Value} {es ks : List MElem} (h : ERow w base v es) (hk : ∀ m ∈ ks, EOk w base m) (hp : (v :: (eVals es ++ eVals ks)).Pairwise Aside)
    (hown : w'.ownsRow base 30 2 v' (es.length + ks.length) (eCells es ++ eCells ks)) (hg : w.grownBy w' v.ownBlock) (hat : v'.ownBlock = v.ownBlock ∨ v'.ownBlock = some w.heap.size) : ERow w' base v' (es ++ ks) := by
  rw [List.pairwise_cons] at hp
  have hkl : ∀ x ∈ eVals es ++ eVals ks, ∀ k, x.ownBlock = some k → k < w.heap.size := by
    intro x hx k hk2
    rcases List.mem_append.1 hx with hx | hx
    · exact (h.lt x (List.mem_cons_of_mem _ hx) k hk2).2
    · obtain ⟨m, hm, rfl⟩ := mem_eVals.1 hx
      exact ((hk m hm).lt k hk2).2
  refine ⟨by rw [List.length_append, eCells_append]; exact hown, fun m hm => ?_, ?_⟩
  · rcases List.mem_append.1 hm with hm | hm
    · exact (h.2.1 m hm).kept hg (hp.1 _ (List.mem_append_left _ (mem_eVals.2 ⟨m, hm, rfl⟩))).symm
    · exact (hk m hm).kept hg (hp.1 _ (List.mem_append_right _ (mem_eVals.2 ⟨m, hm, rfl⟩))).symm
  · rw [eVals_append, List.pairwise_cons]
    refine ⟨fun y hy => ?_, hp.2⟩
    rcases hat with e | e
    · rcases hp.1 y hy with h0 | h0
      · exact .inl (by rw [e]; exact h0)
      · exact .inr (by rw [e]; exact h0)
    · refine .inr (fun e2 => ?_)
      rw [e] at e2
      have := hkl y hy _ e2.symm
      omega
/-- An arm, with the values of its rows. -/
structure MArm where
  net : MNet
  cv : Value
  coils : List MElem
  kv : Value
  kids : List MArm
theorem marm_ind (P : MArm → Prop) (h : ∀ n cv cs kv kids, (∀ x ∈ kids, P x) → P ⟨n, cv, cs, kv, kids⟩) : ∀ n, P n
  | ⟨n, cv, cs, kv, kids⟩ => h n cv cs kv kids (fun x _ => marm_ind P h x)
def MArm.arm : MArm → Stil.Arm
  | ⟨n, _, cs, _, kids⟩ => ⟨n.net, cs.map MElem.elem, kids.map MArm.arm⟩
theorem MArm.arm_eq (m : MArm) : m.arm = ⟨m.net.net, m.coils.map MElem.elem, m.kids.map MArm.arm⟩ := by obtain ⟨n, cv, cs, kv, kids⟩ := m; rw [MArm.arm]
def MArm.vals : MArm → List Value
  | ⟨n, cv, cs, kv, kids⟩ => n.vals ++ ((cv :: eVals cs) ++ (kv :: (kids.map MArm.vals).flatten))
def aVals (ars : List MArm) : List Value := (ars.map MArm.vals).flatten
theorem MArm.vals_eq (m : MArm) : m.vals = m.net.vals ++ ((m.cv :: eVals m.coils) ++ (m.kv :: aVals m.kids)) := by obtain ⟨n, cv, cs, kv, kids⟩ := m; rw [MArm.vals]; rfl
theorem aVals_append (a b : List MArm) : aVals (a ++ b) = aVals a ++ aVals b := by simp [aVals]
theorem aVals_one (m : MArm) : aVals [m] = m.vals := by simp [aVals]
theorem mem_aVals {ars : List MArm} {x : Value} : x ∈ aVals ars ↔ ∃ m ∈ ars, x ∈ m.vals := by
  simp only [aVals, List.mem_flatten, List.mem_map]
  constructor
  · rintro ⟨_, ⟨m, hm, rfl⟩, hx⟩; exact ⟨m, hm, hx⟩
  · rintro ⟨m, hm, hx⟩; exact ⟨_, ⟨m, hm, rfl⟩, hx⟩
def MArm.cells (m : MArm) : List Value := [.int .i64 m.net.kind, .int .i64 m.net.op, m.net.av, m.net.kv, m.cv, m.kv]
def aCells (ars : List MArm) : List Value := ars.flatMap MArm.cells
theorem aCells_append (a b : List MArm) : aCells (a ++ b) = aCells a ++ aCells b := by simp [aCells]
theorem aCells_len (ars : List MArm) : (aCells ars).length = ars.length * 6 := by
  induction ars with
  | nil => rfl
  | cons m r ih =>
    have e : aCells (m :: r) = m.cells ++ aCells r := rfl
    rw [e, List.length_append, ih]
    simp [MArm.cells]; omega
theorem aCells_get : ∀ (ars : List MArm) (i : Nat) (h : i < ars.length), (aCells ars)[i * 6]? = some (.int .i64 ars[i].net.kind) ∧ (aCells ars)[i * 6 + 1]? = some (.int .i64 ars[i].net.op) ∧ (aCells ars)[i * 6 + 2]? = some ars[i].net.av ∧ (aCells ars)[i * 6 + 3]? = some ars[i].net.kv ∧ (aCells ars)[i * 6 + 4]? = some ars[i].cv ∧ (aCells ars)[i * 6 + 5]? = some ars[i].kv
  | [], _, h => by simp at h
  | m :: r, 0, _ => ⟨rfl, rfl, rfl, rfl, rfl, rfl⟩
  | m :: r, i + 1, h => by
    obtain ⟨a1, a2, a3, a4, a5, a6⟩ := aCells_get r i (by simpa using h)
    have e : aCells (m :: r) = .int .i64 m.net.kind :: .int .i64 m.net.op :: m.net.av :: m.net.kv :: m.cv :: m.kv :: aCells r := rfl
    have e1 : (i + 1) * 6 = i * 6 + 1 + 1 + 1 + 1 + 1 + 1 := by omega
    rw [e, e1]
    exact ⟨by simpa using a1, by simpa using a2, by simpa using a3, by simpa using a4, by simpa using a5, by simpa using a6⟩
/-- The arm owns its memory. -/
def AOk (w : World) (base : Nat) : MArm → Prop
  | ⟨n, cv, cs, kv, kids⟩ => MOk w base n ∧ (w.ownsRow base 30 2 cv cs.length (eCells cs) ∧ ∀ m ∈ cs, EOk w base m) ∧ w.ownsRow base 36 6 kv kids.length (aCells kids) ∧ ∀ p ∈ kids.map (AOk w base), p
theorem AOk_iff (w : World) (base : Nat) (m : MArm) : AOk w base m ↔ MOk w base m.net ∧ (w.ownsRow base 30 2 m.cv m.coils.length (eCells m.coils) ∧ ∀ x ∈ m.coils, EOk w base x) ∧ w.ownsRow base 36 6 m.kv m.kids.length (aCells m.kids) ∧ ∀ x ∈ m.kids, AOk w base x := by
  obtain ⟨n, cv, cs, kv, kids⟩ := m
  rw [AOk, Stil.all_map]
theorem AOk.map {w w' : World} {base base' : Nat} (m : MArm) (h : AOk w base m) (hk : ∀ (e : TypeId) (s n : Nat) (v : Value) (xs : List Value), v ∈ m.vals → w.ownsRow base e s v n xs → w'.ownsRow base' e s v n xs) : AOk w' base' m := by
  revert h hk
  refine marm_ind (fun m => AOk w base m → (∀ (e : TypeId) (s n : Nat) (v : Value) (xs : List Value), v ∈ m.vals → w.ownsRow base e s v n xs → w'.ownsRow base' e s v n xs) → AOk w' base' m) ?_ m
  intro n cv cs kv kids ih h hk
  rw [AOk_iff] at h ⊢
  simp only [MArm.vals_eq] at hk
  obtain ⟨h1, ⟨h2, h3⟩, h4, h5⟩ := h
  refine ⟨MOk.map n h1 (fun e s k v xs hv => hk e s k v xs (List.mem_append_left _ hv)), ⟨hk _ _ _ _ _ (by simp) h2, fun x hx => hk _ _ _ _ _ ?_ (h3 x hx)⟩, hk _ _ _ _ _ (by simp) h4, fun x hx => ih x hx (h5 x hx) (fun e s k v xs hv => hk e s k v xs ?_)⟩
  · exact List.mem_append_right _ (List.mem_append_left _ (List.mem_cons_of_mem _ (mem_eVals.2 ⟨x, hx, rfl⟩)))
  · exact List.mem_append_right _ (List.mem_append_right _ (List.mem_cons_of_mem _ (mem_aVals.2 ⟨x, hx, hv⟩)))
theorem AOk.below {w w' : World} {base : Nat} {m : MArm} (h : AOk w base m) (hb : Below w.heap.size w w') : AOk w' base m := AOk.map m h (fun _ _ _ _ _ _ ho => ownsRow_below ho hb)
theorem AOk.kept {w w' : World} {base : Nat} {m : MArm} {x : Value} (h : AOk w base m) (hg : w.grownBy w' x.ownBlock) (ha : ∀ u ∈ m.vals, Aside u x) : AOk w' base m := AOk.map m h (fun _ _ _ _ _ hv ho => ho.kept hg (ha _ hv))
theorem AOk.le {w : World} {base base' : Nat} {m : MArm} (h : AOk w base m) (hl : base' ≤ base) : AOk w base' m := AOk.map m h (fun _ _ _ _ _ _ ho => Joins.ownsRow_le ho hl)
theorem AOk.lt {w : World} {base : Nat} (m : MArm) (h : AOk w base m) : ∀ x ∈ m.vals, ∀ k, x.ownBlock = some k → base ≤ k ∧ k < w.heap.size := by
  revert h
  refine marm_ind (fun m => AOk w base m → ∀ x ∈ m.vals, ∀ k, x.ownBlock = some k → base ≤ k ∧ k < w.heap.size) ?_ m
  intro n cv cs kv kids ih h x hx j hj
  rw [AOk_iff] at h
  obtain ⟨h1, ⟨h2, h3⟩, h4, h5⟩ := h
  rw [MArm.vals_eq] at hx
  simp only [List.mem_append, List.mem_cons] at hx
  rcases hx with hx | (rfl | hx) | rfl | hx
  · exact h1.lt _ x hx j hj
  · exact h2.lt j hj
  · obtain ⟨y, hy, rfl⟩ := mem_eVals.1 hx
    exact (h3 y hy).lt j hj
  · exact h4.lt j hj
  · obtain ⟨y, hy, hx⟩ := mem_aVals.1 hx
    exact ih y hy (h5 y hy) x hx j hj
def AOwn (w : World) (base : Nat) (m : MArm) : Prop := AOk w base m ∧ m.vals.Pairwise Aside
theorem AOwn.below {w w' : World} {base : Nat} {m : MArm} (h : AOwn w base m) (hb : Below w.heap.size w w') : AOwn w' base m := ⟨h.1.below hb, h.2⟩
theorem AOwn.le {w : World} {base base' : Nat} {m : MArm} (h : AOwn w base m) (hl : base' ≤ base) : AOwn w base' m := ⟨h.1.le hl, h.2⟩
/-- A row of arms in memory of its own. -/
def ARow (w : World) (base : Nat) (v : Value) (ars : List MArm) : Prop := w.ownsRow base 36 6 v ars.length (aCells ars) ∧ (∀ m ∈ ars, AOk w base m) ∧ (v :: aVals ars).Pairwise Aside
theorem ARow.nil (w : World) (base : Nat) : ARow w base (.slice none 0 0) [] := ⟨World.ownsRow_nil _ _ _ _, (fun m hm => by cases hm), List.pairwise_singleton _ _⟩
theorem ARow.below {w w' : World} {base : Nat} {v : Value} {ars : List MArm} (h : ARow w base v ars) (hb : Below w.heap.size w w') : ARow w' base v ars := ⟨ownsRow_below h.1 hb, fun m hm => (h.2.1 m hm).below hb, h.2.2⟩
theorem ARow.le {w : World} {base base' : Nat} {v : Value} {ars : List MArm} (h : ARow w base v ars) (hl : base' ≤ base) : ARow w base' v ars := ⟨Joins.ownsRow_le h.1 hl, fun m hm => (h.2.1 m hm).le hl, h.2.2⟩
theorem ARow.lt {w : World} {base : Nat} {v : Value} {ars : List MArm} (h : ARow w base v ars) : ∀ x ∈ v :: aVals ars, ∀ k, x.ownBlock = some k → base ≤ k ∧ k < w.heap.size := by
  intro x hx k hk
  rcases List.mem_cons.1 hx with rfl | hx
  · exact h.1.lt k hk
  · obtain ⟨m, hm, hx⟩ := mem_aVals.1 hx
    exact (h.2.1 m hm).lt m x hx k hk
theorem ARow.add {w w' : World} {base : Nat} {v v' : Value} {ars ks : List MArm} (h : ARow w base v ars) (hk : ∀ m ∈ ks, AOk w base m) (hp : (v :: (aVals ars ++ aVals ks)).Pairwise Aside)
    (hown : w'.ownsRow base 36 6 v' (ars.length + ks.length) (aCells ars ++ aCells ks)) (hg : w.grownBy w' v.ownBlock) (hat : v'.ownBlock = v.ownBlock ∨ v'.ownBlock = some w.heap.size) : ARow w' base v' (ars ++ ks) := by
  rw [List.pairwise_cons] at hp
  have hkl : ∀ x ∈ aVals ars ++ aVals ks, ∀ k, x.ownBlock = some k → k < w.heap.size := by
    intro x hx k hk2
    rcases List.mem_append.1 hx with hx | hx
    · exact (h.lt x (List.mem_cons_of_mem _ hx) k hk2).2
    · obtain ⟨m, hm, hx⟩ := mem_aVals.1 hx
      exact ((hk m hm).lt m x hx k hk2).2
  refine ⟨by rw [List.length_append, aCells_append]; exact hown, fun m hm => ?_, ?_⟩
  · rcases List.mem_append.1 hm with hm | hm
    · exact (h.2.1 m hm).kept hg (fun u hu => (hp.1 u (List.mem_append_left _ (mem_aVals.2 ⟨m, hm, hu⟩))).symm)
    · exact (hk m hm).kept hg (fun u hu => (hp.1 u (List.mem_append_right _ (mem_aVals.2 ⟨m, hm, hu⟩))).symm)
  · rw [aVals_append, List.pairwise_cons]
    refine ⟨fun y hy => ?_, hp.2⟩
    rcases hat with e | e
    · rcases hp.1 y hy with h0 | h0
      · exact .inl (by rw [e]; exact h0)
      · exact .inr (by rw [e]; exact h0)
    · refine .inr (fun e2 => ?_)
      rw [e] at e2
      have := hkl y hy _ e2.symm
      omega
theorem ARow.apart {w w1 : World} {base : Nat} {v : Value} {ars ks : List MArm} {b1 : Nat} (h : ARow w base v ars) (hk : ∀ m ∈ ks, AOk w1 b1 m) (hb : w.heap.size ≤ b1) (hp : (aVals ks).Pairwise Aside) : (v :: (aVals ars ++ aVals ks)).Pairwise Aside := by
  have hx := h.lt
  have hy : ∀ y ∈ aVals ks, ∀ k, y.ownBlock = some k → w.heap.size ≤ k := by
    intro y hy k hk2
    obtain ⟨m, hm, hy⟩ := mem_aVals.1 hy
    exact Nat.le_trans hb ((hk m hm).lt m y hy k hk2).1
  have h2 := h.2.2
  rw [List.pairwise_cons] at h2 ⊢
  refine ⟨fun y hy2 => ?_, List.pairwise_append.2 ⟨h2.2, hp, fun x hx2 y hy2 => aside_new (fun k hk2 => (hx x (List.mem_cons_of_mem _ hx2) k hk2).2) (hy y hy2)⟩⟩
  rcases List.mem_append.1 hy2 with hy2 | hy2
  · exact h2.1 y hy2
  · exact aside_new (fun k hk2 => (hx v (by simp) k hk2).2) (hy y hy2)
/-- What the coils of a row hold. -/
theorem elems_from {w : World} {base : Nat} {v : Value} {es : List MElem} (h1 : w.ownsRow base 30 2 v es.length (eCells es)) (h2 : ∀ m ∈ es, EOk w base m) : ElemsFrom base w v (es.map MElem.elem) := by
  by_cases hz : es.length = 0
  · obtain ⟨a, cap, rfl⟩ := slice_of_owns h1
    exact ⟨a, cap, by simp, fun i hi => absurd hi (by simp; omega)⟩
  · obtain ⟨g, cap, hv, hbase, hlt, _, hcell⟩ := ownsRow_cells h1 (by omega)
    subst hv
    refine ⟨_, cap, by simp, fun i hi => ⟨g, 0, rfl, hbase, hlt, ?_⟩⟩
    have hi' : i < es.length := by simpa using hi
    obtain ⟨a1, a2⟩ := eCells_get es i hi'
    rw [List.getElem_map, Nat.zero_add]
    exact ⟨hcell _ _ a1, _, hcell _ _ a2, DevsFrom.of_owns (h2 _ (List.getElem_mem hi'))⟩
/-- What an arm holds. -/
theorem AOk.from {w : World} {base : Nat} (m : MArm) (h : AOk w base m) : DevsFrom base w m.net.av m.arm.net.one.args ∧ NetsFrom base w m.net.kv m.arm.net.kids ∧ ElemsFrom base w m.cv m.arm.coils ∧ ArmsFrom base w m.kv m.arm.kids := by
  revert h
  refine marm_ind (fun m => AOk w base m → DevsFrom base w m.net.av m.arm.net.one.args ∧ NetsFrom base w m.net.kv m.arm.net.kids ∧ ElemsFrom base w m.cv m.arm.coils ∧ ArmsFrom base w m.kv m.arm.kids) ?_ m
  intro n cv cs kv kids ih h
  rw [AOk_iff] at h
  rw [MArm.arm_eq]
  simp only at h ⊢
  obtain ⟨h1, ⟨h2, h3⟩, h4, h5⟩ := h
  obtain ⟨f1, f2⟩ := MOk.from n h1
  refine ⟨f1, f2, elems_from h2 h3, ?_⟩
  by_cases hz : kids.length = 0
  · obtain ⟨a, cap, rfl⟩ := slice_of_owns h4
    exact ⟨a, cap, by simp, fun i hi => absurd hi (by simp; omega)⟩
  · obtain ⟨g, cap, hv, hbase, hlt, _, hcell⟩ := ownsRow_cells h4 (by omega)
    subst hv
    refine ⟨_, cap, by simp, fun i hi => ⟨g, 0, rfl, hbase, hlt, ?_⟩⟩
    have hi' : i < kids.length := by simpa using hi
    obtain ⟨a1, a2, a3, a4, a5, a6⟩ := aCells_get kids i hi'
    obtain ⟨g1, g2, g3, g4⟩ := ih _ (List.getElem_mem hi') (h5 _ (List.getElem_mem hi'))
    rw [List.getElem_map, ArmFrom_iff, NetFrom_iff, Nat.zero_add]
    have e := MArm.arm_eq kids[i]
    have e1 : kids[i].arm.net.kind = kids[i].net.kind := by rw [e]; simp only; rw [MNet.net_eq]
    have e2 : kids[i].arm.net.one.op = kids[i].net.op := by rw [e]; simp only; rw [MNet.net_eq]
    rw [e1, e2]
    exact ⟨⟨hcell _ _ a1, hcell _ _ a2, ⟨_, hcell _ _ a3, g1⟩, ⟨_, hcell _ _ a4, g2⟩⟩, ⟨_, hcell _ _ a5, g3⟩, ⟨_, hcell _ _ a6, g4⟩⟩
/-- Rows of parts of two cells that begin with one number. -/
def elPs (b : Nat) : Nat → List (List Pl) → List Pl
  | _, [] => []
  | o, q :: r => (b, o) :: (q ++ elPs b (o + 2) r)
theorem elPs_mem (b : Nat) : ∀ (qs : List (List Pl)) (o : Nat) (p : Pl), p ∈ elPs b o qs → (∃ i, i < qs.length ∧ p = (b, o + i * 2)) ∨ ∃ q ∈ qs, p ∈ q
  | [], _, p, h => by simp [elPs] at h
  | q :: r, o, p, h => by
    rw [elPs] at h
    simp only [List.mem_cons, List.mem_append] at h
    rcases h with h | h | h
    · exact .inl ⟨0, by simp, by simpa using h⟩
    · exact .inr ⟨q, by simp, h⟩
    · rcases elPs_mem b r (o + 2) p h with ⟨i, hi, hp⟩ | ⟨q', hq', hp⟩
      · refine .inl ⟨i + 1, by simp; omega, ?_⟩
        have e : o + 2 + i * 2 = o + (i + 1) * 2 := by omega
        rwa [e] at hp
      · exact .inr ⟨q', List.mem_cons_of_mem _ hq', hp⟩
theorem elPs_nodup (b : Nat) : ∀ (qs : List (List Pl)) (o : Nat), (∀ q ∈ qs, q.Nodup ∧ ∀ p ∈ q, p.1 ≠ b) → qs.Pairwise (fun q r => ∀ p ∈ q, p ∉ r) → (elPs b o qs).Nodup
  | [], _, _, _ => List.nodup_nil
  | q :: r, o, h1, h2 => by
    have ih := elPs_nodup b r (o + 2) (fun x hx => h1 x (List.mem_cons_of_mem _ hx)) (List.pairwise_cons.1 h2).2
    obtain ⟨hq1, hq2⟩ := h1 q (by simp)
    have hr : ∀ p ∈ elPs b (o + 2) r, p ≠ (b, o) ∧ p ∉ q := by
      intro p hp
      rcases elPs_mem b r (o + 2) p hp with ⟨i, _, hp⟩ | ⟨x, hx, hp⟩
      · subst hp
        refine ⟨fun e => ?_, fun e => hq2 _ e rfl⟩
        have := (Prod.mk.inj e).2; omega
      · have hx2 := (h1 x (List.mem_cons_of_mem _ hx)).2 p hp
        exact ⟨fun e => hx2 (by rw [e]), fun e => (List.pairwise_cons.1 h2).1 x hx p e hp⟩
    rw [elPs, List.nodup_cons, List.nodup_append]
    refine ⟨fun h => ?_, hq1, ih, fun a ha c hc e => ?_⟩
    · rcases List.mem_append.1 h with h | h
      · exact hq2 _ h rfl
      · exact (hr _ h).1 rfl
    · subst e; exact (hr _ hc).2 ha
def MElem.dps (m : MElem) : List Pl := blockPs (vb m.av) m.ds.length
/-- The places of a row of coils. -/
def ePs (v : Value) (es : List MElem) : List Pl := elPs (vb v) 0 (es.map MElem.dps)
/-- How a row of coils lies. -/
def ESh (Q : Pl → Prop) (w : World) (v : Value) (es : List MElem) : Prop := (∃ a cap, v = .slice a es.length cap ∧ (0 < es.length → a = some ⟨vb v, 0, none⟩)) ∧
  ∀ i (h : i < es.length), vb v < w.heap.size ∧ Q (vb v, i * 2 + 1) ∧ w.cell? ⟨vb v, i * 2 + 1, none⟩ = some es[i].av ∧ DevsSh es[i].av es[i].dps
/-- What belongs to an arm beyond its own two numbers. -/
def MArm.inner : MArm → List Pl
  | ⟨n, cv, cs, kv, kids⟩ => n.dps ++ (n.rps ++ (ePs cv cs ++ strPs 6 (vb kv) 0 (kids.map MArm.inner)))
def MArm.kps (m : MArm) : List Pl := strPs 6 (vb m.kv) 0 (m.kids.map MArm.inner)
theorem MArm.inner_eq (m : MArm) : m.inner = m.net.dps ++ (m.net.rps ++ (ePs m.cv m.coils ++ m.kps)) := by obtain ⟨n, cv, cs, kv, kids⟩ := m; rw [MArm.inner]; rfl
/-- How the arm lies; where the rows' values lie (Q) nothing is marked. -/
def ASh (Q : Pl → Prop) (w : World) : MArm → Prop
  | ⟨n, cv, cs, kv, kids⟩ => MSh Q w n ∧ ESh Q w cv cs ∧ (∃ a cap, kv = .slice a kids.length cap ∧ (0 < kids.length → a = some ⟨vb kv, 0, none⟩)) ∧
    (∀ i (h : i < kids.length), vb kv < w.heap.size ∧ (Q (vb kv, i * 6 + 2) ∧ Q (vb kv, i * 6 + 3) ∧ Q (vb kv, i * 6 + 4) ∧ Q (vb kv, i * 6 + 5)) ∧ w.cell? ⟨vb kv, i * 6 + 2, none⟩ = some kids[i].net.av ∧ w.cell? ⟨vb kv, i * 6 + 3, none⟩ = some kids[i].net.kv ∧ w.cell? ⟨vb kv, i * 6 + 4, none⟩ = some kids[i].cv ∧ w.cell? ⟨vb kv, i * 6 + 5, none⟩ = some kids[i].kv) ∧ ∀ p ∈ kids.map (ASh Q w), p
theorem ASh_iff (Q : Pl → Prop) (w : World) (m : MArm) : ASh Q w m ↔ MSh Q w m.net ∧ ESh Q w m.cv m.coils ∧ (∃ a cap, m.kv = .slice a m.kids.length cap ∧ (0 < m.kids.length → a = some ⟨vb m.kv, 0, none⟩)) ∧
    (∀ i (h : i < m.kids.length), vb m.kv < w.heap.size ∧ (Q (vb m.kv, i * 6 + 2) ∧ Q (vb m.kv, i * 6 + 3) ∧ Q (vb m.kv, i * 6 + 4) ∧ Q (vb m.kv, i * 6 + 5)) ∧ w.cell? ⟨vb m.kv, i * 6 + 2, none⟩ = some m.kids[i].net.av ∧ w.cell? ⟨vb m.kv, i * 6 + 3, none⟩ = some m.kids[i].net.kv ∧ w.cell? ⟨vb m.kv, i * 6 + 4, none⟩ = some m.kids[i].cv ∧ w.cell? ⟨vb m.kv, i * 6 + 5, none⟩ = some m.kids[i].kv) ∧ ∀ x ∈ m.kids, ASh Q w x := by
  obtain ⟨n, cv, cs, kv, kids⟩ := m
  rw [ASh, Stil.all_map]
end Go.Proofs.YtenoanhonjdpjaaGreatDoor
/- Arms in memory of their own: their places, all different. -/
namespace Go.Proofs.YtenoanhonjdpjaaGreatDoor
open Go.RowKit Go.Sort Go.BigFrame
/-- What a row holds: operands (0), nets (1), coils (2), arms (3); and where its numbers lie. -/
def isNum (t o : Nat) : Prop := match t with
  | 0 => True
  | 1 => o % 4 < 2
  | 2 => o % 2 = 0
  | _ => o % 6 < 2
abbrev Tg := Value × Nat
def MNet.tags : MNet → List Tg
  | ⟨_, _, _, av, kv, kids⟩ => (av, 0) :: (kv, 1) :: (kids.map MNet.tags).flatten
theorem MNet.tags_eq (m : MNet) : m.tags = (m.av, 0) :: (m.kv, 1) :: (m.kids.map MNet.tags).flatten := by obtain ⟨k, op, ds, av, kv, kids⟩ := m; rw [MNet.tags]
theorem MNet.tags_vals (m : MNet) : m.tags.map (·.1) = m.vals := by
  refine mnet_ind (fun m => m.tags.map (·.1) = m.vals) ?_ m
  intro k op ds av kv kids ih
  rw [MNet.tags_eq, MNet.vals_eq]
  simp only [List.map_cons, List.map_flatten, List.map_map, mVals]
  congr 3
  exact List.map_congr_left (fun x hx => ih x hx)
def MArm.tags : MArm → List Tg
  | ⟨n, cv, cs, kv, kids⟩ => n.tags ++ (((cv, 2) :: cs.map (fun m => (m.av, 0))) ++ ((kv, 3) :: (kids.map MArm.tags).flatten))
theorem MArm.tags_eq (m : MArm) : m.tags = m.net.tags ++ (((m.cv, 2) :: m.coils.map (fun m => (m.av, 0))) ++ ((m.kv, 3) :: (m.kids.map MArm.tags).flatten)) := by obtain ⟨n, cv, cs, kv, kids⟩ := m; rw [MArm.tags]
theorem MArm.tags_vals (m : MArm) : m.tags.map (·.1) = m.vals := by
  refine marm_ind (fun m => m.tags.map (·.1) = m.vals) ?_ m
  intro n cv cs kv kids ih
  rw [MArm.tags_eq, MArm.vals_eq]
  simp only [List.map_append, List.map_cons, List.map_flatten, List.map_map, aVals, MNet.tags_vals]
  congr 2
  · congr 2
    exact List.map_congr_left (fun x hx => ih x hx)
theorem MNet.rows_tags (m : MNet) : ∀ v ∈ m.rows, (v, 1) ∈ m.tags := by
  refine mnet_ind (fun m => ∀ v ∈ m.rows, (v, 1) ∈ m.tags) ?_ m
  intro k op ds av kv kids ih v hv
  rw [MNet.rows_eq] at hv
  rw [MNet.tags_eq]
  rcases List.mem_cons.1 hv with hv | hv
  · simp [hv]
  · obtain ⟨l, hl, hv⟩ := List.mem_flatten.1 hv
    obtain ⟨x, hx, rfl⟩ := List.mem_map.1 hl
    exact List.mem_cons_of_mem _ (List.mem_cons_of_mem _ (List.mem_flatten.2 ⟨_, List.mem_map.2 ⟨x, hx, rfl⟩, ih x hx v hv⟩))
/-- Where the rows' values lie. -/
def headsT (ts : List Tg) (p : Pl) : Prop := ∃ t ∈ ts, t.1.ownBlock = some p.1 ∧ ¬ isNum t.2 p.2
/-- Where the rows' numbers lie. -/
def numsT (ts : List Tg) (p : Pl) : Prop := ∃ t ∈ ts, t.1.ownBlock = some p.1 ∧ isNum t.2 p.2
theorem tag_uniq {ts : List Tg} (h : (ts.map (·.1)).Pairwise Aside) {t u : Tg} (ht : t ∈ ts) (hu : u ∈ ts) {k : Nat} (h1 : t.1.ownBlock = some k) (h2 : u.1.ownBlock = some k) : t = u := by
  obtain ⟨i, hi, rfl⟩ := List.getElem_of_mem ht
  obtain ⟨j, hj, rfl⟩ := List.getElem_of_mem hu
  rw [List.pairwise_map] at h
  have hp := List.pairwise_iff_getElem.1 h
  rcases Nat.lt_trichotomy i j with e | e | e
  · exact ((hp i j hi hj e).no h1 h2).elim
  · subst e; rfl
  · exact ((hp j i hj hi e).no h2 h1).elim
theorem nums_heads {ts : List Tg} (h : (ts.map (·.1)).Pairwise Aside) {p : Pl} (h1 : numsT ts p) : ¬ headsT ts p := by
  rintro ⟨u, hu, hb, hn⟩
  obtain ⟨t, ht, hb2, hn2⟩ := h1
  have e := tag_uniq h ht hu hb2 hb
  rw [e] at hn2
  exact hn hn2
theorem numsT.mono {ts us : List Tg} {p : Pl} (h : numsT ts p) (hs : ∀ t ∈ ts, t ∈ us) : numsT us p := by
  obtain ⟨t, ht, h1⟩ := h
  exact ⟨t, hs t ht, h1⟩
theorem headsT.mono {ts us : List Tg} {p : Pl} (h : headsT ts p) (hs : ∀ t ∈ ts, t ∈ us) : headsT us p := by
  obtain ⟨t, ht, h1⟩ := h
  exact ⟨t, hs t ht, h1⟩
theorem MNet.nums {w : World} {base : Nat} (m : MNet) : MOk w base m → ∀ p ∈ m.inner, numsT m.tags p := by
  refine mnet_ind (fun m => MOk w base m → ∀ p ∈ m.inner, numsT m.tags p) ?_ m
  intro k op ds av kv kids ih h p hp
  obtain ⟨hA, hK, hkids⟩ := (MOk_iff _ _ _).1 h
  simp only at hA hK hkids
  rw [MNet.inner_eq] at hp
  rw [MNet.tags_eq]
  rcases List.mem_append.1 hp with hp | hp
  · exact ⟨(av, 0), by simp, ((devs_block hA).2.2 p hp).2, trivial⟩
  · rcases strPs_mem 4 _ _ 0 p hp with ⟨i, hi, hp⟩ | ⟨q, hq, hp⟩
    · have hi' : i < kids.length := by simpa using hi
      obtain ⟨g, cap, hv, _⟩ := ownsRow_cells hK (by omega)
      have hg : kv.ownBlock = some (vb kv) := by rw [hv]; rfl
      refine ⟨(kv, 1), by simp, ?_, ?_⟩
      · rcases hp with rfl | rfl <;> exact hg
      · rcases hp with rfl | rfl
        · show (0 + i * 4) % 4 < 2; omega
        · show (0 + i * 4 + 1) % 4 < 2; omega
    · obtain ⟨x, hx, rfl⟩ := List.mem_map.1 hq
      exact (ih x hx (hkids x hx) p hp).mono (fun t ht => List.mem_cons_of_mem _ (List.mem_cons_of_mem _ (List.mem_flatten.2 ⟨_, List.mem_map.2 ⟨x, hx, rfl⟩, ht⟩)))
theorem elem_nums {w : World} {base : Nat} {v : Value} {es : List MElem} (h1 : w.ownsRow base 30 2 v es.length (eCells es)) (h2 : ∀ m ∈ es, EOk w base m) : ∀ p ∈ ePs v es, numsT ((v, 2) :: es.map (fun m => (m.av, 0))) p := by
  intro p hp
  rcases elPs_mem _ _ 0 p hp with ⟨i, hi, hp⟩ | ⟨q, hq, hp⟩
  · have hi' : i < es.length := by simpa using hi
    obtain ⟨g, cap, hv, _⟩ := ownsRow_cells h1 (by omega)
    have hg : v.ownBlock = some (vb v) := by rw [hv]; rfl
    subst hp
    refine ⟨(v, 2), by simp, hg, ?_⟩
    show (0 + i * 2) % 2 = 0
    omega
  · obtain ⟨x, hx, rfl⟩ := List.mem_map.1 hq
    exact ⟨(x.av, 0), List.mem_cons_of_mem _ (List.mem_map.2 ⟨x, hx, rfl⟩), ((devs_block (h2 x hx)).2.2 p hp).2, trivial⟩
theorem MArm.nums {w : World} {base : Nat} (m : MArm) : AOk w base m → ∀ p ∈ m.inner, numsT m.tags p := by
  refine marm_ind (fun m => AOk w base m → ∀ p ∈ m.inner, numsT m.tags p) ?_ m
  intro n cv cs kv kids ih h p hp
  obtain ⟨hN, ⟨hC, hCs⟩, hK, hkids⟩ := (AOk_iff _ _ _).1 h
  simp only at hN hC hCs hK hkids
  rw [MArm.inner_eq] at hp
  rw [MArm.tags_eq]
  simp only at hp ⊢
  rw [← List.append_assoc, ← MNet.inner_eq] at hp
  rcases List.mem_append.1 hp with hp | hp
  · exact (n.nums hN p hp).mono (fun t ht => List.mem_append_left _ ht)
  rcases List.mem_append.1 hp with hp | hp
  · exact (elem_nums hC hCs p hp).mono (fun t ht => List.mem_append_right _ (List.mem_append_left _ ht))
  · rcases strPs_mem 6 _ _ 0 p hp with ⟨i, hi, hp⟩ | ⟨q, hq, hp⟩
    · have hi' : i < kids.length := by simpa using hi
      obtain ⟨g, cap, hv, _⟩ := ownsRow_cells hK (by omega)
      have hg : kv.ownBlock = some (vb kv) := by rw [hv]; rfl
      refine ⟨(kv, 3), by simp, ?_, ?_⟩
      · rcases hp with rfl | rfl <;> exact hg
      · rcases hp with rfl | rfl
        · show (0 + i * 6) % 6 < 2; omega
        · show (0 + i * 6 + 1) % 6 < 2; omega
    · obtain ⟨x, hx, rfl⟩ := List.mem_map.1 hq
      exact (ih x hx (hkids x hx) p hp).mono (fun t ht => List.mem_append_right _ (List.mem_append_right _ (List.mem_cons_of_mem _ (List.mem_flatten.2 ⟨_, List.mem_map.2 ⟨x, hx, rfl⟩, ht⟩))))
theorem ASh.mono {Q Q' : Pl → Prop} {w : World} (hq : ∀ p, Q p → Q' p) (m : MArm) : ASh Q w m → ASh Q' w m := by
  refine marm_ind (fun m => ASh Q w m → ASh Q' w m) ?_ m
  intro n cv cs kv kids ih h
  rw [ASh_iff] at h ⊢
  obtain ⟨h0, ⟨e1, e2⟩, h2, h3, h4⟩ := h
  refine ⟨MSh.mono hq _ h0, ⟨e1, fun i hi => ?_⟩, h2, fun i hi => ?_, fun x hx => ih x hx (h4 x hx)⟩
  · obtain ⟨c1, c2, c3, c4⟩ := e2 i hi
    exact ⟨c1, hq _ c2, c3, c4⟩
  · obtain ⟨c1, ⟨q2, q3, q4, q5⟩, c2⟩ := h3 i hi
    exact ⟨c1, ⟨hq _ q2, hq _ q3, hq _ q4, hq _ q5⟩, c2⟩
/-- Numbers lie at every place of a row of coils. -/
theorem elem_places {w : World} {base : Nat} {v : Value} {es : List MElem} (h : ERow w base v es) : ESh (headsT ((v, 2) :: es.map (fun m => (m.av, 0)))) w v es ∧ NumsAt w (ePs v es) ∧ (ePs v es).Nodup := by
  obtain ⟨h1, h2, hp⟩ := h
  rw [List.pairwise_cons] at hp
  have hkvb : 0 < es.length → v.ownBlock = some (vb v) := by
    intro hz
    obtain ⟨g, cap, hv, _⟩ := ownsRow_cells h1 hz
    rw [hv]; rfl
  refine ⟨⟨?_, fun i hi => ?_⟩, fun p hp2 => ?_, ?_⟩
  · by_cases hz : es.length = 0
    · obtain ⟨a, cap, rfl⟩ := slice_of_owns h1
      exact ⟨a, cap, rfl, fun h => absurd h (by omega)⟩
    · obtain ⟨g, cap, hv, _⟩ := ownsRow_cells h1 (by omega)
      refine ⟨some ⟨g, 0, none⟩, cap, hv, fun _ => ?_⟩
      rw [hv]; rfl
  · obtain ⟨g, cap, hv, _, hlt, _, hcell⟩ := ownsRow_cells h1 (by omega)
    have e : vb v = g := by rw [hv]; rfl
    obtain ⟨_, a2⟩ := eCells_get es i hi
    rw [e]
    refine ⟨hlt, ⟨(v, 2), by simp, by rw [hv]; rfl, ?_⟩, hcell _ _ a2, (devs_block (h2 _ (List.getElem_mem hi))).1⟩
    show ¬ (i * 2 + 1) % 2 = 0
    omega
  · rcases elPs_mem _ _ 0 p hp2 with ⟨i, hi, hp3⟩ | ⟨q, hq, hp3⟩
    · have hi' : i < es.length := by simpa using hi
      obtain ⟨g, cap, hv, _, hlt, _, hcell⟩ := ownsRow_cells h1 (by omega)
      have e : vb v = g := by rw [hv]; rfl
      obtain ⟨a1, _⟩ := eCells_get es i hi'
      subst hp3
      rw [e]
      subst hv
      exact ⟨hlt, ⟨_, by rw [ad]; simp only [Nat.zero_add]; exact hcell _ _ a1⟩, h1.frozenAt _⟩
    · obtain ⟨x, hx, rfl⟩ := List.mem_map.1 hq
      exact (devs_block (h2 x hx)).2.1 p hp3
  · refine elPs_nodup _ _ 0 (fun q hq => ?_) ?_
    · obtain ⟨x, hx, rfl⟩ := List.mem_map.1 hq
      refine ⟨blockPs_nodup _ _, fun p hp3 e => ?_⟩
      have h3 := ((devs_block (h2 x hx)).2.2 p hp3).2
      rw [e] at h3
      exact (hp.1 x.av (mem_eVals.2 ⟨x, hx, rfl⟩)).no (hkvb (List.length_pos_of_mem hx)) h3
    · rw [List.pairwise_map]
      have hpe := hp.2
      unfold eVals at hpe
      rw [List.pairwise_map] at hpe
      refine List.Pairwise.imp_of_mem (fun {a b} ha hb hab p hp3 hp4 => ?_) hpe
      exact hab.no ((devs_block (h2 a ha)).2.2 p hp3).2 ((devs_block (h2 b hb)).2.2 p hp4).2
theorem numsT.val {ts : List Tg} {p : Pl} (h : numsT ts p) : ∃ x ∈ ts.map (·.1), x.ownBlock = some p.1 := by
  obtain ⟨t, ht, h1, _⟩ := h
  exact ⟨t.1, List.mem_map.2 ⟨t, ht, rfl⟩, h1⟩
theorem etags_vals (v : Value) (es : List MElem) : ((v, 2) :: es.map (fun m => (m.av, 0)) : List Tg).map (·.1) = v :: eVals es := by
  simp [eVals, Function.comp]
theorem MArm.nums_at {w : World} {base : Nat} (m : MArm) : AOwn w base m → ASh (headsT m.tags) w m ∧ NumsAt w m.inner ∧ m.inner.Nodup := by
  refine marm_ind (fun m => AOwn w base m → ASh (headsT m.tags) w m ∧ NumsAt w m.inner ∧ m.inner.Nodup) ?_ m
  intro n cv cs kv kids ih h
  obtain ⟨hok, hpw⟩ := h
  obtain ⟨hN, ⟨hC, hCs⟩, hK, hkids⟩ := (AOk_iff _ _ _).1 hok
  simp only at hN hC hCs hK hkids
  rw [MArm.vals_eq] at hpw
  simp only at hpw
  obtain ⟨pN, pR, pNR⟩ := List.pairwise_append.1 hpw
  obtain ⟨pC, pK, pCK⟩ := List.pairwise_append.1 pR
  obtain ⟨pKv, pKs⟩ := List.pairwise_cons.1 pK
  have pKs2 := pKs
  unfold aVals at pKs2
  rw [List.pairwise_flatten] at pKs2
  have hown : ∀ x ∈ kids, AOwn w base x := fun x hx => ⟨hkids x hx, pKs2.1 _ (List.mem_map.2 ⟨x, hx, rfl⟩)⟩
  have hvm : ∀ x ∈ kids, ∀ v ∈ x.vals, v ∈ aVals kids := fun x hx v hv => mem_aVals.2 ⟨x, hx, hv⟩
  obtain ⟨nS, nN, nD, _, _⟩ := MNet.places n ⟨hN, pN⟩
  obtain ⟨eS, eN, eD⟩ := elem_places (v := cv) (es := cs) ⟨hC, hCs, pC⟩
  have hnn := n.nums hN
  have hen := elem_nums hC hCs
  have hkvb : 0 < kids.length → kv.ownBlock = some (vb kv) := by
    intro hz
    obtain ⟨g, cap, hv, _⟩ := ownsRow_cells hK hz
    rw [hv]; rfl
  have hkn : ∀ x ∈ kids, ∀ p ∈ x.inner, ∃ v ∈ x.vals, v.ownBlock = some p.1 := by
    intro x hx p hp
    obtain ⟨v, hv, hb⟩ := (x.nums (hkids x hx) p hp).val
    rw [MArm.tags_vals] at hv
    exact ⟨v, hv, hb⟩
  have hkps : ∀ p ∈ (MArm.mk n cv cs kv kids).kps, ∃ v ∈ kv :: aVals kids, v.ownBlock = some p.1 := by
    intro p hp
    rcases strPs_mem 6 _ _ 0 p hp with ⟨i, hi, hp⟩ | ⟨q, hq, hp⟩
    · have hi' : i < kids.length := by simpa using hi
      refine ⟨kv, by simp, ?_⟩
      rcases hp with rfl | rfl <;> exact hkvb (by omega)
    · obtain ⟨x, hx, rfl⟩ := List.mem_map.1 hq
      obtain ⟨v, hv, hb⟩ := hkn x hx p hp
      exact ⟨v, List.mem_cons_of_mem _ (hvm x hx v hv), hb⟩
  have hin : (MArm.mk n cv cs kv kids).inner = n.inner ++ (ePs cv cs ++ (MArm.mk n cv cs kv kids).kps) := by
    rw [MArm.inner_eq, ← List.append_assoc, ← MNet.inner_eq]
  refine ⟨?_, ?_, ?_⟩
  · rw [ASh_iff]
    refine ⟨MSh.mono (fun p hp => ?_) n nS, ⟨eS.1, fun i hi => ?_⟩, ?_, fun i hi => ?_, fun x hx => ASh.mono (fun p hp => hp.mono (fun t ht => ?_)) x (ih x hx (hown x hx)).1⟩
    · obtain ⟨h4, v, hv, hb⟩ := hp
      refine ⟨(v, 1), ?_, hb, ?_⟩
      · rw [MArm.tags_eq]; exact List.mem_append_left _ (n.rows_tags v hv)
      · show ¬ p.2 % 4 < 2
        omega
    · obtain ⟨c1, c2, c3, c4⟩ := eS.2 i hi
      exact ⟨c1, c2.mono (fun t ht => by rw [MArm.tags_eq]; exact List.mem_append_right _ (List.mem_append_left _ ht)), c3, c4⟩
    · simp only
      by_cases hz : kids.length = 0
      · obtain ⟨a, cap, rfl⟩ := slice_of_owns hK
        exact ⟨a, cap, rfl, fun h => absurd h (by omega)⟩
      · obtain ⟨g, cap, hv, _⟩ := ownsRow_cells hK (by omega)
        refine ⟨some ⟨g, 0, none⟩, cap, hv, fun _ => ?_⟩
        rw [hv]; rfl
    · simp only at hi ⊢
      obtain ⟨g, cap, hv, _, hlt, _, hcell⟩ := ownsRow_cells hK (by omega)
      have e : vb kv = g := by rw [hv]; rfl
      have hg : kv.ownBlock = some g := by rw [hv]; rfl
      rw [e]
      obtain ⟨_, _, a3, a4, a5, a6⟩ := aCells_get kids i hi
      have hh : ∀ o, ¬ o % 6 < 2 → headsT (MArm.mk n cv cs kv kids).tags (g, o) := fun o ho => ⟨(kv, 3), by rw [MArm.tags_eq]; simp, hg, ho⟩
      exact ⟨hlt, ⟨hh _ (by omega), hh _ (by omega), hh _ (by omega), hh _ (by omega)⟩, hcell _ _ a3, hcell _ _ a4, hcell _ _ a5, hcell _ _ a6⟩
    · rw [MArm.tags_eq]
      exact List.mem_append_right _ (List.mem_append_right _ (List.mem_cons_of_mem _ (List.mem_flatten.2 ⟨_, List.mem_map.2 ⟨x, hx, rfl⟩, ht⟩)))
  · rw [hin]
    intro p hp
    rcases List.mem_append.1 hp with hp | hp
    · exact nN p hp
    rcases List.mem_append.1 hp with hp | hp
    · exact eN p hp
    · rcases strPs_mem 6 _ _ 0 p hp with ⟨i, hi, hp5⟩ | ⟨q, hq, hp5⟩
      · have hi' : i < kids.length := by simpa using hi
        obtain ⟨g, cap, hv, _, hlt, _, hcell⟩ := ownsRow_cells hK (by omega)
        have e : vb kv = g := by rw [hv]; rfl
        have hfz : ∀ o, w.frozen? ⟨g, o, none⟩ = false := fun o => by
          rw [hv] at hK
          exact hK.frozenAt o
        simp only [e] at hp5
        obtain ⟨a1, a2, _, _, _, _⟩ := aCells_get kids i hi'
        rcases hp5 with hp5 | hp5
        · rw [hp5]
          exact ⟨hlt, ⟨_, by rw [ad]; simp only [Nat.zero_add]; exact hcell _ _ a1⟩, hfz _⟩
        · rw [hp5]
          exact ⟨hlt, ⟨_, by rw [ad]; simp only [Nat.zero_add]; exact hcell _ _ a2⟩, hfz _⟩
      · obtain ⟨x, hx, rfl⟩ := List.mem_map.1 hq
        exact (ih x hx (hown x hx)).2.1 p hp5
  · rw [hin, List.nodup_append]
    refine ⟨nD, List.nodup_append.2 ⟨eD, strPs_nodup 6 _ (by omega) _ 0 (fun q hq => ?_) ?_, fun p hp r hr e => ?_⟩, fun p hp r hr e => ?_⟩
    · obtain ⟨x, hx, rfl⟩ := List.mem_map.1 hq
      refine ⟨(ih x hx (hown x hx)).2.2, fun p hp e => ?_⟩
      obtain ⟨v, hv, hb⟩ := hkn x hx p hp
      simp only at e
      rw [e] at hb
      exact (pKv v (hvm x hx v hv)).no (hkvb (List.length_pos_of_mem hx)) hb
    · rw [List.pairwise_map]
      refine List.pairwise_iff_getElem.2 (fun i j hi hj hij p hp hp2 => ?_)
      have hx := List.getElem_mem hi
      have hy := List.getElem_mem hj
      obtain ⟨u, hu, h1⟩ := hkn _ hx p hp
      obtain ⟨v, hv, h2⟩ := hkn _ hy p hp2
      have hpp := pKs2.2
      rw [List.pairwise_map] at hpp
      exact ((List.pairwise_iff_getElem.1 hpp) i j hi hj hij u hu v hv).no h1 h2
    · subst e
      obtain ⟨u, hu, h1⟩ := (hen p hp).val
      rw [etags_vals] at hu
      obtain ⟨v, hv, h2⟩ := hkps p hr
      exact (pCK u hu v hv).no h1 h2
    · subst e
      obtain ⟨u, hu, h1⟩ := (hnn p hp).val
      rw [MNet.tags_vals] at hu
      rcases List.mem_append.1 hr with hr | hr
      · obtain ⟨v, hv, h2⟩ := (hen p hr).val
        rw [etags_vals] at hv
        exact (pNR u hu v (List.mem_append_left _ hv)).no h1 h2
      · obtain ⟨v, hv, h2⟩ := hkps p hr
        exact (pNR u hu v (List.mem_append_right _ hv)).no h1 h2
theorem MArm.places {w : World} {base : Nat} (m : MArm) (h : AOwn w base m) : ASh (headsT m.tags) w m ∧ NumsAt w m.inner ∧ m.inner.Nodup ∧ (∀ p ∈ m.inner, base ≤ p.1) ∧ (∀ p ∈ m.inner, ¬ headsT m.tags p) ∧ ∀ p, headsT m.tags p → base ≤ p.1 := by
  obtain ⟨h1, h2, h3⟩ := m.nums_at h
  refine ⟨h1, h2, h3, fun p hp => ?_, fun p hp => ?_, fun p hp => ?_⟩
  · obtain ⟨v, hv, hb⟩ := (m.nums h.1 p hp).val
    rw [MArm.tags_vals] at hv
    exact (h.1.lt m v hv _ hb).1
  · exact nums_heads (by rw [MArm.tags_vals]; exact h.2) (m.nums h.1 p hp)
  · obtain ⟨t, ht, hb, _⟩ := hp
    refine (h.1.lt m t.1 ?_ _ hb).1
    rw [← MArm.tags_vals]
    exact List.mem_map.2 ⟨t, ht, rfl⟩
end Go.Proofs.YtenoanhonjdpjaaGreatDoor
