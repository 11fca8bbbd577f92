/- Nets in memory of their own: trees of what lies where. -/
import Derived.Test.YthhfnncehfkbfaaDoorGg
import Derived.Test.YthhfnncehfkbfaaDoorM8
namespace Go.Proofs.YthhfnncehfkbfaaDoor
open Go.RowKit Go.Sort Go.BigFrame
/-- Two values that own no block in common. -/
def Aside (u v : Value) : Prop := u.ownBlock = none ∨ u.ownBlock ≠ v.ownBlock
theorem Aside.symm {u v : Value} (h : Aside u v) : Aside v u := by
  rcases h with h | h
  · by_cases e : v.ownBlock = none
    · exact .inl e
    · exact .inr (by rw [h]; exact e)
  · exact .inr (fun e => h e.symm)
theorem Aside.no {u v : Value} {k : Nat} (h : Aside u v) (hu : u.ownBlock = some k) (hv : v.ownBlock = some k) : False := by
  rcases h with h | h
  · rw [hu] at h; cases h
  · exact h (by rw [hu, hv])
theorem aside_new {x y : Value} {n : Nat} (hx : ∀ k, x.ownBlock = some k → k < n) (hy : ∀ k, y.ownBlock = some k → n ≤ k) : Aside x y := by
  by_cases e : x.ownBlock = none
  · exact .inl e
  · obtain ⟨k, hk⟩ := Option.ne_none_iff_exists'.1 e
    refine .inr (fun e2 => ?_)
    rw [hk] at e2
    have h1 := hx k hk
    have h2 := hy k e2.symm
    omega
/-- A net, with the values of its operands' and its kids' rows. -/
structure MNet where
  kind : Int
  op : Int
  ds : List Stil.Dev
  av : Value
  kv : Value
  kids : List MNet
theorem mnet_ind (P : MNet → Prop) (h : ∀ k op ds av kv kids, (∀ x ∈ kids, P x) → P ⟨k, op, ds, av, kv, kids⟩) : ∀ n, P n
  | ⟨k, op, ds, av, kv, kids⟩ => h k op ds av kv kids (fun x _ => mnet_ind P h x)
def MNet.net : MNet → Stil.Net
  | ⟨k, op, ds, _, _, kids⟩ => ⟨k, ⟨op, ds⟩, kids.map MNet.net⟩
theorem MNet.net_eq (m : MNet) : m.net = ⟨m.kind, ⟨m.op, m.ds⟩, m.kids.map MNet.net⟩ := by obtain ⟨k, op, ds, av, kv, kids⟩ := m; rw [MNet.net]
def MNet.vals : MNet → List Value
  | ⟨_, _, _, av, kv, kids⟩ => av :: kv :: (kids.map MNet.vals).flatten
def mVals (ms : List MNet) : List Value := (ms.map MNet.vals).flatten
theorem MNet.vals_eq (m : MNet) : m.vals = m.av :: m.kv :: mVals m.kids := by obtain ⟨k, op, ds, av, kv, kids⟩ := m; rw [MNet.vals]; rfl
theorem mVals_append (a b : List MNet) : mVals (a ++ b) = mVals a ++ mVals b := by simp [mVals]
theorem mVals_one (m : MNet) : mVals [m] = m.vals := by simp [mVals]
theorem mem_mVals {ms : List MNet} {x : Value} : x ∈ mVals ms ↔ ∃ m ∈ ms, x ∈ m.vals := by
  simp only [mVals, List.mem_flatten, List.mem_map]
  constructor
  · rintro ⟨_, ⟨m, hm, rfl⟩, hx⟩; exact ⟨m, hm, hx⟩
  · rintro ⟨m, hm, hx⟩; exact ⟨_, ⟨m, hm, rfl⟩, hx⟩
def MNet.cells (m : MNet) : List Value := [.int .i64 m.kind, .int .i64 m.op, m.av, m.kv]
def MNet.agg (m : MNet) : Value := .agg #[.int .i64 m.kind, .int .i64 m.op, m.av, m.kv]
def mCells (ms : List MNet) : List Value := ms.flatMap MNet.cells
theorem mCells_append (a b : List MNet) : mCells (a ++ b) = mCells a ++ mCells b := by simp [mCells]
theorem mCells_one (m : MNet) : mCells [m] = m.cells := by simp [mCells]
theorem mCells_len (ms : List MNet) : (mCells ms).length = ms.length * 4 := by
  induction ms with
  | nil => rfl
  | cons m r ih =>
    have e : mCells (m :: r) = m.cells ++ mCells r := rfl
    rw [e, List.length_append, ih]
    simp [MNet.cells]; omega
theorem mCells_get : ∀ (ms : List MNet) (i : Nat) (h : i < ms.length), (mCells ms)[i * 4]? = some (.int .i64 ms[i].kind) ∧ (mCells ms)[i * 4 + 1]? = some (.int .i64 ms[i].op) ∧ (mCells ms)[i * 4 + 2]? = some ms[i].av ∧ (mCells ms)[i * 4 + 3]? = some ms[i].kv
  | [], _, h => by simp at h
  | m :: r, 0, _ => ⟨rfl, rfl, rfl, rfl⟩
  | m :: r, i + 1, h => by
    obtain ⟨a1, a2, a3, a4⟩ := mCells_get r i (by simpa using h)
    have e : mCells (m :: r) = .int .i64 m.kind :: .int .i64 m.op :: m.av :: m.kv :: mCells r := rfl
    have e1 : (i + 1) * 4 = i * 4 + 1 + 1 + 1 + 1 := by omega
    rw [e, e1]
    exact ⟨by simpa using a1, by simpa using a2, by simpa using a3, by simpa using a4⟩
/-- The net owns its memory. -/
def MOk (w : World) (base : Nat) : MNet → Prop
  | ⟨_, _, ds, av, kv, kids⟩ => w.ownsRow base 69 3 av ds.length (devsCells ds) ∧ w.ownsRow base 34 4 kv kids.length (mCells kids) ∧ ∀ p ∈ kids.map (MOk w base), p
theorem MOk_iff (w : World) (base : Nat) (m : MNet) : MOk w base m ↔ w.ownsRow base 69 3 m.av m.ds.length (devsCells m.ds) ∧ w.ownsRow base 34 4 m.kv m.kids.length (mCells m.kids) ∧ ∀ x ∈ m.kids, MOk w base x := by
  obtain ⟨k, op, ds, av, kv, kids⟩ := m
  rw [MOk, Stil.all_map]
theorem MOk.map {w w' : World} {base base' : Nat} (m : MNet) (h : MOk w base m) (hk : ∀ (e : TypeId) (s n : Nat) (v : Value) (xs : List Value), v ∈ m.vals → w.ownsRow base e s v n xs → w'.ownsRow base' e s v n xs) : MOk w' base' m := by
  revert h hk
  refine mnet_ind (fun m => MOk w base m → (∀ (e : TypeId) (s n : Nat) (v : Value) (xs : List Value), v ∈ m.vals → w.ownsRow base e s v n xs → w'.ownsRow base' e s v n xs) → MOk w' base' m) ?_ m
  intro k op ds av kv kids ih h hk
  rw [MOk_iff] at h ⊢
  simp only [MNet.vals_eq] at hk
  refine ⟨hk _ _ _ _ _ (by simp) h.1, hk _ _ _ _ _ (by simp) h.2.1, fun x hx => ih x hx (h.2.2 x hx) (fun e s n v xs hv => hk e s n v xs ?_)⟩
  exact List.mem_cons_of_mem _ (List.mem_cons_of_mem _ (mem_mVals.2 ⟨x, hx, hv⟩))
theorem MOk.below {w w' : World} {base : Nat} {m : MNet} (h : MOk w base m) (hb : Below w.heap.size w w') : MOk w' base m := MOk.map m h (fun _ _ _ _ _ _ ho => ownsRow_below ho hb)
theorem MOk.kept {w w' : World} {base : Nat} {m : MNet} {x : Value} (h : MOk w base m) (hg : w.grownBy w' x.ownBlock) (ha : ∀ u ∈ m.vals, Aside u x) : MOk w' base m := MOk.map m h (fun _ _ _ _ _ hv ho => ho.kept hg (ha _ hv))
theorem MOk.le {w : World} {base base' : Nat} {m : MNet} (h : MOk w base m) (hl : base' ≤ base) : MOk w base' m := MOk.map m h (fun _ _ _ _ _ _ ho => Joins.ownsRow_le ho hl)
theorem MOk.lt {w : World} {base : Nat} (m : MNet) (h : MOk w base m) : ∀ x ∈ m.vals, ∀ k, x.ownBlock = some k → base ≤ k ∧ k < w.heap.size := by
  revert h
  refine mnet_ind (fun m => MOk w base m → ∀ x ∈ m.vals, ∀ k, x.ownBlock = some k → base ≤ k ∧ k < w.heap.size) ?_ m
  intro k op ds av kv kids ih h x hx j hj
  rw [MOk_iff] at h
  rw [MNet.vals_eq] at hx
  simp only [List.mem_cons] at hx
  rcases hx with rfl | rfl | hx
  · exact h.1.lt j hj
  · exact h.2.1.lt j hj
  · obtain ⟨y, hy, hx⟩ := mem_mVals.1 hx
    exact ih y hy (h.2.2 y hy) x hx j hj
/-- A net in memory of its own, no two rows of it the same. -/
def MOwn (w : World) (base : Nat) (m : MNet) : Prop := MOk w base m ∧ m.vals.Pairwise Aside
theorem MOwn.below {w w' : World} {base : Nat} {m : MNet} (h : MOwn w base m) (hb : Below w.heap.size w w') : MOwn w' base m := ⟨h.1.below hb, h.2⟩
theorem MOwn.le {w : World} {base base' : Nat} {m : MNet} (h : MOwn w base m) (hl : base' ≤ base) : MOwn w base' m := ⟨h.1.le hl, h.2⟩
/-- A row of nets in memory of its own. -/
def MRow (w : World) (base : Nat) (v : Value) (ms : List MNet) : Prop := w.ownsRow base 34 4 v ms.length (mCells ms) ∧ (∀ m ∈ ms, MOk w base m) ∧ (v :: mVals ms).Pairwise Aside
theorem MRow.nil (w : World) (base : Nat) : MRow w base (.slice none 0 0) [] := ⟨World.ownsRow_nil _ _ _ _, (fun m hm => by cases hm), List.pairwise_singleton _ _⟩
theorem MRow.below {w w' : World} {base : Nat} {v : Value} {ms : List MNet} (h : MRow w base v ms) (hb : Below w.heap.size w w') : MRow w' base v ms := ⟨ownsRow_below h.1 hb, fun m hm => (h.2.1 m hm).below hb, h.2.2⟩
theorem MRow.le {w : World} {base base' : Nat} {v : Value} {ms : List MNet} (h : MRow w base v ms) (hl : base' ≤ base) : MRow w base' v ms := ⟨Joins.ownsRow_le h.1 hl, fun m hm => (h.2.1 m hm).le hl, h.2.2⟩
theorem MRow.lt {w : World} {base : Nat} {v : Value} {ms : List MNet} (h : MRow w base v ms) : ∀ x ∈ v :: mVals ms, ∀ k, x.ownBlock = some k → base ≤ k ∧ k < w.heap.size := by
  intro x hx k hk
  rcases List.mem_cons.1 hx with rfl | hx
  · exact h.1.lt k hk
  · obtain ⟨m, hm, hx⟩ := mem_mVals.1 hx
    exact (h.2.1 m hm).lt m x hx k hk
/-- More nets in the row: it is grown from w on. -/
theorem MRow.add {w w' : World} {base : Nat} {v v' : Value} {ms ks : List MNet} (h : MRow w base v ms) (hk : ∀ m ∈ ks, MOk w base m) (hp : (v :: (mVals ms ++ mVals ks)).Pairwise Aside)
    (hown : w'.ownsRow base 34 4 v' (ms.length + ks.length) (mCells ms ++ mCells ks)) (hg : w.grownBy w' v.ownBlock) (hat : v'.ownBlock = v.ownBlock ∨ v'.ownBlock = some w.heap.size) : MRow w' base v' (ms ++ ks) := by
  rw [List.pairwise_cons] at hp
  have hkl : ∀ x ∈ mVals ms ++ mVals ks, ∀ k, x.ownBlock = some k → k < w.heap.size := by
    intro x hx k hk2
    rcases List.mem_append.1 hx with hx | hx
    · exact (h.lt x (List.mem_cons_of_mem _ hx) k hk2).2
    · obtain ⟨m, hm, hx⟩ := mem_mVals.1 hx
      exact ((hk m hm).lt m x hx k hk2).2
  refine ⟨by rw [List.length_append, mCells_append]; exact hown, fun m hm => ?_, ?_⟩
  · rcases List.mem_append.1 hm with hm | hm
    · exact (h.2.1 m hm).kept hg (fun u hu => (hp.1 u (List.mem_append_left _ (mem_mVals.2 ⟨m, hm, hu⟩))).symm)
    · exact (hk m hm).kept hg (fun u hu => (hp.1 u (List.mem_append_right _ (mem_mVals.2 ⟨m, hm, hu⟩))).symm)
  · rw [mVals_append, List.pairwise_cons]
    refine ⟨fun y hy => ?_, hp.2⟩
    rcases hat with e | e
    · rcases hp.1 y hy with h0 | h0
      · exact .inl (by rw [e]; exact h0)
      · exact .inr (by rw [e]; exact h0)
    · refine .inr (fun e2 => ?_)
      rw [e] at e2
      have := hkl y hy _ e2.symm
      omega
/-- What is new since the row was there stands apart from it. -/
theorem MRow.apart {w w1 : World} {base : Nat} {v : Value} {ms ks : List MNet} {b1 : Nat} (h : MRow w base v ms) (hk : ∀ m ∈ ks, MOk w1 b1 m) (hb : w.heap.size ≤ b1) (hp : (mVals ks).Pairwise Aside) : (v :: (mVals ms ++ mVals ks)).Pairwise Aside := by
  have hx := h.lt
  have hy : ∀ y ∈ mVals ks, ∀ k, y.ownBlock = some k → w.heap.size ≤ k := by
    intro y hy k hk2
    obtain ⟨m, hm, hy⟩ := mem_mVals.1 hy
    exact Nat.le_trans hb ((hk m hm).lt m y hy k hk2).1
  have h2 := h.2.2
  rw [List.pairwise_cons] at h2 ⊢
  refine ⟨fun y hy2 => ?_, List.pairwise_append.2 ⟨h2.2, hp, fun x hx2 y hy2 => aside_new (fun k hk2 => (hx x (List.mem_cons_of_mem _ hx2) k hk2).2) (hy y hy2)⟩⟩
  rcases List.mem_append.1 hy2 with hy2 | hy2
  · exact h2.1 y hy2
  · exact aside_new (fun k hk2 => (hx v (by simp) k hk2).2) (hy y hy2)
theorem MOwn.kids {w : World} {base : Nat} {m : MNet} (h : MOwn w base m) : (∀ x ∈ m.kids, MOk w base x) ∧ (mVals m.kids).Pairwise Aside := by
  refine ⟨((MOk_iff w base m).1 h.1).2.2, ?_⟩
  have h2 := h.2
  rw [MNet.vals_eq, List.pairwise_cons, List.pairwise_cons] at h2
  exact h2.2.2
theorem MRow.one {w : World} {base : Nat} {v : Value} {ms : List MNet} (h : MRow w base v ms) (i : Nat) (hi : i < ms.length) : MOwn w base ms[i] := by
  refine ⟨h.2.1 _ (List.getElem_mem hi), ?_⟩
  have h2 := (List.pairwise_cons.1 h.2.2).2
  unfold mVals at h2
  rw [List.pairwise_flatten] at h2
  exact h2.1 _ (List.mem_map.2 ⟨_, List.getElem_mem hi, rfl⟩)
/-- A net of a row of nets: its operands' row stands apart. -/
theorem MRow.net {w : World} {base : Nat} {v av : Value} {ms : List MNet} (k op : Int) (ds : List Stil.Dev) (h : MRow w base v ms) (ha : w.ownsRow base 69 3 av ds.length (devsCells ds)) (hd : ∀ x ∈ v :: mVals ms, Aside av x) : MOwn w base ⟨k, op, ds, av, v, ms⟩ := by
  refine ⟨(MOk_iff _ _ _).2 ⟨ha, h.1, h.2.1⟩, ?_⟩
  rw [MNet.vals_eq, List.pairwise_cons]
  exact ⟨hd, h.2.2⟩
theorem aside_nil (x : Value) : Aside (.slice none 0 0) x := .inl rfl
/-- What it holds. -/
theorem MOk.from {w : World} {base : Nat} (m : MNet) (h : MOk w base m) : DevsFrom base w m.av m.net.one.args ∧ NetsFrom base w m.kv m.net.kids := by
  revert h
  refine mnet_ind (fun m => MOk w base m → DevsFrom base w m.av m.net.one.args ∧ NetsFrom base w m.kv m.net.kids) ?_ m
  intro k op ds av kv kids ih h
  rw [MOk_iff] at h
  rw [MNet.net_eq]
  refine ⟨DevsFrom.of_owns h.1, ?_⟩
  simp only at h ⊢
  by_cases hz : kids.length = 0
  · obtain ⟨a, cap, rfl⟩ := slice_of_owns h.2.1
    exact ⟨a, cap, by simp, fun i hi => absurd hi (by simp; omega)⟩
  · obtain ⟨g, cap, hv, hbase, hlt, _, hcell⟩ := ownsRow_cells h.2.1 (by omega)
    subst hv
    refine ⟨_, cap, by simp, fun i hi => ⟨g, 0, rfl, hbase, hlt, ?_⟩⟩
    have hi' : i < kids.length := by simpa using hi
    obtain ⟨a1, a2, a3, a4⟩ := mCells_get kids i hi'
    obtain ⟨f1, f2⟩ := ih _ (List.getElem_mem hi') (h.2.2 _ (List.getElem_mem hi'))
    rw [List.getElem_map, NetFrom_iff, Nat.zero_add]
    have e := MNet.net_eq kids[i]
    have e1 : kids[i].net.kind = kids[i].kind := by rw [e]
    have e2 : kids[i].net.one.op = kids[i].op := by rw [e]
    rw [e1, e2]
    exact ⟨hcell _ _ a1, hcell _ _ a2, ⟨_, hcell _ _ a3, f1⟩, ⟨_, hcell _ _ a4, f2⟩⟩
end Go.Proofs.YthhfnncehfkbfaaDoor
