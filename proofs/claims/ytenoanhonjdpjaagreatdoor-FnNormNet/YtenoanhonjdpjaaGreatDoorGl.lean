/- Y1, Y2, Y4, Y3, Y3b: texts put together. -/
import Derived.Test.YtenoanhonjdpjaaGreatDoorGg
import Derived.Test.YtenoanhonjdpjaaGreatDoorGk
import Derived.Test.YtenoanhonjdpjaaGreatDoorGf
/- Nets in memory of their own: trees of what lies where. -/
namespace Go.Proofs.YtenoanhonjdpjaaGreatDoor
open Go.RowKit Go.Sort Go.BigFrame
/-- Two values that own no block in common. -/
def Aside (u v : Value) : Prop := u.ownBlock = none ∨ u.ownBlock ≠ v.ownBlock
theorem Aside.symm {u v : Value} (h : Aside u v) : Aside v u := by
  rcases h with h | h
  · by_cases e : v.ownBlock = none
    · exact .inl e
    · exact .inr (by rw [h]; exact e)
  · exact .inr (fun e => h e.symm)
theorem Aside.no {u v : Value} {k : Nat} (h : Aside u v) (hu : u.ownBlock = some k) (hv : v.ownBlock = some k) : False := by
  rcases h with h | h
  · rw [hu] at h; cases h
  · exact h (by rw [hu, hv])
theorem aside_new {x y : Value} {n : Nat} (hx : ∀ k, x.ownBlock = some k → k < n) (hy : ∀ k, y.ownBlock = some k → n ≤ k) : Aside x y := by
  by_cases e : x.ownBlock = none
  · exact .inl e
  · obtain ⟨k, hk⟩ := Option.ne_none_iff_exists'.1 e
    refine .inr (fun e2 => ?_)
    rw [hk] at e2
    have h1 := hx k hk
    have h2 := hy k e2.symm
    omega
/-- A net, with the values of its operands' and its kids' rows. -/
structure MNet where
  kind : Int
  op : Int
  ds : List Stil.Dev
  av : Value
  kv : Value
  kids : List MNet
theorem mnet_ind (P : MNet → Prop) (h : ∀ k op ds av kv kids, (∀ x ∈ kids, P x) → P ⟨k, op, ds, av, kv, kids⟩) : ∀ n, P n
  | ⟨k, op, ds, av, kv, kids⟩ => h k op ds av kv kids (fun x _ => mnet_ind P h x)
def MNet.net : MNet → Stil.Net
  | ⟨k, op, ds, _, _, kids⟩ => ⟨k, ⟨op, ds⟩, kids.map MNet.net⟩
theorem MNet.net_eq (m : MNet) : m.net = ⟨m.kind, ⟨m.op, m.ds⟩, m.kids.map MNet.net⟩ := by obtain ⟨k, op, ds, av, kv, kids⟩ := m; rw [MNet.net]
def MNet.vals : MNet → List Value
  | ⟨_, _, _, av, kv, kids⟩ => av :: kv :: (kids.map MNet.vals).flatten
def mVals (ms : List MNet) : List Value := (ms.map MNet.vals).flatten
theorem MNet.vals_eq (m : MNet) : m.vals = m.av :: m.kv :: mVals m.kids := by obtain ⟨k, op, ds, av, kv, kids⟩ := m; rw [MNet.vals]; rfl
theorem mVals_append (a b : List MNet) : mVals (a ++ b) = mVals a ++ mVals b := by simp [mVals]
theorem mVals_one (m : MNet) : mVals [m] = m.vals := by simp [mVals]
theorem mem_mVals {ms : List MNet} {x : Value} : x ∈ mVals ms ↔ ∃ m ∈ ms, x ∈ m.vals := by
  simp only [mVals, List.mem_flatten, List.mem_map]
  constructor
  · rintro ⟨_, ⟨m, hm, rfl⟩, hx⟩; exact ⟨m, hm, hx⟩
  · rintro ⟨m, hm, hx⟩; exact ⟨_, ⟨m, hm, rfl⟩, hx⟩
def MNet.cells (m : MNet) : List Value := [.int .i64 m.kind, .int .i64 m.op, m.av, m.kv]
def mCells (ms : List MNet) : List Value := ms.flatMap MNet.cells
theorem mCells_append (a b : List MNet) : mCells (a ++ b) = mCells a ++ mCells b := by simp [mCells]
theorem mCells_len (ms : List MNet) : (mCells ms).length = ms.length * 4 := by
  induction ms with
  | nil => rfl
  | cons m r ih =>
    have e : mCells (m :: r) = m.cells ++ mCells r := rfl
    rw [e, List.length_append, ih]
    simp [MNet.cells]; omega
theorem mCells_get : ∀ (ms : List MNet) (i : Nat) (h : i < ms.length), (mCells ms)[i * 4]? = some (.int .i64 ms[i].kind) ∧ (mCells ms)[i * 4 + 1]? = some (.int .i64 ms[i].op) ∧ (mCells ms)[i * 4 + 2]? = some ms[i].av ∧ (mCells ms)[i * 4 + 3]? = some ms[i].kv
  | [], _, h => by simp at h
  | m :: r, 0, _ => ⟨rfl, rfl, rfl, rfl⟩
  | m :: r, i + 1, h => by
    obtain ⟨a1, a2, a3, a4⟩ := mCells_get r i (by simpa using h)
    have e : mCells (m :: r) = .int .i64 m.kind :: .int .i64 m.op :: m.av :: m.kv :: mCells r := rfl
    have e1 : (i + 1) * 4 = i * 4 + 1 + 1 + 1 + 1 := by omega
    rw [e, e1]
    exact ⟨by simpa using a1, by simpa using a2, by simpa using a3, by simpa using a4⟩
/-- The net owns its memory. -/
def MOk (w : World) (base : Nat) : MNet → Prop
  | ⟨_, _, ds, av, kv, kids⟩ => w.ownsRow base 42 3 av ds.length (devsCells ds) ∧ w.ownsRow base 33 4 kv kids.length (mCells kids) ∧ ∀ p ∈ kids.map (MOk w base), p
theorem MOk_iff (w : World) (base : Nat) (m : MNet) : MOk w base m ↔ w.ownsRow base 42 3 m.av m.ds.length (devsCells m.ds) ∧ w.ownsRow base 33 4 m.kv m.kids.length (mCells m.kids) ∧ ∀ x ∈ m.kids, MOk w base x := by
  obtain ⟨k, op, ds, av, kv, kids⟩ := m
  rw [MOk, Stil.all_map]
theorem MOk.map {w w' : World} {base base' : Nat} (m : MNet) (h : MOk w base m) (hk : ∀ (e : TypeId) (s n : Nat) (v : Value) (xs : List Value), v ∈ m.vals → w.ownsRow base e s v n xs → w'.ownsRow base' e s v n xs) : MOk w' base' m := by
  revert h hk
  refine mnet_ind (fun m => MOk w base m → (∀ (e : TypeId) (s n : Nat) (v : Value) (xs : List Value), v ∈ m.vals → w.ownsRow base e s v n xs → w'.ownsRow base' e s v n xs) → MOk w' base' m) ?_ m
  intro k op ds av kv kids ih h hk
  rw [MOk_iff] at h ⊢
  simp only [MNet.vals_eq] at hk
  refine ⟨hk _ _ _ _ _ (by simp) h.1, hk _ _ _ _ _ (by simp) h.2.1, fun x hx => ih x hx (h.2.2 x hx) (fun e s n v xs hv => hk e s n v xs ?_)⟩
  exact List.mem_cons_of_mem _ (List.mem_cons_of_mem _ (mem_mVals.2 ⟨x, hx, hv⟩))
theorem MOk.below {w w' : World} {base : Nat} {m : MNet} (h : MOk w base m) (hb : Below w.heap.size w w') : MOk w' base m := MOk.map m h (fun _ _ _ _ _ _ ho => ownsRow_below ho hb)
theorem MOk.kept {w w' : World} {base : Nat} {m : MNet} {x : Value} (h : MOk w base m) (hg : w.grownBy w' x.ownBlock) (ha : ∀ u ∈ m.vals, Aside u x) : MOk w' base m := MOk.map m h (fun _ _ _ _ _ hv ho => ho.kept hg (ha _ hv))
theorem MOk.le {w : World} {base base' : Nat} {m : MNet} (h : MOk w base m) (hl : base' ≤ base) : MOk w base' m := MOk.map m h (fun _ _ _ _ _ _ ho => Joins.ownsRow_le ho hl)
theorem MOk.lt {w : World} {base : Nat} (m : MNet) (h : MOk w base m) : ∀ x ∈ m.vals, ∀ k, x.ownBlock = some k → base ≤ k ∧ k < w.heap.size := by
  revert h
  refine mnet_ind (fun m => MOk w base m → ∀ x ∈ m.vals, ∀ k, x.ownBlock = some k → base ≤ k ∧ k < w.heap.size) ?_ m
  intro k op ds av kv kids ih h x hx j hj
  rw [MOk_iff] at h
  rw [MNet.vals_eq] at hx
  simp only [List.mem_cons] at hx
  rcases hx with rfl | rfl | hx
  · exact h.1.lt j hj
  · exact h.2.1.lt j hj
  · obtain ⟨y, hy, hx⟩ := mem_mVals.1 hx
    exact ih y hy (h.2.2 y hy) x hx j hj
/-- A net in memory of its own, no two rows of it the same. -/
def MOwn (w : World) (base : Nat) (m : MNet) : Prop := MOk w base m ∧ m.vals.Pairwise Aside
theorem MOwn.below {w w' : World} {base : Nat} {m : MNet} (h : MOwn w base m) (hb : Below w.heap.size w w') : MOwn w' base m := ⟨h.1.below hb, h.2⟩
theorem MOwn.le {w : World} {base base' : Nat} {m : MNet} (h : MOwn w base m) (hl : base' ≤ base) : MOwn w base' m := ⟨h.1.le hl, h.2⟩
/-- A row of nets in memory of its own. -/
def MRow (w : World) (base : Nat) (v : Value) (ms : List MNet) : Prop := w.ownsRow base 33 4 v ms.length (mCells ms) ∧ (∀ m ∈ ms, MOk w base m) ∧ (v :: mVals ms).Pairwise Aside
theorem MRow.nil (w : World) (base : Nat) : MRow w base (.slice none 0 0) [] := ⟨World.ownsRow_nil _ _ _ _, (fun m hm => by cases hm), List.pairwise_singleton _ _⟩
theorem MRow.below {w w' : World} {base : Nat} {v : Value} {ms : List MNet} (h : MRow w base v ms) (hb : Below w.heap.size w w') : MRow w' base v ms := ⟨ownsRow_below h.1 hb, fun m hm => (h.2.1 m hm).below hb, h.2.2⟩
theorem MRow.le {w : World} {base base' : Nat} {v : Value} {ms : List MNet} (h : MRow w base v ms) (hl : base' ≤ base) : MRow w base' v ms := ⟨Joins.ownsRow_le h.1 hl, fun m hm => (h.2.1 m hm).le hl, h.2.2⟩
theorem MRow.lt {w : World} {base : Nat} {v : Value} {ms : List MNet} (h : MRow w base v ms) : ∀ x ∈ v :: mVals ms, ∀ k, x.ownBlock = some k → base ≤ k ∧ k < w.heap.size := by
  intro x hx k hk
  rcases List.mem_cons.1 hx with rfl | hx
  · exact h.1.lt k hk
  · obtain ⟨m, hm, hx⟩ := mem_mVals.1 hx
    exact (h.2.1 m hm).lt m x hx k hk
/-- More nets in the row: it is grown from w on. -/
theorem MRow.add {w w' : World} {base : Nat} {v v' : Value} {ms ks : List MNet} (h : MRow w base v ms) (hk : ∀ m ∈ ks, MOk w base m) (hp : (v :: (mVals ms ++ mVals ks)).Pairwise Aside)
    (hown : w'.ownsRow base 33 4 v' (ms.length + ks.length) (mCells ms ++ mCells ks)) (hg : w.grownBy w' v.ownBlock) (hat : v'.ownBlock = v.ownBlock ∨ v'.ownBlock = some w.heap.size) : MRow w' base v' (ms ++ ks) := by
  rw [List.pairwise_cons] at hp
  have hkl : ∀ x ∈ mVals ms ++ mVals ks, ∀ k, x.ownBlock = some k → k < w.heap.size := by
    intro x hx k hk2
    rcases List.mem_append.1 hx with hx | hx
    · exact (h.lt x (List.mem_cons_of_mem _ hx) k hk2).2
    · obtain ⟨m, hm, hx⟩ := mem_mVals.1 hx
      exact ((hk m hm).lt m x hx k hk2).2
  refine ⟨by rw [List.length_append, mCells_append]; exact hown, fun m hm => ?_, ?_⟩
  · rcases List.mem_append.1 hm with hm | hm
    · exact (h.2.1 m hm).kept hg (fun u hu => (hp.1 u (List.mem_append_left _ (mem_mVals.2 ⟨m, hm, hu⟩))).symm)
    · exact (hk m hm).kept hg (fun u hu => (hp.1 u (List.mem_append_right _ (mem_mVals.2 ⟨m, hm, hu⟩))).symm)
  · rw [mVals_append, List.pairwise_cons]
    refine ⟨fun y hy => ?_, hp.2⟩
    rcases hat with e | e
    · rcases hp.1 y hy with h0 | h0
      · exact .inl (by rw [e]; exact h0)
      · exact .inr (by rw [e]; exact h0)
    · refine .inr (fun e2 => ?_)
      rw [e] at e2
      have := hkl y hy _ e2.symm
      omega
/-- What is new since the row was there stands apart from it. -/
theorem MRow.apart {w w1 : World} {base : Nat} {v : Value} {ms ks : List MNet} {b1 : Nat} (h : MRow w base v ms) (hk : ∀ m ∈ ks, MOk w1 b1 m) (hb : w.heap.size ≤ b1) (hp : (mVals ks).Pairwise Aside) : (v :: (mVals ms ++ mVals ks)).Pairwise Aside := by
  have hx := h.lt
  have hy : ∀ y ∈ mVals ks, ∀ k, y.ownBlock = some k → w.heap.size ≤ k := by
    intro y hy k hk2
    obtain ⟨m, hm, hy⟩ := mem_mVals.1 hy
    exact Nat.le_trans hb ((hk m hm).lt m y hy k hk2).1
  have h2 := h.2.2
  rw [List.pairwise_cons] at h2 ⊢
  refine ⟨fun y hy2 => ?_, List.pairwise_append.2 ⟨h2.2, hp, fun x hx2 y hy2 => aside_new (fun k hk2 => (hx x (List.mem_cons_of_mem _ hx2) k hk2).2) (hy y hy2)⟩⟩
  rcases List.mem_append.1 hy2 with hy2 | hy2
  · exact h2.1 y hy2
  · exact aside_new (fun k hk2 => (hx v (by simp) k hk2).2) (hy y hy2)
theorem MOwn.kids {w : World} {base : Nat} {m : MNet} (h : MOwn w base m) : (∀ x ∈ m.kids, MOk w base x) ∧ (mVals m.kids).Pairwise Aside := by
  refine ⟨((MOk_iff w base m).1 h.1).2.2, ?_⟩
  have h2 := h.2
  rw [MNet.vals_eq, List.pairwise_cons, List.pairwise_cons] at h2
  exact h2.2.2
theorem MRow.one {w : World} {base : Nat} {v : Value} {ms : List MNet} (h : MRow w base v ms) (i : Nat) (hi : i < ms.length) : MOwn w base ms[i] := by
  refine ⟨h.2.1 _ (List.getElem_mem hi), ?_⟩
  have h2 := (List.pairwise_cons.1 h.2.2).2
  unfold mVals at h2
  rw [List.pairwise_flatten] at h2
  exact h2.1 _ (List.mem_map.2 ⟨_, List.getElem_mem hi, rfl⟩)
/-- A net of a row of nets: its operands' row stands apart. -/
theorem MRow.net {w : World} {base : Nat} {v av : Value} {ms : List MNet} (k op : Int) (ds : List Stil.Dev) (h : MRow w base v ms) (ha : w.ownsRow base 42 3 av ds.length (devsCells ds)) (hd : ∀ x ∈ v :: mVals ms, Aside av x) : MOwn w base ⟨k, op, ds, av, v, ms⟩ := by
  refine ⟨(MOk_iff _ _ _).2 ⟨ha, h.1, h.2.1⟩, ?_⟩
  rw [MNet.vals_eq, List.pairwise_cons]
  exact ⟨hd, h.2.2⟩
theorem aside_nil (x : Value) : Aside (.slice none 0 0) x := .inl rfl
/-- What it holds. -/
theorem MOk.from {w : World} {base : Nat} (m : MNet) (h : MOk w base m) : DevsFrom base w m.av m.net.one.args ∧ NetsFrom base w m.kv m.net.kids := by
  revert h
  refine mnet_ind (fun m => MOk w base m → DevsFrom base w m.av m.net.one.args ∧ NetsFrom base w m.kv m.net.kids) ?_ m
  intro k op ds av kv kids ih h
  rw [MOk_iff] at h
  rw [MNet.net_eq]
  refine ⟨DevsFrom.of_owns h.1, ?_⟩
  simp only at h ⊢
  by_cases hz : kids.length = 0
  · obtain ⟨a, cap, rfl⟩ := slice_of_owns h.2.1
    exact ⟨a, cap, by simp, fun i hi => absurd hi (by simp; omega)⟩
  · obtain ⟨g, cap, hv, hbase, hlt, _, hcell⟩ := ownsRow_cells h.2.1 (by omega)
    subst hv
    refine ⟨_, cap, by simp, fun i hi => ⟨g, 0, rfl, hbase, hlt, ?_⟩⟩
    have hi' : i < kids.length := by simpa using hi
    obtain ⟨a1, a2, a3, a4⟩ := mCells_get kids i hi'
    obtain ⟨f1, f2⟩ := ih _ (List.getElem_mem hi') (h.2.2 _ (List.getElem_mem hi'))
    rw [List.getElem_map, NetFrom_iff, Nat.zero_add]
    have e := MNet.net_eq kids[i]
    have e1 : kids[i].net.kind = kids[i].kind := by rw [e]
    have e2 : kids[i].net.one.op = kids[i].op := by rw [e]
    rw [e1, e2]
    exact ⟨hcell _ _ a1, hcell _ _ a2, ⟨_, hcell _ _ a3, f1⟩, ⟨_, hcell _ _ a4, f2⟩⟩
/-- The block of a row (0 where it has none). -/
def vb (v : Value) : Nat := v.ownBlock.getD 0
/-- Rows of parts that begin with two numbers, s cells each. -/
def strPs (s b : Nat) : Nat → List (List Pl) → List Pl
  | _, [] => []
  | o, q :: r => (b, o) :: (b, o + 1) :: (q ++ strPs s b (o + s) r)
theorem strPs_mem (s b : Nat) : ∀ (qs : List (List Pl)) (o : Nat) (p : Pl), p ∈ strPs s b o qs → (∃ i, i < qs.length ∧ (p = (b, o + i * s) ∨ p = (b, o + i * s + 1))) ∨ ∃ q ∈ qs, p ∈ q
  | [], _, p, h => by simp [strPs] at h
  | q :: r, o, p, h => by
    rw [strPs] at h
    simp only [List.mem_cons, List.mem_append] at h
    rcases h with h | h | h | h
    · exact .inl ⟨0, by simp, .inl (by simpa using h)⟩
    · exact .inl ⟨0, by simp, .inr (by simpa using h)⟩
    · exact .inr ⟨q, by simp, h⟩
    · rcases strPs_mem s b r (o + s) p h with ⟨i, hi, hp⟩ | ⟨q', hq', hp⟩
      · refine .inl ⟨i + 1, by simp; omega, ?_⟩
        have e : o + s + i * s = o + (i + 1) * s := by rw [Nat.succ_mul]; omega
        rwa [e] at hp
      · exact .inr ⟨q', List.mem_cons_of_mem _ hq', hp⟩
theorem strPs_nodup (s b : Nat) (hs : 2 ≤ s) : ∀ (qs : List (List Pl)) (o : Nat), (∀ q ∈ qs, q.Nodup ∧ ∀ p ∈ q, p.1 ≠ b) → qs.Pairwise (fun q r => ∀ p ∈ q, p ∉ r) → (strPs s b o qs).Nodup
  | [], _, _, _ => List.nodup_nil
  | q :: r, o, h1, h2 => by
    have ih := strPs_nodup s b hs r (o + s) (fun x hx => h1 x (List.mem_cons_of_mem _ hx)) (List.pairwise_cons.1 h2).2
    obtain ⟨hq1, hq2⟩ := h1 q (by simp)
    have hr : ∀ p ∈ strPs s b (o + s) r, p ≠ (b, o) ∧ p ≠ (b, o + 1) ∧ p ∉ q := by
      intro p hp
      rcases strPs_mem s b r (o + s) p hp with ⟨i, _, hp | hp⟩ | ⟨x, hx, hp⟩
      · subst hp
        refine ⟨fun e => ?_, fun e => ?_, fun e => hq2 _ e rfl⟩
        · have := (Prod.mk.inj e).2; omega
        · have := (Prod.mk.inj e).2; omega
      · subst hp
        refine ⟨fun e => ?_, fun e => ?_, fun e => hq2 _ e rfl⟩
        · have := (Prod.mk.inj e).2; omega
        · have := (Prod.mk.inj e).2; omega
      · have hx2 := (h1 x (List.mem_cons_of_mem _ hx)).2 p hp
        refine ⟨fun e => hx2 (by rw [e]), fun e => hx2 (by rw [e]), fun e => (List.pairwise_cons.1 h2).1 x hx p e hp⟩
    rw [strPs, List.nodup_cons, List.nodup_cons, List.nodup_append]
    refine ⟨fun h => ?_, fun h => ?_, hq1, ih, fun a ha c hc e => ?_⟩
    · rcases List.mem_cons.1 h with h | h
      · have := (Prod.mk.inj h).2; omega
      · rcases List.mem_append.1 h with h | h
        · exact hq2 _ h rfl
        · exact (hr _ h).1 rfl
    · rcases List.mem_append.1 h with h | h
      · exact hq2 _ h rfl
      · exact (hr _ h).2.1 rfl
    · subst e; exact (hr _ hc).2.2 ha
/-- What belongs to a net beyond its own two numbers. -/
def MNet.inner : MNet → List Pl
  | ⟨_, _, ds, av, kv, kids⟩ => blockPs (vb av) ds.length ++ strPs 4 (vb kv) 0 (kids.map MNet.inner)
def MNet.dps (m : MNet) : List Pl := blockPs (vb m.av) m.ds.length
def MNet.rps (m : MNet) : List Pl := strPs 4 (vb m.kv) 0 (m.kids.map MNet.inner)
theorem MNet.inner_eq (m : MNet) : m.inner = m.dps ++ m.rps := by obtain ⟨k, op, ds, av, kv, kids⟩ := m; rw [MNet.inner]; rfl
/-- How the net lies; where the rows' values lie (Q) nothing is marked. -/
def MSh (Q : Pl → Prop) (w : World) : MNet → Prop
  | ⟨_, _, ds, av, kv, kids⟩ => DevsSh av (blockPs (vb av) ds.length) ∧ (∃ a cap, kv = .slice a kids.length cap ∧ (0 < kids.length → a = some ⟨vb kv, 0, none⟩)) ∧
    (∀ i (h : i < kids.length), vb kv < w.heap.size ∧ Q (vb kv, i * 4 + 2) ∧ Q (vb kv, i * 4 + 3) ∧ w.cell? ⟨vb kv, i * 4 + 2, none⟩ = some kids[i].av ∧ w.cell? ⟨vb kv, i * 4 + 3, none⟩ = some kids[i].kv) ∧ ∀ p ∈ kids.map (MSh Q w), p
theorem MSh_iff (Q : Pl → Prop) (w : World) (m : MNet) : MSh Q w m ↔ DevsSh m.av m.dps ∧ (∃ a cap, m.kv = .slice a m.kids.length cap ∧ (0 < m.kids.length → a = some ⟨vb m.kv, 0, none⟩)) ∧
    (∀ i (h : i < m.kids.length), vb m.kv < w.heap.size ∧ Q (vb m.kv, i * 4 + 2) ∧ Q (vb m.kv, i * 4 + 3) ∧ w.cell? ⟨vb m.kv, i * 4 + 2, none⟩ = some m.kids[i].av ∧ w.cell? ⟨vb m.kv, i * 4 + 3, none⟩ = some m.kids[i].kv) ∧ ∀ x ∈ m.kids, MSh Q w x := by
  obtain ⟨k, op, ds, av, kv, kids⟩ := m
  rw [MSh, Stil.all_map]
  rfl
/-- Operands in memory of their own: their places, as a block. -/
theorem devs_block {w : World} {base : Nat} {u : Value} {ds : List Stil.Dev} (h : w.ownsRow base 42 3 u ds.length (devsCells ds)) :
    DevsSh u (blockPs (vb u) ds.length) ∧ NumsAt w (blockPs (vb u) ds.length) ∧ ∀ p ∈ blockPs (vb u) ds.length, base ≤ p.1 ∧ u.ownBlock = some p.1 := by
  by_cases hd : ds.length = 0
  · have hn : ds = [] := List.length_eq_zero_iff.1 hd
    subst hn
    obtain ⟨a, cap, rfl⟩ := slice_of_owns h
    exact ⟨⟨a, 0, cap, rfl, rfl, fun j hj => absurd hj (by simp [blockPs])⟩, (fun p hp => by simp [blockPs] at hp), (fun p hp => by simp [blockPs] at hp)⟩
  · obtain ⟨g, cap, hv, hbase, hlt, _, hc⟩ := ownsRow_cells h (by omega)
    subst hv
    have hvb : vb (.slice (some ⟨g, 0, none⟩) ds.length cap) = g := rfl
    rw [hvb]
    refine ⟨⟨_, _, _, rfl, blockPs_len _ _, fun j hj => ⟨g, 0, rfl, by simp [blockPs]⟩⟩, fun p hp => ?_, fun p hp => ?_⟩
    · obtain ⟨h1, h2⟩ := blockPs_mem hp
      obtain ⟨b, j⟩ := p
      simp only at h1 h2
      subst h1
      refine ⟨hlt, ?_, h.frozenAt _⟩
      have hi : j / 3 < ds.length := by omega
      obtain ⟨a1, a2, a3⟩ := devsCells_get ds (j / 3) hi
      have hx : j = j / 3 * 3 ∨ j = j / 3 * 3 + 1 ∨ j = j / 3 * 3 + 2 := by omega
      rcases hx with e | e | e
      · exact ⟨_, by rw [ad, e]; exact hc _ _ a1⟩
      · exact ⟨_, by rw [ad, e]; exact hc _ _ a2⟩
      · exact ⟨_, by rw [ad, e]; exact hc _ _ a3⟩
    · obtain ⟨h1, _⟩ := blockPs_mem hp
      rw [h1]
      exact ⟨hbase, rfl⟩
/-- The rows of nets within a net. -/
def MNet.rows : MNet → List Value
  | ⟨_, _, _, _, kv, kids⟩ => kv :: (kids.map MNet.rows).flatten
theorem MNet.rows_eq (m : MNet) : m.rows = m.kv :: (m.kids.map MNet.rows).flatten := by obtain ⟨k, op, ds, av, kv, kids⟩ := m; rw [MNet.rows]
theorem MNet.mem_rows {m x : MNet} (hx : x ∈ m.kids) {v : Value} (hv : v ∈ x.rows) : v ∈ m.rows := by
  rw [MNet.rows_eq]
  exact List.mem_cons_of_mem _ (List.mem_flatten.2 ⟨_, List.mem_map.2 ⟨x, hx, rfl⟩, hv⟩)
/-- Where the rows' values lie. -/
def heads (rows : List Value) (p : Pl) : Prop := 2 ≤ p.2 % 4 ∧ ∃ v ∈ rows, v.ownBlock = some p.1
theorem MSh.mono {Q Q' : Pl → Prop} {w : World} (hq : ∀ p, Q p → Q' p) (m : MNet) : MSh Q w m → MSh Q' w m := by
  refine mnet_ind (fun m => MSh Q w m → MSh Q' w m) ?_ m
  intro k op ds av kv kids ih h
  rw [MSh_iff] at h ⊢
  obtain ⟨h1, h2, h3, h4⟩ := h
  refine ⟨h1, h2, fun i hi => ?_, fun x hx => ih x hx (h4 x hx)⟩
  obtain ⟨c1, c2, c3, c4, c5⟩ := h3 i hi
  exact ⟨c1, hq _ c2, hq _ c3, c4, c5⟩
/-- A place of a net: of a row of nets, its first or second number, or of operands. -/
theorem MNet.places {w : World} {base : Nat} (m : MNet) : MOwn w base m → MSh (heads m.rows) w m ∧ NumsAt w m.inner ∧ m.inner.Nodup ∧ (∀ p ∈ m.inner, base ≤ p.1 ∧ ∃ x ∈ m.vals, x.ownBlock = some p.1) ∧ ∀ p ∈ m.inner, ¬ heads m.rows p := by
  refine mnet_ind (fun m => MOwn w base m → MSh (heads m.rows) w m ∧ NumsAt w m.inner ∧ m.inner.Nodup ∧ (∀ p ∈ m.inner, base ≤ p.1 ∧ ∃ x ∈ m.vals, x.ownBlock = some p.1) ∧ ∀ p ∈ m.inner, ¬ heads m.rows p) ?_ m
  intro k op ds av kv kids ih h
  obtain ⟨hok, hpw⟩ := h
  have hok2 := (MOk_iff _ _ _).1 hok
  obtain ⟨hA, hK, hkids⟩ := hok2
  simp only at hA hK hkids
  rw [MNet.vals_eq, List.pairwise_cons, List.pairwise_cons] at hpw
  simp only at hpw
  obtain ⟨hpa, hpk, hps⟩ := hpw
  have hps2 := hps
  unfold mVals at hps2
  rw [List.pairwise_flatten] at hps2
  have hkown : ∀ x ∈ kids, MOwn w base x := fun x hx => ⟨hkids x hx, hps2.1 _ (List.mem_map.2 ⟨x, hx, rfl⟩)⟩
  have hvm : ∀ x ∈ kids, ∀ v ∈ x.vals, v ∈ mVals kids := fun x hx v hv => mem_mVals.2 ⟨x, hx, hv⟩
  have hrv : ∀ (y : MNet), ∀ v ∈ y.rows, v ∈ y.vals := by
    intro y
    refine mnet_ind (fun y => ∀ v ∈ y.rows, v ∈ y.vals) ?_ y
    intro k' op' ds' av' kv' kids' ih' v hv
    rw [MNet.rows_eq] at hv
    rw [MNet.vals_eq]
    rcases List.mem_cons.1 hv with hv | hv
    · simp [hv]
    · obtain ⟨l, hl, hv⟩ := List.mem_flatten.1 hv
      obtain ⟨x, hx, rfl⟩ := List.mem_map.1 hl
      exact List.mem_cons_of_mem _ (List.mem_cons_of_mem _ (mem_mVals.2 ⟨x, hx, ih' x hx v hv⟩))
  obtain ⟨d1, d2, d3⟩ := devs_block hA
  obtain ⟨b, hb⟩ : ∃ b, b = vb kv := ⟨_, rfl⟩
  obtain ⟨qs, hqs⟩ : ∃ qs, qs = kids.map MNet.inner := ⟨_, rfl⟩
  have hin : (MNet.mk k op ds av kv kids).inner = blockPs (vb av) ds.length ++ strPs 4 b 0 qs := by rw [MNet.inner, hb, hqs]
  have hkvb : 0 < kids.length → kv.ownBlock = some b := by
    intro hz
    obtain ⟨g, cap, hv, _⟩ := ownsRow_cells hK hz
    rw [hb, hv]; rfl
  have hqm : ∀ q ∈ qs, ∃ x ∈ kids, q = x.inner := by
    intro q hq
    rw [hqs] at hq
    obtain ⟨x, hx, rfl⟩ := List.mem_map.1 hq
    exact ⟨x, hx, rfl⟩
  -- the rows' own places
  have hrow : ∀ p ∈ strPs 4 b 0 qs, (p.1 = b ∧ kv.ownBlock = some b ∧ p.2 % 4 < 2 ∧ p.2 < kids.length * 4) ∨ ∃ x ∈ kids, p ∈ x.inner := by
    intro p hp
    rcases strPs_mem 4 b qs 0 p hp with ⟨i, hi, hp⟩ | ⟨q, hq, hp⟩
    · have hi' : i < kids.length := by rw [hqs] at hi; simpa using hi
      refine .inl ?_
      rcases hp with rfl | rfl
      · exact ⟨rfl, hkvb (by omega), by simp only; omega, by simp only; omega⟩
      · exact ⟨rfl, hkvb (by omega), by simp only; omega, by simp only; omega⟩
    · obtain ⟨x, hx, rfl⟩ := hqm q hq
      exact .inr ⟨x, hx, hp⟩
  have hblk : ∀ p ∈ (MNet.mk k op ds av kv kids).inner, base ≤ p.1 ∧ ∃ x ∈ av :: kv :: mVals kids, x.ownBlock = some p.1 := by
    intro p hp
    rw [hin] at hp
    rcases List.mem_append.1 hp with hp | hp
    · exact ⟨(d3 p hp).1, av, by simp, (d3 p hp).2⟩
    · rcases hrow p hp with ⟨h1, h2, _⟩ | ⟨x, hx, hp⟩
      · rw [h1]
        exact ⟨(hK.lt b h2).1, kv, by simp, h2⟩
      · obtain ⟨h1, v, hv, h2⟩ := (ih x hx (hkown x hx)).2.2.2.1 p hp
        exact ⟨h1, v, List.mem_cons_of_mem _ (List.mem_cons_of_mem _ (hvm x hx v hv)), h2⟩
  -- no place is a head
  have hnoh : ∀ p ∈ (MNet.mk k op ds av kv kids).inner, ¬ heads (MNet.mk k op ds av kv kids).rows p := by
    intro p hp hh
    obtain ⟨h4, v, hv, hvb⟩ := hh
    rw [MNet.rows_eq] at hv
    simp only at hv
    rw [hin] at hp
    have hv2 : v = kv ∨ ∃ x ∈ kids, v ∈ x.rows := by
      rcases List.mem_cons.1 hv with hv | hv
      · exact .inl hv
      · obtain ⟨l, hl, hv⟩ := List.mem_flatten.1 hv
        obtain ⟨x, hx, rfl⟩ := List.mem_map.1 hl
        exact .inr ⟨x, hx, hv⟩
    have hv3 : v = kv ∨ v ∈ mVals kids := by
      rcases hv2 with h | ⟨x, hx, h⟩
      · exact .inl h
      · exact .inr (hvm x hx v (hrv x v h))
    rcases List.mem_append.1 hp with hp | hp
    · have h2 := (d3 p hp).2
      refine (hpa v ?_).no h2 hvb
      rcases hv3 with h | h
      · simp [h]
      · exact List.mem_cons_of_mem _ h
    · rcases hrow p hp with ⟨h1, h2, h3, _⟩ | ⟨x, hx, hp⟩
      · omega
      · obtain ⟨_, u, hu, h2⟩ := (ih x hx (hkown x hx)).2.2.2.1 p hp
        rcases hv2 with h | ⟨y, hy, h⟩
        · rw [h] at hvb
          exact (hpk u (hvm x hx u hu)).no hvb h2
        · obtain ⟨i, hi, rfl⟩ := List.getElem_of_mem hx
          obtain ⟨j, hj, rfl⟩ := List.getElem_of_mem hy
          by_cases e : i = j
          · subst e
            exact (ih _ hx (hkown _ hx)).2.2.2.2 p hp ⟨h4, v, h, hvb⟩
          · have hpp := hps2.2
            rw [List.pairwise_map] at hpp
            have hpp2 := List.pairwise_iff_getElem.1 hpp
            rcases Nat.lt_or_gt_of_ne e with e | e
            · exact (hpp2 i j hi hj e u hu v (hrv _ v h)).no h2 hvb
            · exact (hpp2 j i hj hi e v (hrv _ v h) u hu).no hvb h2
  refine ⟨?_, ?_, ?_, ?_, hnoh⟩
  · rw [MSh_iff]
    refine ⟨d1, ?_, fun i hi => ?_, fun x hx => MSh.mono (fun p hp => ⟨hp.1, hp.2.choose, MNet.mem_rows (m := ⟨k, op, ds, av, kv, kids⟩) hx hp.2.choose_spec.1, hp.2.choose_spec.2⟩) x (ih x hx (hkown x hx)).1⟩
    · simp only
      by_cases hz : kids.length = 0
      · obtain ⟨a, cap, rfl⟩ := slice_of_owns hK
        exact ⟨a, cap, rfl, fun h => absurd h (by omega)⟩
      · obtain ⟨g, cap, hv, _⟩ := ownsRow_cells hK (by omega)
        refine ⟨some ⟨g, 0, none⟩, cap, hv, fun _ => ?_⟩
        rw [hv]; rfl
    · simp only at hi ⊢
      obtain ⟨g, cap, hv, _, hlt, _, hcell⟩ := ownsRow_cells hK (by omega)
      have e : vb kv = g := by rw [hv]; rfl
      rw [e]
      obtain ⟨_, _, a3, a4⟩ := mCells_get kids i hi
      have hg : kv.ownBlock = some g := by rw [hv]; rfl
      exact ⟨hlt, ⟨by simp only; omega, kv, by rw [MNet.rows_eq]; simp, hg⟩, ⟨by simp only; omega, kv, by rw [MNet.rows_eq]; simp, hg⟩, hcell _ _ a3, hcell _ _ a4⟩
  · rw [hin]
    intro p hp
    rcases List.mem_append.1 hp with hp | hp
    · exact d2 p hp
    · rcases strPs_mem 4 b qs 0 p hp with ⟨i, hi, hp⟩ | ⟨q, hq, hp⟩
      · have hi' : i < kids.length := by rw [hqs] at hi; simpa using hi
        obtain ⟨g, cap, hv, _, hlt, _, hcell⟩ := ownsRow_cells hK (by omega)
        have e : b = g := by rw [hb, hv]; rfl
        subst e
        subst hv
        obtain ⟨a1, a2, _, _⟩ := mCells_get kids i hi'
        rcases hp with rfl | rfl
        · exact ⟨hlt, ⟨_, by rw [ad]; simp only [Nat.zero_add]; exact hcell _ _ a1⟩, hK.frozenAt _⟩
        · exact ⟨hlt, ⟨_, by rw [ad]; simp only [Nat.zero_add]; exact hcell _ _ a2⟩, hK.frozenAt _⟩
      · obtain ⟨x, hx, rfl⟩ := hqm q hq
        exact (ih x hx (hkown x hx)).2.1 p hp
  · rw [hin, List.nodup_append]
    refine ⟨blockPs_nodup _ _, strPs_nodup 4 b (by omega) qs 0 (fun q hq => ?_) ?_, fun p hp r hr e => ?_⟩
    · obtain ⟨x, hx, rfl⟩ := hqm q hq
      refine ⟨(ih x hx (hkown x hx)).2.2.1, fun p hp e => ?_⟩
      obtain ⟨_, u, hu, h2⟩ := (ih x hx (hkown x hx)).2.2.2.1 p hp
      rw [e] at h2
      exact (hpk u (hvm x hx u hu)).no (hkvb (List.length_pos_of_mem hx)) h2
    · rw [hqs, List.pairwise_map]
      refine List.pairwise_iff_getElem.2 (fun i j hi hj hij p hp hp2 => ?_)
      have hx := List.getElem_mem hi
      have hy := List.getElem_mem hj
      obtain ⟨_, u, hu, h1⟩ := (ih _ hx (hkown _ hx)).2.2.2.1 p hp
      obtain ⟨_, v, hv, h2⟩ := (ih _ hy (hkown _ hy)).2.2.2.1 p hp2
      have hpp := hps2.2
      rw [List.pairwise_map] at hpp
      exact ((List.pairwise_iff_getElem.1 hpp) i j hi hj hij u hu v hv).no h1 h2
    · subst e
      have h2 := (d3 p hp).2
      rcases hrow p hr with ⟨h1, h3, _⟩ | ⟨x, hx, hr⟩
      · rw [h1] at h2
        exact (hpa kv (by simp)).no h2 h3
      · obtain ⟨_, u, hu, h3⟩ := (ih x hx (hkown x hx)).2.2.2.1 p hr
        exact (hpa u (List.mem_cons_of_mem _ (hvm x hx u hu))).no h2 h3
  · intro p hp
    rw [MNet.vals_eq]
    exact hblk p hp
/-- How many places there are. -/
theorem MNet.count (m : MNet) : Stil.netFits m.net → m.inner.length + 2 ≤ Stil.netSize m.net * 3145730 := by
  refine mnet_ind (fun m => Stil.netFits m.net → m.inner.length + 2 ≤ Stil.netSize m.net * 3145730) ?_ m
  intro k op ds av kv kids ih hf
  have e := MNet.net_eq ⟨k, op, ds, av, kv, kids⟩
  simp only at e
  rw [e] at hf ⊢
  obtain ⟨_, he, _, hk⟩ := (Stil.netFits_eq _ _ _).1 hf
  rw [MNet.inner_eq, Stil.netSize_eq, List.length_append]
  have h1 : (MNet.mk k op ds av kv kids).dps.length = 3 * ds.length := by rw [MNet.dps, blockPs_len]
  have h2 : ds.length ≤ 1048576 := he.2.1
  have h3 : ∀ (l : List MNet) (b o : Nat), (∀ x ∈ l, x.inner.length + 2 ≤ Stil.netSize x.net * 3145730) → (strPs 4 b o (l.map MNet.inner)).length ≤ ((l.map MNet.net).map Stil.netSize).sum * 3145730 := by
    intro l
    induction l with
    | nil => intro b o _; simp [strPs]
    | cons x r ih2 =>
      intro b o h
      have a1 := h x (by simp)
      have a2 := ih2 b (o + 4) (fun y hy => h y (List.mem_cons_of_mem _ hy))
      simp only [List.map_cons, strPs, List.length_cons, List.length_append, List.sum_cons, Nat.add_mul] at a2 ⊢
      omega
  have h4 := h3 kids (vb kv) 0 (fun x hx => ih x hx (hk _ (List.mem_map.2 ⟨x, hx, rfl⟩)))
  have h5 : (MNet.mk k op ds av kv kids).rps.length = (strPs 4 (vb kv) 0 (kids.map MNet.inner)).length := rfl
  rw [h1, h5, Nat.add_mul]
  omega
end Go.Proofs.YtenoanhonjdpjaaGreatDoor
/- Marks of one net. -/
namespace Go.Proofs.YtenoanhonjdpjaaGreatDoor
open Go.RowKit Go.Sort Go.BigFrame
end Go.Proofs.YtenoanhonjdpjaaGreatDoor
