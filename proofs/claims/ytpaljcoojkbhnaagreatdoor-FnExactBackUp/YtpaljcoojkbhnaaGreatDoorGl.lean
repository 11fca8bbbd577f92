/- Y1, Y2, Y4, Y3, Y3b: texts put together. -/
import Derived.Test.YtpaljcoojkbhnaaGreatDoorM31
import Derived.Test.YtpaljcoojkbhnaaGreatDoorGf
set_option maxHeartbeats 4000000
set_option maxRecDepth 100000
/- Nets in memory of their own: trees of what lies where. -/
namespace Go.Proofs.YtpaljcoojkbhnaaGreatDoor
open Go.RowKit Go.Sort Go.BigFrame
/-- Two values that own no block in common. -/
def Aside (u v : Value) : Prop := u.ownBlock = none ∨ u.ownBlock ≠ v.ownBlock
theorem Aside.symm {u v : Value} (h : Aside u v) : Aside v u := by
 rcases h with h | h
 ·by_cases e : v.ownBlock = none
  ·exact .inl e
  ·exact .inr (by rw [h]; exact e)
 ·exact .inr (fun e => h e.symm)
theorem Aside.no {u v : Value} {k : Nat} (h : Aside u v) (hu : u.ownBlock = some k) (hv : v.ownBlock = some k) : False := by
 rcases h with h | h
 ·rw [hu] at h; cases h
 ·exact h (by rw [hu, hv])
theorem aside_new {x y : Value} {n : Nat} (hx : ∀ k, x.ownBlock = some k → k < n) (hy : ∀ k, y.ownBlock = some k → n ≤ k) : Aside x y := by
 by_cases e : x.ownBlock = none
 ·exact .inl e
 ·obtain ⟨k, hk⟩ := Option.ne_none_iff_exists'.1 e
  refine .inr (fun e2 => ?_)
  rw [hk] at e2
  have h1 := hx k hk
  have h2 := hy k e2.symm
  omega
/-- A net, with the values of its operands' and its kids' rows. -/
structure MNet where
 kind : Int
 op : Int
 ds : List Stil.Dev
 av : Value
 kv : Value
 kids : List MNet
theorem mnet_ind (P : MNet → Prop) (h : ∀ k op ds av kv kids, (∀ x ∈ kids, P x) → P ⟨k, op, ds, av, kv, kids⟩) : ∀ n, P n
 | ⟨k, op, ds, av, kv, kids⟩ => h k op ds av kv kids (fun x _ => mnet_ind P h x)
def MNet.net : MNet → Stil.Net
 | ⟨k, op, ds, _, _, kids⟩ => ⟨k, ⟨op, ds⟩, kids.map MNet.net⟩
theorem MNet.net_eq (m : MNet) : m.net = ⟨m.kind, ⟨m.op, m.ds⟩, m.kids.map MNet.net⟩ := by obtain ⟨k, op, ds, av, kv, kids⟩ := m; rw [MNet.net]
def MNet.vals : MNet → List Value
 | ⟨_, _, _, av, kv, kids⟩ => av :: kv :: (kids.map MNet.vals).flatten
def mVals (ms : List MNet) : List Value := (ms.map MNet.vals).flatten
theorem MNet.vals_eq (m : MNet) : m.vals = m.av :: m.kv :: mVals m.kids := by obtain ⟨k, op, ds, av, kv, kids⟩ := m; rw [MNet.vals]; rfl
theorem mVals_append (a b : List MNet) : mVals (a ++ b) = mVals a ++ mVals b := by simp [mVals]
theorem mVals_one (m : MNet) : mVals [m] = m.vals := by simp [mVals]
theorem mem_mVals {ms : List MNet} {x : Value} : x ∈ mVals ms ↔ ∃ m ∈ ms, x ∈ m.vals := by
 simp only [mVals, List.mem_flatten, List.mem_map]
 constructor
 ·rintro ⟨_, ⟨m, hm, rfl⟩, hx⟩; exact ⟨m, hm, hx⟩
 ·rintro ⟨m, hm, hx⟩; exact ⟨_, ⟨m, hm, rfl⟩, hx⟩
def MNet.cells (m : MNet) : List Value := [.int .i64 m.kind, .int .i64 m.op, m.av, m.kv]
def mCells (ms : List MNet) : List Value := ms.flatMap MNet.cells
theorem mCells_append (a b : List MNet) : mCells (a ++ b) = mCells a ++ mCells b := by simp [mCells]
theorem mCells_len (ms : List MNet) : (mCells ms).length = ms.length * 4 := by
 induction ms with
 | nil => rfl
 | cons m r ih =>
  have e : mCells (m :: r) = m.cells ++ mCells r := rfl
  rw [e, List.length_append, ih]
  simp [MNet.cells]; omega
theorem mCells_get : ∀ (ms : List MNet) (i : Nat) (h : i < ms.length), (mCells ms)[i * 4]? = some (.int .i64 ms[i].kind) ∧ (mCells ms)[i * 4 + 1]? = some (.int .i64 ms[i].op) ∧ (mCells ms)[i * 4 + 2]? = some ms[i].av ∧ (mCells ms)[i * 4 + 3]? = some ms[i].kv
 | [], _, h => by simp at h
 | m :: r, 0, _ => ⟨rfl, rfl, rfl, rfl⟩
 | m :: r, i + 1, h => by
  obtain ⟨a1, a2, a3, a4⟩ := mCells_get r i (by simpa using h)
  have e : mCells (m :: r) = .int .i64 m.kind :: .int .i64 m.op :: m.av :: m.kv :: mCells r := rfl
  have e1 : (i + 1) * 4 = i * 4 + 1 + 1 + 1 + 1 := by omega
  rw [e, e1]
  exact ⟨by simpa using a1, by simpa using a2, by simpa using a3, by simpa using a4⟩
/-- The net owns its memory. -/
def MOk (w : World) (base : Nat) : MNet → Prop
 | ⟨_, _, ds, av, kv, kids⟩ => w.ownsRow base 117 3 av ds.length (devsCells ds) ∧ w.ownsRow base 29 4 kv kids.length (mCells kids) ∧ ∀ p ∈ kids.map (MOk w base), p
theorem MOk_iff (w : World) (base : Nat) (m : MNet) : MOk w base m ↔ w.ownsRow base 117 3 m.av m.ds.length (devsCells m.ds) ∧ w.ownsRow base 29 4 m.kv m.kids.length (mCells m.kids) ∧ ∀ x ∈ m.kids, MOk w base x := by
 obtain ⟨k, op, ds, av, kv, kids⟩ := m
 rw [MOk, Stil.all_map]
theorem MOk.map {w w' : World} {base base' : Nat} (m : MNet) (h : MOk w base m) (hk : ∀ (e : TypeId) (s n : Nat) (v : Value) (xs : List Value), v ∈ m.vals → w.ownsRow base e s v n xs → w'.ownsRow base' e s v n xs) : MOk w' base' m := by
 revert h hk
 refine mnet_ind (fun m => MOk w base m → (∀ (e : TypeId) (s n : Nat) (v : Value) (xs : List Value), v ∈ m.vals → w.ownsRow base e s v n xs → w'.ownsRow base' e s v n xs) → MOk w' base' m) ?_ m
 intro k op ds av kv kids ih h hk
 rw [MOk_iff] at h ⊢
 simp only [MNet.vals_eq] at hk
 refine ⟨hk _ _ _ _ _ (by simp) h.1, hk _ _ _ _ _ (by simp) h.2.1, fun x hx => ih x hx (h.2.2 x hx) (fun e s n v xs hv => hk e s n v xs ?_)⟩
 exact List.mem_cons_of_mem _ (List.mem_cons_of_mem _ (mem_mVals.2 ⟨x, hx, hv⟩))
theorem MOk.below {w w' : World} {base : Nat} {m : MNet} (h : MOk w base m) (hb : Below w.heap.size w w') : MOk w' base m := MOk.map m h (fun _ _ _ _ _ _ ho => ownsRow_below ho hb)
theorem MOk.kept {w w' : World} {base : Nat} {m : MNet} {x : Value} (h : MOk w base m) (hg : w.grownBy w' x.ownBlock) (ha : ∀ u ∈ m.vals, Aside u x) : MOk w' base m := MOk.map m h (fun _ _ _ _ _ hv ho => ho.kept hg (ha _ hv))
theorem MOk.le {w : World} {base base' : Nat} {m : MNet} (h : MOk w base m) (hl : base' ≤ base) : MOk w base' m := MOk.map m h (fun _ _ _ _ _ _ ho => Joins.ownsRow_le ho hl)
theorem MOk.lt {w : World} {base : Nat} (m : MNet) (h : MOk w base m) : ∀ x ∈ m.vals, ∀ k, x.ownBlock = some k → base ≤ k ∧ k < w.heap.size := by
 revert h
 refine mnet_ind (fun m => MOk w base m → ∀ x ∈ m.vals, ∀ k, x.ownBlock = some k → base ≤ k ∧ k < w.heap.size) ?_ m
 intro k op ds av kv kids ih h x hx j hj
 rw [MOk_iff] at h
 rw [MNet.vals_eq] at hx
 simp only [List.mem_cons] at hx
 rcases hx with rfl | rfl | hx
 ·exact h.1.lt j hj
 ·exact h.2.1.lt j hj
 ·obtain ⟨y, hy, hx⟩ := mem_mVals.1 hx
  exact ih y hy (h.2.2 y hy) x hx j hj
/-- A net in memory of its own, no two rows of it the same. -/
def MOwn (w : World) (base : Nat) (m : MNet) : Prop := MOk w base m ∧ m.vals.Pairwise Aside
theorem MOwn.below {w w' : World} {base : Nat} {m : MNet} (h : MOwn w base m) (hb : Below w.heap.size w w') : MOwn w' base m := ⟨h.1.below hb, h.2⟩
theorem MOwn.le {w : World} {base base' : Nat} {m : MNet} (h : MOwn w base m) (hl : base' ≤ base) : MOwn w base' m := ⟨h.1.le hl, h.2⟩
/-- A row of nets in memory of its own. -/
def MRow (w : World) (base : Nat) (v : Value) (ms : List MNet) : Prop := w.ownsRow base 29 4 v ms.length (mCells ms) ∧ (∀ m ∈ ms, MOk w base m) ∧ (v :: mVals ms).Pairwise Aside
theorem MRow.nil (w : World) (base : Nat) : MRow w base (.slice none 0 0) [] := ⟨World.ownsRow_nil _ _ _ _, (fun m hm => by cases hm), List.pairwise_singleton _ _⟩
theorem MRow.below {w w' : World} {base : Nat} {v : Value} {ms : List MNet} (h : MRow w base v ms) (hb : Below w.heap.size w w') : MRow w' base v ms := ⟨ownsRow_below h.1 hb, fun m hm => (h.2.1 m hm).below hb, h.2.2⟩
theorem MRow.lt {w : World} {base : Nat} {v : Value} {ms : List MNet} (h : MRow w base v ms) : ∀ x ∈ v :: mVals ms, ∀ k, x.ownBlock = some k → base ≤ k ∧ k < w.heap.size := by
 intro x hx k hk
 rcases List.mem_cons.1 hx with rfl | hx
 ·exact h.1.lt k hk
 ·obtain ⟨m, hm, hx⟩ := mem_mVals.1 hx
  exact (h.2.1 m hm).lt m x hx k hk
/-- More nets in the row: it is grown from w on. -/
theorem MRow.add {w w' : World} {base : Nat} {v v' : Value} {ms ks : List MNet} (h : MRow w base v ms) (hk : ∀ m ∈ ks, MOk w base m) (hp : (v :: (mVals ms ++ mVals ks)).Pairwise Aside)
  (hown : w'.ownsRow base 29 4 v' (ms.length + ks.length) (mCells ms ++ mCells ks)) (hg : w.grownBy w' v.ownBlock) (hat : v'.ownBlock = v.ownBlock ∨ v'.ownBlock = some w.heap.size) : MRow w' base v' (ms ++ ks) := by
 rw [List.pairwise_cons] at hp
 have hkl : ∀ x ∈ mVals ms ++ mVals ks, ∀ k, x.ownBlock = some k → k < w.heap.size := by
  intro x hx k hk2
  rcases List.mem_append.1 hx with hx | hx
  ·exact (h.lt x (List.mem_cons_of_mem _ hx) k hk2).2
  ·obtain ⟨m, hm, hx⟩ := mem_mVals.1 hx
   exact ((hk m hm).lt m x hx k hk2).2
 refine ⟨by rw [List.length_append, mCells_append]; exact hown, fun m hm => ?_, ?_⟩
 ·rcases List.mem_append.1 hm with hm | hm
  ·exact (h.2.1 m hm).kept hg (fun u hu => (hp.1 u (List.mem_append_left _ (mem_mVals.2 ⟨m, hm, hu⟩))).symm)
  ·exact (hk m hm).kept hg (fun u hu => (hp.1 u (List.mem_append_right _ (mem_mVals.2 ⟨m, hm, hu⟩))).symm)
 ·rw [mVals_append, List.pairwise_cons]
  refine ⟨fun y hy => ?_, hp.2⟩
  rcases hat with e | e
  ·rcases hp.1 y hy with h0 | h0
   ·exact .inl (by rw [e]; exact h0)
   ·exact .inr (by rw [e]; exact h0)
  ·refine .inr (fun e2 => ?_)
   rw [e] at e2
   have := hkl y hy _ e2.symm
   omega
theorem MRow.one {w : World} {base : Nat} {v : Value} {ms : List MNet} (h : MRow w base v ms) (i : Nat) (hi : i < ms.length) : MOwn w base ms[i] := by
 refine ⟨h.2.1 _ (List.getElem_mem hi), ?_⟩
 have h2 := (List.pairwise_cons.1 h.2.2).2
 unfold mVals at h2
 rw [List.pairwise_flatten] at h2
 exact h2.1 _ (List.mem_map.2 ⟨_, List.getElem_mem hi, rfl⟩)
/-- A net of a row of nets: its operands' row stands apart. -/
theorem MRow.net {w : World} {base : Nat} {v av : Value} {ms : List MNet} (k op : Int) (ds : List Stil.Dev) (h : MRow w base v ms) (ha : w.ownsRow base 117 3 av ds.length (devsCells ds)) (hd : ∀ x ∈ v :: mVals ms, Aside av x) : MOwn w base ⟨k, op, ds, av, v, ms⟩ := by
 refine ⟨(MOk_iff _ _ _).2 ⟨ha, h.1, h.2.1⟩, ?_⟩
 rw [MNet.vals_eq, List.pairwise_cons]
 exact ⟨hd, h.2.2⟩
theorem aside_nil (x : Value) : Aside (.slice none 0 0) x := .inl rfl
/-- What it holds. -/
theorem MOk.from {w : World} {base : Nat} (m : MNet) (h : MOk w base m) : DevsFrom base w m.av m.net.one.args ∧ NetsFrom base w m.kv m.net.kids := by
 revert h
 refine mnet_ind (fun m => MOk w base m → DevsFrom base w m.av m.net.one.args ∧ NetsFrom base w m.kv m.net.kids) ?_ m
 intro k op ds av kv kids ih h
 rw [MOk_iff] at h
 rw [MNet.net_eq]
 refine ⟨DevsFrom.of_owns h.1, ?_⟩
 simp only at h ⊢
 by_cases hz : kids.length = 0
 ·obtain ⟨a, cap, rfl⟩ := slice_of_owns h.2.1
  exact ⟨a, cap, by simp, fun i hi => absurd hi (by simp; omega)⟩
 ·obtain ⟨g, cap, hv, hbase, hlt, _, hcell⟩ := ownsRow_cells h.2.1 (by omega)
  subst hv
  refine ⟨_, cap, by simp, fun i hi => ⟨g, 0, rfl, hbase, hlt, ?_⟩⟩
  have hi' : i < kids.length := by simpa using hi
  obtain ⟨a1, a2, a3, a4⟩ := mCells_get kids i hi'
  obtain ⟨f1, f2⟩ := ih _ (List.getElem_mem hi') (h.2.2 _ (List.getElem_mem hi'))
  rw [List.getElem_map, NetFrom_iff, Nat.zero_add]
  have e := MNet.net_eq kids[i]
  have e1 : kids[i].net.kind = kids[i].kind := by rw [e]
  have e2 : kids[i].net.one.op = kids[i].op := by rw [e]
  rw [e1, e2]
  exact ⟨hcell _ _ a1, hcell _ _ a2, ⟨_, hcell _ _ a3, f1⟩, ⟨_, hcell _ _ a4, f2⟩⟩
/-- The block of a row (0 where it has none). -/
def vb (v : Value) : Nat := v.ownBlock.getD 0
/-- Rows of parts that begin with two numbers, s cells each. -/
def strPs (s b : Nat) : Nat → List (List Pl) → List Pl
 | _, [] => []
 | o, q :: r => (b, o) :: (b, o + 1) :: (q ++ strPs s b (o + s) r)
theorem strPs_snoc (s b : Nat) : ∀ (qs : List (List Pl)) (o i : Nat) (h : i < qs.length), strPs s b o (qs.take (i + 1)) = strPs s b o (qs.take i) ++ ((b, o + i * s) :: (b, o + i * s + 1) :: qs[i])
 | [], _, _, h => by simp at h
 | q :: r, o, 0, _ => by simp [strPs]
 | q :: r, o, i + 1, h => by
  have ih := strPs_snoc s b r (o + s) i (by simpa using h)
  rw [List.take_succ_cons, List.take_succ_cons, strPs, strPs, ih]
  have e : o + s + i * s = o + (i + 1) * s := by rw [Nat.succ_mul]; omega
  simp [e, List.append_assoc]
theorem strPs_split (s b : Nat) : ∀ (qs : List (List Pl)) (o i : Nat), i ≤ qs.length → strPs s b o qs = strPs s b o (qs.take i) ++ strPs s b (o + i * s) (qs.drop i)
 | qs, o, 0, _ => by simp [strPs]
 | [], _, i + 1, h => by simp at h
 | q :: r, o, i + 1, h => by
  have ih := strPs_split s b r (o + s) i (by simpa using h)
  rw [List.take_succ_cons, List.drop_succ_cons, strPs, strPs, ih]
  have e : o + s + i * s = o + (i + 1) * s := by rw [Nat.succ_mul]; omega
  simp [e, List.append_assoc]
theorem strPs_len (s b : Nat) : ∀ (qs : List (List Pl)) (o : Nat), qs.length ≤ (strPs s b o qs).length := by
 intro qs
 induction qs with
 | nil => intro o; simp
 | cons q r ih => intro o; have := ih (o + s); simp [strPs]; omega
theorem strPs_mem (s b : Nat) : ∀ (qs : List (List Pl)) (o : Nat) (p : Pl), p ∈ strPs s b o qs → (∃ i, i < qs.length ∧ (p = (b, o + i * s) ∨ p = (b, o + i * s + 1))) ∨ ∃ q ∈ qs, p ∈ q
 | [], _, p, h => by simp [strPs] at h
 | q :: r, o, p, h => by
  rw [strPs] at h
  simp only [List.mem_cons, List.mem_append] at h
  rcases h with h | h | h | h
  ·exact .inl ⟨0, by simp, .inl (by simpa using h)⟩
  ·exact .inl ⟨0, by simp, .inr (by simpa using h)⟩
  ·exact .inr ⟨q, by simp, h⟩
  ·rcases strPs_mem s b r (o + s) p h with ⟨i, hi, hp⟩ | ⟨q', hq', hp⟩
   ·refine .inl ⟨i + 1, by simp; omega, ?_⟩
    have e : o + s + i * s = o + (i + 1) * s := by rw [Nat.succ_mul]; omega
    rwa [e] at hp
   ·exact .inr ⟨q', List.mem_cons_of_mem _ hq', hp⟩
theorem strPs_nodup (s b : Nat) (hs : 2 ≤ s) : ∀ (qs : List (List Pl)) (o : Nat), (∀ q ∈ qs, q.Nodup ∧ ∀ p ∈ q, p.1 ≠ b) → qs.Pairwise (fun q r => ∀ p ∈ q, p ∉ r) → (strPs s b o qs).Nodup
 | [], _, _, _ => List.nodup_nil
 | q :: r, o, h1, h2 => by
  have ih := strPs_nodup s b hs r (o + s) (fun x hx => h1 x (List.mem_cons_of_mem _ hx)) (List.pairwise_cons.1 h2).2
  obtain ⟨hq1, hq2⟩ := h1 q (by simp)
  have hr : ∀ p ∈ strPs s b (o + s) r, p ≠ (b, o) ∧ p ≠ (b, o + 1) ∧ p ∉ q := by
   intro p hp
   rcases strPs_mem s b r (o + s) p hp with ⟨i, _, hp | hp⟩ | ⟨x, hx, hp⟩
   ·subst hp
    refine ⟨fun e => ?_, fun e => ?_, fun e => hq2 _ e rfl⟩
    ·have := (Prod.mk.inj e).2; omega
    ·have := (Prod.mk.inj e).2; omega
   ·subst hp
    refine ⟨fun e => ?_, fun e => ?_, fun e => hq2 _ e rfl⟩
    ·have := (Prod.mk.inj e).2; omega
    ·have := (Prod.mk.inj e).2; omega
   ·have hx2 := (h1 x (List.mem_cons_of_mem _ hx)).2 p hp
    refine ⟨fun e => hx2 (by rw [e]), fun e => hx2 (by rw [e]), fun e => (List.pairwise_cons.1 h2).1 x hx p e hp⟩
  rw [strPs, List.nodup_cons, List.nodup_cons, List.nodup_append]
  refine ⟨fun h => ?_, fun h => ?_, hq1, ih, fun a ha c hc e => ?_⟩
  ·rcases List.mem_cons.1 h with h | h
   ·have := (Prod.mk.inj h).2; omega
   ·rcases List.mem_append.1 h with h | h
    ·exact hq2 _ h rfl
    ·exact (hr _ h).1 rfl
  ·rcases List.mem_append.1 h with h | h
   ·exact hq2 _ h rfl
   ·exact (hr _ h).2.1 rfl
  ·subst e; exact (hr _ hc).2.2 ha
/-- What belongs to a net beyond its own two numbers. -/
def MNet.inner : MNet → List Pl
 | ⟨_, _, ds, av, kv, kids⟩ => blockPs (vb av) ds.length ++ strPs 4 (vb kv) 0 (kids.map MNet.inner)
def MNet.dps (m : MNet) : List Pl := blockPs (vb m.av) m.ds.length
def MNet.rps (m : MNet) : List Pl := strPs 4 (vb m.kv) 0 (m.kids.map MNet.inner)
theorem MNet.inner_eq (m : MNet) : m.inner = m.dps ++ m.rps := by obtain ⟨k, op, ds, av, kv, kids⟩ := m; rw [MNet.inner]; rfl
/-- How the net lies; where the rows' values lie (Q) nothing is marked. -/
def MSh (Q : Pl → Prop) (w : World) : MNet → Prop
 | ⟨_, _, ds, av, kv, kids⟩ => DevsSh av (blockPs (vb av) ds.length) ∧ (∃ a cap, kv = .slice a kids.length cap ∧ (0 < kids.length → a = some ⟨vb kv, 0, none⟩)) ∧
  (∀ i (h : i < kids.length), vb kv < w.heap.size ∧ Q (vb kv, i * 4 + 2) ∧ Q (vb kv, i * 4 + 3) ∧ w.cell? ⟨vb kv, i * 4 + 2, none⟩ = some kids[i].av ∧ w.cell? ⟨vb kv, i * 4 + 3, none⟩ = some kids[i].kv) ∧ ∀ p ∈ kids.map (MSh Q w), p
theorem MSh_iff (Q : Pl → Prop) (w : World) (m : MNet) : MSh Q w m ↔ DevsSh m.av m.dps ∧ (∃ a cap, m.kv = .slice a m.kids.length cap ∧ (0 < m.kids.length → a = some ⟨vb m.kv, 0, none⟩)) ∧
  (∀ i (h : i < m.kids.length), vb m.kv < w.heap.size ∧ Q (vb m.kv, i * 4 + 2) ∧ Q (vb m.kv, i * 4 + 3) ∧ w.cell? ⟨vb m.kv, i * 4 + 2, none⟩ = some m.kids[i].av ∧ w.cell? ⟨vb m.kv, i * 4 + 3, none⟩ = some m.kids[i].kv) ∧ ∀ x ∈ m.kids, MSh Q w x := by
 obtain ⟨k, op, ds, av, kv, kids⟩ := m
 rw [MSh, Stil.all_map]
 rfl
theorem MSh.map {Q : Pl → Prop} {w w' : World} (hs : w.heap.size ≤ w'.heap.size) (hc : ∀ b o, b < w.heap.size → Q (b, o) → w'.cell? ⟨b, o, none⟩ = w.cell? ⟨b, o, none⟩) (m : MNet) : MSh Q w m → MSh Q w' m := by
 refine mnet_ind (fun m => MSh Q w m → MSh Q w' m) ?_ m
 intro k op ds av kv kids ih h
 rw [MSh_iff] at h ⊢
 obtain ⟨h1, h2, h3, h4⟩ := h
 refine ⟨h1, h2, fun i hi => ?_, fun x hx => ih x hx (h4 x hx)⟩
 obtain ⟨c1, c2, c3, c4, c5⟩ := h3 i hi
 exact ⟨Nat.lt_of_lt_of_le c1 hs, c2, c3, (hc _ _ c1 c2).trans c4, (hc _ _ c1 c3).trans c5⟩
theorem MSh.marked {Q : Pl → Prop} {w w' : World} {m : MNet} {ps : List Pl} {k : Int} (h : MSh Q w m) (hm : Marked w w' ps k) (hq : ∀ p ∈ ps, ¬ Q p) : MSh Q w' m := MSh.map hm.1 (fun b o hl hQ => hm.2.1 (b, o) hl (fun hp => hq _ hp hQ)) m h
theorem p_markNets (Q : Pl → Prop) (m : MNet) : ∀ (k : Int) (w : World), MSh Q w m → NumsAt w m.rps → m.rps.Nodup → (∀ p ∈ m.rps, ¬ Q p) → 0 ≤ k → k + m.rps.length ≤ 4611686018427387904 →
  Calls Tryz.prog 32 #[m.kv, .int .i64 k] w fun e w' => e = .returned (.int .i64 (k + m.rps.length)) ∧ Marked w w' m.rps k := by
 refine mnet_ind (fun m => ∀ (k : Int) (w : World), MSh Q w m → NumsAt w m.rps → m.rps.Nodup → (∀ p ∈ m.rps, ¬ Q p) → 0 ≤ k → k + m.rps.length ≤ 4611686018427387904 →
  Calls Tryz.prog 32 #[m.kv, .int .i64 k] w fun e w' => e = .returned (.int .i64 (k + m.rps.length)) ∧ Marked w w' m.rps k) ?_ m
 intro kk op ds av0 kv0 kids ih k w hsh hi hnd hq hk0 hkl
 have IH : Hid (∀ x ∈ kids, ∀ (k : Int) (w : World), MSh Q w x → NumsAt w x.rps → x.rps.Nodup → (∀ p ∈ x.rps, ¬ Q p) → 0 ≤ k → k + x.rps.length ≤ 4611686018427387904 →
  Calls Tryz.prog 32 #[x.kv, .int .i64 k] w fun e w' => e = .returned (.int .i64 (k + x.rps.length)) ∧ Marked w w' x.rps k) := ih
 rw [MSh_iff] at hsh
 obtain ⟨_, ⟨a, cap, hkv, ha⟩, hcs, hks⟩ := hsh
 simp only at hkv ha hcs hks
 obtain ⟨b, hb⟩ : ∃ b, b = vb kv0 := ⟨_, rfl⟩
 obtain ⟨qs, hqs⟩ : ∃ qs, qs = kids.map MNet.inner := ⟨_, rfl⟩
 have hrps : (MNet.mk kk op ds av0 kv0 kids).rps = strPs 4 b 0 qs := by rw [hb, hqs]; rfl
 rw [hrps] at hi hnd hq hkl ⊢
 rw [← hb] at ha hcs
 simp only
 subst hkv
 clear hb hrps ih
 obtain ⟨n, hn⟩ : ∃ n, n = kids.length := ⟨_, rfl⟩
 have HN : Hid (n = kids.length) := hn
 have HQL : Hid (qs.length = kids.length) := by show _ = _; rw [hqs]; simp
 have HQG : Hid (∀ i (h : i < qs.length) (h' : i < kids.length), qs[i] = kids[i].dps ++ kids[i].rps) := by
  intro i h h'
  subst hqs
  rw [List.getElem_map, MNet.inner_eq]
 have HI : Hid (NumsAt w (strPs 4 b 0 qs)) := hi
 have HND : Hid (strPs 4 b 0 qs).Nodup := hnd
 have HKL : Hid (k + (strPs 4 b 0 qs).length ≤ 4611686018427387904) := hkl
 have HQ : Hid (∀ p ∈ strPs 4 b 0 qs, ¬ Q p) := hq
 have HCS : Hid (∀ i (h : i < kids.length), b < w.heap.size ∧ Q (b, i * 4 + 2) ∧ Q (b, i * 4 + 3) ∧ w.cell? ⟨b, i * 4 + 2, none⟩ = some kids[i].av ∧ w.cell? ⟨b, i * 4 + 3, none⟩ = some kids[i].kv) := hcs
 have HKS : Hid (∀ x ∈ kids, MSh Q w x) := hks
 have HA : Hid (0 < n → a = some ⟨b, 0, none⟩) := by rw [hn]; exact ha
 have hnb : n ≤ 4611686018427387904 := by
  have h3 := strPs_len 4 b qs 0
  have := HQL.out
  omega
 rw [← hn]
 clear hi hnd hkl ha hn hcs hks hq hqs
 go_enter Tryz.func32, Tryz.ntmps32
 go_wp2
 go_loopw [1, 5] (fun kv iv wr => ∃ (i : Nat) (L : Nat), i ≤ n ∧ L = (strPs 4 b 0 (qs.take i)).length ∧ kv = .int .i64 (k + L) ∧ iv = .int .i64 i ∧ Marked w wr (strPs 4 b 0 (qs.take i)) k) (fun _ iv _ => n - (intOf iv).toNat)
 case atStart => exact ⟨0, 0, by omega, by simp [strPs], by simp, rfl, by simpa [strPs] using Marked.of_below (Below.refl _ _)⟩
 case round =>
  obtain ⟨i, L, hi, hL, rfl, rfl, hm⟩ := hrel
  have HM : Hid (Marked w wr (strPs 4 b 0 (qs.take i)) k) := hm
  have HL : Hid (L = (strPs 4 b 0 (qs.take i)).length) := hL
  clear hm hL
  by_cases hlt : i < n
  ·have hlk : i < kids.length := by have := HN.out; omega
   have hlq : i < qs.length := by have := HQL.out; omega
   obtain rfl := HA.out (by omega)
   obtain ⟨hbz, hQ2, hQ3, hav, hkv⟩ := HCS.out i hlk
   have hshx := HKS.out _ (List.getElem_mem hlk)
   have hspl : strPs 4 b 0 qs = strPs 4 b 0 (qs.take i) ++ (((b, 0 + i * 4) :: (b, 0 + i * 4 + 1) :: qs[i]) ++ strPs 4 b (0 + (i + 1) * 4) (qs.drop (i + 1))) := by
    rw [strPs_split 4 b qs 0 (i + 1) (by omega), strPs_snoc 4 b qs 0 i hlq, List.append_assoc]
   have HSN : Hid (strPs 4 b 0 (qs.take (i + 1)) = strPs 4 b 0 (qs.take i) ++ ((b, 0 + i * 4) :: (b, 0 + i * 4 + 1) :: qs[i])) := strPs_snoc 4 b qs 0 i hlq
   rw [HQG.out i hlq hlk] at hspl HSN
   have IHX := IH.out _ (List.getElem_mem hlk)
   obtain ⟨x, hx⟩ : ∃ x, x = kids[i] := ⟨_, rfl⟩
   rw [← hx] at hspl HSN hav hkv hshx IHX
   have hI := HI.out
   have hN := HND.out
   have hK := HKL.out
   have hQp := HQ.out
   rw [hspl] at hI hN hK hQp
   obtain ⟨A, hA⟩ : ∃ A, A = strPs 4 b 0 (qs.take i) := ⟨_, rfl⟩
   obtain ⟨Z, hZ⟩ : ∃ Z, Z = strPs 4 b (0 + (i + 1) * 4) (qs.drop (i + 1)) := ⟨_, rfl⟩
   rw [← hA] at hI hN hK HM HL HSN hQp
   rw [← hZ] at hI hN hK hQp
   rw [Nat.zero_add] at hI hN hK hQp HSN
   obtain ⟨P, hP⟩ : ∃ P : List Pl, P = [(b, i * 4), (b, i * 4 + 1)] := ⟨_, rfl⟩
   obtain ⟨D, hD⟩ : ∃ D, D = x.dps := ⟨_, rfl⟩
   obtain ⟨R, hR⟩ : ∃ R, R = x.rps := ⟨_, rfl⟩
   have hPq : ((b, i * 4) :: (b, i * 4 + 1) :: (x.dps ++ x.rps)) = P ++ (D ++ R) := by rw [hP, hD, hR]; rfl
   rw [hPq] at hI hN hK HSN hQp
   have hsD : DevsSh x.av D := by rw [hD]; exact ((MSh_iff Q w x).1 hshx).1
   have hsK : ∃ a cap, x.kv = .slice a x.kids.length cap := by
    obtain ⟨a1, c1, h1, _⟩ := ((MSh_iff Q w x).1 hshx).2.1
    exact ⟨a1, c1, h1⟩
   rw [← hR] at IHX
   clear hspl hA hZ hx hPq hD hR
   have hNA := List.nodup_append.1 hN
   have hNP := List.nodup_append.1 hNA.2.1
   have hNQ := List.nodup_append.1 hNP.1
   have hNR := List.nodup_append.1 hNQ.2.1
   have HDA : Hid (∀ p ∈ A, p ∉ P ++ (D ++ R)) := fun p hp hpq => hNA.2.2 p hp p (List.mem_append_left _ hpq) rfl
   have HDP : Hid (∀ p ∈ P, p ∉ D ++ R) := fun p hp hpq => hNQ.2.2 p hp p hpq rfl
   have HDR : Hid (∀ p ∈ D, p ∉ R) := fun p hp hpq => hNR.2.2 p hp p hpq rfl
   have HND2 : Hid D.Nodup := hNR.1
   have HNR2 : Hid R.Nodup := hNR.2.1
   have hIw : NumsAt wr (P ++ (D ++ R)) := (hI.right.left).marked HM.out (fun p hp hpa => hNA.2.2 p hpa p (List.mem_append_left _ hp) rfl)
   have hIP : NumsAt wr P := hIw.left
   have HIP : Hid (∀ p ∈ P, p.1 < wr.heap.size) := fun p hp => (hIP p hp).1
   have HID : Hid (NumsAt wr D) := hIw.right.left
   have HIR : Hid (NumsAt wr R) := hIw.right.right
   have HAL : Hid (∀ p ∈ A, p.1 < w.heap.size) := fun p hp => (hI.left p hp).1
   have hQA : ∀ p ∈ A, ¬ Q p := fun p hp => hQp p (List.mem_append_left _ hp)
   have hQP : ∀ p ∈ P, ¬ Q p := fun p hp => hQp p (List.mem_append_right _ (List.mem_append_left _ (List.mem_append_left _ hp)))
   have HQD : Hid (∀ p ∈ D, ¬ Q p) := fun p hp => hQp p (List.mem_append_right _ (List.mem_append_left _ (List.mem_append_right _ (List.mem_append_left _ hp))))
   have hQR : ∀ p ∈ R, ¬ Q p := fun p hp => hQp p (List.mem_append_right _ (List.mem_append_left _ (List.mem_append_right _ (List.mem_append_right _ hp))))
   have hc2 : wr.cell? ⟨b, i * 4 + 2, none⟩ = some x.av := (HM.out.2.1 (b, i * 4 + 2) hbz (fun h => hQA _ h hQ2)).trans hav
   have hc3 : wr.cell? ⟨b, i * 4 + 3, none⟩ = some x.kv := (HM.out.2.1 (b, i * 4 + 3) hbz (fun h => hQA _ h hQ3)).trans hkv
   have HSX : Hid (MSh Q wr x) := hshx.marked HM.out hQA
   have hLn := HL.out
   have hPl : P.length = 2 := by rw [hP]; rfl
   simp only [List.length_append] at hK
   have hq1 : D.length ≤ 4611686018427387904 := by omega
   have hk2 : k + L + 2 ≤ 4611686018427387904 := by omega
   have hk3 : k + L + 2 + D.length + R.length ≤ 4611686018427387904 := by omega
   have HC : Hid (∀ W, NumsAt W D → Calls Tryz.prog 30 #[x.av, .int .i64 (k + L + 2)] W fun e w' => e = .returned (.int .i64 (k + L + 2 + D.length)) ∧ Marked W w' D (k + L + 2)) := fun W hW => p_markDevs x.av D (k + L + 2) W hsD hW HND2.out (by omega) hk2 hq1
   have HC2 : Hid (∀ W, MSh Q W x → NumsAt W R → Calls Tryz.prog 32 #[x.kv, .int .i64 (k + L + 2 + D.length)] W fun e w' => e = .returned (.int .i64 (k + L + 2 + D.length + R.length)) ∧ Marked W w' R (k + L + 2 + D.length)) := fun W h1 h2 => IHX _ W h1 h2 HNR2.out hQR (by omega) hk3
   obtain ⟨⟨hb0, ⟨n0, c0⟩, f0⟩, ⟨_, ⟨n1, c1⟩, f1⟩⟩ : (b < wr.heap.size ∧ (∃ n, wr.cell? ⟨b, i * 4, none⟩ = some (.int .i64 n)) ∧ wr.frozen? ⟨b, i * 4, none⟩ = false) ∧ (b < wr.heap.size ∧ (∃ n, wr.cell? ⟨b, i * 4 + 1, none⟩ = some (.int .i64 n)) ∧ wr.frozen? ⟨b, i * 4 + 1, none⟩ = false) :=
    ⟨hIP (b, i * 4) (by rw [hP]; simp), hIP (b, i * 4 + 1) (by rw [hP]; simp)⟩
   have HMP : Hid (Marked wr ((wr.setCell ⟨b, i * 4, none⟩ (.int .i64 (k + L))).setCell ⟨b, i * 4 + 1, none⟩ (.int .i64 (k + L + 1))) P (k + L)) := by rw [hP]; exact Marked.two (k + L) hb0 c0 c1
   have HPL : Hid (P.length = 2) := hPl
   have HQP : Hid (∀ p ∈ P, ¬ Q p) := hQP
   have HQ3 : Hid (Q (b, i * 4 + 3)) := hQ3
   obtain ⟨xav, hxav⟩ : ∃ v, v = x.av := ⟨_, rfl⟩
   obtain ⟨xkv, hxkv⟩ : ∃ v, v = x.kv := ⟨_, rfl⟩
   rw [← hxav] at hc2 HC hsD
   rw [← hxkv] at hc3 HC2 hsK
   obtain ⟨a', n', cap', rfl, hz1, hz2⟩ := hsD
   clear hz1 hz2
   obtain ⟨a'', cap'', rfl⟩ := hsK
   clear hI hN hK hNA hNP hNQ hNR hIw hIP hav hkv hP hLn hQA hQP hQR hQp hshx IHX hQ2 hQ3 hxav hxkv
   have w1 : IntKind.i64.wrap (k + (L : Int) + 1) = k + L + 1 := by rw [IntKind.wrap_i64]; omega
   have w2 : IntKind.i64.wrap (k + (L : Int) + 1 + 1) = k + L + 2 := by rw [IntKind.wrap_i64]; omega
   go_wp2_with (go_at_call 30; refine (HC.out _ (HID.out.marked HMP.out (fun p hp hpp => HDP.out p hpp (List.mem_append_left _ hp)))).mono ?_; rintro e w3 ⟨rfl, hm3⟩; have hb3 : b < w3.heap.size := Nat.lt_of_lt_of_le (by simpa using hb0) hm3.1; have hd3 : w3.cell? ⟨b, i * 4 + 3, none⟩ = some (.slice a'' x.kids.length cap'') := (hm3.2.1 (b, i * 4 + 3) (by simpa using hb0) (fun h => HQD.out _ h HQ3.out)).trans ((cellSetOff (by omega)).trans ((cellSetOff (by omega)).trans hc3)))
   go_wp2_with (go_at_call 32; refine (HC2.out _ ((HSX.out.marked HMP.out HQP.out).marked hm3 HQD.out) (((HIR.out).marked HMP.out (fun p hp hpp => HDP.out p hpp (List.mem_append_right _ hp))).marked hm3 (fun p hp hpd => HDR.out p hpd hp))).mono ?_; rintro e w4 ⟨rfl, hm4⟩)
   refine ⟨⟨i + 1, L + 2 + D.length + R.length, by omega, ?_, ?_, by go_num, ?_⟩, by simp [intOf]; omega⟩
   ·rw [HSN.out, List.length_append, List.length_append, List.length_append, HPL.out, ← HL.out]; omega
   ·congr 1; omega
   ·rw [HSN.out]
    refine Marked.append HM.out ?_ HAL.out HDA.out
    rw [← HL.out]
    refine Marked.append HMP.out ?_ HIP.out HDP.out
    rw [HPL.out]
    refine Marked.append hm3 hm4 (fun p hp => Nat.lt_of_lt_of_le (HID.out p hp).1 HMP.out.1) HDR.out
  ·obtain rfl : i = n := by omega
   go_wp2
   go_ret
   have hT : qs.take i = qs := List.take_of_length_le (by have := HN.out; have := HQL.out; omega)
   refine ⟨ret_int (by rw [HL.out, hT]), ?_⟩
   have := HM.out
   rwa [hT] at this
/-- Operands in memory of their own: their places, as a block. -/
theorem devs_block {w : World} {base : Nat} {u : Value} {ds : List Stil.Dev} (h : w.ownsRow base 117 3 u ds.length (devsCells ds)) :
  DevsSh u (blockPs (vb u) ds.length) ∧ NumsAt w (blockPs (vb u) ds.length) ∧ ∀ p ∈ blockPs (vb u) ds.length, base ≤ p.1 ∧ u.ownBlock = some p.1 := by
 by_cases hd : ds.length = 0
 ·have hn : ds = [] := List.length_eq_zero_iff.1 hd
  subst hn
  obtain ⟨a, cap, rfl⟩ := slice_of_owns h
  exact ⟨⟨a, 0, cap, rfl, rfl, fun j hj => absurd hj (by simp [blockPs])⟩, (fun p hp => by simp [blockPs] at hp), (fun p hp => by simp [blockPs] at hp)⟩
 ·obtain ⟨g, cap, hv, hbase, hlt, _, hc⟩ := ownsRow_cells h (by omega)
  subst hv
  have hvb : vb (.slice (some ⟨g, 0, none⟩) ds.length cap) = g := rfl
  rw [hvb]
  refine ⟨⟨_, _, _, rfl, blockPs_len _ _, fun j hj => ⟨g, 0, rfl, by simp [blockPs]⟩⟩, fun p hp => ?_, fun p hp => ?_⟩
  ·obtain ⟨h1, h2⟩ := blockPs_mem hp
   obtain ⟨b, j⟩ := p
   simp only at h1 h2
   subst h1
   refine ⟨hlt, ?_, h.frozenAt _⟩
   have hi : j / 3 < ds.length := by omega
   obtain ⟨a1, a2, a3⟩ := devsCells_get ds (j / 3) hi
   have hx : j = j / 3 * 3 ∨ j = j / 3 * 3 + 1 ∨ j = j / 3 * 3 + 2 := by omega
   rcases hx with e | e | e
   ·exact ⟨_, by rw [ad, e]; exact hc _ _ a1⟩
   ·exact ⟨_, by rw [ad, e]; exact hc _ _ a2⟩
   ·exact ⟨_, by rw [ad, e]; exact hc _ _ a3⟩
  ·obtain ⟨h1, _⟩ := blockPs_mem hp
   rw [h1]
   exact ⟨hbase, rfl⟩
/-- The rows of nets within a net. -/
def MNet.rows : MNet → List Value
 | ⟨_, _, _, _, kv, kids⟩ => kv :: (kids.map MNet.rows).flatten
theorem MNet.rows_eq (m : MNet) : m.rows = m.kv :: (m.kids.map MNet.rows).flatten := by obtain ⟨k, op, ds, av, kv, kids⟩ := m; rw [MNet.rows]
theorem MNet.mem_rows {m x : MNet} (hx : x ∈ m.kids) {v : Value} (hv : v ∈ x.rows) : v ∈ m.rows := by
 rw [MNet.rows_eq]
 exact List.mem_cons_of_mem _ (List.mem_flatten.2 ⟨_, List.mem_map.2 ⟨x, hx, rfl⟩, hv⟩)
/-- Where the rows' values lie. -/
def heads (rows : List Value) (p : Pl) : Prop := 2 ≤ p.2 % 4 ∧ ∃ v ∈ rows, v.ownBlock = some p.1
theorem MSh.mono {Q Q' : Pl → Prop} {w : World} (hq : ∀ p, Q p → Q' p) (m : MNet) : MSh Q w m → MSh Q' w m := by
 refine mnet_ind (fun m => MSh Q w m → MSh Q' w m) ?_ m
 intro k op ds av kv kids ih h
 rw [MSh_iff] at h ⊢
 obtain ⟨h1, h2, h3, h4⟩ := h
 refine ⟨h1, h2, fun i hi => ?_, fun x hx => ih x hx (h4 x hx)⟩
 obtain ⟨c1, c2, c3, c4, c5⟩ := h3 i hi
 exact ⟨c1, hq _ c2, hq _ c3, c4, c5⟩
/-- A place of a net: of a row of nets, its first or second number, or of operands. -/
theorem MNet.places {w : World} {base : Nat} (m : MNet) : MOwn w base m → MSh (heads m.rows) w m ∧ NumsAt w m.inner ∧ m.inner.Nodup ∧ (∀ p ∈ m.inner, base ≤ p.1 ∧ ∃ x ∈ m.vals, x.ownBlock = some p.1) ∧ ∀ p ∈ m.inner, ¬ heads m.rows p := by
 refine mnet_ind (fun m => MOwn w base m → MSh (heads m.rows) w m ∧ NumsAt w m.inner ∧ m.inner.Nodup ∧ (∀ p ∈ m.inner, base ≤ p.1 ∧ ∃ x ∈ m.vals, x.ownBlock = some p.1) ∧ ∀ p ∈ m.inner, ¬ heads m.rows p) ?_ m
 intro k op ds av kv kids ih h
 obtain ⟨hok, hpw⟩ := h
 have hok2 := (MOk_iff _ _ _).1 hok
 obtain ⟨hA, hK, hkids⟩ := hok2
 simp only at hA hK hkids
 rw [MNet.vals_eq, List.pairwise_cons, List.pairwise_cons] at hpw
 simp only at hpw
 obtain ⟨hpa, hpk, hps⟩ := hpw
 have hps2 := hps
 unfold mVals at hps2
 rw [List.pairwise_flatten] at hps2
 have hkown : ∀ x ∈ kids, MOwn w base x := fun x hx => ⟨hkids x hx, hps2.1 _ (List.mem_map.2 ⟨x, hx, rfl⟩)⟩
 have hvm : ∀ x ∈ kids, ∀ v ∈ x.vals, v ∈ mVals kids := fun x hx v hv => mem_mVals.2 ⟨x, hx, hv⟩
 have hrv : ∀ (y : MNet), ∀ v ∈ y.rows, v ∈ y.vals := by
  intro y
  refine mnet_ind (fun y => ∀ v ∈ y.rows, v ∈ y.vals) ?_ y
  intro k' op' ds' av' kv' kids' ih' v hv
  rw [MNet.rows_eq] at hv
  rw [MNet.vals_eq]
  rcases List.mem_cons.1 hv with hv | hv
  ·simp [hv]
  ·obtain ⟨l, hl, hv⟩ := List.mem_flatten.1 hv
   obtain ⟨x, hx, rfl⟩ := List.mem_map.1 hl
   exact List.mem_cons_of_mem _ (List.mem_cons_of_mem _ (mem_mVals.2 ⟨x, hx, ih' x hx v hv⟩))
 obtain ⟨d1, d2, d3⟩ := devs_block hA
 obtain ⟨b, hb⟩ : ∃ b, b = vb kv := ⟨_, rfl⟩
 obtain ⟨qs, hqs⟩ : ∃ qs, qs = kids.map MNet.inner := ⟨_, rfl⟩
 have hin : (MNet.mk k op ds av kv kids).inner = blockPs (vb av) ds.length ++ strPs 4 b 0 qs := by rw [MNet.inner, hb, hqs]
 have hkvb : 0 < kids.length → kv.ownBlock = some b := by
  intro hz
  obtain ⟨g, cap, hv, _⟩ := ownsRow_cells hK hz
  rw [hb, hv]; rfl
 have hqm : ∀ q ∈ qs, ∃ x ∈ kids, q = x.inner := by
  intro q hq
  rw [hqs] at hq
  obtain ⟨x, hx, rfl⟩ := List.mem_map.1 hq
  exact ⟨x, hx, rfl⟩
 -- the rows' own places
 have hrow : ∀ p ∈ strPs 4 b 0 qs, (p.1 = b ∧ kv.ownBlock = some b ∧ p.2 % 4 < 2 ∧ p.2 < kids.length * 4) ∨ ∃ x ∈ kids, p ∈ x.inner := by
  intro p hp
  rcases strPs_mem 4 b qs 0 p hp with ⟨i, hi, hp⟩ | ⟨q, hq, hp⟩
  ·have hi' : i < kids.length := by rw [hqs] at hi; simpa using hi
   refine .inl ?_
   rcases hp with rfl | rfl
   ·exact ⟨rfl, hkvb (by omega), by simp only; omega, by simp only; omega⟩
   ·exact ⟨rfl, hkvb (by omega), by simp only; omega, by simp only; omega⟩
  ·obtain ⟨x, hx, rfl⟩ := hqm q hq
   exact .inr ⟨x, hx, hp⟩
 have hblk : ∀ p ∈ (MNet.mk k op ds av kv kids).inner, base ≤ p.1 ∧ ∃ x ∈ av :: kv :: mVals kids, x.ownBlock = some p.1 := by
  intro p hp
  rw [hin] at hp
  rcases List.mem_append.1 hp with hp | hp
  ·exact ⟨(d3 p hp).1, av, by simp, (d3 p hp).2⟩
  ·rcases hrow p hp with ⟨h1, h2, _⟩ | ⟨x, hx, hp⟩
   ·rw [h1]
    exact ⟨(hK.lt b h2).1, kv, by simp, h2⟩
   ·obtain ⟨h1, v, hv, h2⟩ := (ih x hx (hkown x hx)).2.2.2.1 p hp
    exact ⟨h1, v, List.mem_cons_of_mem _ (List.mem_cons_of_mem _ (hvm x hx v hv)), h2⟩
 -- no place is a head
 have hnoh : ∀ p ∈ (MNet.mk k op ds av kv kids).inner, ¬ heads (MNet.mk k op ds av kv kids).rows p := by
  intro p hp hh
  obtain ⟨h4, v, hv, hvb⟩ := hh
  rw [MNet.rows_eq] at hv
  simp only at hv
  rw [hin] at hp
  have hv2 : v = kv ∨ ∃ x ∈ kids, v ∈ x.rows := by
   rcases List.mem_cons.1 hv with hv | hv
   ·exact .inl hv
   ·obtain ⟨l, hl, hv⟩ := List.mem_flatten.1 hv
    obtain ⟨x, hx, rfl⟩ := List.mem_map.1 hl
    exact .inr ⟨x, hx, hv⟩
  have hv3 : v = kv ∨ v ∈ mVals kids := by
   rcases hv2 with h | ⟨x, hx, h⟩
   ·exact .inl h
   ·exact .inr (hvm x hx v (hrv x v h))
  rcases List.mem_append.1 hp with hp | hp
  ·have h2 := (d3 p hp).2
   refine (hpa v ?_).no h2 hvb
   rcases hv3 with h | h
   ·simp [h]
   ·exact List.mem_cons_of_mem _ h
  ·rcases hrow p hp with ⟨h1, h2, h3, _⟩ | ⟨x, hx, hp⟩
   ·omega
   ·obtain ⟨_, u, hu, h2⟩ := (ih x hx (hkown x hx)).2.2.2.1 p hp
    rcases hv2 with h | ⟨y, hy, h⟩
    ·rw [h] at hvb
     exact (hpk u (hvm x hx u hu)).no hvb h2
    ·obtain ⟨i, hi, rfl⟩ := List.getElem_of_mem hx
     obtain ⟨j, hj, rfl⟩ := List.getElem_of_mem hy
     by_cases e : i = j
     ·subst e
      exact (ih _ hx (hkown _ hx)).2.2.2.2 p hp ⟨h4, v, h, hvb⟩
     ·have hpp := hps2.2
      rw [List.pairwise_map] at hpp
      have hpp2 := List.pairwise_iff_getElem.1 hpp
      rcases Nat.lt_or_gt_of_ne e with e | e
      ·exact (hpp2 i j hi hj e u hu v (hrv _ v h)).no h2 hvb
      ·exact (hpp2 j i hj hi e v (hrv _ v h) u hu).no hvb h2
 refine ⟨?_, ?_, ?_, ?_, hnoh⟩
 ·rw [MSh_iff]
  refine ⟨d1, ?_, fun i hi => ?_, fun x hx => MSh.mono (fun p hp => ⟨hp.1, hp.2.choose, MNet.mem_rows (m := ⟨k, op, ds, av, kv, kids⟩) hx hp.2.choose_spec.1, hp.2.choose_spec.2⟩) x (ih x hx (hkown x hx)).1⟩
  ·simp only
   by_cases hz : kids.length = 0
   ·obtain ⟨a, cap, rfl⟩ := slice_of_owns hK
    exact ⟨a, cap, rfl, fun h => absurd h (by omega)⟩
   ·obtain ⟨g, cap, hv, _⟩ := ownsRow_cells hK (by omega)
    refine ⟨some ⟨g, 0, none⟩, cap, hv, fun _ => ?_⟩
    rw [hv]; rfl
  ·simp only at hi ⊢
   obtain ⟨g, cap, hv, _, hlt, _, hcell⟩ := ownsRow_cells hK (by omega)
   have e : vb kv = g := by rw [hv]; rfl
   rw [e]
   obtain ⟨_, _, a3, a4⟩ := mCells_get kids i hi
   have hg : kv.ownBlock = some g := by rw [hv]; rfl
   exact ⟨hlt, ⟨by simp only; omega, kv, by rw [MNet.rows_eq]; simp, hg⟩, ⟨by simp only; omega, kv, by rw [MNet.rows_eq]; simp, hg⟩, hcell _ _ a3, hcell _ _ a4⟩
 ·rw [hin]
  intro p hp
  rcases List.mem_append.1 hp with hp | hp
  ·exact d2 p hp
  ·rcases strPs_mem 4 b qs 0 p hp with ⟨i, hi, hp⟩ | ⟨q, hq, hp⟩
   ·have hi' : i < kids.length := by rw [hqs] at hi; simpa using hi
    obtain ⟨g, cap, hv, _, hlt, _, hcell⟩ := ownsRow_cells hK (by omega)
    have e : b = g := by rw [hb, hv]; rfl
    subst e
    subst hv
    obtain ⟨a1, a2, _, _⟩ := mCells_get kids i hi'
    rcases hp with rfl | rfl
    ·exact ⟨hlt, ⟨_, by rw [ad]; simp only [Nat.zero_add]; exact hcell _ _ a1⟩, hK.frozenAt _⟩
    ·exact ⟨hlt, ⟨_, by rw [ad]; simp only [Nat.zero_add]; exact hcell _ _ a2⟩, hK.frozenAt _⟩
   ·obtain ⟨x, hx, rfl⟩ := hqm q hq
    exact (ih x hx (hkown x hx)).2.1 p hp
 ·rw [hin, List.nodup_append]
  refine ⟨blockPs_nodup _ _, strPs_nodup 4 b (by omega) qs 0 (fun q hq => ?_) ?_, fun p hp r hr e => ?_⟩
  ·obtain ⟨x, hx, rfl⟩ := hqm q hq
   refine ⟨(ih x hx (hkown x hx)).2.2.1, fun p hp e => ?_⟩
   obtain ⟨_, u, hu, h2⟩ := (ih x hx (hkown x hx)).2.2.2.1 p hp
   rw [e] at h2
   exact (hpk u (hvm x hx u hu)).no (hkvb (List.length_pos_of_mem hx)) h2
  ·rw [hqs, List.pairwise_map]
   refine List.pairwise_iff_getElem.2 (fun i j hi hj hij p hp hp2 => ?_)
   have hx := List.getElem_mem hi
   have hy := List.getElem_mem hj
   obtain ⟨_, u, hu, h1⟩ := (ih _ hx (hkown _ hx)).2.2.2.1 p hp
   obtain ⟨_, v, hv, h2⟩ := (ih _ hy (hkown _ hy)).2.2.2.1 p hp2
   have hpp := hps2.2
   rw [List.pairwise_map] at hpp
   exact ((List.pairwise_iff_getElem.1 hpp) i j hi hj hij u hu v hv).no h1 h2
  ·subst e
   have h2 := (d3 p hp).2
   rcases hrow p hr with ⟨h1, h3, _⟩ | ⟨x, hx, hr⟩
   ·rw [h1] at h2
    exact (hpa kv (by simp)).no h2 h3
   ·obtain ⟨_, u, hu, h3⟩ := (ih x hx (hkown x hx)).2.2.2.1 p hr
    exact (hpa u (List.mem_cons_of_mem _ (hvm x hx u hu))).no h2 h3
 ·intro p hp
  rw [MNet.vals_eq]
  exact hblk p hp
/-- How many places there are. -/
theorem MNet.count (m : MNet) : Stil.netFits m.net → m.inner.length + 2 ≤ Stil.netSize m.net * 3145730 := by
 refine mnet_ind (fun m => Stil.netFits m.net → m.inner.length + 2 ≤ Stil.netSize m.net * 3145730) ?_ m
 intro k op ds av kv kids ih hf
 have e := MNet.net_eq ⟨k, op, ds, av, kv, kids⟩
 simp only at e
 rw [e] at hf ⊢
 obtain ⟨_, he, _, hk⟩ := (Stil.netFits_eq _ _ _).1 hf
 rw [MNet.inner_eq, Stil.netSize_eq, List.length_append]
 have h1 : (MNet.mk k op ds av kv kids).dps.length = 3 * ds.length := by rw [MNet.dps, blockPs_len]
 have h2 : ds.length ≤ 1048576 := he.2.1
 have h3 : ∀ (l : List MNet) (b o : Nat), (∀ x ∈ l, x.inner.length + 2 ≤ Stil.netSize x.net * 3145730) → (strPs 4 b o (l.map MNet.inner)).length ≤ ((l.map MNet.net).map Stil.netSize).sum * 3145730 := by
  intro l
  induction l with
  | nil => intro b o _; simp [strPs]
  | cons x r ih2 =>
   intro b o h
   have a1 := h x (by simp)
   have a2 := ih2 b (o + 4) (fun y hy => h y (List.mem_cons_of_mem _ hy))
   simp only [List.map_cons, strPs, List.length_cons, List.length_append, List.sum_cons, Nat.add_mul] at a2 ⊢
   omega
 have h4 := h3 kids (vb kv) 0 (fun x hx => ih x hx (hk _ (List.mem_map.2 ⟨x, hx, rfl⟩)))
 have h5 : (MNet.mk k op ds av kv kids).rps.length = (strPs 4 (vb kv) 0 (kids.map MNet.inner)).length := rfl
 rw [h1, h5, Nat.add_mul]
 omega
theorem p_heldNets (Q : Pl → Prop) (m : MNet) : ∀ (k : Int) (w : World), MSh Q w m → HeldAt w m.rps k → 0 ≤ k → k + m.rps.length ≤ 4611686018427387904 →
  Calls Tryz.prog 34 #[m.kv, .int .i64 k] w fun e w' => e = .returned (.int .i64 (k + m.rps.length)) ∧ w' = w := by
 refine mnet_ind (fun m => ∀ (k : Int) (w : World), MSh Q w m → HeldAt w m.rps k → 0 ≤ k → k + m.rps.length ≤ 4611686018427387904 →
  Calls Tryz.prog 34 #[m.kv, .int .i64 k] w fun e w' => e = .returned (.int .i64 (k + m.rps.length)) ∧ w' = w) ?_ m
 intro kk op ds av0 kv0 kids ih k w hsh hh hk0 hkl
 have IH : Hid (∀ x ∈ kids, ∀ (k : Int) (w : World), MSh Q w x → HeldAt w x.rps k → 0 ≤ k → k + x.rps.length ≤ 4611686018427387904 →
  Calls Tryz.prog 34 #[x.kv, .int .i64 k] w fun e w' => e = .returned (.int .i64 (k + x.rps.length)) ∧ w' = w) := ih
 rw [MSh_iff] at hsh
 obtain ⟨_, ⟨a, cap, hkv, ha⟩, hcs, hks⟩ := hsh
 simp only at hkv ha hcs hks
 obtain ⟨b, hb⟩ : ∃ b, b = vb kv0 := ⟨_, rfl⟩
 obtain ⟨qs, hqs⟩ : ∃ qs, qs = kids.map MNet.inner := ⟨_, rfl⟩
 have hrps : (MNet.mk kk op ds av0 kv0 kids).rps = strPs 4 b 0 qs := by rw [hb, hqs]; rfl
 rw [hrps] at hh hkl ⊢
 rw [← hb] at ha hcs
 simp only
 subst hkv
 clear hb hrps ih
 obtain ⟨n, hn⟩ : ∃ n, n = kids.length := ⟨_, rfl⟩
 have HN : Hid (n = kids.length) := hn
 have HQL : Hid (qs.length = kids.length) := by show _ = _; rw [hqs]; simp
 have HQG : Hid (∀ i (h : i < qs.length) (h' : i < kids.length), qs[i] = kids[i].dps ++ kids[i].rps) := by
  intro i h h'
  subst hqs
  rw [List.getElem_map, MNet.inner_eq]
 have HH : Hid (HeldAt w (strPs 4 b 0 qs) k) := hh
 have HKL : Hid (k + (strPs 4 b 0 qs).length ≤ 4611686018427387904) := hkl
 have HCS : Hid (∀ i (h : i < kids.length), w.cell? ⟨b, i * 4 + 2, none⟩ = some kids[i].av ∧ w.cell? ⟨b, i * 4 + 3, none⟩ = some kids[i].kv) := fun i h => ⟨(hcs i h).2.2.2.1, (hcs i h).2.2.2.2⟩
 have HKS : Hid (∀ x ∈ kids, MSh Q w x) := hks
 have HA : Hid (0 < n → a = some ⟨b, 0, none⟩) := by rw [hn]; exact ha
 have hnb : n ≤ 4611686018427387904 := by
  have h3 := strPs_len 4 b qs 0
  have := HQL.out
  omega
 rw [← hn]
 clear hh hkl ha hn hcs hks hqs
 go_enter Tryz.func34, Tryz.ntmps34
 go_wp2
 go_loopw [1, 5] (fun kv iv wr => ∃ (i : Nat) (L : Nat), i ≤ n ∧ L = (strPs 4 b 0 (qs.take i)).length ∧ kv = .int .i64 (k + L) ∧ iv = .int .i64 i ∧ wr = w) (fun _ iv _ => n - (intOf iv).toNat)
 case atStart => exact ⟨0, 0, by omega, by simp [strPs], by simp, rfl, rfl⟩
 case round =>
  obtain ⟨i, L, hi, hL, rfl, rfl, rfl⟩ := hrel
  have HL : Hid (L = (strPs 4 b 0 (qs.take i)).length) := hL
  clear hL
  by_cases hlt : i < n
  ·have hlk : i < kids.length := by have := HN.out; omega
   have hlq : i < qs.length := by have := HQL.out; omega
   obtain rfl := HA.out (by omega)
   obtain ⟨hav, hkv⟩ := HCS.out i hlk
   have hshx := HKS.out _ (List.getElem_mem hlk)
   have hspl : strPs 4 b 0 qs = strPs 4 b 0 (qs.take i) ++ (((b, 0 + i * 4) :: (b, 0 + i * 4 + 1) :: qs[i]) ++ strPs 4 b (0 + (i + 1) * 4) (qs.drop (i + 1))) := by
    rw [strPs_split 4 b qs 0 (i + 1) (by omega), strPs_snoc 4 b qs 0 i hlq, List.append_assoc]
   have HSN : Hid (strPs 4 b 0 (qs.take (i + 1)) = strPs 4 b 0 (qs.take i) ++ ((b, 0 + i * 4) :: (b, 0 + i * 4 + 1) :: qs[i])) := strPs_snoc 4 b qs 0 i hlq
   rw [HQG.out i hlq hlk] at hspl HSN
   have IHX := IH.out _ (List.getElem_mem hlk)
   obtain ⟨x, hx⟩ : ∃ x, x = kids[i] := ⟨_, rfl⟩
   rw [← hx] at hspl HSN hav hkv hshx IHX
   have hH := HH.out
   have hK := HKL.out
   rw [hspl] at hH hK
   rw [Nat.zero_add] at hH hK HSN
   have hH2 := hH.right.left
   rw [← HL.out] at hH2
   obtain ⟨D, hD⟩ : ∃ D, D = x.dps := ⟨_, rfl⟩
   obtain ⟨R, hR⟩ : ∃ R, R = x.rps := ⟨_, rfl⟩
   have hsD : DevsSh x.av D := by rw [hD]; exact ((MSh_iff Q wr x).1 hshx).1
   have hsK : ∃ a cap, x.kv = .slice a x.kids.length cap := by
    obtain ⟨a1, c1, h1, _⟩ := ((MSh_iff Q wr x).1 hshx).2.1
    exact ⟨a1, c1, h1⟩
   rw [← hR] at IHX hH2 hK HSN
   rw [← hD] at hH2 hK HSN
   have c0 : wr.cell? ⟨b, i * 4, none⟩ = some (.int .i64 (k + L)) := by
    have h : wr.cell? ⟨b, i * 4, none⟩ = some (.int .i64 (k + L + ((0 : Nat) : Int))) := hH2 0 (by simp)
    simpa using h
   have c1 : wr.cell? ⟨b, i * 4 + 1, none⟩ = some (.int .i64 (k + L + 1)) := by
    have h : wr.cell? ⟨b, i * 4 + 1, none⟩ = some (.int .i64 (k + L + ((1 : Nat) : Int))) := hH2 1 (by simp)
    simpa using h
   have hHq : HeldAt wr (D ++ R) (k + L + 2) := by
    have h2 : HeldAt wr ([(b, i * 4), (b, i * 4 + 1)] ++ (D ++ R)) (k + L) := hH2
    simpa using h2.right
   simp only [List.length_append, List.length_cons] at hK
   have hLn := HL.out
   have HC : Hid (Calls Tryz.prog 43 #[x.av, .int .i64 (k + L + 2)] wr fun e w' => e = .returned (.int .i64 (k + L + 2 + D.length)) ∧ w' = wr) := p_heldDevs x.av D (k + L + 2) wr hsD hHq.left (by omega) (by omega) (by omega)
   have HC2 : Hid (Calls Tryz.prog 34 #[x.kv, .int .i64 (k + L + 2 + D.length)] wr fun e w' => e = .returned (.int .i64 (k + L + 2 + D.length + R.length)) ∧ w' = wr) := IHX _ wr hshx hHq.right (by omega) (by omega)
   have w1 : IntKind.i64.wrap (k + (L : Int) + 1) = k + L + 1 := by rw [IntKind.wrap_i64]; omega
   have w2 : IntKind.i64.wrap (k + (L : Int) + 1 + 1) = k + L + 2 := by rw [IntKind.wrap_i64]; omega
   have hpos : ¬ (k + (L : Int) + 2 + D.length < 0) := by omega
   have hpos2 : ¬ (k + (L : Int) + 2 + D.length + R.length < 0) := by omega
   obtain ⟨xav, hxav⟩ : ∃ v, v = x.av := ⟨_, rfl⟩
   obtain ⟨xkv, hxkv⟩ : ∃ v, v = x.kv := ⟨_, rfl⟩
   rw [← hxav] at hav HC hsD
   rw [← hxkv] at hkv HC2 hsK
   obtain ⟨a', n', cap', rfl, hz1, hz2⟩ := hsD
   obtain ⟨a'', cap'', rfl⟩ := hsK
   clear hz1 hz2 hspl hH hK hH2 hHq hLn hx hD hR hshx IHX hxav hxkv
   go_wp2_with (first | (go_at_call 43; refine HC.out.mono ?_; rintro e w3 ⟨rfl, rfl⟩) | (go_at_call 34; refine HC2.out.mono ?_; rintro e w4 ⟨rfl, rfl⟩))
   refine ⟨⟨i + 1, L + 2 + D.length + R.length, by omega, ?_, ?_, by go_num, trivial⟩, by simp [intOf]; omega⟩
   ·rw [HSN.out, List.length_append, ← HL.out]; simp; omega
   ·congr 1; omega
  ·obtain rfl : i = n := by omega
   go_wp2
   go_ret
   have hT : qs.take i = qs := List.take_of_length_le (by have := HN.out; have := HQL.out; omega)
   exact ⟨ret_int (by rw [HL.out, hT]), rfl⟩
end Go.Proofs.YtpaljcoojkbhnaaGreatDoor
