/- Y1: texts put together. -/
import Derived.Test.YtbfkfdbkjbgneaaGreatDoorGg
import Derived.Test.YtbfkfdbkjbgneaaGreatDoorGk
/- Nets in memory of their own: trees of what lies where. -/
namespace Go.Proofs.YtbfkfdbkjbgneaaGreatDoor
open Go.RowKit Go.Sort Go.BigFrame
/-- Two values that own no block in common. -/
def Aside (u v : Value) : Prop := u.ownBlock = none ∨ u.ownBlock ≠ v.ownBlock
theorem Aside.symm {u v : Value} (h : Aside u v) : Aside v u := by
  rcases h with h | h
  · by_cases e : v.ownBlock = none
    · exact .inl e
    · exact .inr (by rw [h]; exact e)
  · exact .inr (fun e => h e.symm)
theorem Aside.no {u v : Value} {k : Nat} (h : Aside u v) (hu : u.ownBlock = some k) (hv : v.ownBlock = some k) : False := by
  rcases h with h | h
  · rw [hu] at h; cases h
  · exact h (by rw [hu, hv])
theorem aside_new {x y : Value} {n : Nat} (hx : ∀ k, x.ownBlock = some k → k < n) (hy : ∀ k, y.ownBlock = some k → n ≤ k) : Aside x y := by
  by_cases e : x.ownBlock = none
  · exact .inl e
  · obtain ⟨k, hk⟩ := Option.ne_none_iff_exists'.1 e
    refine .inr (fun e2 => ?_)
    rw [hk] at e2
    have h1 := hx k hk
    have h2 := hy k e2.symm
    omega
/-- A net, with the values of its operands' and its kids' rows. -/
structure MNet where
  kind : Int
  op : Int
  ds : List Stil.Dev
  av : Value
  kv : Value
  kids : List MNet
theorem mnet_ind (P : MNet → Prop) (h : ∀ k op ds av kv kids, (∀ x ∈ kids, P x) → P ⟨k, op, ds, av, kv, kids⟩) : ∀ n, P n
  | ⟨k, op, ds, av, kv, kids⟩ => h k op ds av kv kids (fun x _ => mnet_ind P h x)
def MNet.net : MNet → Stil.Net
  | ⟨k, op, ds, _, _, kids⟩ => ⟨k, ⟨op, ds⟩, kids.map MNet.net⟩
theorem MNet.net_eq (m : MNet) : m.net = ⟨m.kind, ⟨m.op, m.ds⟩, m.kids.map MNet.net⟩ := by obtain ⟨k, op, ds, av, kv, kids⟩ := m; rw [MNet.net]
def MNet.vals : MNet → List Value
  | ⟨_, _, _, av, kv, kids⟩ => av :: kv :: (kids.map MNet.vals).flatten
def mVals (ms : List MNet) : List Value := (ms.map MNet.vals).flatten
theorem MNet.vals_eq (m : MNet) : m.vals = m.av :: m.kv :: mVals m.kids := by obtain ⟨k, op, ds, av, kv, kids⟩ := m; rw [MNet.vals]; rfl
theorem mVals_append (a b : List MNet) : mVals (a ++ b) = mVals a ++ mVals b := by simp [mVals]
theorem mVals_one (m : MNet) : mVals [m] = m.vals := by simp [mVals]
theorem mem_mVals {ms : List MNet} {x : Value} : x ∈ mVals ms ↔ ∃ m ∈ ms, x ∈ m.vals := by
  simp only [mVals, List.mem_flatten, List.mem_map]
  constructor
  · rintro ⟨_, ⟨m, hm, rfl⟩, hx⟩; exact ⟨m, hm, hx⟩
  · rintro ⟨m, hm, hx⟩; exact ⟨_, ⟨m, hm, rfl⟩, hx⟩
def MNet.cells (m : MNet) : List Value := [.int .i64 m.kind, .int .i64 m.op, m.av, m.kv]
def MNet.agg (m : MNet) : Value := .agg #[.int .i64 m.kind, .int .i64 m.op, m.av, m.kv]
def mCells (ms : List MNet) : List Value := ms.flatMap MNet.cells
theorem mCells_append (a b : List MNet) : mCells (a ++ b) = mCells a ++ mCells b := by simp [mCells]
theorem mCells_one (m : MNet) : mCells [m] = m.cells := by simp [mCells]
theorem mCells_len (ms : List MNet) : (mCells ms).length = ms.length * 4 := by
  induction ms with
  | nil => rfl
  | cons m r ih =>
    have e : mCells (m :: r) = m.cells ++ mCells r := rfl
    rw [e, List.length_append, ih]
    simp [MNet.cells]; omega
theorem mCells_get : ∀ (ms : List MNet) (i : Nat) (h : i < ms.length), (mCells ms)[i * 4]? = some (.int .i64 ms[i].kind) ∧ (mCells ms)[i * 4 + 1]? = some (.int .i64 ms[i].op) ∧ (mCells ms)[i * 4 + 2]? = some ms[i].av ∧ (mCells ms)[i * 4 + 3]? = some ms[i].kv
  | [], _, h => by simp at h
  | m :: r, 0, _ => ⟨rfl, rfl, rfl, rfl⟩
  | m :: r, i + 1, h => by
    obtain ⟨a1, a2, a3, a4⟩ := mCells_get r i (by simpa using h)
    have e : mCells (m :: r) = .int .i64 m.kind :: .int .i64 m.op :: m.av :: m.kv :: mCells r := rfl
    have e1 : (i + 1) * 4 = i * 4 + 1 + 1 + 1 + 1 := by omega
    rw [e, e1]
    exact ⟨by simpa using a1, by simpa using a2, by simpa using a3, by simpa using a4⟩
theorem aside_nil (x : Value) : Aside (.slice none 0 0) x := .inl rfl
end Go.Proofs.YtbfkfdbkjbgneaaGreatDoor
