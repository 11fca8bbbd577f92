/- N2, N4, N5, N6: texts put together. -/
import Derived.Test.YtipdjmbgbehkaaaGreatDoorLWS
import Derived.Test.YtipdjmbgbehkaaaGreatDoorFR7
import Derived.Test.YtipdjmbgbehkaaaGreatDoorGZ
/- The program's chapter 6: SureRungs (under way). -/
namespace Go.Proofs.YtipdjmbgbehkaaaGreatDoor
open Go.RowKit Go.Sort Go.BigFrame
/-- The cells of a row of instructions. -/
def rungCells (us : List Value) (cs : List Stil.Inst) : List Value := (us.zip cs).flatMap fun p => [.int .i64 p.2.code, .int .i64 p.2.one.op, p.1]
theorem rungCells_snoc (us : List Value) (cs : List Stil.Inst) (u : Value) (x : Stil.Inst) (h : us.length = cs.length) : rungCells (us ++ [u]) (cs ++ [x]) = rungCells us cs ++ [.int .i64 x.code, .int .i64 x.one.op, u] := by
  unfold rungCells
  rw [List.zip_append h, List.flatMap_append]
  rfl
/-- Two values that own no block in common. -/
def Apart (u v : Value) : Prop := u.ownBlock = none ∨ u.ownBlock ≠ v.ownBlock
theorem Apart.symm {u v : Value} (h : Apart u v) : Apart v u := by
  rcases h with h | h
  · by_cases e : v.ownBlock = none
    · exact .inl e
    · exact .inr (by rw [h]; exact e)
  · exact .inr (fun e => h e.symm)
/-- A rung in memory of its own: its row, and the rows of its operands. -/
def RungOwn (w : World) (base : Nat) (rv : Value) (us : List Value) (cs : List Stil.Inst) : Prop := us.length = cs.length ∧ w.ownsRow base 31 3 rv cs.length (rungCells us cs) ∧
  ∀ i (h : i < us.length) (h' : i < cs.length), w.ownsRow base 74 3 us[i] cs[i].one.args.length (devsCells cs[i].one.args)
theorem RungOwn.below {w w' : World} {base : Nat} {rv : Value} {us : List Value} {cs : List Stil.Inst} (h : RungOwn w base rv us cs) (hb : Below w.heap.size w w') : RungOwn w' base rv us cs :=
  ⟨h.1, ownsRow_below h.2.1 hb, fun i h1 h2 => ownsRow_below (h.2.2 i h1 h2) hb⟩
theorem RungOwn.kept {w w' : World} {base : Nat} {rv x : Value} {us : List Value} {cs : List Stil.Inst} (h : RungOwn w base rv us cs) (hg : w.grownBy w' x.ownBlock) (h1 : Apart rv x) (h2 : ∀ u ∈ us, Apart u x) : RungOwn w' base rv us cs :=
  ⟨h.1, h.2.1.kept hg h1, fun i hi hi' => (h.2.2 i hi hi').kept hg (h2 _ (List.getElem_mem hi))⟩
/-- Every block of a rung lies in the world. -/
theorem RungOwn.lt {w : World} {base : Nat} {rv : Value} {us : List Value} {cs : List Stil.Inst} (h : RungOwn w base rv us cs) : ∀ x ∈ rv :: us, ∀ k, x.ownBlock = some k → base ≤ k ∧ k < w.heap.size := by
  intro x hx k hk
  rcases List.mem_cons.1 hx with rfl | hx
  · exact h.2.1.lt k hk
  · obtain ⟨i, hi, rfl⟩ := List.getElem_of_mem hx
    exact (h.2.2 i hi (by have := h.1; omega)).lt k hk
/-- A rung: its row, its operands' rows, its instructions. -/
abbrev Rg := Value × List Value × List Stil.Inst
def rgVals (f : Rg) : List Value := f.1 :: f.2.1
/-- What lies where while the rungs are built. -/
def Built (w : World) (base : Nat) (sv rv : Value) (us : List Value) (cs : List Stil.Inst) (fin : List Rg) : Prop :=
  RungOwn w base rv us cs ∧ (∀ f ∈ fin, RungOwn w base f.1 f.2.1 f.2.2) ∧ w.ownsRow base 23 1 sv fin.length (fin.map (·.1)) ∧ (sv :: rv :: (us ++ fin.flatMap rgVals)).Pairwise Apart
theorem Built.below {w w' : World} {base : Nat} {sv rv : Value} {us : List Value} {cs : List Stil.Inst} {fin : List Rg} (h : Built w base sv rv us cs fin) (hb : Below w.heap.size w w') : Built w' base sv rv us cs fin :=
  ⟨h.1.below hb, fun f hf => (h.2.1 f hf).below hb, ownsRow_below h.2.2.1 hb, h.2.2.2⟩
theorem Built.lt {w : World} {base : Nat} {sv rv : Value} {us : List Value} {cs : List Stil.Inst} {fin : List Rg} (h : Built w base sv rv us cs fin) : ∀ x ∈ sv :: rv :: (us ++ fin.flatMap rgVals), ∀ k, x.ownBlock = some k → base ≤ k ∧ k < w.heap.size := by
  intro x hx k hk
  simp only [List.mem_cons, List.mem_append, List.mem_flatMap] at hx
  rcases hx with rfl | rfl | hx | ⟨f, hf, hx⟩
  · exact h.2.2.1.lt k hk
  · exact h.1.lt _ (by simp) k hk
  · exact h.1.lt x (by simp [hx]) k hk
  · exact (h.2.1 f hf).lt x hx k hk
/-- One instruction more in the rung that is being built: u is new since w, the row is grown from w5 on. -/
theorem Built.push {w w5 w6 : World} {base : Nat} {sv rv rv' u : Value} {us : List Value} {cs : List Stil.Inst} {fin : List Rg} {x : Stil.Inst} (h : Built w base sv rv us cs fin) (hb : Below w.heap.size w w5)
    (hu : w5.ownsRow w.heap.size 74 3 u x.one.args.length (devsCells x.one.args)) (hbase : base ≤ w.heap.size)
    (hown : w6.ownsRow base 31 3 rv' (cs.length + 1) (rungCells us cs ++ [.int .i64 x.code, .int .i64 x.one.op, u])) (hg : w5.grownBy w6 rv.ownBlock) (hat : rv'.ownBlock = rv.ownBlock ∨ rv'.ownBlock = some w5.heap.size) :
    Built w6 base sv rv' (us ++ [u]) (cs ++ [x]) fin := by
  have hlt := h.lt
  have hb5 := h.below hb
  obtain ⟨h1, h2, h3, h4⟩ := hb5
  have hp := h4
  rw [List.pairwise_cons, List.pairwise_cons, List.pairwise_append] at hp
  obtain ⟨hs, hr, hpu, hpf, hpuf⟩ := hp
  have hur : Apart u rv := by
    by_cases e : u.ownBlock = none
    · exact .inl e
    · obtain ⟨k, hk⟩ := Option.ne_none_iff_exists'.1 e
      refine .inr (fun e2 => ?_)
      rw [hk] at e2
      have a1 := (hu.lt k hk).1
      have a2 := (hlt rv (by simp) k e2.symm).2
      omega
  have hux : ∀ y ∈ sv :: rv :: (us ++ fin.flatMap rgVals), Apart y u := by
    intro y hy
    by_cases e : y.ownBlock = none
    · exact .inl e
    · obtain ⟨k, hk⟩ := Option.ne_none_iff_exists'.1 e
      refine .inr (fun e2 => ?_)
      rw [hk] at e2
      have a1 := (hu.lt k e2.symm).1
      have a2 := (hlt y hy k hk).2
      omega
  have hrv' : ∀ y, Apart y rv → (∀ k, y.ownBlock = some k → k < w5.heap.size) → Apart rv' y := by
    intro y hy hl
    rcases hat with e | e
    · rcases hy with h0 | h0
      · by_cases e0 : rv'.ownBlock = none
        · exact .inl e0
        · exact .inr (by rw [h0]; exact e0)
      · exact .inr (by rw [e]; exact fun e2 => h0 e2.symm)
    · refine .inr (fun e2 => ?_)
      rw [e] at e2
      have := hl _ e2.symm
      omega
  have hl5 : ∀ y ∈ sv :: rv :: (us ++ fin.flatMap rgVals), ∀ k, y.ownBlock = some k → k < w5.heap.size := fun y hy k hk => Nat.lt_of_lt_of_le (hlt y hy k hk).2 hb.size
  have hru : ∀ y ∈ us ++ fin.flatMap rgVals, Apart y rv := fun y hy => (hr y hy).symm
  refine ⟨⟨by simp [h1.1], ?_, fun i hi hi' => ?_⟩, fun f hf => ?_, ?_, ?_⟩
  · rw [rungCells_snoc us cs u x h1.1, List.length_append]; exact hown
  · by_cases e : i < us.length
    · rw [List.getElem_append_left e, List.getElem_append_left (by have := h1.1; omega)]
      exact (h1.2.2 i e (by have := h1.1; omega)).kept hg (hru _ (by simp [List.getElem_mem e]))
    · obtain rfl : i = us.length := by simp at hi; omega
      rw [List.getElem_append_right (Nat.le_refl _)]
      have e3 : (cs ++ [x])[us.length]'hi' = x := by
        rw [List.getElem_append_right (by have := h1.1; omega)]
        simp [h1.1]
      rw [e3]
      simp only [Nat.sub_self, List.getElem_cons_zero]
      exact (Joins.ownsRow_le hu hbase).kept hg hur
  · have hm : ∀ y ∈ rgVals f, y ∈ us ++ fin.flatMap rgVals := fun y hy => List.mem_append_right _ (List.mem_flatMap.2 ⟨f, hf, hy⟩)
    exact (h2 f hf).kept hg (hru _ (hm _ (by simp [rgVals]))) (fun u' hu' => hru _ (hm _ (by simp [rgVals, hu'])))
  · exact h3.kept hg (hs rv (by simp))
  · rw [List.pairwise_cons, List.pairwise_cons, List.pairwise_append, List.pairwise_append]
    have huk : ∀ k, u.ownBlock = some k → k < w5.heap.size := fun k hk => (hu.lt k hk).2
    refine ⟨fun y hy => ?_, fun y hy => ?_, ⟨hpu, List.pairwise_singleton _ _, fun y hy z hz => ?_⟩, hpf, fun y hy z hz => ?_⟩
    · simp only [List.mem_cons, List.mem_append, List.mem_nil_iff, or_false] at hy
      rcases hy with rfl | (hy | rfl) | hy
      · exact (hrv' sv (hs rv (by simp)) (hl5 sv (by simp))).symm
      · exact hs y (by simp [hy])
      · exact hux sv (by simp)
      · exact hs y (by simp [hy])
    · simp only [List.mem_append, List.mem_cons, List.mem_nil_iff, or_false] at hy
      rcases hy with (hy | rfl) | hy
      · exact hrv' y (hru y (by simp [hy])) (hl5 y (by simp [hy]))
      · exact hrv' y hur huk
      · exact hrv' y (hru y (by simp [hy])) (hl5 y (by simp [hy]))
    · obtain rfl := List.mem_singleton.1 hz
      exact hux y (by simp [hy])
    · rcases List.mem_append.1 hy with hy | hy
      · exact hpuf y hy z hz
      · obtain rfl := List.mem_singleton.1 hy
        exact (hux z (by simp [hz])).symm
end Go.Proofs.YtipdjmbgbehkaaaGreatDoor
/- A rung in memory of its own: its places. -/
namespace Go.Proofs.YtipdjmbgbehkaaaGreatDoor
open Go.RowKit Go.Sort Go.BigFrame
theorem rungCells_get : ∀ (us : List Value) (cs : List Stil.Inst) (i : Nat) (h : i < us.length) (h' : i < cs.length), (rungCells us cs)[i * 3]? = some (.int .i64 cs[i].code) ∧ (rungCells us cs)[i * 3 + 1]? = some (.int .i64 cs[i].one.op) ∧ (rungCells us cs)[i * 3 + 2]? = some us[i]
  | [], _, _, h, _ => by simp at h
  | _ :: _, [], _, _, h => by simp at h
  | u :: us, c :: cs, 0, _, _ => ⟨rfl, rfl, rfl⟩
  | u :: us, c :: cs, i + 1, h, h' => by
    obtain ⟨a1, a2, a3⟩ := rungCells_get us cs i (by simpa using h) (by simpa using h')
    have e : rungCells (u :: us) (c :: cs) = .int .i64 c.code :: .int .i64 c.one.op :: u :: rungCells us cs := rfl
    have e1 : (i + 1) * 3 = i * 3 + 1 + 1 + 1 := by omega
    rw [e, e1]
    exact ⟨by simpa using a1, by simpa using a2, by simpa using a3⟩
end Go.Proofs.YtipdjmbgbehkaaaGreatDoor
/- Rungs in memory of their own: their places, all together. -/
namespace Go.Proofs.YtipdjmbgbehkaaaGreatDoor
open Go.RowKit Go.Sort Go.BigFrame
end Go.Proofs.YtipdjmbgbehkaaaGreatDoor
/- Rungs in memory of their own, seen again behind marks elsewhere. -/
namespace Go.Proofs.YtipdjmbgbehkaaaGreatDoor
open Go.RowKit Go.Sort Go.BigFrame
theorem rung_from {w : World} {base : Nat} {rv : Value} {us : List Value} {cs : List Stil.Inst} (h : RungOwn w base rv us cs) : InstsFrom base w rv cs := by
  obtain ⟨hlen, hown, hus⟩ := h
  by_cases hz : cs.length = 0
  · obtain ⟨a, cap, rfl⟩ := slice_of_owns hown
    exact ⟨a, cap, rfl, fun i hi => absurd hi (by omega)⟩
  · obtain ⟨g, cap, hv, hbase, hlt, _, hcell⟩ := ownsRow_cells hown (by omega)
    subst hv
    refine ⟨_, cap, rfl, fun i hi => ⟨g, 0, rfl, hbase, hlt, ?_⟩⟩
    obtain ⟨a1, a2, a3⟩ := rungCells_get us cs i (by omega) hi
    unfold InstFrom
    rw [Nat.zero_add]
    exact ⟨hcell _ _ a1, hcell _ _ a2, us[i]'(by omega), hcell _ _ a3, DevsFrom.of_owns (hus i (by omega) hi)⟩
end Go.Proofs.YtipdjmbgbehkaaaGreatDoor
