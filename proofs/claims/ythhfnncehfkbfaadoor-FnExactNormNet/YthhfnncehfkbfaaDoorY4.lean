/- Nets in memory of their own: their places, all different. -/
import Derived.Test.YthhfnncehfkbfaaDoorY2
namespace Go.Proofs.YthhfnncehfkbfaaDoor
open Go.RowKit Go.Sort Go.BigFrame
theorem vb_some {v : Value} {b : Nat} (h : v.ownBlock = some b) : vb v = b := by rw [vb, h]; rfl
/-- Operands in memory of their own: their places, as a block. -/
theorem devs_block {w : World} {base : Nat} {u : Value} {ds : List Stil.Dev} (h : w.ownsRow base 69 3 u ds.length (devsCells ds)) :
    DevsSh u (blockPs (vb u) ds.length) ∧ NumsAt w (blockPs (vb u) ds.length) ∧ ∀ p ∈ blockPs (vb u) ds.length, base ≤ p.1 ∧ u.ownBlock = some p.1 := by
  by_cases hd : ds.length = 0
  · have hn : ds = [] := List.length_eq_zero_iff.1 hd
    subst hn
    obtain ⟨a, cap, rfl⟩ := slice_of_owns h
    exact ⟨⟨a, 0, cap, rfl, rfl, fun j hj => absurd hj (by simp [blockPs])⟩, (fun p hp => by simp [blockPs] at hp), (fun p hp => by simp [blockPs] at hp)⟩
  · obtain ⟨g, cap, hv, hbase, hlt, _, hc⟩ := ownsRow_cells h (by omega)
    subst hv
    have hvb : vb (.slice (some ⟨g, 0, none⟩) ds.length cap) = g := rfl
    rw [hvb]
    refine ⟨⟨_, _, _, rfl, blockPs_len _ _, fun j hj => ⟨g, 0, rfl, by simp [blockPs]⟩⟩, fun p hp => ?_, fun p hp => ?_⟩
    · obtain ⟨h1, h2⟩ := blockPs_mem hp
      obtain ⟨b, j⟩ := p
      simp only at h1 h2
      subst h1
      refine ⟨hlt, ?_, h.frozenAt _⟩
      have hi : j / 3 < ds.length := by omega
      obtain ⟨a1, a2, a3⟩ := devsCells_get ds (j / 3) hi
      have hx : j = j / 3 * 3 ∨ j = j / 3 * 3 + 1 ∨ j = j / 3 * 3 + 2 := by omega
      rcases hx with e | e | e
      · exact ⟨_, by rw [ad, e]; exact hc _ _ a1⟩
      · exact ⟨_, by rw [ad, e]; exact hc _ _ a2⟩
      · exact ⟨_, by rw [ad, e]; exact hc _ _ a3⟩
    · obtain ⟨h1, _⟩ := blockPs_mem hp
      rw [h1]
      exact ⟨hbase, rfl⟩
/-- The rows of nets within a net. -/
def MNet.rows : MNet → List Value
  | ⟨_, _, _, _, kv, kids⟩ => kv :: (kids.map MNet.rows).flatten
theorem MNet.rows_eq (m : MNet) : m.rows = m.kv :: (m.kids.map MNet.rows).flatten := by obtain ⟨k, op, ds, av, kv, kids⟩ := m; rw [MNet.rows]
theorem MNet.mem_rows {m x : MNet} (hx : x ∈ m.kids) {v : Value} (hv : v ∈ x.rows) : v ∈ m.rows := by
  rw [MNet.rows_eq]
  exact List.mem_cons_of_mem _ (List.mem_flatten.2 ⟨_, List.mem_map.2 ⟨x, hx, rfl⟩, hv⟩)
/-- Where the rows' values lie. -/
def heads (rows : List Value) (p : Pl) : Prop := 2 ≤ p.2 % 4 ∧ ∃ v ∈ rows, v.ownBlock = some p.1
theorem MSh.mono {Q Q' : Pl → Prop} {w : World} (hq : ∀ p, Q p → Q' p) (m : MNet) : MSh Q w m → MSh Q' w m := by
  refine mnet_ind (fun m => MSh Q w m → MSh Q' w m) ?_ m
  intro k op ds av kv kids ih h
  rw [MSh_iff] at h ⊢
  obtain ⟨h1, h2, h3, h4⟩ := h
  refine ⟨h1, h2, fun i hi => ?_, fun x hx => ih x hx (h4 x hx)⟩
  obtain ⟨c1, c2, c3, c4, c5⟩ := h3 i hi
  exact ⟨c1, hq _ c2, hq _ c3, c4, c5⟩
/-- A place of a net: of a row of nets, its first or second number, or of operands. -/
theorem MNet.places {w : World} {base : Nat} (m : MNet) : MOwn w base m → MSh (heads m.rows) w m ∧ NumsAt w m.inner ∧ m.inner.Nodup ∧ (∀ p ∈ m.inner, base ≤ p.1 ∧ ∃ x ∈ m.vals, x.ownBlock = some p.1) ∧ ∀ p ∈ m.inner, ¬ heads m.rows p := by
  refine mnet_ind (fun m => MOwn w base m → MSh (heads m.rows) w m ∧ NumsAt w m.inner ∧ m.inner.Nodup ∧ (∀ p ∈ m.inner, base ≤ p.1 ∧ ∃ x ∈ m.vals, x.ownBlock = some p.1) ∧ ∀ p ∈ m.inner, ¬ heads m.rows p) ?_ m
  intro k op ds av kv kids ih h
  obtain ⟨hok, hpw⟩ := h
  have hok2 := (MOk_iff _ _ _).1 hok
  obtain ⟨hA, hK, hkids⟩ := hok2
  simp only at hA hK hkids
  rw [MNet.vals_eq, List.pairwise_cons, List.pairwise_cons] at hpw
  simp only at hpw
  obtain ⟨hpa, hpk, hps⟩ := hpw
  have hps2 := hps
  unfold mVals at hps2
  rw [List.pairwise_flatten] at hps2
  have hkown : ∀ x ∈ kids, MOwn w base x := fun x hx => ⟨hkids x hx, hps2.1 _ (List.mem_map.2 ⟨x, hx, rfl⟩)⟩
  have hvm : ∀ x ∈ kids, ∀ v ∈ x.vals, v ∈ mVals kids := fun x hx v hv => mem_mVals.2 ⟨x, hx, hv⟩
  have hrv : ∀ (y : MNet), ∀ v ∈ y.rows, v ∈ y.vals := by
    intro y
    refine mnet_ind (fun y => ∀ v ∈ y.rows, v ∈ y.vals) ?_ y
    intro k' op' ds' av' kv' kids' ih' v hv
    rw [MNet.rows_eq] at hv
    rw [MNet.vals_eq]
    rcases List.mem_cons.1 hv with hv | hv
    · simp [hv]
    · obtain ⟨l, hl, hv⟩ := List.mem_flatten.1 hv
      obtain ⟨x, hx, rfl⟩ := List.mem_map.1 hl
      exact List.mem_cons_of_mem _ (List.mem_cons_of_mem _ (mem_mVals.2 ⟨x, hx, ih' x hx v hv⟩))
  obtain ⟨d1, d2, d3⟩ := devs_block hA
  obtain ⟨b, hb⟩ : ∃ b, b = vb kv := ⟨_, rfl⟩
  obtain ⟨qs, hqs⟩ : ∃ qs, qs = kids.map MNet.inner := ⟨_, rfl⟩
  have hin : (MNet.mk k op ds av kv kids).inner = blockPs (vb av) ds.length ++ strPs 4 b 0 qs := by rw [MNet.inner, hb, hqs]
  have hkvb : 0 < kids.length → kv.ownBlock = some b := by
    intro hz
    obtain ⟨g, cap, hv, _⟩ := ownsRow_cells hK hz
    rw [hb, hv]; rfl
  have hqm : ∀ q ∈ qs, ∃ x ∈ kids, q = x.inner := by
    intro q hq
    rw [hqs] at hq
    obtain ⟨x, hx, rfl⟩ := List.mem_map.1 hq
    exact ⟨x, hx, rfl⟩
  -- the rows' own places
  have hrow : ∀ p ∈ strPs 4 b 0 qs, (p.1 = b ∧ kv.ownBlock = some b ∧ p.2 % 4 < 2 ∧ p.2 < kids.length * 4) ∨ ∃ x ∈ kids, p ∈ x.inner := by
    intro p hp
    rcases strPs_mem 4 b qs 0 p hp with ⟨i, hi, hp⟩ | ⟨q, hq, hp⟩
    · have hi' : i < kids.length := by rw [hqs] at hi; simpa using hi
      refine .inl ?_
      rcases hp with rfl | rfl
      · exact ⟨rfl, hkvb (by omega), by simp only; omega, by simp only; omega⟩
      · exact ⟨rfl, hkvb (by omega), by simp only; omega, by simp only; omega⟩
    · obtain ⟨x, hx, rfl⟩ := hqm q hq
      exact .inr ⟨x, hx, hp⟩
  have hblk : ∀ p ∈ (MNet.mk k op ds av kv kids).inner, base ≤ p.1 ∧ ∃ x ∈ av :: kv :: mVals kids, x.ownBlock = some p.1 := by
    intro p hp
    rw [hin] at hp
    rcases List.mem_append.1 hp with hp | hp
    · exact ⟨(d3 p hp).1, av, by simp, (d3 p hp).2⟩
    · rcases hrow p hp with ⟨h1, h2, _⟩ | ⟨x, hx, hp⟩
      · rw [h1]
        exact ⟨(hK.lt b h2).1, kv, by simp, h2⟩
      · obtain ⟨h1, v, hv, h2⟩ := (ih x hx (hkown x hx)).2.2.2.1 p hp
        exact ⟨h1, v, List.mem_cons_of_mem _ (List.mem_cons_of_mem _ (hvm x hx v hv)), h2⟩
  -- no place is a head
  have hnoh : ∀ p ∈ (MNet.mk k op ds av kv kids).inner, ¬ heads (MNet.mk k op ds av kv kids).rows p := by
    intro p hp hh
    obtain ⟨h4, v, hv, hvb⟩ := hh
    rw [MNet.rows_eq] at hv
    simp only at hv
    rw [hin] at hp
    have hv2 : v = kv ∨ ∃ x ∈ kids, v ∈ x.rows := by
      rcases List.mem_cons.1 hv with hv | hv
      · exact .inl hv
      · obtain ⟨l, hl, hv⟩ := List.mem_flatten.1 hv
        obtain ⟨x, hx, rfl⟩ := List.mem_map.1 hl
        exact .inr ⟨x, hx, hv⟩
    have hv3 : v = kv ∨ v ∈ mVals kids := by
      rcases hv2 with h | ⟨x, hx, h⟩
      · exact .inl h
      · exact .inr (hvm x hx v (hrv x v h))
    rcases List.mem_append.1 hp with hp | hp
    · have h2 := (d3 p hp).2
      refine (hpa v ?_).no h2 hvb
      rcases hv3 with h | h
      · simp [h]
      · exact List.mem_cons_of_mem _ h
    · rcases hrow p hp with ⟨h1, h2, h3, _⟩ | ⟨x, hx, hp⟩
      · omega
      · obtain ⟨_, u, hu, h2⟩ := (ih x hx (hkown x hx)).2.2.2.1 p hp
        rcases hv2 with h | ⟨y, hy, h⟩
        · rw [h] at hvb
          exact (hpk u (hvm x hx u hu)).no hvb h2
        · obtain ⟨i, hi, rfl⟩ := List.getElem_of_mem hx
          obtain ⟨j, hj, rfl⟩ := List.getElem_of_mem hy
          by_cases e : i = j
          · subst e
            exact (ih _ hx (hkown _ hx)).2.2.2.2 p hp ⟨h4, v, h, hvb⟩
          · have hpp := hps2.2
            rw [List.pairwise_map] at hpp
            have hpp2 := List.pairwise_iff_getElem.1 hpp
            rcases Nat.lt_or_gt_of_ne e with e | e
            · exact (hpp2 i j hi hj e u hu v (hrv _ v h)).no h2 hvb
            · exact (hpp2 j i hj hi e v (hrv _ v h) u hu).no hvb h2
  refine ⟨?_, ?_, ?_, ?_, hnoh⟩
  · rw [MSh_iff]
    refine ⟨d1, ?_, fun i hi => ?_, fun x hx => MSh.mono (fun p hp => ⟨hp.1, hp.2.choose, MNet.mem_rows (m := ⟨k, op, ds, av, kv, kids⟩) hx hp.2.choose_spec.1, hp.2.choose_spec.2⟩) x (ih x hx (hkown x hx)).1⟩
    · simp only
      by_cases hz : kids.length = 0
      · obtain ⟨a, cap, rfl⟩ := slice_of_owns hK
        exact ⟨a, cap, rfl, fun h => absurd h (by omega)⟩
      · obtain ⟨g, cap, hv, _⟩ := ownsRow_cells hK (by omega)
        refine ⟨some ⟨g, 0, none⟩, cap, hv, fun _ => ?_⟩
        rw [hv]; rfl
    · simp only at hi ⊢
      obtain ⟨g, cap, hv, _, hlt, _, hcell⟩ := ownsRow_cells hK (by omega)
      have e : vb kv = g := by rw [hv]; rfl
      rw [e]
      obtain ⟨_, _, a3, a4⟩ := mCells_get kids i hi
      have hg : kv.ownBlock = some g := by rw [hv]; rfl
      exact ⟨hlt, ⟨by simp only; omega, kv, by rw [MNet.rows_eq]; simp, hg⟩, ⟨by simp only; omega, kv, by rw [MNet.rows_eq]; simp, hg⟩, hcell _ _ a3, hcell _ _ a4⟩
  · rw [hin]
    intro p hp
    rcases List.mem_append.1 hp with hp | hp
    · exact d2 p hp
    · rcases strPs_mem 4 b qs 0 p hp with ⟨i, hi, hp⟩ | ⟨q, hq, hp⟩
      · have hi' : i < kids.length := by rw [hqs] at hi; simpa using hi
        obtain ⟨g, cap, hv, _, hlt, _, hcell⟩ := ownsRow_cells hK (by omega)
        have e : b = g := by rw [hb, hv]; rfl
        subst e
        subst hv
        obtain ⟨a1, a2, _, _⟩ := mCells_get kids i hi'
        rcases hp with rfl | rfl
        · exact ⟨hlt, ⟨_, by rw [ad]; simp only [Nat.zero_add]; exact hcell _ _ a1⟩, hK.frozenAt _⟩
        · exact ⟨hlt, ⟨_, by rw [ad]; simp only [Nat.zero_add]; exact hcell _ _ a2⟩, hK.frozenAt _⟩
      · obtain ⟨x, hx, rfl⟩ := hqm q hq
        exact (ih x hx (hkown x hx)).2.1 p hp
  · rw [hin, List.nodup_append]
    refine ⟨blockPs_nodup _ _, strPs_nodup 4 b (by omega) qs 0 (fun q hq => ?_) ?_, fun p hp r hr e => ?_⟩
    · obtain ⟨x, hx, rfl⟩ := hqm q hq
      refine ⟨(ih x hx (hkown x hx)).2.2.1, fun p hp e => ?_⟩
      obtain ⟨_, u, hu, h2⟩ := (ih x hx (hkown x hx)).2.2.2.1 p hp
      rw [e] at h2
      exact (hpk u (hvm x hx u hu)).no (hkvb (List.length_pos_of_mem hx)) h2
    · rw [hqs, List.pairwise_map]
      refine List.pairwise_iff_getElem.2 (fun i j hi hj hij p hp hp2 => ?_)
      have hx := List.getElem_mem hi
      have hy := List.getElem_mem hj
      obtain ⟨_, u, hu, h1⟩ := (ih _ hx (hkown _ hx)).2.2.2.1 p hp
      obtain ⟨_, v, hv, h2⟩ := (ih _ hy (hkown _ hy)).2.2.2.1 p hp2
      have hpp := hps2.2
      rw [List.pairwise_map] at hpp
      exact ((List.pairwise_iff_getElem.1 hpp) i j hi hj hij u hu v hv).no h1 h2
    · subst e
      have h2 := (d3 p hp).2
      rcases hrow p hr with ⟨h1, h3, _⟩ | ⟨x, hx, hr⟩
      · rw [h1] at h2
        exact (hpa kv (by simp)).no h2 h3
      · obtain ⟨_, u, hu, h3⟩ := (ih x hx (hkown x hx)).2.2.2.1 p hr
        exact (hpa u (List.mem_cons_of_mem _ (hvm x hx u hu))).no h2 h3
  · intro p hp
    rw [MNet.vals_eq]
    exact hblk p hp
/-- How many places there are. -/
theorem MNet.count (m : MNet) : Stil.netFits m.net → m.inner.length + 2 ≤ Stil.netSize m.net * 3145730 := by
  refine mnet_ind (fun m => Stil.netFits m.net → m.inner.length + 2 ≤ Stil.netSize m.net * 3145730) ?_ m
  intro k op ds av kv kids ih hf
  have e := MNet.net_eq ⟨k, op, ds, av, kv, kids⟩
  simp only at e
  rw [e] at hf ⊢
  obtain ⟨_, he, _, hk⟩ := (Stil.netFits_eq _ _ _).1 hf
  rw [MNet.inner_eq, Stil.netSize_eq, List.length_append]
  have h1 : (MNet.mk k op ds av kv kids).dps.length = 3 * ds.length := by rw [MNet.dps, blockPs_len]
  have h2 : ds.length ≤ 1048576 := he.2.1
  have h3 : ∀ (l : List MNet) (b o : Nat), (∀ x ∈ l, x.inner.length + 2 ≤ Stil.netSize x.net * 3145730) → (strPs 4 b o (l.map MNet.inner)).length ≤ ((l.map MNet.net).map Stil.netSize).sum * 3145730 := by
    intro l
    induction l with
    | nil => intro b o _; simp [strPs]
    | cons x r ih2 =>
      intro b o h
      have a1 := h x (by simp)
      have a2 := ih2 b (o + 4) (fun y hy => h y (List.mem_cons_of_mem _ hy))
      simp only [List.map_cons, strPs, List.length_cons, List.length_append, List.sum_cons, Nat.add_mul] at a2 ⊢
      omega
  have h4 := h3 kids (vb kv) 0 (fun x hx => ih x hx (hk _ (List.mem_map.2 ⟨x, hx, rfl⟩)))
  have h5 : (MNet.mk k op ds av kv kids).rps.length = (strPs 4 (vb kv) 0 (kids.map MNet.inner)).length := rfl
  rw [h1, h5, Nat.add_mul]
  omega
end Go.Proofs.YthhfnncehfkbfaaDoor
