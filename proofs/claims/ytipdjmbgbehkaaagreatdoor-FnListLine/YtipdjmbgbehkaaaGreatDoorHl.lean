/- D37, D38, D39, D40, D41, D41b, D41c: texts put together. -/
import Derived.Test.YtipdjmbgbehkaaaGreatDoorHk
/- Lists of instructions that grow. -/
namespace Go.Proofs.YtipdjmbgbehkaaaGreatDoor
open Go.RowKit Go.Sort Go.BigFrame
/-- A list that grows in memory of its own, beside a reader. -/
def ListSt (q : Nat) (w W : World) (g P : Nat) (v : Value) (n : Nat) : Prop := ∃ (l : List Stil.Inst) (xs : List Value), W.ownsRow w.heap.size 31 3 v l.length xs ∧ RowOf 3 (InstC (Off g v) W) xs l ∧ (∀ i ∈ l, ITame i ∧ i.one.args.length ≤ q) ∧ l.length ≤ n ∧ RdAt W g P ∧ w.grownBy W (some g)
/-- An instruction in a variable, apart from the row v. -/
def HeldI (W : World) (g : Nat) (v : Value) (b : Nat) (i : Stil.Inst) : Prop := Off g v b ∧ b < W.heap.size ∧ InstIn (Off g v) W b 0 i
theorem ListSt.grown {q : Nat} {w W W' : World} {g P P' n : Nat} {v : Value} (h : ListSt q w W g P v n) (hg : W.grownBy W' (some g)) (hw : g < w.heap.size) (hr : RdAt W' g P') : ListSt q w W' g P' v n := by
  obtain ⟨l, xs, a, b, c, d, e, f⟩ := h
  exact ⟨l, xs, own_grown a hg hw, b.imp fun _ _ _ h => h.keep (KeepsIn.of_grown hg fun b hb e => by have := hb.1; simp only [Option.some.injEq] at e; omega), c, d, hr, grown_trans f hg⟩
theorem ListSt.below {q : Nat} {w W W' : World} {g P n : Nat} {v : Value} (h : ListSt q w W g P v n) (hb : Below W.heap.size W W') (hw : g < w.heap.size) : ListSt q w W' g P v n := by
  obtain ⟨l, xs, a, b, c, d, e, f⟩ := id h
  exact h.grown (grown_below hb _) hw (rd_grown e (grown_below hb none) (by simp))
theorem ListSt.later {q : Nat} {w W : World} {g P P' n n' : Nat} {v : Value} (h : ListSt q w W g P v n) (h1 : P ≤ P') (h2 : n ≤ n') : ListSt q w W g P' v n' := by
  obtain ⟨l, xs, a, b, c, d, e, f⟩ := h
  exact ⟨l, xs, a, b, c, by omega, rd_mono e h1, f⟩
theorem ListSt.rd {q : Nat} {w W : World} {g P n : Nat} {v : Value} (h : ListSt q w W g P v n) : RdAt W g P := by
  obtain ⟨l, xs, a, b, c, d, e, f⟩ := h
  exact e
theorem ListSt.list {q : Nat} {w W : World} {g P n : Nat} {v : Value} (h : ListSt q w W g P v n) (hw : g < w.heap.size) : ListOut q (.returned v) w W g P n := by
  obtain ⟨l, xs, a, b, c, d, e, f⟩ := h
  exact ⟨l, v, rfl, instsIn_of_row a (b.imp fun _ _ _ h => h.mono fun b _ hb => hb.1) fun b hb => by have := (a.lt _ hb).1; omega, c, d, e, below_grown_at f (by omega)⟩
theorem HeldI.grown {W W' : World} {g b : Nat} {v : Value} {i : Stil.Inst} (h : HeldI W g v b i) (hg : W.grownBy W' (some g)) : HeldI W' g v b i := by
  obtain ⟨a, c, d⟩ := h
  exact ⟨a, Nat.lt_of_lt_of_le c hg.size, d.keep (KeepsIn.of_grown hg fun b hb e => by have := hb.1; simp only [Option.some.injEq] at e; omega) a c⟩
theorem HeldI.below {W W' : World} {g b : Nat} {v : Value} {i : Stil.Inst} (h : HeldI W g v b i) (hb : Below W.heap.size W W') : HeldI W' g v b i := h.grown (grown_below hb _)
theorem HeldI.cells {W : World} {g b : Nat} {v : Value} {i : Stil.Inst} (h : HeldI W g v b i) : b < W.heap.size ∧ ∃ (a : Option Addr) (c : Nat), W.cell? ⟨b, 0, none⟩ = some (.int .i64 i.code) ∧ W.cell? ⟨b, 1, none⟩ = some (.int .i64 i.one.op) ∧ W.cell? ⟨b, 2, none⟩ = some (.slice a i.one.args.length c) ∧ DevsIn (Off g v) W (.slice a i.one.args.length c) i.one.args := by
  obtain ⟨a, c, d, e, av, f, hd⟩ := h
  obtain ⟨a', c', rfl, -⟩ := id hd
  exact ⟨c, a', c', by simpa using d, by simpa using e, by simpa using f, hd⟩
set_option maxHeartbeats 1000000 in
theorem wpList_grow_insts {q : Nat} {ops : Array Oper} {rest : List Oper} {o : Oper} {a : Act} {Q : Exit → Act → World → Prop} (hgd : o.guard = none) (s x : Operand)
    (ho : o.op = .call { callee := .builtin .append, args := #[s, x], argTypes := #[23, 23] }) (w W : World) (g P n : Nat) (v : Value) (hs : a.eval s = v) (hst : ListSt q w W g P v n) (hgw : g < w.heap.size)
    (es : List Stil.Inst) (ad : Addr) (m c : Nat) (news : List Value) (hm : m = es.length) (hx : a.eval x = .slice (some ad) m c) (hrow : RowOf 3 (InstC (Off g v) W) news es) (hcl : ∀ j u, news[j]? = some u → W.cell? (ad.add j) = some u) (h1 : ∀ u ∈ news, u.oneCell' = true)
    (ht : ∀ i ∈ es, ITame i ∧ i.one.args.length ≤ q) (hn : n + es.length ≤ 1000000)
    (h : ∀ v' w', ListSt q w w' g P v' (n + es.length) → (∀ b i, HeldI W g v b i → HeldI w' g v' b i) → wpList Tryz.prog ops Q rest (a.put o.dst v') w') : wpList Tryz.prog ops Q (o :: rest) a W := by
  subst hm
  obtain ⟨i0, hi, hy0, hy1, hy2⟩ := info_parts info_inst
  obtain ⟨l, xs, hown, hr, htm, hln, hrd, hgr⟩ := hst
  refine wpList_append_own_at W hgd s x 23 ho w.heap.size 31 i0 (.agg #[.int .i64 0, .int .i64 0, .slice none 0 0]) 3 40 Tryz.underlying23 hi hy0 hy1 hy2 rfl (by decide) v l.length xs hs hown ad es.length c news hx hrow.1 hcl h1 (by unfold maxLen; omega) (by omega) hgr.size ?_
  intro v' w' hown' hgr' _ hat
  have hlo : ∀ k, v.ownBlock = some k → w.heap.size ≤ k := fun k hk => (hown.lt k hk).1
  have hk : ∀ cs e, InstC (Off g v) W cs e → InstC (Off g v') w' cs e := fun cs e h => by
    have h1 : InstC (fun b => Off g v b ∧ Off g v' b) W cs e := h.mono fun b hb hp => ⟨hp, off_mono hat b hb hp⟩
    exact (h1.keep (keep_mono (off_keep (B := g) hgr') fun b _ hp => hp.1)).mono fun b _ hp => hp.2
  refine h v' w' ⟨l ++ es, xs ++ news, by simpa using hown', (hr.append hrow).imp fun cs e _ => hk cs e, fun i hi => ?_, by simp; omega, rd_grown hrd hgr' (fun k hk => by have := hlo k hk; omega), ?_⟩ ?_
  · rcases List.mem_append.1 hi with h | h
    · exact htm i h
    · exact ht i h
  · exact gr_own hgr hgr' (fun k hk => hlo k hk)
  · rintro b i ⟨p1, p2, p3, p4, av, p5, p6⟩
    have hkb : KeepsIn (Off g v) W w' := off_keep hgr'
    have hd : DevsIn (Off g v') w' av i.one.args := by
      have h1 : DevsIn (fun b => Off g v b ∧ Off g v' b) W av i.one.args := p6.mono fun b hb hp => ⟨hp, off_mono hat b hb hp⟩
      exact (h1.keep (keep_mono hkb fun b _ hp => hp.1)).mono fun b _ hp => hp.2
    have e : w'.heap[b]? = W.heap[b]? := hgr'.block b p2 (fun e => p1.2 e.symm)
    have hc : ∀ o, w'.cell? ⟨b, o, none⟩ = W.cell? ⟨b, o, none⟩ := fun o => by unfold World.cell?; rw [e]
    exact ⟨off_mono hat b p2 p1, Nat.lt_of_lt_of_le p2 hgr'.size, (hc _).trans p3, (hc _).trans p4, av, (hc _).trans p5, hd⟩
end Go.Proofs.YtipdjmbgbehkaaaGreatDoor
/- Contracts of the specification's draws: a list at its bounds. -/
namespace Go.Proofs.YtipdjmbgbehkaaaGreatDoor
open Go.RowKit Go.Sort Go.BigFrame
theorem HeldI.new {W : World} {g : Nat} {v : Value} {i : Stil.Inst} {a : Option Addr} {c : Nat} (hd : DevsIn (Off g v) W (.slice a i.one.args.length c) i.one.args) (hg : g < W.heap.size) (hv : ∀ b, v.ownBlock = some b → b < W.heap.size) : HeldI (W.alloc (.cells #[.int .i64 i.code, .int .i64 i.one.op, .slice a i.one.args.length c] 31)) g v W.heap.size i := by
  refine ⟨⟨hg, fun e => by have := hv _ e; omega⟩, by simp, by simp [go_sem], by simp [go_sem], _, by simp [go_sem], hd.keep (KeepsIn.of_below (below_alloc _ _))⟩
end Go.Proofs.YtipdjmbgbehkaaaGreatDoor
/- Lists of instructions that grow: one of them read, one written anew. -/
namespace Go.Proofs.YtipdjmbgbehkaaaGreatDoor
open Go.RowKit Go.Sort Go.BigFrame
theorem ListSt.at {q : Nat} {w W : World} {g P n b m cap k : Nat} (h : ListSt q w W g P (.slice (some ⟨b, 0, none⟩) m cap) n) (hk : k < m) : ∃ (e : Stil.Inst) (a : Option Addr) (c : Nat), (W.cell? ⟨b, k * 3, none⟩ = some (.int .i64 e.code) ∧ W.cell? ⟨b, k * 3 + 1, none⟩ = some (.int .i64 e.one.op) ∧ W.cell? ⟨b, k * 3 + 2, none⟩ = some (.slice a e.one.args.length c)) ∧ (W.frozen? ⟨b, k * 3, none⟩ = false ∧ W.frozen? ⟨b, k * 3 + 1, none⟩ = false ∧ W.frozen? ⟨b, k * 3 + 2, none⟩ = false) ∧ DevsIn (Off g (.slice (some ⟨b, 0, none⟩) m cap)) W (.slice a e.one.args.length c) e.one.args ∧ (ITame e ∧ e.one.args.length ≤ q) ∧ b < W.heap.size ∧ w.heap.size ≤ b := by
  obtain ⟨l, xs, hown, hr, htm, hln, hrd, hgr⟩ := h
  obtain rfl : m = l.length := by
    obtain ⟨a', c', hv, -⟩ := own_open hown
    injection hv with h1 h2 h3
  obtain ⟨gb, c, hv, hb0, hb1, hb2, hc⟩ := ownsRow_cells hown (by omega)
  simp only [Value.slice.injEq, Option.some.injEq, Addr.mk.injEq] at hv
  obtain ⟨⟨rfl, _⟩, _⟩ := hv
  obtain ⟨av, he, hd⟩ := hr.2 k hk
  obtain ⟨a', c', rfl, -⟩ := id hd
  have hx := row_at hr hk he
  exact ⟨l[k], a', c', ⟨hc _ _ (hx 0 _ rfl), hc _ _ (hx 1 _ rfl), hc _ _ (hx 2 _ rfl)⟩, ⟨hown.frozenAt _, hown.frozenAt _, hown.frozenAt _⟩, hd, htm _ (List.getElem_mem hk), (hown.lt _ rfl).2, (hown.lt _ rfl).1⟩
theorem triple_set {xs : List Value} {k : Nat} (c0 c1 c2 : Value) (h : k * 3 + 3 ≤ xs.length) : (((((xs.set (k * 3) c0).set (k * 3 + 1) c1).set (k * 3 + 2) c2).drop (k * 3)).take 3 = [c0, c1, c2]) ∧ ∀ j, j < k * 3 ∨ k * 3 + 3 ≤ j → (((xs.set (k * 3) c0).set (k * 3 + 1) c1).set (k * 3 + 2) c2)[j]? = xs[j]? := by
  constructor
  · apply List.ext_getElem?
    intro j
    rw [List.getElem?_take]
    by_cases hj : j < 3
    · rw [if_pos hj, List.getElem?_drop]
      have : j = 0 ∨ j = 1 ∨ j = 2 := by omega
      rcases this with rfl | rfl | rfl
      · rw [List.getElem?_set_ne (by omega), List.getElem?_set_ne (by omega), Nat.add_zero, List.getElem?_set_self (by omega)]; rfl
      · rw [List.getElem?_set_ne (by omega), List.getElem?_set_self (by simp; omega)]; rfl
      · rw [List.getElem?_set_self (by simp; omega)]; rfl
    · rw [if_neg hj, List.getElem?_eq_none (by simp; omega)]
  · intro j hj
    rw [List.getElem?_set_ne (by omega), List.getElem?_set_ne (by omega), List.getElem?_set_ne (by omega)]
/-- One instruction of the list, written anew. -/
theorem ListSt.store {q : Nat} {w W : World} {g P n b m cap k : Nat} {e : Stil.Inst} {av : Value} (h : ListSt q w W g P (.slice (some ⟨b, 0, none⟩) m cap) n) (hw : g < w.heap.size) (hk : k < m) (hd : DevsIn (Off g (.slice (some ⟨b, 0, none⟩) m cap)) W av e.one.args) (ht : ITame e ∧ e.one.args.length ≤ q) : ListSt q w (((W.setCell ⟨b, k * 3, none⟩ (.int .i64 e.code)).setCell ⟨b, k * 3 + 1, none⟩ (.int .i64 e.one.op)).setCell ⟨b, k * 3 + 2, none⟩ av) g P (.slice (some ⟨b, 0, none⟩) m cap) n := by
  obtain ⟨l, xs, hown, hr, htm, hln, hrd, hgr⟩ := h
  obtain rfl : m = l.length := by
    obtain ⟨a', c', hv, -⟩ := own_open hown
    injection hv with h1 h2 h3
  have hlo : w.heap.size ≤ b := (hown.lt b rfl).1
  have s1 := hown.stored (k * 3) (.int .i64 e.code)
  have s2 := s1.1.stored (k * 3 + 1) (.int .i64 e.one.op)
  have s3 := s2.1.stored (k * 3 + 2) av
  have hkp : KeepsIn (Off g (.slice (some ⟨b, 0, none⟩) l.length cap)) W (((W.setCell ⟨b, k * 3, none⟩ (.int .i64 e.code)).setCell ⟨b, k * 3 + 1, none⟩ (.int .i64 e.one.op)).setCell ⟨b, k * 3 + 2, none⟩ av) := ((KeepsIn.set (fun h => h.2 rfl) _).trans (KeepsIn.set (fun h => h.2 rfl) _)).trans (KeepsIn.set (fun h => h.2 rfl) _)
  have hl : xs.length = l.length * 3 := hr.1
  obtain ⟨t1, t2⟩ := triple_set (xs := xs) (k := k) (.int .i64 e.code) (.int .i64 e.one.op) av (by omega)
  refine ⟨l.set k e, _, by simpa using s3.1, RowOf.set (hr.imp fun _ _ _ h => h.keep hkp) hk (by simp) ⟨av, t1, hd.keep hkp⟩ t2, fun i hi => ?_, by simpa using hln, rd_set (rd_set (rd_set hrd (by omega) _) (by omega) _) (by omega) _, gr_own (gr_own (gr_own hgr s1.2 ?_) s2.2 ?_) s3.2 ?_⟩
  · rcases List.mem_or_eq_of_mem_set hi with h1 | rfl
    · exact htm i h1
    · exact ht
  all_goals
    intro j hj
    simp only [Option.some.injEq] at hj
    omega
end Go.Proofs.YtipdjmbgbehkaaaGreatDoor
/- Lists of instructions that grow: cut, and put onto a cut one. -/
namespace Go.Proofs.YtipdjmbgbehkaaaGreatDoor
open Go.RowKit Go.Sort Go.BigFrame
theorem own_take {w : World} {base : Nat} {e : TypeId} {size b n cap k : Nat} {xs : List Value} (h : w.ownsRow base e size (.slice (some ⟨b, 0, none⟩) n cap) n xs) (hk : k ≤ n) : w.ownsRow base e size (.slice (some ⟨b, 0, none⟩) k cap) k (xs.take (k * size)) := by
  have hm : k * size ≤ n * size := Nat.mul_le_mul_right _ hk
  rcases h.2 with ⟨h0, -⟩ | ⟨g', cap', cur, hv, hb, hh, hc, hcm, hcs, ht⟩
  · simp at h0
  · simp only [Value.slice.injEq, Option.some.injEq, Addr.mk.injEq, and_true, true_and] at hv
    obtain ⟨rfl, rfl⟩ := hv
    refine ⟨by rw [List.length_take, h.1]; omega, .inr ⟨b, cap, cur, rfl, hb, hh, by omega, hcm, hcs, ?_⟩⟩
    rw [← ht, List.take_take]
    congr 1
    omega
theorem RowOf.take {α : Type} {s : Nat} {R : List Value → α → Prop} {xs : List Value} {us : List α} (h : RowOf s R xs us) (k : Nat) (hk : k ≤ us.length) : RowOf s R (xs.take (k * s)) (us.take k) := by
  have hm : k * s ≤ us.length * s := Nat.mul_le_mul_right _ hk
  refine ⟨by rw [List.length_take, List.length_take, h.1, Nat.min_eq_left hm, Nat.min_eq_left hk], fun i hi => ?_⟩
  rw [List.length_take, Nat.min_eq_left hk] at hi
  have := h.2 i (by omega)
  rw [List.getElem_take, List.drop_take, List.take_take]
  have hs : s ≤ k * s - i * s := by rw [← Nat.sub_mul]; exact Nat.le_mul_of_pos_left _ (by omega)
  rw [Nat.min_eq_left hs]
  exact this
theorem RowOf.drop {α : Type} {s : Nat} {R : List Value → α → Prop} {xs : List Value} {us : List α} (h : RowOf s R xs us) (k : Nat) : RowOf s R (xs.drop (k * s)) (us.drop k) := by
  refine ⟨by rw [List.length_drop, List.length_drop, h.1, Nat.sub_mul], fun i hi => ?_⟩
  rw [List.length_drop] at hi
  have := h.2 (k + i) (by omega)
  rw [List.getElem_drop, List.drop_drop, ← Nat.add_mul]
  exact this
theorem ListSt.cut {q : Nat} {w W : World} {g P n b m cap k : Nat} (h : ListSt q w W g P (.slice (some ⟨b, 0, none⟩) m cap) n) (hk : k ≤ m) : ListSt q w W g P (.slice (some ⟨b, 0, none⟩) k cap) k := by
  obtain ⟨l, xs, hown, hr, htm, hln, hrd, hgr⟩ := h
  obtain rfl : m = l.length := by
    obtain ⟨a', c', hv, -⟩ := own_open hown
    injection hv with h1 h2 h3
  have hl : (l.take k).length = k := by rw [List.length_take]; omega
  refine ⟨l.take k, xs.take (k * 3), by rw [hl]; exact own_take hown hk, (hr.imp fun _ _ _ h => h.mono fun b _ hb => ⟨hb.1, hb.2⟩).take k hk, fun i hi => htm i (List.mem_of_mem_take hi), by omega, hrd, hgr⟩
/-- What lies behind a place of the list, as it is put onto another. -/
theorem ListSt.behind {q : Nat} {w W : World} {g P n b m cap k : Nat} (h : ListSt q w W g P (.slice (some ⟨b, 0, none⟩) m cap) n) (hk : k ≤ m) : ∃ (es : List Stil.Inst) (news : List Value), es.length = m - k ∧ RowOf 3 (InstC (Off g (.slice (some ⟨b, 0, none⟩) m cap)) W) news es ∧ (∀ j u, news[j]? = some u → W.cell? ((⟨b, k * 3, none⟩ : Addr).add j) = some u) ∧ (∀ u ∈ news, u.oneCell' = true) ∧ ∀ i ∈ es, ITame i ∧ i.one.args.length ≤ q := by
  obtain ⟨l, xs, hown, hr, htm, hln, hrd, hgr⟩ := h
  obtain rfl : m = l.length := by
    obtain ⟨a', c', hv, -⟩ := own_open hown
    injection hv with h1 h2 h3
  refine ⟨l.drop k, xs.drop (k * 3), by rw [List.length_drop], hr.drop k, fun j u hj => ?_, fun u hu => ?_, fun i hi => htm i (List.mem_of_mem_drop hi)⟩
  · rw [List.getElem?_drop] at hj
    have hlt : k * 3 + j < xs.length := (List.getElem?_eq_some_iff.1 hj).1
    have := hown.cellAt (k * 3 + j) (by rw [← hown.1]; exact hlt)
    by_cases h0 : j = 0
    · subst h0
      simpa [Addr.add] using this.trans hj
    · simpa [Addr.add, h0] using this.trans hj
  · have hx := List.mem_of_mem_drop hu
    obtain ⟨j, hj, rfl⟩ := List.getElem_of_mem hx
    have hl : xs.length = l.length * 3 := hr.1
    obtain ⟨av, he, hd⟩ := hr.2 (j / 3) (by omega)
    obtain ⟨a', c', rfl, -⟩ := id hd
    have hx := row_at hr (by omega) he
    have h3 : j % 3 = 0 ∨ j % 3 = 1 ∨ j % 3 = 2 := by omega
    have hj3 : j / 3 * 3 + j % 3 = j := by omega
    have e : xs[j]? = some xs[j] := List.getElem?_eq_getElem hj
    rcases h3 with h | h | h
    · have := hx 0 _ rfl
      rw [show j / 3 * 3 + 0 = j by omega, e] at this
      rw [Option.some.inj this]; rfl
    · have := hx 1 _ rfl
      rw [show j / 3 * 3 + 1 = j by omega, e] at this
      rw [Option.some.inj this]; rfl
    · have := hx 2 _ rfl
      rw [show j / 3 * 3 + 2 = j by omega, e] at this
      rw [Option.some.inj this]; rfl
end Go.Proofs.YtipdjmbgbehkaaaGreatDoor
/- Lists of instructions that grow: a part of one written anew; a copy; growth in a region that draws. -/
namespace Go.Proofs.YtipdjmbgbehkaaaGreatDoor
open Go.RowKit Go.Sort Go.BigFrame
/-- The Code of one instruction of the list, written anew. -/
theorem ListSt.code {q : Nat} {w W : World} {g P n b m cap k : Nat} {c : Int} (h : ListSt q w W g P (.slice (some ⟨b, 0, none⟩) m cap) n) (hw : g < w.heap.size) (hk : k < m) (hc : -1000000 ≤ c ∧ c ≤ 1000000) : ListSt q w (W.setCell ⟨b, k * 3, none⟩ (.int .i64 c)) g P (.slice (some ⟨b, 0, none⟩) m cap) n := by
  obtain ⟨l, xs, hown, hr, htm, hln, hrd, hgr⟩ := h
  obtain rfl : m = l.length := by
    obtain ⟨a', c', hv, -⟩ := own_open hown
    injection hv with h1 h2 h3
  have hlo : w.heap.size ≤ b := (hown.lt b rfl).1
  have s1 := hown.stored (k * 3) (.int .i64 c)
  have hkp : KeepsIn (Off g (.slice (some ⟨b, 0, none⟩) l.length cap)) W (W.setCell ⟨b, k * 3, none⟩ (.int .i64 c)) := KeepsIn.set (fun h => h.2 rfl) _
  have hl : xs.length = l.length * 3 := hr.1
  obtain ⟨av, he, hd⟩ := hr.2 k hk
  have hx := row_at hr hk he
  have hte := htm _ (List.getElem_mem hk)
  refine ⟨l.set k ⟨c, l[k].one⟩, _, by simpa using s1.1, RowOf.set (hr.imp fun _ _ _ h => h.keep hkp) hk (by simp) ⟨av, ?_, hd.keep hkp⟩ ?_, fun i hi => ?_, by simpa using hln, rd_set hrd (by omega) _, gr_own hgr s1.2 ?_⟩
  · apply List.ext_getElem?
    intro j
    rw [List.getElem?_take]
    by_cases hj : j < 3
    · rw [if_pos hj, List.getElem?_drop]
      have : j = 0 ∨ j = 1 ∨ j = 2 := by omega
      rcases this with rfl | rfl | rfl
      · rw [Nat.add_zero, List.getElem?_set_self (by omega)]; rfl
      · rw [List.getElem?_set_ne (by omega)]; exact hx 1 _ rfl
      · rw [List.getElem?_set_ne (by omega)]; exact hx 2 _ rfl
    · rw [if_neg hj, List.getElem?_eq_none (by simp; omega)]
  · intro j hj
    rw [List.getElem?_set_ne (by omega)]
  · rcases List.mem_or_eq_of_mem_set hi with h1 | rfl
    · exact htm i h1
    · exact ⟨⟨hc, hte.1.2⟩, hte.2⟩
  · intro j hj
    simp only [Option.some.injEq] at hj
    omega
/-- The contact or coil of one instruction of the list, written anew. -/
theorem ListSt.one {q : Nat} {w W : World} {g P n b m cap k : Nat} {o : Stil.Elem} {av : Value} (h : ListSt q w W g P (.slice (some ⟨b, 0, none⟩) m cap) n) (hw : g < w.heap.size) (hk : k < m) (hd : DevsIn (Off g (.slice (some ⟨b, 0, none⟩) m cap)) W av o.args) (ht : ETame o ∧ o.args.length ≤ q) : ListSt q w ((W.setCell ⟨b, k * 3 + 1, none⟩ (.int .i64 o.op)).setCell ⟨b, k * 3 + 2, none⟩ av) g P (.slice (some ⟨b, 0, none⟩) m cap) n := by
  obtain ⟨l, xs, hown, hr, htm, hln, hrd, hgr⟩ := h
  obtain rfl : m = l.length := by
    obtain ⟨a', c', hv, -⟩ := own_open hown
    injection hv with h1 h2 h3
  have hlo : w.heap.size ≤ b := (hown.lt b rfl).1
  have s1 := hown.stored (k * 3 + 1) (.int .i64 o.op)
  have s2 := s1.1.stored (k * 3 + 2) av
  have hkp : KeepsIn (Off g (.slice (some ⟨b, 0, none⟩) l.length cap)) W ((W.setCell ⟨b, k * 3 + 1, none⟩ (.int .i64 o.op)).setCell ⟨b, k * 3 + 2, none⟩ av) := (KeepsIn.set (fun h => h.2 rfl) _).trans (KeepsIn.set (fun h => h.2 rfl) _)
  have hl : xs.length = l.length * 3 := hr.1
  obtain ⟨av0, he, hd0⟩ := hr.2 k hk
  have hx := row_at hr hk he
  have hte := htm _ (List.getElem_mem hk)
  refine ⟨l.set k ⟨l[k].code, o⟩, _, by simpa using s2.1, RowOf.set (hr.imp fun _ _ _ h => h.keep hkp) hk (by simp) ⟨av, ?_, hd.keep hkp⟩ ?_, fun i hi => ?_, by simpa using hln, rd_set (rd_set hrd (by omega) _) (by omega) _, gr_own (gr_own hgr s1.2 ?_) s2.2 ?_⟩
  · apply List.ext_getElem?
    intro j
    rw [List.getElem?_take]
    by_cases hj : j < 3
    · rw [if_pos hj, List.getElem?_drop]
      have : j = 0 ∨ j = 1 ∨ j = 2 := by omega
      rcases this with rfl | rfl | rfl
      · rw [List.getElem?_set_ne (by omega), List.getElem?_set_ne (by omega)]; exact hx 0 _ rfl
      · rw [List.getElem?_set_ne (by omega), List.getElem?_set_self (by omega)]; rfl
      · rw [List.getElem?_set_self (by simp; omega)]; rfl
    · rw [if_neg hj, List.getElem?_eq_none (by simp; omega)]
  · intro j hj
    rw [List.getElem?_set_ne (by omega), List.getElem?_set_ne (by omega)]
  · rcases List.mem_or_eq_of_mem_set hi with h1 | rfl
    · exact htm i h1
    · exact ⟨⟨hte.1.1, ht.1⟩, ht.2⟩
  all_goals
    intro j hj
    simp only [Option.some.injEq] at hj
    omega
/-- A copy in memory of its own. -/
theorem list_copied {q : Nat} {w W : World} {g P bb cc : Nat} {l : List Stil.Inst} {xs : List Value} (hr : RdAt w g P) (ht : ∀ i ∈ l, ITame i ∧ i.one.args.length ≤ q) (hown : W.ownsRow w.heap.size 31 3 (.slice (some ⟨bb, 0, none⟩) l.length cc) l.length xs) (hrow : RowOf 3 (InstC (fun b => (g < b ∧ b < w.heap.size) ∧ b < w.heap.size) W) xs l) (hb : w.heap.size ≤ bb) (hg : (w.alloc (.cells #[] 31)).grownBy W (some w.heap.size)) : ListSt q w W g P (.slice (some ⟨bb, 0, none⟩) l.length cc) l.length := by
  have hgz := rd_lt hr
  exact ⟨l, xs, hown, hrow.imp fun _ _ _ h => h.mono fun b _ hb => ⟨hb.1.1, by simp [Value.ownBlock]; omega⟩, ht, Nat.le_refl _, rd_grown (rd_alloc hr _) hg (fun k hk => by simp only [Option.some.injEq] at hk; omega), gr_own (grown_below (below_alloc _ _) _) hg (fun k hk => by simp only [Option.some.injEq] at hk; omega)⟩
set_option maxHeartbeats 1000000 in
theorem step_grow_insts {q : Nat} {ops : Array Oper} {o : Oper} {a : Act} {K : Act → World → Prop} {Q : Exit → Act → World → Prop} {E : Prop} (hgd : o.guard = none) (s x : Operand)
    (ho : o.op = .call { callee := .builtin .append, args := #[s, x], argTypes := #[23, 23] }) (w W : World) (g P n : Nat) (v : Value) (hs : a.eval s = v) (hst : ListSt q w W g P v n) (hgw : g < w.heap.size)
    (es : List Stil.Inst) (ad : Addr) (m c : Nat) (news : List Value) (hm : m = es.length) (hx : a.eval x = .slice (some ad) m c) (hrow : RowOf 3 (InstC (Off g v) W) news es) (hcl : ∀ j u, news[j]? = some u → W.cell? (ad.add j) = some u) (h1 : ∀ u ∈ news, u.oneCell' = true)
    (ht : ∀ i ∈ es, ITame i ∧ i.one.args.length ≤ q) (hn : n + es.length ≤ 1000000)
    (h : ∀ v' w', ListSt q w w' g P v' (n + es.length) → (∀ b i, HeldI W g v b i → HeldI w' g v' b i) → K (a.put o.dst v') w') : if Region.wanted o (yielded ops a.tmps) = true then Oper.wp Tryz.prog o a W K Q else E := by
  subst hm
  obtain ⟨i0, hi, hy0, hy1, hy2⟩ := info_parts info_inst
  obtain ⟨l, xs, hown, hr, htm, hln, hrd, hgr⟩ := hst
  refine step_append_at hgd s x 23 ho w.heap.size 31 i0 (.agg #[.int .i64 0, .int .i64 0, .slice none 0 0]) 3 40 Tryz.underlying23 hi hy0 hy1 hy2 rfl (by decide) v l.length xs hs hown ad es.length c news hx hrow.1 hcl h1 (by unfold maxLen; omega) (by omega) hgr.size ?_
  intro v' w' hown' hgr' hat
  have hlo : ∀ k, v.ownBlock = some k → w.heap.size ≤ k := fun k hk => (hown.lt k hk).1
  have hk : ∀ cs e, InstC (Off g v) W cs e → InstC (Off g v') w' cs e := fun cs e h => by
    have h1 : InstC (fun b => Off g v b ∧ Off g v' b) W cs e := h.mono fun b hb hp => ⟨hp, off_mono hat b hb hp⟩
    exact (h1.keep (keep_mono (off_keep (B := g) hgr') fun b _ hp => hp.1)).mono fun b _ hp => hp.2
  refine h v' w' ⟨l ++ es, xs ++ news, by simpa using hown', (hr.append hrow).imp fun cs e _ => hk cs e, fun i hi => ?_, by simp; omega, rd_grown hrd hgr' (fun k hk => by have := hlo k hk; omega), gr_own hgr hgr' (fun k hk => hlo k hk)⟩ ?_
  · rcases List.mem_append.1 hi with h | h
    · exact htm i h
    · exact ht i h
  · rintro b i ⟨p1, p2, p3, p4, av, p5, p6⟩
    have hkb : KeepsIn (Off g v) W w' := off_keep hgr'
    have hd : DevsIn (Off g v') w' av i.one.args := by
      have h1 : DevsIn (fun b => Off g v b ∧ Off g v' b) W av i.one.args := p6.mono fun b hb hp => ⟨hp, off_mono hat b hb hp⟩
      exact (h1.keep (keep_mono hkb fun b _ hp => hp.1)).mono fun b _ hp => hp.2
    have e : w'.heap[b]? = W.heap[b]? := hgr'.block b p2 (fun e => p1.2 e.symm)
    have hc : ∀ o, w'.cell? ⟨b, o, none⟩ = W.cell? ⟨b, o, none⟩ := fun o => by unfold World.cell?; rw [e]
    exact ⟨off_mono hat b p2 p1, Nat.lt_of_lt_of_le p2 hgr'.size, (hc _).trans p3, (hc _).trans p4, av, (hc _).trans p5, hd⟩
end Go.Proofs.YtipdjmbgbehkaaaGreatDoor
/- Lists of instructions that grow: with the length told; one list behind another. -/
namespace Go.Proofs.YtipdjmbgbehkaaaGreatDoor
open Go.RowKit Go.Sort Go.BigFrame
set_option maxHeartbeats 1000000 in
theorem wpList_grow_len {q : Nat} {ops : Array Oper} {rest : List Oper} {o : Oper} {a : Act} {Q : Exit → Act → World → Prop} (hgd : o.guard = none) (s x : Operand)
    (ho : o.op = .call { callee := .builtin .append, args := #[s, x], argTypes := #[23, 23] }) (w W : World) (g P n : Nat) (a0 : Option Addr) (m0 c0 : Nat) (hs : a.eval s = .slice a0 m0 c0) (hst : ListSt q w W g P (.slice a0 m0 c0) n) (hgw : g < w.heap.size)
    (e1 : Stil.Inst) (ad : Addr) (c : Nat) (news : List Value) (hx : a.eval x = .slice (some ad) 1 c) (hrow : RowOf 3 (InstC (Off g (.slice a0 m0 c0)) W) news [e1]) (hcl : ∀ j u, news[j]? = some u → W.cell? (ad.add j) = some u) (h1 : ∀ u ∈ news, u.oneCell' = true)
    (ht : ITame e1 ∧ e1.one.args.length ≤ q) (hn : n + 1 ≤ 1000000)
    (h : ∀ a' c' w', ListSt q w w' g P (.slice a' (m0 + 1) c') (n + 1) → (∀ b i, HeldI W g (.slice a0 m0 c0) b i → HeldI w' g (.slice a' (m0 + 1) c') b i) → wpList Tryz.prog ops Q rest (a.put o.dst (.slice a' (m0 + 1) c')) w') : wpList Tryz.prog ops Q (o :: rest) a W := by
  obtain ⟨i0, hi, hy0, hy1, hy2⟩ := info_parts info_inst
  obtain ⟨l, xs, hown, hr, htm, hln, hrd, hgr⟩ := hst
  obtain rfl : m0 = l.length := by
    obtain ⟨a', c', hv, -⟩ := own_open hown
    injection hv with h1 h2 h3
  refine wpList_append_own_at W hgd s x 23 ho w.heap.size 31 i0 (.agg #[.int .i64 0, .int .i64 0, .slice none 0 0]) 3 40 Tryz.underlying23 hi hy0 hy1 hy2 rfl (by decide) _ l.length xs hs hown ad 1 c news hx hrow.1 hcl h1 (by unfold maxLen; omega) (by omega) hgr.size ?_
  intro v' w' hown' hgr' _ hat
  obtain ⟨a', c', rfl, -⟩ := own_open hown'
  have hlo : ∀ k, (Value.slice a0 l.length c0).ownBlock = some k → w.heap.size ≤ k := fun k hk => (hown.lt k hk).1
  have hk : ∀ cs e, InstC (Off g (.slice a0 l.length c0)) W cs e → InstC (Off g (.slice a' (l.length + 1) c')) w' cs e := fun cs e h => by
    have h1 : InstC (fun b => Off g (.slice a0 l.length c0) b ∧ Off g (.slice a' (l.length + 1) c') b) W cs e := h.mono fun b hb hp => ⟨hp, off_mono hat b hb hp⟩
    exact (h1.keep (keep_mono (off_keep (B := g) hgr') fun b _ hp => hp.1)).mono fun b _ hp => hp.2
  refine h a' c' w' ⟨l ++ [e1], xs ++ news, by simpa using hown', (hr.append hrow).imp fun cs e _ => hk cs e, fun i hi => ?_, by simp; omega, rd_grown hrd hgr' (fun k hk => by have := hlo k hk; omega), ?_⟩ ?_
  · rcases List.mem_append.1 hi with h | h
    · exact htm i h
    · rw [List.mem_singleton.1 h]; exact ht
  · exact gr_own hgr hgr' (fun k hk => hlo k hk)
  · rintro b i ⟨p1, p2, p3, p4, av, p5, p6⟩
    have hkb : KeepsIn (Off g (.slice a0 l.length c0)) W w' := off_keep hgr'
    have hd : DevsIn (Off g (.slice a' (l.length + 1) c')) w' av i.one.args := by
      have h1 : DevsIn (fun b => Off g (.slice a0 l.length c0) b ∧ Off g (.slice a' (l.length + 1) c') b) W av i.one.args := p6.mono fun b hb hp => ⟨hp, off_mono hat b hb hp⟩
      exact (h1.keep (keep_mono hkb fun b _ hp => hp.1)).mono fun b _ hp => hp.2
    have e : w'.heap[b]? = W.heap[b]? := hgr'.block b p2 (fun e => p1.2 e.symm)
    have hc : ∀ o, w'.cell? ⟨b, o, none⟩ = W.cell? ⟨b, o, none⟩ := fun o => by unfold World.cell?; rw [e]
    exact ⟨off_mono hat b p2 p1, Nat.lt_of_lt_of_le p2 hgr'.size, (hc _).trans p3, (hc _).trans p4, av, (hc _).trans p5, hd⟩
end Go.Proofs.YtipdjmbgbehkaaaGreatDoor
/- Lists of instructions that grow: growth in a region that draws, with what it leaves as it was; what lies behind a place of another list. -/
namespace Go.Proofs.YtipdjmbgbehkaaaGreatDoor
open Go.RowKit Go.Sort Go.BigFrame
set_option maxHeartbeats 1000000 in
theorem step_grow_more {q : Nat} {ops : Array Oper} {o : Oper} {a : Act} {K : Act → World → Prop} {Q : Exit → Act → World → Prop} {E : Prop} (hgd : o.guard = none) (s x : Operand)
    (ho : o.op = .call { callee := .builtin .append, args := #[s, x], argTypes := #[23, 23] }) (w W : World) (g P n : Nat) (v : Value) (hs : a.eval s = v) (hst : ListSt q w W g P v n) (hgw : g < w.heap.size)
    (es : List Stil.Inst) (ad : Addr) (m c : Nat) (news : List Value) (hm : m = es.length) (hx : a.eval x = .slice (some ad) m c) (hrow : RowOf 3 (InstC (Off g v) W) news es) (hcl : ∀ j u, news[j]? = some u → W.cell? (ad.add j) = some u) (h1 : ∀ u ∈ news, u.oneCell' = true)
    (ht : ∀ i ∈ es, ITame i ∧ i.one.args.length ≤ q) (hn : n + es.length ≤ 1000000)
    (h : ∀ v' w', ListSt q w w' g P v' (n + es.length) → W.grownBy w' v.ownBlock → (v'.ownBlock = v.ownBlock ∨ v'.ownBlock = some W.heap.size) → K (a.put o.dst v') w') : if Region.wanted o (yielded ops a.tmps) = true then Oper.wp Tryz.prog o a W K Q else E := by
  subst hm
  obtain ⟨i0, hi, hy0, hy1, hy2⟩ := info_parts info_inst
  obtain ⟨l, xs, hown, hr, htm, hln, hrd, hgr⟩ := hst
  refine step_append_at hgd s x 23 ho w.heap.size 31 i0 (.agg #[.int .i64 0, .int .i64 0, .slice none 0 0]) 3 40 Tryz.underlying23 hi hy0 hy1 hy2 rfl (by decide) v l.length xs hs hown ad es.length c news hx hrow.1 hcl h1 (by unfold maxLen; omega) (by omega) hgr.size ?_
  intro v' w' hown' hgr' hat
  have hlo : ∀ k, v.ownBlock = some k → w.heap.size ≤ k := fun k hk => (hown.lt k hk).1
  have hk : ∀ cs e, InstC (Off g v) W cs e → InstC (Off g v') w' cs e := fun cs e h => by
    have h1 : InstC (fun b => Off g v b ∧ Off g v' b) W cs e := h.mono fun b hb hp => ⟨hp, off_mono hat b hb hp⟩
    exact (h1.keep (keep_mono (off_keep (B := g) hgr') fun b _ hp => hp.1)).mono fun b _ hp => hp.2
  refine h v' w' ⟨l ++ es, xs ++ news, by simpa using hown', (hr.append hrow).imp fun cs e _ => hk cs e, fun i hi => ?_, by simp; omega, rd_grown hrd hgr' (fun k hk => by have := hlo k hk; omega), gr_own hgr hgr' (fun k hk => hlo k hk)⟩ hgr' hat
  rcases List.mem_append.1 hi with h | h
  · exact htm i h
  · exact ht i h
theorem ListSt.own {q : Nat} {w W : World} {g P n : Nat} {v : Value} (h : ListSt q w W g P v n) : ∀ b, v.ownBlock = some b → w.heap.size ≤ b ∧ b < W.heap.size := by
  obtain ⟨l, xs, hown, -⟩ := h
  exact fun b hb => hown.lt b hb
theorem list_fresh {q : Nat} {w D : World} {g P : Nat} (h : RdAt D g P) (hgr : w.grownBy D (some g)) : ListSt q w (D.alloc (.cells #[] 31)) g P (.slice (some ⟨D.heap.size, 0, none⟩) 0 0) 0 := by
  have hown0 : (D.alloc (.cells #[] 31)).ownsRow w.heap.size 31 3 (.slice (some ⟨D.heap.size, 0, none⟩) 0 0) 0 [] := by
    have := World.ownsRow_lit (base := w.heap.size) (e := 31) (size := 3) D #[] 0 hgr.size (by unfold maxLen; omega) rfl
    simpa using this
  exact ⟨[], [], hown0, RowOf.nil _ _, fun _ h => (by cases h), by simp, rd_alloc h _, grown_trans hgr (grown_below (below_alloc _ _) _)⟩
/-- Instructions in memory beyond g and below lo, in a row from a place on. -/
def Tail (g lo : Nat) (W : World) (b o : Nat) (es : List Stil.Inst) (news : List Value) : Prop := (g < b ∧ b < lo ∧ lo ≤ W.heap.size) ∧ RowOf 3 (InstC (fun b => g < b ∧ b < lo) W) news es ∧ ∀ j u, news[j]? = some u → W.cell? ((⟨b, o, none⟩ : Addr).add j) = some u
theorem add_block (b o j : Nat) : ((⟨b, o, none⟩ : Addr).add j).block = b := by
  unfold Addr.add
  split <;> rfl
theorem Tail.grown {g lo b o : Nat} {W W' : World} {r : Option Nat} {es : List Stil.Inst} {news : List Value} (h : Tail g lo W b o es news) (hg : W.grownBy W' r) (hr : ∀ j, r = some j → j = g ∨ lo ≤ j) : Tail g lo W' b o es news := by
  obtain ⟨⟨h1, h2, h3⟩, h4, h5⟩ := h
  have hk : ∀ c, g < c → c < lo → r ≠ some c := fun c q1 q2 e => by rcases hr c e with h | h <;> omega
  refine ⟨⟨h1, h2, Nat.le_trans h3 hg.size⟩, h4.imp fun _ _ _ h => h.keep (KeepsIn.of_grown hg fun c hc => hk c hc.1 hc.2), fun j u hj => ?_⟩
  have e : W'.heap[b]? = W.heap[b]? := hg.block b (by omega) (fun e => hk b h1 h2 e.symm)
  rw [← h5 j u hj]
  unfold World.cell?
  rw [add_block, e]
theorem Tail.row {g lo b o : Nat} {W : World} {es : List Stil.Inst} {news : List Value} (h : Tail g lo W b o es news) {v : Value} (hv : ∀ c, v.ownBlock = some c → lo ≤ c) : RowOf 3 (InstC (Off g v) W) news es :=
  h.2.1.imp fun _ _ _ h => h.mono fun c _ hc => ⟨hc.1, fun e => by have := hv c e; omega⟩
theorem ListSt.tail {q : Nat} {w W : World} {g P n b m cap k : Nat} (h : ListSt q w W g P (.slice (some ⟨b, 0, none⟩) m cap) n) (hw : g < w.heap.size) (hk : k ≤ m) : ∃ (es : List Stil.Inst) (news : List Value), es.length = m - k ∧ Tail g W.heap.size W b (k * 3) es news ∧ (∀ u ∈ news, u.oneCell' = true) ∧ ∀ i ∈ es, ITame i ∧ i.one.args.length ≤ q := by
  obtain ⟨es, news, h1, h2, h3, h4, h5⟩ := h.behind hk
  have ho := h.own b rfl
  exact ⟨es, news, h1, ⟨⟨by omega, by omega, Nat.le_refl _⟩, h2.imp fun _ _ _ h => h.mono fun c hc hp => ⟨hp.1, hc⟩, h3⟩, h4, h5⟩
end Go.Proofs.YtipdjmbgbehkaaaGreatDoor
