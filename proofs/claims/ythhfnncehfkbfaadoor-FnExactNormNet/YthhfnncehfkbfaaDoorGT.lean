/- T3, T3b, T3c, T3d: texts put together. -/
import Derived.Test.YthhfnncehfkbfaaDoorGC
import Derived.Test.YthhfnncehfkbfaaDoorGM
import Derived.RangeFuncNested
import Derived.RangeFuncBound
import Derived.RangeFuncCalls
import Derived.RangeFuncLeaves
import Derived.Shelf.Abstract
/- How ladders lie in memory. -/
namespace Go.Proofs.YthhfnncehfkbfaaDoor
open Go.RowKit Go.Sort Go.BigFrame
/-- The net n lies at this place. -/
def NetAt (w : World) : Nat → Nat → Stil.Net → Prop
  | b, o, ⟨k, e, kids⟩ => w.cell? ⟨b, o, none⟩ = some (.int .i64 k) ∧ w.cell? ⟨b, o + 1, none⟩ = some (.int .i64 e.op) ∧
      (∃ av, w.cell? ⟨b, o + 2, none⟩ = some av ∧ DevsAt w av e.args) ∧
      ∃ a cap, w.cell? ⟨b, o + 3, none⟩ = some (.slice a kids.length cap) ∧ ∀ i (h : i < kids.length), ∃ b' o', a = some ⟨b', o', none⟩ ∧ b' < w.heap.size ∧
        (have := List.sizeOf_lt_of_mem (List.getElem_mem h); NetAt w b' (o' + i * 4) kids[i])
theorem NetAt_eq (w : World) (b o : Nat) (k : Int) (e : Stil.Elem) (kids : List Stil.Net) : NetAt w b o ⟨k, e, kids⟩ = (w.cell? ⟨b, o, none⟩ = some (.int .i64 k) ∧ w.cell? ⟨b, o + 1, none⟩ = some (.int .i64 e.op) ∧
      (∃ av, w.cell? ⟨b, o + 2, none⟩ = some av ∧ DevsAt w av e.args) ∧
      ∃ a cap, w.cell? ⟨b, o + 3, none⟩ = some (.slice a kids.length cap) ∧ ∀ i (h : i < kids.length), ∃ b' o', a = some ⟨b', o', none⟩ ∧ b' < w.heap.size ∧ NetAt w b' (o' + i * 4) kids[i]) := by rw [NetAt]
/-- The value v is a slice of just these nets. -/
def NetsAt (w : World) (v : Value) (ns : List Stil.Net) : Prop := ∃ a cap, v = .slice a ns.length cap ∧ ∀ i (h : i < ns.length), ∃ b o, a = some ⟨b, o, none⟩ ∧ b < w.heap.size ∧ NetAt w b (o + i * 4) ns[i]
theorem NetAt_iff (w : World) (b o : Nat) (k : Int) (e : Stil.Elem) (kids : List Stil.Net) : NetAt w b o ⟨k, e, kids⟩ ↔ (w.cell? ⟨b, o, none⟩ = some (.int .i64 k) ∧ w.cell? ⟨b, o + 1, none⟩ = some (.int .i64 e.op) ∧
      (∃ av, w.cell? ⟨b, o + 2, none⟩ = some av ∧ DevsAt w av e.args) ∧ ∃ kv, w.cell? ⟨b, o + 3, none⟩ = some kv ∧ NetsAt w kv kids) := by
  rw [NetAt_eq]
  constructor
  · rintro ⟨h1, h2, h3, a, cap, h4, h5⟩; exact ⟨h1, h2, h3, _, h4, a, cap, rfl, h5⟩
  · rintro ⟨h1, h2, h3, _, h4, a, cap, rfl, h5⟩; exact ⟨h1, h2, h3, a, cap, h4, h5⟩
theorem NetAt.below {w w' : World} (hb : Below w.heap.size w w') : ∀ (n : Stil.Net) (b o : Nat), NetAt w b o n → b < w.heap.size → NetAt w' b o n := by
  intro n
  induction n using Stil.net_ind with
  | h k e kids ih =>
    intro b o h hlt
    rw [NetAt_eq] at h ⊢
    obtain ⟨h1, h2, ⟨av, h3, h4⟩, a, cap, h5, h6⟩ := h
    refine ⟨?_, ?_, ⟨av, ?_, h4.below hb⟩, a, cap, ?_, fun i hi => ?_⟩
    · rw [hb.cell (p := ⟨b, o, none⟩) hlt]; exact h1
    · rw [hb.cell (p := ⟨b, o + 1, none⟩) hlt]; exact h2
    · rw [hb.cell (p := ⟨b, o + 2, none⟩) hlt]; exact h3
    · rw [hb.cell (p := ⟨b, o + 3, none⟩) hlt]; exact h5
    · obtain ⟨b', o', ha, hl', hn⟩ := h6 i hi
      exact ⟨b', o', ha, Nat.lt_of_lt_of_le hl' hb.size, ih _ (List.getElem_mem hi) b' _ hn hl'⟩
theorem NetsAt.below {w w' : World} {v : Value} {ns : List Stil.Net} (h : NetsAt w v ns) (hb : Below w.heap.size w w') : NetsAt w' v ns := by
  obtain ⟨a, cap, hv, hc⟩ := h
  refine ⟨a, cap, hv, fun i hi => ?_⟩
  obtain ⟨b, o, ha, hlt, hn⟩ := hc i hi
  exact ⟨b, o, ha, Nat.lt_of_lt_of_le hlt hb.size, NetAt.below hb _ _ _ hn hlt⟩
/-- The contact or coil e lies at this place. -/
def ElemAt (w : World) (b o : Nat) (e : Stil.Elem) : Prop := w.cell? ⟨b, o, none⟩ = some (.int .i64 e.op) ∧ ∃ av, w.cell? ⟨b, o + 1, none⟩ = some av ∧ DevsAt w av e.args
/-- The value v is a slice of just these contacts and coils. -/
def ElemsAt (w : World) (v : Value) (es : List Stil.Elem) : Prop := ∃ a cap, v = .slice a es.length cap ∧ ∀ i (h : i < es.length), ∃ b o, a = some ⟨b, o, none⟩ ∧ b < w.heap.size ∧ ElemAt w b (o + i * 2) es[i]
theorem ElemAt.below {w w' : World} {b o : Nat} {e : Stil.Elem} (h : ElemAt w b o e) (hb : Below w.heap.size w w') (hlt : b < w.heap.size) : ElemAt w' b o e := by
  obtain ⟨h1, av, h2, h3⟩ := h
  exact ⟨by rw [hb.cell (p := ⟨b, o, none⟩) hlt]; exact h1, av, by rw [hb.cell (p := ⟨b, o + 1, none⟩) hlt]; exact h2, h3.below hb⟩
theorem ElemsAt.below {w w' : World} {v : Value} {es : List Stil.Elem} (h : ElemsAt w v es) (hb : Below w.heap.size w w') : ElemsAt w' v es := by
  obtain ⟨a, cap, hv, hc⟩ := h
  refine ⟨a, cap, hv, fun i hi => ?_⟩
  obtain ⟨b, o, ha, hlt, hn⟩ := hc i hi
  exact ⟨b, o, ha, Nat.lt_of_lt_of_le hlt hb.size, hn.below hb hlt⟩
/-- The arm lies at this place. -/
def ArmAt (w : World) : Nat → Nat → Stil.Arm → Prop
  | b, o, ⟨n, coils, kids⟩ => NetAt w b o n ∧ (∃ cv, w.cell? ⟨b, o + 4, none⟩ = some cv ∧ ElemsAt w cv coils) ∧
      ∃ a cap, w.cell? ⟨b, o + 5, none⟩ = some (.slice a kids.length cap) ∧ ∀ i (h : i < kids.length), ∃ b' o', a = some ⟨b', o', none⟩ ∧ b' < w.heap.size ∧
        (have := List.sizeOf_lt_of_mem (List.getElem_mem h); ArmAt w b' (o' + i * 6) kids[i])
theorem ArmAt_eq (w : World) (b o : Nat) (n : Stil.Net) (coils : List Stil.Elem) (kids : List Stil.Arm) : ArmAt w b o ⟨n, coils, kids⟩ = (NetAt w b o n ∧ (∃ cv, w.cell? ⟨b, o + 4, none⟩ = some cv ∧ ElemsAt w cv coils) ∧
      ∃ a cap, w.cell? ⟨b, o + 5, none⟩ = some (.slice a kids.length cap) ∧ ∀ i (h : i < kids.length), ∃ b' o', a = some ⟨b', o', none⟩ ∧ b' < w.heap.size ∧ ArmAt w b' (o' + i * 6) kids[i]) := by rw [ArmAt]
/-- The value v is a slice of just these arms. -/
def ArmsAt (w : World) (v : Value) (l : List Stil.Arm) : Prop := ∃ a cap, v = .slice a l.length cap ∧ ∀ i (h : i < l.length), ∃ b o, a = some ⟨b, o, none⟩ ∧ b < w.heap.size ∧ ArmAt w b (o + i * 6) l[i]
theorem ArmAt.below {w w' : World} (hb : Below w.heap.size w w') : ∀ (n : Stil.Arm) (b o : Nat), ArmAt w b o n → b < w.heap.size → ArmAt w' b o n := by
  intro n
  induction n using Stil.arm_ind with
  | h n coils kids ih =>
    intro b o h hlt
    rw [ArmAt_eq] at h ⊢
    obtain ⟨h1, ⟨cv, h3, h4⟩, a, cap, h5, h6⟩ := h
    refine ⟨NetAt.below hb _ _ _ h1 hlt, ⟨cv, ?_, h4.below hb⟩, a, cap, ?_, fun i hi => ?_⟩
    · rw [hb.cell (p := ⟨b, o + 4, none⟩) hlt]; exact h3
    · rw [hb.cell (p := ⟨b, o + 5, none⟩) hlt]; exact h5
    · obtain ⟨b', o', ha, hl', hn⟩ := h6 i hi
      exact ⟨b', o', ha, Nat.lt_of_lt_of_le hl' hb.size, ih _ (List.getElem_mem hi) b' _ hn hl'⟩
theorem ArmsAt.below {w w' : World} {v : Value} {ns : List Stil.Arm} (h : ArmsAt w v ns) (hb : Below w.heap.size w w') : ArmsAt w' v ns := by
  obtain ⟨a, cap, hv, hc⟩ := h
  refine ⟨a, cap, hv, fun i hi => ?_⟩
  obtain ⟨b, o, ha, hlt, hn⟩ := hc i hi
  exact ⟨b, o, ha, Nat.lt_of_lt_of_le hlt hb.size, ArmAt.below hb _ _ _ hn hlt⟩
theorem NetAt.open {w : World} {b o : Nat} {n : Stil.Net} (h : NetAt w b o n) : w.cell? ⟨b, o, none⟩ = some (.int .i64 n.kind) ∧ w.cell? ⟨b, o + 1, none⟩ = some (.int .i64 n.one.op) ∧
      ∃ av kv, w.cell? ⟨b, o + 2, none⟩ = some av ∧ w.cell? ⟨b, o + 3, none⟩ = some kv ∧ DevsAt w av n.one.args ∧ NetsAt w kv n.kids := by
  obtain ⟨k, e, kids⟩ := n
  obtain ⟨h1, h2, ⟨av, h3, h4⟩, kv, h5, h6⟩ := (NetAt_iff _ _ _ _ _ _).1 h
  exact ⟨h1, h2, av, kv, h3, h5, h4, h6⟩
theorem ArmAt.open {w : World} {b o : Nat} {n : Stil.Arm} (h : ArmAt w b o n) : NetAt w b o n.net ∧ ∃ cv kv, w.cell? ⟨b, o + 4, none⟩ = some cv ∧ w.cell? ⟨b, o + 5, none⟩ = some kv ∧ ElemsAt w cv n.coils ∧ ArmsAt w kv n.kids := by
  obtain ⟨n, coils, kids⟩ := n
  rw [ArmAt_eq] at h
  obtain ⟨h1, ⟨cv, h3, h4⟩, a, cap, h5, h6⟩ := h
  exact ⟨h1, cv, _, h3, h5, h4, a, cap, rfl, h6⟩
end Go.Proofs.YthhfnncehfkbfaaDoor
/- Ladders in memory of their own: all their blocks at or beyond a place. -/
namespace Go.Proofs.YthhfnncehfkbfaaDoor
open Go.RowKit Go.Sort Go.BigFrame
/-- Whatever lies at or beyond lo in w lies so in w'. -/
def KeepsUp (lo : Nat) (w w' : World) : Prop := w.heap.size ≤ w'.heap.size ∧ ∀ b o, lo ≤ b → b < w.heap.size → w'.cell? ⟨b, o, none⟩ = w.cell? ⟨b, o, none⟩
theorem KeepsUp.refl (lo : Nat) (w : World) : KeepsUp lo w w := ⟨Nat.le_refl _, fun _ _ _ _ => rfl⟩
theorem KeepsUp.trans {lo : Nat} {a b c : World} (h1 : KeepsUp lo a b) (h2 : KeepsUp lo b c) : KeepsUp lo a c :=
  ⟨Nat.le_trans h1.1 h2.1, fun x o hl hx => (h2.2 x o hl (Nat.lt_of_lt_of_le hx h1.1)).trans (h1.2 x o hl hx)⟩
theorem KeepsUp.of_below {lo : Nat} {w w' : World} (h : Below w.heap.size w w') : KeepsUp lo w w' := ⟨h.size, fun b o _ hb => h.cell (p := ⟨b, o, none⟩) hb⟩
theorem cellSetOther {W : World} {b c o p : Nat} {v : Value} (h : c ≠ b) : (W.setCell ⟨b, o, none⟩ v).cell? ⟨c, p, none⟩ = W.cell? ⟨c, p, none⟩ := by
  simp [go_sem]
theorem cellSetOff {W : World} {b o p : Nat} {v : Value} (h : p ≠ o) : (W.setCell ⟨b, o, none⟩ v).cell? ⟨b, p, none⟩ = W.cell? ⟨b, p, none⟩ := by
  simp [go_sem]
theorem cellSetAt {W : World} {b o : Nat} {v u : Value} (h : W.cell? ⟨b, o, none⟩ = some u) : (W.setCell ⟨b, o, none⟩ v).cell? ⟨b, o, none⟩ = some v := by
  simp [go_sem, h]
theorem sizeSet (W : World) (p : Addr) (v : Value) : W.heap.size ≤ (W.setCell p v).heap.size := ((Below.refl 0 W).setCell (Nat.zero_le _) v).size
theorem KeepsUp.set {lo : Nat} {w w' : World} {b o : Nat} (h : KeepsUp lo w w') (hb : b < lo) (v : Value) : KeepsUp lo w (w'.setCell ⟨b, o, none⟩ v) :=
  h.trans ⟨sizeSet _ _ _, fun x p hl _ => cellSetOther (by omega)⟩
theorem KeepsUp.mono {lo hi : Nat} {w w' : World} (h : KeepsUp lo w w') (hl : lo ≤ hi) : KeepsUp hi w w' := ⟨h.1, fun b o hb => h.2 b o (Nat.le_trans hl hb)⟩
def DevsFrom (lo : Nat) (w : World) (v : Value) (ds : List Stil.Dev) : Prop := ∃ a cap, v = .slice a ds.length cap ∧ ∀ i (h : i < ds.length), ∃ b o, a = some ⟨b, o, none⟩ ∧ lo ≤ b ∧ b < w.heap.size ∧ DevAt w b (o + i * 3) ds[i]
theorem DevAt.keep {lo : Nat} {w w' : World} {b o : Nat} {d : Stil.Dev} (h : DevAt w b o d) (hk : KeepsUp lo w w') (hl : lo ≤ b) (hb : b < w.heap.size) : DevAt w' b o d := by
  obtain ⟨h1, h2, h3⟩ := h
  exact ⟨by rw [hk.2 _ _ hl hb]; exact h1, by rw [hk.2 _ _ hl hb]; exact h2, by rw [hk.2 _ _ hl hb]; exact h3⟩
theorem DevsFrom.keep {lo : Nat} {w w' : World} {v : Value} {ds : List Stil.Dev} (h : DevsFrom lo w v ds) (hk : KeepsUp lo w w') : DevsFrom lo w' v ds := by
  obtain ⟨a, cap, hv, hc⟩ := h
  refine ⟨a, cap, hv, fun i hi => ?_⟩
  obtain ⟨b, o, ha, hl, hb, hd⟩ := hc i hi
  exact ⟨b, o, ha, hl, Nat.lt_of_lt_of_le hb hk.1, hd.keep hk hl hb⟩
theorem DevsFrom.mono {lo hi : Nat} {w : World} {v : Value} {ds : List Stil.Dev} (h : DevsFrom hi w v ds) (hl : lo ≤ hi) : DevsFrom lo w v ds := by
  obtain ⟨a, cap, hv, hc⟩ := h
  refine ⟨a, cap, hv, fun i hi => ?_⟩
  obtain ⟨b, o, ha, hl', hb, hd⟩ := hc i hi
  exact ⟨b, o, ha, Nat.le_trans hl hl', hb, hd⟩
theorem DevsFrom.at {lo : Nat} {w : World} {v : Value} {ds : List Stil.Dev} (h : DevsFrom lo w v ds) : DevsAt w v ds := by
  obtain ⟨a, cap, hv, hc⟩ := h
  refine ⟨a, cap, hv, fun i hi => ?_⟩
  obtain ⟨b, o, ha, hl', hb, hd⟩ := hc i hi
  exact ⟨b, o, ha, hb, hd⟩
theorem DevsFrom.of_owns {w : World} {base : Nat} {v : Value} {ds : List Stil.Dev} (h : w.ownsRow base 69 3 v ds.length (devsCells ds)) : DevsFrom base w v ds := by
  by_cases hd : ds.length = 0
  · have hn : ds = [] := List.length_eq_zero_iff.1 hd
    subst hn
    rcases h.2 with ⟨h0, _⟩ | ⟨g, cap, cur, hv, _⟩
    · exact ⟨none, 0, h0, fun i hi => by simp at hi⟩
    · exact ⟨_, cap, hv, fun i hi => by simp at hi⟩
  · obtain ⟨g, cap, hv, hbase, hlt, _, hc⟩ := ownsRow_cells h (by omega)
    refine ⟨_, cap, hv, fun i hi => ⟨g, 0, rfl, hbase, hlt, ?_⟩⟩
    obtain ⟨a1, a2, a3⟩ := devsCells_get ds i hi
    unfold DevAt
    rw [Nat.zero_add]
    exact ⟨hc _ _ a1, hc _ _ a2, hc _ _ a3⟩
/-- The net lies at this place, and whatever it holds at or beyond lo. -/
def NetFrom (lo : Nat) (w : World) : Nat → Nat → Stil.Net → Prop
  | b, o, ⟨k, e, kids⟩ => w.cell? ⟨b, o, none⟩ = some (.int .i64 k) ∧ w.cell? ⟨b, o + 1, none⟩ = some (.int .i64 e.op) ∧
      (∃ av, w.cell? ⟨b, o + 2, none⟩ = some av ∧ DevsFrom lo w av e.args) ∧
      ∃ a cap, w.cell? ⟨b, o + 3, none⟩ = some (.slice a kids.length cap) ∧ ∀ i (h : i < kids.length), ∃ b' o', a = some ⟨b', o', none⟩ ∧ lo ≤ b' ∧ b' < w.heap.size ∧
        (have := List.sizeOf_lt_of_mem (List.getElem_mem h); NetFrom lo w b' (o' + i * 4) kids[i])
theorem NetFrom_eq (lo : Nat) (w : World) (b o : Nat) (k : Int) (e : Stil.Elem) (kids : List Stil.Net) : NetFrom lo w b o ⟨k, e, kids⟩ = (w.cell? ⟨b, o, none⟩ = some (.int .i64 k) ∧ w.cell? ⟨b, o + 1, none⟩ = some (.int .i64 e.op) ∧
      (∃ av, w.cell? ⟨b, o + 2, none⟩ = some av ∧ DevsFrom lo w av e.args) ∧
      ∃ a cap, w.cell? ⟨b, o + 3, none⟩ = some (.slice a kids.length cap) ∧ ∀ i (h : i < kids.length), ∃ b' o', a = some ⟨b', o', none⟩ ∧ lo ≤ b' ∧ b' < w.heap.size ∧ NetFrom lo w b' (o' + i * 4) kids[i]) := by rw [NetFrom]
def NetsFrom (lo : Nat) (w : World) (v : Value) (ns : List Stil.Net) : Prop := ∃ a cap, v = .slice a ns.length cap ∧ ∀ i (h : i < ns.length), ∃ b o, a = some ⟨b, o, none⟩ ∧ lo ≤ b ∧ b < w.heap.size ∧ NetFrom lo w b (o + i * 4) ns[i]
theorem NetFrom_iff (lo : Nat) (w : World) (b o : Nat) (n : Stil.Net) : NetFrom lo w b o n ↔ (w.cell? ⟨b, o, none⟩ = some (.int .i64 n.kind) ∧ w.cell? ⟨b, o + 1, none⟩ = some (.int .i64 n.one.op) ∧
      (∃ av, w.cell? ⟨b, o + 2, none⟩ = some av ∧ DevsFrom lo w av n.one.args) ∧ ∃ kv, w.cell? ⟨b, o + 3, none⟩ = some kv ∧ NetsFrom lo w kv n.kids) := by
  obtain ⟨k, e, kids⟩ := n
  rw [NetFrom_eq]
  constructor
  · rintro ⟨h1, h2, h3, a, cap, h4, h5⟩; exact ⟨h1, h2, h3, _, h4, a, cap, rfl, h5⟩
  · rintro ⟨h1, h2, h3, _, h4, a, cap, rfl, h5⟩; exact ⟨h1, h2, h3, a, cap, h4, h5⟩
theorem NetFrom.keep {lo : Nat} {w w' : World} (hk : KeepsUp lo w w') : ∀ (n : Stil.Net) (b o : Nat), NetFrom lo w b o n → lo ≤ b → b < w.heap.size → NetFrom lo w' b o n := by
  intro n
  induction n using Stil.net_ind with
  | h k e kids ih =>
    intro b o h hl hlt
    rw [NetFrom_eq] at h ⊢
    obtain ⟨h1, h2, ⟨av, h3, h4⟩, a, cap, h5, h6⟩ := h
    refine ⟨?_, ?_, ⟨av, ?_, h4.keep hk⟩, a, cap, ?_, fun i hi => ?_⟩
    · rw [hk.2 _ _ hl hlt]; exact h1
    · rw [hk.2 _ _ hl hlt]; exact h2
    · rw [hk.2 _ _ hl hlt]; exact h3
    · rw [hk.2 _ _ hl hlt]; exact h5
    · obtain ⟨b', o', ha, hlo, hl', hn⟩ := h6 i hi
      exact ⟨b', o', ha, hlo, Nat.lt_of_lt_of_le hl' hk.1, ih _ (List.getElem_mem hi) b' _ hn hlo hl'⟩
theorem NetsFrom.keep {lo : Nat} {w w' : World} {v : Value} {ns : List Stil.Net} (h : NetsFrom lo w v ns) (hk : KeepsUp lo w w') : NetsFrom lo w' v ns := by
  obtain ⟨a, cap, hv, hc⟩ := h
  refine ⟨a, cap, hv, fun i hi => ?_⟩
  obtain ⟨b, o, ha, hl, hb, hd⟩ := hc i hi
  exact ⟨b, o, ha, hl, Nat.lt_of_lt_of_le hb hk.1, NetFrom.keep hk _ _ _ hd hl hb⟩
theorem NetFrom.mono {lo hi : Nat} {w : World} (hl : lo ≤ hi) : ∀ (n : Stil.Net) (b o : Nat), NetFrom hi w b o n → NetFrom lo w b o n := by
  intro n
  induction n using Stil.net_ind with
  | h k e kids ih =>
    intro b o h
    rw [NetFrom_eq] at h ⊢
    obtain ⟨h1, h2, ⟨av, h3, h4⟩, a, cap, h5, h6⟩ := h
    refine ⟨h1, h2, ⟨av, h3, h4.mono hl⟩, a, cap, h5, fun i hi => ?_⟩
    obtain ⟨b', o', ha, hlo, hl', hn⟩ := h6 i hi
    exact ⟨b', o', ha, Nat.le_trans hl hlo, hl', ih _ (List.getElem_mem hi) b' _ hn⟩
theorem NetsFrom.mono {lo hi : Nat} {w : World} {v : Value} {ns : List Stil.Net} (h : NetsFrom hi w v ns) (hl : lo ≤ hi) : NetsFrom lo w v ns := by
  obtain ⟨a, cap, hv, hc⟩ := h
  refine ⟨a, cap, hv, fun i hi => ?_⟩
  obtain ⟨b, o, ha, hl', hb, hd⟩ := hc i hi
  exact ⟨b, o, ha, Nat.le_trans hl hl', hb, NetFrom.mono hl _ _ _ hd⟩
theorem NetFrom.at {lo : Nat} {w : World} : ∀ (n : Stil.Net) (b o : Nat), NetFrom lo w b o n → NetAt w b o n := by
  intro n
  induction n using Stil.net_ind with
  | h k e kids ih =>
    intro b o h
    rw [NetFrom_eq] at h
    rw [NetAt_eq]
    obtain ⟨h1, h2, ⟨av, h3, h4⟩, a, cap, h5, h6⟩ := h
    refine ⟨h1, h2, ⟨av, h3, h4.at⟩, a, cap, h5, fun i hi => ?_⟩
    obtain ⟨b', o', ha, hlo, hl', hn⟩ := h6 i hi
    exact ⟨b', o', ha, hl', ih _ (List.getElem_mem hi) b' _ hn⟩
theorem NetsFrom.at {lo : Nat} {w : World} {v : Value} {ns : List Stil.Net} (h : NetsFrom lo w v ns) : NetsAt w v ns := by
  obtain ⟨a, cap, hv, hc⟩ := h
  refine ⟨a, cap, hv, fun i hi => ?_⟩
  obtain ⟨b, o, ha, hl', hb, hd⟩ := hc i hi
  exact ⟨b, o, ha, hb, NetFrom.at _ _ _ hd⟩
def ElemFrom (lo : Nat) (w : World) (b o : Nat) (e : Stil.Elem) : Prop := w.cell? ⟨b, o, none⟩ = some (.int .i64 e.op) ∧ ∃ av, w.cell? ⟨b, o + 1, none⟩ = some av ∧ DevsFrom lo w av e.args
def ElemsFrom (lo : Nat) (w : World) (v : Value) (es : List Stil.Elem) : Prop := ∃ a cap, v = .slice a es.length cap ∧ ∀ i (h : i < es.length), ∃ b o, a = some ⟨b, o, none⟩ ∧ lo ≤ b ∧ b < w.heap.size ∧ ElemFrom lo w b (o + i * 2) es[i]
theorem ElemFrom.keep {lo : Nat} {w w' : World} {b o : Nat} {e : Stil.Elem} (h : ElemFrom lo w b o e) (hk : KeepsUp lo w w') (hl : lo ≤ b) (hb : b < w.heap.size) : ElemFrom lo w' b o e := by
  obtain ⟨h1, av, h2, h3⟩ := h
  exact ⟨by rw [hk.2 _ _ hl hb]; exact h1, av, by rw [hk.2 _ _ hl hb]; exact h2, h3.keep hk⟩
theorem ElemsFrom.keep {lo : Nat} {w w' : World} {v : Value} {es : List Stil.Elem} (h : ElemsFrom lo w v es) (hk : KeepsUp lo w w') : ElemsFrom lo w' v es := by
  obtain ⟨a, cap, hv, hc⟩ := h
  refine ⟨a, cap, hv, fun i hi => ?_⟩
  obtain ⟨b, o, ha, hl, hb, hd⟩ := hc i hi
  exact ⟨b, o, ha, hl, Nat.lt_of_lt_of_le hb hk.1, hd.keep hk hl hb⟩
theorem ElemsFrom.mono {lo hi : Nat} {w : World} {v : Value} {es : List Stil.Elem} (h : ElemsFrom hi w v es) (hl : lo ≤ hi) : ElemsFrom lo w v es := by
  obtain ⟨a, cap, hv, hc⟩ := h
  refine ⟨a, cap, hv, fun i hi => ?_⟩
  obtain ⟨b, o, ha, hl', hb, h1, av, h2, h3⟩ := hc i hi
  exact ⟨b, o, ha, Nat.le_trans hl hl', hb, h1, av, h2, h3.mono hl⟩
theorem ElemsFrom.at {lo : Nat} {w : World} {v : Value} {es : List Stil.Elem} (h : ElemsFrom lo w v es) : ElemsAt w v es := by
  obtain ⟨a, cap, hv, hc⟩ := h
  refine ⟨a, cap, hv, fun i hi => ?_⟩
  obtain ⟨b, o, ha, hl', hb, h1, av, h2, h3⟩ := hc i hi
  exact ⟨b, o, ha, hb, h1, av, h2, h3.at⟩
def ArmFrom (lo : Nat) (w : World) : Nat → Nat → Stil.Arm → Prop
  | b, o, ⟨n, coils, kids⟩ => NetFrom lo w b o n ∧ (∃ cv, w.cell? ⟨b, o + 4, none⟩ = some cv ∧ ElemsFrom lo w cv coils) ∧
      ∃ a cap, w.cell? ⟨b, o + 5, none⟩ = some (.slice a kids.length cap) ∧ ∀ i (h : i < kids.length), ∃ b' o', a = some ⟨b', o', none⟩ ∧ lo ≤ b' ∧ b' < w.heap.size ∧
        (have := List.sizeOf_lt_of_mem (List.getElem_mem h); ArmFrom lo w b' (o' + i * 6) kids[i])
theorem ArmFrom_eq (lo : Nat) (w : World) (b o : Nat) (n : Stil.Net) (coils : List Stil.Elem) (kids : List Stil.Arm) : ArmFrom lo w b o ⟨n, coils, kids⟩ = (NetFrom lo w b o n ∧ (∃ cv, w.cell? ⟨b, o + 4, none⟩ = some cv ∧ ElemsFrom lo w cv coils) ∧
      ∃ a cap, w.cell? ⟨b, o + 5, none⟩ = some (.slice a kids.length cap) ∧ ∀ i (h : i < kids.length), ∃ b' o', a = some ⟨b', o', none⟩ ∧ lo ≤ b' ∧ b' < w.heap.size ∧ ArmFrom lo w b' (o' + i * 6) kids[i]) := by rw [ArmFrom]
def ArmsFrom (lo : Nat) (w : World) (v : Value) (l : List Stil.Arm) : Prop := ∃ a cap, v = .slice a l.length cap ∧ ∀ i (h : i < l.length), ∃ b o, a = some ⟨b, o, none⟩ ∧ lo ≤ b ∧ b < w.heap.size ∧ ArmFrom lo w b (o + i * 6) l[i]
theorem ArmFrom_iff (lo : Nat) (w : World) (b o : Nat) (n : Stil.Arm) : ArmFrom lo w b o n ↔ (NetFrom lo w b o n.net ∧ (∃ cv, w.cell? ⟨b, o + 4, none⟩ = some cv ∧ ElemsFrom lo w cv n.coils) ∧ ∃ kv, w.cell? ⟨b, o + 5, none⟩ = some kv ∧ ArmsFrom lo w kv n.kids) := by
  obtain ⟨k, e, kids⟩ := n
  rw [ArmFrom_eq]
  constructor
  · rintro ⟨h1, h3, a, cap, h4, h5⟩; exact ⟨h1, h3, _, h4, a, cap, rfl, h5⟩
  · rintro ⟨h1, h3, _, h4, a, cap, rfl, h5⟩; exact ⟨h1, h3, a, cap, h4, h5⟩
theorem ArmFrom.keep {lo : Nat} {w w' : World} (hk : KeepsUp lo w w') : ∀ (n : Stil.Arm) (b o : Nat), ArmFrom lo w b o n → lo ≤ b → b < w.heap.size → ArmFrom lo w' b o n := by
  intro n
  induction n using Stil.arm_ind with
  | h n coils kids ih =>
    intro b o h hl hlt
    rw [ArmFrom_eq] at h ⊢
    obtain ⟨h1, ⟨cv, h3, h4⟩, a, cap, h5, h6⟩ := h
    refine ⟨NetFrom.keep hk _ _ _ h1 hl hlt, ⟨cv, ?_, h4.keep hk⟩, a, cap, ?_, fun i hi => ?_⟩
    · rw [hk.2 _ _ hl hlt]; exact h3
    · rw [hk.2 _ _ hl hlt]; exact h5
    · obtain ⟨b', o', ha, hlo, hl', hn⟩ := h6 i hi
      exact ⟨b', o', ha, hlo, Nat.lt_of_lt_of_le hl' hk.1, ih _ (List.getElem_mem hi) b' _ hn hlo hl'⟩
theorem ArmsFrom.keep {lo : Nat} {w w' : World} {v : Value} {ns : List Stil.Arm} (h : ArmsFrom lo w v ns) (hk : KeepsUp lo w w') : ArmsFrom lo w' v ns := by
  obtain ⟨a, cap, hv, hc⟩ := h
  refine ⟨a, cap, hv, fun i hi => ?_⟩
  obtain ⟨b, o, ha, hl, hb, hd⟩ := hc i hi
  exact ⟨b, o, ha, hl, Nat.lt_of_lt_of_le hb hk.1, ArmFrom.keep hk _ _ _ hd hl hb⟩
theorem ArmFrom.mono {lo hi : Nat} {w : World} (hl : lo ≤ hi) : ∀ (n : Stil.Arm) (b o : Nat), ArmFrom hi w b o n → ArmFrom lo w b o n := by
  intro n
  induction n using Stil.arm_ind with
  | h n coils kids ih =>
    intro b o h
    rw [ArmFrom_eq] at h ⊢
    obtain ⟨h1, ⟨cv, h3, h4⟩, a, cap, h5, h6⟩ := h
    refine ⟨NetFrom.mono hl _ _ _ h1, ⟨cv, h3, h4.mono hl⟩, a, cap, h5, fun i hi => ?_⟩
    obtain ⟨b', o', ha, hlo, hl', hn⟩ := h6 i hi
    exact ⟨b', o', ha, Nat.le_trans hl hlo, hl', ih _ (List.getElem_mem hi) b' _ hn⟩
theorem ArmsFrom.mono {lo hi : Nat} {w : World} {v : Value} {ns : List Stil.Arm} (h : ArmsFrom hi w v ns) (hl : lo ≤ hi) : ArmsFrom lo w v ns := by
  obtain ⟨a, cap, hv, hc⟩ := h
  refine ⟨a, cap, hv, fun i hi => ?_⟩
  obtain ⟨b, o, ha, hl', hb, hd⟩ := hc i hi
  exact ⟨b, o, ha, Nat.le_trans hl hl', hb, ArmFrom.mono hl _ _ _ hd⟩
theorem ArmFrom.at {lo : Nat} {w : World} : ∀ (n : Stil.Arm) (b o : Nat), ArmFrom lo w b o n → ArmAt w b o n := by
  intro n
  induction n using Stil.arm_ind with
  | h n coils kids ih =>
    intro b o h
    rw [ArmFrom_eq] at h
    rw [ArmAt_eq]
    obtain ⟨h1, ⟨cv, h3, h4⟩, a, cap, h5, h6⟩ := h
    refine ⟨NetFrom.at _ _ _ h1, ⟨cv, h3, h4.at⟩, a, cap, h5, fun i hi => ?_⟩
    obtain ⟨b', o', ha, hlo, hl', hn⟩ := h6 i hi
    exact ⟨b', o', ha, hl', ih _ (List.getElem_mem hi) b' _ hn⟩
theorem ArmsFrom.at {lo : Nat} {w : World} {v : Value} {ns : List Stil.Arm} (h : ArmsFrom lo w v ns) : ArmsAt w v ns := by
  obtain ⟨a, cap, hv, hc⟩ := h
  refine ⟨a, cap, hv, fun i hi => ?_⟩
  obtain ⟨b, o, ha, hl', hb, hd⟩ := hc i hi
  exact ⟨b, o, ha, hb, ArmFrom.at _ _ _ hd⟩
end Go.Proofs.YthhfnncehfkbfaaDoor
/- Ladders in memory of their own: what a store into their first row leaves. -/
namespace Go.Proofs.YthhfnncehfkbfaaDoor
open Go.RowKit Go.Sort Go.BigFrame
theorem ElemFrom.set {lo : Nat} {w : World} {b o q : Nat} {e : Stil.Elem} (h : ElemFrom lo w b o e) (hb : b < lo) (hq : q < o ∨ o + 2 ≤ q) (v : Value) : ElemFrom lo (w.setCell ⟨b, q, none⟩ v) b o e := by
  obtain ⟨h1, av, h2, h3⟩ := h
  exact ⟨(cellSetOff (by omega)).trans h1, av, (cellSetOff (by omega)).trans h2, h3.keep ((KeepsUp.refl _ _).set hb _)⟩
theorem NetFrom.set {lo : Nat} {w : World} {b o q : Nat} {n : Stil.Net} (h : NetFrom lo w b o n) (hb : b < lo) (hq : q < o ∨ o + 4 ≤ q) (v : Value) : NetFrom lo (w.setCell ⟨b, q, none⟩ v) b o n := by
  obtain ⟨h1, h2, ⟨av, h3, h4⟩, kv, h5, h6⟩ := (NetFrom_iff _ _ _ _ _).1 h
  have hk : KeepsUp lo w (w.setCell ⟨b, q, none⟩ v) := (KeepsUp.refl _ _).set hb _
  exact (NetFrom_iff _ _ _ _ _).2 ⟨(cellSetOff (by omega)).trans h1, (cellSetOff (by omega)).trans h2, ⟨av, (cellSetOff (by omega)).trans h3, h4.keep hk⟩, kv, (cellSetOff (by omega)).trans h5, h6.keep hk⟩
theorem ArmFrom.set {lo : Nat} {w : World} {b o q : Nat} {n : Stil.Arm} (h : ArmFrom lo w b o n) (hb : b < lo) (hq : q < o ∨ o + 6 ≤ q) (v : Value) : ArmFrom lo (w.setCell ⟨b, q, none⟩ v) b o n := by
  obtain ⟨h1, ⟨cv, h3, h4⟩, kv, h5, h6⟩ := (ArmFrom_iff _ _ _ _ _).1 h
  have hk : KeepsUp lo w (w.setCell ⟨b, q, none⟩ v) := (KeepsUp.refl _ _).set hb _
  exact (ArmFrom_iff _ _ _ _ _).2 ⟨h1.set hb (by omega) v, ⟨cv, (cellSetOff (by omega)).trans h3, h4.keep hk⟩, kv, (cellSetOff (by omega)).trans h5, h6.keep hk⟩
theorem set_cell_has {W : World} {b o q : Nat} {v u : Value} (h : W.cell? ⟨b, o, none⟩ = some u) : ∃ u', (W.setCell ⟨b, q, none⟩ v).cell? ⟨b, o, none⟩ = some u' := by
  by_cases e : o = q
  · subst e; exact ⟨_, cellSetAt h⟩
  · exact ⟨_, (cellSetOff e).trans h⟩
theorem elem_stored {lo : Nat} {w : World} {b o : Nat} {e : Stil.Elem} {av u0 u1 : Value} (hb : b < lo) (q0 : w.cell? ⟨b, o, none⟩ = some u0) (q1 : w.cell? ⟨b, o + 1, none⟩ = some u1) (hd : DevsFrom lo w av e.args) :
    ElemFrom lo ((w.setCell ⟨b, o, none⟩ (.int .i64 e.op)).setCell ⟨b, o + 1, none⟩ av) b o e := by
  refine ⟨(cellSetOff (by omega)).trans (cellSetAt q0), av, cellSetAt ((cellSetOff (by omega)).trans q1), hd.keep (((KeepsUp.refl _ _).set hb _).set hb _)⟩
theorem net_stored {lo : Nat} {w : World} {b o : Nat} {n : Stil.Net} {av kv u0 u1 u2 u3 : Value} (hb : b < lo) (q0 : w.cell? ⟨b, o, none⟩ = some u0) (q1 : w.cell? ⟨b, o + 1, none⟩ = some u1) (q2 : w.cell? ⟨b, o + 2, none⟩ = some u2) (q3 : w.cell? ⟨b, o + 3, none⟩ = some u3)
    (hd : DevsFrom lo w av n.one.args) (hn : NetsFrom lo w kv n.kids) :
    NetFrom lo ((((w.setCell ⟨b, o, none⟩ (.int .i64 n.kind)).setCell ⟨b, o + 1, none⟩ (.int .i64 n.one.op)).setCell ⟨b, o + 2, none⟩ av).setCell ⟨b, o + 3, none⟩ kv) b o n := by
  have hk := ((((KeepsUp.refl lo w).set (o := o) hb (.int .i64 n.kind)).set (o := o + 1) hb (.int .i64 n.one.op)).set (o := o + 2) hb av).set (o := o + 3) hb kv
  refine (NetFrom_iff _ _ _ _ _).2 ⟨?_, ?_, ⟨av, ?_, hd.keep hk⟩, kv, ?_, hn.keep hk⟩
  · exact (cellSetOff (by omega)).trans ((cellSetOff (by omega)).trans ((cellSetOff (by omega)).trans (cellSetAt q0)))
  · exact (cellSetOff (by omega)).trans ((cellSetOff (by omega)).trans (cellSetAt ((cellSetOff (by omega)).trans q1)))
  · exact (cellSetOff (by omega)).trans (cellSetAt ((cellSetOff (by omega)).trans ((cellSetOff (by omega)).trans q2)))
  · exact cellSetAt ((cellSetOff (by omega)).trans ((cellSetOff (by omega)).trans ((cellSetOff (by omega)).trans q3)))
theorem arm_stored {lo : Nat} {w : World} {b o : Nat} {n : Stil.Arm} {av nv cv kv u0 u1 u2 u3 u4 u5 : Value} (hb : b < lo) (q0 : w.cell? ⟨b, o, none⟩ = some u0) (q1 : w.cell? ⟨b, o + 1, none⟩ = some u1) (q2 : w.cell? ⟨b, o + 2, none⟩ = some u2) (q3 : w.cell? ⟨b, o + 3, none⟩ = some u3) (q4 : w.cell? ⟨b, o + 4, none⟩ = some u4) (q5 : w.cell? ⟨b, o + 5, none⟩ = some u5)
    (hd : DevsFrom lo w av n.net.one.args) (hn : NetsFrom lo w nv n.net.kids) (hc : ElemsFrom lo w cv n.coils) (ha : ArmsFrom lo w kv n.kids) :
    ArmFrom lo ((((((w.setCell ⟨b, o, none⟩ (.int .i64 n.net.kind)).setCell ⟨b, o + 1, none⟩ (.int .i64 n.net.one.op)).setCell ⟨b, o + 2, none⟩ av).setCell ⟨b, o + 3, none⟩ nv).setCell ⟨b, o + 4, none⟩ cv).setCell ⟨b, o + 5, none⟩ kv) b o n := by
  have hk := ((((((KeepsUp.refl lo w).set (o := o) hb (.int .i64 n.net.kind)).set (o := o + 1) hb (.int .i64 n.net.one.op)).set (o := o + 2) hb av).set (o := o + 3) hb nv).set (o := o + 4) hb cv).set (o := o + 5) hb kv
  refine (ArmFrom_iff _ _ _ _ _).2 ⟨((net_stored hb q0 q1 q2 q3 hd hn).set hb (by omega) _).set hb (by omega) _, ⟨cv, ?_, hc.keep hk⟩, kv, ?_, ha.keep hk⟩
  · exact (cellSetOff (by omega)).trans (cellSetAt ((cellSetOff (by omega)).trans ((cellSetOff (by omega)).trans ((cellSetOff (by omega)).trans ((cellSetOff (by omega)).trans q4)))))
  · exact cellSetAt ((cellSetOff (by omega)).trans ((cellSetOff (by omega)).trans ((cellSetOff (by omega)).trans ((cellSetOff (by omega)).trans ((cellSetOff (by omega)).trans q5)))))
theorem NetFrom.keepTop {lo : Nat} {w w' : World} {b o : Nat} {n : Stil.Net} (h : NetFrom lo w b o n) (hk : KeepsUp lo w w') (ht : ∀ q, w'.cell? ⟨b, q, none⟩ = w.cell? ⟨b, q, none⟩) : NetFrom lo w' b o n := by
  obtain ⟨h1, h2, ⟨av, h3, h4⟩, kv, h5, h6⟩ := (NetFrom_iff _ _ _ _ _).1 h
  exact (NetFrom_iff _ _ _ _ _).2 ⟨(ht _).trans h1, (ht _).trans h2, ⟨av, (ht _).trans h3, h4.keep hk⟩, kv, (ht _).trans h5, h6.keep hk⟩
theorem ElemFrom.keepTop {lo : Nat} {w w' : World} {b o : Nat} {n : Stil.Elem} (h : ElemFrom lo w b o n) (hk : KeepsUp lo w w') (ht : ∀ q, w'.cell? ⟨b, q, none⟩ = w.cell? ⟨b, q, none⟩) : ElemFrom lo w' b o n := by
  obtain ⟨h1, av, h3, h4⟩ := h
  exact ⟨(ht _).trans h1, av, (ht _).trans h3, h4.keep hk⟩
theorem ArmFrom.keepTop {lo : Nat} {w w' : World} {b o : Nat} {n : Stil.Arm} (h : ArmFrom lo w b o n) (hk : KeepsUp lo w w') (ht : ∀ q, w'.cell? ⟨b, q, none⟩ = w.cell? ⟨b, q, none⟩) : ArmFrom lo w' b o n := by
  obtain ⟨h1, ⟨av, h3, h4⟩, kv, h5, h6⟩ := (ArmFrom_iff _ _ _ _ _).1 h
  exact (ArmFrom_iff _ _ _ _ _).2 ⟨h1.keepTop hk ht, ⟨av, (ht _).trans h3, h4.keep hk⟩, kv, (ht _).trans h5, h6.keep hk⟩
theorem NetFrom.upTo {lo : Nat} {w : World} {b o : Nat} {n : Stil.Net} (h : NetFrom (lo + 1) w b o n) : NetFrom lo w b o n := NetFrom.mono (by omega) _ _ _ h
theorem ElemFrom.upTo {lo : Nat} {w : World} {b o : Nat} {n : Stil.Elem} (h : ElemFrom (lo + 1) w b o n) : ElemFrom lo w b o n := by
  obtain ⟨h1, av, h3, h4⟩ := h
  exact ⟨h1, av, h3, h4.mono (by omega)⟩
theorem ArmFrom.upTo {lo : Nat} {w : World} {b o : Nat} {n : Stil.Arm} (h : ArmFrom (lo + 1) w b o n) : ArmFrom lo w b o n := ArmFrom.mono (by omega) _ _ _ h
end Go.Proofs.YthhfnncehfkbfaaDoor
/- How ladders lie in memory while they are walked by a function that is ranged over. -/
namespace Go.Proofs.YthhfnncehfkbfaaDoor
open Go.RowKit Go.Sort Go.BigFrame
/-- All blocks of cells but those of C are kept. -/
structure KeepC (C : Nat → Prop) (W W' : World) : Prop where
  size : W.heap.size ≤ W'.heap.size
  same : ∀ (k : Nat) (o : Obj), ¬ C k → W.heap[k]? = some o → o.isCells = true → W'.heap[k]? = some o
theorem KeepC.refl (C : Nat → Prop) (W : World) : KeepC C W W := ⟨Nat.le_refl _, fun _ _ _ h _ => h⟩
theorem KeepC.trans {C : Nat → Prop} {X Y Z : World} (h : KeepC C X Y) (k : KeepC C Y Z) : KeepC C X Z := ⟨Nat.le_trans h.size k.size, fun i o hc hi ho => k.same i o hc (h.same i o hc hi ho) ho⟩
theorem KeepC.of_below {C : Nat → Prop} {W W' : World} (h : Below W.heap.size W W') : KeepC C W W' :=
  ⟨h.size, fun k _ _ hk _ => (h.block k (Array.getElem?_eq_some_iff.1 hk).1).trans hk⟩
theorem KeepC.alloc {C : Nat → Prop} {W W' : World} (h : KeepC C W W') (o : Obj) : KeepC C W (W'.alloc o) := h.trans (.of_below ((Below.refl _ _).alloc (Nat.le_refl _) o))
theorem KeepC.drewN {C : Nat → Prop} {W W' : World} (h : KeepC C W W') (n : Nat) : KeepC C W (W'.drewN n) := ⟨h.size, h.same⟩
theorem KeepC.drew {C : Nat → Prop} {W W' : World} (h : KeepC C W W') : KeepC C W W'.drew := ⟨h.size, h.same⟩
theorem KeepC.call {C : Nat → Prop} {W X Y : World} (h : KeepC C W X) (hb : Below X.heap.size X Y) : KeepC C W Y := h.trans (.of_below hb)
theorem KeepC.set {C : Nat → Prop} {W W' : World} {b o : Nat} (h : KeepC C W W') (hb : C b) (v : Value) : KeepC C W (W'.setCell ⟨b, o, none⟩ v) :=
  h.trans ⟨by simp [World.setCell], fun k _ hc hk _ => (Below.heap_setCell W' ⟨b, o, none⟩ v k (fun e => hc (by rw [e]; exact hb))).trans hk⟩
theorem KeepC.putObj {C : Nat → Prop} (W : World) {l : Nat} {o : Obj} (o' : Obj) (h : W.heap[l]? = some o) (ho : o.isCells = false) : KeepC C W (W.putObj l o') :=
  ⟨by simp [World.putObj], fun k p _ hk hp => by
    by_cases e : k = l
    · subst e
      rw [h] at hk
      cases hk
      rw [ho] at hp
      cases hp
    · rw [World.putObj_heap_other e]; exact hk⟩
theorem KeepC.cell {C : Nat → Prop} {W W' : World} (h : KeepC C W W') {b o : Nat} {v : Value} (hb : ¬ C b) (hc : W.cell? ⟨b, o, none⟩ = some v) : W'.cell? ⟨b, o, none⟩ = some v := by
  obtain ⟨p, hp, hq⟩ := cells_of_cell hc
  exact (World.cell?_of_block (w := W) ((h.same b p hb hp hq).trans hp.symm)).trans hc
theorem lt_of_cell3 {W : World} {b o : Nat} {v : Value} (h : W.cell? ⟨b, o, none⟩ = some v) : b < W.heap.size := by
  obtain ⟨p, hp, _⟩ := cells_of_cell h
  exact (Array.getElem?_eq_some_iff.1 hp).1
/-- What a round that goes on keeps. -/
def Kept (n₀ : Nat) (C : Nat → Prop) (W W' : World) : Prop := Below n₀ W W' ∧ KeepC C W W'
theorem Kept.t {n₀ : Nat} {C : Nat → Prop} {X Y Z : World} (h : Kept n₀ C X Y) (k : Kept n₀ C Y Z) : Kept n₀ C X Z := ⟨h.1.trans k.1, h.2.trans k.2⟩
theorem Kept.b {n₀ : Nat} {C : Nat → Prop} {w : World} (hn : n₀ ≤ w.heap.size) (W : World) (l : Nat) (o o' : Obj) (hl : w.heap.size ≤ l) (h : W.heap[l]? = some o) (hc : o.isCells = false) (hw : o.isWalk = false) : Kept n₀ C W (W.putObj l o') :=
  ⟨belowK_b hn W l o o' hl h hc hw, KeepC.putObj W o' h hc⟩
theorem Kept.refl (n₀ : Nat) (C : Nat → Prop) (W : World) : Kept n₀ C W W := ⟨Below.refl _ _, KeepC.refl _ _⟩
theorem Kept.of_below {n₀ : Nat} {C : Nat → Prop} {W W' : World} (hn : n₀ ≤ W.heap.size) (h : Below W.heap.size W W') : Kept n₀ C W W' := ⟨h.mono hn, .of_below h⟩
/-- A net that was handed out: its lists lie in w. -/
structure NetV (w : World) (P : Stil.Net → Prop) where
  net : Stil.Net
  av : Value
  kv : Value
  hav : DevsAt w av net.one.args
  hkv : NetsAt w kv net.kids
  mem : P net
/-- An arm that was handed out: its lists lie in w. -/
structure ArmV (w : World) (P : Stil.Arm → Prop) where
  arm : Stil.Arm
  av : Value
  nv : Value
  cv : Value
  kv : Value
  hav : DevsAt w av arm.net.one.args
  hnv : NetsAt w nv arm.net.kids
  hcv : ElemsAt w cv arm.coils
  hkv : ArmsAt w kv arm.kids
  mem : P arm
/-- A slice of nets in W, not in C, whose lists lie in w. -/
def NetsSeen (w : World) (C : Nat → Prop) (W : World) (v : Value) (l : List Stil.Net) : Prop := ∃ a cap, v = .slice a l.length cap ∧ ∀ i (h : i < l.length), ∃ b o, a = some ⟨b, o, none⟩ ∧ ¬ C b ∧
  ∃ av kv, W.cell? ⟨b, o + i * 4, none⟩ = some (.int .i64 l[i].kind) ∧ W.cell? ⟨b, o + i * 4 + 1, none⟩ = some (.int .i64 l[i].one.op) ∧ W.cell? ⟨b, o + i * 4 + 2, none⟩ = some av ∧ W.cell? ⟨b, o + i * 4 + 3, none⟩ = some kv ∧ DevsAt w av l[i].one.args ∧ NetsAt w kv l[i].kids
theorem NetsSeen.keep {w : World} {C : Nat → Prop} {W W' : World} {v : Value} {l : List Stil.Net} (h : NetsSeen w C W v l) (hk : KeepC C W W') : NetsSeen w C W' v l := by
  obtain ⟨a, cap, hv, hc⟩ := h
  refine ⟨a, cap, hv, fun i hi => ?_⟩
  obtain ⟨b, o, ha, hb, av, kv, x0, x1, x2, x3, h1, h2⟩ := hc i hi
  exact ⟨b, o, ha, hb, av, kv, hk.cell hb x0, hk.cell hb x1, hk.cell hb x2, hk.cell hb x3, h1, h2⟩
theorem NetsSeen.of_at {w : World} {C : Nat → Prop} {W : World} {v : Value} {l : List Stil.Net} (h : NetsAt w v l) (hb : Below w.heap.size w W) (hC : ∀ k, C k → w.heap.size ≤ k) : NetsSeen w C W v l := by
  obtain ⟨a, cap, hv, hc⟩ := h
  refine ⟨a, cap, hv, fun i hi => ?_⟩
  obtain ⟨b, o, ha, hlt, hn⟩ := hc i hi
  obtain ⟨x0, x1, av, kv, x2, x3, h1, h2⟩ := hn.open
  exact ⟨b, o, ha, fun h => by have := hC b h; omega, av, kv, (hb.cell (p := ⟨b, _, none⟩) hlt).trans x0, (hb.cell (p := ⟨b, _, none⟩) hlt).trans x1, (hb.cell (p := ⟨b, _, none⟩) hlt).trans x2, (hb.cell (p := ⟨b, _, none⟩) hlt).trans x3, h1, h2⟩
/-- A slice of arms in W, not in C, whose lists lie in w. -/
def ArmsSeen (w : World) (C : Nat → Prop) (W : World) (v : Value) (l : List Stil.Arm) : Prop := ∃ a cap, v = .slice a l.length cap ∧ ∀ i (h : i < l.length), ∃ b o, a = some ⟨b, o, none⟩ ∧ ¬ C b ∧
  ∃ av nv cv kv, W.cell? ⟨b, o + i * 6, none⟩ = some (.int .i64 l[i].net.kind) ∧ W.cell? ⟨b, o + i * 6 + 1, none⟩ = some (.int .i64 l[i].net.one.op) ∧ W.cell? ⟨b, o + i * 6 + 2, none⟩ = some av ∧ W.cell? ⟨b, o + i * 6 + 3, none⟩ = some nv ∧
    W.cell? ⟨b, o + i * 6 + 4, none⟩ = some cv ∧ W.cell? ⟨b, o + i * 6 + 5, none⟩ = some kv ∧ DevsAt w av l[i].net.one.args ∧ NetsAt w nv l[i].net.kids ∧ ElemsAt w cv l[i].coils ∧ ArmsAt w kv l[i].kids
theorem ArmsSeen.keep {w : World} {C : Nat → Prop} {W W' : World} {v : Value} {l : List Stil.Arm} (h : ArmsSeen w C W v l) (hk : KeepC C W W') : ArmsSeen w C W' v l := by
  obtain ⟨a, cap, hv, hc⟩ := h
  refine ⟨a, cap, hv, fun i hi => ?_⟩
  obtain ⟨b, o, ha, hb, av, nv, cv, kv, x0, x1, x2, x3, x4, x5, h1⟩ := hc i hi
  exact ⟨b, o, ha, hb, av, nv, cv, kv, hk.cell hb x0, hk.cell hb x1, hk.cell hb x2, hk.cell hb x3, hk.cell hb x4, hk.cell hb x5, h1⟩
theorem ArmsSeen.of_at {w : World} {C : Nat → Prop} {W : World} {v : Value} {l : List Stil.Arm} (h : ArmsAt w v l) (hb : Below w.heap.size w W) (hC : ∀ k, C k → w.heap.size ≤ k) : ArmsSeen w C W v l := by
  obtain ⟨a, cap, hv, hc⟩ := h
  refine ⟨a, cap, hv, fun i hi => ?_⟩
  obtain ⟨b, o, ha, hlt, hn⟩ := hc i hi
  obtain ⟨hna, cv, kv, x4, x5, h3, h4⟩ := hn.open
  obtain ⟨x0, x1, av, nv, x2, x3, h1, h2⟩ := hna.open
  exact ⟨b, o, ha, fun h => by have := hC b h; omega, av, nv, cv, kv, (hb.cell (p := ⟨b, _, none⟩) hlt).trans x0, (hb.cell (p := ⟨b, _, none⟩) hlt).trans x1, (hb.cell (p := ⟨b, _, none⟩) hlt).trans x2, (hb.cell (p := ⟨b, _, none⟩) hlt).trans x3, (hb.cell (p := ⟨b, _, none⟩) hlt).trans x4, (hb.cell (p := ⟨b, _, none⟩) hlt).trans x5, h1, h2, h3, h4⟩
theorem kf_set {B : Nat} {W X : World} (h : KeepsFrom B W X) (p : Addr) (v : Value) : KeepsFrom B W (X.setCell p v) := h.trans ((KeepsOthers.setCell X p v).from B)
theorem kf_call {B : Nat} {W X Y : World} (h : KeepsFrom B W X) (hb : Below X.heap.size X Y) : KeepsFrom B W Y := h.trans ⟨hb.size, fun k _ _ hk _ => (hb.block k (Array.getElem?_eq_some_iff.1 hk).1).trans hk⟩
theorem kf_drew {B : Nat} {W X : World} (h : KeepsFrom B W X) : KeepsFrom B W X.drew := h.trans ((KeepsOthers.drew X).from B)
theorem kf_alloc {B : Nat} {W X : World} (h : KeepsFrom B W X) (o : Obj) : KeepsFrom B W (X.alloc o) := h.trans ((KeepsOthers.alloc X o).from B)
theorem kp_set {n₀ : Nat} {C : Nat → Prop} {W X : World} {b o : Nat} (h : Kept n₀ C W X) (hb : n₀ ≤ b) (hc : C b) (v : Value) : Kept n₀ C W (X.setCell ⟨b, o, none⟩ v) := ⟨h.1.setCell (p := ⟨b, o, none⟩) hb v, h.2.set hc v⟩
theorem kp_call {n₀ : Nat} {C : Nat → Prop} {W X Y : World} (h : Kept n₀ C W X) (hn : n₀ ≤ W.heap.size) (hb : Below X.heap.size X Y) : Kept n₀ C W Y := h.t (Kept.of_below (Nat.le_trans hn h.2.size) hb)
theorem kp_drew {n₀ : Nat} {C : Nat → Prop} {W X : World} (h : Kept n₀ C W X) : Kept n₀ C W X.drew := ⟨h.1.drew, h.2.drew⟩
theorem cell_alloc_keep {W : World} {b o : Nat} {v : Value} (ob : Obj) (h : W.cell? ⟨b, o, none⟩ = some v) : (W.alloc ob).cell? ⟨b, o, none⟩ = some v := ((below_alloc W ob).cell (p := ⟨b, o, none⟩) (lt_of_cell3 h)).trans h
theorem frozen_alloc_keep {W : World} {b o : Nat} {v : Value} (ob : Obj) (h : W.cell? ⟨b, o, none⟩ = some v) (hf : W.frozen? ⟨b, o, none⟩ = false) : (W.alloc ob).frozen? ⟨b, o, none⟩ = false := ((below_alloc W ob).frozen (p := ⟨b, o, none⟩) (lt_of_cell3 h)).trans hf
theorem ownFrom_keepC {β : Type} (B : Nat) (C : Nat → Prop) (W : World) : OwnFrom B (fun (_ : β) X => KeepC C W X) := fun _ X Y row hs hg hr =>
  ⟨Nat.le_trans hs.size hg.size, fun k o hc hk ho => by
    have h1 := hs.same k o hc hk ho
    refine (hg.block k (Array.getElem?_eq_some_iff.1 h1).1 (fun e => ?_)).trans h1
    obtain ⟨_, p, hp, hq⟩ := hr k e.symm
    rw [h1] at hp
    cases hp
    rw [ho] at hq
    cases hq⟩
theorem share {T G : Prop} (hf : T → G) (ht : T) : G := hf ht
theorem room_of_none {F : Fence} (hd : F.depth = none) (k : Nat) : F.room k := fun d h => by rw [hd] at h; cases h
theorem RoundIn.anyDepth {F : Fence} (hd : F.depth = none) {m m' : Nat} {P : Program} {l : Nat} {f : FuncId} {tmps : Array Value} {assign body : Code} {w : World} {R : Ending → World → Prop}
    (h : RoundIn F m P l f tmps assign body w R) : RoundIn F m' P l f tmps assign body w R := ⟨h.1, fun c cs _ => h.2 c cs (room_of_none hd _)⟩
theorem YieldAt.anyDepth {F : Fence} (hd : F.depth = none) {m : Nat} (m' : Nat) {P : Program} {l : Nat} {args : Array Value} {W : World} {R : Ending → World → Prop} (h : YieldAt F m P l args W R) : YieldAt F m' P l args W R := by
  obtain ⟨fn, tmps, assign, body, hy, hR⟩ := h
  exact ⟨fn, tmps, assign, body, hy, RoundIn.anyDepth hd hR⟩
end Go.Proofs.YthhfnncehfkbfaaDoor
