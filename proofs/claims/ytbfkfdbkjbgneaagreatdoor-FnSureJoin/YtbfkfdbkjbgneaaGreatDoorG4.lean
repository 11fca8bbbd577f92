/- T4, T5: texts put together. -/
import Derived.Test.YtbfkfdbkjbgneaaGreatDoorGT
import Derived.Maps.AppendAt
import Derived.Test.YtbfkfdbkjbgneaaGreatDoorGM
import Derived.Test.YtbfkfdbkjbgneaaGreatDoorD9
/- Ladders in memory of their own: all their blocks of one kind. -/
namespace Go.Proofs.YtbfkfdbkjbgneaaGreatDoor
open Go.RowKit Go.Sort Go.BigFrame
/-- Whatever lies in blocks of P in w lies so in w'. -/
def KeepsIn (P : Nat → Prop) (w w' : World) : Prop := w.heap.size ≤ w'.heap.size ∧ ∀ b o, P b → b < w.heap.size → w'.cell? ⟨b, o, none⟩ = w.cell? ⟨b, o, none⟩
theorem KeepsIn.refl (P : Nat → Prop) (w : World) : KeepsIn P w w := ⟨Nat.le_refl _, fun _ _ _ _ => rfl⟩
theorem KeepsIn.trans {P : Nat → Prop} {a b c : World} (h1 : KeepsIn P a b) (h2 : KeepsIn P b c) : KeepsIn P a c :=
  ⟨Nat.le_trans h1.1 h2.1, fun x o hl hx => (h2.2 x o hl (Nat.lt_of_lt_of_le hx h1.1)).trans (h1.2 x o hl hx)⟩
theorem KeepsIn.of_below {P : Nat → Prop} {w w' : World} (h : Below w.heap.size w w') : KeepsIn P w w' := ⟨h.size, fun b o _ hb => h.cell (p := ⟨b, o, none⟩) hb⟩
theorem KeepsIn.of_grown {P : Nat → Prop} {w w' : World} {r : Option Nat} (h : w.grownBy w' r) (hr : ∀ b, P b → r ≠ some b) : KeepsIn P w w' := ⟨h.size, fun b o hb hl => by
  unfold World.cell?
  rw [h.block b hl (fun e => hr b hb e.symm)]⟩
theorem KeepsIn.set {P : Nat → Prop} {w : World} {b o : Nat} (hb : ¬ P b) (v : Value) : KeepsIn P w (w.setCell ⟨b, o, none⟩ v) := ⟨((Below.refl 0 w).setCell (Nat.zero_le _) v).size, fun x p hx _ => by
  have hne : ¬ x = b := fun e => hb (e ▸ hx)
  have hne2 : ¬ b = x := fun e => hb (e ▸ hx)
  simp [go_sem]⟩
/-- How a slice's room is told. -/
def CapOk (a : Option Addr) (n cap : Nat) : Prop := n ≤ cap ∧ (a = none → cap = 0)
def DevsIn (P : Nat → Prop) (w : World) (v : Value) (ds : List Stil.Dev) : Prop := ∃ a cap, v = .slice a ds.length cap ∧ CapOk a ds.length cap ∧ ∀ i (h : i < ds.length), ∃ b o, a = some ⟨b, o, none⟩ ∧ P b ∧ b < w.heap.size ∧ DevAt w b (o + i * 3) ds[i]
theorem DevAt.keepIn {P : Nat → Prop} {w w' : World} {b o : Nat} {d : Stil.Dev} (h : DevAt w b o d) (hk : KeepsIn P w w') (hl : P b) (hb : b < w.heap.size) : DevAt w' b o d := by
  obtain ⟨h1, h2, h3⟩ := h
  exact ⟨by rw [hk.2 _ _ hl hb]; exact h1, by rw [hk.2 _ _ hl hb]; exact h2, by rw [hk.2 _ _ hl hb]; exact h3⟩
theorem DevsIn.keep {P : Nat → Prop} {w w' : World} {v : Value} {ds : List Stil.Dev} (h : DevsIn P w v ds) (hk : KeepsIn P w w') : DevsIn P w' v ds := by
  obtain ⟨a, cap, hv, hq, hc⟩ := h
  refine ⟨a, cap, hv, hq, fun i hi => ?_⟩
  obtain ⟨b, o, ha, hl, hb, hd⟩ := hc i hi
  exact ⟨b, o, ha, hl, Nat.lt_of_lt_of_le hb hk.1, hd.keepIn hk hl hb⟩
theorem DevsIn.mono {P Q : Nat → Prop} {w : World} {v : Value} {ds : List Stil.Dev} (h : DevsIn Q w v ds) (hl : ∀ b, b < w.heap.size → Q b → P b) : DevsIn P w v ds := by
  obtain ⟨a, cap, hv, hq, hc⟩ := h
  refine ⟨a, cap, hv, hq, fun i hi => ?_⟩
  obtain ⟨b, o, ha, hl', hb, hd⟩ := hc i hi
  exact ⟨b, o, ha, hl _ hb hl', hb, hd⟩
theorem DevsIn.at {P : Nat → Prop} {w : World} {v : Value} {ds : List Stil.Dev} (h : DevsIn P w v ds) : DevsAt w v ds := by
  obtain ⟨a, cap, hv, hq, hc⟩ := h
  refine ⟨a, cap, hv, fun i hi => ?_⟩
  obtain ⟨b, o, ha, hl', hb, hd⟩ := hc i hi
  exact ⟨b, o, ha, hb, hd⟩
/-- The net lies at this place, and whatever it holds in blocks of P. -/
def NetIn (P : Nat → Prop) (w : World) : Nat → Nat → Stil.Net → Prop
  | b, o, ⟨k, e, kids⟩ => w.cell? ⟨b, o, none⟩ = some (.int .i64 k) ∧ w.cell? ⟨b, o + 1, none⟩ = some (.int .i64 e.op) ∧
      (∃ av, w.cell? ⟨b, o + 2, none⟩ = some av ∧ DevsIn P w av e.args) ∧
      ∃ a cap, w.cell? ⟨b, o + 3, none⟩ = some (.slice a kids.length cap) ∧ CapOk a kids.length cap ∧ ∀ i (h : i < kids.length), ∃ b' o', a = some ⟨b', o', none⟩ ∧ P b' ∧ b' < w.heap.size ∧
        (have := List.sizeOf_lt_of_mem (List.getElem_mem h); NetIn P w b' (o' + i * 4) kids[i])
theorem NetIn_eq (P : Nat → Prop) (w : World) (b o : Nat) (k : Int) (e : Stil.Elem) (kids : List Stil.Net) : NetIn P w b o ⟨k, e, kids⟩ = (w.cell? ⟨b, o, none⟩ = some (.int .i64 k) ∧ w.cell? ⟨b, o + 1, none⟩ = some (.int .i64 e.op) ∧
      (∃ av, w.cell? ⟨b, o + 2, none⟩ = some av ∧ DevsIn P w av e.args) ∧
      ∃ a cap, w.cell? ⟨b, o + 3, none⟩ = some (.slice a kids.length cap) ∧ CapOk a kids.length cap ∧ ∀ i (h : i < kids.length), ∃ b' o', a = some ⟨b', o', none⟩ ∧ P b' ∧ b' < w.heap.size ∧ NetIn P w b' (o' + i * 4) kids[i]) := by rw [NetIn]
def NetsIn (P : Nat → Prop) (w : World) (v : Value) (ns : List Stil.Net) : Prop := ∃ a cap, v = .slice a ns.length cap ∧ CapOk a ns.length cap ∧ ∀ i (h : i < ns.length), ∃ b o, a = some ⟨b, o, none⟩ ∧ P b ∧ b < w.heap.size ∧ NetIn P w b (o + i * 4) ns[i]
theorem NetIn_iff (P : Nat → Prop) (w : World) (b o : Nat) (n : Stil.Net) : NetIn P w b o n ↔ (w.cell? ⟨b, o, none⟩ = some (.int .i64 n.kind) ∧ w.cell? ⟨b, o + 1, none⟩ = some (.int .i64 n.one.op) ∧
      (∃ av, w.cell? ⟨b, o + 2, none⟩ = some av ∧ DevsIn P w av n.one.args) ∧ ∃ kv, w.cell? ⟨b, o + 3, none⟩ = some kv ∧ NetsIn P w kv n.kids) := by
  obtain ⟨k, e, kids⟩ := n
  rw [NetIn_eq]
  constructor
  · rintro ⟨h1, h2, h3, a, cap, h4, hq, h5⟩; exact ⟨h1, h2, h3, _, h4, a, cap, rfl, hq, h5⟩
  · rintro ⟨h1, h2, h3, _, h4, a, cap, rfl, hq, h5⟩; exact ⟨h1, h2, h3, a, cap, h4, hq, h5⟩
theorem NetIn.keep {P : Nat → Prop} {w w' : World} (hk : KeepsIn P w w') : ∀ (n : Stil.Net) (b o : Nat), NetIn P w b o n → P b → b < w.heap.size → NetIn P w' b o n := by
  intro n
  induction n using Stil.net_ind with
  | h k e kids ih =>
    intro b o h hl hlt
    rw [NetIn_eq] at h ⊢
    obtain ⟨h1, h2, ⟨av, h3, h4⟩, a, cap, h5, hq, h6⟩ := h
    refine ⟨?_, ?_, ⟨av, ?_, h4.keep hk⟩, a, cap, ?_, hq, fun i hi => ?_⟩
    · rw [hk.2 _ _ hl hlt]; exact h1
    · rw [hk.2 _ _ hl hlt]; exact h2
    · rw [hk.2 _ _ hl hlt]; exact h3
    · rw [hk.2 _ _ hl hlt]; exact h5
    · obtain ⟨b', o', ha, hlo, hl', hn⟩ := h6 i hi
      exact ⟨b', o', ha, hlo, Nat.lt_of_lt_of_le hl' hk.1, ih _ (List.getElem_mem hi) b' _ hn hlo hl'⟩
theorem NetsIn.keep {P : Nat → Prop} {w w' : World} {v : Value} {ns : List Stil.Net} (h : NetsIn P w v ns) (hk : KeepsIn P w w') : NetsIn P w' v ns := by
  obtain ⟨a, cap, hv, hq, hc⟩ := h
  refine ⟨a, cap, hv, hq, fun i hi => ?_⟩
  obtain ⟨b, o, ha, hl, hb, hd⟩ := hc i hi
  exact ⟨b, o, ha, hl, Nat.lt_of_lt_of_le hb hk.1, NetIn.keep hk _ _ _ hd hl hb⟩
theorem NetIn.mono {P Q : Nat → Prop} {w : World} (hl : ∀ b, b < w.heap.size → Q b → P b) : ∀ (n : Stil.Net) (b o : Nat), NetIn Q w b o n → NetIn P w b o n := by
  intro n
  induction n using Stil.net_ind with
  | h k e kids ih =>
    intro b o h
    rw [NetIn_eq] at h ⊢
    obtain ⟨h1, h2, ⟨av, h3, h4⟩, a, cap, h5, hq, h6⟩ := h
    refine ⟨h1, h2, ⟨av, h3, h4.mono hl⟩, a, cap, h5, hq, fun i hi => ?_⟩
    obtain ⟨b', o', ha, hlo, hl', hn⟩ := h6 i hi
    exact ⟨b', o', ha, hl _ hl' hlo, hl', ih _ (List.getElem_mem hi) b' _ hn⟩
theorem NetsIn.mono {P Q : Nat → Prop} {w : World} {v : Value} {ns : List Stil.Net} (h : NetsIn Q w v ns) (hl : ∀ b, b < w.heap.size → Q b → P b) : NetsIn P w v ns := by
  obtain ⟨a, cap, hv, hq, hc⟩ := h
  refine ⟨a, cap, hv, hq, fun i hi => ?_⟩
  obtain ⟨b, o, ha, hl', hb, hd⟩ := hc i hi
  exact ⟨b, o, ha, hl _ hb hl', hb, NetIn.mono hl _ _ _ hd⟩
theorem NetIn.at {P : Nat → Prop} {w : World} : ∀ (n : Stil.Net) (b o : Nat), NetIn P w b o n → NetAt w b o n := by
  intro n
  induction n using Stil.net_ind with
  | h k e kids ih =>
    intro b o h
    rw [NetIn_eq] at h
    rw [NetAt_eq]
    obtain ⟨h1, h2, ⟨av, h3, h4⟩, a, cap, h5, hq, h6⟩ := h
    refine ⟨h1, h2, ⟨av, h3, h4.at⟩, a, cap, h5, fun i hi => ?_⟩
    obtain ⟨b', o', ha, hlo, hl', hn⟩ := h6 i hi
    exact ⟨b', o', ha, hl', ih _ (List.getElem_mem hi) b' _ hn⟩
theorem NetsIn.at {P : Nat → Prop} {w : World} {v : Value} {ns : List Stil.Net} (h : NetsIn P w v ns) : NetsAt w v ns := by
  obtain ⟨a, cap, hv, hq, hc⟩ := h
  refine ⟨a, cap, hv, fun i hi => ?_⟩
  obtain ⟨b, o, ha, hl', hb, hd⟩ := hc i hi
  exact ⟨b, o, ha, hb, NetIn.at _ _ _ hd⟩
def ElemIn (P : Nat → Prop) (w : World) (b o : Nat) (e : Stil.Elem) : Prop := w.cell? ⟨b, o, none⟩ = some (.int .i64 e.op) ∧ ∃ av, w.cell? ⟨b, o + 1, none⟩ = some av ∧ DevsIn P w av e.args
def ElemsIn (P : Nat → Prop) (w : World) (v : Value) (es : List Stil.Elem) : Prop := ∃ a cap, v = .slice a es.length cap ∧ CapOk a es.length cap ∧ ∀ i (h : i < es.length), ∃ b o, a = some ⟨b, o, none⟩ ∧ P b ∧ b < w.heap.size ∧ ElemIn P w b (o + i * 2) es[i]
theorem ElemIn.keep {P : Nat → Prop} {w w' : World} {b o : Nat} {e : Stil.Elem} (h : ElemIn P w b o e) (hk : KeepsIn P w w') (hl : P b) (hb : b < w.heap.size) : ElemIn P w' b o e := by
  obtain ⟨h1, av, h2, h3⟩ := h
  exact ⟨by rw [hk.2 _ _ hl hb]; exact h1, av, by rw [hk.2 _ _ hl hb]; exact h2, h3.keep hk⟩
theorem ElemsIn.keep {P : Nat → Prop} {w w' : World} {v : Value} {es : List Stil.Elem} (h : ElemsIn P w v es) (hk : KeepsIn P w w') : ElemsIn P w' v es := by
  obtain ⟨a, cap, hv, hq, hc⟩ := h
  refine ⟨a, cap, hv, hq, fun i hi => ?_⟩
  obtain ⟨b, o, ha, hl, hb, hd⟩ := hc i hi
  exact ⟨b, o, ha, hl, Nat.lt_of_lt_of_le hb hk.1, hd.keep hk hl hb⟩
theorem ElemsIn.mono {P Q : Nat → Prop} {w : World} {v : Value} {es : List Stil.Elem} (h : ElemsIn Q w v es) (hl : ∀ b, b < w.heap.size → Q b → P b) : ElemsIn P w v es := by
  obtain ⟨a, cap, hv, hq, hc⟩ := h
  refine ⟨a, cap, hv, hq, fun i hi => ?_⟩
  obtain ⟨b, o, ha, hl', hb, h1, av, h2, h3⟩ := hc i hi
  exact ⟨b, o, ha, hl _ hb hl', hb, h1, av, h2, h3.mono hl⟩
theorem ElemsIn.at {P : Nat → Prop} {w : World} {v : Value} {es : List Stil.Elem} (h : ElemsIn P w v es) : ElemsAt w v es := by
  obtain ⟨a, cap, hv, hq, hc⟩ := h
  refine ⟨a, cap, hv, fun i hi => ?_⟩
  obtain ⟨b, o, ha, hl', hb, h1, av, h2, h3⟩ := hc i hi
  exact ⟨b, o, ha, hb, h1, av, h2, h3.at⟩
def ArmIn (P : Nat → Prop) (w : World) : Nat → Nat → Stil.Arm → Prop
  | b, o, ⟨n, coils, kids⟩ => NetIn P w b o n ∧ (∃ cv, w.cell? ⟨b, o + 4, none⟩ = some cv ∧ ElemsIn P w cv coils) ∧
      ∃ a cap, w.cell? ⟨b, o + 5, none⟩ = some (.slice a kids.length cap) ∧ CapOk a kids.length cap ∧ ∀ i (h : i < kids.length), ∃ b' o', a = some ⟨b', o', none⟩ ∧ P b' ∧ b' < w.heap.size ∧
        (have := List.sizeOf_lt_of_mem (List.getElem_mem h); ArmIn P w b' (o' + i * 6) kids[i])
theorem ArmIn_eq (P : Nat → Prop) (w : World) (b o : Nat) (n : Stil.Net) (coils : List Stil.Elem) (kids : List Stil.Arm) : ArmIn P w b o ⟨n, coils, kids⟩ = (NetIn P w b o n ∧ (∃ cv, w.cell? ⟨b, o + 4, none⟩ = some cv ∧ ElemsIn P w cv coils) ∧
      ∃ a cap, w.cell? ⟨b, o + 5, none⟩ = some (.slice a kids.length cap) ∧ CapOk a kids.length cap ∧ ∀ i (h : i < kids.length), ∃ b' o', a = some ⟨b', o', none⟩ ∧ P b' ∧ b' < w.heap.size ∧ ArmIn P w b' (o' + i * 6) kids[i]) := by rw [ArmIn]
def ArmsIn (P : Nat → Prop) (w : World) (v : Value) (l : List Stil.Arm) : Prop := ∃ a cap, v = .slice a l.length cap ∧ CapOk a l.length cap ∧ ∀ i (h : i < l.length), ∃ b o, a = some ⟨b, o, none⟩ ∧ P b ∧ b < w.heap.size ∧ ArmIn P w b (o + i * 6) l[i]
theorem ArmIn_iff (P : Nat → Prop) (w : World) (b o : Nat) (n : Stil.Arm) : ArmIn P w b o n ↔ (NetIn P w b o n.net ∧ (∃ cv, w.cell? ⟨b, o + 4, none⟩ = some cv ∧ ElemsIn P w cv n.coils) ∧ ∃ kv, w.cell? ⟨b, o + 5, none⟩ = some kv ∧ ArmsIn P w kv n.kids) := by
  obtain ⟨k, e, kids⟩ := n
  rw [ArmIn_eq]
  constructor
  · rintro ⟨h1, h3, a, cap, h4, hq, h5⟩; exact ⟨h1, h3, _, h4, a, cap, rfl, hq, h5⟩
  · rintro ⟨h1, h3, _, h4, a, cap, rfl, hq, h5⟩; exact ⟨h1, h3, a, cap, h4, hq, h5⟩
theorem ArmIn.keep {P : Nat → Prop} {w w' : World} (hk : KeepsIn P w w') : ∀ (n : Stil.Arm) (b o : Nat), ArmIn P w b o n → P b → b < w.heap.size → ArmIn P w' b o n := by
  intro n
  induction n using Stil.arm_ind with
  | h n coils kids ih =>
    intro b o h hl hlt
    rw [ArmIn_eq] at h ⊢
    obtain ⟨h1, ⟨cv, h3, h4⟩, a, cap, h5, hq, h6⟩ := h
    refine ⟨NetIn.keep hk _ _ _ h1 hl hlt, ⟨cv, ?_, h4.keep hk⟩, a, cap, ?_, hq, fun i hi => ?_⟩
    · rw [hk.2 _ _ hl hlt]; exact h3
    · rw [hk.2 _ _ hl hlt]; exact h5
    · obtain ⟨b', o', ha, hlo, hl', hn⟩ := h6 i hi
      exact ⟨b', o', ha, hlo, Nat.lt_of_lt_of_le hl' hk.1, ih _ (List.getElem_mem hi) b' _ hn hlo hl'⟩
theorem ArmsIn.keep {P : Nat → Prop} {w w' : World} {v : Value} {ns : List Stil.Arm} (h : ArmsIn P w v ns) (hk : KeepsIn P w w') : ArmsIn P w' v ns := by
  obtain ⟨a, cap, hv, hq, hc⟩ := h
  refine ⟨a, cap, hv, hq, fun i hi => ?_⟩
  obtain ⟨b, o, ha, hl, hb, hd⟩ := hc i hi
  exact ⟨b, o, ha, hl, Nat.lt_of_lt_of_le hb hk.1, ArmIn.keep hk _ _ _ hd hl hb⟩
theorem ArmIn.mono {P Q : Nat → Prop} {w : World} (hl : ∀ b, b < w.heap.size → Q b → P b) : ∀ (n : Stil.Arm) (b o : Nat), ArmIn Q w b o n → ArmIn P w b o n := by
  intro n
  induction n using Stil.arm_ind with
  | h n coils kids ih =>
    intro b o h
    rw [ArmIn_eq] at h ⊢
    obtain ⟨h1, ⟨cv, h3, h4⟩, a, cap, h5, hq, h6⟩ := h
    refine ⟨NetIn.mono hl _ _ _ h1, ⟨cv, h3, h4.mono hl⟩, a, cap, h5, hq, fun i hi => ?_⟩
    obtain ⟨b', o', ha, hlo, hl', hn⟩ := h6 i hi
    exact ⟨b', o', ha, hl _ hl' hlo, hl', ih _ (List.getElem_mem hi) b' _ hn⟩
theorem ArmsIn.mono {P Q : Nat → Prop} {w : World} {v : Value} {ns : List Stil.Arm} (h : ArmsIn Q w v ns) (hl : ∀ b, b < w.heap.size → Q b → P b) : ArmsIn P w v ns := by
  obtain ⟨a, cap, hv, hq, hc⟩ := h
  refine ⟨a, cap, hv, hq, fun i hi => ?_⟩
  obtain ⟨b, o, ha, hl', hb, hd⟩ := hc i hi
  exact ⟨b, o, ha, hl _ hb hl', hb, ArmIn.mono hl _ _ _ hd⟩
theorem ArmIn.at {P : Nat → Prop} {w : World} : ∀ (n : Stil.Arm) (b o : Nat), ArmIn P w b o n → ArmAt w b o n := by
  intro n
  induction n using Stil.arm_ind with
  | h n coils kids ih =>
    intro b o h
    rw [ArmIn_eq] at h
    rw [ArmAt_eq]
    obtain ⟨h1, ⟨cv, h3, h4⟩, a, cap, h5, hq, h6⟩ := h
    refine ⟨NetIn.at _ _ _ h1, ⟨cv, h3, h4.at⟩, a, cap, h5, fun i hi => ?_⟩
    obtain ⟨b', o', ha, hlo, hl', hn⟩ := h6 i hi
    exact ⟨b', o', ha, hl', ih _ (List.getElem_mem hi) b' _ hn⟩
theorem ArmsIn.at {P : Nat → Prop} {w : World} {v : Value} {ns : List Stil.Arm} (h : ArmsIn P w v ns) : ArmsAt w v ns := by
  obtain ⟨a, cap, hv, hq, hc⟩ := h
  refine ⟨a, cap, hv, fun i hi => ?_⟩
  obtain ⟨b, o, ha, hl', hb, hd⟩ := hc i hi
  exact ⟨b, o, ha, hb, ArmIn.at _ _ _ hd⟩
end Go.Proofs.YtbfkfdbkjbgneaaGreatDoor
/- Rows of contacts, nets and arms: what a list's cells hold. -/
namespace Go.Proofs.YtbfkfdbkjbgneaaGreatDoor
open Go.RowKit Go.Sort Go.BigFrame
/-- Cells of things of one size, one behind the other. -/
def RowOf {α : Type} (s : Nat) (R : List Value → α → Prop) (xs : List Value) (us : List α) : Prop := xs.length = us.length * s ∧ ∀ i (h : i < us.length), R ((xs.drop (i * s)).take s) us[i]
theorem RowOf.nil {α : Type} (s : Nat) (R : List Value → α → Prop) : RowOf s R [] [] := ⟨by simp, fun i h => by simp at h⟩
theorem RowOf.imp {α : Type} {s : Nat} {R Q : List Value → α → Prop} {xs : List Value} {us : List α} (h : RowOf s R xs us) (hq : ∀ cs a, a ∈ us → R cs a → Q cs a) : RowOf s Q xs us :=
  ⟨h.1, fun i hi => hq _ _ (List.getElem_mem hi) (h.2 i hi)⟩
theorem RowOf.append {α : Type} {s : Nat} {R : List Value → α → Prop} {xs ys : List Value} {us bs : List α} (h : RowOf s R xs us) (k : RowOf s R ys bs) : RowOf s R (xs ++ ys) (us ++ bs) := by
  have h1 := h.1
  have k1 := k.1
  refine ⟨by simp [h1, k1, Nat.add_mul], fun i hi => ?_⟩
  by_cases hl : i < us.length
  · have hle : i * s + s ≤ us.length * s := by rw [← Nat.succ_mul]; exact Nat.mul_le_mul_right s hl
    rw [List.getElem_append_left hl, List.drop_append_of_le_length (by omega), List.take_append_of_le_length (by simp; omega)]
    exact h.2 i hl
  · have hi2 : i - us.length < bs.length := by simp at hi; omega
    have e : i * s = xs.length + (i - us.length) * s := by rw [h1, ← Nat.add_mul]; congr 1; omega
    rw [List.getElem_append_right (by omega), e, List.drop_append]
    simp only [Nat.le_add_right, List.drop_eq_nil_of_le, List.nil_append, Nat.add_sub_cancel_left]
    exact k.2 _ hi2
theorem RowOf.one {α : Type} {s : Nat} {R : List Value → α → Prop} {cs : List Value} {a : α} (hl : cs.length = s) (h : R cs a) : RowOf s R cs [a] :=
  ⟨by simp [hl], fun i hi => by
    have : i = 0 := by simp at hi; omega
    subst this
    simpa [← hl] using h⟩
theorem RowOf.set {α : Type} {s : Nat} {R : List Value → α → Prop} {xs ys : List Value} {us : List α} {k : Nat} {a : α} (h : RowOf s R xs us) (hk : k < us.length) (hl : ys.length = xs.length) (ha : R ((ys.drop (k * s)).take s) a)
    (ho : ∀ j, j < k * s ∨ k * s + s ≤ j → ys[j]? = xs[j]?) : RowOf s R ys (us.set k a) := by
  refine ⟨by simp [hl, h.1], fun i hi => ?_⟩
  by_cases e : i = k
  · subst e
    rw [List.getElem_set_self]
    exact ha
  · rw [List.getElem_set_ne (fun x => e x.symm)]
    have hi2 : i < us.length := by simpa using hi
    have h2 := h.2 i hi2
    have : (ys.drop (i * s)).take s = (xs.drop (i * s)).take s := by
      apply List.ext_getElem?
      intro j
      simp only [List.getElem?_take, List.getElem?_drop]
      by_cases hj : j < s
      · rw [if_pos hj, if_pos hj]
        apply ho
        rcases Nat.lt_or_gt_of_ne e with h3 | h3
        · left
          have : i * s + s ≤ k * s := by rw [← Nat.succ_mul]; exact Nat.mul_le_mul_right s h3
          omega
        · right
          have : k * s + s ≤ i * s := by rw [← Nat.succ_mul]; exact Nat.mul_le_mul_right s h3
          omega
      · rw [if_neg hj, if_neg hj]
    rw [this]
    exact h2
def ElemC (P : Nat → Prop) (w : World) (cs : List Value) (e : Stil.Elem) : Prop := ∃ av, cs = [.int .i64 e.op, av] ∧ DevsIn P w av e.args
def NetC (P : Nat → Prop) (w : World) (cs : List Value) (n : Stil.Net) : Prop := ∃ av kv, cs = [.int .i64 n.kind, .int .i64 n.one.op, av, kv] ∧ DevsIn P w av n.one.args ∧ NetsIn P w kv n.kids
def ArmC (P : Nat → Prop) (w : World) (cs : List Value) (a : Stil.Arm) : Prop := ∃ av nv cv kv, cs = [.int .i64 a.net.kind, .int .i64 a.net.one.op, av, nv, cv, kv] ∧ DevsIn P w av a.net.one.args ∧ NetsIn P w nv a.net.kids ∧ ElemsIn P w cv a.coils ∧ ArmsIn P w kv a.kids
theorem ElemC.keep {P : Nat → Prop} {w w' : World} {cs : List Value} {e : Stil.Elem} (h : ElemC P w cs e) (hk : KeepsIn P w w') : ElemC P w' cs e := by
  obtain ⟨av, h1, h2⟩ := h
  exact ⟨av, h1, h2.keep hk⟩
theorem NetC.keep {P : Nat → Prop} {w w' : World} {cs : List Value} {n : Stil.Net} (h : NetC P w cs n) (hk : KeepsIn P w w') : NetC P w' cs n := by
  obtain ⟨av, kv, h1, h2, h3⟩ := h
  exact ⟨av, kv, h1, h2.keep hk, h3.keep hk⟩
theorem ArmC.keep {P : Nat → Prop} {w w' : World} {cs : List Value} {n : Stil.Arm} (h : ArmC P w cs n) (hk : KeepsIn P w w') : ArmC P w' cs n := by
  obtain ⟨av, nv, cv, kv, h1, h2, h3, h4, h5⟩ := h
  exact ⟨av, nv, cv, kv, h1, h2.keep hk, h3.keep hk, h4.keep hk, h5.keep hk⟩
theorem ElemC.mono {P Q : Nat → Prop} {w : World} {cs : List Value} {e : Stil.Elem} (h : ElemC Q w cs e) (hl : ∀ b, b < w.heap.size → Q b → P b) : ElemC P w cs e := by
  obtain ⟨av, h1, h2⟩ := h
  exact ⟨av, h1, h2.mono hl⟩
theorem NetC.mono {P Q : Nat → Prop} {w : World} {cs : List Value} {n : Stil.Net} (h : NetC Q w cs n) (hl : ∀ b, b < w.heap.size → Q b → P b) : NetC P w cs n := by
  obtain ⟨av, kv, h1, h2, h3⟩ := h
  exact ⟨av, kv, h1, h2.mono hl, h3.mono hl⟩
theorem ArmC.mono {P Q : Nat → Prop} {w : World} {cs : List Value} {n : Stil.Arm} (h : ArmC Q w cs n) (hl : ∀ b, b < w.heap.size → Q b → P b) : ArmC P w cs n := by
  obtain ⟨av, nv, cv, kv, h1, h2, h3, h4, h5⟩ := h
  exact ⟨av, nv, cv, kv, h1, h2.mono hl, h3.mono hl, h4.mono hl, h5.mono hl⟩
/-- What an own row's cells are, and how its room is told. -/
theorem own_open {w : World} {base s n : Nat} {e : TypeId} {v : Value} {xs : List Value} (h : w.ownsRow base e s v n xs) : ∃ a cap, v = .slice a n cap ∧ CapOk a n cap ∧ (∀ b o sp, a = some ⟨b, o, sp⟩ → o = 0 ∧ sp = none ∧ v.ownBlock = some b ∧ base ≤ b ∧ b < w.heap.size ∧ ∀ j u, xs[j]? = some u → w.cell? ⟨b, j, none⟩ = some u) ∧ (0 < n → a ≠ none) := by
  rcases h.2 with ⟨h0, h1⟩ | ⟨g, cap, cur, hv, hb, hh, hc, hr⟩
  · have hn : n = 0 := h1
    subst hn
    exact ⟨none, 0, h0, ⟨Nat.le_refl _, fun _ => rfl⟩, fun b o sp he => (by cases he), fun hp => absurd hp (by omega)⟩
  · refine ⟨_, cap, hv, ⟨hc, fun he => (by cases he)⟩, fun b o sp he => ?_, fun _ he => (by cases he)⟩
    simp only [Option.some.injEq, Addr.mk.injEq] at he
    obtain ⟨rfl, rfl, rfl⟩ := he
    have hob : v.ownBlock = some g := by rw [hv]; rfl
    refine ⟨rfl, rfl, hob, hb, (h.lt g hob).2, fun j u hj => ?_⟩
    have hj' : j < xs.length := (List.getElem?_eq_some_iff.1 hj).1
    subst hv
    have := h.cellAt j (by have := h.1; omega)
    rw [this]
    exact hj
theorem row_at {α : Type} {s : Nat} {R : List Value → α → Prop} {xs : List Value} {us : List α} (_h : RowOf s R xs us) {i : Nat} (_hi : i < us.length) {cs : List Value} (hc : (xs.drop (i * s)).take s = cs) : ∀ j u, cs[j]? = some u → xs[i * s + j]? = some u := by
  intro j u hj
  rw [← hc] at hj
  simp only [List.getElem?_take, List.getElem?_drop] at hj
  split at hj
  · exact hj
  · cases hj
theorem elemsIn_of_row {P : Nat → Prop} {w : World} {base : Nat} {v : Value} {xs : List Value} {es : List Stil.Elem} (h : w.ownsRow base 41 2 v es.length xs) (hr : RowOf 2 (ElemC P w) xs es) (hp : ∀ b, v.ownBlock = some b → P b) : ElemsIn P w v es := by
  obtain ⟨a, cap, hv, hq, ha, hn⟩ := own_open h
  refine ⟨a, cap, hv, hq, fun i hi => ?_⟩
  obtain ⟨⟨b, o, sp⟩, hab⟩ : ∃ ad, a = some ad := by
    cases a with
    | none => exact absurd rfl (hn (by omega))
    | some ad => exact ⟨ad, rfl⟩
  obtain ⟨rfl, rfl, hob, h1, h2, h3⟩ := ha b o sp hab
  obtain ⟨av, e1, e2⟩ := hr.2 i hi
  have hx := row_at hr hi e1
  refine ⟨b, 0, hab, hp b hob, h2, ?_, av, ?_, e2⟩
  · rw [Nat.zero_add]; exact h3 _ _ (hx 0 _ rfl)
  · rw [Nat.zero_add]; exact h3 _ _ (hx 1 _ rfl)
theorem row_build {α : Type} {s : Nat} {R : List Value → α → Prop} {us : List α} (f : Nat → Value) (h : ∀ i (hi : i < us.length), R ((List.range s).map fun j => f (i * s + j)) us[i]) : RowOf s R ((List.range (us.length * s)).map f) us := by
  refine ⟨by simp, fun i hi => ?_⟩
  have e : (((List.range (us.length * s)).map f).drop (i * s)).take s = (List.range s).map fun j => f (i * s + j) := by
    have hle : i * s + s ≤ us.length * s := by rw [← Nat.succ_mul]; exact Nat.mul_le_mul_right s hi
    apply List.ext_getElem?
    intro j
    simp only [List.getElem?_take, List.getElem?_drop, List.getElem?_map]
    by_cases hj : j < s
    · rw [if_pos hj, List.getElem?_range (by omega), List.getElem?_range hj]; rfl
    · rw [if_neg hj, List.getElem?_eq_none (by simp; omega)]; rfl
  rw [e]
  exact h i hi
/-- A list in memory is a row of cells. -/
def RowIn {α : Type} (s : Nat) (R : List Value → α → Prop) (w : World) (v : Value) (us : List α) : Prop := ∃ a cap, v = .slice a us.length cap ∧ CapOk a us.length cap ∧ ∃ xs, RowOf s R xs us ∧ ∀ ad, a = some ad → ∀ j u, xs[j]? = some u → w.cell? (ad.add j) = some u
theorem rowIn_mk {α : Type} {s : Nat} {R : List Value → α → Prop} {w : World} {a : Option Addr} {cap : Nat} {us : List α} (hs : 0 < s) (hq : CapOk a us.length cap) (h : ∀ i (hi : i < us.length), ∃ b o, a = some ⟨b, o, none⟩ ∧ ∃ cs : List Value, cs.length = s ∧ R cs us[i] ∧ ∀ j u, cs[j]? = some u → w.cell? ⟨b, o + i * s + j, none⟩ = some u) : RowIn s R w (.slice a us.length cap) us := by
  refine ⟨a, cap, rfl, hq, ?_⟩
  by_cases hn : us = []
  · subst hn
    exact ⟨[], RowOf.nil _ _, fun ad _ j u hj => by simp at hj⟩
  · obtain ⟨b, o, rfl, _⟩ := h 0 (by cases us with | nil => exact absurd rfl hn | cons _ _ => simp)
    have hc : ∀ i (hi : i < us.length), ∃ cs : List Value, cs.length = s ∧ R cs us[i] ∧ ∀ j u, cs[j]? = some u → w.cell? ⟨b, o + i * s + j, none⟩ = some u := by
      intro i hi
      obtain ⟨b', o', e, h'⟩ := h i hi
      simp only [Option.some.injEq, Addr.mk.injEq, and_true] at e
      obtain ⟨rfl, rfl⟩ := e
      exact h'
    refine ⟨_, row_build (fun j => (w.cell? ⟨b, o + j, none⟩).getD (.int .i64 0)) (fun i hi => ?_), fun ad he j u hj => ?_⟩
    · obtain ⟨cs, h1, h2, h3⟩ := hc i hi
      have e : ((List.range s).map fun j => (w.cell? ⟨b, o + (i * s + j), none⟩).getD (.int .i64 0)) = cs := by
        apply List.ext_getElem?
        intro j
        by_cases hj : j < s
        · rw [List.getElem?_map, List.getElem?_range hj, List.getElem?_eq_getElem (by omega)]
          simp only [Option.map_some, Option.some.injEq]
          rw [← Nat.add_assoc, h3 j cs[j] (List.getElem?_eq_getElem (by omega))]; rfl
        · rw [List.getElem?_eq_none (by simp; omega), List.getElem?_eq_none (by omega)]
      rw [e]
      exact h2
    · cases he
      rw [List.getElem?_map] at hj
      have hjl : j < us.length * s := by
        apply Classical.byContradiction
        intro hx
        rw [List.getElem?_eq_none (by simp; omega)] at hj
        cases hj
      rw [List.getElem?_range hjl] at hj
      simp only [Option.map_some, Option.some.injEq] at hj
      have hi : j / s < us.length := Nat.div_lt_of_lt_mul (by rw [Nat.mul_comm]; exact hjl)
      obtain ⟨cs, h1, h2, h3⟩ := hc (j / s) hi
      have hm : j % s < cs.length := by rw [h1]; exact Nat.mod_lt _ hs
      have := h3 (j % s) cs[j % s] (List.getElem?_eq_getElem hm)
      have e : o + j / s * s + j % s = o + j := by have := Nat.div_add_mod j s; rw [Nat.mul_comm] at this; omega
      rw [e] at this
      rw [this] at hj
      rw [Addr.add_lit, this, ← hj]; rfl
theorem row_of_elems {P : Nat → Prop} {w : World} {v : Value} {es : List Stil.Elem} (h : ElemsIn P w v es) : RowIn 2 (ElemC P w) w v es := by
  obtain ⟨a, cap, rfl, hq, hc⟩ := h
  refine rowIn_mk (by decide) hq fun i hi => ?_
  obtain ⟨b, o, ha, _, _, h1, av, h2, h3⟩ := hc i hi
  refine ⟨b, o, ha, [.int .i64 es[i].op, av], rfl, ⟨av, rfl, h3⟩, fun j u hj => ?_⟩
  match j, hj with
  | 0, hj => obtain rfl := Option.some.inj hj; exact h1
  | 1, hj => obtain rfl := Option.some.inj hj; exact h2
theorem row_of_nets {P : Nat → Prop} {w : World} {v : Value} {ns : List Stil.Net} (h : NetsIn P w v ns) : RowIn 4 (NetC P w) w v ns := by
  obtain ⟨a, cap, rfl, hq, hc⟩ := h
  refine rowIn_mk (by decide) hq fun i hi => ?_
  obtain ⟨b, o, ha, _, _, hn⟩ := hc i hi
  obtain ⟨h1, h2, ⟨av, h3, h4⟩, kv, h5, h6⟩ := (NetIn_iff _ _ _ _ _).1 hn
  refine ⟨b, o, ha, [.int .i64 ns[i].kind, .int .i64 ns[i].one.op, av, kv], rfl, ⟨av, kv, rfl, h4, h6⟩, fun j u hj => ?_⟩
  match j, hj with
  | 0, hj => obtain rfl := Option.some.inj hj; exact h1
  | 1, hj => obtain rfl := Option.some.inj hj; exact h2
  | 2, hj => obtain rfl := Option.some.inj hj; exact h3
  | 3, hj => obtain rfl := Option.some.inj hj; exact h5
theorem row_of_arms {P : Nat → Prop} {w : World} {v : Value} {ns : List Stil.Arm} (h : ArmsIn P w v ns) : RowIn 6 (ArmC P w) w v ns := by
  obtain ⟨a, cap, rfl, hq, hc⟩ := h
  refine rowIn_mk (by decide) hq fun i hi => ?_
  obtain ⟨b, o, ha, _, _, hn⟩ := hc i hi
  obtain ⟨hn, ⟨cv, h7, h8⟩, kv, h9, h10⟩ := (ArmIn_iff _ _ _ _ _).1 hn
  obtain ⟨h1, h2, ⟨av, h3, h4⟩, nv, h5, h6⟩ := (NetIn_iff _ _ _ _ _).1 hn
  refine ⟨b, o, ha, [.int .i64 ns[i].net.kind, .int .i64 ns[i].net.one.op, av, nv, cv, kv], rfl, ⟨av, nv, cv, kv, rfl, h4, h6, h8, h10⟩, fun j u hj => ?_⟩
  match j, hj with
  | 0, hj => obtain rfl := Option.some.inj hj; exact h1
  | 1, hj => obtain rfl := Option.some.inj hj; exact h2
  | 2, hj => obtain rfl := Option.some.inj hj; exact h3
  | 3, hj => obtain rfl := Option.some.inj hj; exact h5
  | 4, hj => obtain rfl := Option.some.inj hj; exact h7
  | 5, hj => obtain rfl := Option.some.inj hj; exact h9
/-- Blocks beyond B, but for the one that a list of its own holds. -/
def Off (B : Nat) (v : Value) (b : Nat) : Prop := B < b ∧ v.ownBlock ≠ some b
theorem off_keep {B : Nat} {v : Value} {w w' : World} (h : w.grownBy w' v.ownBlock) : KeepsIn (Off B v) w w' := KeepsIn.of_grown h fun _ hb => hb.2
theorem off_mono {B : Nat} {v v' : Value} {w : World} (h : v'.ownBlock = v.ownBlock ∨ v'.ownBlock = some w.heap.size) : ∀ b, b < w.heap.size → Off B v b → Off B v' b := by
  intro b hb h1
  refine ⟨h1.1, ?_⟩
  rcases h with h | h
  · rw [h]; exact h1.2
  · rw [h]
    intro e
    simp only [Option.some.injEq] at e
    omega
theorem keep_mono {P Q : Nat → Prop} {w w' : World} (h : KeepsIn Q w w') (hl : ∀ b, b < w.heap.size → P b → Q b) : KeepsIn P w w' := ⟨h.1, fun b o hb hlt => h.2 b o (hl b hlt hb) hlt⟩
theorem elems_append {B : Nat} {v v' : Value} {w w' : World} {xs cs : List Value} {es : List Stil.Elem} {e : Stil.Elem} (h : RowOf 2 (ElemC (Off B v) w) xs es) (hc : ElemC (Off B v) w cs e) (hl : cs.length = 2) (hg : w.grownBy w' v.ownBlock) (ha : v'.ownBlock = v.ownBlock ∨ v'.ownBlock = some w.heap.size) : RowOf 2 (ElemC (Off B v') w') (xs ++ cs) (es ++ [e]) := by
  have hk : ∀ cs e, ElemC (Off B v) w cs e → ElemC (Off B v') w' cs e := fun cs e h => by
    have h1 : ElemC (fun b => Off B v b ∧ Off B v' b) w cs e := h.mono fun b hb hp => ⟨hp, off_mono ha b hb hp⟩
    exact (h1.keep (keep_mono (off_keep (B := B) hg) fun b _ hp => hp.1)).mono fun b _ hp => hp.2
  exact (h.imp fun cs e _ => hk cs e).append (RowOf.one hl (hk _ _ hc))
theorem nets_append {B : Nat} {v v' : Value} {w w' : World} {xs cs : List Value} {ns : List Stil.Net} {n : Stil.Net} (h : RowOf 4 (NetC (Off B v) w) xs ns) (hc : NetC (Off B v) w cs n) (hl : cs.length = 4) (hg : w.grownBy w' v.ownBlock) (ha : v'.ownBlock = v.ownBlock ∨ v'.ownBlock = some w.heap.size) : RowOf 4 (NetC (Off B v') w') (xs ++ cs) (ns ++ [n]) := by
  have hk : ∀ cs e, NetC (Off B v) w cs e → NetC (Off B v') w' cs e := fun cs e h => by
    have h1 : NetC (fun b => Off B v b ∧ Off B v' b) w cs e := h.mono fun b hb hp => ⟨hp, off_mono ha b hb hp⟩
    exact (h1.keep (keep_mono (off_keep (B := B) hg) fun b _ hp => hp.1)).mono fun b _ hp => hp.2
  exact (h.imp fun cs e _ => hk cs e).append (RowOf.one hl (hk _ _ hc))
theorem arms_append {B : Nat} {v v' : Value} {w w' : World} {xs cs : List Value} {ns : List Stil.Arm} {n : Stil.Arm} (h : RowOf 6 (ArmC (Off B v) w) xs ns) (hc : ArmC (Off B v) w cs n) (hl : cs.length = 6) (hg : w.grownBy w' v.ownBlock) (ha : v'.ownBlock = v.ownBlock ∨ v'.ownBlock = some w.heap.size) : RowOf 6 (ArmC (Off B v') w') (xs ++ cs) (ns ++ [n]) := by
  have hk : ∀ cs e, ArmC (Off B v) w cs e → ArmC (Off B v') w' cs e := fun cs e h => by
    have h1 : ArmC (fun b => Off B v b ∧ Off B v' b) w cs e := h.mono fun b hb hp => ⟨hp, off_mono ha b hb hp⟩
    exact (h1.keep (keep_mono (off_keep (B := B) hg) fun b _ hp => hp.1)).mono fun b _ hp => hp.2
  exact (h.imp fun cs e _ => hk cs e).append (RowOf.one hl (hk _ _ hc))
theorem devs_of_el {w : World} {g : Nat} {v : Value} {ds : List Stil.Dev} (h : ElArgs w g v ds) : DevsIn (fun b => g < b) w v ds := h
theorem el_of_devs {w : World} {g : Nat} {v : Value} {ds : List Stil.Dev} (h : DevsIn (fun b => g < b) w v ds) : ElArgs w g v ds := h
theorem devs_nil (P : Nat → Prop) (w : World) : DevsIn P w (.slice none 0 0) [] := ⟨none, 0, rfl, ⟨Nat.le_refl _, fun _ => rfl⟩, fun i hi => by simp at hi⟩
theorem nets_nil (P : Nat → Prop) (w : World) : NetsIn P w (.slice none 0 0) [] := ⟨none, 0, rfl, ⟨Nat.le_refl _, fun _ => rfl⟩, fun i hi => by simp at hi⟩
theorem elems_nil (P : Nat → Prop) (w : World) : ElemsIn P w (.slice none 0 0) [] := ⟨none, 0, rfl, ⟨Nat.le_refl _, fun _ => rfl⟩, fun i hi => by simp at hi⟩
theorem arms_nil (P : Nat → Prop) (w : World) : ArmsIn P w (.slice none 0 0) [] := ⟨none, 0, rfl, ⟨Nat.le_refl _, fun _ => rfl⟩, fun i hi => by simp at hi⟩
/-- Small numbers, short lists. -/
def ETame (e : Stil.Elem) : Prop := (-1000000 ≤ e.op ∧ e.op ≤ 1000000) ∧ (∀ d ∈ e.args, Small d) ∧ e.args.length ≤ 100000
def NTame : Stil.Net → Prop
  | ⟨k, e, kids⟩ => (-1000000 ≤ k ∧ k ≤ 1000000) ∧ ETame e ∧ ∀ p ∈ kids.map NTame, p
theorem NTame_eq (k : Int) (e : Stil.Elem) (kids : List Stil.Net) : NTame ⟨k, e, kids⟩ ↔ (-1000000 ≤ k ∧ k ≤ 1000000) ∧ ETame e ∧ ∀ x ∈ kids, NTame x := by rw [NTame, Stil.all_map]
def ATame : Stil.Arm → Prop
  | ⟨n, coils, kids⟩ => NTame n ∧ (∀ c ∈ coils, ETame c) ∧ ∀ p ∈ kids.map ATame, p
theorem ATame_eq (n : Stil.Net) (coils : List Stil.Elem) (kids : List Stil.Arm) : ATame ⟨n, coils, kids⟩ ↔ NTame n ∧ (∀ c ∈ coils, ETame c) ∧ ∀ x ∈ kids, ATame x := by rw [ATame, Stil.all_map]
theorem ETame.wf {e : Stil.Elem} (h : ETame e) : e.wf := ⟨⟨by have := h.1.1; omega, by have := h.1.2; omega⟩, by have := h.2.2; omega, fun d hd => (h.2.1 d hd).fits⟩
theorem NTame.wf (n : Stil.Net) : NTame n → Stil.netSz n ≤ 1000000 → Stil.netWf n := by
  induction n using Stil.net_ind with
  | h k e kids ih =>
    intro h hs
    obtain ⟨h1, h2, h3⟩ := (NTame_eq _ _ _).1 h
    rw [Stil.netSz_eq] at hs
    refine (Stil.netWf_eq _ _ _).2 ⟨⟨by omega, by omega⟩, h2.wf, by omega, fun x hx => ih x hx (h3 x hx) ?_⟩
    have := Stil.mem_le_sum Stil.netSz kids x hx
    omega
theorem ATame.wf (n : Stil.Arm) : ATame n → Stil.armSz n ≤ 1000000 → Stil.armWf n := by
  induction n using Stil.arm_ind with
  | h n coils kids ih =>
    intro h hs
    obtain ⟨h1, h2, h3⟩ := (ATame_eq _ _ _).1 h
    rw [Stil.armSz_eq] at hs
    have he : Stil.elemsSz coils = coils.length + (coils.map Stil.elemSz).sum := rfl
    refine (Stil.armWf_eq _ _ _).2 ⟨NTame.wf n h1 (by omega), by omega, fun c hc => (h2 c hc).wf, by omega, fun x hx => ih x hx (h3 x hx) ?_⟩
    have := Stil.mem_le_sum Stil.armSz kids x hx
    omega
end Go.Proofs.YtbfkfdbkjbgneaaGreatDoor
