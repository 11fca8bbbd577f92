/- Ladders in memory of their own: all their blocks of one kind. -/
import Derived.Test.YtbllmkmdaenglaaGreatDoorGT
import Derived.Maps.AppendAt
namespace Go.Proofs.YtbllmkmdaenglaaGreatDoor
open Go.RowKit Go.Sort Go.BigFrame
/-- Whatever lies in blocks of P in w lies so in w'. -/
def KeepsIn (P : Nat → Prop) (w w' : World) : Prop := w.heap.size ≤ w'.heap.size ∧ ∀ b o, P b → b < w.heap.size → w'.cell? ⟨b, o, none⟩ = w.cell? ⟨b, o, none⟩
theorem KeepsIn.refl (P : Nat → Prop) (w : World) : KeepsIn P w w := ⟨Nat.le_refl _, fun _ _ _ _ => rfl⟩
theorem KeepsIn.trans {P : Nat → Prop} {a b c : World} (h1 : KeepsIn P a b) (h2 : KeepsIn P b c) : KeepsIn P a c :=
  ⟨Nat.le_trans h1.1 h2.1, fun x o hl hx => (h2.2 x o hl (Nat.lt_of_lt_of_le hx h1.1)).trans (h1.2 x o hl hx)⟩
theorem KeepsIn.of_below {P : Nat → Prop} {w w' : World} (h : Below w.heap.size w w') : KeepsIn P w w' := ⟨h.size, fun b o _ hb => h.cell (p := ⟨b, o, none⟩) hb⟩
theorem KeepsIn.set {P : Nat → Prop} {w : World} {b o : Nat} (hb : ¬ P b) (v : Value) : KeepsIn P w (w.setCell ⟨b, o, none⟩ v) := ⟨((Below.refl 0 w).setCell (Nat.zero_le _) v).size, fun x p hx _ => by
  have hne : ¬ x = b := fun e => hb (e ▸ hx)
  have hne2 : ¬ b = x := fun e => hb (e ▸ hx)
  simp [go_sem]⟩
/-- How a slice's room is told. -/
def CapOk (a : Option Addr) (n cap : Nat) : Prop := n ≤ cap ∧ (a = none → cap = 0)
def DevsIn (P : Nat → Prop) (w : World) (v : Value) (ds : List Stil.Dev) : Prop := ∃ a cap, v = .slice a ds.length cap ∧ CapOk a ds.length cap ∧ ∀ i (h : i < ds.length), ∃ b o, a = some ⟨b, o, none⟩ ∧ P b ∧ b < w.heap.size ∧ DevAt w b (o + i * 3) ds[i]
theorem DevAt.keepIn {P : Nat → Prop} {w w' : World} {b o : Nat} {d : Stil.Dev} (h : DevAt w b o d) (hk : KeepsIn P w w') (hl : P b) (hb : b < w.heap.size) : DevAt w' b o d := by
  obtain ⟨h1, h2, h3⟩ := h
  exact ⟨by rw [hk.2 _ _ hl hb]; exact h1, by rw [hk.2 _ _ hl hb]; exact h2, by rw [hk.2 _ _ hl hb]; exact h3⟩
theorem DevsIn.keep {P : Nat → Prop} {w w' : World} {v : Value} {ds : List Stil.Dev} (h : DevsIn P w v ds) (hk : KeepsIn P w w') : DevsIn P w' v ds := by
  obtain ⟨a, cap, hv, hq, hc⟩ := h
  refine ⟨a, cap, hv, hq, fun i hi => ?_⟩
  obtain ⟨b, o, ha, hl, hb, hd⟩ := hc i hi
  exact ⟨b, o, ha, hl, Nat.lt_of_lt_of_le hb hk.1, hd.keepIn hk hl hb⟩
theorem DevsIn.mono {P Q : Nat → Prop} {w : World} {v : Value} {ds : List Stil.Dev} (h : DevsIn Q w v ds) (hl : ∀ b, b < w.heap.size → Q b → P b) : DevsIn P w v ds := by
  obtain ⟨a, cap, hv, hq, hc⟩ := h
  refine ⟨a, cap, hv, hq, fun i hi => ?_⟩
  obtain ⟨b, o, ha, hl', hb, hd⟩ := hc i hi
  exact ⟨b, o, ha, hl _ hb hl', hb, hd⟩
theorem DevsIn.at {P : Nat → Prop} {w : World} {v : Value} {ds : List Stil.Dev} (h : DevsIn P w v ds) : DevsAt w v ds := by
  obtain ⟨a, cap, hv, hq, hc⟩ := h
  refine ⟨a, cap, hv, fun i hi => ?_⟩
  obtain ⟨b, o, ha, hl', hb, hd⟩ := hc i hi
  exact ⟨b, o, ha, hb, hd⟩
/-- The net lies at this place, and whatever it holds in blocks of P. -/
def NetIn (P : Nat → Prop) (w : World) : Nat → Nat → Stil.Net → Prop
  | b, o, ⟨k, e, kids⟩ => w.cell? ⟨b, o, none⟩ = some (.int .i64 k) ∧ w.cell? ⟨b, o + 1, none⟩ = some (.int .i64 e.op) ∧
      (∃ av, w.cell? ⟨b, o + 2, none⟩ = some av ∧ DevsIn P w av e.args) ∧
      ∃ a cap, w.cell? ⟨b, o + 3, none⟩ = some (.slice a kids.length cap) ∧ CapOk a kids.length cap ∧ ∀ i (h : i < kids.length), ∃ b' o', a = some ⟨b', o', none⟩ ∧ P b' ∧ b' < w.heap.size ∧
        (have := List.sizeOf_lt_of_mem (List.getElem_mem h); NetIn P w b' (o' + i * 4) kids[i])
theorem NetIn_eq (P : Nat → Prop) (w : World) (b o : Nat) (k : Int) (e : Stil.Elem) (kids : List Stil.Net) : NetIn P w b o ⟨k, e, kids⟩ = (w.cell? ⟨b, o, none⟩ = some (.int .i64 k) ∧ w.cell? ⟨b, o + 1, none⟩ = some (.int .i64 e.op) ∧
      (∃ av, w.cell? ⟨b, o + 2, none⟩ = some av ∧ DevsIn P w av e.args) ∧
      ∃ a cap, w.cell? ⟨b, o + 3, none⟩ = some (.slice a kids.length cap) ∧ CapOk a kids.length cap ∧ ∀ i (h : i < kids.length), ∃ b' o', a = some ⟨b', o', none⟩ ∧ P b' ∧ b' < w.heap.size ∧ NetIn P w b' (o' + i * 4) kids[i]) := by rw [NetIn]
def NetsIn (P : Nat → Prop) (w : World) (v : Value) (ns : List Stil.Net) : Prop := ∃ a cap, v = .slice a ns.length cap ∧ CapOk a ns.length cap ∧ ∀ i (h : i < ns.length), ∃ b o, a = some ⟨b, o, none⟩ ∧ P b ∧ b < w.heap.size ∧ NetIn P w b (o + i * 4) ns[i]
theorem NetIn_iff (P : Nat → Prop) (w : World) (b o : Nat) (n : Stil.Net) : NetIn P w b o n ↔ (w.cell? ⟨b, o, none⟩ = some (.int .i64 n.kind) ∧ w.cell? ⟨b, o + 1, none⟩ = some (.int .i64 n.one.op) ∧
      (∃ av, w.cell? ⟨b, o + 2, none⟩ = some av ∧ DevsIn P w av n.one.args) ∧ ∃ kv, w.cell? ⟨b, o + 3, none⟩ = some kv ∧ NetsIn P w kv n.kids) := by
  obtain ⟨k, e, kids⟩ := n
  rw [NetIn_eq]
  constructor
  · rintro ⟨h1, h2, h3, a, cap, h4, hq, h5⟩; exact ⟨h1, h2, h3, _, h4, a, cap, rfl, hq, h5⟩
  · rintro ⟨h1, h2, h3, _, h4, a, cap, rfl, hq, h5⟩; exact ⟨h1, h2, h3, a, cap, h4, hq, h5⟩
theorem NetIn.keep {P : Nat → Prop} {w w' : World} (hk : KeepsIn P w w') : ∀ (n : Stil.Net) (b o : Nat), NetIn P w b o n → P b → b < w.heap.size → NetIn P w' b o n := by
  intro n
  induction n using Stil.net_ind with
  | h k e kids ih =>
    intro b o h hl hlt
    rw [NetIn_eq] at h ⊢
    obtain ⟨h1, h2, ⟨av, h3, h4⟩, a, cap, h5, hq, h6⟩ := h
    refine ⟨?_, ?_, ⟨av, ?_, h4.keep hk⟩, a, cap, ?_, hq, fun i hi => ?_⟩
    · rw [hk.2 _ _ hl hlt]; exact h1
    · rw [hk.2 _ _ hl hlt]; exact h2
    · rw [hk.2 _ _ hl hlt]; exact h3
    · rw [hk.2 _ _ hl hlt]; exact h5
    · obtain ⟨b', o', ha, hlo, hl', hn⟩ := h6 i hi
      exact ⟨b', o', ha, hlo, Nat.lt_of_lt_of_le hl' hk.1, ih _ (List.getElem_mem hi) b' _ hn hlo hl'⟩
theorem NetsIn.keep {P : Nat → Prop} {w w' : World} {v : Value} {ns : List Stil.Net} (h : NetsIn P w v ns) (hk : KeepsIn P w w') : NetsIn P w' v ns := by
  obtain ⟨a, cap, hv, hq, hc⟩ := h
  refine ⟨a, cap, hv, hq, fun i hi => ?_⟩
  obtain ⟨b, o, ha, hl, hb, hd⟩ := hc i hi
  exact ⟨b, o, ha, hl, Nat.lt_of_lt_of_le hb hk.1, NetIn.keep hk _ _ _ hd hl hb⟩
theorem NetIn.mono {P Q : Nat → Prop} {w : World} (hl : ∀ b, b < w.heap.size → Q b → P b) : ∀ (n : Stil.Net) (b o : Nat), NetIn Q w b o n → NetIn P w b o n := by
  intro n
  induction n using Stil.net_ind with
  | h k e kids ih =>
    intro b o h
    rw [NetIn_eq] at h ⊢
    obtain ⟨h1, h2, ⟨av, h3, h4⟩, a, cap, h5, hq, h6⟩ := h
    refine ⟨h1, h2, ⟨av, h3, h4.mono hl⟩, a, cap, h5, hq, fun i hi => ?_⟩
    obtain ⟨b', o', ha, hlo, hl', hn⟩ := h6 i hi
    exact ⟨b', o', ha, hl _ hl' hlo, hl', ih _ (List.getElem_mem hi) b' _ hn⟩
theorem NetsIn.mono {P Q : Nat → Prop} {w : World} {v : Value} {ns : List Stil.Net} (h : NetsIn Q w v ns) (hl : ∀ b, b < w.heap.size → Q b → P b) : NetsIn P w v ns := by
  obtain ⟨a, cap, hv, hq, hc⟩ := h
  refine ⟨a, cap, hv, hq, fun i hi => ?_⟩
  obtain ⟨b, o, ha, hl', hb, hd⟩ := hc i hi
  exact ⟨b, o, ha, hl _ hb hl', hb, NetIn.mono hl _ _ _ hd⟩
theorem NetIn.at {P : Nat → Prop} {w : World} : ∀ (n : Stil.Net) (b o : Nat), NetIn P w b o n → NetAt w b o n := by
  intro n
  induction n using Stil.net_ind with
  | h k e kids ih =>
    intro b o h
    rw [NetIn_eq] at h
    rw [NetAt_eq]
    obtain ⟨h1, h2, ⟨av, h3, h4⟩, a, cap, h5, hq, h6⟩ := h
    refine ⟨h1, h2, ⟨av, h3, h4.at⟩, a, cap, h5, fun i hi => ?_⟩
    obtain ⟨b', o', ha, hlo, hl', hn⟩ := h6 i hi
    exact ⟨b', o', ha, hl', ih _ (List.getElem_mem hi) b' _ hn⟩
theorem NetsIn.at {P : Nat → Prop} {w : World} {v : Value} {ns : List Stil.Net} (h : NetsIn P w v ns) : NetsAt w v ns := by
  obtain ⟨a, cap, hv, hq, hc⟩ := h
  refine ⟨a, cap, hv, fun i hi => ?_⟩
  obtain ⟨b, o, ha, hl', hb, hd⟩ := hc i hi
  exact ⟨b, o, ha, hb, NetIn.at _ _ _ hd⟩
def ElemIn (P : Nat → Prop) (w : World) (b o : Nat) (e : Stil.Elem) : Prop := w.cell? ⟨b, o, none⟩ = some (.int .i64 e.op) ∧ ∃ av, w.cell? ⟨b, o + 1, none⟩ = some av ∧ DevsIn P w av e.args
def ElemsIn (P : Nat → Prop) (w : World) (v : Value) (es : List Stil.Elem) : Prop := ∃ a cap, v = .slice a es.length cap ∧ CapOk a es.length cap ∧ ∀ i (h : i < es.length), ∃ b o, a = some ⟨b, o, none⟩ ∧ P b ∧ b < w.heap.size ∧ ElemIn P w b (o + i * 2) es[i]
theorem ElemIn.keep {P : Nat → Prop} {w w' : World} {b o : Nat} {e : Stil.Elem} (h : ElemIn P w b o e) (hk : KeepsIn P w w') (hl : P b) (hb : b < w.heap.size) : ElemIn P w' b o e := by
  obtain ⟨h1, av, h2, h3⟩ := h
  exact ⟨by rw [hk.2 _ _ hl hb]; exact h1, av, by rw [hk.2 _ _ hl hb]; exact h2, h3.keep hk⟩
theorem ElemsIn.keep {P : Nat → Prop} {w w' : World} {v : Value} {es : List Stil.Elem} (h : ElemsIn P w v es) (hk : KeepsIn P w w') : ElemsIn P w' v es := by
  obtain ⟨a, cap, hv, hq, hc⟩ := h
  refine ⟨a, cap, hv, hq, fun i hi => ?_⟩
  obtain ⟨b, o, ha, hl, hb, hd⟩ := hc i hi
  exact ⟨b, o, ha, hl, Nat.lt_of_lt_of_le hb hk.1, hd.keep hk hl hb⟩
theorem ElemsIn.mono {P Q : Nat → Prop} {w : World} {v : Value} {es : List Stil.Elem} (h : ElemsIn Q w v es) (hl : ∀ b, b < w.heap.size → Q b → P b) : ElemsIn P w v es := by
  obtain ⟨a, cap, hv, hq, hc⟩ := h
  refine ⟨a, cap, hv, hq, fun i hi => ?_⟩
  obtain ⟨b, o, ha, hl', hb, h1, av, h2, h3⟩ := hc i hi
  exact ⟨b, o, ha, hl _ hb hl', hb, h1, av, h2, h3.mono hl⟩
theorem ElemsIn.at {P : Nat → Prop} {w : World} {v : Value} {es : List Stil.Elem} (h : ElemsIn P w v es) : ElemsAt w v es := by
  obtain ⟨a, cap, hv, hq, hc⟩ := h
  refine ⟨a, cap, hv, fun i hi => ?_⟩
  obtain ⟨b, o, ha, hl', hb, h1, av, h2, h3⟩ := hc i hi
  exact ⟨b, o, ha, hb, h1, av, h2, h3.at⟩
def ArmIn (P : Nat → Prop) (w : World) : Nat → Nat → Stil.Arm → Prop
  | b, o, ⟨n, coils, kids⟩ => NetIn P w b o n ∧ (∃ cv, w.cell? ⟨b, o + 4, none⟩ = some cv ∧ ElemsIn P w cv coils) ∧
      ∃ a cap, w.cell? ⟨b, o + 5, none⟩ = some (.slice a kids.length cap) ∧ CapOk a kids.length cap ∧ ∀ i (h : i < kids.length), ∃ b' o', a = some ⟨b', o', none⟩ ∧ P b' ∧ b' < w.heap.size ∧
        (have := List.sizeOf_lt_of_mem (List.getElem_mem h); ArmIn P w b' (o' + i * 6) kids[i])
theorem ArmIn_eq (P : Nat → Prop) (w : World) (b o : Nat) (n : Stil.Net) (coils : List Stil.Elem) (kids : List Stil.Arm) : ArmIn P w b o ⟨n, coils, kids⟩ = (NetIn P w b o n ∧ (∃ cv, w.cell? ⟨b, o + 4, none⟩ = some cv ∧ ElemsIn P w cv coils) ∧
      ∃ a cap, w.cell? ⟨b, o + 5, none⟩ = some (.slice a kids.length cap) ∧ CapOk a kids.length cap ∧ ∀ i (h : i < kids.length), ∃ b' o', a = some ⟨b', o', none⟩ ∧ P b' ∧ b' < w.heap.size ∧ ArmIn P w b' (o' + i * 6) kids[i]) := by rw [ArmIn]
def ArmsIn (P : Nat → Prop) (w : World) (v : Value) (l : List Stil.Arm) : Prop := ∃ a cap, v = .slice a l.length cap ∧ CapOk a l.length cap ∧ ∀ i (h : i < l.length), ∃ b o, a = some ⟨b, o, none⟩ ∧ P b ∧ b < w.heap.size ∧ ArmIn P w b (o + i * 6) l[i]
theorem ArmIn_iff (P : Nat → Prop) (w : World) (b o : Nat) (n : Stil.Arm) : ArmIn P w b o n ↔ (NetIn P w b o n.net ∧ (∃ cv, w.cell? ⟨b, o + 4, none⟩ = some cv ∧ ElemsIn P w cv n.coils) ∧ ∃ kv, w.cell? ⟨b, o + 5, none⟩ = some kv ∧ ArmsIn P w kv n.kids) := by
  obtain ⟨k, e, kids⟩ := n
  rw [ArmIn_eq]
  constructor
  · rintro ⟨h1, h3, a, cap, h4, hq, h5⟩; exact ⟨h1, h3, _, h4, a, cap, rfl, hq, h5⟩
  · rintro ⟨h1, h3, _, h4, a, cap, rfl, hq, h5⟩; exact ⟨h1, h3, a, cap, h4, hq, h5⟩
theorem ArmIn.keep {P : Nat → Prop} {w w' : World} (hk : KeepsIn P w w') : ∀ (n : Stil.Arm) (b o : Nat), ArmIn P w b o n → P b → b < w.heap.size → ArmIn P w' b o n := by
  intro n
  induction n using Stil.arm_ind with
  | h n coils kids ih =>
    intro b o h hl hlt
    rw [ArmIn_eq] at h ⊢
    obtain ⟨h1, ⟨cv, h3, h4⟩, a, cap, h5, hq, h6⟩ := h
    refine ⟨NetIn.keep hk _ _ _ h1 hl hlt, ⟨cv, ?_, h4.keep hk⟩, a, cap, ?_, hq, fun i hi => ?_⟩
    · rw [hk.2 _ _ hl hlt]; exact h3
    · rw [hk.2 _ _ hl hlt]; exact h5
    · obtain ⟨b', o', ha, hlo, hl', hn⟩ := h6 i hi
      exact ⟨b', o', ha, hlo, Nat.lt_of_lt_of_le hl' hk.1, ih _ (List.getElem_mem hi) b' _ hn hlo hl'⟩
theorem ArmsIn.keep {P : Nat → Prop} {w w' : World} {v : Value} {ns : List Stil.Arm} (h : ArmsIn P w v ns) (hk : KeepsIn P w w') : ArmsIn P w' v ns := by
  obtain ⟨a, cap, hv, hq, hc⟩ := h
  refine ⟨a, cap, hv, hq, fun i hi => ?_⟩
  obtain ⟨b, o, ha, hl, hb, hd⟩ := hc i hi
  exact ⟨b, o, ha, hl, Nat.lt_of_lt_of_le hb hk.1, ArmIn.keep hk _ _ _ hd hl hb⟩
theorem ArmIn.mono {P Q : Nat → Prop} {w : World} (hl : ∀ b, b < w.heap.size → Q b → P b) : ∀ (n : Stil.Arm) (b o : Nat), ArmIn Q w b o n → ArmIn P w b o n := by
  intro n
  induction n using Stil.arm_ind with
  | h n coils kids ih =>
    intro b o h
    rw [ArmIn_eq] at h ⊢
    obtain ⟨h1, ⟨cv, h3, h4⟩, a, cap, h5, hq, h6⟩ := h
    refine ⟨NetIn.mono hl _ _ _ h1, ⟨cv, h3, h4.mono hl⟩, a, cap, h5, hq, fun i hi => ?_⟩
    obtain ⟨b', o', ha, hlo, hl', hn⟩ := h6 i hi
    exact ⟨b', o', ha, hl _ hl' hlo, hl', ih _ (List.getElem_mem hi) b' _ hn⟩
theorem ArmsIn.mono {P Q : Nat → Prop} {w : World} {v : Value} {ns : List Stil.Arm} (h : ArmsIn Q w v ns) (hl : ∀ b, b < w.heap.size → Q b → P b) : ArmsIn P w v ns := by
  obtain ⟨a, cap, hv, hq, hc⟩ := h
  refine ⟨a, cap, hv, hq, fun i hi => ?_⟩
  obtain ⟨b, o, ha, hl', hb, hd⟩ := hc i hi
  exact ⟨b, o, ha, hl _ hb hl', hb, ArmIn.mono hl _ _ _ hd⟩
theorem ArmIn.at {P : Nat → Prop} {w : World} : ∀ (n : Stil.Arm) (b o : Nat), ArmIn P w b o n → ArmAt w b o n := by
  intro n
  induction n using Stil.arm_ind with
  | h n coils kids ih =>
    intro b o h
    rw [ArmIn_eq] at h
    rw [ArmAt_eq]
    obtain ⟨h1, ⟨cv, h3, h4⟩, a, cap, h5, hq, h6⟩ := h
    refine ⟨NetIn.at _ _ _ h1, ⟨cv, h3, h4.at⟩, a, cap, h5, fun i hi => ?_⟩
    obtain ⟨b', o', ha, hlo, hl', hn⟩ := h6 i hi
    exact ⟨b', o', ha, hl', ih _ (List.getElem_mem hi) b' _ hn⟩
theorem ArmsIn.at {P : Nat → Prop} {w : World} {v : Value} {ns : List Stil.Arm} (h : ArmsIn P w v ns) : ArmsAt w v ns := by
  obtain ⟨a, cap, hv, hq, hc⟩ := h
  refine ⟨a, cap, hv, fun i hi => ?_⟩
  obtain ⟨b, o, ha, hl', hb, hd⟩ := hc i hi
  exact ⟨b, o, ha, hb, ArmIn.at _ _ _ hd⟩
end Go.Proofs.YtbllmkmdaenglaaGreatDoor
