/- T7, T7b: texts put together. -/
import Derived.Test.YtipdjmbgbehkaaaGreatDoorGT
import Derived.Test.YtipdjmbgbehkaaaGreatDoorGZ
/- How lists of instructions lie in memory. -/
namespace Go.Proofs.YtipdjmbgbehkaaaGreatDoor
open Go.RowKit Go.Sort Go.BigFrame
/-- The instruction i lies at this place. -/
def InstAt (w : World) (b o : Nat) (i : Stil.Inst) : Prop := w.cell? ⟨b, o, none⟩ = some (.int .i64 i.code) ∧ w.cell? ⟨b, o + 1, none⟩ = some (.int .i64 i.one.op) ∧ ∃ av, w.cell? ⟨b, o + 2, none⟩ = some av ∧ DevsAt w av i.one.args
/-- The value v is a slice of just these instructions. -/
def InstsAt (w : World) (v : Value) (l : List Stil.Inst) : Prop := ∃ a cap, v = .slice a l.length cap ∧ ∀ i (h : i < l.length), ∃ b o, a = some ⟨b, o, none⟩ ∧ b < w.heap.size ∧ InstAt w b (o + i * 3) l[i]
theorem InstAt.below {w w' : World} {b o : Nat} {i : Stil.Inst} (h : InstAt w b o i) (hb : Below w.heap.size w w') (hlt : b < w.heap.size) : InstAt w' b o i := by
  obtain ⟨h1, h2, av, h3, h4⟩ := h
  exact ⟨by rw [hb.cell (p := ⟨b, o, none⟩) hlt]; exact h1, by rw [hb.cell (p := ⟨b, o + 1, none⟩) hlt]; exact h2, av, by rw [hb.cell (p := ⟨b, o + 2, none⟩) hlt]; exact h3, h4.below hb⟩
theorem InstsAt.below {w w' : World} {v : Value} {l : List Stil.Inst} (h : InstsAt w v l) (hb : Below w.heap.size w w') : InstsAt w' v l := by
  obtain ⟨a, cap, hv, hc⟩ := h
  refine ⟨a, cap, hv, fun i hi => ?_⟩
  obtain ⟨b, o, ha, hlt, hn⟩ := hc i hi
  exact ⟨b, o, ha, Nat.lt_of_lt_of_le hlt hb.size, hn.below hb hlt⟩
/-- The instruction lies at this place, and whatever it holds at or beyond lo. -/
def InstFrom (lo : Nat) (w : World) (b o : Nat) (i : Stil.Inst) : Prop := w.cell? ⟨b, o, none⟩ = some (.int .i64 i.code) ∧ w.cell? ⟨b, o + 1, none⟩ = some (.int .i64 i.one.op) ∧ ∃ av, w.cell? ⟨b, o + 2, none⟩ = some av ∧ DevsFrom lo w av i.one.args
def InstsFrom (lo : Nat) (w : World) (v : Value) (l : List Stil.Inst) : Prop := ∃ a cap, v = .slice a l.length cap ∧ ∀ i (h : i < l.length), ∃ b o, a = some ⟨b, o, none⟩ ∧ lo ≤ b ∧ b < w.heap.size ∧ InstFrom lo w b (o + i * 3) l[i]
theorem InstsFrom.at {lo : Nat} {w : World} {v : Value} {l : List Stil.Inst} (h : InstsFrom lo w v l) : InstsAt w v l := by
  obtain ⟨a, cap, hv, hc⟩ := h
  refine ⟨a, cap, hv, fun i hi => ?_⟩
  obtain ⟨b, o, ha, hl', hb, h1, h2, av, h3, h4⟩ := hc i hi
  exact ⟨b, o, ha, hb, h1, h2, av, h3, h4.at⟩
end Go.Proofs.YtipdjmbgbehkaaaGreatDoor
/- The verifier's points in memory. -/
namespace Go.Proofs.YtipdjmbgbehkaaaGreatDoor
open Go.RowKit Go.Sort Go.BigFrame
end Go.Proofs.YtipdjmbgbehkaaaGreatDoor
