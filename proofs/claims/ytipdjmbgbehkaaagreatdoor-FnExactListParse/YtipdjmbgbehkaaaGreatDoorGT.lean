/- T3, T3b, T3c: texts put together. -/
import Derived.Test.YtipdjmbgbehkaaaGreatDoorGC
import Derived.Test.YtipdjmbgbehkaaaGreatDoorGM
/- How ladders lie in memory. -/
namespace Go.Proofs.YtipdjmbgbehkaaaGreatDoor
open Go.RowKit Go.Sort Go.BigFrame
end Go.Proofs.YtipdjmbgbehkaaaGreatDoor
/- Ladders in memory of their own: all their blocks at or beyond a place. -/
namespace Go.Proofs.YtipdjmbgbehkaaaGreatDoor
open Go.RowKit Go.Sort Go.BigFrame
theorem cellSetOther {W : World} {b c o p : Nat} {v : Value} (h : c ≠ b) : (W.setCell ⟨b, o, none⟩ v).cell? ⟨c, p, none⟩ = W.cell? ⟨c, p, none⟩ := by
  simp [go_sem]
theorem cellSetOff {W : World} {b o p : Nat} {v : Value} (h : p ≠ o) : (W.setCell ⟨b, o, none⟩ v).cell? ⟨b, p, none⟩ = W.cell? ⟨b, p, none⟩ := by
  simp [go_sem]
theorem cellSetAt {W : World} {b o : Nat} {v u : Value} (h : W.cell? ⟨b, o, none⟩ = some u) : (W.setCell ⟨b, o, none⟩ v).cell? ⟨b, o, none⟩ = some v := by
  simp [go_sem, h]
theorem sizeSet (W : World) (p : Addr) (v : Value) : W.heap.size ≤ (W.setCell p v).heap.size := ((Below.refl 0 W).setCell (Nat.zero_le _) v).size
def DevsFrom (lo : Nat) (w : World) (v : Value) (ds : List Stil.Dev) : Prop := ∃ a cap, v = .slice a ds.length cap ∧ ∀ i (h : i < ds.length), ∃ b o, a = some ⟨b, o, none⟩ ∧ lo ≤ b ∧ b < w.heap.size ∧ DevAt w b (o + i * 3) ds[i]
theorem DevsFrom.at {lo : Nat} {w : World} {v : Value} {ds : List Stil.Dev} (h : DevsFrom lo w v ds) : DevsAt w v ds := by
  obtain ⟨a, cap, hv, hc⟩ := h
  refine ⟨a, cap, hv, fun i hi => ?_⟩
  obtain ⟨b, o, ha, hl', hb, hd⟩ := hc i hi
  exact ⟨b, o, ha, hb, hd⟩
theorem DevsFrom.of_owns {w : World} {base : Nat} {v : Value} {ds : List Stil.Dev} (h : w.ownsRow base 74 3 v ds.length (devsCells ds)) : DevsFrom base w v ds := by
  by_cases hd : ds.length = 0
  · have hn : ds = [] := List.length_eq_zero_iff.1 hd
    subst hn
    rcases h.2 with ⟨h0, _⟩ | ⟨g, cap, cur, hv, _⟩
    · exact ⟨none, 0, h0, fun i hi => by simp at hi⟩
    · exact ⟨_, cap, hv, fun i hi => by simp at hi⟩
  · obtain ⟨g, cap, hv, hbase, hlt, _, hc⟩ := ownsRow_cells h (by omega)
    refine ⟨_, cap, hv, fun i hi => ⟨g, 0, rfl, hbase, hlt, ?_⟩⟩
    obtain ⟨a1, a2, a3⟩ := devsCells_get ds i hi
    unfold DevAt
    rw [Nat.zero_add]
    exact ⟨hc _ _ a1, hc _ _ a2, hc _ _ a3⟩
end Go.Proofs.YtipdjmbgbehkaaaGreatDoor
/- Ladders in memory of their own: what a store into their first row leaves. -/
namespace Go.Proofs.YtipdjmbgbehkaaaGreatDoor
open Go.RowKit Go.Sort Go.BigFrame
end Go.Proofs.YtipdjmbgbehkaaaGreatDoor
