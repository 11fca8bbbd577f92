/- Contracts of the laws' helpers: weSame of two that are the same. -/
import Derived.Test.YtodialneapakgaaGreatDoorGC
import Derived.Deep.RegionWith
namespace Go.Proofs.YtodialneapakgaaGreatDoor
open Go.RowKit Go.Sort Go.BigFrame
set_option maxHeartbeats 1000000 in
set_option maxRecDepth 100000 in
theorem l_weSame (op : Int) (v u : Value) (ds : List Stil.Dev) (w : World) (hat : DevsAt w v ds) (hau : DevsAt w u ds) (hl : ds.length ≤ 1048576) :
    Calls Tryz.prog 12 #[.agg #[.int .i64 op, v], .agg #[.int .i64 op, u]] w fun e w' => e = .returned (.bool true) ∧ Below w.heap.size w w' := by
  obtain ⟨a, cap, rfl, hc1⟩ := hat
  obtain ⟨b, cap2, rfl, hc2⟩ := hau
  have HA : Hid (∀ i (h : i < ds.length), ∃ b o, a = some ⟨b, o, none⟩ ∧ b < w.heap.size ∧ DevAt w b (o + i * 3) ds[i]) := hc1
  have HB : Hid (∀ i (h : i < ds.length), ∃ b' o, b = some ⟨b', o, none⟩ ∧ b' < w.heap.size ∧ DevAt w b' (o + i * 3) ds[i]) := hc2
  clear hc1 hc2
  go_enter Tryz.func12, Tryz.ntmps12
  go_wp2
  go_loopw [5] (fun i wr => ∃ k : Nat, k ≤ ds.length ∧ i = .int .i64 k ∧ Below (w.heap.size + 2) ((w.alloc (.cells #[.int .i64 op, .slice a ds.length cap] 25)).alloc (.cells #[.int .i64 op, .slice b ds.length cap2] 25)) wr) (fun i _ => ds.length - (intOf i).toNat)
  case atStart => exact ⟨0, by omega, rfl, Below.refl _ _⟩
  case round =>
    obtain ⟨k, hk, rfl, hB⟩ := hrel
    have hz0 : w.heap.size < wr.heap.size := by have := hB.size; simp at this; omega
    have c00 : wr.cell? ⟨w.heap.size, 0, none⟩ = some (.int .i64 op) := by rw [hB.cell (p := ⟨w.heap.size, 0, none⟩) (by simp)]; simp [go_sem]
    have f00 : wr.frozen? ⟨w.heap.size, 0, none⟩ = false := by rw [hB.frozen (p := ⟨w.heap.size, 0, none⟩) (by simp)]; simp [go_sem]
    have c01 : wr.cell? ⟨w.heap.size, 1, none⟩ = some (.slice a ds.length cap) := by rw [hB.cell (p := ⟨w.heap.size, 1, none⟩) (by simp)]; simp [go_sem]
    have f01 : wr.frozen? ⟨w.heap.size, 1, none⟩ = false := by rw [hB.frozen (p := ⟨w.heap.size, 1, none⟩) (by simp)]; simp [go_sem]
    have hz1 : w.heap.size + 1 < wr.heap.size := by have := hB.size; simp at this; omega
    have c10 : wr.cell? ⟨w.heap.size + 1, 0, none⟩ = some (.int .i64 op) := by rw [hB.cell (p := ⟨w.heap.size + 1, 0, none⟩) (by simp)]; simp [go_sem]
    have f10 : wr.frozen? ⟨w.heap.size + 1, 0, none⟩ = false := by rw [hB.frozen (p := ⟨w.heap.size + 1, 0, none⟩) (by simp)]; simp [go_sem]
    have c11 : wr.cell? ⟨w.heap.size + 1, 1, none⟩ = some (.slice b ds.length cap2) := by rw [hB.cell (p := ⟨w.heap.size + 1, 1, none⟩) (by simp)]; simp [go_sem]
    have f11 : wr.frozen? ⟨w.heap.size + 1, 1, none⟩ = false := by rw [hB.frozen (p := ⟨w.heap.size + 1, 1, none⟩) (by simp)]; simp [go_sem]
    have hbw : Below w.heap.size w wr := (bl_alloc (below_alloc _ _) _).trans (hB.mono (by omega))
    by_cases hlt : k < ds.length
    · obtain ⟨b1, o1, rfl, hbl1, hd1⟩ := HA.out k hlt
      obtain ⟨b2, o2, rfl, hbl2, hd2⟩ := HB.out k hlt
      obtain ⟨x0, x1, x2⟩ := hd1.below hbw hbl1
      obtain ⟨y0, y1, y2⟩ := hd2.below hbw hbl2
      obtain ⟨x, hx⟩ : ∃ x, x = ds[k] := ⟨_, rfl⟩
      rw [← hx] at x0 x1 x2 y0 y1 y2
      clear hx hd1 hd2
      go_wp2
      go_region
      all_goals go_wp2
      exact ⟨⟨k + 1, by omega, by go_num, hB.drew⟩, by simp [intOf]; omega⟩
    · go_wp2
      go_ret
      exact ⟨rfl, hbw⟩
end Go.Proofs.YtodialneapakgaaGreatDoor
