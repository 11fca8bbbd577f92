/- D10, D11, D12: texts put together. -/
import Derived.Test.YtipdjmbgbehkaaaGreatDoorD7c
import Derived.Test.YtipdjmbgbehkaaaGreatDoorD8
import Derived.Test.YtipdjmbgbehkaaaGreatDoorD9
set_option maxHeartbeats 4000000
set_option maxRecDepth 100000
/- Contracts of the specification's draws: l2Any, l9Open. -/
namespace Go.Proofs.YtipdjmbgbehkaaaGreatDoor
open Go.RowKit Go.Sort Go.BigFrame
/-- A slice of bytes in memory. -/
def BytesAt (w : World) (v : Value) : Prop := ∃ (a : Option Addr) (len cap : Nat), v = .slice a len cap ∧ len ≤ cap ∧ cap ≤ 9223372036854775807 ∧ ∀ i, i < len → ∃ b o z, a = some ⟨b, o, none⟩ ∧ b < w.heap.size ∧ w.cell? ⟨b, o + i, none⟩ = some (.int .u8 z) ∧ 0 ≤ z ∧ z < 256
theorem s_l9Open (v : Value) (w : World) (hv : BytesAt w v) :
  Calls Tryz.prog 26 #[v] w fun e w' => e = .returned (.pointer (some ⟨w.heap.size, 0, none⟩)) ∧ RdAt w' w.heap.size 0 ∧ Below w.heap.size w w' := by
 obtain ⟨a, len, cap, rfl, hlc, hcap, hx⟩ := hv
 have HX : Hid (∀ i, i < len → ∃ b o z, a = some ⟨b, o, none⟩ ∧ b < w.heap.size ∧ w.cell? ⟨b, o + i, none⟩ = some (.int .u8 z) ∧ 0 ≤ z ∧ z < 256) := hx
 clear hx
 have done : ∀ n c : Nat, n ≤ len → n ≤ 2000 → RdAt (w.alloc (.cells #[.slice a n c, .int .i64 0] 82)) w.heap.size 0 := by
  intro n c h1 h2
  refine ⟨a, n, c, 0, by simp [go_sem], by simp [go_sem], by simp [go_sem], Nat.le_refl _, h2, fun i hi => ?_⟩
  obtain ⟨b, o, z, h3, h4, h5, h6, h7⟩ := HX.out i (by omega)
  exact ⟨b, o, z, h3, h4, by rw [(below_alloc w _).cell (p := ⟨b, o + i, none⟩) h4]; exact h5, h6, h7⟩
 by_cases hl : 2000 < len
 ·cases a with
  | none => obtain ⟨b, o, z, h, _⟩ := HX.out 0 (by omega); cases h
  | some ad =>
   go_enter Tryz.func26, Tryz.ntmps26
   go_wp2
   go_ret
   exact ⟨rfl, done _ _ (by omega) (by omega), below_alloc _ _⟩
 ·go_enter Tryz.func26, Tryz.ntmps26
  go_wp2
  go_ret
  exact ⟨rfl, done _ _ (by omega) (by omega), below_alloc _ _⟩
theorem s_l2Any (g P : Nat) (w : World) (hr : RdAt w g P) (hP : P ≤ 100000000) :
  Calls Tryz.prog 48 #[.pointer (some ⟨g, 0, none⟩)] w fun e w' => ElOut e w w' g (P + 100) 4 := by
 have hg := rd_lt hr
 go_enter Tryz.func48, Tryz.ntmps48
 go_upto_if 8 with (first | (go_at_call_of 35 (Value.int IntKind.i64 2); refine (s_pick g _ _ _ raA (by omega) (by omega) (by omega)).mono ?_; rintro e wq ⟨x, rfl, hx0, hx1, hrd, hgq⟩; have hz0 : w.heap.size < wq.heap.size := Nat.lt_of_lt_of_le ltA hgq.size; have hz1 : wa.heap.size < wq.heap.size := Nat.lt_of_lt_of_le ltA hgq.size; obtain ⟨q0, p0, q1, p1, q2, p2, q3, p3⟩ : wq.cell? ⟨w.heap.size, 0, none⟩ = some (.int .i64 0) ∧ wq.frozen? ⟨w.heap.size, 0, none⟩ = false ∧ wq.cell? ⟨w.heap.size, 1, none⟩ = some (.slice none 0 0) ∧ wq.frozen? ⟨w.heap.size, 1, none⟩ = false ∧ wq.cell? ⟨wa.heap.size, 0, none⟩ = some (.int .i64 op) ∧ wq.frozen? ⟨wa.heap.size, 0, none⟩ = false ∧ wq.cell? ⟨wa.heap.size, 1, none⟩ = some (.slice aa ds.length cc) ∧ wq.frozen? ⟨wa.heap.size, 1, none⟩ = false := ⟨gcA hgq, gfA hgq, gcA hgq, gfA hgq, gcA hgq, gfA hgq, gcA hgq, gfA hgq⟩) | (go_at_call 76; refine (s_l2Coil g _ _ raA (by omega)).mono ?_; rintro e wa ⟨op, v, ds, rfl, hop, hv, hs, hl, hrd, hga⟩; have hv1 := hv; obtain ⟨aa, cc, rfl, _, _⟩ := hv1; have hz0 : w.heap.size < wa.heap.size := Nat.lt_of_lt_of_le ltA hga.size; obtain ⟨q0, p0, q1, p1⟩ : wa.cell? ⟨w.heap.size, 0, none⟩ = some (.int .i64 0) ∧ wa.frozen? ⟨w.heap.size, 0, none⟩ = false ∧ wa.cell? ⟨w.heap.size, 1, none⟩ = some (.slice none 0 0) ∧ wa.frozen? ⟨w.heap.size, 1, none⟩ = false := ⟨gcA hga, gfA hga, gcA hga, gfA hga⟩))
 go_cut [] (fun wc => ∃ (op2 : Int) (a2 : Option Addr) (c2 : Nat) (ds2 : List Stil.Dev), (-1000000 ≤ op2 ∧ op2 ≤ 1000000) ∧ ElArgs wc w.heap.size (.slice a2 ds2.length c2) ds2 ∧ (∀ d ∈ ds2, Small d) ∧ ds2.length ≤ 3 ∧ RdAt wc g (P + 62) ∧ w.grownBy wc (some g) ∧ ElBox wc w.heap.size 0 (.slice none 0 0) ∧ ElBox wc wa.heap.size op2 (.slice a2 ds2.length c2))
 case first =>
  go_wp2_with ((go_at_call 75; refine (s_l2Contact g _ _ raA (by omega)).mono ?_; rintro e wb ⟨op2, v2, ds2, rfl, hop2, hv2, hs2, hl2, hrd, hgb⟩; have hv1 := hv2; obtain ⟨a2, c2, rfl, _, _⟩ := hv1; have hz0 : w.heap.size < wb.heap.size := Nat.lt_of_lt_of_le ltA hgb.size; have hz1 : wa.heap.size < wb.heap.size := Nat.lt_of_lt_of_le ltA hgb.size; obtain ⟨q0, p0, q1, p1, q2, p2, q3, p3⟩ : wb.cell? ⟨w.heap.size, 0, none⟩ = some (.int .i64 0) ∧ wb.frozen? ⟨w.heap.size, 0, none⟩ = false ∧ wb.cell? ⟨w.heap.size, 1, none⟩ = some (.slice none 0 0) ∧ wb.frozen? ⟨w.heap.size, 1, none⟩ = false ∧ wb.cell? ⟨wa.heap.size, 0, none⟩ = some (.int .i64 op) ∧ wb.frozen? ⟨wa.heap.size, 0, none⟩ = false ∧ wb.cell? ⟨wa.heap.size, 1, none⟩ = some (.slice aa ds.length cc) ∧ wb.frozen? ⟨wa.heap.size, 1, none⟩ = false := ⟨gcA hgb, gfA hgb, gcA hgb, gfA hgb, gcA hgb, gfA hgb, gcA hgb, gfA hgb⟩))
  ·go_meet
   exact ⟨op2, a2, c2, ds2, hop2, (ElArgs.set (by omega) (ElArgs.set (by omega) hv2)).mono (by omega), hs2, hl2, rlA, glA, ebA, ebA⟩
  ·go_meet
   exact ⟨op, aa, cc, ds, hop, ((hv.mono (by simp)).alloc _).grown hgq (by omega), hs, hl, rlA, glA, ebA, ebA⟩
 case rest =>
  clear q0 q1 p0 p1 q2 q3 p2 p3 hrd
  obtain ⟨op2, a2, c2, ds2, hop2, hv2, hs2, hl2, hrd, hgc, ⟨hz0, q0, q1, p0, p1⟩, ⟨hz1, q2, q3, p2, p3⟩⟩ := hcut
  go_wp2_with (first | (go_at_call_of 35 (Value.int IntKind.i64 16); refine (s_pick g _ _ _ raA (by omega) (by omega) (by omega)).mono ?_; rintro e wd ⟨x, rfl, hx0, hx1, hrd, hgd⟩; have hvd := hv2.grown hgd (by omega); have hz0 : w.heap.size < wd.heap.size := Nat.lt_of_lt_of_le ltA hgd.size; have hz1 : wa.heap.size < wd.heap.size := Nat.lt_of_lt_of_le ltA hgd.size; obtain ⟨q0, p0, q1, p1, q2, p2, q3, p3⟩ : wd.cell? ⟨w.heap.size, 0, none⟩ = some (.int .i64 0) ∧ wd.frozen? ⟨w.heap.size, 0, none⟩ = false ∧ wd.cell? ⟨w.heap.size, 1, none⟩ = some (.slice none 0 0) ∧ wd.frozen? ⟨w.heap.size, 1, none⟩ = false ∧ wd.cell? ⟨wa.heap.size, 0, none⟩ = some (.int .i64 op2) ∧ wd.frozen? ⟨wa.heap.size, 0, none⟩ = false ∧ wd.cell? ⟨wa.heap.size, 1, none⟩ = some (.slice a2 ds2.length c2) ∧ wd.frozen? ⟨wa.heap.size, 1, none⟩ = false := ⟨gcA hgd, gfA hgd, gcA hgd, gfA hgd, gcA hgd, gfA hgd, gcA hgd, gfA hgd⟩) | (go_at_call 77; refine (s_l2Spoil g _ op2 _ ds2 _ raA (by omega) hop2 (hvd.mono (by omega)) hs2 (by omega)).mono ?_; rintro e we ⟨op3, v3, ds3, rfl, hop3, hv3, hs3, hl3, hrd, hge⟩; have hv1 := hv3; obtain ⟨a3, c3, rfl, _, _⟩ := hv1; have hz0 : w.heap.size < we.heap.size := Nat.lt_of_lt_of_le ltA hge.size; obtain ⟨q0, p0, q1, p1⟩ : we.cell? ⟨w.heap.size, 0, none⟩ = some (.int .i64 0) ∧ we.frozen? ⟨w.heap.size, 0, none⟩ = false ∧ we.cell? ⟨w.heap.size, 1, none⟩ = some (.slice none 0 0) ∧ we.frozen? ⟨w.heap.size, 1, none⟩ = false := ⟨gcA hge, gfA hge, gcA hge, gfA hge⟩))
  ·refine bodyPost_ret (by simp [results, Tryz.results48, go_sem, q0, q1]; rfl) rfl ?_
   exact ⟨_, _, ds3, rfl, hop3, (ElArgs.set (by omega) (ElArgs.set (by omega) hv3)).mono (by omega), hs3, by omega, rlA, glA⟩
  ·refine bodyPost_ret (by simp [results, Tryz.results48, go_sem, q0, q1]; rfl) rfl ?_
   exact ⟨_, _, ds2, rfl, hop2, (ElArgs.set (by omega) (ElArgs.set (by omega) hvd)).mono (by omega), hs2, by omega, rlA, glA⟩
theorem BytesAt.below {w W : World} {u : Value} (hu : BytesAt w u) (h : Below w.heap.size w W) : BytesAt W u := by
 obtain ⟨a, len, cap, rfl, h1, h2, h3⟩ := hu
 refine ⟨a, len, cap, rfl, h1, h2, fun i hi => ?_⟩
 obtain ⟨b, o, z, e1, e2, e3, e4⟩ := h3 i hi
 exact ⟨b, o, z, e1, Nat.lt_of_lt_of_le e2 h.size, by rw [h.cell (p := ⟨b, o + i, none⟩) e2]; exact e3, e4⟩
/-- Short texts in memory, n of them in a block. -/
def LitsAt (w : World) (b n : Nat) : Prop := ∀ i, i < n → ∃ t : List UInt8, w.cell? ⟨b, i, none⟩ = some (.string ⟨t.toArray⟩) ∧ t.length ≤ 100
def litB : Value → Bool
 | .string s => decide (s.size ≤ 100)
 | _ => false
theorem lits_of (w : World) (cs : Array Value) (t : TypeId) (h : cs.toList.all litB = true) : LitsAt (w.alloc (.cells cs t)) w.heap.size cs.size := by
 intro i hi
 have hc : (w.alloc (.cells cs t)).cell? ⟨w.heap.size, i, none⟩ = some cs[i] := by simp [go_sem, hi]
 have hb := List.all_eq_true.1 h cs[i] (by simp)
 rw [hc]
 cases hv : cs[i] with
 | string s =>
  rw [hv] at hb
  simp only [litB, decide_eq_true_eq] at hb
  exact ⟨s.data.toList, by simp, by simpa using hb⟩
 | _ => rw [hv] at hb; cases hb
theorem s_of (g P b n cap : Nat) (w : World) (hr : RdAt w g P) (hP : P ≤ 1000000000000) (hat : LitsAt w b n) (hbw : b < w.heap.size) (hbg : b ≠ g) (hl1 : 1 ≤ n) (hl2 : n ≤ 1000) :
  Calls Tryz.prog 38 #[.pointer (some ⟨g, 0, none⟩), .slice (some ⟨b, 0, none⟩) n cap] w fun e w' => ∃ t : List UInt8, e = .returned (.string ⟨t.toArray⟩) ∧ t.length ≤ 100 ∧ RdAt w' g (P + 1) ∧ w.grownBy w' (some g) := by
 have HA : Hid (LitsAt w b n) := hat
 clear hat
 go_enter Tryz.func38, Tryz.ntmps38
 go_wp2_with (go_at_call 35; refine (s_pick g P _ _ hr hP (by omega) (by omega)).mono ?_; rintro e w1 ⟨x, rfl, hx0, hx1, hrd, hgr⟩; obtain ⟨j, rfl⟩ := Int.eq_ofNat_of_zero_le hx0; have hj : j < n := (by omega); obtain ⟨t, ht, htl⟩ := HA.out j hj; have hc : w1.cell? ⟨b, j, none⟩ = some (.string ⟨t.toArray⟩) := (by rw [grown_cell hgr hbw hbg]; exact ht))
 go_ret
 exact ⟨t, rfl, htl, hrd, hgr⟩
end Go.Proofs.YtipdjmbgbehkaaaGreatDoor
