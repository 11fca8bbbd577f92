/- D22, D24: texts put together. -/
import Derived.Test.YtenoanhonjdpjaaGreatDoorD21
import Derived.Deep.RegionLaw
set_option maxHeartbeats 4000000
set_option maxRecDepth 100000
/- Contracts of the specification's draws: any ladder; the draws out of a code. -/
namespace Go.Proofs.YtenoanhonjdpjaaGreatDoor
open Go.RowKit Go.Sort Go.BigFrame
theorem s_l3Any (g P : Nat) (w : World) (hr : RdAt w g P) (hP : P ≤ 1000000) :
  Calls Tryz.prog 37 #[.pointer (some ⟨g, 0, none⟩)] w fun e w' => LadOut e w w' g (P + 400000) 6000 104 := by
 have hg := rd_lt hr
 go_enter Tryz.func37, Tryz.ntmps37
 go_upto_region 2 with (go_at_call 30; refine (s_l3Ladder g _ _ raA (by omega)).mono ?_; rintro e w1 ⟨l, v, rfl, hav, ht, hl, hrd1, hgr1⟩; obtain ⟨a1, c1, rfl, -⟩ := id hav)
 have HAV : Hid (ArmsIn (fun b => w.heap.size ≤ b) w1 (.slice a1 l.length c1) l) := hav
 have HT : Hid (∀ a ∈ l, ATame a ∧ Stil.armSz a ≤ 4000) := ht
 clear hav ht
 have s1 := hgr1.size
 go_wp2_with (first | (go_at_call_of 31 (Value.int IntKind.i64 16); refine (s_pick g _ _ _ hrd1 (by omega) (by omega) (by omega)).mono ?_; rintro e w2 ⟨x, rfl, hx0, hx1, hrd2, hgr2⟩; have s2 := hgr2.size; have HAV2 : Hid (ArmsIn (fun b => w.heap.size ≤ b) w2 (.slice a1 l.length c1) l) := HAV.out.keep (KeepsIn.of_grown hgr2 (fun b hb e => (by simp only [Option.some.injEq] at e; omega))); have HSP : Hid (Calls Tryz.prog 32 #[.pointer (some ⟨g, 0, none⟩), .slice a1 l.length c1] w2 fun e w' => LadOutQ (fun b => w.heap.size ≤ b) e w2 w' g (P + 60000 + 1 + 300000) 6000 104) := s_l3Spoil _ g (P + 60000 + 1) 4000 4 w2 _ l (fun b hb => (by omega)) HAV2.out HT.out hl (by omega) (by omega) hrd2 (by omega)) | (go_at_call 32; refine HSP.out.mono ?_; rintro e w3 ⟨l3, v3, rfl, hav3, ht3, hl3, hrd3, hgr3⟩))
 ·go_ret
  refine ⟨l3, _, rfl, hav3.mono fun b _ h => ?_, ht3, hl3, rd_mono hrd3 (by omega), gr_call (gr_call hgr1 hgr2) hgr3⟩
  rcases h with h | h
  ·exact h.1
  ·omega
 ·go_ret
  exact ⟨l, _, rfl, HAV2.out, fun a ha => ⟨(HT.out a ha).1, by have := (HT.out a ha).2; omega⟩, by omega, rd_mono hrd2 (by omega), gr_call hgr1 hgr2⟩
/-- What a draw out of a code leaves: a ladder of small numbers. -/
def LadNew (e : Ending) (w w' : World) (N k : Nat) : Prop := ∃ (l : List Stil.Arm) (v : Value), e = .returned v ∧ ArmsAt w' v l ∧ (∀ a ∈ l, ATame a ∧ Stil.armSz a ≤ N) ∧ l.length ≤ k ∧ Below w.heap.size w w'
theorem gr_new {w w' : World} {g : Nat} (h : w.grownBy w' (some g)) (hg : w.heap.size ≤ g) : Below w.heap.size w w' := ⟨h.os, h.tape, h.output, h.size, fun k hk => h.block k hk (by intro e; cases e; omega)⟩
theorem s_drawNormMake (u : Value) (w : World) (hu : BytesAt w u) :
  Calls Tryz.prog 18 #[u] w fun e w' => LadNew e w w' 6000 104 := by
 have HU : Hid (BytesAt w u) := hu
 obtain ⟨ua, ul, uc, rfl, -, -, -⟩ := hu
 go_enter Tryz.func18, Tryz.ntmps18
 go_wp2_with (first | (go_at_call 29; refine (s_l9Open _ _ HU.out).mono ?_; rintro e w0 ⟨rfl, hrd0, hb0⟩) | (go_at_call 37; refine (s_l3Any w.heap.size 0 _ hrd0 (by omega)).mono ?_; rintro e w1 ⟨l, v, rfl, hav, ht, hl, hrd1, hgr1⟩))
 go_ret
 exact ⟨l, _, rfl, hav.at, ht, hl, gr_new (gr_call (grown_below hb0 _) hgr1) (Nat.le_refl _)⟩
theorem s_drawTreeUses (u : Value) (w : World) (hu : BytesAt w u) :
  Calls Tryz.prog 14 #[u] w fun e w' => ∃ (l : List Stil.Arm) (v : Value) (d : Stil.Dev), e = .returned (.tuple #[v, .agg #[.int .i64 d.kind, .int .i64 d.n, .int .i64 d.p]]) ∧ Small d ∧ ArmsAt w' v l ∧ Below w.heap.size w w' := by
 have HU : Hid (∀ W, Below w.heap.size w W → BytesAt W u) := fun W h => hu.below h
 obtain ⟨ua, ul, uc, rfl, -, -, -⟩ := hu
 go_enter Tryz.func14, Tryz.ntmps14
 go_upto_region 2 with (go_at_call 29; refine (s_l9Open _ _ (HU.out _ blB)).mono ?_; rintro e w0 ⟨rfl, hrd, hb0⟩)
 obtain ⟨g, hgd⟩ : ∃ g, g = (w.alloc (.cells #[.int .i64 0, .int .i64 0, .int .i64 0] 42)).heap.size := ⟨_, rfl⟩
 have hgs : g = w.heap.size + 1 := by rw [hgd]; simp
 have hz0 : w.heap.size < w0.heap.size := Nat.lt_of_lt_of_le (by simp) hb0.size
 have hB0 : DevBox w0 w.heap.size ⟨0, 0, 0⟩ := by
  refine ⟨hz0, ?_⟩
  refine ⟨?_, ?_, ?_, ?_, ?_, ?_⟩ <;> first | (refine (hb0.cell (p := ⟨w.heap.size, _, none⟩) (by simp)).trans ?_; simp [go_sem]) | (refine (hb0.frozen (p := ⟨w.heap.size, _, none⟩) (by simp)).trans ?_; simp [go_sem])
 rw [← hgd] at hrd
 have hg0 : w.grownBy w0 (some g) := grown_below (below_two hb0) _
 have hg := rd_lt hrd
 rw [← hgs]
 have hgl : w.heap.size < g := by omega
 clear hgs hgd hb0
 go_upto_region 3 with (go_at_call 38; refine (s_l1Any g 0 _ hrd (by omega)).mono ?_; rintro e w1 ⟨d, rfl, hd, hrd1, hgr1⟩)
 obtain ⟨W1, hW1⟩ : ∃ W1, W1 = w1.alloc (.cells #[.int .i64 d.kind, .int .i64 d.n, .int .i64 d.p] 42) := ⟨_, rfl⟩
 have hs0 := hgr1.size
 have hbb : w.heap.size < w1.heap.size := by omega
 have hB1 : DevBox W1 w.heap.size ⟨0, 0, 0⟩ := by
  obtain ⟨_, h0, h1, h2, h3, h4, h5⟩ := hB0.grown hgr1 (by omega)
  rw [hW1]
  exact ⟨by simp; omega, (cell_alloc_old hbb).trans h0, (cell_alloc_old hbb).trans h1, (cell_alloc_old hbb).trans h2, (frozen_alloc_old hbb).trans h3, (frozen_alloc_old hbb).trans h4, (frozen_alloc_old hbb).trans h5⟩
 have hB2 : DevBox W1 w1.heap.size d := by
  rw [hW1]
  exact ⟨by simp, by simp [go_sem], by simp [go_sem], by simp [go_sem], by simp [go_sem], by simp [go_sem], by simp [go_sem]⟩
 have hrd2 : RdAt W1 g 8 := by rw [hW1]; exact rd_alloc hrd1 _
 have hgw : w.grownBy W1 (some g) := by rw [hW1]; exact gr_alloc (gr_call hg0 hgr1) _
 have hgx : g ≠ w1.heap.size := by omega
 rw [← hW1]
 obtain ⟨b, hb⟩ : ∃ b, b = w1.heap.size := ⟨_, rfl⟩
 rw [← hb] at hB2 hgx ⊢
 obtain ⟨n0, hn0⟩ : ∃ n0, n0 = w.heap.size := ⟨_, rfl⟩
 have hbn : ¬ b = n0 := by omega
 have hbn2 : ¬ n0 = b := by omega
 have hgn : n0 < g := by omega
 rw [← hn0] at hB1 ⊢
 obtain ⟨l0, q0, q1, q2, p0, p1, p2⟩ := id hB1
 obtain ⟨l1, r0, r1, r2, -, -, -⟩ := id hB2
 have HB1 : Hid (DevBox W1 n0 ⟨0, 0, 0⟩) := hB1
 have HB2 : Hid (DevBox W1 b d) := hB2
 have HN : Hid (n0 = w.heap.size) := hn0
 clear hB1 hB2 hW1 hb hn0 hB0 hrd hrd1 hg0 hgr1 hs0 hbb hz0 hg hgl
 go_region_law (first | (go_simp; go_at_call 37; refine (s_l3Any g 8 _ raA (by omega)).mono ?_; rintro e w2 ⟨l, v, rfl, hav, ht, hl, hrd3, hgr4⟩; have hgr3 : W1.grownBy w2 (some g) := glA; obtain ⟨a1, c1, rfl, -⟩ := id hav; obtain ⟨k0, q0, q1, q2, p0, p1, p2⟩ := HB1.out.grown hgr3 (by omega); obtain ⟨k1, r0, r1, r2, -, -, -⟩ := HB2.out.grown hgr3 (by omega); have HAV : Hid (ArmsIn (fun b => W1.drew.heap.size ≤ b) w2 (.slice a1 l.length c1) l) := hav; clear hav))
 all_goals
  go_wp2
  have hnw : w.heap.size ≤ n0 := Nat.le_of_eq HN.out.symm
  have hz1 : W1.drew.heap.size = W1.heap.size := by simp
  have hkc : KeepsIn (fun b => W1.drew.heap.size ≤ b) w2 (((w2.setCell ⟨n0, 0, none⟩ (.int .i64 d.kind)).setCell ⟨n0, 1, none⟩ (.int .i64 d.n)).setCell ⟨n0, 2, none⟩ (.int .i64 d.p)) := ((KeepsIn.set (by omega) _).trans (KeepsIn.set (by omega) _)).trans (KeepsIn.set (by omega) _)
  refine bodyPost_ret (v := .tuple #[_, .agg #[.int .i64 d.kind, .int .i64 d.n, .int .i64 d.p]]) (by simp [results, Tryz.results14, go_sem, q0, q1, q2]; rfl) rfl ?_
  refine ⟨l, _, d, rfl, hd, (HAV.out.keep hkc).at, gr_new (g := g) ?_ (by omega)⟩
  (repeat (first | with_reducible exact grown_refl _ _ | with_reducible assumption | with_reducible refine gr_set (by first | exact Nat.le_refl _ | (simp; done) | (simp; omega) | omega) ?_ _ | with_reducible refine gr_alloc ?_ _ | with_reducible refine gr_drewN ?_ _ | with_reducible refine gr_drew ?_ | with_reducible refine gr_call ?_ (by with_reducible assumption)))
end Go.Proofs.YtenoanhonjdpjaaGreatDoor
