/- D22, D23, D24: texts put together. -/
import Derived.Test.YtenoanhonjdpjaaGreatDoorD21
import Derived.Test.YtenoanhonjdpjaaGreatDoorGH
import Derived.Deep.RegionLaw
/- Contracts of the specification's draws: any ladder; the draws out of a code. -/
namespace Go.Proofs.YtenoanhonjdpjaaGreatDoor
open Go.RowKit Go.Sort Go.BigFrame
set_option maxHeartbeats 2000000 in
set_option maxRecDepth 100000 in
theorem s_l3Any (g P : Nat) (w : World) (hr : RdAt w g P) (hP : P ≤ 1000000) :
    Calls Tryz.prog 37 #[.pointer (some ⟨g, 0, none⟩)] w fun e w' => LadOut e w w' g (P + 400000) 6000 104 := by
  have hg := rd_lt hr
  go_enter Tryz.func37, Tryz.ntmps37
  go_upto_region 2 with (go_at_call 30; refine (s_l3Ladder g _ _ (by (repeat first | with_reducible (first | assumption | apply rd_alloc | apply rd_drewN | apply rd_drew) | (with_reducible apply rd_set'; first | omega | (simp; omega)))) (by omega)).mono ?_; rintro e w1 ⟨l, v, rfl, hav, ht, hl, hrd1, hgr1⟩; obtain ⟨a1, c1, rfl, -⟩ := id hav)
  have HAV : Hid (ArmsIn (fun b => w.heap.size ≤ b) w1 (.slice a1 l.length c1) l) := hav
  have HT : Hid (∀ a ∈ l, ATame a ∧ Stil.armSz a ≤ 4000) := ht
  clear hav ht
  have s1 := hgr1.size
  go_wp2_with (first | (go_at_call_of 31 (Value.int IntKind.i64 16); refine (s_pick g _ _ _ hrd1 (by omega) (by omega) (by omega)).mono ?_; rintro e w2 ⟨x, rfl, hx0, hx1, hrd2, hgr2⟩; have s2 := hgr2.size; have HAV2 : Hid (ArmsIn (fun b => w.heap.size ≤ b) w2 (.slice a1 l.length c1) l) := HAV.out.keep (KeepsIn.of_grown hgr2 (fun b hb e => (by simp only [Option.some.injEq] at e; omega))); have HSP : Hid (Calls Tryz.prog 32 #[.pointer (some ⟨g, 0, none⟩), .slice a1 l.length c1] w2 fun e w' => LadOutQ (fun b => w.heap.size ≤ b) e w2 w' g (P + 60000 + 1 + 300000) 6000 104) := s_l3Spoil _ g (P + 60000 + 1) 4000 4 w2 _ l (fun b hb => (by omega)) HAV2.out HT.out hl (by omega) (by omega) hrd2 (by omega)) | (go_at_call 32; refine HSP.out.mono ?_; rintro e w3 ⟨l3, v3, rfl, hav3, ht3, hl3, hrd3, hgr3⟩))
  · go_ret
    refine ⟨l3, _, rfl, hav3.mono fun b _ h => ?_, ht3, hl3, rd_mono hrd3 (by omega), gr_call (gr_call hgr1 hgr2) hgr3⟩
    rcases h with h | h
    · exact h.1
    · omega
  · go_ret
    exact ⟨l, _, rfl, HAV2.out, fun a ha => ⟨(HT.out a ha).1, by have := (HT.out a ha).2; omega⟩, by omega, rd_mono hrd2 (by omega), gr_call hgr1 hgr2⟩
theorem gr_new {w w' : World} {g : Nat} (h : w.grownBy w' (some g)) (hg : w.heap.size ≤ g) : Below w.heap.size w w' := ⟨h.os, h.tape, h.output, h.size, fun k hk => h.block k hk (by intro e; cases e; omega)⟩
set_option maxHeartbeats 2000000 in
set_option maxRecDepth 100000 in
theorem s_drawTreeSame (u : Value) (w : World) (hu : BytesAt w u) :
    Calls Tryz.prog 13 #[u] w fun e w' => ∃ (la lb : List Stil.Arm) (va vb : Value), e = .returned (.tuple #[va, vb]) ∧ ArmsAt w' va la ∧ ArmsAt w' vb lb ∧ (∀ a ∈ la, ATame a ∧ Stil.armSz a ≤ 8000) ∧ la.length ≤ 204 ∧ (∀ a ∈ lb, ATame a ∧ Stil.armSz a ≤ 8000) ∧ lb.length ≤ 204 ∧ Below w.heap.size w w' := by
  have HU : Hid (BytesAt w u) := hu
  obtain ⟨ua, ul, uc, rfl, -, -, -⟩ := hu
  go_enter Tryz.func13, Tryz.ntmps13
  go_upto_region 2 with (go_at_call 29; refine (s_l9Open _ _ HU.out).mono ?_; rintro e w0 ⟨rfl, hrd0, hb0⟩)
  obtain ⟨g, hg⟩ : ∃ g, g = w.heap.size := ⟨_, rfl⟩
  rw [← hg] at hrd0
  rw [← hg]
  have hgl : w.heap.size ≤ g := by omega
  have hgz := rd_lt hrd0
  have hgr0 : w.grownBy w0 (some g) := grown_below hb0 _
  clear hg hb0 HU
  go_upto_region 3 with (go_at_call 37; refine (s_l3Any g 0 _ hrd0 (by omega)).mono ?_; rintro e w1 ⟨l, v, rfl, hav, ht, hl, hrd1, hgr1⟩; obtain ⟨a1, c1, rfl, -⟩ := id hav)
  have HAV : Hid (ArmsIn (fun b => w0.heap.size ≤ b) w1 (.slice a1 l.length c1) l) := hav
  have HT : Hid (∀ a ∈ l, ATame a ∧ Stil.armSz a ≤ 6000) := ht
  have s1 := hgr1.size
  clear hav ht
  go_wp2_with (first | (go_at_call_of 31 (Value.int IntKind.i64 2); refine (s_pick g _ _ _ hrd1 (by omega) (by omega) (by omega)).mono ?_; rintro e w2 ⟨x, rfl, hx0, hx1, hrd2, hgr2⟩; have s2 := hgr2.size; have HAV2 : Hid (ArmsIn (fun b => w0.heap.size ≤ b) w2 (.slice a1 l.length c1) l) := HAV.out.keep (KeepsIn.of_grown hgr2 (fun b hb e => (by simp only [Option.some.injEq] at e; omega))); have HSP : Hid (Calls Tryz.prog 32 #[.pointer (some ⟨g, 0, none⟩), .slice a1 l.length c1] w2 fun e w' => LadOutQ (fun b => w0.heap.size ≤ b) e w2 w' g (0 + 400000 + 1 + 300000) 8000 204) := s_l3Spoil _ g (0 + 400000 + 1) 6000 104 w2 _ l (fun b hb => (by omega)) HAV2.out HT.out hl (by omega) (by omega) hrd2 (by omega)) | (go_at_call 32; refine HSP.out.mono ?_; rintro e w3 ⟨l3, v3, rfl, hav3, ht3, hl3, hrd3, hgr3⟩) | (at_builtin; refine wpList_copy_arms rfl _ _ rfl (fun b => w0.heap.size ≤ b) w2 l (.slice a1 l.length c1) rfl rfl rfl HAV2.out (by omega) ?_; intro bb cc w3 xs hown hrow hbb1 hbb2 hgr3))
  · have hkc : KeepsIn (fun b => w0.heap.size ≤ b) w2 w3 := KeepsIn.of_grown hgr3 (fun b hb e => by simp only [Option.some.injEq] at e; omega)
    refine bodyPost_ret (v := .tuple #[_, _]) (by simp [results, Tryz.results13, go_sem]; exact ⟨rfl, rfl⟩) rfl ?_
    exact ⟨l, l3, _, _, rfl, (HAV2.out.keep hkc).at, hav3.at, fun a ha => ⟨(HT.out a ha).1, by have := (HT.out a ha).2; omega⟩, by omega, ht3, hl3, gr_new (gr_call (gr_call (gr_call hgr0 hgr1) hgr2) hgr3) hgl⟩
  · have hkc : KeepsIn (fun b => b < w2.heap.size) w2 w3 := (KeepsIn.of_below (below_alloc _ _)).trans (KeepsIn.of_grown hgr3 (fun b hb e => by simp only [Option.some.injEq] at e; omega))
    have hla : ArmsIn (fun b => b < w2.heap.size) w3 (.slice a1 l.length c1) l := (HAV2.out.mono fun b hb _ => hb).keep hkc
    have hlb : ArmsIn (fun _ => True) w3 (.slice (some ⟨bb, 0, none⟩) l.length cc) l := armsIn_of_row hown (hrow.imp fun _ _ _ h => h.mono fun _ _ _ => trivial) (fun _ _ => trivial)
    have hta : ∀ a ∈ l, ATame a ∧ Stil.armSz a ≤ 8000 := fun a ha => ⟨(HT.out a ha).1, by have := (HT.out a ha).2; omega⟩
    refine bodyPost_ret (v := .tuple #[_, _]) (by simp [results, Tryz.results13, go_sem]; exact ⟨rfl, rfl⟩) rfl ?_
    exact ⟨l, l, _, _, rfl, hla.at, hlb.at, hta, by omega, hta, by omega, gr_new (gr_own (gr_alloc (gr_call (gr_call hgr0 hgr1) hgr2) _) hgr3 (fun k hk => by simp only [Option.some.injEq] at hk; omega)) hgl⟩
set_option maxHeartbeats 2000000 in
set_option maxRecDepth 100000 in
theorem s_drawTreeUses (u : Value) (w : World) (hu : BytesAt w u) :
    Calls Tryz.prog 14 #[u] w fun e w' => ∃ (l : List Stil.Arm) (v : Value) (d : Stil.Dev), e = .returned (.tuple #[v, .agg #[.int .i64 d.kind, .int .i64 d.n, .int .i64 d.p]]) ∧ Small d ∧ ArmsAt w' v l ∧ Below w.heap.size w w' := by
  have HU : Hid (∀ W, Below w.heap.size w W → BytesAt W u) := fun W h => hu.below h
  obtain ⟨ua, ul, uc, rfl, -, -, -⟩ := hu
  go_enter Tryz.func14, Tryz.ntmps14
  go_upto_region 2 with (go_at_call 29; refine (s_l9Open _ _ (HU.out _ (by (repeat first | exact Below.refl _ _ | assumption | refine bl_alloc ?_ _ | refine bl_drewN ?_ _ | refine bl_drew ?_ | refine bl_grow ?_ _ _ | refine bl_set (Nat.le_refl _) ?_ _ | refine bl_call ?_ (by assumption))))).mono ?_; rintro e w0 ⟨rfl, hrd, hb0⟩)
  obtain ⟨g, hgd⟩ : ∃ g, g = (w.alloc (.cells #[.int .i64 0, .int .i64 0, .int .i64 0] 42)).heap.size := ⟨_, rfl⟩
  have hgs : g = w.heap.size + 1 := by rw [hgd]; simp
  have hz0 : w.heap.size < w0.heap.size := Nat.lt_of_lt_of_le (by simp) hb0.size
  have hB0 : DevBox w0 w.heap.size ⟨0, 0, 0⟩ := by
    refine ⟨hz0, ?_⟩
    refine ⟨?_, ?_, ?_, ?_, ?_, ?_⟩ <;> first | (refine (hb0.cell (p := ⟨w.heap.size, _, none⟩) (by simp)).trans ?_; simp [go_sem]) | (refine (hb0.frozen (p := ⟨w.heap.size, _, none⟩) (by simp)).trans ?_; simp [go_sem])
  rw [← hgd] at hrd
  have hg0 : w.grownBy w0 (some g) := grown_below (below_two hb0) _
  have hg := rd_lt hrd
  rw [← hgs]
  have hgl : w.heap.size < g := by omega
  clear hgs hgd hb0
  go_upto_region 3 with (go_at_call 38; refine (s_l1Any g 0 _ hrd (by omega)).mono ?_; rintro e w1 ⟨d, rfl, hd, hrd1, hgr1⟩)
  obtain ⟨W1, hW1⟩ : ∃ W1, W1 = w1.alloc (.cells #[.int .i64 d.kind, .int .i64 d.n, .int .i64 d.p] 42) := ⟨_, rfl⟩
  have hs0 := hgr1.size
  have hbb : w.heap.size < w1.heap.size := by omega
  have hB1 : DevBox W1 w.heap.size ⟨0, 0, 0⟩ := by
    obtain ⟨_, h0, h1, h2, h3, h4, h5⟩ := hB0.grown hgr1 (by omega)
    rw [hW1]
    exact ⟨by simp; omega, (cell_alloc_old hbb).trans h0, (cell_alloc_old hbb).trans h1, (cell_alloc_old hbb).trans h2, (frozen_alloc_old hbb).trans h3, (frozen_alloc_old hbb).trans h4, (frozen_alloc_old hbb).trans h5⟩
  have hB2 : DevBox W1 w1.heap.size d := by
    rw [hW1]
    exact ⟨by simp, by simp [go_sem], by simp [go_sem], by simp [go_sem], by simp [go_sem], by simp [go_sem], by simp [go_sem]⟩
  have hrd2 : RdAt W1 g 8 := by rw [hW1]; exact rd_alloc hrd1 _
  have hgw : w.grownBy W1 (some g) := by rw [hW1]; exact gr_alloc (gr_call hg0 hgr1) _
  have hgx : g ≠ w1.heap.size := by omega
  rw [← hW1]
  obtain ⟨b, hb⟩ : ∃ b, b = w1.heap.size := ⟨_, rfl⟩
  rw [← hb] at hB2 hgx ⊢
  obtain ⟨n0, hn0⟩ : ∃ n0, n0 = w.heap.size := ⟨_, rfl⟩
  have hbn : ¬ b = n0 := by omega
  have hbn2 : ¬ n0 = b := by omega
  have hgn : n0 < g := by omega
  rw [← hn0] at hB1 ⊢
  obtain ⟨l0, q0, q1, q2, p0, p1, p2⟩ := id hB1
  obtain ⟨l1, r0, r1, r2, -, -, -⟩ := id hB2
  have HB1 : Hid (DevBox W1 n0 ⟨0, 0, 0⟩) := hB1
  have HB2 : Hid (DevBox W1 b d) := hB2
  have HN : Hid (n0 = w.heap.size) := hn0
  clear hB1 hB2 hW1 hb hn0 hB0 hrd hrd1 hg0 hgr1 hs0 hbb hz0 hg hgl
  go_region_law (first | (go_simp; go_at_call 37; refine (s_l3Any g 8 _ (by (repeat first | with_reducible (first | assumption | apply rd_alloc | apply rd_drewN | apply rd_drew) | (with_reducible apply rd_set'; first | omega | (simp; omega)))) (by omega)).mono ?_; rintro e w2 ⟨l, v, rfl, hav, ht, hl, hrd3, hgr4⟩; have hgr3 : W1.grownBy w2 (some g) := (by (repeat with_reducible first | exact grown_refl _ _ | assumption | refine gr_set (by first | exact Nat.le_refl _ | (simp; done) | (simp; omega) | omega) ?_ _ | refine gr_alloc ?_ _ | refine gr_drewN ?_ _ | refine gr_drew ?_ | refine gr_call ?_ (by assumption))); obtain ⟨a1, c1, rfl, -⟩ := id hav; obtain ⟨k0, q0, q1, q2, p0, p1, p2⟩ := HB1.out.grown hgr3 (by omega); obtain ⟨k1, r0, r1, r2, -, -, -⟩ := HB2.out.grown hgr3 (by omega); have HAV : Hid (ArmsIn (fun b => W1.drew.heap.size ≤ b) w2 (.slice a1 l.length c1) l) := hav; clear hav))
  all_goals
    go_wp2
    have hnw : w.heap.size ≤ n0 := Nat.le_of_eq HN.out.symm
    have hz1 : W1.drew.heap.size = W1.heap.size := by simp
    have hkc : KeepsIn (fun b => W1.drew.heap.size ≤ b) w2 (((w2.setCell ⟨n0, 0, none⟩ (.int .i64 d.kind)).setCell ⟨n0, 1, none⟩ (.int .i64 d.n)).setCell ⟨n0, 2, none⟩ (.int .i64 d.p)) := ((KeepsIn.set (by omega) _).trans (KeepsIn.set (by omega) _)).trans (KeepsIn.set (by omega) _)
    refine bodyPost_ret (v := .tuple #[_, .agg #[.int .i64 d.kind, .int .i64 d.n, .int .i64 d.p]]) (by simp [results, Tryz.results14, go_sem, q0, q1, q2]; rfl) rfl ?_
    refine ⟨l, _, d, rfl, hd, (HAV.out.keep hkc).at, gr_new (g := g) ?_ (by omega)⟩
    (repeat with_reducible first | exact grown_refl _ _ | assumption | refine gr_set (by first | exact Nat.le_refl _ | (simp; done) | (simp; omega) | omega) ?_ _ | refine gr_alloc ?_ _ | refine gr_drewN ?_ _ | refine gr_drew ?_ | refine gr_call ?_ (by assumption))
end Go.Proofs.YtenoanhonjdpjaaGreatDoor
