/- The specification's chapter 4: the normal form of one net: a NetNot. -/
import Derived.Test.YthhfnncehfkbfaaDoorY6a
import Derived.Test.YthhfnncehfkbfaaDoorM8b
namespace Go.Proofs.YthhfnncehfkbfaaDoor
open Go.RowKit Go.Sort Go.BigFrame
theorem MOwn.set4 {w : World} {base b o1 o2 o3 o4 : Nat} {m : MNet} {u1 u2 u3 u4 : Value} (h : MOwn w base m) (hb : b < base) : MOwn ((((w.setCell ⟨b, o1, none⟩ u1).setCell ⟨b, o2, none⟩ u2).setCell ⟨b, o3, none⟩ u3).setCell ⟨b, o4, none⟩ u4) base m := ⟨h.1.set4 hb, h.2⟩
theorem MRow.single4 {w : World} {base b : Nat} {m : MNet} {u1 u2 u3 u4 : Value} (h : MOwn w base m) (hb : b < base) (hw : base ≤ w.heap.size) : MRow (((((w.setCell ⟨b, 0, none⟩ u1).setCell ⟨b, 1, none⟩ u2).setCell ⟨b, 2, none⟩ u3).setCell ⟨b, 3, none⟩ u4).alloc (.cells #[.int .i64 m.kind, .int .i64 m.op, m.av, m.kv] 34)) base (.slice (some ⟨w.heap.size, 0, none⟩) 1 1) [m] := by
  have hm := MRow.single (w := (((w.setCell ⟨b, 0, none⟩ u1).setCell ⟨b, 1, none⟩ u2).setCell ⟨b, 2, none⟩ u3).setCell ⟨b, 3, none⟩ u4) (base := base) (m := m) (h.set4 hb) (by simp only [World.size_setCell]; exact hw)
  simpa only [World.size_setCell] using hm
set_option maxHeartbeats 4000000 in
set_option maxRecDepth 100000 in
theorem s_l4not (x : Stil.Net) (av kv : Value) (w : World) (hav : DevsAt w av []) (hkv : NetsAt w kv [x]) (hxw : ∀ (av kv : Value) (w : World), DevsAt w av x.one.args → NetsAt w kv x.kids → Calls Tryd.prog 15 #[.agg #[.int .i64 x.kind, .int .i64 x.one.op, av, kv]] w fun e w' => NetRet w' w.heap.size (Stil.normNet x) e ∧ Below w.heap.size w w') :
    Calls Tryd.prog 15 #[.agg #[.int .i64 4, .int .i64 0, av, kv]] w fun e' w' => NetRet w' w.heap.size (Stil.normNet ⟨4, ⟨0, []⟩, [x]⟩) e' ∧ Below w.heap.size w w' := by
  have HN : Hid (Stil.normNet ⟨4, ⟨0, []⟩, [x]⟩ = ⟨4, ⟨0, []⟩, [Stil.normNet x]⟩) := by show _ = _; rw [Stil.normNet_eq, if_neg (by omega)]; rfl
  obtain ⟨p1, r1, rfl, hx0⟩ := hkv
  obtain ⟨b, o, rfl, hbl, hn⟩ := hx0 0 (by simp)
  simp only [List.getElem_cons_zero, Nat.zero_mul, Nat.add_zero] at hn
  obtain ⟨x0, x1, xav, xkv, x2, x3, hxa, hxk⟩ := hn.open
  have HI : Hid (∀ W, Below w.heap.size w W → Calls Tryd.prog 15 #[.agg #[.int .i64 x.kind, .int .i64 x.one.op, xav, xkv]] W fun e' w' => NetRet w' W.heap.size (Stil.normNet x) e' ∧ Below W.heap.size W w') := fun W hW => hxw xav xkv W (hxa.below hW) (hxk.below hW)
  obtain ⟨p0, r0, rfl, hz8⟩ := hav
  obtain ⟨p2, r2, rfl, hz7⟩ := hxa
  obtain ⟨p3, r3, rfl, hz9⟩ := hxk
  clear hz8 hz7 hz9
  obtain ⟨N, hN⟩ : ∃ N, N = Stil.normNet x := ⟨_, rfl⟩
  rw [← hN] at HI HN
  clear hxw hN hn hx0
  go_enter Tryd.func15, Tryd.ntmps15
  go_upto_region 6 with fail
  obtain ⟨W, hW⟩ : ∃ W, W = (w.alloc (.cells #[.int .i64 4, .int .i64 0, .slice p0 0 r0, .slice (some ⟨b, o, none⟩) 1 r1] 34)).alloc (.cells #[.int .i64 0, .int .i64 0, .slice none 0 0, .slice none 0 0] 34) := ⟨_, rfl⟩
  rw [← hW]
  have q0 : W.cell? ⟨w.heap.size, 0, none⟩ = some (.int .i64 4) := by rw [hW]; simp [go_sem]
  have q1 : W.cell? ⟨w.heap.size, 1, none⟩ = some (.int .i64 0) := by rw [hW]; simp [go_sem]
  have q2 : W.cell? ⟨w.heap.size, 2, none⟩ = some (.slice p0 0 r0) := by rw [hW]; simp [go_sem]
  have q3 : W.cell? ⟨w.heap.size, 3, none⟩ = some (.slice (some ⟨b, o, none⟩) 1 r1) := by rw [hW]; simp [go_sem]
  have tt0 : W.cell? ⟨w.heap.size + 1, 0, none⟩ = some (.int .i64 0) := by rw [hW]; simp [go_sem]
  have tt1 : W.cell? ⟨w.heap.size + 1, 1, none⟩ = some (.int .i64 0) := by rw [hW]; simp [go_sem]
  have tt2 : W.cell? ⟨w.heap.size + 1, 2, none⟩ = some (.slice none 0 0) := by rw [hW]; simp [go_sem]
  have tt3 : W.cell? ⟨w.heap.size + 1, 3, none⟩ = some (.slice none 0 0) := by rw [hW]; simp [go_sem]
  have v0 : W.frozen? ⟨w.heap.size + 1, 0, none⟩ = false := by rw [hW]; simp [go_sem]
  have v1 : W.frozen? ⟨w.heap.size + 1, 1, none⟩ = false := by rw [hW]; simp [go_sem]
  have v2 : W.frozen? ⟨w.heap.size + 1, 2, none⟩ = false := by rw [hW]; simp [go_sem]
  have v3 : W.frozen? ⟨w.heap.size + 1, 3, none⟩ = false := by rw [hW]; simp [go_sem]
  have hsW : W.heap.size = w.heap.size + 2 := by rw [hW]; simp
  have hBW : Below w.heap.size w W := by rw [hW]; exact bl_alloc (below_alloc _ _) _
  have HSW : Hid (W.heap.size = w.heap.size + 2) := hsW
  have hl0 : w.heap.size < W.heap.size := by omega
  have hl1 : w.heap.size + 1 < W.heap.size := by omega
  have x0 : W.cell? ⟨b, o, none⟩ = some (.int .i64 x.kind) := (hBW.cell (p := ⟨b, o, none⟩) hbl).trans x0
  have x1 : W.cell? ⟨b, o + 1, none⟩ = some (.int .i64 x.one.op) := (hBW.cell (p := ⟨b, o + 1, none⟩) hbl).trans x1
  have x2 : W.cell? ⟨b, o + 2, none⟩ = some (.slice p2 x.one.args.length r2) := (hBW.cell (p := ⟨b, o + 2, none⟩) hbl).trans x2
  have x3 : W.cell? ⟨b, o + 3, none⟩ = some (.slice p3 x.kids.length r3) := (hBW.cell (p := ⟨b, o + 3, none⟩) hbl).trans x3
  clear hW hsW
  go_region_law (go_simp; go_at_call 15; refine (HI.out _ (by exact hBW.drew)).mono ?_; rintro e w1 ⟨⟨mk, mop, mds, s0, t0, s1, t1, mks, rfl, hmo, hmn⟩, hb1⟩; have hb5 : Below W.heap.size W w1 := ((Below.refl W.heap.size W).drew).trans hb1; have hz5 : w.heap.size + 2 ≤ w1.heap.size := (by have := HSW.out; have := hb5.size; omega); have hz6 : w.heap.size + 1 < w1.heap.size := (by omega); have hz7 : w.heap.size < w1.heap.size := (by omega); have HMO : Hid (MOwn w1 W.heap.size ⟨mk, mop, mds, .slice s0 mds.length t0, .slice s1 mks.length t1, mks⟩) := hmo; have HMN : Hid ((MNet.mk mk mop mds (.slice s0 mds.length t0) (.slice s1 mks.length t1) mks).net = N) := hmn; clear hmo hmn; have y0 : w1.cell? ⟨w.heap.size, 0, none⟩ = some (.int .i64 4) := (hb5.cell (p := ⟨w.heap.size, 0, none⟩) hl0).trans q0; have y1 : w1.cell? ⟨w.heap.size, 1, none⟩ = some (.int .i64 0) := (hb5.cell (p := ⟨w.heap.size, 1, none⟩) hl0).trans q1; have y2 : w1.cell? ⟨w.heap.size, 2, none⟩ = some (.slice p0 0 r0) := (hb5.cell (p := ⟨w.heap.size, 2, none⟩) hl0).trans q2; have y3 : w1.cell? ⟨w.heap.size, 3, none⟩ = some (.slice (some ⟨b, o, none⟩) 1 r1) := (hb5.cell (p := ⟨w.heap.size, 3, none⟩) hl0).trans q3; have z0 : w1.cell? ⟨w.heap.size + 1, 0, none⟩ = some (.int .i64 0) := (hb5.cell (p := ⟨w.heap.size + 1, 0, none⟩) hl1).trans tt0; have z1 : w1.cell? ⟨w.heap.size + 1, 1, none⟩ = some (.int .i64 0) := (hb5.cell (p := ⟨w.heap.size + 1, 1, none⟩) hl1).trans tt1; have z2 : w1.cell? ⟨w.heap.size + 1, 2, none⟩ = some (.slice none 0 0) := (hb5.cell (p := ⟨w.heap.size + 1, 2, none⟩) hl1).trans tt2; have z3 : w1.cell? ⟨w.heap.size + 1, 3, none⟩ = some (.slice none 0 0) := (hb5.cell (p := ⟨w.heap.size + 1, 3, none⟩) hl1).trans tt3; have f0 : w1.frozen? ⟨w.heap.size + 1, 0, none⟩ = false := (hb5.frozen (p := ⟨w.heap.size + 1, 0, none⟩) hl1).trans v0; have f1 : w1.frozen? ⟨w.heap.size + 1, 1, none⟩ = false := (hb5.frozen (p := ⟨w.heap.size + 1, 1, none⟩) hl1).trans v1; have f2 : w1.frozen? ⟨w.heap.size + 1, 2, none⟩ = false := (hb5.frozen (p := ⟨w.heap.size + 1, 2, none⟩) hl1).trans v2; have f3 : w1.frozen? ⟨w.heap.size + 1, 3, none⟩ = false := (hb5.frozen (p := ⟨w.heap.size + 1, 3, none⟩) hl1).trans v3)
  all_goals
    try go_wp2
    refine bodyPost_ret (v := .agg #[.int .i64 4, .int .i64 0, .slice none 0 0, .slice (some ⟨w1.heap.size, 0, none⟩) 1 1]) (by simp [results, Tryd.results15, go_sem, z0, z1, z2, z3, hz6]) rfl ⟨⟨4, 0, [], none, 0, some ⟨w1.heap.size, 0, none⟩, 1, [⟨mk, mop, mds, .slice s0 mds.length t0, .slice s1 mks.length t1, mks⟩], rfl, ?_, by rw [MNet.net_eq, HN.out, ← HMN.out]; rfl⟩, ?_⟩
    · refine MOwn.le (base := w.heap.size + 2) ?_ (by omega)
      exact (MRow.single4 (HMO.out.le (by have := HSW.out; omega)) (Nat.lt_succ_self _) hz5).net 4 0 [] (World.ownsRow_nil _ _ _ _) (fun x _ => aside_nil x)
    · have hB5 : Below w.heap.size w w1 := hBW.trans (hb5.mono hBW.size)
      (repeat (first | with_reducible exact Below.refl _ _ | with_reducible assumption | with_reducible refine bl_set (by first | exact Nat.le_refl _ | (simp; done) | (simp; omega) | omega) ?_ _ | with_reducible refine bl_alloc ?_ _ | with_reducible refine bl_drewN ?_ _ | with_reducible refine bl_drew ?_ | with_reducible refine bl_grow ?_ _ _ | with_reducible refine bl_call ?_ (by assumption)))
end Go.Proofs.YthhfnncehfkbfaaDoor
