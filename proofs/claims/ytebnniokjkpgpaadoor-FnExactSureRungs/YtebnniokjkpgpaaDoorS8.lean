/- The specification's chapter 6: l6Copy. -/
import Derived.Test.YtebnniokjkpgpaaDoorGh
import Derived.Test.YtebnniokjkpgpaaDoorGj
import Derived.Test.YtebnniokjkpgpaaDoorGg
namespace Go.Proofs.YtebnniokjkpgpaaDoor
open Go.RowKit Go.Sort Go.BigFrame
set_option maxHeartbeats 2000000 in
set_option maxRecDepth 100000 in
theorem s_copy (l : List Stil.Inst) (v : Value) (w : World) (hat : InstsAt w v l) (hl : l.length ≤ 1000) (hft : ∀ x ∈ l, x.fits) :
    Calls Tryd.prog 25 #[v] w fun e w' => ∃ (rv : Value) (us : List Value), e = .returned rv ∧ Built w' w.heap.size (.slice none 0 0) rv us l [] ∧ Below w.heap.size w w' := by
  obtain ⟨i0, hi, hz0, hz1, hz2⟩ := info_parts info_Inst
  obtain ⟨i1, hi1, hy0, hy1, hy2⟩ := info_parts info_dev
  have HF : Hid (∀ x ∈ l, x.fits) := hft
  obtain ⟨a, cap, rfl, hc⟩ := hat
  have HC : Hid (∀ i (h : i < l.length), ∃ b o, a = some ⟨b, o, none⟩ ∧ b < w.heap.size ∧ InstAt w b (o + i * 3) l[i]) := hc
  obtain ⟨ln, hln⟩ : ∃ ln, ln = l.length := ⟨_, rfl⟩
  have HLN : Hid (ln = l.length) := hln
  rw [← hln] at hl ⊢
  clear hc hft hln
  go_enter Tryd.func25, Tryd.ntmps25
  go_wp2
  go_loopw [3, 4] (fun rv i wr => ∃ (j : Nat) (us : List Value) (ra : Option Addr) (rc : Nat), j ≤ ln ∧ i = .int .i64 j ∧ rv = .slice ra j rc ∧ Built wr w.heap.size (.slice none 0 0) (.slice ra j rc) us (l.take j) [] ∧ Below w.heap.size w wr) (fun _ i _ => ln - (intOf i).toNat)
  case atStart =>
    refine ⟨0, [], some ⟨w.heap.size, 0, none⟩, 0, by omega, rfl, rfl, ⟨⟨rfl, ?_, fun i hi => absurd hi (by simp)⟩, (fun f hf => by cases hf), World.ownsRow_nil _ _ _ _, ?_⟩, by (repeat (first | with_reducible exact Below.refl _ _ | with_reducible assumption | with_reducible refine bl_set (by first | exact Nat.le_refl _ | (simp; done) | (simp; omega) | omega) ?_ _ | with_reducible refine bl_alloc ?_ _ | with_reducible refine bl_drewN ?_ _ | with_reducible refine bl_drew ?_ | with_reducible refine bl_grow ?_ _ _ | with_reducible refine bl_call ?_ (by assumption)))⟩
    · exact World.ownsRow_lit w #[] 0 (Nat.le_refl _) (by unfold maxLen; omega) rfl
    · simp [Apart]
      exact .inl rfl
  case round =>
    obtain ⟨j, us, ra, rc, hj, rfl, rfl, hbt, hB⟩ := hrel
    have HBT : Hid (Built wr w.heap.size (.slice none 0 0) (.slice ra j rc) us (l.take j) []) := hbt
    clear hbt
    by_cases hlt : j < ln
    · have hlt' : j < l.length := by have := HLN.out; omega
      have htl : (l.take j).length = j := by rw [List.length_take]; omega
      have HTL : Hid ((l.take j).length = j) := htl
      have HTS : Hid (l.take (j + 1) = l.take j ++ [l[j]]) := List.take_succ_eq_append_getElem hlt'
      obtain ⟨b, o, rfl, hbl, hn⟩ := HC.out j hlt'
      obtain ⟨x0, x1, kav, x2, hav⟩ := hn.below hB hbl
      have hxf := HF.out _ (List.getElem_mem hlt')
      obtain ⟨x, hx⟩ : ∃ x, x = l[j] := ⟨_, rfl⟩
      rw [← hx] at x0 x1 hav hxf HTS
      have HDA0 : Hid (∀ W, Below wr.heap.size wr W → DevsAt W kav x.one.args) := fun W hW => hav.below hW
      have hla : x.one.args.length ≤ 1048576 := hxf.2.2.1
      obtain ⟨t0, u0, rfl, _⟩ := hav
      have HDA : Hid (∀ W, Below wr.heap.size wr W → DevsAt W (.slice t0 x.one.args.length u0) x.one.args) := HDA0.out
      have HOV : Hid (∀ V, Below wr.heap.size wr V → V.ownsRow w.heap.size 50 3 (.slice ra j rc) j (rungCells us (l.take j))) := by
        intro V hV
        have := ownsRow_below HBT.out.1.2.1 hV
        rw [htl] at this
        exact this
      obtain ⟨xs, hxs⟩ : ∃ xs, xs = rungCells us (l.take j) := ⟨_, rfl⟩
      rw [← hxs] at HOV
      have HXS : Hid (xs = rungCells us (l.take j)) := hxs
      have hbr : b < wr.heap.size := Nat.lt_of_lt_of_le hbl hB.size
      have hwr : w.heap.size ≤ wr.heap.size := hB.size
      clear hxf hx hn HDA0 htl hxs
      go_upto_region 5 with fail
      go_region_law (first | (refine step_append_devs rfl _ _ rfl wr.heap.size _ x.one.args rfl (by exact (World.ownsRow_lit wr #[] 0 (Nat.le_refl _) (by unfold maxLen; omega) rfl).drew) _ _ rfl (HDA.out _ (by exact (below_alloc _ _).drew)) hla (by simp) ?_; intro v5 w5 hown5 hgr5; obtain ⟨a5, c5, hv5⟩ := slice_of_owns hown5; subst hv5; have hbw5 : Below wr.heap.size wr w5 := (below_alloc wr _).drew.grown hgr5 (by simp) (fun k hk => by cases hk; exact Nat.le_refl _); have x0 : w5.cell? ⟨b, o + j * 3, none⟩ = some (.int .i64 x.code) := (hbw5.cell (p := ⟨b, o + j * 3, none⟩) hbr).trans x0; have x1 : w5.cell? ⟨b, o + j * 3 + 1, none⟩ = some (.int .i64 x.one.op) := (hbw5.cell (p := ⟨b, o + j * 3 + 1, none⟩) hbr).trans x1) | (refine step_append_at rfl _ _ 27 rfl w.heap.size 50 i0 (.agg #[.int .i64 0, .int .i64 0, .slice none 0 0]) 3 40 Tryd.underlying27 hi hz0 hz1 hz2 rfl (by decide) _ _ _ rfl ((HOV.out w5 hbw5).alloc _) _ _ _ [.int .i64 x.code, .int .i64 x.one.op, .slice a5 x.one.args.length c5] rfl rfl (by exact cells3) (by intro u hu; simp at hu; rcases hu with rfl | rfl | rfl <;> rfl) (by unfold maxLen; omega) (by omega) (by have := hbw5.size; simp only [World.size_alloc]; omega) ?_; intro v6 w6 hown6 hgr6 hat6; obtain ⟨a6, c6, hv6⟩ := slice_of_owns hown6; subst hv6))
      all_goals
        have HB6 : Hid (Built w6 w.heap.size (.slice none 0 0) (.slice a6 (j + 1) c6) (us ++ [.slice a5 x.one.args.length c5]) (l.take j ++ [x]) []) := by
          refine Built.push (w := wr) HBT.out (hbw5.trans ((below_alloc _ _).mono hbw5.size)) (World.ownsRow.alloc hown5 _) hwr ?_ hgr6 hat6
          rw [HTL.out, ← HXS.out]
          exact hown6
        have hBa : Below w.heap.size w (w5.alloc (.cells #[.int .i64 x.code, .int .i64 x.one.op, .slice a5 x.one.args.length c5] 50)) := hB.trans ((hbw5.trans ((below_alloc _ _).mono hbw5.size)).mono hwr)
        have hB6 : Below w.heap.size w w6 := hBa.grown hgr6 hBa.size (fun k hk => (HBT.out.1.2.1.lt k hk).1)
        clear hgr6 hown6 hat6 hown5 hgr5 hbw5 hBa HOV HDA
        go_wp2
        refine ⟨⟨j + 1, us ++ [.slice a5 x.one.args.length c5], a6, c6, by omega, by go_num, rfl, ?_, hB6⟩, by simp [intOf]; omega⟩
        rw [HTS.out]
        exact HB6.out
    · obtain rfl : j = ln := by omega
      go_wp2
      go_ret
      refine ⟨_, us, rfl, ?_, hB⟩
      have := HBT.out
      rwa [List.take_of_length_le (by have := HLN.out; omega)] at this
end Go.Proofs.YtebnniokjkpgpaaDoor
