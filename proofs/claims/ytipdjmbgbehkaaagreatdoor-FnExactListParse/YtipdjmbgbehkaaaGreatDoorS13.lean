/- Contracts of the specification's chapter 5: the instruction of a line. -/
import Derived.Test.YtipdjmbgbehkaaaGreatDoorHr
import Derived.Test.YtipdjmbgbehkaaaGreatDoorGC
import Derived.Test.YtipdjmbgbehkaaaGreatDoorGD
import Derived.Test.YtipdjmbgbehkaaaGreatDoorG4
import Derived.Test.YtipdjmbgbehkaaaGreatDoorS7
import Derived.Lib.QuietBelow
import Derived.Deep.RegionWith
namespace Go.Proofs.YtipdjmbgbehkaaaGreatDoor
open Go.RowKit Go.Sort Go.BigFrame
/-- What a reading of a line leaves. -/
def LineOut (ws : List (List UInt8)) (e : Ending) (w w' : World) : Prop := (∃ v, e = .returned (.tuple #[.agg #[.int .i64 (Stil.instOf ws).code, .int .i64 (Stil.instOf ws).one.op, v], .bool true]) ∧ Stil.specOk ws = true ∧ w'.ownsRow w.heap.size 74 3 v (Stil.instOf ws).one.args.length (devsCells (Stil.instOf ws).one.args) ∧ Below w.heap.size w w') ∨ (∃ (a b : Int) (p : Option Addr) (n c : Nat), e = .returned (.tuple #[.agg #[.int .i64 a, .int .i64 b, .slice p n c], .bool false]) ∧ Stil.specOk ws = false ∧ Below w.heap.size w w')
set_option maxHeartbeats 4000000 in
set_option maxRecDepth 100000 in
theorem s_l5Line (ws : List (List UInt8)) (g cap : Nat) (w : World) (hne : 0 < ws.length) (hn : ws.length ≤ 1000000) (hl : ∀ x ∈ ws, x.length ≤ 1000000) (hg : g < w.heap.size) (hc : ∀ k (h : k < ws.length), w.cell? ⟨g, k, none⟩ = some (.string ⟨ws[k].toArray⟩)) :
    Calls Tryz.prog 41 #[.slice (some ⟨g, 0, none⟩) ws.length cap] w fun e w' => LineOut ws e w w' := by
  obtain ⟨W0, hW0⟩ : ∃ W0, W0 = w.alloc (.cells #[.int .i64 0, .int .i64 0, .slice none 0 0] 31) := ⟨_, rfl⟩
  have hb0 : Below w.heap.size w W0 := by rw [hW0]; exact below_alloc _ _
  have HC : Hid (∀ W, Below W0.heap.size W0 W → ∀ k (h : k < ws.length), W.cell? ⟨g, k, none⟩ = some (.string ⟨ws[k].toArray⟩)) := fun W h k hk => by
    rw [(hb0.trans (h.mono hb0.size)).cell (p := ⟨g, k, none⟩) hg]
    exact hc k hk
  obtain ⟨x0, hx0⟩ : ∃ x, x = ws[0] := ⟨_, rfl⟩
  have HX : Hid (∀ W, Below W0.heap.size W0 W → W.cell? ⟨g, 0, none⟩ = some (.string ⟨x0.toArray⟩)) := fun W h => by rw [hx0]; exact HC.out W h 0 hne
  have HX0 : Hid (ws[0] = x0) := hx0.symm
  clear hc hx0
  go_enter Tryz.func41, Tryz.ntmps41
  go_wp2
  rw [← hW0]
  go_loopw [4, 5] (fun c k wr => ∃ m : Nat, m ≤ 11 ∧ k = .int .i64 ((m : Int) + 1) ∧ c = .int .i64 (codeUp x0 m) ∧ Below W0.heap.size W0 wr) (fun _ k _ => 12 - (intOf k).toNat)
  case atStart => exact ⟨0, by omega, rfl, rfl, Below.refl _ _⟩
  case round =>
    obtain ⟨m, h2, rfl, rfl, hB⟩ := hrel
    by_cases hlt : m < 11
    · have hcell := HX.out wr hB
      have r0 := cell_regrown hcell
      have HUP : Hid (codeUp x0 (m + 1) = if x0 = Stil.lwordOf ((m + 1 : Nat) : Int) then ((m + 1 : Nat) : Int) else codeUp x0 m) := rfl
      have HLW : Hid (∀ W, Calls Tryz.prog 49 #[.int .i64 ((m : Int) + 1)] W fun e w' => e = .returned (.string ⟨(Stil.lwordOf ((m + 1 : Nat) : Int)).toArray⟩) ∧ Below W.heap.size W w') := fun W => s_listWord (m + 1) W (by omega) (by omega)
      obtain ⟨y, hy⟩ : ∃ y, y = Stil.lwordOf ((m + 1 : Nat) : Int) := ⟨_, rfl⟩
      rw [← hy] at HUP HLW
      have hwm : IntKind.i64.wrap ((m : Int) + 1 + 1) = (m : Int) + 1 + 1 := by rw [IntKind.wrap_i64]; omega
      have hml : (m : Int) + 1 ≤ 11 := by omega
      clear hy hcell
      by_cases hxy : x0 = y
      · have HU : Hid (codeUp x0 (m + 1) = ((m + 1 : Nat) : Int)) := by show _ = _; rw [HUP.out, if_pos hxy]
        have hxb : (x0 == y) = true := by rw [hxy]; simp
        go_upto_region 5 with fail
        refine wp_region_quiet_below (by kernel_rfl) (by kernel_rfl) ?_
        repeat (go_big_quiet_step ((exact Calls.regrown_of (HLW.out _))))
        refine wpQuiet_nil ?_
        intro _ hw'
        obtain ⟨⟨dq, osq⟩, hw''⟩ := hw'
        subst hw''
        go_wp2
        refine ⟨⟨m + 1, by omega, by simp, by rw [HU.out]; simp, hB.trans ((below_regrown _ _ _).mono hB.size)⟩, by simp [intOf]; omega⟩
      · have HU : Hid (codeUp x0 (m + 1) = codeUp x0 m) := by show _ = _; rw [HUP.out, if_neg hxy]
        have hxb : (x0 == y) = false := beq_eq_false_iff_ne.2 hxy
        go_upto_region 5 with fail
        refine wp_region_quiet_below (by kernel_rfl) (by kernel_rfl) ?_
        repeat (go_big_quiet_step ((exact Calls.regrown_of (HLW.out _))))
        refine wpQuiet_nil ?_
        intro _ hw'
        obtain ⟨⟨dq, osq⟩, hw''⟩ := hw'
        subst hw''
        go_wp2
        refine ⟨⟨m + 1, by omega, by simp, by rw [HU.out], hB.trans ((below_regrown _ _ _).mono hB.size)⟩, by simp [intOf]; omega⟩
    · obtain rfl : m = 11 := by omega
      have HCO : Hid (codeUp x0 11 = Stil.codeOf x0) := code_up x0
      rw [HCO.out]
      have hcc : -1 ≤ Stil.codeOf x0 ∧ Stil.codeOf x0 ≤ 11 := by unfold Stil.codeOf; (repeat' split) <;> omega
      obtain ⟨C, hC⟩ : ∃ C, C = Stil.codeOf x0 := ⟨_, rfl⟩
      have HCE : Hid (Stil.codeOf x0 = C) := hC.symm
      rw [← hC] at hcc ⊢
      clear hC HCO
      have hB0 : Below w.heap.size w wr := hb0.trans (hB.mono hb0.size)
      have hz0 : w.heap.size < wr.heap.size := by have := hB.size; rw [hW0] at this; simp at this; omega
      have c0 : wr.cell? ⟨w.heap.size, 0, none⟩ = some (.int .i64 0) := by rw [hB.cell (p := ⟨w.heap.size, 0, none⟩) (by rw [hW0]; simp), hW0]; simp [go_sem]
      have c1 : wr.cell? ⟨w.heap.size, 1, none⟩ = some (.int .i64 0) := by rw [hB.cell (p := ⟨w.heap.size, 1, none⟩) (by rw [hW0]; simp), hW0]; simp [go_sem]
      have c2 : wr.cell? ⟨w.heap.size, 2, none⟩ = some (.slice none 0 0) := by rw [hB.cell (p := ⟨w.heap.size, 2, none⟩) (by rw [hW0]; simp), hW0]; simp [go_sem]
      have f0 : wr.frozen? ⟨w.heap.size, 0, none⟩ = false := by rw [hB.frozen (p := ⟨w.heap.size, 0, none⟩) (by rw [hW0]; simp), hW0]; simp [go_sem]
      have f1 : wr.frozen? ⟨w.heap.size, 1, none⟩ = false := by rw [hB.frozen (p := ⟨w.heap.size, 1, none⟩) (by rw [hW0]; simp), hW0]; simp [go_sem]
      have f2 : wr.frozen? ⟨w.heap.size, 2, none⟩ = false := by rw [hB.frozen (p := ⟨w.heap.size, 2, none⟩) (by rw [hW0]; simp), hW0]; simp [go_sem]
      by_cases hl2 : ws.length = 2
      · obtain ⟨x, y, rfl⟩ : ∃ x y, ws = [x, y] := by
          match ws, hl2 with
          | [x, y], _ => exact ⟨x, y, rfl⟩
        have hx : x = x0 := HX0.out
        subst hx
        have cy := HC.out wr hB 1 (by simp)
        have cyy : wr.cell? ⟨g, 1, none⟩ = some (.string ⟨y.toArray⟩) := cy
        have hgr : g < wr.heap.size := Nat.lt_of_lt_of_le hg hB0.size
        have HIO : Hid (Stil.instOf [x, y] = ⟨C, Stil.elemRead y⟩) := by show _ = _; unfold Stil.instOf; rw [← HCE.out]; rfl
        have HSO : Hid (Stil.specOk [x, y] = (Stil.elemReadB y && Stil.listOk ⟨C, Stil.elemRead y⟩)) := by show _ = _; rw [← HIO.out]; rfl
        have HER : Hid (∀ W, Calls Tryz.prog 69 #[.string ⟨y.toArray⟩] W fun e w' => ∃ v, e = .returned (.tuple #[.agg #[.int .i64 (Stil.elemRead y).op, v], .bool (Stil.elemReadB y)]) ∧ w'.ownsRow W.heap.size 74 3 v (Stil.elemRead y).args.length (devsCells (Stil.elemRead y).args) ∧ Below W.heap.size W w') := fun W => s_elemRead y W (by have := hl y (by simp); omega)
        have HFT : Hid (Stil.Inst.fits ⟨C, Stil.elemRead y⟩) := ⟨⟨by have := hcc; simp only; omega, by have := hcc; simp only; omega⟩, elemRead_fits y⟩
        obtain ⟨E, hE⟩ : ∃ E, E = Stil.elemRead y := ⟨_, rfl⟩
        obtain ⟨kb, hkb⟩ : ∃ E, E = Stil.elemReadB y := ⟨_, rfl⟩
        rw [← hE] at HIO HSO HER HFT
        rw [← hkb] at HSO HER
        clear cy hE hkb HC HX HX0 hl hn hne hl2 hcc
        go_upto_region 9 with fail
        obtain ⟨W1, hW1⟩ : ∃ W1, W1 = wr.alloc (Obj.cells #[Value.int IntKind.i64 C, Value.int IntKind.i64 0, Value.slice none 0 0] 31) := ⟨_, rfl⟩
        have hB1 : Below wr.heap.size wr W1 := by rw [hW1]; exact below_alloc _ _
        have hs1 : W1.heap.size = wr.heap.size + 1 := by rw [hW1]; simp
        have hzr : wr.heap.size < W1.heap.size := by omega
        have HAL : Hid (∀ V, Below W1.heap.size W1 V → (V.cell? ⟨w.heap.size, 0, none⟩ = some (.int .i64 0) ∧ V.cell? ⟨w.heap.size, 1, none⟩ = some (.int .i64 0) ∧ V.cell? ⟨w.heap.size, 2, none⟩ = some (.slice none 0 0)) ∧ (V.frozen? ⟨w.heap.size, 0, none⟩ = false ∧ V.frozen? ⟨w.heap.size, 1, none⟩ = false ∧ V.frozen? ⟨w.heap.size, 2, none⟩ = false) ∧ (V.cell? ⟨wr.heap.size, 0, none⟩ = some (.int .i64 C) ∧ V.cell? ⟨wr.heap.size, 1, none⟩ = some (.int .i64 0) ∧ V.cell? ⟨wr.heap.size, 2, none⟩ = some (.slice none 0 0)) ∧ V.frozen? ⟨wr.heap.size, 1, none⟩ = false ∧ V.frozen? ⟨wr.heap.size, 2, none⟩ = false) := fun V h => by
          have h2 := hB1.trans (h.mono hB1.size)
          refine ⟨⟨(h2.cell (p := ⟨_, 0, none⟩) hz0).trans c0, (h2.cell (p := ⟨_, 1, none⟩) hz0).trans c1, (h2.cell (p := ⟨_, 2, none⟩) hz0).trans c2⟩, ⟨(h2.frozen (p := ⟨_, 0, none⟩) hz0).trans f0, (h2.frozen (p := ⟨_, 1, none⟩) hz0).trans f1, (h2.frozen (p := ⟨_, 2, none⟩) hz0).trans f2⟩, ⟨?_, ?_, ?_⟩, ?_, ?_⟩
          · rw [h.cell (p := ⟨wr.heap.size, 0, none⟩) (by rw [hW1]; simp), hW1]; simp [go_sem]
          · rw [h.cell (p := ⟨wr.heap.size, 1, none⟩) (by rw [hW1]; simp), hW1]; simp [go_sem]
          · rw [h.cell (p := ⟨wr.heap.size, 2, none⟩) (by rw [hW1]; simp), hW1]; simp [go_sem]
          · rw [h.frozen (p := ⟨wr.heap.size, 1, none⟩) (by rw [hW1]; simp), hW1]; simp [go_sem]
          · rw [h.frozen (p := ⟨wr.heap.size, 2, none⟩) (by rw [hW1]; simp), hW1]; simp [go_sem]
        have hbw1 : Below w.heap.size w W1 := hB0.trans (hB1.mono hB0.size)
        have hzw : w.heap.size < W1.heap.size := by omega
        rw [← hW1]
        clear hW1 c0 c1 c2 f0 f1 f2
        obtain ⟨⟨c0, c1, c2⟩, ⟨f0, f1, f2⟩, ⟨b0, b1, b2⟩, g1, g2⟩ := HAL.out W1 (Below.refl _ _)
        have cy1 : W1.cell? ⟨g, 1, none⟩ = some (.string ⟨y.toArray⟩) := (hB1.cell (p := ⟨g, 1, none⟩) hgr).trans cyy
        clear cyy
        go_upto_region 10 with (go_at_call 69; refine (HER.out _).mono ?_; rintro e w3 ⟨v, rfl, hown, hb3⟩; obtain ⟨ea, ec, hev, _⟩ := own_open hown; subst hev)
        have HOW : Hid (w3.ownsRow W1.heap.size 74 3 (.slice ea E.args.length ec) E.args.length (devsCells E.args)) := hown
        have hb13 : Below W1.heap.size W1 w3 := by (repeat (first | with_reducible exact Below.refl _ _ | with_reducible assumption | with_reducible refine bl_set (by first | exact Nat.le_refl _ | (simp; done) | (simp; omega) | omega) ?_ _ | with_reducible refine bl_alloc ?_ _ | with_reducible refine bl_drewN ?_ _ | with_reducible refine bl_drew ?_ | with_reducible refine bl_grow ?_ _ _ | with_reducible refine bl_call ?_ (by assumption)))
        obtain ⟨W3, hW3⟩ : ∃ W3, W3 = w3.alloc (Obj.cells #[Value.int IntKind.i64 E.op, Value.slice ea E.args.length ec] 29) := ⟨_, rfl⟩
        have hB3 : Below w3.heap.size w3 W3 := by rw [hW3]; exact below_alloc _ _
        have hs13 := hb13.size
        have hs3 : W3.heap.size = w3.heap.size + 1 := by rw [hW3]; simp
        have d0 : W3.cell? ⟨w3.heap.size, 0, none⟩ = some (.int .i64 E.op) := by rw [hW3]; simp [go_sem]
        have d1 : W3.cell? ⟨w3.heap.size, 1, none⟩ = some (.slice ea E.args.length ec) := by rw [hW3]; simp [go_sem]
        have HO3 : Hid (W3.ownsRow W1.heap.size 74 3 (.slice ea E.args.length ec) E.args.length (devsCells E.args)) := ownsRow_below HOW.out hB3
        have h13 : Below W1.heap.size W1 W3 := hb13.trans (hB3.mono hs13)
        rw [← hW3]
        clear hW3 c0 c1 c2 f0 f1 f2 b0 b1 b2 g1 g2 cy1 hown hb3 hb13 hB3
        obtain ⟨⟨c0, c1, c2⟩, ⟨f0, f1, f2⟩, ⟨b0, b1, b2⟩, g1, g2⟩ := HAL.out W3 h13
        have hbV : Below w.heap.size w W3 := hbw1.trans (h13.mono (by omega))
        cases kb
        · have HSF : Hid (Stil.specOk [x, y] = false) := by show _ = _; rw [HSO.out]; rfl
          clear HSO
          go_wp2
          have hfin : Below w.heap.size w (((W3.setCell ⟨w.heap.size, 0, none⟩ (.int .i64 0)).setCell ⟨w.heap.size, 1, none⟩ (.int .i64 0)).setCell ⟨w.heap.size, 2, none⟩ (.slice none 0 0)) := bl_set (by simp) (bl_set (by simp) (bl_set (by simp) hbV _) _) _
          have z0 : (((W3.setCell ⟨w.heap.size, 0, none⟩ (.int .i64 0)).setCell ⟨w.heap.size, 1, none⟩ (.int .i64 0)).setCell ⟨w.heap.size, 2, none⟩ (.slice none 0 0)).cell? ⟨w.heap.size, 0, none⟩ = some (.int .i64 0) := (cell_set_off (by omega)).trans ((cell_set_off (by omega)).trans (cell_set_at c0))
          have z1 : (((W3.setCell ⟨w.heap.size, 0, none⟩ (.int .i64 0)).setCell ⟨w.heap.size, 1, none⟩ (.int .i64 0)).setCell ⟨w.heap.size, 2, none⟩ (.slice none 0 0)).cell? ⟨w.heap.size, 1, none⟩ = some (.int .i64 0) := (cell_set_off (by omega)).trans (cell_set_at ((cell_set_off (by omega)).trans c1))
          have z2 : (((W3.setCell ⟨w.heap.size, 0, none⟩ (.int .i64 0)).setCell ⟨w.heap.size, 1, none⟩ (.int .i64 0)).setCell ⟨w.heap.size, 2, none⟩ (.slice none 0 0)).cell? ⟨w.heap.size, 2, none⟩ = some (.slice none 0 0) := cell_set_at ((cell_set_off (by omega)).trans ((cell_set_off (by omega)).trans c2))
          refine bodyPost_ret (v := .tuple #[.agg #[.int .i64 0, .int .i64 0, .slice none 0 0], .bool false]) (by simp [results, Tryz.results41, go_sem, z0, z1, z2]) rfl ?_
          exact .inr ⟨_, _, _, _, _, rfl, HSF.out, hfin⟩
        · have HS2 : Hid (Stil.specOk [x, y] = Stil.listOk ⟨C, E⟩) := by show _ = _; rw [HSO.out, Bool.true_and]
          clear HSO
          go_upto_region 13 with fail
          obtain ⟨W5, hW5⟩ : ∃ W5, W5 = (W3.setCell ⟨wr.heap.size, 1, none⟩ (.int .i64 E.op)).setCell ⟨wr.heap.size, 2, none⟩ (.slice ea E.args.length ec) := ⟨_, rfl⟩
          have hs5 : W5.heap.size = W3.heap.size := by rw [hW5]; simp
          have HO5 : Hid (W5.ownsRow W1.heap.size 74 3 (.slice ea E.args.length ec) E.args.length (devsCells E.args)) := by show World.ownsRow _ _ _ _ _ _ _; rw [hW5]; exact ownsRow_setCell_below (ownsRow_setCell_below HO3.out hzr _) hzr _
          have hbw5 : Below w.heap.size w W5 := by rw [hW5]; exact bl_set (by simp; omega) (bl_set (by simp; omega) hbV _) _
          have HAM : Hid (∀ V, Below W5.heap.size W5 V → (V.cell? ⟨w.heap.size, 0, none⟩ = some (.int .i64 0) ∧ V.cell? ⟨w.heap.size, 1, none⟩ = some (.int .i64 0) ∧ V.cell? ⟨w.heap.size, 2, none⟩ = some (.slice none 0 0)) ∧ (V.frozen? ⟨w.heap.size, 0, none⟩ = false ∧ V.frozen? ⟨w.heap.size, 1, none⟩ = false ∧ V.frozen? ⟨w.heap.size, 2, none⟩ = false) ∧ (V.cell? ⟨wr.heap.size, 0, none⟩ = some (.int .i64 C) ∧ V.cell? ⟨wr.heap.size, 1, none⟩ = some (.int .i64 E.op) ∧ V.cell? ⟨wr.heap.size, 2, none⟩ = some (.slice ea E.args.length ec)) ∧ V.frozen? ⟨wr.heap.size, 1, none⟩ = false ∧ V.frozen? ⟨wr.heap.size, 2, none⟩ = false) := fun V h => by
            have y0 : W5.cell? ⟨w.heap.size, 0, none⟩ = some (.int .i64 0) := by rw [hW5]; exact (cell_set_other (by omega)).trans ((cell_set_other (by omega)).trans c0)
            have y1 : W5.cell? ⟨w.heap.size, 1, none⟩ = some (.int .i64 0) := by rw [hW5]; exact (cell_set_other (by omega)).trans ((cell_set_other (by omega)).trans c1)
            have y2 : W5.cell? ⟨w.heap.size, 2, none⟩ = some (.slice none 0 0) := by rw [hW5]; exact (cell_set_other (by omega)).trans ((cell_set_other (by omega)).trans c2)
            have x0 : W5.cell? ⟨wr.heap.size, 0, none⟩ = some (.int .i64 C) := by rw [hW5]; exact (cell_set_off (by omega)).trans ((cell_set_off (by omega)).trans b0)
            have x1 : W5.cell? ⟨wr.heap.size, 1, none⟩ = some (.int .i64 E.op) := by rw [hW5]; exact (cell_set_off (by omega)).trans (cell_set_at b1)
            have x2 : W5.cell? ⟨wr.heap.size, 2, none⟩ = some (.slice ea E.args.length ec) := by rw [hW5]; exact cell_set_at ((cell_set_off (by omega)).trans b2)
            have q0 : ∀ b o, W5.frozen? ⟨b, o, none⟩ = W3.frozen? ⟨b, o, none⟩ := fun b o => by rw [hW5]; exact frozen_set.trans frozen_set
            exact ⟨⟨(h.cell (World.block_lt_of_cell? _ _ y0)).trans y0, (h.cell (World.block_lt_of_cell? _ _ y1)).trans y1, (h.cell (World.block_lt_of_cell? _ _ y2)).trans y2⟩, ⟨(h.frozen (World.block_lt_of_cell? _ _ y0)).trans ((q0 _ _).trans f0), (h.frozen (World.block_lt_of_cell? _ _ y1)).trans ((q0 _ _).trans f1), (h.frozen (World.block_lt_of_cell? _ _ y2)).trans ((q0 _ _).trans f2)⟩, ⟨(h.cell (World.block_lt_of_cell? _ _ x0)).trans x0, (h.cell (World.block_lt_of_cell? _ _ x1)).trans x1, (h.cell (World.block_lt_of_cell? _ _ x2)).trans x2⟩, (h.frozen (World.block_lt_of_cell? _ _ x1)).trans ((q0 _ _).trans g1), (h.frozen (World.block_lt_of_cell? _ _ x2)).trans ((q0 _ _).trans g2)⟩
          have HLO : Hid (∀ V, Below W5.heap.size W5 V → Calls Tryz.prog 10 #[.agg #[.int .i64 C, .int .i64 E.op, .slice ea E.args.length ec]] V fun e w' => e = .returned (.bool (Stil.listOk ⟨C, E⟩)) ∧ Below V.heap.size V w') := fun V h => s_listOk ⟨C, E⟩ _ V (DevsAt.of_owns (ownsRow_below HO5.out h)) HFT.out
          obtain ⟨ok, hok⟩ : ∃ k, k = Stil.listOk ⟨C, E⟩ := ⟨_, rfl⟩
          rw [← hok] at HLO HS2
          rw [← hW5]
          clear hok hW5 c0 c1 c2 f0 f1 f2 b0 b1 b2 g1 g2 d0 d1 hbV HAL h13
          obtain ⟨⟨c0, c1, c2⟩, ⟨f0, f1, f2⟩, ⟨b0, b1, b2⟩, _⟩ := HAM.out W5 (Below.refl _ _)
          go_region_with (go_at_call 10; refine (HLO.out _ (by (repeat (first | with_reducible exact Below.refl _ _ | with_reducible assumption | with_reducible refine bl_set (by first | exact Nat.le_refl _ | (simp; done) | (simp; omega) | omega) ?_ _ | with_reducible refine bl_alloc ?_ _ | with_reducible refine bl_drewN ?_ _ | with_reducible refine bl_drew ?_ | with_reducible refine bl_grow ?_ _ _ | with_reducible refine bl_call ?_ (by assumption))))).mono ?_; rintro e w5 ⟨rfl, hb5⟩; clear c0 c1 c2 f0 f1 f2 b0 b1 b2; obtain ⟨⟨c0, c1, c2⟩, ⟨f0, f1, f2⟩, ⟨b0, b1, b2⟩, _⟩ := HAM.out w5 (by (repeat (first | with_reducible exact Below.refl _ _ | with_reducible assumption | with_reducible refine bl_set (by first | exact Nat.le_refl _ | (simp; done) | (simp; omega) | omega) ?_ _ | with_reducible refine bl_alloc ?_ _ | with_reducible refine bl_drewN ?_ _ | with_reducible refine bl_drew ?_ | with_reducible refine bl_grow ?_ _ _ | with_reducible refine bl_call ?_ (by assumption)))))
          all_goals
            have h55 : Below W5.heap.size W5 w5 := by (repeat (first | with_reducible exact Below.refl _ _ | with_reducible assumption | with_reducible refine bl_set (by first | exact Nat.le_refl _ | (simp; done) | (simp; omega) | omega) ?_ _ | with_reducible refine bl_alloc ?_ _ | with_reducible refine bl_drewN ?_ _ | with_reducible refine bl_drew ?_ | with_reducible refine bl_grow ?_ _ _ | with_reducible refine bl_call ?_ (by assumption)))
            have hbV : Below w.heap.size w w5 := hbw5.trans (h55.mono (by omega))
            have HO6 : Hid (w5.ownsRow W1.heap.size 74 3 (.slice ea E.args.length ec) E.args.length (devsCells E.args)) := ownsRow_below HO5.out h55
            go_wp2
            have hfin : Below w.heap.size w (((w5.setCell ⟨w.heap.size, 0, none⟩ (.int .i64 C)).setCell ⟨w.heap.size, 1, none⟩ (.int .i64 E.op)).setCell ⟨w.heap.size, 2, none⟩ (.slice ea E.args.length ec)) := bl_set (by simp) (bl_set (by simp) (bl_set (by simp) hbV _) _) _
            have z0 : (((w5.setCell ⟨w.heap.size, 0, none⟩ (.int .i64 C)).setCell ⟨w.heap.size, 1, none⟩ (.int .i64 E.op)).setCell ⟨w.heap.size, 2, none⟩ (.slice ea E.args.length ec)).cell? ⟨w.heap.size, 0, none⟩ = some (.int .i64 C) := (cell_set_off (by omega)).trans ((cell_set_off (by omega)).trans (cell_set_at c0))
            have z1 : (((w5.setCell ⟨w.heap.size, 0, none⟩ (.int .i64 C)).setCell ⟨w.heap.size, 1, none⟩ (.int .i64 E.op)).setCell ⟨w.heap.size, 2, none⟩ (.slice ea E.args.length ec)).cell? ⟨w.heap.size, 1, none⟩ = some (.int .i64 E.op) := (cell_set_off (by omega)).trans (cell_set_at ((cell_set_off (by omega)).trans c1))
            have z2 : (((w5.setCell ⟨w.heap.size, 0, none⟩ (.int .i64 C)).setCell ⟨w.heap.size, 1, none⟩ (.int .i64 E.op)).setCell ⟨w.heap.size, 2, none⟩ (.slice ea E.args.length ec)).cell? ⟨w.heap.size, 2, none⟩ = some (.slice ea E.args.length ec) := cell_set_at ((cell_set_off (by omega)).trans ((cell_set_off (by omega)).trans c2))
            refine bodyPost_ret (v := .tuple #[.agg #[.int .i64 C, .int .i64 E.op, .slice ea E.args.length ec], .bool ok]) (by simp [results, Tryz.results41, go_sem, z0, z1, z2]) rfl ?_
            cases ok
            · exact .inr ⟨_, _, _, _, _, rfl, HS2.out, hfin⟩
            · refine .inl ⟨.slice ea E.args.length ec, by rw [HIO.out], HS2.out, ?_, hfin⟩
              rw [HIO.out]
              exact Joins.ownsRow_le (ownsRow_setCell_below (ownsRow_setCell_below (ownsRow_setCell_below HO6.out hzw _) hzw _) hzw _) (Nat.le_of_lt hzw)
      · have hl2b : ((ws.length : Int) == 2) = false := by rw [beq_eq_false_iff_ne]; omega
        by_cases hl3 : 2 < ws.length
        · have hd : decide ((ws.length : Int) ≤ 2) = false := by simp; omega
          have HSP : Hid (Stil.specOk ws = false) := by
            show _ = _
            match ws, hl3 with
            | a :: b :: c :: r, _ => rfl
          obtain ⟨ln, hln⟩ : ∃ n, n = ws.length := ⟨_, rfl⟩
          rw [← hln] at hd hl2b ⊢
          clear hl2 hl3 HC HX HX0 hn hl hne hln
          go_upto_region 13 with fail
          obtain ⟨W1, hW1⟩ : ∃ W1, W1 = wr.alloc (Obj.cells #[Value.int IntKind.i64 C, Value.int IntKind.i64 0, Value.slice none 0 0] 31) := ⟨_, rfl⟩
          have hB1 : Below wr.heap.size wr W1 := by rw [hW1]; exact below_alloc _ _
          have hs1 : W1.heap.size = wr.heap.size + 1 := by rw [hW1]; simp
          have hzr : wr.heap.size < W1.heap.size := by omega
          have HAL : Hid (∀ V, Below W1.heap.size W1 V → (V.cell? ⟨w.heap.size, 0, none⟩ = some (.int .i64 0) ∧ V.cell? ⟨w.heap.size, 1, none⟩ = some (.int .i64 0) ∧ V.cell? ⟨w.heap.size, 2, none⟩ = some (.slice none 0 0)) ∧ (V.frozen? ⟨w.heap.size, 0, none⟩ = false ∧ V.frozen? ⟨w.heap.size, 1, none⟩ = false ∧ V.frozen? ⟨w.heap.size, 2, none⟩ = false) ∧ (V.cell? ⟨wr.heap.size, 0, none⟩ = some (.int .i64 C) ∧ V.cell? ⟨wr.heap.size, 1, none⟩ = some (.int .i64 0) ∧ V.cell? ⟨wr.heap.size, 2, none⟩ = some (.slice none 0 0)) ∧ V.frozen? ⟨wr.heap.size, 1, none⟩ = false ∧ V.frozen? ⟨wr.heap.size, 2, none⟩ = false) := fun V h => by
            have h2 := hB1.trans (h.mono hB1.size)
            refine ⟨⟨(h2.cell (p := ⟨_, 0, none⟩) hz0).trans c0, (h2.cell (p := ⟨_, 1, none⟩) hz0).trans c1, (h2.cell (p := ⟨_, 2, none⟩) hz0).trans c2⟩, ⟨(h2.frozen (p := ⟨_, 0, none⟩) hz0).trans f0, (h2.frozen (p := ⟨_, 1, none⟩) hz0).trans f1, (h2.frozen (p := ⟨_, 2, none⟩) hz0).trans f2⟩, ⟨?_, ?_, ?_⟩, ?_, ?_⟩
            · rw [h.cell (p := ⟨wr.heap.size, 0, none⟩) (by rw [hW1]; simp), hW1]; simp [go_sem]
            · rw [h.cell (p := ⟨wr.heap.size, 1, none⟩) (by rw [hW1]; simp), hW1]; simp [go_sem]
            · rw [h.cell (p := ⟨wr.heap.size, 2, none⟩) (by rw [hW1]; simp), hW1]; simp [go_sem]
            · rw [h.frozen (p := ⟨wr.heap.size, 1, none⟩) (by rw [hW1]; simp), hW1]; simp [go_sem]
            · rw [h.frozen (p := ⟨wr.heap.size, 2, none⟩) (by rw [hW1]; simp), hW1]; simp [go_sem]
          have hbw1 : Below w.heap.size w W1 := hB0.trans (hB1.mono hB0.size)
          have hzw : w.heap.size < W1.heap.size := by omega
          rw [← hW1]
          clear hW1 c0 c1 c2 f0 f1 f2
          obtain ⟨⟨c0, c1, c2⟩, ⟨f0, f1, f2⟩, ⟨b0, b1, b2⟩, g1, g2⟩ := HAL.out W1 (Below.refl _ _)
          have hbV := hbw1
          go_region_with fail
          all_goals
            go_wp2
            have hfin : Below w.heap.size w (((W1.setCell ⟨w.heap.size, 0, none⟩ (.int .i64 C)).setCell ⟨w.heap.size, 1, none⟩ (.int .i64 0)).setCell ⟨w.heap.size, 2, none⟩ (.slice none 0 0)) := bl_set (by simp) (bl_set (by simp) (bl_set (by simp) hbV _) _) _
            have z0 : (((W1.setCell ⟨w.heap.size, 0, none⟩ (.int .i64 C)).setCell ⟨w.heap.size, 1, none⟩ (.int .i64 0)).setCell ⟨w.heap.size, 2, none⟩ (.slice none 0 0)).cell? ⟨w.heap.size, 0, none⟩ = some (.int .i64 C) := (cell_set_off (by omega)).trans ((cell_set_off (by omega)).trans (cell_set_at c0))
            have z1 : (((W1.setCell ⟨w.heap.size, 0, none⟩ (.int .i64 C)).setCell ⟨w.heap.size, 1, none⟩ (.int .i64 0)).setCell ⟨w.heap.size, 2, none⟩ (.slice none 0 0)).cell? ⟨w.heap.size, 1, none⟩ = some (.int .i64 0) := (cell_set_off (by omega)).trans (cell_set_at ((cell_set_off (by omega)).trans c1))
            have z2 : (((W1.setCell ⟨w.heap.size, 0, none⟩ (.int .i64 C)).setCell ⟨w.heap.size, 1, none⟩ (.int .i64 0)).setCell ⟨w.heap.size, 2, none⟩ (.slice none 0 0)).cell? ⟨w.heap.size, 2, none⟩ = some (.slice none 0 0) := cell_set_at ((cell_set_off (by omega)).trans ((cell_set_off (by omega)).trans c2))
            refine bodyPost_ret (v := .tuple #[.agg #[.int .i64 C, .int .i64 0, .slice none 0 0], .bool false]) (by simp [results, Tryz.results41, go_sem, z0, z1, z2]) rfl ?_
            exact .inr ⟨_, _, _, _, _, rfl, HSP.out, by (repeat (first | with_reducible exact Below.refl _ _ | with_reducible assumption | with_reducible refine bl_set (by first | exact Nat.le_refl _ | (simp; done) | (simp; omega) | omega) ?_ _ | with_reducible refine bl_alloc ?_ _ | with_reducible refine bl_drewN ?_ _ | with_reducible refine bl_drew ?_ | with_reducible refine bl_grow ?_ _ _ | with_reducible refine bl_call ?_ (by assumption)))⟩
        · obtain ⟨x, rfl⟩ : ∃ x, ws = [x] := by
            match ws, hne, hl2, hl3 with
            | [x], _, _, _ => exact ⟨x, rfl⟩
            | _ :: _ :: [], _, h, _ => exact absurd rfl h
            | _ :: _ :: _ :: _, _, _, h => simp at h
          have hx : x = x0 := HX0.out
          subst hx
          have HIO : Hid (Stil.instOf [x] = ⟨C, ⟨0, []⟩⟩) := by show _ = _; unfold Stil.instOf; rw [← HCE.out]; rfl
          have HSO : Hid (Stil.specOk [x] = Stil.listOk ⟨C, ⟨0, []⟩⟩) := by show _ = _; rw [← HIO.out]; rfl
          have HLO : Hid (∀ W, Calls Tryz.prog 10 #[.agg #[.int .i64 C, .int .i64 0, .slice none 0 0]] W fun e w' => e = .returned (.bool (Stil.listOk ⟨C, ⟨0, []⟩⟩)) ∧ Below W.heap.size W w') := fun W => s_listOk ⟨C, ⟨0, []⟩⟩ (.slice none 0 0) W ⟨none, 0, rfl, fun i hi => absurd hi (by simp)⟩ ⟨⟨by have := hcc; simp only; omega, by have := hcc; simp only; omega⟩, ⟨by show (-9223372036854775808 : Int) ≤ 0; decide, by show (0 : Int) ≤ 9223372036854775807; decide⟩, by simp, by simp⟩
          obtain ⟨ok, hok⟩ : ∃ k, k = Stil.listOk ⟨C, ⟨0, []⟩⟩ := ⟨_, rfl⟩
          rw [← hok] at HLO HSO
          clear hok hl2b
          go_upto_region 13 with fail
          obtain ⟨W1, hW1⟩ : ∃ W1, W1 = wr.alloc (Obj.cells #[Value.int IntKind.i64 C, Value.int IntKind.i64 0, Value.slice none 0 0] 31) := ⟨_, rfl⟩
          have hB1 : Below wr.heap.size wr W1 := by rw [hW1]; exact below_alloc _ _
          have HAL : Hid (∀ W, Below W1.heap.size W1 W → (W.cell? ⟨w.heap.size, 0, none⟩ = some (.int .i64 0) ∧ W.cell? ⟨w.heap.size, 1, none⟩ = some (.int .i64 0) ∧ W.cell? ⟨w.heap.size, 2, none⟩ = some (.slice none 0 0)) ∧ (W.frozen? ⟨w.heap.size, 0, none⟩ = false ∧ W.frozen? ⟨w.heap.size, 1, none⟩ = false ∧ W.frozen? ⟨w.heap.size, 2, none⟩ = false) ∧ W.cell? ⟨wr.heap.size, 0, none⟩ = some (.int .i64 C) ∧ W.cell? ⟨wr.heap.size, 1, none⟩ = some (.int .i64 0) ∧ W.cell? ⟨wr.heap.size, 2, none⟩ = some (.slice none 0 0)) := fun W h => by
            have h2 := hB1.trans (h.mono hB1.size)
            refine ⟨⟨(h2.cell (p := ⟨_, 0, none⟩) hz0).trans c0, (h2.cell (p := ⟨_, 1, none⟩) hz0).trans c1, (h2.cell (p := ⟨_, 2, none⟩) hz0).trans c2⟩, ⟨(h2.frozen (p := ⟨_, 0, none⟩) hz0).trans f0, (h2.frozen (p := ⟨_, 1, none⟩) hz0).trans f1, (h2.frozen (p := ⟨_, 2, none⟩) hz0).trans f2⟩, ?_, ?_, ?_⟩
            · rw [h.cell (p := ⟨wr.heap.size, 0, none⟩) (by rw [hW1]; simp), hW1]; simp [go_sem]
            · rw [h.cell (p := ⟨wr.heap.size, 1, none⟩) (by rw [hW1]; simp), hW1]; simp [go_sem]
            · rw [h.cell (p := ⟨wr.heap.size, 2, none⟩) (by rw [hW1]; simp), hW1]; simp [go_sem]
          rw [← hW1]
          clear hW1 c0 c1 c2 f0 f1 f2
          obtain ⟨⟨c0, c1, c2⟩, ⟨f0, f1, f2⟩, b0, b1, b2⟩ := HAL.out W1 (Below.refl _ _)
          go_region_with (go_at_call 10; refine (HLO.out _).mono ?_; rintro e w5 ⟨rfl, hb5⟩; clear c0 c1 c2 f0 f1 f2 b0 b1 b2; obtain ⟨⟨c0, c1, c2⟩, ⟨f0, f1, f2⟩, b0, b1, b2⟩ := HAL.out w5 (by (repeat (first | with_reducible exact Below.refl _ _ | with_reducible assumption | with_reducible refine bl_set (by first | exact Nat.le_refl _ | (simp; done) | (simp; omega) | omega) ?_ _ | with_reducible refine bl_alloc ?_ _ | with_reducible refine bl_drewN ?_ _ | with_reducible refine bl_drew ?_ | with_reducible refine bl_grow ?_ _ _ | with_reducible refine bl_call ?_ (by assumption)))))
          all_goals
            go_wp2
            have hfin : Below w.heap.size w (((w5.setCell ⟨w.heap.size, 0, none⟩ (.int .i64 C)).setCell ⟨w.heap.size, 1, none⟩ (.int .i64 0)).setCell ⟨w.heap.size, 2, none⟩ (.slice none 0 0)) := bl_set (by simp) (bl_set (by simp) (bl_set (by simp) (hB0.trans ((hB1.trans ((show Below W1.heap.size W1 w5 by (repeat (first | with_reducible exact Below.refl _ _ | with_reducible assumption | with_reducible refine bl_set (by first | exact Nat.le_refl _ | (simp; done) | (simp; omega) | omega) ?_ _ | with_reducible refine bl_alloc ?_ _ | with_reducible refine bl_drewN ?_ _ | with_reducible refine bl_drew ?_ | with_reducible refine bl_grow ?_ _ _ | with_reducible refine bl_call ?_ (by assumption)))).mono hB1.size)).mono hB0.size)) _) _) _
            have z0 : (((w5.setCell ⟨w.heap.size, 0, none⟩ (.int .i64 C)).setCell ⟨w.heap.size, 1, none⟩ (.int .i64 0)).setCell ⟨w.heap.size, 2, none⟩ (.slice none 0 0)).cell? ⟨w.heap.size, 0, none⟩ = some (.int .i64 C) := (cell_set_off (by omega)).trans ((cell_set_off (by omega)).trans (cell_set_at c0))
            have z1 : (((w5.setCell ⟨w.heap.size, 0, none⟩ (.int .i64 C)).setCell ⟨w.heap.size, 1, none⟩ (.int .i64 0)).setCell ⟨w.heap.size, 2, none⟩ (.slice none 0 0)).cell? ⟨w.heap.size, 1, none⟩ = some (.int .i64 0) := (cell_set_off (by omega)).trans (cell_set_at ((cell_set_off (by omega)).trans c1))
            have z2 : (((w5.setCell ⟨w.heap.size, 0, none⟩ (.int .i64 C)).setCell ⟨w.heap.size, 1, none⟩ (.int .i64 0)).setCell ⟨w.heap.size, 2, none⟩ (.slice none 0 0)).cell? ⟨w.heap.size, 2, none⟩ = some (.slice none 0 0) := cell_set_at ((cell_set_off (by omega)).trans ((cell_set_off (by omega)).trans c2))
            refine bodyPost_ret (v := .tuple #[.agg #[.int .i64 C, .int .i64 0, .slice none 0 0], .bool ok]) (by simp [results, Tryz.results41, go_sem, z0, z1, z2]) rfl ?_
            cases ok
            · exact .inr ⟨_, _, _, _, _, rfl, HSO.out, hfin⟩
            · refine .inl ⟨.slice none 0 0, by rw [HIO.out], HSO.out, ?_, hfin⟩
              rw [HIO.out]
              exact World.ownsRow_nil _ _ _ _
end Go.Proofs.YtipdjmbgbehkaaaGreatDoor
