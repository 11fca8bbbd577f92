/- S13, S14: texts put together. -/
import Derived.Test.YtipdjmbgbehkaaaGreatDoorHr
import Derived.Test.YtipdjmbgbehkaaaGreatDoorG4
import Derived.Test.YtipdjmbgbehkaaaGreatDoorS7
import Derived.Lib.QuietBelow
import Derived.Deep.RegionWith
import Derived.Test.YtipdjmbgbehkaaaGreatDoorGj
import Derived.Maps.AppendAt
set_option maxHeartbeats 4000000
set_option maxRecDepth 100000
/- Contracts of the specification's chapter 5: the instruction of a line. -/
namespace Go.Proofs.YtipdjmbgbehkaaaGreatDoor
open Go.RowKit Go.Sort Go.BigFrame
/-- What a reading of a line leaves. -/
def LineOut (ws : List (List UInt8)) (e : Ending) (w w' : World) : Prop := (∃ v, e = .returned (.tuple #[.agg #[.int .i64 (Stil.instOf ws).code, .int .i64 (Stil.instOf ws).one.op, v], .bool true]) ∧ Stil.specOk ws = true ∧ w'.ownsRow w.heap.size 74 3 v (Stil.instOf ws).one.args.length (devsCells (Stil.instOf ws).one.args) ∧ Below w.heap.size w w') ∨ (∃ (a b : Int) (p : Option Addr) (n c : Nat), e = .returned (.tuple #[.agg #[.int .i64 a, .int .i64 b, .slice p n c], .bool false]) ∧ Stil.specOk ws = false ∧ Below w.heap.size w w')
theorem s_l5Line (ws : List (List UInt8)) (g cap : Nat) (w : World) (hne : 0 < ws.length) (hn : ws.length ≤ 1000000) (hl : ∀ x ∈ ws, x.length ≤ 1000000) (hg : g < w.heap.size) (hc : ∀ k (h : k < ws.length), w.cell? ⟨g, k, none⟩ = some (.string ⟨ws[k].toArray⟩)) :
  Calls Tryz.prog 41 #[.slice (some ⟨g, 0, none⟩) ws.length cap] w fun e w' => LineOut ws e w w' := by
 obtain ⟨W0, hW0⟩ : ∃ W0, W0 = w.alloc (.cells #[.int .i64 0, .int .i64 0, .slice none 0 0] 31) := ⟨_, rfl⟩
 have hb0 : Below w.heap.size w W0 := by rw [hW0]; exact below_alloc _ _
 have HC : Hid (∀ W, Below W0.heap.size W0 W → ∀ k (h : k < ws.length), W.cell? ⟨g, k, none⟩ = some (.string ⟨ws[k].toArray⟩)) := fun W h k hk => by
  rw [(hb0.trans (h.mono hb0.size)).cell (p := ⟨g, k, none⟩) hg]
  exact hc k hk
 obtain ⟨x0, hx0⟩ : ∃ x, x = ws[0] := ⟨_, rfl⟩
 have HX : Hid (∀ W, Below W0.heap.size W0 W → W.cell? ⟨g, 0, none⟩ = some (.string ⟨x0.toArray⟩)) := fun W h => by rw [hx0]; exact HC.out W h 0 hne
 have HX0 : Hid (ws[0] = x0) := hx0.symm
 clear hc hx0
 go_enter Tryz.func41, Tryz.ntmps41
 go_wp2
 rw [← hW0]
 go_loopw [4, 5] (fun c k wr => ∃ m : Nat, m ≤ 11 ∧ k = .int .i64 ((m : Int) + 1) ∧ c = .int .i64 (codeUp x0 m) ∧ Below W0.heap.size W0 wr) (fun _ k _ => 12 - (intOf k).toNat)
 case atStart => exact ⟨0, by omega, rfl, rfl, Below.refl _ _⟩
 case round =>
  obtain ⟨m, h2, rfl, rfl, hB⟩ := hrel
  by_cases hlt : m < 11
  ·have hcell := HX.out wr hB
   have r0 := cell_regrown hcell
   have HUP : Hid (codeUp x0 (m + 1) = if x0 = Stil.lwordOf ((m + 1 : Nat) : Int) then ((m + 1 : Nat) : Int) else codeUp x0 m) := rfl
   have HLW : Hid (∀ W, Calls Tryz.prog 49 #[.int .i64 ((m : Int) + 1)] W fun e w' => e = .returned (.string ⟨(Stil.lwordOf ((m + 1 : Nat) : Int)).toArray⟩) ∧ Below W.heap.size W w') := fun W => s_listWord (m + 1) W (by omega) (by omega)
   obtain ⟨y, hy⟩ : ∃ y, y = Stil.lwordOf ((m + 1 : Nat) : Int) := ⟨_, rfl⟩
   rw [← hy] at HUP HLW
   have hwm : IntKind.i64.wrap ((m : Int) + 1 + 1) = (m : Int) + 1 + 1 := by rw [IntKind.wrap_i64]; omega
   have hml : (m : Int) + 1 ≤ 11 := by omega
   clear hy hcell
   by_cases hxy : x0 = y
   ·have HU : Hid (codeUp x0 (m + 1) = ((m + 1 : Nat) : Int)) := by show _ = _; rw [HUP.out, if_pos hxy]
    have hxb : (x0 == y) = true := by rw [hxy]; simp
    go_upto_region 5 with fail
    refine wp_region_quiet_below (by kernel_rfl) (by kernel_rfl) ?_
    repeat (go_big_quiet_step ((exact Calls.regrown_of (HLW.out _))))
    refine wpQuiet_nil ?_
    intro _ hw'
    obtain ⟨⟨dq, osq⟩, hw''⟩ := hw'
    subst hw''
    go_wp2
    refine ⟨⟨m + 1, by omega, by simp, by rw [HU.out]; simp, hB.trans ((below_regrown _ _ _).mono hB.size)⟩, by simp [intOf]; omega⟩
   ·have HU : Hid (codeUp x0 (m + 1) = codeUp x0 m) := by show _ = _; rw [HUP.out, if_neg hxy]
    have hxb : (x0 == y) = false := beq_eq_false_iff_ne.2 hxy
    go_upto_region 5 with fail
    refine wp_region_quiet_below (by kernel_rfl) (by kernel_rfl) ?_
    repeat (go_big_quiet_step ((exact Calls.regrown_of (HLW.out _))))
    refine wpQuiet_nil ?_
    intro _ hw'
    obtain ⟨⟨dq, osq⟩, hw''⟩ := hw'
    subst hw''
    go_wp2
    refine ⟨⟨m + 1, by omega, by simp, by rw [HU.out], hB.trans ((below_regrown _ _ _).mono hB.size)⟩, by simp [intOf]; omega⟩
  ·obtain rfl : m = 11 := by omega
   have HCO : Hid (codeUp x0 11 = Stil.codeOf x0) := code_up x0
   rw [HCO.out]
   have hcc : -1 ≤ Stil.codeOf x0 ∧ Stil.codeOf x0 ≤ 11 := by unfold Stil.codeOf; (repeat' split) <;> omega
   obtain ⟨C, hC⟩ : ∃ C, C = Stil.codeOf x0 := ⟨_, rfl⟩
   have HCE : Hid (Stil.codeOf x0 = C) := hC.symm
   rw [← hC] at hcc ⊢
   clear hC HCO
   have hB0 : Below w.heap.size w wr := hb0.trans (hB.mono hb0.size)
   have hz0 : w.heap.size < wr.heap.size := by have := hB.size; rw [hW0] at this; simp at this; omega
   have c0 : wr.cell? ⟨w.heap.size, 0, none⟩ = some (.int .i64 0) := by rw [hB.cell (p := ⟨w.heap.size, 0, none⟩) (by rw [hW0]; simp), hW0]; simp [go_sem]
   have c1 : wr.cell? ⟨w.heap.size, 1, none⟩ = some (.int .i64 0) := by rw [hB.cell (p := ⟨w.heap.size, 1, none⟩) (by rw [hW0]; simp), hW0]; simp [go_sem]
   have c2 : wr.cell? ⟨w.heap.size, 2, none⟩ = some (.slice none 0 0) := by rw [hB.cell (p := ⟨w.heap.size, 2, none⟩) (by rw [hW0]; simp), hW0]; simp [go_sem]
   have f0 : wr.frozen? ⟨w.heap.size, 0, none⟩ = false := by rw [hB.frozen (p := ⟨w.heap.size, 0, none⟩) (by rw [hW0]; simp), hW0]; simp [go_sem]
   have f1 : wr.frozen? ⟨w.heap.size, 1, none⟩ = false := by rw [hB.frozen (p := ⟨w.heap.size, 1, none⟩) (by rw [hW0]; simp), hW0]; simp [go_sem]
   have f2 : wr.frozen? ⟨w.heap.size, 2, none⟩ = false := by rw [hB.frozen (p := ⟨w.heap.size, 2, none⟩) (by rw [hW0]; simp), hW0]; simp [go_sem]
   by_cases hl2 : ws.length = 2
   ·obtain ⟨x, y, rfl⟩ : ∃ x y, ws = [x, y] := by
     match ws, hl2 with
     | [x, y], _ => exact ⟨x, y, rfl⟩
    have hx : x = x0 := HX0.out
    subst hx
    have cy := HC.out wr hB 1 (by simp)
    have cyy : wr.cell? ⟨g, 1, none⟩ = some (.string ⟨y.toArray⟩) := cy
    have hgr : g < wr.heap.size := Nat.lt_of_lt_of_le hg hB0.size
    have HIO : Hid (Stil.instOf [x, y] = ⟨C, Stil.elemRead y⟩) := by show _ = _; unfold Stil.instOf; rw [← HCE.out]; rfl
    have HSO : Hid (Stil.specOk [x, y] = (Stil.elemReadB y && Stil.listOk ⟨C, Stil.elemRead y⟩)) := by show _ = _; rw [← HIO.out]; rfl
    have HER : Hid (∀ W, Calls Tryz.prog 69 #[.string ⟨y.toArray⟩] W fun e w' => ∃ v, e = .returned (.tuple #[.agg #[.int .i64 (Stil.elemRead y).op, v], .bool (Stil.elemReadB y)]) ∧ w'.ownsRow W.heap.size 74 3 v (Stil.elemRead y).args.length (devsCells (Stil.elemRead y).args) ∧ Below W.heap.size W w') := fun W => s_elemRead y W (by have := hl y (by simp); omega)
    have HFT : Hid (Stil.Inst.fits ⟨C, Stil.elemRead y⟩) := ⟨⟨by have := hcc; simp only; omega, by have := hcc; simp only; omega⟩, elemRead_fits y⟩
    obtain ⟨E, hE⟩ : ∃ E, E = Stil.elemRead y := ⟨_, rfl⟩
    obtain ⟨kb, hkb⟩ : ∃ E, E = Stil.elemReadB y := ⟨_, rfl⟩
    rw [← hE] at HIO HSO HER HFT
    rw [← hkb] at HSO HER
    clear cy hE hkb HC HX HX0 hl hn hne hl2 hcc
    go_upto_region 9 with fail
    obtain ⟨W1, hW1⟩ : ∃ W1, W1 = wr.alloc (Obj.cells #[Value.int IntKind.i64 C, Value.int IntKind.i64 0, Value.slice none 0 0] 31) := ⟨_, rfl⟩
    have hB1 : Below wr.heap.size wr W1 := by rw [hW1]; exact below_alloc _ _
    have hs1 : W1.heap.size = wr.heap.size + 1 := by rw [hW1]; simp
    have hzr : wr.heap.size < W1.heap.size := by omega
    have HAL : Hid (∀ V, Below W1.heap.size W1 V → (V.cell? ⟨w.heap.size, 0, none⟩ = some (.int .i64 0) ∧ V.cell? ⟨w.heap.size, 1, none⟩ = some (.int .i64 0) ∧ V.cell? ⟨w.heap.size, 2, none⟩ = some (.slice none 0 0)) ∧ (V.frozen? ⟨w.heap.size, 0, none⟩ = false ∧ V.frozen? ⟨w.heap.size, 1, none⟩ = false ∧ V.frozen? ⟨w.heap.size, 2, none⟩ = false) ∧ (V.cell? ⟨wr.heap.size, 0, none⟩ = some (.int .i64 C) ∧ V.cell? ⟨wr.heap.size, 1, none⟩ = some (.int .i64 0) ∧ V.cell? ⟨wr.heap.size, 2, none⟩ = some (.slice none 0 0)) ∧ V.frozen? ⟨wr.heap.size, 1, none⟩ = false ∧ V.frozen? ⟨wr.heap.size, 2, none⟩ = false) := fun V h => by
     have h2 := hB1.trans (h.mono hB1.size)
     refine ⟨⟨(h2.cell (p := ⟨_, 0, none⟩) hz0).trans c0, (h2.cell (p := ⟨_, 1, none⟩) hz0).trans c1, (h2.cell (p := ⟨_, 2, none⟩) hz0).trans c2⟩, ⟨(h2.frozen (p := ⟨_, 0, none⟩) hz0).trans f0, (h2.frozen (p := ⟨_, 1, none⟩) hz0).trans f1, (h2.frozen (p := ⟨_, 2, none⟩) hz0).trans f2⟩, ⟨?_, ?_, ?_⟩, ?_, ?_⟩
     ·rw [h.cell (p := ⟨wr.heap.size, 0, none⟩) (by rw [hW1]; simp), hW1]; simp [go_sem]
     ·rw [h.cell (p := ⟨wr.heap.size, 1, none⟩) (by rw [hW1]; simp), hW1]; simp [go_sem]
     ·rw [h.cell (p := ⟨wr.heap.size, 2, none⟩) (by rw [hW1]; simp), hW1]; simp [go_sem]
     ·rw [h.frozen (p := ⟨wr.heap.size, 1, none⟩) (by rw [hW1]; simp), hW1]; simp [go_sem]
     ·rw [h.frozen (p := ⟨wr.heap.size, 2, none⟩) (by rw [hW1]; simp), hW1]; simp [go_sem]
    have hbw1 : Below w.heap.size w W1 := hB0.trans (hB1.mono hB0.size)
    have hzw : w.heap.size < W1.heap.size := by omega
    rw [← hW1]
    clear hW1 c0 c1 c2 f0 f1 f2
    obtain ⟨⟨c0, c1, c2⟩, ⟨f0, f1, f2⟩, ⟨b0, b1, b2⟩, g1, g2⟩ := HAL.out W1 (Below.refl _ _)
    have cy1 : W1.cell? ⟨g, 1, none⟩ = some (.string ⟨y.toArray⟩) := (hB1.cell (p := ⟨g, 1, none⟩) hgr).trans cyy
    clear cyy
    go_upto_region 10 with (go_at_call 69; refine (HER.out _).mono ?_; rintro e w3 ⟨v, rfl, hown, hb3⟩; obtain ⟨ea, ec, hev, _⟩ := own_open hown; subst hev)
    have HOW : Hid (w3.ownsRow W1.heap.size 74 3 (.slice ea E.args.length ec) E.args.length (devsCells E.args)) := hown
    have hb13 : Below W1.heap.size W1 w3 := blA
    obtain ⟨W3, hW3⟩ : ∃ W3, W3 = w3.alloc (Obj.cells #[Value.int IntKind.i64 E.op, Value.slice ea E.args.length ec] 29) := ⟨_, rfl⟩
    have hB3 : Below w3.heap.size w3 W3 := by rw [hW3]; exact below_alloc _ _
    have hs13 := hb13.size
    have hs3 : W3.heap.size = w3.heap.size + 1 := by rw [hW3]; simp
    have d0 : W3.cell? ⟨w3.heap.size, 0, none⟩ = some (.int .i64 E.op) := by rw [hW3]; simp [go_sem]
    have d1 : W3.cell? ⟨w3.heap.size, 1, none⟩ = some (.slice ea E.args.length ec) := by rw [hW3]; simp [go_sem]
    have HO3 : Hid (W3.ownsRow W1.heap.size 74 3 (.slice ea E.args.length ec) E.args.length (devsCells E.args)) := ownsRow_below HOW.out hB3
    have h13 : Below W1.heap.size W1 W3 := hb13.trans (hB3.mono hs13)
    rw [← hW3]
    clear hW3 c0 c1 c2 f0 f1 f2 b0 b1 b2 g1 g2 cy1 hown hb3 hb13 hB3
    obtain ⟨⟨c0, c1, c2⟩, ⟨f0, f1, f2⟩, ⟨b0, b1, b2⟩, g1, g2⟩ := HAL.out W3 h13
    have hbV : Below w.heap.size w W3 := hbw1.trans (h13.mono (by omega))
    cases kb
    ·have HSF : Hid (Stil.specOk [x, y] = false) := by show _ = _; rw [HSO.out]; rfl
     clear HSO
     go_wp2
     have hfin : Below w.heap.size w (((W3.setCell ⟨w.heap.size, 0, none⟩ (.int .i64 0)).setCell ⟨w.heap.size, 1, none⟩ (.int .i64 0)).setCell ⟨w.heap.size, 2, none⟩ (.slice none 0 0)) := bl_set (by simp) (bl_set (by simp) (bl_set (by simp) hbV _) _) _
     have z0 : (((W3.setCell ⟨w.heap.size, 0, none⟩ (.int .i64 0)).setCell ⟨w.heap.size, 1, none⟩ (.int .i64 0)).setCell ⟨w.heap.size, 2, none⟩ (.slice none 0 0)).cell? ⟨w.heap.size, 0, none⟩ = some (.int .i64 0) := (cell_set_off (by omega)).trans ((cell_set_off (by omega)).trans (cell_set_at c0))
     have z1 : (((W3.setCell ⟨w.heap.size, 0, none⟩ (.int .i64 0)).setCell ⟨w.heap.size, 1, none⟩ (.int .i64 0)).setCell ⟨w.heap.size, 2, none⟩ (.slice none 0 0)).cell? ⟨w.heap.size, 1, none⟩ = some (.int .i64 0) := (cell_set_off (by omega)).trans (cell_set_at ((cell_set_off (by omega)).trans c1))
     have z2 : (((W3.setCell ⟨w.heap.size, 0, none⟩ (.int .i64 0)).setCell ⟨w.heap.size, 1, none⟩ (.int .i64 0)).setCell ⟨w.heap.size, 2, none⟩ (.slice none 0 0)).cell? ⟨w.heap.size, 2, none⟩ = some (.slice none 0 0) := cell_set_at ((cell_set_off (by omega)).trans ((cell_set_off (by omega)).trans c2))
     refine bodyPost_ret (v := .tuple #[.agg #[.int .i64 0, .int .i64 0, .slice none 0 0], .bool false]) (by simp [results, Tryz.results41, go_sem, z0, z1, z2]) rfl ?_
     exact .inr ⟨_, _, _, _, _, rfl, HSF.out, hfin⟩
    ·have HS2 : Hid (Stil.specOk [x, y] = Stil.listOk ⟨C, E⟩) := by show _ = _; rw [HSO.out, Bool.true_and]
     clear HSO
     go_upto_region 13 with fail
     obtain ⟨W5, hW5⟩ : ∃ W5, W5 = (W3.setCell ⟨wr.heap.size, 1, none⟩ (.int .i64 E.op)).setCell ⟨wr.heap.size, 2, none⟩ (.slice ea E.args.length ec) := ⟨_, rfl⟩
     have hs5 : W5.heap.size = W3.heap.size := by rw [hW5]; simp
     have HO5 : Hid (W5.ownsRow W1.heap.size 74 3 (.slice ea E.args.length ec) E.args.length (devsCells E.args)) := by show World.ownsRow _ _ _ _ _ _ _; rw [hW5]; exact ownsRow_setCell_below (ownsRow_setCell_below HO3.out hzr _) hzr _
     have hbw5 : Below w.heap.size w W5 := by rw [hW5]; exact bl_set (by simp; omega) (bl_set (by simp; omega) hbV _) _
     have HAM : Hid (∀ V, Below W5.heap.size W5 V → (V.cell? ⟨w.heap.size, 0, none⟩ = some (.int .i64 0) ∧ V.cell? ⟨w.heap.size, 1, none⟩ = some (.int .i64 0) ∧ V.cell? ⟨w.heap.size, 2, none⟩ = some (.slice none 0 0)) ∧ (V.frozen? ⟨w.heap.size, 0, none⟩ = false ∧ V.frozen? ⟨w.heap.size, 1, none⟩ = false ∧ V.frozen? ⟨w.heap.size, 2, none⟩ = false) ∧ (V.cell? ⟨wr.heap.size, 0, none⟩ = some (.int .i64 C) ∧ V.cell? ⟨wr.heap.size, 1, none⟩ = some (.int .i64 E.op) ∧ V.cell? ⟨wr.heap.size, 2, none⟩ = some (.slice ea E.args.length ec)) ∧ V.frozen? ⟨wr.heap.size, 1, none⟩ = false ∧ V.frozen? ⟨wr.heap.size, 2, none⟩ = false) := fun V h => by
      have y0 : W5.cell? ⟨w.heap.size, 0, none⟩ = some (.int .i64 0) := by rw [hW5]; exact (cell_set_other (by omega)).trans ((cell_set_other (by omega)).trans c0)
      have y1 : W5.cell? ⟨w.heap.size, 1, none⟩ = some (.int .i64 0) := by rw [hW5]; exact (cell_set_other (by omega)).trans ((cell_set_other (by omega)).trans c1)
      have y2 : W5.cell? ⟨w.heap.size, 2, none⟩ = some (.slice none 0 0) := by rw [hW5]; exact (cell_set_other (by omega)).trans ((cell_set_other (by omega)).trans c2)
      have x0 : W5.cell? ⟨wr.heap.size, 0, none⟩ = some (.int .i64 C) := by rw [hW5]; exact (cell_set_off (by omega)).trans ((cell_set_off (by omega)).trans b0)
      have x1 : W5.cell? ⟨wr.heap.size, 1, none⟩ = some (.int .i64 E.op) := by rw [hW5]; exact (cell_set_off (by omega)).trans (cell_set_at b1)
      have x2 : W5.cell? ⟨wr.heap.size, 2, none⟩ = some (.slice ea E.args.length ec) := by rw [hW5]; exact cell_set_at ((cell_set_off (by omega)).trans b2)
      have q0 : ∀ b o, W5.frozen? ⟨b, o, none⟩ = W3.frozen? ⟨b, o, none⟩ := fun b o => by rw [hW5]; exact frozen_set.trans frozen_set
      exact ⟨⟨(h.cell (World.block_lt_of_cell? _ _ y0)).trans y0, (h.cell (World.block_lt_of_cell? _ _ y1)).trans y1, (h.cell (World.block_lt_of_cell? _ _ y2)).trans y2⟩, ⟨(h.frozen (World.block_lt_of_cell? _ _ y0)).trans ((q0 _ _).trans f0), (h.frozen (World.block_lt_of_cell? _ _ y1)).trans ((q0 _ _).trans f1), (h.frozen (World.block_lt_of_cell? _ _ y2)).trans ((q0 _ _).trans f2)⟩, ⟨(h.cell (World.block_lt_of_cell? _ _ x0)).trans x0, (h.cell (World.block_lt_of_cell? _ _ x1)).trans x1, (h.cell (World.block_lt_of_cell? _ _ x2)).trans x2⟩, (h.frozen (World.block_lt_of_cell? _ _ x1)).trans ((q0 _ _).trans g1), (h.frozen (World.block_lt_of_cell? _ _ x2)).trans ((q0 _ _).trans g2)⟩
     have HLO : Hid (∀ V, Below W5.heap.size W5 V → Calls Tryz.prog 10 #[.agg #[.int .i64 C, .int .i64 E.op, .slice ea E.args.length ec]] V fun e w' => e = .returned (.bool (Stil.listOk ⟨C, E⟩)) ∧ Below V.heap.size V w') := fun V h => s_listOk ⟨C, E⟩ _ V (DevsAt.of_owns (ownsRow_below HO5.out h)) HFT.out
     obtain ⟨ok, hok⟩ : ∃ k, k = Stil.listOk ⟨C, E⟩ := ⟨_, rfl⟩
     rw [← hok] at HLO HS2
     rw [← hW5]
     clear hok hW5 c0 c1 c2 f0 f1 f2 b0 b1 b2 g1 g2 d0 d1 hbV HAL h13
     obtain ⟨⟨c0, c1, c2⟩, ⟨f0, f1, f2⟩, ⟨b0, b1, b2⟩, _⟩ := HAM.out W5 (Below.refl _ _)
     go_region_with (go_at_call 10; refine (HLO.out _ blA).mono ?_; rintro e w5 ⟨rfl, hb5⟩; clear c0 c1 c2 f0 f1 f2 b0 b1 b2; obtain ⟨⟨c0, c1, c2⟩, ⟨f0, f1, f2⟩, ⟨b0, b1, b2⟩, _⟩ := HAM.out w5 blA)
     all_goals
      have h55 : Below W5.heap.size W5 w5 := blA
      have hbV : Below w.heap.size w w5 := hbw5.trans (h55.mono (by omega))
      have HO6 : Hid (w5.ownsRow W1.heap.size 74 3 (.slice ea E.args.length ec) E.args.length (devsCells E.args)) := ownsRow_below HO5.out h55
      go_wp2
      have hfin : Below w.heap.size w (((w5.setCell ⟨w.heap.size, 0, none⟩ (.int .i64 C)).setCell ⟨w.heap.size, 1, none⟩ (.int .i64 E.op)).setCell ⟨w.heap.size, 2, none⟩ (.slice ea E.args.length ec)) := bl_set (by simp) (bl_set (by simp) (bl_set (by simp) hbV _) _) _
      have z0 : (((w5.setCell ⟨w.heap.size, 0, none⟩ (.int .i64 C)).setCell ⟨w.heap.size, 1, none⟩ (.int .i64 E.op)).setCell ⟨w.heap.size, 2, none⟩ (.slice ea E.args.length ec)).cell? ⟨w.heap.size, 0, none⟩ = some (.int .i64 C) := (cell_set_off (by omega)).trans ((cell_set_off (by omega)).trans (cell_set_at c0))
      have z1 : (((w5.setCell ⟨w.heap.size, 0, none⟩ (.int .i64 C)).setCell ⟨w.heap.size, 1, none⟩ (.int .i64 E.op)).setCell ⟨w.heap.size, 2, none⟩ (.slice ea E.args.length ec)).cell? ⟨w.heap.size, 1, none⟩ = some (.int .i64 E.op) := (cell_set_off (by omega)).trans (cell_set_at ((cell_set_off (by omega)).trans c1))
      have z2 : (((w5.setCell ⟨w.heap.size, 0, none⟩ (.int .i64 C)).setCell ⟨w.heap.size, 1, none⟩ (.int .i64 E.op)).setCell ⟨w.heap.size, 2, none⟩ (.slice ea E.args.length ec)).cell? ⟨w.heap.size, 2, none⟩ = some (.slice ea E.args.length ec) := cell_set_at ((cell_set_off (by omega)).trans ((cell_set_off (by omega)).trans c2))
      refine bodyPost_ret (v := .tuple #[.agg #[.int .i64 C, .int .i64 E.op, .slice ea E.args.length ec], .bool ok]) (by simp [results, Tryz.results41, go_sem, z0, z1, z2]) rfl ?_
      cases ok
      ·exact .inr ⟨_, _, _, _, _, rfl, HS2.out, hfin⟩
      ·refine .inl ⟨.slice ea E.args.length ec, by rw [HIO.out], HS2.out, ?_, hfin⟩
       rw [HIO.out]
       exact Joins.ownsRow_le (ownsRow_setCell_below (ownsRow_setCell_below (ownsRow_setCell_below HO6.out hzw _) hzw _) hzw _) (Nat.le_of_lt hzw)
   ·have hl2b : ((ws.length : Int) == 2) = false := by rw [beq_eq_false_iff_ne]; omega
    by_cases hl3 : 2 < ws.length
    ·have hd : decide ((ws.length : Int) ≤ 2) = false := by simp; omega
     have HSP : Hid (Stil.specOk ws = false) := by
      show _ = _
      match ws, hl3 with
      | a :: b :: c :: r, _ => rfl
     obtain ⟨ln, hln⟩ : ∃ n, n = ws.length := ⟨_, rfl⟩
     rw [← hln] at hd hl2b ⊢
     clear hl2 hl3 HC HX HX0 hn hl hne hln
     go_upto_region 13 with fail
     obtain ⟨W1, hW1⟩ : ∃ W1, W1 = wr.alloc (Obj.cells #[Value.int IntKind.i64 C, Value.int IntKind.i64 0, Value.slice none 0 0] 31) := ⟨_, rfl⟩
     have hB1 : Below wr.heap.size wr W1 := by rw [hW1]; exact below_alloc _ _
     have hs1 : W1.heap.size = wr.heap.size + 1 := by rw [hW1]; simp
     have hzr : wr.heap.size < W1.heap.size := by omega
     have HAL : Hid (∀ V, Below W1.heap.size W1 V → (V.cell? ⟨w.heap.size, 0, none⟩ = some (.int .i64 0) ∧ V.cell? ⟨w.heap.size, 1, none⟩ = some (.int .i64 0) ∧ V.cell? ⟨w.heap.size, 2, none⟩ = some (.slice none 0 0)) ∧ (V.frozen? ⟨w.heap.size, 0, none⟩ = false ∧ V.frozen? ⟨w.heap.size, 1, none⟩ = false ∧ V.frozen? ⟨w.heap.size, 2, none⟩ = false) ∧ (V.cell? ⟨wr.heap.size, 0, none⟩ = some (.int .i64 C) ∧ V.cell? ⟨wr.heap.size, 1, none⟩ = some (.int .i64 0) ∧ V.cell? ⟨wr.heap.size, 2, none⟩ = some (.slice none 0 0)) ∧ V.frozen? ⟨wr.heap.size, 1, none⟩ = false ∧ V.frozen? ⟨wr.heap.size, 2, none⟩ = false) := fun V h => by
      have h2 := hB1.trans (h.mono hB1.size)
      refine ⟨⟨(h2.cell (p := ⟨_, 0, none⟩) hz0).trans c0, (h2.cell (p := ⟨_, 1, none⟩) hz0).trans c1, (h2.cell (p := ⟨_, 2, none⟩) hz0).trans c2⟩, ⟨(h2.frozen (p := ⟨_, 0, none⟩) hz0).trans f0, (h2.frozen (p := ⟨_, 1, none⟩) hz0).trans f1, (h2.frozen (p := ⟨_, 2, none⟩) hz0).trans f2⟩, ⟨?_, ?_, ?_⟩, ?_, ?_⟩
      ·rw [h.cell (p := ⟨wr.heap.size, 0, none⟩) (by rw [hW1]; simp), hW1]; simp [go_sem]
      ·rw [h.cell (p := ⟨wr.heap.size, 1, none⟩) (by rw [hW1]; simp), hW1]; simp [go_sem]
      ·rw [h.cell (p := ⟨wr.heap.size, 2, none⟩) (by rw [hW1]; simp), hW1]; simp [go_sem]
      ·rw [h.frozen (p := ⟨wr.heap.size, 1, none⟩) (by rw [hW1]; simp), hW1]; simp [go_sem]
      ·rw [h.frozen (p := ⟨wr.heap.size, 2, none⟩) (by rw [hW1]; simp), hW1]; simp [go_sem]
     have hbw1 : Below w.heap.size w W1 := hB0.trans (hB1.mono hB0.size)
     have hzw : w.heap.size < W1.heap.size := by omega
     rw [← hW1]
     clear hW1 c0 c1 c2 f0 f1 f2
     obtain ⟨⟨c0, c1, c2⟩, ⟨f0, f1, f2⟩, ⟨b0, b1, b2⟩, g1, g2⟩ := HAL.out W1 (Below.refl _ _)
     have hbV := hbw1
     go_region_with fail
     all_goals
      go_wp2
      have hfin : Below w.heap.size w (((W1.setCell ⟨w.heap.size, 0, none⟩ (.int .i64 C)).setCell ⟨w.heap.size, 1, none⟩ (.int .i64 0)).setCell ⟨w.heap.size, 2, none⟩ (.slice none 0 0)) := bl_set (by simp) (bl_set (by simp) (bl_set (by simp) hbV _) _) _
      have z0 : (((W1.setCell ⟨w.heap.size, 0, none⟩ (.int .i64 C)).setCell ⟨w.heap.size, 1, none⟩ (.int .i64 0)).setCell ⟨w.heap.size, 2, none⟩ (.slice none 0 0)).cell? ⟨w.heap.size, 0, none⟩ = some (.int .i64 C) := (cell_set_off (by omega)).trans ((cell_set_off (by omega)).trans (cell_set_at c0))
      have z1 : (((W1.setCell ⟨w.heap.size, 0, none⟩ (.int .i64 C)).setCell ⟨w.heap.size, 1, none⟩ (.int .i64 0)).setCell ⟨w.heap.size, 2, none⟩ (.slice none 0 0)).cell? ⟨w.heap.size, 1, none⟩ = some (.int .i64 0) := (cell_set_off (by omega)).trans (cell_set_at ((cell_set_off (by omega)).trans c1))
      have z2 : (((W1.setCell ⟨w.heap.size, 0, none⟩ (.int .i64 C)).setCell ⟨w.heap.size, 1, none⟩ (.int .i64 0)).setCell ⟨w.heap.size, 2, none⟩ (.slice none 0 0)).cell? ⟨w.heap.size, 2, none⟩ = some (.slice none 0 0) := cell_set_at ((cell_set_off (by omega)).trans ((cell_set_off (by omega)).trans c2))
      refine bodyPost_ret (v := .tuple #[.agg #[.int .i64 C, .int .i64 0, .slice none 0 0], .bool false]) (by simp [results, Tryz.results41, go_sem, z0, z1, z2]) rfl ?_
      exact .inr ⟨_, _, _, _, _, rfl, HSP.out, blA⟩
    ·obtain ⟨x, rfl⟩ : ∃ x, ws = [x] := by
      match ws, hne, hl2, hl3 with
      | [x], _, _, _ => exact ⟨x, rfl⟩
      | _ :: _ :: [], _, h, _ => exact absurd rfl h
      | _ :: _ :: _ :: _, _, _, h => simp at h
     have hx : x = x0 := HX0.out
     subst hx
     have HIO : Hid (Stil.instOf [x] = ⟨C, ⟨0, []⟩⟩) := by show _ = _; unfold Stil.instOf; rw [← HCE.out]; rfl
     have HSO : Hid (Stil.specOk [x] = Stil.listOk ⟨C, ⟨0, []⟩⟩) := by show _ = _; rw [← HIO.out]; rfl
     have HLO : Hid (∀ W, Calls Tryz.prog 10 #[.agg #[.int .i64 C, .int .i64 0, .slice none 0 0]] W fun e w' => e = .returned (.bool (Stil.listOk ⟨C, ⟨0, []⟩⟩)) ∧ Below W.heap.size W w') := fun W => s_listOk ⟨C, ⟨0, []⟩⟩ (.slice none 0 0) W ⟨none, 0, rfl, fun i hi => absurd hi (by simp)⟩ ⟨⟨by have := hcc; simp only; omega, by have := hcc; simp only; omega⟩, ⟨by show (-9223372036854775808 : Int) ≤ 0; decide, by show (0 : Int) ≤ 9223372036854775807; decide⟩, by simp, by simp⟩
     obtain ⟨ok, hok⟩ : ∃ k, k = Stil.listOk ⟨C, ⟨0, []⟩⟩ := ⟨_, rfl⟩
     rw [← hok] at HLO HSO
     clear hok hl2b
     go_upto_region 13 with fail
     obtain ⟨W1, hW1⟩ : ∃ W1, W1 = wr.alloc (Obj.cells #[Value.int IntKind.i64 C, Value.int IntKind.i64 0, Value.slice none 0 0] 31) := ⟨_, rfl⟩
     have hB1 : Below wr.heap.size wr W1 := by rw [hW1]; exact below_alloc _ _
     have HAL : Hid (∀ W, Below W1.heap.size W1 W → (W.cell? ⟨w.heap.size, 0, none⟩ = some (.int .i64 0) ∧ W.cell? ⟨w.heap.size, 1, none⟩ = some (.int .i64 0) ∧ W.cell? ⟨w.heap.size, 2, none⟩ = some (.slice none 0 0)) ∧ (W.frozen? ⟨w.heap.size, 0, none⟩ = false ∧ W.frozen? ⟨w.heap.size, 1, none⟩ = false ∧ W.frozen? ⟨w.heap.size, 2, none⟩ = false) ∧ W.cell? ⟨wr.heap.size, 0, none⟩ = some (.int .i64 C) ∧ W.cell? ⟨wr.heap.size, 1, none⟩ = some (.int .i64 0) ∧ W.cell? ⟨wr.heap.size, 2, none⟩ = some (.slice none 0 0)) := fun W h => by
      have h2 := hB1.trans (h.mono hB1.size)
      refine ⟨⟨(h2.cell (p := ⟨_, 0, none⟩) hz0).trans c0, (h2.cell (p := ⟨_, 1, none⟩) hz0).trans c1, (h2.cell (p := ⟨_, 2, none⟩) hz0).trans c2⟩, ⟨(h2.frozen (p := ⟨_, 0, none⟩) hz0).trans f0, (h2.frozen (p := ⟨_, 1, none⟩) hz0).trans f1, (h2.frozen (p := ⟨_, 2, none⟩) hz0).trans f2⟩, ?_, ?_, ?_⟩
      ·rw [h.cell (p := ⟨wr.heap.size, 0, none⟩) (by rw [hW1]; simp), hW1]; simp [go_sem]
      ·rw [h.cell (p := ⟨wr.heap.size, 1, none⟩) (by rw [hW1]; simp), hW1]; simp [go_sem]
      ·rw [h.cell (p := ⟨wr.heap.size, 2, none⟩) (by rw [hW1]; simp), hW1]; simp [go_sem]
     rw [← hW1]
     clear hW1 c0 c1 c2 f0 f1 f2
     obtain ⟨⟨c0, c1, c2⟩, ⟨f0, f1, f2⟩, b0, b1, b2⟩ := HAL.out W1 (Below.refl _ _)
     go_region_with (go_at_call 10; refine (HLO.out _).mono ?_; rintro e w5 ⟨rfl, hb5⟩; clear c0 c1 c2 f0 f1 f2 b0 b1 b2; obtain ⟨⟨c0, c1, c2⟩, ⟨f0, f1, f2⟩, b0, b1, b2⟩ := HAL.out w5 blA)
     all_goals
      go_wp2
      have hfin : Below w.heap.size w (((w5.setCell ⟨w.heap.size, 0, none⟩ (.int .i64 C)).setCell ⟨w.heap.size, 1, none⟩ (.int .i64 0)).setCell ⟨w.heap.size, 2, none⟩ (.slice none 0 0)) := bl_set (by simp) (bl_set (by simp) (bl_set (by simp) (hB0.trans ((hB1.trans ((show Below W1.heap.size W1 w5 from blA).mono hB1.size)).mono hB0.size)) _) _) _
      have z0 : (((w5.setCell ⟨w.heap.size, 0, none⟩ (.int .i64 C)).setCell ⟨w.heap.size, 1, none⟩ (.int .i64 0)).setCell ⟨w.heap.size, 2, none⟩ (.slice none 0 0)).cell? ⟨w.heap.size, 0, none⟩ = some (.int .i64 C) := (cell_set_off (by omega)).trans ((cell_set_off (by omega)).trans (cell_set_at c0))
      have z1 : (((w5.setCell ⟨w.heap.size, 0, none⟩ (.int .i64 C)).setCell ⟨w.heap.size, 1, none⟩ (.int .i64 0)).setCell ⟨w.heap.size, 2, none⟩ (.slice none 0 0)).cell? ⟨w.heap.size, 1, none⟩ = some (.int .i64 0) := (cell_set_off (by omega)).trans (cell_set_at ((cell_set_off (by omega)).trans c1))
      have z2 : (((w5.setCell ⟨w.heap.size, 0, none⟩ (.int .i64 C)).setCell ⟨w.heap.size, 1, none⟩ (.int .i64 0)).setCell ⟨w.heap.size, 2, none⟩ (.slice none 0 0)).cell? ⟨w.heap.size, 2, none⟩ = some (.slice none 0 0) := cell_set_at ((cell_set_off (by omega)).trans ((cell_set_off (by omega)).trans c2))
      refine bodyPost_ret (v := .tuple #[.agg #[.int .i64 C, .int .i64 0, .slice none 0 0], .bool ok]) (by simp [results, Tryz.results41, go_sem, z0, z1, z2]) rfl ?_
      cases ok
      ·exact .inr ⟨_, _, _, _, _, rfl, HSO.out, hfin⟩
      ·refine .inl ⟨.slice none 0 0, by rw [HIO.out], HSO.out, ?_, hfin⟩
       rw [HIO.out]
       exact World.ownsRow_nil _ _ _ _
end Go.Proofs.YtipdjmbgbehkaaaGreatDoor
/- Contracts of the specification's chapter 5: ListParse. -/
namespace Stil
theorem parse_step {ls : List (List UInt8)} {k : Nat} (cs : List Inst) (h : k < ls.length) : parseFrom k cs (ls.drop k) = if wordsOf ls[k] = [] then parseFrom (k + 1) cs (ls.drop (k + 1)) else if specOk (wordsOf ls[k]) = false then ([], k + 1, 2) else if cs.length = 1000 then ([], k + 1, 3) else parseFrom (k + 1) (cs ++ [instOf (wordsOf ls[k])]) (ls.drop (k + 1)) := by
 rw [List.drop_eq_getElem_cons h]; rfl
theorem parse_end {ls : List (List UInt8)} {k : Nat} (cs : List Inst) (h : ls.length ≤ k) : parseFrom k cs (ls.drop k) = (cs, 0, 0) := by
 rw [List.drop_of_length_le h]; rfl
end Stil
namespace Go.Proofs.YtipdjmbgbehkaaaGreatDoor
open Go.RowKit Go.Sort Go.BigFrame
theorem Built.le {w : World} {lo hi : Nat} {sv rv : Value} {us : List Value} {cs : List Stil.Inst} {fin : List Rg} (h : Built w hi sv rv us cs fin) (hl : lo ≤ hi) : Built w lo sv rv us cs fin := by
 obtain ⟨⟨h1, h2, h3⟩, h4, h5, h6⟩ := h
 exact ⟨⟨h1, Joins.ownsRow_le h2 hl, fun i a b => Joins.ownsRow_le (h3 i a b) hl⟩, fun f hf => ⟨(h4 f hf).1, Joins.ownsRow_le (h4 f hf).2.1 hl, fun i a b => Joins.ownsRow_le ((h4 f hf).2.2 i a b) hl⟩, Joins.ownsRow_le h5 hl, h6⟩
theorem Built.store {w : World} {base b o : Nat} {sv rv : Value} {us : List Value} {cs : List Stil.Inst} {fin : List Rg} (h : Built w base sv rv us cs fin) (hb : b < base) (v : Value) : Built (w.setCell ⟨b, o, none⟩ v) base sv rv us cs fin := by
 obtain ⟨⟨h1, h2, h3⟩, h4, h5, h6⟩ := h
 exact ⟨⟨h1, ownsRow_setCell_below h2 hb _, fun i x y => ownsRow_setCell_below (h3 i x y) hb _⟩, fun f hf => ⟨(h4 f hf).1, ownsRow_setCell_below (h4 f hf).2.1 hb _, fun i x y => ownsRow_setCell_below ((h4 f hf).2.2 i x y) hb _⟩, ownsRow_setCell_below h5 hb _, h6⟩
theorem built_nil (w : World) (base : Nat) : Built w base (.slice none 0 0) (.slice none 0 0) [] [] [] := by
 refine ⟨⟨rfl, World.ownsRow_nil _ _ _ _, fun i hi => absurd hi (by simp)⟩, (fun f hf => by cases hf), World.ownsRow_nil _ _ _ _, ?_⟩
 simp [Apart]
 first | exact .inl rfl | rfl
theorem built_row {w : World} {base : Nat} {rv : Value} (h : w.ownsRow base 31 3 rv 0 []) : Built w base (.slice none 0 0) rv [] [] [] := by
 refine ⟨⟨rfl, h, fun i hi => absurd hi (by simp)⟩, (fun f hf => by cases hf), World.ownsRow_nil _ _ _ _, ?_⟩
 simp [Apart]
 first | exact .inl rfl | rfl
/-- What a reading of a text leaves. -/
def ParseOut (R : List Stil.Inst × Int × Int) (e : Ending) (w w' : World) : Prop := ∃ (rv : Value) (us : List Value), e = .returned (.tuple #[rv, .agg #[.int .i64 R.2.1, .int .i64 R.2.2]]) ∧ Built w' w.heap.size (.slice none 0 0) rv us R.1 [] ∧ Below w.heap.size w w'
theorem s_line_ok (ws : List (List UInt8)) (g cap : Nat) (w : World) (hok : Stil.specOk ws = true) (hne : 0 < ws.length) (hn : ws.length ≤ 1000000) (hl : ∀ x ∈ ws, x.length ≤ 1000000) (hg : g < w.heap.size) (hc : ∀ k (h : k < ws.length), w.cell? ⟨g, k, none⟩ = some (.string ⟨ws[k].toArray⟩)) :
  Calls Tryz.prog 41 #[.slice (some ⟨g, 0, none⟩) ws.length cap] w fun e w' => ∃ v, e = .returned (.tuple #[.agg #[.int .i64 (Stil.instOf ws).code, .int .i64 (Stil.instOf ws).one.op, v], .bool true]) ∧ w'.ownsRow w.heap.size 74 3 v (Stil.instOf ws).one.args.length (devsCells (Stil.instOf ws).one.args) ∧ Below w.heap.size w w' := by
 refine (s_l5Line ws g cap w hne hn hl hg hc).mono ?_
 rintro e w' (⟨v, h1, _, h2, h3⟩ | ⟨_, _, _, _, _, _, h, _⟩)
 ·exact ⟨v, h1, h2, h3⟩
 ·rw [hok] at h; cases h
theorem s_line_no (ws : List (List UInt8)) (g cap : Nat) (w : World) (hok : Stil.specOk ws = false) (hne : 0 < ws.length) (hn : ws.length ≤ 1000000) (hl : ∀ x ∈ ws, x.length ≤ 1000000) (hg : g < w.heap.size) (hc : ∀ k (h : k < ws.length), w.cell? ⟨g, k, none⟩ = some (.string ⟨ws[k].toArray⟩)) :
  Calls Tryz.prog 41 #[.slice (some ⟨g, 0, none⟩) ws.length cap] w fun e w' => ∃ (a b : Int) (p : Option Addr) (n c : Nat), e = .returned (.tuple #[.agg #[.int .i64 a, .int .i64 b, .slice p n c], .bool false]) ∧ Below w.heap.size w w' := by
 refine (s_l5Line ws g cap w hne hn hl hg hc).mono ?_
 rintro e w' (⟨v, _, h, _⟩ | ⟨a, b, p, n, c, h1, _, h2⟩)
 ·rw [hok] at h; cases h
 ·exact ⟨a, b, p, n, c, h1, h2⟩
theorem s_listParse (l : List UInt8) (w : World) (hs : l.length ≤ 1048576) :
  Calls Tryz.prog 14 #[.string ⟨l.toArray⟩] w fun e w' => ParseOut (Stil.listParse l) e w w' := by
 have hsz : (⟨l.toArray⟩ : ByteArray).size = l.length := rfl
 by_cases hlong : 50000 < l.length
 ·have HR : Hid (Stil.listParse l = ([], 0, 1)) := by show _ = _; unfold Stil.listParse; rw [if_pos hlong]
  go_enter Tryz.func14, Tryz.ntmps14
  go_wp2
  refine bodyPost_ret (v := .tuple #[.slice none 0 0, .agg #[.int .i64 0, .int .i64 1]]) (by simp [results, Tryz.results14, go_sem]) rfl ⟨.slice none 0 0, [], by rw [HR.out], by rw [HR.out]; exact built_nil _ _, blA⟩
 have HR : Hid (Stil.listParse l = Stil.parseFrom 0 [] (Stil.cut 10 l)) := by show _ = _; unfold Stil.listParse; rw [if_neg hlong]
 have HCU : Hid (∀ W, Calls Tryz.prog 39 #[.string ⟨l.toArray⟩, .int .u8 10] W fun e w' => ∃ v, e = .returned v ∧ w'.ownsRow W.heap.size 9 1 v (Stil.cut 10 l).length ((Stil.cut 10 l).map strV) ∧ Below W.heap.size W w') := fun W => s_cut l 10 W (by omega)
 have hcn := cut_ne 10 l
 have hcl := piece_count 10 l
 have HPL : Hid (∀ x ∈ Stil.cut 10 l, x.length ≤ 50000) := fun x hx => by have := cut_len 10 l x hx; omega
 obtain ⟨ls, hls⟩ : ∃ ls, ls = Stil.cut 10 l := ⟨_, rfl⟩
 obtain ⟨R, hR⟩ : ∃ R, R = Stil.listParse l := ⟨_, rfl⟩
 rw [← hls] at HR HCU hcn hcl HPL
 rw [← hR] at HR ⊢
 clear hls hR
 obtain ⟨i0, hi, hz0, hz1, hz2⟩ := info_parts info_Inst
 have hnl : ¬ (50000 : Int) < (l.length : Int) := by omega
 go_enter Tryz.func14, Tryz.ntmps14
 go_upto_region 4 with (go_at_call 39; refine (HCU.out _).mono ?_; rintro e w1 ⟨pv, rfl, hown1, hb1⟩; obtain ⟨g, cap, rfl, hg1, hg2, hcap, hcell⟩ := ownsRow_cells hown1 hcn)
 have HCL : Hid (∀ W, Below w1.heap.size w1 W → ∀ k (h : k < ls.length), W.cell? ⟨g, k, none⟩ = some (.string ⟨ls[k].toArray⟩)) := fun W h k hk => by
  rw [h.cell (p := ⟨g, k, none⟩) hg2]
  exact hcell k _ (by rw [List.getElem?_map, List.getElem?_eq_getElem hk]; rfl)
 have hB1 : Below w.heap.size w w1 := blA
 have hz1w : w.heap.size < w1.heap.size := Nat.lt_of_lt_of_le (by simp) hb1.size
 have HRS : Hid (∀ W, Below w1.heap.size w1 W → (W.cell? ⟨w.heap.size, 0, none⟩ = some (.int .i64 0) ∧ W.cell? ⟨w.heap.size, 1, none⟩ = some (.int .i64 0)) ∧ W.frozen? ⟨w.heap.size, 0, none⟩ = false ∧ W.frozen? ⟨w.heap.size, 1, none⟩ = false) := fun W h => by
  refine ⟨⟨?_, ?_⟩, ?_, ?_⟩
  ·rw [h.cell (p := ⟨w.heap.size, 0, none⟩) hz1w, hb1.cell (p := ⟨w.heap.size, 0, none⟩) (by simp)]; simp [go_sem]
  ·rw [h.cell (p := ⟨w.heap.size, 1, none⟩) hz1w, hb1.cell (p := ⟨w.heap.size, 1, none⟩) (by simp)]; simp [go_sem]
  ·rw [h.frozen (p := ⟨w.heap.size, 0, none⟩) hz1w, hb1.frozen (p := ⟨w.heap.size, 0, none⟩) (by simp)]; simp [go_sem]
  ·rw [h.frozen (p := ⟨w.heap.size, 1, none⟩) hz1w, hb1.frozen (p := ⟨w.heap.size, 1, none⟩) (by simp)]; simp [go_sem]
 have HFT : Hid (∀ W n c, Below w1.heap.size w1 W → R = ([], n, c) → ParseOut R (.returned (.tuple #[.slice none 0 0, .agg #[.int .i64 n, .int .i64 c]])) w ((W.setCell ⟨w.heap.size, 0, none⟩ (.int .i64 n)).setCell ⟨w.heap.size, 1, none⟩ (.int .i64 c))) := fun W n c h e => ⟨.slice none 0 0, [], by rw [e], by rw [e]; exact built_nil _ _, bl_set (by simp) (bl_set (by simp) (hB1.trans (h.mono hB1.size)) _) _⟩
 clear hown1 hcell hb1 HCU
 obtain ⟨nl, hnl2⟩ : ∃ n, n = ls.length := ⟨_, rfl⟩
 have HNL : Hid (nl = ls.length) := hnl2
 rw [← hnl2] at hcn hcl ⊢
 clear hnl2
 go_wp2
 go_loopw [5, 6] (fun v i wr => ∃ (k : Nat) (us : List Value) (cs : List Stil.Inst) (a : Option Addr) (c : Nat), k ≤ nl ∧ i = .int .i64 (k : Int) ∧ v = .slice a cs.length c ∧ cs.length ≤ k ∧ cs.length ≤ 1000 ∧ Built wr w1.heap.size (.slice none 0 0) (.slice a cs.length c) us cs [] ∧ R = Stil.parseFrom k cs (ls.drop k) ∧ Below w1.heap.size w1 wr) (fun _ i _ => nl - (intOf i).toNat)
 case atStart =>
  refine ⟨0, [], [], some ⟨w1.heap.size, 0, none⟩, 0, Nat.zero_le _, rfl, rfl, Nat.le_refl _, by simp, built_row ?_, HR.out, below_alloc _ _⟩
  exact World.ownsRow_made w1 #[] 0 (Nat.le_refl _) (by decide) (by simp)
 case round =>
  obtain ⟨k, us, cs, a, c, hk, rfl, rfl, hck, hc1000, hbt, hR, hb⟩ := hrel
  have HBT : Hid (Built wr w1.heap.size (.slice none 0 0) (.slice a cs.length c) us cs []) := hbt
  have HPR : Hid (R = Stil.parseFrom k cs (ls.drop k)) := hR
  have hzr := hb.size
  clear hbt hR HR
  by_cases hlt : k < nl
  ·have hlt' : k < ls.length := by have := HNL.out; omega
   have hc := HCL.out wr hb k hlt'
   have HPS : Hid (R = if Stil.wordsOf ls[k] = [] then Stil.parseFrom (k + 1) cs (ls.drop (k + 1)) else if Stil.specOk (Stil.wordsOf ls[k]) = false then ([], (k : Int) + 1, 2) else if cs.length = 1000 then ([], (k : Int) + 1, 3) else Stil.parseFrom (k + 1) (cs ++ [Stil.instOf (Stil.wordsOf ls[k])]) (ls.drop (k + 1))) := by show _ = _; rw [HPR.out, Stil.parse_step cs hlt']
   have hxl := HPL.out ls[k] (List.getElem_mem hlt')
   obtain ⟨x, hx⟩ : ∃ x, x = ls[k] := ⟨_, rfl⟩
   rw [← hx] at hc HPS hxl
   have hws := Stil.words_small x
   have HLW : Hid (∀ W, Calls Tryz.prog 40 #[.string ⟨x.toArray⟩] W fun e w' => ∃ v, e = .returned v ∧ w'.ownsRow W.heap.size 9 1 v (Stil.wordsOf x).length ((Stil.wordsOf x).map strV) ∧ Below W.heap.size W w') := fun W => s_lineWords x W (by omega)
   obtain ⟨ws, hwe⟩ : ∃ ws, ws = Stil.wordsOf x := ⟨_, rfl⟩
   rw [← hwe] at HPS HLW hws
   obtain ⟨nc, hnc⟩ : ∃ n, n = cs.length := ⟨_, rfl⟩
   have HNC : Hid (nc = cs.length) := hnc
   rw [← hnc] at hck hc1000 HBT HPS ⊢
   have hwk : IntKind.i64.wrap ((k : Int) + 1) = (k : Int) + 1 := by rw [IntKind.wrap_i64]; omega
   have hgr : g < wr.heap.size := Nat.lt_of_lt_of_le hg2 hb.size
   clear hx hwe hnc HPR HCL HPL
   by_cases h0 : ws = []
   ·subst h0
    have HE : Hid (R = Stil.parseFrom (k + 1) cs (ls.drop (k + 1))) := by show _ = _; rw [HPS.out, if_pos rfl]
    clear HPS hws
    go_wp2_with (go_at_call 40; refine (HLW.out _).mono ?_; rintro e w3 ⟨v, rfl, hown3, hb3⟩; obtain ⟨wa, wc, hv3, _⟩ := own_open hown3; subst hv3; clear hown3)
    refine ⟨⟨k + 1, us, cs, a, c, by omega, by simp, by rw [HNC.out], by have := HNC.out; omega, by have := HNC.out; omega, ?_, HE.out, bl_call hb hb3⟩, by simp [intOf]; omega⟩
    have := HBT.out.below hb3
    rw [HNC.out] at this
    exact this
   ·have hwl : 0 < ws.length := List.length_pos_iff.2 h0
    have HPT : Hid (R = if Stil.specOk ws = false then ([], (k : Int) + 1, 2) else if nc = 1000 then ([], (k : Int) + 1, 3) else Stil.parseFrom (k + 1) (cs ++ [Stil.instOf ws]) (ls.drop (k + 1))) := by show _ = _; rw [HPS.out, if_neg h0]
    have HWL : Hid (ws.length ≤ 1000000 ∧ ∀ y ∈ ws, y.length ≤ 1000000) := ⟨by omega, fun y hy => by have := hws.2 y hy; omega⟩
    clear HPS h0 hws
    obtain ⟨lw, hlw⟩ : ∃ n, n = ws.length := ⟨_, rfl⟩
    have HLN : Hid (lw = ws.length) := hlw
    rw [← hlw] at hwl HLW
    have hlz : ((lw : Int) == 0) = false := by rw [beq_eq_false_iff_ne]; omega
    clear hlw
    go_upto_region 10 with (go_at_call 40; refine (HLW.out _).mono ?_; rintro e w3 ⟨v, rfl, hown3, hb3⟩; obtain ⟨wg, wc, rfl, hwg1, hwg2, hwcap, hwcell⟩ := ownsRow_cells hown3 hwl)
    have HWC : Hid (∀ V, Below w3.heap.size w3 V → wg < V.heap.size ∧ ∀ j (h : j < ws.length), V.cell? ⟨wg, j, none⟩ = some (.string ⟨ws[j].toArray⟩)) := fun V h => ⟨Nat.lt_of_lt_of_le hwg2 h.size, fun j hj => by
     rw [h.cell (p := ⟨wg, j, none⟩) hwg2]
     exact hwcell j _ (by rw [List.getElem?_map, List.getElem?_eq_getElem hj]; rfl)⟩
    have hb13 : Below w1.heap.size w1 w3 := bl_call hb hb3
    have HBT3 : Hid (Built w3 w1.heap.size (.slice none 0 0) (.slice a nc c) us cs []) := HBT.out.below hb3
    clear hown3 hwcell HLW HBT
    cases hok : Stil.specOk ws
    ·have HE : Hid (R = ([], (k : Int) + 1, 2)) := by show _ = _; rw [HPT.out, if_pos hok]
     have HLI : Hid (∀ V, Below w3.heap.size w3 V → Calls Tryz.prog 41 #[.slice (some ⟨wg, 0, none⟩) lw wc] V fun e w' => ∃ (a b : Int) (p : Option Addr) (n c : Nat), e = .returned (.tuple #[.agg #[.int .i64 a, .int .i64 b, .slice p n c], .bool false]) ∧ Below V.heap.size V w') := fun V h => by
      rw [HLN.out]
      exact s_line_no ws wg wc V hok (by have := HLN.out; omega) HWL.out.1 HWL.out.2 (HWC.out V h).1 (HWC.out V h).2
     clear HPT hok HWC
     go_upto_region 12 with (go_at_call 41; refine (HLI.out _ blA).mono ?_; rintro e w5 ⟨x1, x2, x3, x4, x5, rfl, hb5⟩)
     have h15 : Below w1.heap.size w1 w5 := blA
     obtain ⟨V, hV⟩ : ∃ V, V = w5.alloc (.cells #[.int .i64 x1, .int .i64 x2, .slice x3 x4 x5] 31) := ⟨_, rfl⟩
     have hbV : Below w1.heap.size w1 V := by rw [hV]; exact bl_alloc h15 _
     rw [← hV]
     obtain ⟨⟨c0, c1⟩, f0, f1⟩ := HRS.out V hbV
     clear hV h15
     go_wp2
     refine bodyPost_ret (v := .tuple #[.slice none 0 0, .agg #[.int .i64 ((k : Int) + 1), .int .i64 2]]) (by simp [results, Tryz.results14, go_sem, cell_set_at c0, c1]) rfl ?_
     exact HFT.out V _ _ hbV HE.out
    ·have HPU : Hid (R = if nc = 1000 then ([], (k : Int) + 1, 3) else Stil.parseFrom (k + 1) (cs ++ [Stil.instOf ws]) (ls.drop (k + 1))) := by show _ = _; rw [HPT.out, if_neg (by rw [hok]; decide)]
     have HLI : Hid (∀ V, Below w3.heap.size w3 V → Calls Tryz.prog 41 #[.slice (some ⟨wg, 0, none⟩) lw wc] V fun e w' => ∃ v, e = .returned (.tuple #[.agg #[.int .i64 (Stil.instOf ws).code, .int .i64 (Stil.instOf ws).one.op, v], .bool true]) ∧ w'.ownsRow V.heap.size 74 3 v (Stil.instOf ws).one.args.length (devsCells (Stil.instOf ws).one.args) ∧ Below V.heap.size V w') := fun V h => by
      rw [HLN.out]
      exact s_line_ok ws wg wc V hok (by have := HLN.out; omega) HWL.out.1 HWL.out.2 (HWC.out V h).1 (HWC.out V h).2
     obtain ⟨I, hI⟩ : ∃ I, I = Stil.instOf ws := ⟨_, rfl⟩
     rw [← hI] at HPU HLI
     clear HPT hok HWC hI
     go_upto_region 13 with (go_at_call 41; refine (HLI.out _ blA).mono ?_; rintro e w5 ⟨u, rfl, hu5, hb5⟩; obtain ⟨ua, uc, hue, _⟩ := own_open hu5; subst hue)
     have h15 : Below w1.heap.size w1 w5 := blA
     have h35 : Below w3.heap.size w3 w5 := blA
     have HU5 : Hid (w5.ownsRow w3.heap.size 74 3 (.slice ua I.one.args.length uc) I.one.args.length (devsCells I.one.args)) := hu5
     obtain ⟨V, hV⟩ : ∃ V, V = w5.alloc (.cells #[.int .i64 I.code, .int .i64 I.one.op, .slice ua I.one.args.length uc] 31) := ⟨_, rfl⟩
     have h5V : Below w5.heap.size w5 V := by rw [hV]; exact below_alloc _ _
     have hbV : Below w1.heap.size w1 V := by rw [hV]; exact bl_alloc h15 _
     have hsV : V.heap.size = w5.heap.size + 1 := by rw [hV]; simp
     have d0 : V.cell? ⟨w5.heap.size, 0, none⟩ = some (.int .i64 I.code) := by rw [hV]; simp [go_sem]
     have d1 : V.cell? ⟨w5.heap.size, 1, none⟩ = some (.int .i64 I.one.op) := by rw [hV]; simp [go_sem]
     have d2 : V.cell? ⟨w5.heap.size, 2, none⟩ = some (.slice ua I.one.args.length uc) := by rw [hV]; simp [go_sem]
     rw [← hV]
     obtain ⟨⟨c0, c1⟩, f0, f1⟩ := HRS.out V hbV
     have hwV : w1.heap.size ≤ V.heap.size := hbV.size
     have h3V : Below w3.heap.size w3 V := h35.trans (h5V.mono h35.size)
     have HUV : Hid (V.ownsRow w3.heap.size 74 3 (.slice ua I.one.args.length uc) I.one.args.length (devsCells I.one.args)) := ownsRow_below HU5.out h5V
     clear hV h15 hu5 hb5 HLI h35 h5V hsV
     by_cases hfull : nc = 1000
     ·have HE : Hid (R = ([], (k : Int) + 1, 3)) := by show _ = _; rw [HPU.out, if_pos hfull]
      subst hfull
      clear HPU
      go_wp2
      refine bodyPost_ret (v := .tuple #[.slice none 0 0, .agg #[.int .i64 ((k : Int) + 1), .int .i64 3]]) (by simp [results, Tryz.results14, go_sem, cell_set_at c0, c1]) rfl ?_
      exact HFT.out V _ _ hbV HE.out
     ·have HE : Hid (R = Stil.parseFrom (k + 1) (cs ++ [I]) (ls.drop (k + 1))) := by show _ = _; rw [HPU.out, if_neg hfull]
      have hnz : ((nc : Int) == 1000) = false := by rw [beq_eq_false_iff_ne]; omega
      have hl9 : nc + 1 ≤ 1000 := by omega
      obtain ⟨xs, hxs⟩ : ∃ xs, xs = rungCells us cs := ⟨_, rfl⟩
      have HXS : Hid (xs = rungCells us cs) := hxs
      have HOV : Hid (V.ownsRow w1.heap.size 31 3 (.slice a nc c) nc xs) := by
       have := ownsRow_below HBT3.out.1.2.1 h3V
       rw [← HNC.out, ← hxs] at this
       exact this
      clear HPU hfull hxs
      go_wp2_with (at_builtin; refine wpList_append_own_at _ rfl _ _ 23 rfl w1.heap.size 31 i0 (.agg #[.int .i64 0, .int .i64 0, .slice none 0 0]) 3 40 Tryz.underlying23 hi hz0 hz1 hz2 rfl (by decide) _ _ _ rfl (HOV.out.alloc _) ⟨V.heap.size, 0, none⟩ 1 1 [.int .i64 I.code, .int .i64 I.one.op, .slice ua I.one.args.length uc] rfl rfl (by exact cells3) (by intro u hu; simp at hu; rcases hu with rfl | rfl | rfl <;> rfl) (by unfold maxLen; omega) (by omega) (by simp only [World.size_alloc]; omega) ?_; intro v' w6 hown6 hgr6 _ hat6; obtain ⟨a6, c6, hv6⟩ := slice_of_owns hown6; subst hv6)
      have h3A : Below w3.heap.size w3 (V.alloc (.cells #[.int .i64 I.code, .int .i64 I.one.op, .slice ua I.one.args.length uc] 31)) := bl_alloc h3V _
      have HB6 : Hid (Built w6 w1.heap.size (.slice none 0 0) (.slice a6 (nc + 1) c6) (us ++ [.slice ua I.one.args.length uc]) (cs ++ [I]) []) := by
       refine Built.push (w := w3) HBT3.out h3A (World.ownsRow.alloc HUV.out _) hb13.size ?_ hgr6 hat6
       rw [← HNC.out, ← HXS.out]
       exact hown6
      have hB6 : Below w1.heap.size w1 w6 := (bl_alloc hbV _).grown hgr6 (by simp only [World.size_alloc]; omega) (fun k hk => (HOV.out.lt k hk).1)
      refine ⟨⟨k + 1, us ++ [.slice ua I.one.args.length uc], cs ++ [I], a6, c6, by omega, by simp, by simp [HNC.out], by rw [List.length_append, ← HNC.out]; simp; omega, by rw [List.length_append, ← HNC.out]; exact hl9, ?_, HE.out, hB6⟩, by simp [intOf]; omega⟩
      have := HB6.out
      rw [HNC.out] at this
      simpa using this
  ·obtain rfl : k = nl := by omega
   have HE : Hid (R = (cs, 0, 0)) := by show _ = _; rw [HPR.out, Stil.parse_end cs (by have := HNL.out; omega)]
   obtain ⟨⟨c0, c1⟩, f0, f1⟩ := HRS.out wr hb
   obtain ⟨nc, hnc⟩ : ∃ n, n = cs.length := ⟨_, rfl⟩
   have HNC : Hid (nc = cs.length) := hnc
   rw [← hnc] at hck hc1000 HBT ⊢
   clear HPR hnc
   go_wp2
   refine bodyPost_ret (v := .tuple #[.slice a nc c, .agg #[.int .i64 0, .int .i64 0]]) (by simp [results, Tryz.results14, go_sem, cell_set_at c0, c1]) rfl ?_
   refine ⟨.slice a nc c, us, by rw [HE.out], ?_, bl_set (by simp) (bl_set (by simp) (hB1.trans (hb.mono hB1.size)) _) _⟩
   rw [HE.out]
   exact ((HBT.out.store hz1w _).store hz1w _).le (Nat.le_of_lt hz1w)
end Go.Proofs.YtipdjmbgbehkaaaGreatDoor
