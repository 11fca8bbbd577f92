/- I14, I15, I16: texts put together. -/
import Derived.Test.YtipdjmbgbehkaaaGreatDoorHs
import Derived.Test.YtipdjmbgbehkaaaGreatDoorGQ
import Derived.Test.YtipdjmbgbehkaaaGreatDoorHw
import Derived.Test.YtipdjmbgbehkaaaGreatDoorG4
import Derived.Test.YtipdjmbgbehkaaaGreatDoorGD
import Derived.Test.YtipdjmbgbehkaaaGreatDoorHq
import Derived.Deep.RegionWith
import Derived.Test.YtipdjmbgbehkaaaGreatDoorX11
/- Contracts of the program's chapter 5: listInst. -/
namespace Go.Proofs.YtipdjmbgbehkaaaGreatDoor
open Go.RowKit Go.Sort Go.BigFrame
/-- The tables and handles that the program goes by. -/
def Env (w : World) : Prop := RowsAt w ∧ WordsAt w ∧ LWordsAt w ∧ PowAt w ∧ LibAt w ∧ ErrTypeAt w
theorem Env.below {w w' : World} (h : Env w) (hb : Below w.heap.size w w') : Env w' :=
  ⟨h.1.below hb, h.2.1.below hb, h.2.2.1.below hb, h.2.2.2.1.below hb, h.2.2.2.2.1.below hb, h.2.2.2.2.2.below hb⟩
theorem i_joinW (v : Value) (xs : List (List UInt8)) (w : World) (hat : StrsAt w v xs) (hn : xs.length ≤ 1000000) (hlen : (Stil.joinSp xs).length ≤ 1000000) :
    Calls Tryz.prog 90 #[v, .string ⟨#[32]⟩] w fun e w' => e = .returned (.string ⟨(Stil.joinSp xs).toArray⟩) ∧ Below w.heap.size w w' := by
  obtain ⟨b, cap, rfl, hc, hlt, hx⟩ := hat
  have e1 : ((xs.map fun x => (⟨x.toArray⟩ : ByteArray)).map (·.data.toList)) = xs := by rw [List.map_map]; exact (List.map_congr_left (fun _ _ => by simp)).trans (List.map_id xs)
  have e2 : (⟨#[32]⟩ : ByteArray).data.toList = [32] := rfl
  have h := Tryz.strings_Join b 0 cap (xs.map fun x => (⟨x.toArray⟩ : ByteArray)) ⟨#[32]⟩ w (fun j x hj => by
      rw [List.getElem?_map] at hj
      obtain ⟨y, hy, rfl⟩ := Option.map_eq_some_iff.1 hj
      rw [Nat.zero_add]; exact hx j y hy) hlt (by simp; omega) (by simpa using hc) (by rw [e1, e2, Stil.join_lib]; omega)
  rw [e1, e2, List.length_map, Stil.join_lib] at h
  exact h
theorem one_of {ws : List (List UInt8)} (h : ws.length = 1) : ∃ x, ws = [x] := by
  match ws, h with
  | [x], _ => exact ⟨x, rfl⟩
theorem two_of {ws : List (List UInt8)} (h0 : 0 < ws.length) (h : ¬ ws.length = 1) : ∃ x y r, ws = x :: y :: r := by
  match ws, h0, h with
  | [x], _, h => exact absurd rfl h
  | x :: y :: r, _, _ => exact ⟨x, y, r, rfl⟩
theorem inst_one {x : List UInt8} {C : Int} (h : Stil.instOf [x] = ⟨C, (Stil.instOf [x]).one⟩) : Stil.instOf [x] = ⟨C, ⟨0, []⟩⟩ := h
theorem inst_two {x y : List UInt8} {r : List (List UInt8)} {C : Int} (h : Stil.instOf (x :: y :: r) = ⟨C, (Stil.instOf (x :: y :: r)).one⟩) : Stil.instOf (x :: y :: r) = ⟨C, Stil.elemRead y⟩ := h
/-- What listInst leaves. -/
def ReadInst (ws : List (List UInt8)) (e : Ending) (w w' : World) : Prop := ∃ v, e = .returned (.tuple #[.agg #[.int .i64 (Stil.instOf ws).code, .int .i64 (Stil.instOf ws).one.op, v], .bool (Stil.implOk ws)]) ∧ w'.ownsRow w.heap.size 74 3 v (Stil.instOf ws).one.args.length (devsCells (Stil.instOf ws).one.args) ∧ Below w.heap.size w w'
set_option maxHeartbeats 4000000 in
set_option maxRecDepth 100000 in
theorem i_listInst (ws : List (List UInt8)) (g cap : Nat) (w : World) (henv : Env w) (hat : StrsAt w (.slice (some ⟨g, 0, none⟩) ws.length cap) ws) (hne : 0 < ws.length) (hn : ws.length ≤ 1000000) (hl : ∀ x ∈ ws, x.length ≤ 1000000) (hj : (Stil.joinSp ws).length ≤ 1000000) :
    Calls Tryz.prog 66 #[.slice (some ⟨g, 0, none⟩) ws.length cap] w fun e w' => ReadInst ws e w w' := by
  have HEN : Hid (∀ V, Below w.heap.size w V → Env V) := fun V h => henv.below h
  have HJ0 : Hid (∀ V, Below w.heap.size w V → Calls Tryz.prog 90 #[.slice (some ⟨g, 0, none⟩) ws.length cap, .string ⟨#[32]⟩] V fun e w' => e = .returned (.string ⟨(Stil.joinSp ws).toArray⟩) ∧ Below V.heap.size V w') := fun V h => i_joinW _ ws V (hat.below h) hn hj
  have hg : g < w.heap.size := by obtain ⟨b, c, e, _, h, _⟩ := hat; cases e; exact h
  have HC : Hid (∀ V, Below w.heap.size w V → ∀ k (h : k < ws.length), V.cell? ⟨g, k, none⟩ = some (.string ⟨ws[k].toArray⟩)) := fun V hV k hk => by
    obtain ⟨b, c, e, _, h, hx⟩ := hat.below hV
    cases e
    exact hx k _ (List.getElem?_eq_getElem hk)
  obtain ⟨x0, hx0⟩ : ∃ x, x = ws[0] := ⟨_, rfl⟩
  have HIO : Hid (Stil.instOf ws = ⟨Stil.codeOf x0, (Stil.instOf ws).one⟩) := by
    show _ = _
    rw [hx0]
    cases ws with
    | nil => simp at hne
    | cons a r => rfl
  have cx : w.cell? ⟨g, 0, none⟩ = some (.string ⟨x0.toArray⟩) := by rw [hx0]; exact HC.out w (Below.refl _ _) 0 hne
  have HCO : Hid (∀ V, Below w.heap.size w V → Calls Tryz.prog 88 #[.string ⟨x0.toArray⟩] V fun e w' => e = .returned (.int .i64 (Stil.codeOf x0)) ∧ w' = V) := fun V h => i_listCode x0 V (henv.below h).2.2.1
  have hcc : -1 ≤ Stil.codeOf x0 ∧ Stil.codeOf x0 ≤ 11 := by unfold Stil.codeOf; (repeat' split) <;> omega
  obtain ⟨C, hC⟩ : ∃ C, C = Stil.codeOf x0 := ⟨_, rfl⟩
  rw [← hC] at HIO HCO hcc
  have HIM : Hid (Stil.implOk ws = (Stil.lineText (Stil.instOf ws) == Stil.joinSp ws)) := rfl
  obtain ⟨J, hJ⟩ : ∃ J, J = Stil.joinSp ws := ⟨_, rfl⟩
  rw [← hJ] at HJ0 HIM hj
  clear hJ hC hx0 hat henv
  go_enter Tryz.func66, Tryz.ntmps66
  go_upto_region 2 with (go_at_call 88; refine (HCO.out _ (by (repeat (first | with_reducible exact Below.refl _ _ | with_reducible assumption | with_reducible refine bl_set (by first | exact Nat.le_refl _ | (simp; done) | (simp; omega) | omega) ?_ _ | with_reducible refine bl_alloc ?_ _ | with_reducible refine bl_drewN ?_ _ | with_reducible refine bl_drew ?_ | with_reducible refine bl_grow ?_ _ _ | with_reducible refine bl_call ?_ (by assumption))))).mono ?_; rintro e w1 ⟨rfl, hw1⟩; rw [hw1]; clear hw1 w1)
  obtain ⟨W1, hW1⟩ : ∃ W1, W1 = (w.alloc (Obj.cells #[Value.int IntKind.i64 0, Value.int IntKind.i64 0, Value.slice none 0 0] 31)).alloc (Obj.cells #[Value.int IntKind.i64 C, Value.int IntKind.i64 0, Value.slice none 0 0] 31) := ⟨_, rfl⟩
  have hs1 : W1.heap.size = w.heap.size + 1 + 1 := by rw [hW1]; simp
  have hbw1 : Below w.heap.size w W1 := by rw [hW1]; (repeat (first | with_reducible exact Below.refl _ _ | with_reducible assumption | with_reducible refine bl_set (by first | exact Nat.le_refl _ | (simp; done) | (simp; omega) | omega) ?_ _ | with_reducible refine bl_alloc ?_ _ | with_reducible refine bl_drewN ?_ _ | with_reducible refine bl_drew ?_ | with_reducible refine bl_grow ?_ _ _ | with_reducible refine bl_call ?_ (by assumption)))
  have HAL : Hid (∀ V, Below W1.heap.size W1 V → (V.cell? ⟨w.heap.size, 0, none⟩ = some (.int .i64 0) ∧ V.cell? ⟨w.heap.size, 1, none⟩ = some (.int .i64 0) ∧ V.cell? ⟨w.heap.size, 2, none⟩ = some (.slice none 0 0)) ∧ (V.frozen? ⟨w.heap.size, 0, none⟩ = false ∧ V.frozen? ⟨w.heap.size, 1, none⟩ = false ∧ V.frozen? ⟨w.heap.size, 2, none⟩ = false) ∧ (V.cell? ⟨w.heap.size + 1, 0, none⟩ = some (.int .i64 C) ∧ V.cell? ⟨w.heap.size + 1, 1, none⟩ = some (.int .i64 0) ∧ V.cell? ⟨w.heap.size + 1, 2, none⟩ = some (.slice none 0 0)) ∧ V.frozen? ⟨w.heap.size + 1, 1, none⟩ = false ∧ V.frozen? ⟨w.heap.size + 1, 2, none⟩ = false) := fun V h => by
    have y : ∀ b o v, W1.cell? ⟨b, o, none⟩ = some v → V.cell? ⟨b, o, none⟩ = some v := fun b o v e => (h.cell (World.block_lt_of_cell? _ _ e)).trans e
    have z : ∀ b o v, W1.cell? ⟨b, o, none⟩ = some v → W1.frozen? ⟨b, o, none⟩ = false → V.frozen? ⟨b, o, none⟩ = false := fun b o v e q => (h.frozen (World.block_lt_of_cell? _ _ e)).trans q
    refine ⟨⟨y _ _ _ ?_, y _ _ _ ?_, y _ _ _ ?_⟩, ⟨z _ _ (.int .i64 0) ?_ ?_, z _ _ (.int .i64 0) ?_ ?_, z _ _ (.slice none 0 0) ?_ ?_⟩, ⟨y _ _ _ ?_, y _ _ _ ?_, y _ _ _ ?_⟩, z _ _ (.int .i64 0) ?_ ?_, z _ _ (.slice none 0 0) ?_ ?_⟩ <;> (rw [hW1]; simp [go_sem])
  rw [← hW1]
  clear hW1
  obtain ⟨⟨c0, c1, c2⟩, ⟨f0, f1, f2⟩, ⟨b0, b1, b2⟩, g1, g2⟩ := HAL.out W1 (Below.refl _ _)
  by_cases hl1 : ws.length = 1
  · obtain ⟨x, rfl⟩ : ∃ x, ws = [x] := one_of hl1
    have HI2 : Hid (Stil.instOf [x] = ⟨C, ⟨0, []⟩⟩) := inst_one HIO.out
    have HAM := HAL
    have HLL : Hid (∀ V, Below W1.heap.size W1 V → Calls Tryz.prog 17 #[.agg #[.int .i64 C, .int .i64 0, .slice none 0 0]] V fun e w' => e = .returned (.string ⟨(Stil.lineText ⟨C, ⟨0, []⟩⟩).toArray⟩) ∧ Below V.heap.size V w') := fun V h => by
      have he := HEN.out V (hbw1.trans (h.mono hbw1.size))
      exact i_listLine ⟨C, ⟨0, []⟩⟩ (.slice none 0 0) V he.1 he.2.1 he.2.2.1 he.2.2.2.1 ⟨none, 0, rfl, fun i hi => absurd hi (by simp)⟩ ⟨⟨by have := hcc; simp only; omega, by have := hcc; simp only; omega⟩, ⟨by show (-9223372036854775808 : Int) ≤ 0; decide, by show (0 : Int) ≤ 9223372036854775807; decide⟩, by simp, by simp⟩
    have HJN : Hid (∀ V, Below W1.heap.size W1 V → Calls Tryz.prog 90 #[.slice (some ⟨g, 0, none⟩) 1 cap, .string ⟨#[32]⟩] V fun e w' => e = .returned (.string ⟨J.toArray⟩) ∧ Below V.heap.size V w') := fun V h => HJ0.out V (hbw1.trans (h.mono hbw1.size))
    obtain ⟨T, hT⟩ : ∃ T, T = Stil.lineText ⟨C, ⟨0, []⟩⟩ := ⟨_, rfl⟩
    have HFN : Hid (∀ V, Below w.heap.size w V → ReadInst [x] (.returned (.tuple #[.agg #[.int .i64 C, .int .i64 0, .slice none 0 0], .bool (T == J)])) w V) := fun V h => by
      refine ⟨.slice none 0 0, ?_, ?_, h⟩
      · rw [HIM.out, HI2.out, hT]
      · rw [HI2.out]; exact World.ownsRow_nil _ _ _ _
    rw [← hT] at HLL
    clear hT HEN HJ0 HIO HC hn hl hj hne hl1 HCO hcc HIM HAL
    go_upto_region 4 with fail
    go_region_with (first | (go_at_call 17; refine (HLL.out _ (by (repeat (first | with_reducible exact Below.refl _ _ | with_reducible assumption | with_reducible refine bl_set (by first | exact Nat.le_refl _ | (simp; done) | (simp; omega) | omega) ?_ _ | with_reducible refine bl_alloc ?_ _ | with_reducible refine bl_drewN ?_ _ | with_reducible refine bl_drew ?_ | with_reducible refine bl_grow ?_ _ _ | with_reducible refine bl_call ?_ (by assumption))))).mono ?_; rintro e w7 ⟨rfl, hb7⟩; clear c0 c1 c2 f0 f1 f2 b0 b1 b2; obtain ⟨⟨c0, c1, c2⟩, ⟨f0, f1, f2⟩, ⟨b0, b1, b2⟩, _⟩ := HAM.out w7 (by (repeat (first | with_reducible exact Below.refl _ _ | with_reducible assumption | with_reducible refine bl_set (by first | exact Nat.le_refl _ | (simp; done) | (simp; omega) | omega) ?_ _ | with_reducible refine bl_alloc ?_ _ | with_reducible refine bl_drewN ?_ _ | with_reducible refine bl_drew ?_ | with_reducible refine bl_grow ?_ _ _ | with_reducible refine bl_call ?_ (by assumption))))) | (go_at_call 90; refine (HJN.out _ (by (repeat (first | with_reducible exact Below.refl _ _ | with_reducible assumption | with_reducible refine bl_set (by first | exact Nat.le_refl _ | (simp; done) | (simp; omega) | omega) ?_ _ | with_reducible refine bl_alloc ?_ _ | with_reducible refine bl_drewN ?_ _ | with_reducible refine bl_drew ?_ | with_reducible refine bl_grow ?_ _ _ | with_reducible refine bl_call ?_ (by assumption))))).mono ?_; rintro e w8 ⟨rfl, hb8⟩; clear c0 c1 c2 f0 f1 f2 b0 b1 b2; obtain ⟨⟨c0, c1, c2⟩, ⟨f0, f1, f2⟩, ⟨b0, b1, b2⟩, _⟩ := HAM.out w8 (by (repeat (first | with_reducible exact Below.refl _ _ | with_reducible assumption | with_reducible refine bl_set (by first | exact Nat.le_refl _ | (simp; done) | (simp; omega) | omega) ?_ _ | with_reducible refine bl_alloc ?_ _ | with_reducible refine bl_drewN ?_ _ | with_reducible refine bl_drew ?_ | with_reducible refine bl_grow ?_ _ _ | with_reducible refine bl_call ?_ (by assumption))))))
    all_goals
      go_wp2
      refine bodyPost_ret (v := .tuple #[.agg #[.int .i64 C, .int .i64 0, .slice none 0 0], .bool (T == J)]) (by simp [results, Tryz.results66, go_sem, cell_set_at c0, (cell_set_off (by omega : (1 : Nat) ≠ 0)).trans c1, c2]) rfl ?_
      exact HFN.out _ (by (repeat (first | with_reducible exact Below.refl _ _ | with_reducible assumption | with_reducible refine bl_set (by first | exact Nat.le_refl _ | (simp; done) | (simp; omega) | omega) ?_ _ | with_reducible refine bl_alloc ?_ _ | with_reducible refine bl_drewN ?_ _ | with_reducible refine bl_drew ?_ | with_reducible refine bl_grow ?_ _ _ | with_reducible refine bl_call ?_ (by assumption))))
  · obtain ⟨x, y, r, rfl⟩ : ∃ x y r, ws = x :: y :: r := two_of hne hl1
    have cy : W1.cell? ⟨g, 1, none⟩ = some (.string ⟨y.toArray⟩) := HC.out W1 hbw1 1 (by simp)
    have HI2 : Hid (Stil.instOf (x :: y :: r) = ⟨C, Stil.elemRead y⟩) := inst_two HIO.out
    have HER : Hid (∀ V, Below W1.heap.size W1 V → Calls Tryz.prog 89 #[.string ⟨y.toArray⟩] V fun e w' => ∃ v, e = .returned (.tuple #[.agg #[.int .i64 (Stil.elemRead y).op, v], .bool (Stil.elemReadB y)]) ∧ w'.ownsRow V.heap.size 74 3 v (Stil.elemRead y).args.length (devsCells (Stil.elemRead y).args) ∧ Below V.heap.size V w') := fun V h => by
      have he := HEN.out V (hbw1.trans (h.mono hbw1.size))
      exact i_elemRead y V he.1 he.2.1 he.2.2.2.1 he.2.2.2.2.1 he.2.2.2.2.2 (by have := hl y (by simp); omega)
    have HFT : Hid (Stil.Inst.fits ⟨C, Stil.elemRead y⟩) := ⟨⟨by have := hcc; simp only; omega, by have := hcc; simp only; omega⟩, elemRead_fits y⟩
    obtain ⟨E, hE⟩ : ∃ E, E = Stil.elemRead y := ⟨_, rfl⟩
    obtain ⟨kb, hkb⟩ : ∃ E, E = Stil.elemReadB y := ⟨_, rfl⟩
    rw [← hE] at HI2 HER HFT
    rw [← hkb] at HER
    obtain ⟨lr, hlr⟩ : ∃ n, n = r.length := ⟨_, rfl⟩
    have HLR : Hid (lr = r.length) := hlr
    have hlr2 : lr ≤ 1000000 := by simp at hn; omega
    simp only [List.length_cons] at HJ0 ⊢
    rw [← hlr] at HJ0 ⊢
    clear hE hkb HC hl hn hne hl1 hcc HIO HCO hj hlr
    have hgt : (1 : Int) < ((lr + 1 + 1 : Nat) : Int) := by omega
    go_upto_region 4 with (go_at_call 89; refine (HER.out _ (by (repeat (first | with_reducible exact Below.refl _ _ | with_reducible assumption | with_reducible refine bl_set (by first | exact Nat.le_refl _ | (simp; done) | (simp; omega) | omega) ?_ _ | with_reducible refine bl_alloc ?_ _ | with_reducible refine bl_drewN ?_ _ | with_reducible refine bl_drew ?_ | with_reducible refine bl_grow ?_ _ _ | with_reducible refine bl_call ?_ (by assumption))))).mono ?_; rintro e w3 ⟨v, rfl, hown, hb3⟩; obtain ⟨ea, ec, hev, _⟩ := own_open hown; subst hev; clear c0 c1 c2 f0 f1 f2 b0 b1 b2 g1 g2; obtain ⟨⟨c0, c1, c2⟩, ⟨f0, f1, f2⟩, ⟨b0, b1, b2⟩, g1, g2⟩ := HAL.out w3 (by (repeat (first | with_reducible exact Below.refl _ _ | with_reducible assumption | with_reducible refine bl_set (by first | exact Nat.le_refl _ | (simp; done) | (simp; omega) | omega) ?_ _ | with_reducible refine bl_alloc ?_ _ | with_reducible refine bl_drewN ?_ _ | with_reducible refine bl_drew ?_ | with_reducible refine bl_grow ?_ _ _ | with_reducible refine bl_call ?_ (by assumption)))))
    have hb13 : Below W1.heap.size W1 w3 := by (repeat (first | with_reducible exact Below.refl _ _ | with_reducible assumption | with_reducible refine bl_set (by first | exact Nat.le_refl _ | (simp; done) | (simp; omega) | omega) ?_ _ | with_reducible refine bl_alloc ?_ _ | with_reducible refine bl_drewN ?_ _ | with_reducible refine bl_drew ?_ | with_reducible refine bl_grow ?_ _ _ | with_reducible refine bl_call ?_ (by assumption)))
    have hs13 := hb13.size
    have hbw3 : Below w.heap.size w w3 := hbw1.trans (hb13.mono hbw1.size)
    have hzr : w.heap.size + 1 < W1.heap.size := by omega
    have hzw : w.heap.size < W1.heap.size := by omega
    obtain ⟨W5, hW5⟩ : ∃ W5, W5 = (w3.setCell ⟨w.heap.size + 1, 1, none⟩ (.int .i64 E.op)).setCell ⟨w.heap.size + 1, 2, none⟩ (.slice ea E.args.length ec) := ⟨_, rfl⟩
    have hs5 : W5.heap.size = w3.heap.size := by rw [hW5]; simp
    have HO5 : Hid (W5.ownsRow W1.heap.size 74 3 (.slice ea E.args.length ec) E.args.length (devsCells E.args)) := by show World.ownsRow _ _ _ _ _ _ _; rw [hW5]; exact ownsRow_setCell_below (ownsRow_setCell_below hown hzr _) hzr _
    have hbw5 : Below w.heap.size w W5 := by rw [hW5]; exact bl_set (by simp) (bl_set (by simp) hbw3 _) _
    have HAM : Hid (∀ V, Below W5.heap.size W5 V → (V.cell? ⟨w.heap.size, 0, none⟩ = some (.int .i64 0) ∧ V.cell? ⟨w.heap.size, 1, none⟩ = some (.int .i64 0) ∧ V.cell? ⟨w.heap.size, 2, none⟩ = some (.slice none 0 0)) ∧ (V.frozen? ⟨w.heap.size, 0, none⟩ = false ∧ V.frozen? ⟨w.heap.size, 1, none⟩ = false ∧ V.frozen? ⟨w.heap.size, 2, none⟩ = false) ∧ (V.cell? ⟨w.heap.size + 1, 0, none⟩ = some (.int .i64 C) ∧ V.cell? ⟨w.heap.size + 1, 1, none⟩ = some (.int .i64 E.op) ∧ V.cell? ⟨w.heap.size + 1, 2, none⟩ = some (.slice ea E.args.length ec)) ∧ V.frozen? ⟨w.heap.size + 1, 1, none⟩ = false ∧ V.frozen? ⟨w.heap.size + 1, 2, none⟩ = false) := fun V h => by
      have y0 : W5.cell? ⟨w.heap.size, 0, none⟩ = some (.int .i64 0) := by rw [hW5]; exact (cell_set_other (by omega)).trans ((cell_set_other (by omega)).trans c0)
      have y1 : W5.cell? ⟨w.heap.size, 1, none⟩ = some (.int .i64 0) := by rw [hW5]; exact (cell_set_other (by omega)).trans ((cell_set_other (by omega)).trans c1)
      have y2 : W5.cell? ⟨w.heap.size, 2, none⟩ = some (.slice none 0 0) := by rw [hW5]; exact (cell_set_other (by omega)).trans ((cell_set_other (by omega)).trans c2)
      have x0 : W5.cell? ⟨w.heap.size + 1, 0, none⟩ = some (.int .i64 C) := by rw [hW5]; exact (cell_set_off (by omega)).trans ((cell_set_off (by omega)).trans b0)
      have x1 : W5.cell? ⟨w.heap.size + 1, 1, none⟩ = some (.int .i64 E.op) := by rw [hW5]; exact (cell_set_off (by omega)).trans (cell_set_at b1)
      have x2 : W5.cell? ⟨w.heap.size + 1, 2, none⟩ = some (.slice ea E.args.length ec) := by rw [hW5]; exact cell_set_at ((cell_set_off (by omega)).trans b2)
      have q0 : ∀ b o, W5.frozen? ⟨b, o, none⟩ = w3.frozen? ⟨b, o, none⟩ := fun b o => by rw [hW5]; exact frozen_set.trans frozen_set
      have y : ∀ b o v, W5.cell? ⟨b, o, none⟩ = some v → V.cell? ⟨b, o, none⟩ = some v := fun b o v e => (h.cell (World.block_lt_of_cell? _ _ e)).trans e
      have z : ∀ b o v, W5.cell? ⟨b, o, none⟩ = some v → w3.frozen? ⟨b, o, none⟩ = false → V.frozen? ⟨b, o, none⟩ = false := fun b o v e q => (h.frozen (World.block_lt_of_cell? _ _ e)).trans ((q0 b o).trans q)
      exact ⟨⟨y _ _ _ y0, y _ _ _ y1, y _ _ _ y2⟩, ⟨z _ _ _ y0 f0, z _ _ _ y1 f1, z _ _ _ y2 f2⟩, ⟨y _ _ _ x0, y _ _ _ x1, y _ _ _ x2⟩, z _ _ _ x1 g1, z _ _ _ x2 g2⟩
    have HLL : Hid (∀ V, Below W5.heap.size W5 V → Calls Tryz.prog 17 #[.agg #[.int .i64 C, .int .i64 E.op, .slice ea E.args.length ec]] V fun e w' => e = .returned (.string ⟨(Stil.lineText ⟨C, E⟩).toArray⟩) ∧ Below V.heap.size V w') := fun V h => by
      have he := HEN.out V (hbw5.trans (h.mono hbw5.size))
      exact i_listLine ⟨C, E⟩ _ V he.1 he.2.1 he.2.2.1 he.2.2.2.1 (DevsAt.of_owns (ownsRow_below HO5.out h)) HFT.out
    have HJN : Hid (∀ V, Below W5.heap.size W5 V → Calls Tryz.prog 90 #[.slice (some ⟨g, 0, none⟩) (lr + 1 + 1) cap, .string ⟨#[32]⟩] V fun e w' => e = .returned (.string ⟨J.toArray⟩) ∧ Below V.heap.size V w') := fun V h => HJ0.out V (hbw5.trans (h.mono hbw5.size))
    obtain ⟨T, hT⟩ : ∃ T, T = Stil.lineText ⟨C, E⟩ := ⟨_, rfl⟩
    have HFN : Hid (∀ V, (∃ V0 u0 u1 u2, Below W5.heap.size W5 V0 ∧ V = ((V0.setCell ⟨w.heap.size, 0, none⟩ u0).setCell ⟨w.heap.size, 1, none⟩ u1).setCell ⟨w.heap.size, 2, none⟩ u2) → ReadInst (x :: y :: r) (.returned (.tuple #[.agg #[.int .i64 C, .int .i64 E.op, .slice ea E.args.length ec], .bool (T == J)])) w V) := by
      rintro V ⟨V0, u0, u1, u2, h, rfl⟩
      refine ⟨.slice ea E.args.length ec, ?_, ?_, bl_set (by simp) (bl_set (by simp) (bl_set (by simp) (hbw5.trans (h.mono hbw5.size)) _) _) _⟩
      · rw [HIM.out, HI2.out, hT]
      · rw [HI2.out]
        exact Joins.ownsRow_le (ownsRow_setCell_below (ownsRow_setCell_below (ownsRow_setCell_below (ownsRow_below HO5.out h) hzw _) hzw _) hzw _) (Nat.le_of_lt hzw)
    rw [← hT] at HLL
    rw [← hW5]
    clear hT HEN HJ0 HIM hW5 HAL HER HFT hown cy c0 c1 c2 f0 f1 f2 b0 b1 b2 g1 g2 hb3 hbw3
    obtain ⟨⟨c0, c1, c2⟩, ⟨f0, f1, f2⟩, ⟨b0, b1, b2⟩, _⟩ := HAM.out W5 (Below.refl _ _)
    go_region_with (first | (go_at_call 17; refine (HLL.out _ (by (repeat (first | with_reducible exact Below.refl _ _ | with_reducible assumption | with_reducible refine bl_set (by first | exact Nat.le_refl _ | (simp; done) | (simp; omega) | omega) ?_ _ | with_reducible refine bl_alloc ?_ _ | with_reducible refine bl_drewN ?_ _ | with_reducible refine bl_drew ?_ | with_reducible refine bl_grow ?_ _ _ | with_reducible refine bl_call ?_ (by assumption))))).mono ?_; rintro e w7 ⟨rfl, hb7⟩; clear c0 c1 c2 f0 f1 f2 b0 b1 b2; obtain ⟨⟨c0, c1, c2⟩, ⟨f0, f1, f2⟩, ⟨b0, b1, b2⟩, _⟩ := HAM.out w7 (by (repeat (first | with_reducible exact Below.refl _ _ | with_reducible assumption | with_reducible refine bl_set (by first | exact Nat.le_refl _ | (simp; done) | (simp; omega) | omega) ?_ _ | with_reducible refine bl_alloc ?_ _ | with_reducible refine bl_drewN ?_ _ | with_reducible refine bl_drew ?_ | with_reducible refine bl_grow ?_ _ _ | with_reducible refine bl_call ?_ (by assumption))))) | (go_at_call 90; refine (HJN.out _ (by (repeat (first | with_reducible exact Below.refl _ _ | with_reducible assumption | with_reducible refine bl_set (by first | exact Nat.le_refl _ | (simp; done) | (simp; omega) | omega) ?_ _ | with_reducible refine bl_alloc ?_ _ | with_reducible refine bl_drewN ?_ _ | with_reducible refine bl_drew ?_ | with_reducible refine bl_grow ?_ _ _ | with_reducible refine bl_call ?_ (by assumption))))).mono ?_; rintro e w8 ⟨rfl, hb8⟩; clear c0 c1 c2 f0 f1 f2 b0 b1 b2; obtain ⟨⟨c0, c1, c2⟩, ⟨f0, f1, f2⟩, ⟨b0, b1, b2⟩, _⟩ := HAM.out w8 (by (repeat (first | with_reducible exact Below.refl _ _ | with_reducible assumption | with_reducible refine bl_set (by first | exact Nat.le_refl _ | (simp; done) | (simp; omega) | omega) ?_ _ | with_reducible refine bl_alloc ?_ _ | with_reducible refine bl_drewN ?_ _ | with_reducible refine bl_drew ?_ | with_reducible refine bl_grow ?_ _ _ | with_reducible refine bl_call ?_ (by assumption))))))
    all_goals
      go_wp2
      refine bodyPost_ret (v := .tuple #[.agg #[.int .i64 C, .int .i64 E.op, .slice ea E.args.length ec], .bool (T == J)]) (by simp [results, Tryz.results66, go_sem, cell_set_at c0, (cell_set_off (by omega : (1 : Nat) ≠ 0)).trans c1, c2]) rfl ?_
      exact HFN.out _ ⟨_, _, _, _, by (repeat (first | with_reducible exact Below.refl _ _ | with_reducible assumption | with_reducible refine bl_set (by first | exact Nat.le_refl _ | (simp; done) | (simp; omega) | omega) ?_ _ | with_reducible refine bl_alloc ?_ _ | with_reducible refine bl_drewN ?_ _ | with_reducible refine bl_drew ?_ | with_reducible refine bl_grow ?_ _ _ | with_reducible refine bl_call ?_ (by assumption))), rfl⟩
end Go.Proofs.YtipdjmbgbehkaaaGreatDoor
/- Contracts of the program's chapter 5: listTold. -/
namespace Go.Proofs.YtipdjmbgbehkaaaGreatDoor
open Go.RowKit Go.Sort Go.BigFrame
set_option maxHeartbeats 2000000 in
set_option maxRecDepth 100000 in
theorem i_listTold (c n : Int) (x : Value) (w : World) (hE : ErrTypeAt w) (hx : x = .nilIface ∧ n = 0 ∨ x = .iface 89 (.int .i64 n)) :
    Calls Tryz.prog 32 #[.iface 87 (.agg #[.int .i64 c, x])] w fun e w' => e = .returned (.agg #[.int .i64 n, .int .i64 c]) ∧ Below w.heap.size w w' := by
  have HE : Hid (∀ V, Below w.heap.size w V → ErrTypeAt V) := fun V h => hE.below h
  have hox : x.oneCell' = true := by rcases hx with ⟨rfl, _⟩ | rfl <;> rfl
  clear hE
  go_enter Tryz.func32, Tryz.ntmps32
  go_upto_region 4 with (go_at_call 67; refine (as_hitLW c x (w.heap.size + 1) (.int .i64 0) .nilIface _ hox (HE.out _ (by (repeat (first | with_reducible exact Below.refl _ _ | with_reducible assumption | with_reducible refine bl_set (by first | exact Nat.le_refl _ | (simp; done) | (simp; omega) | omega) ?_ _ | with_reducible refine bl_alloc ?_ _ | with_reducible refine bl_drewN ?_ _ | with_reducible refine bl_drew ?_ | with_reducible refine bl_grow ?_ _ _ | with_reducible refine bl_call ?_ (by assumption))))) (by simp [go_sem]) (by simp [go_sem]) (by simp [go_sem]) (by simp [go_sem])).mono ?_; rintro e w1 ⟨rfl, w4, hb4, rfl⟩)
  have hs4 : w.heap.size + 1 + 1 + 1 ≤ w4.heap.size := by have := hb4.size; simp at this; exact this
  have r0 : w4.cell? ⟨w.heap.size, 0, none⟩ = some (.int .i64 0) := by rw [hb4.cell (p := ⟨w.heap.size, 0, none⟩) (by simp; omega)]; simp [go_sem]
  have r1 : w4.cell? ⟨w.heap.size, 1, none⟩ = some (.int .i64 0) := by rw [hb4.cell (p := ⟨w.heap.size, 1, none⟩) (by simp; omega)]; simp [go_sem]
  have q0 : w4.frozen? ⟨w.heap.size, 0, none⟩ = false := by rw [hb4.frozen (p := ⟨w.heap.size, 0, none⟩) (by simp; omega)]; simp [go_sem]
  have q1 : w4.frozen? ⟨w.heap.size, 1, none⟩ = false := by rw [hb4.frozen (p := ⟨w.heap.size, 1, none⟩) (by simp; omega)]; simp [go_sem]
  have t0 : w4.cell? ⟨w.heap.size + 1, 0, none⟩ = some (.int .i64 0) := by rw [hb4.cell (p := ⟨w.heap.size + 1, 0, none⟩) (by simp)]; simp [go_sem]
  have t1 : w4.cell? ⟨w.heap.size + 1, 1, none⟩ = some .nilIface := by rw [hb4.cell (p := ⟨w.heap.size + 1, 1, none⟩) (by simp)]; simp [go_sem]
  have a0 : w4.cell? ⟨w.heap.size + 1 + 1, 0, none⟩ = some (.int .i64 0) := by rw [hb4.cell (p := ⟨w.heap.size + 1 + 1, 0, none⟩) (by simp)]; simp [go_sem]
  have p0 : w4.frozen? ⟨w.heap.size + 1 + 1, 0, none⟩ = false := by rw [hb4.frozen (p := ⟨w.heap.size + 1 + 1, 0, none⟩) (by simp)]; simp [go_sem]
  have hbw4 : Below w.heap.size w w4 := by (repeat (first | with_reducible exact Below.refl _ _ | with_reducible assumption | with_reducible refine bl_set (by first | exact Nat.le_refl _ | (simp; done) | (simp; omega) | omega) ?_ _ | with_reducible refine bl_alloc ?_ _ | with_reducible refine bl_drewN ?_ _ | with_reducible refine bl_drew ?_ | with_reducible refine bl_grow ?_ _ _ | with_reducible refine bl_call ?_ (by assumption)))
  obtain ⟨V, hV⟩ : ∃ V, V = (w4.setCell ⟨w.heap.size + 1, 0, none⟩ (.int .i64 c)).setCell ⟨w.heap.size + 1, 1, none⟩ x := ⟨_, rfl⟩
  have hsV : V.heap.size = w4.heap.size := by rw [hV]; simp
  have hbV : Below w.heap.size w V := by rw [hV]; exact bl_set (by simp) (bl_set (by simp) hbw4 _) _
  have HAL : Hid (∀ U, Below V.heap.size V U → (U.cell? ⟨w.heap.size, 0, none⟩ = some (.int .i64 0) ∧ U.cell? ⟨w.heap.size, 1, none⟩ = some (.int .i64 0) ∧ U.frozen? ⟨w.heap.size, 0, none⟩ = false ∧ U.frozen? ⟨w.heap.size, 1, none⟩ = false) ∧ U.cell? ⟨w.heap.size + 1, 0, none⟩ = some (.int .i64 c) ∧ U.cell? ⟨w.heap.size + 1 + 1, 0, none⟩ = some (.int .i64 0) ∧ U.frozen? ⟨w.heap.size + 1 + 1, 0, none⟩ = false) := fun U h => by
    have y0 : V.cell? ⟨w.heap.size, 0, none⟩ = some (.int .i64 0) := by rw [hV]; exact (cell_set_other (by omega)).trans ((cell_set_other (by omega)).trans r0)
    have y1 : V.cell? ⟨w.heap.size, 1, none⟩ = some (.int .i64 0) := by rw [hV]; exact (cell_set_other (by omega)).trans ((cell_set_other (by omega)).trans r1)
    have y2 : V.cell? ⟨w.heap.size + 1, 0, none⟩ = some (.int .i64 c) := by rw [hV]; exact (cell_set_off (by omega)).trans (cell_set_at t0)
    have y3 : V.cell? ⟨w.heap.size + 1 + 1, 0, none⟩ = some (.int .i64 0) := by rw [hV]; exact (cell_set_other (by omega)).trans ((cell_set_other (by omega)).trans a0)
    have q : ∀ b o, V.frozen? ⟨b, o, none⟩ = w4.frozen? ⟨b, o, none⟩ := fun b o => by rw [hV]; exact frozen_set.trans frozen_set
    have y : ∀ b o v, V.cell? ⟨b, o, none⟩ = some v → U.cell? ⟨b, o, none⟩ = some v := fun b o v e => (h.cell (World.block_lt_of_cell? _ _ e)).trans e
    have z : ∀ b o v, V.cell? ⟨b, o, none⟩ = some v → w4.frozen? ⟨b, o, none⟩ = false → U.frozen? ⟨b, o, none⟩ = false := fun b o v e p => (h.frozen (World.block_lt_of_cell? _ _ e)).trans ((q b o).trans p)
    exact ⟨⟨y _ _ _ y0, y _ _ _ y1, z _ _ _ y0 q0, z _ _ _ y1 q1⟩, y _ _ _ y2, y _ _ _ y3, z _ _ _ y3 p0⟩
  rw [← hV]
  clear hV r0 r1 q0 q1 t0 t1 a0 p0 hbw4 hb4
  obtain ⟨⟨r0, r1, q0, q1⟩, t0, a0, p0⟩ := HAL.out V (Below.refl _ _)
  rcases hx with ⟨rfl, rfl⟩ | rfl
  · go_upto_region 5 with (go_at_call 67; refine (as_missLA c ⟨w.heap.size + 1 + 1, 0, none⟩ _ (HE.out _ (by (repeat (first | with_reducible exact Below.refl _ _ | with_reducible assumption | with_reducible refine bl_set (by first | exact Nat.le_refl _ | (simp; done) | (simp; omega) | omega) ?_ _ | with_reducible refine bl_alloc ?_ _ | with_reducible refine bl_drewN ?_ _ | with_reducible refine bl_drew ?_ | with_reducible refine bl_grow ?_ _ _ | with_reducible refine bl_call ?_ (by assumption)))))).mono ?_; rintro e w5 ⟨rfl, hb5⟩; clear r0 r1 q0 q1 t0 a0 p0; obtain ⟨⟨r0, r1, q0, q1⟩, t0, a0, p0⟩ := HAL.out w5 (by (repeat (first | with_reducible exact Below.refl _ _ | with_reducible assumption | with_reducible refine bl_set (by first | exact Nat.le_refl _ | (simp; done) | (simp; omega) | omega) ?_ _ | with_reducible refine bl_alloc ?_ _ | with_reducible refine bl_drewN ?_ _ | with_reducible refine bl_drew ?_ | with_reducible refine bl_grow ?_ _ _ | with_reducible refine bl_call ?_ (by assumption)))))
    have hb9 : Below w.heap.size w w5 := by (repeat (first | with_reducible exact Below.refl _ _ | with_reducible assumption | with_reducible refine bl_set (by first | exact Nat.le_refl _ | (simp; done) | (simp; omega) | omega) ?_ _ | with_reducible refine bl_alloc ?_ _ | with_reducible refine bl_drewN ?_ _ | with_reducible refine bl_drew ?_ | with_reducible refine bl_grow ?_ _ _ | with_reducible refine bl_call ?_ (by assumption)))
    go_wp2
    refine bodyPost_ret (v := .agg #[.int .i64 0, .int .i64 c]) (by simp [results, Tryz.results32, go_sem, cell_set_at r0, r1]) rfl ⟨rfl, bl_set (by simp) (bl_set (by simp) hb9 _) _⟩
  · go_upto_region 5 with (go_at_call 67; refine (as_hitLA c n ⟨w.heap.size + 1 + 1, 0, none⟩ (.int .i64 0) _ (HE.out _ (by (repeat (first | with_reducible exact Below.refl _ _ | with_reducible assumption | with_reducible refine bl_set (by first | exact Nat.le_refl _ | (simp; done) | (simp; omega) | omega) ?_ _ | with_reducible refine bl_alloc ?_ _ | with_reducible refine bl_drewN ?_ _ | with_reducible refine bl_drew ?_ | with_reducible refine bl_grow ?_ _ _ | with_reducible refine bl_call ?_ (by assumption))))) a0 p0).mono ?_; rintro e w5 ⟨rfl, w6, hb6, rfl⟩; clear r0 r1 q0 q1 t0 a0 p0; obtain ⟨⟨r0, r1, q0, q1⟩, t0, a0, p0⟩ := HAL.out w6 (by (repeat (first | with_reducible exact Below.refl _ _ | with_reducible assumption | with_reducible refine bl_set (by first | exact Nat.le_refl _ | (simp; done) | (simp; omega) | omega) ?_ _ | with_reducible refine bl_alloc ?_ _ | with_reducible refine bl_drewN ?_ _ | with_reducible refine bl_drew ?_ | with_reducible refine bl_grow ?_ _ _ | with_reducible refine bl_call ?_ (by assumption)))))
    have hb9 : Below w.heap.size w w6 := by (repeat (first | with_reducible exact Below.refl _ _ | with_reducible assumption | with_reducible refine bl_set (by first | exact Nat.le_refl _ | (simp; done) | (simp; omega) | omega) ?_ _ | with_reducible refine bl_alloc ?_ _ | with_reducible refine bl_drewN ?_ _ | with_reducible refine bl_drew ?_ | with_reducible refine bl_grow ?_ _ _ | with_reducible refine bl_call ?_ (by assumption)))
    obtain ⟨U, hU⟩ : ∃ U, U = w6.setCell ⟨w.heap.size + 1 + 1, 0, none⟩ (.int .i64 n) := ⟨_, rfl⟩
    have hb10 : Below w.heap.size w U := by rw [hU]; exact bl_set (by simp; omega) hb9 _
    have y0 : U.cell? ⟨w.heap.size, 0, none⟩ = some (.int .i64 0) := by rw [hU]; exact (cell_set_other (by omega)).trans r0
    have y1 : U.cell? ⟨w.heap.size, 1, none⟩ = some (.int .i64 0) := by rw [hU]; exact (cell_set_other (by omega)).trans r1
    have y2 : U.cell? ⟨w.heap.size + 1, 0, none⟩ = some (.int .i64 c) := by rw [hU]; exact (cell_set_other (by omega)).trans t0
    have y3 : U.cell? ⟨w.heap.size + 1 + 1, 0, none⟩ = some (.int .i64 n) := by rw [hU]; exact cell_set_at a0
    have y4 : U.frozen? ⟨w.heap.size, 0, none⟩ = false := by rw [hU]; exact frozen_set.trans q0
    have y5 : U.frozen? ⟨w.heap.size, 1, none⟩ = false := by rw [hU]; exact frozen_set.trans q1
    rw [← hU]
    clear hU r0 r1 q0 q1 t0 a0 p0
    go_wp2
    refine bodyPost_ret (v := .agg #[.int .i64 n, .int .i64 c]) (by simp [results, Tryz.results32, go_sem, cell_set_at y0, y1]) rfl ⟨rfl, bl_set (by simp) (bl_set (by simp) hb10 _) _⟩
end Go.Proofs.YtipdjmbgbehkaaaGreatDoor
/- Contracts of the program's chapter 5: listRead, ListParse. -/
namespace Go.Proofs.YtipdjmbgbehkaaaGreatDoor
open Go.RowKit Go.Sort Go.BigFrame
/-- The error that tells what is wrong. -/
def errOf (R : List Stil.Inst × Int × Int) : Value := if R.2.2 = 0 then .nilIface else .iface 87 (.agg #[.int .i64 R.2.2, if R.2.1 = 0 then .nilIface else .iface 89 (.int .i64 R.2.1)])
/-- What listRead leaves. -/
def ReadOut (R : List Stil.Inst × Int × Int) (e : Ending) (w w' : World) : Prop := ∃ (rv : Value) (us : List Value), e = .returned (.tuple #[rv, errOf R]) ∧ Built w' w.heap.size (.slice none 0 0) rv us R.1 [] ∧ Below w.heap.size w w'
theorem i_splitL (l : List UInt8) (w : World) (hw : LibAt w) (hl : l.length ≤ 1000000000) : Calls Tryz.prog 64 #[.string ⟨l.toArray⟩, .string ⟨#[10]⟩] w fun e w' => ∃ g, e = .returned (.slice (some ⟨g, 0, none⟩) (Stil.cut 10 l).length (Stil.cut 10 l).length) ∧ g < w'.heap.size ∧ (∀ k (h : k < (Stil.cut 10 l).length), w'.cell? ⟨g, k, none⟩ = some (.string ⟨(Stil.cut 10 l)[k].toArray⟩)) ∧ Below w.heap.size w w' := by
  obtain ⟨_, _, m, hm⟩ := hw
  have hsz : (⟨l.toArray⟩ : ByteArray).size = l.length := rfl
  refine (Tryz.strings_Split ⟨l.toArray⟩ ⟨#[10]⟩ m w (by rw [hsz]; omega) hm (by show 1 ≤ 1; omega)).mono ?_
  rintro e w' ⟨he, rfl⟩
  obtain ⟨h1, h2⟩ := Stil.split_lib 10 l
  rw [h2] at he
  rw [h1]
  refine ⟨w.heap.size, he, by simp, fun k hk => ?_, below_alloc _ _⟩
  rw [World.cell?_alloc_at _ _ _ _ rfl]
  simp [hk]
set_option maxHeartbeats 4000000 in
set_option maxRecDepth 100000 in
theorem i_listRead (l : List UInt8) (w : World) (henv : Env w) (hs : l.length ≤ 1048576) :
    Calls Tryz.prog 31 #[.string ⟨l.toArray⟩] w fun e w' => ReadOut (Stil.listParse l) e w w' := by
  have HEN : Hid (∀ V, Below w.heap.size w V → Env V) := fun V h => henv.below h
  have hsz : (⟨l.toArray⟩ : ByteArray).size = l.length := rfl
  clear henv
  by_cases hlong : 50000 < l.length
  · have HR : Hid (Stil.listParse l = ([], 0, 1)) := by show _ = _; unfold Stil.listParse; rw [if_pos hlong]
    go_enter Tryz.func31, Tryz.ntmps31
    go_wp2
    refine bodyPost_ret (v := .tuple #[.slice none 0 0, .iface 87 (.agg #[.int .i64 1, .nilIface])]) (by simp [results, Tryz.results31, go_sem]) rfl ⟨.slice none 0 0, [], by rw [HR.out]; rfl, by rw [HR.out]; exact built_nil _ _, by (repeat (first | with_reducible exact Below.refl _ _ | with_reducible assumption | with_reducible refine bl_set (by first | exact Nat.le_refl _ | (simp; done) | (simp; omega) | omega) ?_ _ | with_reducible refine bl_alloc ?_ _ | with_reducible refine bl_drewN ?_ _ | with_reducible refine bl_drew ?_ | with_reducible refine bl_grow ?_ _ _ | with_reducible refine bl_call ?_ (by assumption)))⟩
  have HR : Hid (Stil.listParse l = Stil.parseFrom 0 [] (Stil.cut 10 l)) := by show _ = _; unfold Stil.listParse; rw [if_neg hlong]
  have HCU : Hid (∀ W, Below w.heap.size w W → Calls Tryz.prog 64 #[.string ⟨l.toArray⟩, .string ⟨#[10]⟩] W fun e w' => ∃ g, e = .returned (.slice (some ⟨g, 0, none⟩) (Stil.cut 10 l).length (Stil.cut 10 l).length) ∧ g < w'.heap.size ∧ (∀ k (h : k < (Stil.cut 10 l).length), w'.cell? ⟨g, k, none⟩ = some (.string ⟨(Stil.cut 10 l)[k].toArray⟩)) ∧ Below W.heap.size W w') := fun W h => i_splitL l W (HEN.out W h).2.2.2.2.1 (by omega)
  have hcl := piece_count 10 l
  have HPL : Hid (∀ x ∈ Stil.cut 10 l, x.length ≤ 50000) := fun x hx => by have := cut_len 10 l x hx; omega
  obtain ⟨ls, hls⟩ : ∃ ls, ls = Stil.cut 10 l := ⟨_, rfl⟩
  obtain ⟨R, hR⟩ : ∃ R, R = Stil.listParse l := ⟨_, rfl⟩
  rw [← hls] at HR HCU hcl HPL
  rw [← hR] at HR ⊢
  clear hls hR
  obtain ⟨i0, hi, hz0, hz1, hz2⟩ := info_parts info_Inst
  have hnl : ¬ (50000 : Int) < (l.length : Int) := by omega
  go_enter Tryz.func31, Tryz.ntmps31
  go_wp2_with (go_at_call 64; refine (HCU.out _ (by (repeat (first | with_reducible exact Below.refl _ _ | with_reducible assumption | with_reducible refine bl_set (by first | exact Nat.le_refl _ | (simp; done) | (simp; omega) | omega) ?_ _ | with_reducible refine bl_alloc ?_ _ | with_reducible refine bl_drewN ?_ _ | with_reducible refine bl_drew ?_ | with_reducible refine bl_grow ?_ _ _ | with_reducible refine bl_call ?_ (by assumption))))).mono ?_; rintro e w1 ⟨g, rfl, hg2, hcell, hb1⟩)
  have HCL : Hid (∀ W, Below w1.heap.size w1 W → ∀ k (h : k < ls.length), W.cell? ⟨g, k, none⟩ = some (.string ⟨ls[k].toArray⟩)) := fun W h k hk => by
    rw [h.cell (p := ⟨g, k, none⟩) hg2]
    exact hcell k hk
  have hB1 : Below w.heap.size w w1 := by (repeat (first | with_reducible exact Below.refl _ _ | with_reducible assumption | with_reducible refine bl_set (by first | exact Nat.le_refl _ | (simp; done) | (simp; omega) | omega) ?_ _ | with_reducible refine bl_alloc ?_ _ | with_reducible refine bl_drewN ?_ _ | with_reducible refine bl_drew ?_ | with_reducible refine bl_grow ?_ _ _ | with_reducible refine bl_call ?_ (by assumption)))
  have hz1w : w.heap.size ≤ w1.heap.size := hB1.size
  have HFT : Hid (∀ W (n c : Int), Below w1.heap.size w1 W → R = ([], n, c) → c ≠ 0 → n ≠ 0 → ReadOut R (.returned (.tuple #[.slice none 0 0, .iface 87 (.agg #[.int .i64 c, .iface 89 (.int .i64 n)])])) w W) := fun W n c h e h1 h2 => by
    refine ⟨.slice none 0 0, [], ?_, by rw [e]; exact built_nil _ _, hB1.trans (h.mono hB1.size)⟩
    rw [e]
    unfold errOf
    simp only
    rw [if_neg h1, if_neg h2]
  clear hcell hb1 HCU
  obtain ⟨nl, hnl2⟩ : ∃ n, n = ls.length := ⟨_, rfl⟩
  have HNL : Hid (nl = ls.length) := hnl2
  rw [← hnl2] at hcl ⊢
  clear hnl2
  go_loopw [4, 19] (fun v i wr => ∃ (k : Nat) (us : List Value) (cs : List Stil.Inst) (a : Option Addr) (c : Nat), k ≤ nl ∧ i = .int .i64 (k : Int) ∧ v = .slice a cs.length c ∧ cs.length ≤ k ∧ cs.length ≤ 1000 ∧ Built wr w1.heap.size (.slice none 0 0) (.slice a cs.length c) us cs [] ∧ R = Stil.parseFrom k cs (ls.drop k) ∧ Below w1.heap.size w1 wr) (fun _ i _ => nl - (intOf i).toNat)
  case atStart => exact ⟨0, [], [], none, 0, Nat.zero_le _, rfl, rfl, Nat.le_refl _, by simp, built_nil _ _, HR.out, Below.refl _ _⟩
  case round =>
    obtain ⟨k, us, cs, a, c, hk, rfl, rfl, hck, hc1000, hbt, hR, hb⟩ := hrel
    have HBT : Hid (Built wr w1.heap.size (.slice none 0 0) (.slice a cs.length c) us cs []) := hbt
    have HPR : Hid (R = Stil.parseFrom k cs (ls.drop k)) := hR
    have hzr := hb.size
    clear hbt hR HR
    by_cases hlt : k < nl
    · have hlt' : k < ls.length := by have := HNL.out; omega
      have hc := HCL.out wr hb k hlt'
      have HPS : Hid (R = if Stil.wordsOf ls[k] = [] then Stil.parseFrom (k + 1) cs (ls.drop (k + 1)) else if Stil.specOk (Stil.wordsOf ls[k]) = false then ([], (k : Int) + 1, 2) else if cs.length = 1000 then ([], (k : Int) + 1, 3) else Stil.parseFrom (k + 1) (cs ++ [Stil.instOf (Stil.wordsOf ls[k])]) (ls.drop (k + 1))) := by show _ = _; rw [HPR.out, Stil.parse_step cs hlt']
      have hxl := HPL.out ls[k] (List.getElem_mem hlt')
      obtain ⟨x, hx⟩ : ∃ x, x = ls[k] := ⟨_, rfl⟩
      rw [← hx] at hc HPS hxl
      have hws := Stil.words_small x
      have hwj := Stil.words_join x
      have hwn := Stil.words_ne x
      have HLW : Hid (∀ W, Calls Tryz.prog 65 #[.string ⟨x.toArray⟩] W fun e w' => ∃ v, e = .returned v ∧ w'.ownsRow W.heap.size 9 1 v (Stil.wordsOf x).length ((Stil.wordsOf x).map strV) ∧ Below W.heap.size W w') := fun W => i_listScan x W (by omega)
      obtain ⟨ws, hwe⟩ : ∃ ws, ws = Stil.wordsOf x := ⟨_, rfl⟩
      rw [← hwe] at HPS HLW hws hwj hwn
      obtain ⟨nc, hnc⟩ : ∃ n, n = cs.length := ⟨_, rfl⟩
      have HNC : Hid (nc = cs.length) := hnc
      rw [← hnc] at hck hc1000 HBT HPS ⊢
      have hwk : IntKind.i64.wrap ((k : Int) + 1) = (k : Int) + 1 := by rw [IntKind.wrap_i64]; omega
      have hgr : g < wr.heap.size := Nat.lt_of_lt_of_le hg2 hb.size
      clear hx hwe hnc HPR HCL HPL
      by_cases h0 : ws = []
      · subst h0
        have HE : Hid (R = Stil.parseFrom (k + 1) cs (ls.drop (k + 1))) := by show _ = _; rw [HPS.out, if_pos rfl]
        clear HPS hws hwj hwn
        go_wp2_with (go_at_call 65; refine (HLW.out _).mono ?_; rintro e w3 ⟨v, rfl, hown3, hb3⟩; obtain ⟨wa, wc, hv3, _⟩ := own_open hown3; subst hv3; clear hown3)
        refine ⟨⟨k + 1, us, cs, a, c, by omega, by simp, by rw [HNC.out], by have := HNC.out; omega, by have := HNC.out; omega, ?_, HE.out, bl_call hb hb3⟩, by simp [intOf]; omega⟩
        have := HBT.out.below hb3
        rw [HNC.out] at this
        exact this
      · have hwl : 0 < ws.length := List.length_pos_iff.2 h0
        have HPT : Hid (R = if Stil.specOk ws = false then ([], (k : Int) + 1, 2) else if nc = 1000 then ([], (k : Int) + 1, 3) else Stil.parseFrom (k + 1) (cs ++ [Stil.instOf ws]) (ls.drop (k + 1))) := by show _ = _; rw [HPS.out, if_neg h0]
        have HWL : Hid (ws.length ≤ 1000000 ∧ (∀ y ∈ ws, y.length ≤ 1000000) ∧ (Stil.joinSp ws).length ≤ 1000000) := ⟨by omega, fun y hy => by have := hws.2 y hy; omega, by omega⟩
        have HAG : Hid (Stil.implOk ws = Stil.specOk ws) := (Stil.lines_agree h0 hwn).symm
        clear HPS h0 hws hwj hwn
        obtain ⟨lw, hlw⟩ : ∃ n, n = ws.length := ⟨_, rfl⟩
        have HLN : Hid (lw = ws.length) := hlw
        rw [← hlw] at hwl HLW
        have hlz : ((lw : Int) == 0) = false := by rw [beq_eq_false_iff_ne]; omega
        clear hlw
        go_upto_region 10 with (go_at_call 65; refine (HLW.out _).mono ?_; rintro e w3 ⟨v, rfl, hown3, hb3⟩; obtain ⟨wg, wc, rfl, hwg1, hwg2, hwcap, hwcell⟩ := ownsRow_cells hown3 hwl)
        have hb13 : Below w1.heap.size w1 w3 := bl_call hb hb3
        have hbw3 : Below w.heap.size w w3 := hB1.trans (hb13.mono hB1.size)
        have HST : Hid (StrsAt w3 (.slice (some ⟨wg, 0, none⟩) ws.length wc) ws) := by
          refine ⟨wg, wc, rfl, by have := HLN.out; omega, hwg2, fun j y hj => ?_⟩
          exact hwcell j _ (by rw [List.getElem?_map, hj]; rfl)
        have HLI : Hid (∀ V, Below w3.heap.size w3 V → Calls Tryz.prog 66 #[.slice (some ⟨wg, 0, none⟩) lw wc] V fun e w' => ∃ v, e = .returned (.tuple #[.agg #[.int .i64 (Stil.instOf ws).code, .int .i64 (Stil.instOf ws).one.op, v], .bool (Stil.specOk ws)]) ∧ w'.ownsRow V.heap.size 74 3 v (Stil.instOf ws).one.args.length (devsCells (Stil.instOf ws).one.args) ∧ Below V.heap.size V w') := fun V h => by
          rw [HLN.out, ← HAG.out]
          exact i_listInst ws wg wc V (HEN.out V (hbw3.trans (h.mono hbw3.size))) (HST.out.below h) (by have := HLN.out; omega) HWL.out.1 HWL.out.2.1 HWL.out.2.2
        have HBT3 : Hid (Built w3 w1.heap.size (.slice none 0 0) (.slice a nc c) us cs []) := HBT.out.below hb3
        clear hown3 hwcell HLW HBT HST HAG
        obtain ⟨I, hI⟩ : ∃ I, I = Stil.instOf ws := ⟨_, rfl⟩
        obtain ⟨ok, hok⟩ : ∃ I, I = Stil.specOk ws := ⟨_, rfl⟩
        rw [← hI] at HPT HLI
        rw [← hok] at HPT HLI
        clear hok hI
        go_upto_region 11 with (go_at_call 66; refine (HLI.out _ (by (repeat (first | with_reducible exact Below.refl _ _ | with_reducible assumption | with_reducible refine bl_set (by first | exact Nat.le_refl _ | (simp; done) | (simp; omega) | omega) ?_ _ | with_reducible refine bl_alloc ?_ _ | with_reducible refine bl_drewN ?_ _ | with_reducible refine bl_drew ?_ | with_reducible refine bl_grow ?_ _ _ | with_reducible refine bl_call ?_ (by assumption))))).mono ?_; rintro e w5 ⟨u, rfl, hu5, hb5⟩; obtain ⟨ua, uc, hue, _⟩ := own_open hu5; subst hue)
        have h15 : Below w1.heap.size w1 w5 := by (repeat (first | with_reducible exact Below.refl _ _ | with_reducible assumption | with_reducible refine bl_set (by first | exact Nat.le_refl _ | (simp; done) | (simp; omega) | omega) ?_ _ | with_reducible refine bl_alloc ?_ _ | with_reducible refine bl_drewN ?_ _ | with_reducible refine bl_drew ?_ | with_reducible refine bl_grow ?_ _ _ | with_reducible refine bl_call ?_ (by assumption)))
        have h35 : Below w3.heap.size w3 w5 := by (repeat (first | with_reducible exact Below.refl _ _ | with_reducible assumption | with_reducible refine bl_set (by first | exact Nat.le_refl _ | (simp; done) | (simp; omega) | omega) ?_ _ | with_reducible refine bl_alloc ?_ _ | with_reducible refine bl_drewN ?_ _ | with_reducible refine bl_drew ?_ | with_reducible refine bl_grow ?_ _ _ | with_reducible refine bl_call ?_ (by assumption)))
        have HU5 : Hid (w5.ownsRow w3.heap.size 74 3 (.slice ua I.one.args.length uc) I.one.args.length (devsCells I.one.args)) := hu5
        obtain ⟨V, hV⟩ : ∃ V, V = w5.alloc (.cells #[.int .i64 I.code, .int .i64 I.one.op, .slice ua I.one.args.length uc] 31) := ⟨_, rfl⟩
        have h5V : Below w5.heap.size w5 V := by rw [hV]; exact below_alloc _ _
        have hbV : Below w1.heap.size w1 V := by rw [hV]; exact bl_alloc h15 _
        have hsV : V.heap.size = w5.heap.size + 1 := by rw [hV]; simp
        have d0 : V.cell? ⟨w5.heap.size, 0, none⟩ = some (.int .i64 I.code) := by rw [hV]; simp [go_sem]
        have d1 : V.cell? ⟨w5.heap.size, 1, none⟩ = some (.int .i64 I.one.op) := by rw [hV]; simp [go_sem]
        have d2 : V.cell? ⟨w5.heap.size, 2, none⟩ = some (.slice ua I.one.args.length uc) := by rw [hV]; simp [go_sem]
        rw [← hV]
        have hwV : w1.heap.size ≤ V.heap.size := hbV.size
        have h3V : Below w3.heap.size w3 V := h35.trans (h5V.mono h35.size)
        have HUV : Hid (V.ownsRow w3.heap.size 74 3 (.slice ua I.one.args.length uc) I.one.args.length (devsCells I.one.args)) := ownsRow_below HU5.out h5V
        clear hV h15 hu5 hb5 HLI h35 h5V hsV
        cases ok
        · have HE : Hid (R = ([], (k : Int) + 1, 2)) := by show _ = _; rw [HPT.out, if_pos rfl]
          clear HPT
          go_wp2
          refine bodyPost_ret (v := .tuple #[.slice none 0 0, .iface 87 (.agg #[.int .i64 2, .iface 89 (.int .i64 ((k : Int) + 1))])]) (by simp [results, Tryz.results31, go_sem]) rfl ?_
          exact HFT.out V _ _ hbV HE.out (by decide) (by omega)
        · have HPU : Hid (R = if nc = 1000 then ([], (k : Int) + 1, 3) else Stil.parseFrom (k + 1) (cs ++ [I]) (ls.drop (k + 1))) := by show _ = _; rw [HPT.out, if_neg (by decide)]
          clear HPT
          by_cases hfull : nc = 1000
          · have HE : Hid (R = ([], (k : Int) + 1, 3)) := by show _ = _; rw [HPU.out, if_pos hfull]
            subst hfull
            clear HPU
            go_wp2
            refine bodyPost_ret (v := .tuple #[.slice none 0 0, .iface 87 (.agg #[.int .i64 3, .iface 89 (.int .i64 ((k : Int) + 1))])]) (by simp [results, Tryz.results31, go_sem]) rfl ?_
            exact HFT.out V _ _ hbV HE.out (by decide) (by omega)
          · have HE : Hid (R = Stil.parseFrom (k + 1) (cs ++ [I]) (ls.drop (k + 1))) := by show _ = _; rw [HPU.out, if_neg hfull]
            have hnz : ((nc : Int) == 1000) = false := by rw [beq_eq_false_iff_ne]; omega
            have hl9 : nc + 1 ≤ 1000 := by omega
            obtain ⟨xs, hxs⟩ : ∃ xs, xs = rungCells us cs := ⟨_, rfl⟩
            have HXS : Hid (xs = rungCells us cs) := hxs
            have HOV : Hid (V.ownsRow w1.heap.size 31 3 (.slice a nc c) nc xs) := by
              have := ownsRow_below HBT3.out.1.2.1 h3V
              rw [← HNC.out, ← hxs] at this
              exact this
            clear HPU hfull hxs
            go_wp2_with (at_builtin; refine wpList_append_own_at _ rfl _ _ 23 rfl w1.heap.size 31 i0 (.agg #[.int .i64 0, .int .i64 0, .slice none 0 0]) 3 40 Tryz.underlying23 hi hz0 hz1 hz2 rfl (by decide) _ _ _ rfl (HOV.out.alloc _) ⟨V.heap.size, 0, none⟩ 1 1 [.int .i64 I.code, .int .i64 I.one.op, .slice ua I.one.args.length uc] rfl rfl (by exact cells3) (by intro u hu; simp at hu; rcases hu with rfl | rfl | rfl <;> rfl) (by unfold maxLen; omega) (by omega) (by simp only [World.size_alloc]; omega) ?_; intro v' w6 hown6 hgr6 _ hat6; obtain ⟨a6, c6, hv6⟩ := slice_of_owns hown6; subst hv6)
            have h3A : Below w3.heap.size w3 (V.alloc (.cells #[.int .i64 I.code, .int .i64 I.one.op, .slice ua I.one.args.length uc] 31)) := bl_alloc h3V _
            have HB6 : Hid (Built w6 w1.heap.size (.slice none 0 0) (.slice a6 (nc + 1) c6) (us ++ [.slice ua I.one.args.length uc]) (cs ++ [I]) []) := by
              refine Built.push (w := w3) HBT3.out h3A (World.ownsRow.alloc HUV.out _) hb13.size ?_ hgr6 hat6
              rw [← HNC.out, ← HXS.out]
              exact hown6
            have hB6 : Below w1.heap.size w1 w6 := (bl_alloc hbV _).grown hgr6 (by simp only [World.size_alloc]; omega) (fun k hk => (HOV.out.lt k hk).1)
            refine ⟨⟨k + 1, us ++ [.slice ua I.one.args.length uc], cs ++ [I], a6, c6, by omega, by simp, by simp [HNC.out], by rw [List.length_append, ← HNC.out]; simp; omega, by rw [List.length_append, ← HNC.out]; exact hl9, ?_, HE.out, hB6⟩, by simp [intOf]; omega⟩
            have := HB6.out
            rw [HNC.out] at this
            simpa using this
    · obtain rfl : k = nl := by omega
      have HE : Hid (R = (cs, 0, 0)) := by show _ = _; rw [HPR.out, Stil.parse_end cs (by have := HNL.out; omega)]
      obtain ⟨nc, hnc⟩ : ∃ n, n = cs.length := ⟨_, rfl⟩
      have HNC : Hid (nc = cs.length) := hnc
      rw [← hnc] at hck hc1000 HBT ⊢
      clear HPR hnc
      go_wp2
      refine bodyPost_ret (v := .tuple #[.slice a nc c, .nilIface]) (by simp [results, Tryz.results31, go_sem]) rfl ?_
      refine ⟨.slice a nc c, us, by rw [HE.out]; rfl, ?_, hB1.trans (hb.mono hB1.size)⟩
      rw [HE.out]
      exact HBT.out.le hz1w
theorem ne_wrong (u v : Value) (w : World) : Sem.run Tryz.prog (binOp BinOp.neq 53 (.iface 87 (.agg #[u, v])) .nilIface) w = .ok (.bool true) w := by kernel_rfl
theorem parse_kinds : ∀ (ls : List (List UInt8)) (k : Nat) (cs : List Stil.Inst), ((Stil.parseFrom k cs ls).2.2 = 0 ∧ (Stil.parseFrom k cs ls).2.1 = 0) ∨ ((Stil.parseFrom k cs ls).2.2 ≠ 0 ∧ (Stil.parseFrom k cs ls).1 = [] ∧ 0 < (Stil.parseFrom k cs ls).2.1 ∧ (Stil.parseFrom k cs ls).2.1 ≤ k + ls.length)
  | [], k, cs => .inl ⟨rfl, rfl⟩
  | l :: r, k, cs => by
    rw [Stil.parseFrom]
    have e1 : ((l :: r).length : Int) = r.length + 1 := by simp
    have h1 := parse_kinds r (k + 1) cs
    have h2 := parse_kinds r (k + 1) (cs ++ [Stil.instOf (Stil.wordsOf l)])
    have e2 : ((k + 1 : Nat) : Int) = k + 1 := by omega
    rw [e2] at h1 h2
    rw [e1]
    split
    · rcases h1 with h | ⟨a, b, c, d⟩
      · exact .inl h
      · exact .inr ⟨a, b, c, by omega⟩
    · split
      · exact .inr ⟨by show (2 : Int) ≠ 0; decide, rfl, by simp only; omega, by simp only; omega⟩
      · split
        · exact .inr ⟨by show (3 : Int) ≠ 0; decide, rfl, by simp only; omega, by simp only; omega⟩
        · rcases h2 with h | ⟨a, b, c, d⟩
          · exact .inl h
          · exact .inr ⟨a, b, c, by omega⟩
theorem list_kinds (l : List UInt8) : ((Stil.listParse l).2.2 = 0 ∧ (Stil.listParse l).2.1 = 0) ∨ ((Stil.listParse l).2.2 ≠ 0 ∧ (Stil.listParse l).1 = []) := by
  unfold Stil.listParse
  split
  · exact .inr ⟨by decide, rfl⟩
  · rcases parse_kinds (Stil.cut 10 l) 0 [] with h | h
    · exact .inl h
    · exact .inr ⟨h.1, h.2.1⟩
set_option maxHeartbeats 2000000 in
set_option maxRecDepth 100000 in
theorem i_listParse (l : List UInt8) (w : World) (henv : Env w) (hs : l.length ≤ 1048576) :
    Calls Tryz.prog 11 #[.string ⟨l.toArray⟩] w fun e w' => ParseOut (Stil.listParse l) e w w' := by
  have HRD : Hid (∀ V, Below w.heap.size w V → Calls Tryz.prog 31 #[.string ⟨l.toArray⟩] V fun e w' => ReadOut (Stil.listParse l) e V w') := fun V h => i_listRead l V (henv.below h) hs
  have HEE : Hid (∀ V, Below w.heap.size w V → ErrTypeAt V) := fun V h => (henv.below h).2.2.2.2.2
  have hk := list_kinds l
  obtain ⟨R, hR⟩ : ∃ R, R = Stil.listParse l := ⟨_, rfl⟩
  rw [← hR] at HRD hk ⊢
  clear hR henv
  have nw := ne_wrong
  have nn := ne_nilE
  rcases hk with ⟨h1, h2⟩ | ⟨h1, h2⟩
  · have HR0 : Hid (∀ V, Below w.heap.size w V → Calls Tryz.prog 31 #[.string ⟨l.toArray⟩] V fun e w' => ∃ (a : Option Addr) (c : Nat) (us : List Value), e = .returned (.tuple #[.slice a R.1.length c, .nilIface]) ∧ Built w' V.heap.size (.slice none 0 0) (.slice a R.1.length c) us R.1 [] ∧ Below V.heap.size V w') := fun V h => by
      refine (HRD.out V h).mono ?_
      rintro e w' ⟨rv, us, rfl, hbt, hb⟩
      obtain ⟨ra, rc, hrv⟩ := slice_of_owns hbt.1.2.1
      subst hrv
      have he : errOf R = .nilIface := by unfold errOf; rw [if_pos h1]
      exact ⟨ra, rc, us, by rw [he], hbt, hb⟩
    clear HRD HEE
    go_enter Tryz.func11, Tryz.ntmps11
    go_upto_region 4 with (go_at_call 31; refine (HR0.out _ (by (repeat (first | with_reducible exact Below.refl _ _ | with_reducible assumption | with_reducible refine bl_set (by first | exact Nat.le_refl _ | (simp; done) | (simp; omega) | omega) ?_ _ | with_reducible refine bl_alloc ?_ _ | with_reducible refine bl_drewN ?_ _ | with_reducible refine bl_drew ?_ | with_reducible refine bl_grow ?_ _ _ | with_reducible refine bl_call ?_ (by assumption))))).mono ?_; rintro e w1 ⟨ra, rc, us, rfl, hbt, hb1⟩)
    have hz : w.heap.size < w1.heap.size := below_lt hb1
    have c0 : w1.cell? ⟨w.heap.size, 0, none⟩ = some (.int .i64 0) := by rw [hb1.cell (p := ⟨w.heap.size, 0, none⟩) (by simp)]; simp [go_sem]
    have c1 : w1.cell? ⟨w.heap.size, 1, none⟩ = some (.int .i64 0) := by rw [hb1.cell (p := ⟨w.heap.size, 1, none⟩) (by simp)]; simp [go_sem]
    have f0 : w1.frozen? ⟨w.heap.size, 0, none⟩ = false := by rw [hb1.frozen (p := ⟨w.heap.size, 0, none⟩) (by simp)]; simp [go_sem]
    have f1 : w1.frozen? ⟨w.heap.size, 1, none⟩ = false := by rw [hb1.frozen (p := ⟨w.heap.size, 1, none⟩) (by simp)]; simp [go_sem]
    have hbw : Below w.heap.size w w1 := by (repeat (first | with_reducible exact Below.refl _ _ | with_reducible assumption | with_reducible refine bl_set (by first | exact Nat.le_refl _ | (simp; done) | (simp; omega) | omega) ?_ _ | with_reducible refine bl_alloc ?_ _ | with_reducible refine bl_drewN ?_ _ | with_reducible refine bl_drew ?_ | with_reducible refine bl_grow ?_ _ _ | with_reducible refine bl_call ?_ (by assumption)))
    have HBT : Hid (Built w1 (w.heap.size + 1) (.slice none 0 0) (.slice ra R.1.length rc) us R.1 []) := by show Built _ _ _ _ _ _ _; simpa using hbt
    have HH : Hid (R.2.1 = 0 ∧ R.2.2 = 0) := ⟨h2, h1⟩
    clear hbt hb1 h1 h2
    go_wp2
    refine bodyPost_ret (v := .tuple #[.slice ra R.1.length rc, .agg #[.int .i64 0, .int .i64 0]]) (by simp [results, Tryz.results11, go_sem, cell_set_at c0, c1]) rfl ?_
    exact ⟨.slice ra R.1.length rc, us, by rw [HH.out.1, HH.out.2], ((HBT.out.store (Nat.lt_succ_self _) _).store (Nat.lt_succ_self _) _).le (Nat.le_succ _), bl_set (by simp) (bl_set (by simp) hbw _) _⟩
  · have HR0 : Hid (∀ V, Below w.heap.size w V → Calls Tryz.prog 31 #[.string ⟨l.toArray⟩] V fun e w' => ∃ (a : Option Addr) (c : Nat), e = .returned (.tuple #[.slice a 0 c, .iface 87 (.agg #[.int .i64 R.2.2, if R.2.1 = 0 then .nilIface else .iface 89 (.int .i64 R.2.1)])]) ∧ Below V.heap.size V w') := fun V h => by
      refine (HRD.out V h).mono ?_
      rintro e w' ⟨rv, us, rfl, hbt, hb⟩
      rw [h2] at hbt
      obtain ⟨ra, rc, hrv⟩ := slice_of_owns hbt.1.2.1
      subst hrv
      have he : errOf R = .iface 87 (.agg #[.int .i64 R.2.2, if R.2.1 = 0 then .nilIface else .iface 89 (.int .i64 R.2.1)]) := by unfold errOf; rw [if_neg h1]
      exact ⟨ra, rc, by rw [he]; rfl, hb⟩
    obtain ⟨X, hX⟩ : ∃ X : Value, X = if R.2.1 = 0 then .nilIface else .iface 89 (.int .i64 R.2.1) := ⟨_, rfl⟩
    rw [← hX] at HR0
    have HXX : Hid (X = .nilIface ∧ R.2.1 = 0 ∨ X = .iface 89 (.int .i64 R.2.1)) := by
      show _ ∨ _
      by_cases h : R.2.1 = 0
      · rw [if_pos h] at hX; exact .inl ⟨hX, h⟩
      · rw [if_neg h] at hX; exact .inr hX
    have hox : X.oneCell' = true := by rcases HXX.out with ⟨rfl, _⟩ | rfl <;> rfl
    have HTD : Hid (∀ V, Below w.heap.size w V → Calls Tryz.prog 32 #[.iface 87 (.agg #[.int .i64 R.2.2, X])] V fun e w' => e = .returned (.agg #[.int .i64 R.2.1, .int .i64 R.2.2]) ∧ Below V.heap.size V w') := fun V h => i_listTold R.2.2 R.2.1 X V (HEE.out V h) HXX.out
    have HH : Hid (R.1 = []) := h2
    clear HRD HEE hX HXX h1 h2
    go_enter Tryz.func11, Tryz.ntmps11
    go_upto_region 3 with (go_at_call 31; refine (HR0.out _ (by (repeat (first | with_reducible exact Below.refl _ _ | with_reducible assumption | with_reducible refine bl_set (by first | exact Nat.le_refl _ | (simp; done) | (simp; omega) | omega) ?_ _ | with_reducible refine bl_alloc ?_ _ | with_reducible refine bl_drewN ?_ _ | with_reducible refine bl_drew ?_ | with_reducible refine bl_grow ?_ _ _ | with_reducible refine bl_call ?_ (by assumption))))).mono ?_; rintro e w1 ⟨ra, rc, rfl, hb1⟩)
    have hz : w.heap.size < w1.heap.size := below_lt hb1
    have HAL : Hid (∀ V, Below w1.heap.size w1 V → (V.cell? ⟨w.heap.size, 0, none⟩ = some (.int .i64 0) ∧ V.cell? ⟨w.heap.size, 1, none⟩ = some (.int .i64 0)) ∧ V.frozen? ⟨w.heap.size, 0, none⟩ = false ∧ V.frozen? ⟨w.heap.size, 1, none⟩ = false) := fun V h => by
      refine ⟨⟨?_, ?_⟩, ?_, ?_⟩
      · rw [h.cell (p := ⟨w.heap.size, 0, none⟩) hz, hb1.cell (p := ⟨w.heap.size, 0, none⟩) (by simp)]; simp [go_sem]
      · rw [h.cell (p := ⟨w.heap.size, 1, none⟩) hz, hb1.cell (p := ⟨w.heap.size, 1, none⟩) (by simp)]; simp [go_sem]
      · rw [h.frozen (p := ⟨w.heap.size, 0, none⟩) hz, hb1.frozen (p := ⟨w.heap.size, 0, none⟩) (by simp)]; simp [go_sem]
      · rw [h.frozen (p := ⟨w.heap.size, 1, none⟩) hz, hb1.frozen (p := ⟨w.heap.size, 1, none⟩) (by simp)]; simp [go_sem]
    have hbw : Below w.heap.size w w1 := by (repeat (first | with_reducible exact Below.refl _ _ | with_reducible assumption | with_reducible refine bl_set (by first | exact Nat.le_refl _ | (simp; done) | (simp; omega) | omega) ?_ _ | with_reducible refine bl_alloc ?_ _ | with_reducible refine bl_drewN ?_ _ | with_reducible refine bl_drew ?_ | with_reducible refine bl_grow ?_ _ _ | with_reducible refine bl_call ?_ (by assumption)))
    clear hb1
    go_wp2_with (go_at_call 32; refine (HTD.out _ (by (repeat (first | with_reducible exact Below.refl _ _ | with_reducible assumption | with_reducible refine bl_set (by first | exact Nat.le_refl _ | (simp; done) | (simp; omega) | omega) ?_ _ | with_reducible refine bl_alloc ?_ _ | with_reducible refine bl_drewN ?_ _ | with_reducible refine bl_drew ?_ | with_reducible refine bl_grow ?_ _ _ | with_reducible refine bl_call ?_ (by assumption))))).mono ?_; rintro e w3 ⟨rfl, hb3⟩; obtain ⟨⟨c0, c1⟩, f0, f1⟩ := HAL.out w3 (by (repeat (first | with_reducible exact Below.refl _ _ | with_reducible assumption | with_reducible refine bl_set (by first | exact Nat.le_refl _ | (simp; done) | (simp; omega) | omega) ?_ _ | with_reducible refine bl_alloc ?_ _ | with_reducible refine bl_drewN ?_ _ | with_reducible refine bl_drew ?_ | with_reducible refine bl_grow ?_ _ _ | with_reducible refine bl_call ?_ (by assumption)))))
    refine bodyPost_ret (v := .tuple #[.slice none 0 0, .agg #[.int .i64 R.2.1, .int .i64 R.2.2]]) (by simp [results, Tryz.results11, go_sem, cell_set_at c0, c1]) rfl ?_
    exact ⟨.slice none 0 0, [], rfl, by rw [HH.out]; exact built_nil _ _, bl_set (by simp) (bl_set (by simp) (by (repeat (first | with_reducible exact Below.refl _ _ | with_reducible assumption | with_reducible refine bl_set (by first | exact Nat.le_refl _ | (simp; done) | (simp; omega) | omega) ?_ _ | with_reducible refine bl_alloc ?_ _ | with_reducible refine bl_drewN ?_ _ | with_reducible refine bl_drew ?_ | with_reducible refine bl_grow ?_ _ _ | with_reducible refine bl_call ?_ (by assumption)))) _) _⟩
end Go.Proofs.YtipdjmbgbehkaaaGreatDoor
