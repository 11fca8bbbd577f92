/- Contracts of the program's chapter 5: listInst. -/
import Derived.Test.YtipdjmbgbehkaaaGreatDoorHs
import Derived.Test.YtipdjmbgbehkaaaGreatDoorGQ
import Derived.Test.YtipdjmbgbehkaaaGreatDoorHr
import Derived.Test.YtipdjmbgbehkaaaGreatDoorG4
import Derived.Test.YtipdjmbgbehkaaaGreatDoorGD
import Derived.Test.YtipdjmbgbehkaaaGreatDoorHq
import Derived.Deep.RegionWith
namespace Go.Proofs.YtipdjmbgbehkaaaGreatDoor
open Go.RowKit Go.Sort Go.BigFrame
/-- The tables and handles that the program goes by. -/
def Env (w : World) : Prop := RowsAt w ∧ WordsAt w ∧ LWordsAt w ∧ PowAt w ∧ LibAt w ∧ ErrTypeAt w
theorem Env.below {w w' : World} (h : Env w) (hb : Below w.heap.size w w') : Env w' :=
  ⟨h.1.below hb, h.2.1.below hb, h.2.2.1.below hb, h.2.2.2.1.below hb, h.2.2.2.2.1.below hb, h.2.2.2.2.2.below hb⟩
theorem i_joinW (v : Value) (xs : List (List UInt8)) (w : World) (hat : StrsAt w v xs) (hn : xs.length ≤ 1000000) (hlen : (Stil.joinSp xs).length ≤ 1000000) :
    Calls Tryz.prog 90 #[v, .string ⟨#[32]⟩] w fun e w' => e = .returned (.string ⟨(Stil.joinSp xs).toArray⟩) ∧ Below w.heap.size w w' := by
  obtain ⟨b, cap, rfl, hc, hlt, hx⟩ := hat
  have e1 : ((xs.map fun x => (⟨x.toArray⟩ : ByteArray)).map (·.data.toList)) = xs := by rw [List.map_map]; exact (List.map_congr_left (fun _ _ => by simp)).trans (List.map_id xs)
  have e2 : (⟨#[32]⟩ : ByteArray).data.toList = [32] := rfl
  have h := Tryz.strings_Join b 0 cap (xs.map fun x => (⟨x.toArray⟩ : ByteArray)) ⟨#[32]⟩ w (fun j x hj => by
      rw [List.getElem?_map] at hj
      obtain ⟨y, hy, rfl⟩ := Option.map_eq_some_iff.1 hj
      rw [Nat.zero_add]; exact hx j y hy) hlt (by simp; omega) (by simpa using hc) (by rw [e1, e2, Stil.join_lib]; omega)
  rw [e1, e2, List.length_map, Stil.join_lib] at h
  exact h
theorem one_of {ws : List (List UInt8)} (h : ws.length = 1) : ∃ x, ws = [x] := by
  match ws, h with
  | [x], _ => exact ⟨x, rfl⟩
theorem two_of {ws : List (List UInt8)} (h0 : 0 < ws.length) (h : ¬ ws.length = 1) : ∃ x y r, ws = x :: y :: r := by
  match ws, h0, h with
  | [x], _, h => exact absurd rfl h
  | x :: y :: r, _, _ => exact ⟨x, y, r, rfl⟩
theorem inst_one {x : List UInt8} {C : Int} (h : Stil.instOf [x] = ⟨C, (Stil.instOf [x]).one⟩) : Stil.instOf [x] = ⟨C, ⟨0, []⟩⟩ := h
theorem inst_two {x y : List UInt8} {r : List (List UInt8)} {C : Int} (h : Stil.instOf (x :: y :: r) = ⟨C, (Stil.instOf (x :: y :: r)).one⟩) : Stil.instOf (x :: y :: r) = ⟨C, Stil.elemRead y⟩ := h
/-- What listInst leaves. -/
def ReadInst (ws : List (List UInt8)) (e : Ending) (w w' : World) : Prop := ∃ v, e = .returned (.tuple #[.agg #[.int .i64 (Stil.instOf ws).code, .int .i64 (Stil.instOf ws).one.op, v], .bool (Stil.implOk ws)]) ∧ w'.ownsRow w.heap.size 74 3 v (Stil.instOf ws).one.args.length (devsCells (Stil.instOf ws).one.args) ∧ Below w.heap.size w w'
set_option maxHeartbeats 4000000 in
set_option maxRecDepth 100000 in
theorem i_listInst (ws : List (List UInt8)) (g cap : Nat) (w : World) (henv : Env w) (hat : StrsAt w (.slice (some ⟨g, 0, none⟩) ws.length cap) ws) (hne : 0 < ws.length) (hn : ws.length ≤ 1000000) (hl : ∀ x ∈ ws, x.length ≤ 1000000) (hj : (Stil.joinSp ws).length ≤ 1000000) :
    Calls Tryz.prog 66 #[.slice (some ⟨g, 0, none⟩) ws.length cap] w fun e w' => ReadInst ws e w w' := by
  have HEN : Hid (∀ V, Below w.heap.size w V → Env V) := fun V h => henv.below h
  have HJ0 : Hid (∀ V, Below w.heap.size w V → Calls Tryz.prog 90 #[.slice (some ⟨g, 0, none⟩) ws.length cap, .string ⟨#[32]⟩] V fun e w' => e = .returned (.string ⟨(Stil.joinSp ws).toArray⟩) ∧ Below V.heap.size V w') := fun V h => i_joinW _ ws V (hat.below h) hn hj
  have hg : g < w.heap.size := by obtain ⟨b, c, e, _, h, _⟩ := hat; cases e; exact h
  have HC : Hid (∀ V, Below w.heap.size w V → ∀ k (h : k < ws.length), V.cell? ⟨g, k, none⟩ = some (.string ⟨ws[k].toArray⟩)) := fun V hV k hk => by
    obtain ⟨b, c, e, _, h, hx⟩ := hat.below hV
    cases e
    exact hx k _ (List.getElem?_eq_getElem hk)
  obtain ⟨x0, hx0⟩ : ∃ x, x = ws[0] := ⟨_, rfl⟩
  have HIO : Hid (Stil.instOf ws = ⟨Stil.codeOf x0, (Stil.instOf ws).one⟩) := by
    show _ = _
    rw [hx0]
    cases ws with
    | nil => simp at hne
    | cons a r => rfl
  have cx : w.cell? ⟨g, 0, none⟩ = some (.string ⟨x0.toArray⟩) := by rw [hx0]; exact HC.out w (Below.refl _ _) 0 hne
  have HCO : Hid (∀ V, Below w.heap.size w V → Calls Tryz.prog 88 #[.string ⟨x0.toArray⟩] V fun e w' => e = .returned (.int .i64 (Stil.codeOf x0)) ∧ w' = V) := fun V h => i_listCode x0 V (henv.below h).2.2.1
  have hcc : -1 ≤ Stil.codeOf x0 ∧ Stil.codeOf x0 ≤ 11 := by unfold Stil.codeOf; (repeat' split) <;> omega
  obtain ⟨C, hC⟩ : ∃ C, C = Stil.codeOf x0 := ⟨_, rfl⟩
  rw [← hC] at HIO HCO hcc
  have HIM : Hid (Stil.implOk ws = (Stil.lineText (Stil.instOf ws) == Stil.joinSp ws)) := rfl
  obtain ⟨J, hJ⟩ : ∃ J, J = Stil.joinSp ws := ⟨_, rfl⟩
  rw [← hJ] at HJ0 HIM hj
  clear hJ hC hx0 hat henv
  go_enter Tryz.func66, Tryz.ntmps66
  go_upto_region 2 with (go_at_call 88; refine (HCO.out _ (by (repeat (first | with_reducible exact Below.refl _ _ | with_reducible assumption | with_reducible refine bl_set (by first | exact Nat.le_refl _ | (simp; done) | (simp; omega) | omega) ?_ _ | with_reducible refine bl_alloc ?_ _ | with_reducible refine bl_drewN ?_ _ | with_reducible refine bl_drew ?_ | with_reducible refine bl_grow ?_ _ _ | with_reducible refine bl_call ?_ (by assumption))))).mono ?_; rintro e w1 ⟨rfl, hw1⟩; rw [hw1]; clear hw1 w1)
  obtain ⟨W1, hW1⟩ : ∃ W1, W1 = (w.alloc (Obj.cells #[Value.int IntKind.i64 0, Value.int IntKind.i64 0, Value.slice none 0 0] 31)).alloc (Obj.cells #[Value.int IntKind.i64 C, Value.int IntKind.i64 0, Value.slice none 0 0] 31) := ⟨_, rfl⟩
  have hs1 : W1.heap.size = w.heap.size + 1 + 1 := by rw [hW1]; simp
  have hbw1 : Below w.heap.size w W1 := by rw [hW1]; (repeat (first | with_reducible exact Below.refl _ _ | with_reducible assumption | with_reducible refine bl_set (by first | exact Nat.le_refl _ | (simp; done) | (simp; omega) | omega) ?_ _ | with_reducible refine bl_alloc ?_ _ | with_reducible refine bl_drewN ?_ _ | with_reducible refine bl_drew ?_ | with_reducible refine bl_grow ?_ _ _ | with_reducible refine bl_call ?_ (by assumption)))
  have HAL : Hid (∀ V, Below W1.heap.size W1 V → (V.cell? ⟨w.heap.size, 0, none⟩ = some (.int .i64 0) ∧ V.cell? ⟨w.heap.size, 1, none⟩ = some (.int .i64 0) ∧ V.cell? ⟨w.heap.size, 2, none⟩ = some (.slice none 0 0)) ∧ (V.frozen? ⟨w.heap.size, 0, none⟩ = false ∧ V.frozen? ⟨w.heap.size, 1, none⟩ = false ∧ V.frozen? ⟨w.heap.size, 2, none⟩ = false) ∧ (V.cell? ⟨w.heap.size + 1, 0, none⟩ = some (.int .i64 C) ∧ V.cell? ⟨w.heap.size + 1, 1, none⟩ = some (.int .i64 0) ∧ V.cell? ⟨w.heap.size + 1, 2, none⟩ = some (.slice none 0 0)) ∧ V.frozen? ⟨w.heap.size + 1, 1, none⟩ = false ∧ V.frozen? ⟨w.heap.size + 1, 2, none⟩ = false) := fun V h => by
    have y : ∀ b o v, W1.cell? ⟨b, o, none⟩ = some v → V.cell? ⟨b, o, none⟩ = some v := fun b o v e => (h.cell (World.block_lt_of_cell? _ _ e)).trans e
    have z : ∀ b o v, W1.cell? ⟨b, o, none⟩ = some v → W1.frozen? ⟨b, o, none⟩ = false → V.frozen? ⟨b, o, none⟩ = false := fun b o v e q => (h.frozen (World.block_lt_of_cell? _ _ e)).trans q
    refine ⟨⟨y _ _ _ ?_, y _ _ _ ?_, y _ _ _ ?_⟩, ⟨z _ _ (.int .i64 0) ?_ ?_, z _ _ (.int .i64 0) ?_ ?_, z _ _ (.slice none 0 0) ?_ ?_⟩, ⟨y _ _ _ ?_, y _ _ _ ?_, y _ _ _ ?_⟩, z _ _ (.int .i64 0) ?_ ?_, z _ _ (.slice none 0 0) ?_ ?_⟩ <;> (rw [hW1]; simp [go_sem])
  rw [← hW1]
  clear hW1
  obtain ⟨⟨c0, c1, c2⟩, ⟨f0, f1, f2⟩, ⟨b0, b1, b2⟩, g1, g2⟩ := HAL.out W1 (Below.refl _ _)
  by_cases hl1 : ws.length = 1
  · obtain ⟨x, rfl⟩ : ∃ x, ws = [x] := one_of hl1
    have HI2 : Hid (Stil.instOf [x] = ⟨C, ⟨0, []⟩⟩) := inst_one HIO.out
    have HAM := HAL
    have HLL : Hid (∀ V, Below W1.heap.size W1 V → Calls Tryz.prog 17 #[.agg #[.int .i64 C, .int .i64 0, .slice none 0 0]] V fun e w' => e = .returned (.string ⟨(Stil.lineText ⟨C, ⟨0, []⟩⟩).toArray⟩) ∧ Below V.heap.size V w') := fun V h => by
      have he := HEN.out V (hbw1.trans (h.mono hbw1.size))
      exact i_listLine ⟨C, ⟨0, []⟩⟩ (.slice none 0 0) V he.1 he.2.1 he.2.2.1 he.2.2.2.1 ⟨none, 0, rfl, fun i hi => absurd hi (by simp)⟩ ⟨⟨by have := hcc; simp only; omega, by have := hcc; simp only; omega⟩, ⟨by show (-9223372036854775808 : Int) ≤ 0; decide, by show (0 : Int) ≤ 9223372036854775807; decide⟩, by simp, by simp⟩
    have HJN : Hid (∀ V, Below W1.heap.size W1 V → Calls Tryz.prog 90 #[.slice (some ⟨g, 0, none⟩) 1 cap, .string ⟨#[32]⟩] V fun e w' => e = .returned (.string ⟨J.toArray⟩) ∧ Below V.heap.size V w') := fun V h => HJ0.out V (hbw1.trans (h.mono hbw1.size))
    obtain ⟨T, hT⟩ : ∃ T, T = Stil.lineText ⟨C, ⟨0, []⟩⟩ := ⟨_, rfl⟩
    have HFN : Hid (∀ V, Below w.heap.size w V → ReadInst [x] (.returned (.tuple #[.agg #[.int .i64 C, .int .i64 0, .slice none 0 0], .bool (T == J)])) w V) := fun V h => by
      refine ⟨.slice none 0 0, ?_, ?_, h⟩
      · rw [HIM.out, HI2.out, hT]
      · rw [HI2.out]; exact World.ownsRow_nil _ _ _ _
    rw [← hT] at HLL
    clear hT HEN HJ0 HIO HC hn hl hj hne hl1 HCO hcc HIM HAL
    go_upto_region 4 with fail
    go_region_with (first | (go_at_call 17; refine (HLL.out _ (by (repeat (first | with_reducible exact Below.refl _ _ | with_reducible assumption | with_reducible refine bl_set (by first | exact Nat.le_refl _ | (simp; done) | (simp; omega) | omega) ?_ _ | with_reducible refine bl_alloc ?_ _ | with_reducible refine bl_drewN ?_ _ | with_reducible refine bl_drew ?_ | with_reducible refine bl_grow ?_ _ _ | with_reducible refine bl_call ?_ (by assumption))))).mono ?_; rintro e w7 ⟨rfl, hb7⟩; clear c0 c1 c2 f0 f1 f2 b0 b1 b2; obtain ⟨⟨c0, c1, c2⟩, ⟨f0, f1, f2⟩, ⟨b0, b1, b2⟩, _⟩ := HAM.out w7 (by (repeat (first | with_reducible exact Below.refl _ _ | with_reducible assumption | with_reducible refine bl_set (by first | exact Nat.le_refl _ | (simp; done) | (simp; omega) | omega) ?_ _ | with_reducible refine bl_alloc ?_ _ | with_reducible refine bl_drewN ?_ _ | with_reducible refine bl_drew ?_ | with_reducible refine bl_grow ?_ _ _ | with_reducible refine bl_call ?_ (by assumption))))) | (go_at_call 90; refine (HJN.out _ (by (repeat (first | with_reducible exact Below.refl _ _ | with_reducible assumption | with_reducible refine bl_set (by first | exact Nat.le_refl _ | (simp; done) | (simp; omega) | omega) ?_ _ | with_reducible refine bl_alloc ?_ _ | with_reducible refine bl_drewN ?_ _ | with_reducible refine bl_drew ?_ | with_reducible refine bl_grow ?_ _ _ | with_reducible refine bl_call ?_ (by assumption))))).mono ?_; rintro e w8 ⟨rfl, hb8⟩; clear c0 c1 c2 f0 f1 f2 b0 b1 b2; obtain ⟨⟨c0, c1, c2⟩, ⟨f0, f1, f2⟩, ⟨b0, b1, b2⟩, _⟩ := HAM.out w8 (by (repeat (first | with_reducible exact Below.refl _ _ | with_reducible assumption | with_reducible refine bl_set (by first | exact Nat.le_refl _ | (simp; done) | (simp; omega) | omega) ?_ _ | with_reducible refine bl_alloc ?_ _ | with_reducible refine bl_drewN ?_ _ | with_reducible refine bl_drew ?_ | with_reducible refine bl_grow ?_ _ _ | with_reducible refine bl_call ?_ (by assumption))))))
    all_goals
      go_wp2
      refine bodyPost_ret (v := .tuple #[.agg #[.int .i64 C, .int .i64 0, .slice none 0 0], .bool (T == J)]) (by simp [results, Tryz.results66, go_sem, cell_set_at c0, (cell_set_off (by omega : (1 : Nat) ≠ 0)).trans c1, c2]) rfl ?_
      exact HFN.out _ (by (repeat (first | with_reducible exact Below.refl _ _ | with_reducible assumption | with_reducible refine bl_set (by first | exact Nat.le_refl _ | (simp; done) | (simp; omega) | omega) ?_ _ | with_reducible refine bl_alloc ?_ _ | with_reducible refine bl_drewN ?_ _ | with_reducible refine bl_drew ?_ | with_reducible refine bl_grow ?_ _ _ | with_reducible refine bl_call ?_ (by assumption))))
  · obtain ⟨x, y, r, rfl⟩ : ∃ x y r, ws = x :: y :: r := two_of hne hl1
    have cy : W1.cell? ⟨g, 1, none⟩ = some (.string ⟨y.toArray⟩) := HC.out W1 hbw1 1 (by simp)
    have HI2 : Hid (Stil.instOf (x :: y :: r) = ⟨C, Stil.elemRead y⟩) := inst_two HIO.out
    have HER : Hid (∀ V, Below W1.heap.size W1 V → Calls Tryz.prog 89 #[.string ⟨y.toArray⟩] V fun e w' => ∃ v, e = .returned (.tuple #[.agg #[.int .i64 (Stil.elemRead y).op, v], .bool (Stil.elemReadB y)]) ∧ w'.ownsRow V.heap.size 74 3 v (Stil.elemRead y).args.length (devsCells (Stil.elemRead y).args) ∧ Below V.heap.size V w') := fun V h => by
      have he := HEN.out V (hbw1.trans (h.mono hbw1.size))
      exact i_elemRead y V he.1 he.2.1 he.2.2.2.1 he.2.2.2.2.1 he.2.2.2.2.2 (by have := hl y (by simp); omega)
    have HFT : Hid (Stil.Inst.fits ⟨C, Stil.elemRead y⟩) := ⟨⟨by have := hcc; simp only; omega, by have := hcc; simp only; omega⟩, elemRead_fits y⟩
    obtain ⟨E, hE⟩ : ∃ E, E = Stil.elemRead y := ⟨_, rfl⟩
    obtain ⟨kb, hkb⟩ : ∃ E, E = Stil.elemReadB y := ⟨_, rfl⟩
    rw [← hE] at HI2 HER HFT
    rw [← hkb] at HER
    obtain ⟨lr, hlr⟩ : ∃ n, n = r.length := ⟨_, rfl⟩
    have HLR : Hid (lr = r.length) := hlr
    have hlr2 : lr ≤ 1000000 := by simp at hn; omega
    simp only [List.length_cons] at HJ0 ⊢
    rw [← hlr] at HJ0 ⊢
    clear hE hkb HC hl hn hne hl1 hcc HIO HCO hj hlr
    have hgt : (1 : Int) < ((lr + 1 + 1 : Nat) : Int) := by omega
    go_upto_region 4 with (go_at_call 89; refine (HER.out _ (by (repeat (first | with_reducible exact Below.refl _ _ | with_reducible assumption | with_reducible refine bl_set (by first | exact Nat.le_refl _ | (simp; done) | (simp; omega) | omega) ?_ _ | with_reducible refine bl_alloc ?_ _ | with_reducible refine bl_drewN ?_ _ | with_reducible refine bl_drew ?_ | with_reducible refine bl_grow ?_ _ _ | with_reducible refine bl_call ?_ (by assumption))))).mono ?_; rintro e w3 ⟨v, rfl, hown, hb3⟩; obtain ⟨ea, ec, hev, _⟩ := own_open hown; subst hev; clear c0 c1 c2 f0 f1 f2 b0 b1 b2 g1 g2; obtain ⟨⟨c0, c1, c2⟩, ⟨f0, f1, f2⟩, ⟨b0, b1, b2⟩, g1, g2⟩ := HAL.out w3 (by (repeat (first | with_reducible exact Below.refl _ _ | with_reducible assumption | with_reducible refine bl_set (by first | exact Nat.le_refl _ | (simp; done) | (simp; omega) | omega) ?_ _ | with_reducible refine bl_alloc ?_ _ | with_reducible refine bl_drewN ?_ _ | with_reducible refine bl_drew ?_ | with_reducible refine bl_grow ?_ _ _ | with_reducible refine bl_call ?_ (by assumption)))))
    have hb13 : Below W1.heap.size W1 w3 := by (repeat (first | with_reducible exact Below.refl _ _ | with_reducible assumption | with_reducible refine bl_set (by first | exact Nat.le_refl _ | (simp; done) | (simp; omega) | omega) ?_ _ | with_reducible refine bl_alloc ?_ _ | with_reducible refine bl_drewN ?_ _ | with_reducible refine bl_drew ?_ | with_reducible refine bl_grow ?_ _ _ | with_reducible refine bl_call ?_ (by assumption)))
    have hs13 := hb13.size
    have hbw3 : Below w.heap.size w w3 := hbw1.trans (hb13.mono hbw1.size)
    have hzr : w.heap.size + 1 < W1.heap.size := by omega
    have hzw : w.heap.size < W1.heap.size := by omega
    obtain ⟨W5, hW5⟩ : ∃ W5, W5 = (w3.setCell ⟨w.heap.size + 1, 1, none⟩ (.int .i64 E.op)).setCell ⟨w.heap.size + 1, 2, none⟩ (.slice ea E.args.length ec) := ⟨_, rfl⟩
    have hs5 : W5.heap.size = w3.heap.size := by rw [hW5]; simp
    have HO5 : Hid (W5.ownsRow W1.heap.size 74 3 (.slice ea E.args.length ec) E.args.length (devsCells E.args)) := by show World.ownsRow _ _ _ _ _ _ _; rw [hW5]; exact ownsRow_setCell_below (ownsRow_setCell_below hown hzr _) hzr _
    have hbw5 : Below w.heap.size w W5 := by rw [hW5]; exact bl_set (by simp) (bl_set (by simp) hbw3 _) _
    have HAM : Hid (∀ V, Below W5.heap.size W5 V → (V.cell? ⟨w.heap.size, 0, none⟩ = some (.int .i64 0) ∧ V.cell? ⟨w.heap.size, 1, none⟩ = some (.int .i64 0) ∧ V.cell? ⟨w.heap.size, 2, none⟩ = some (.slice none 0 0)) ∧ (V.frozen? ⟨w.heap.size, 0, none⟩ = false ∧ V.frozen? ⟨w.heap.size, 1, none⟩ = false ∧ V.frozen? ⟨w.heap.size, 2, none⟩ = false) ∧ (V.cell? ⟨w.heap.size + 1, 0, none⟩ = some (.int .i64 C) ∧ V.cell? ⟨w.heap.size + 1, 1, none⟩ = some (.int .i64 E.op) ∧ V.cell? ⟨w.heap.size + 1, 2, none⟩ = some (.slice ea E.args.length ec)) ∧ V.frozen? ⟨w.heap.size + 1, 1, none⟩ = false ∧ V.frozen? ⟨w.heap.size + 1, 2, none⟩ = false) := fun V h => by
      have y0 : W5.cell? ⟨w.heap.size, 0, none⟩ = some (.int .i64 0) := by rw [hW5]; exact (cell_set_other (by omega)).trans ((cell_set_other (by omega)).trans c0)
      have y1 : W5.cell? ⟨w.heap.size, 1, none⟩ = some (.int .i64 0) := by rw [hW5]; exact (cell_set_other (by omega)).trans ((cell_set_other (by omega)).trans c1)
      have y2 : W5.cell? ⟨w.heap.size, 2, none⟩ = some (.slice none 0 0) := by rw [hW5]; exact (cell_set_other (by omega)).trans ((cell_set_other (by omega)).trans c2)
      have x0 : W5.cell? ⟨w.heap.size + 1, 0, none⟩ = some (.int .i64 C) := by rw [hW5]; exact (cell_set_off (by omega)).trans ((cell_set_off (by omega)).trans b0)
      have x1 : W5.cell? ⟨w.heap.size + 1, 1, none⟩ = some (.int .i64 E.op) := by rw [hW5]; exact (cell_set_off (by omega)).trans (cell_set_at b1)
      have x2 : W5.cell? ⟨w.heap.size + 1, 2, none⟩ = some (.slice ea E.args.length ec) := by rw [hW5]; exact cell_set_at ((cell_set_off (by omega)).trans b2)
      have q0 : ∀ b o, W5.frozen? ⟨b, o, none⟩ = w3.frozen? ⟨b, o, none⟩ := fun b o => by rw [hW5]; exact frozen_set.trans frozen_set
      have y : ∀ b o v, W5.cell? ⟨b, o, none⟩ = some v → V.cell? ⟨b, o, none⟩ = some v := fun b o v e => (h.cell (World.block_lt_of_cell? _ _ e)).trans e
      have z : ∀ b o v, W5.cell? ⟨b, o, none⟩ = some v → w3.frozen? ⟨b, o, none⟩ = false → V.frozen? ⟨b, o, none⟩ = false := fun b o v e q => (h.frozen (World.block_lt_of_cell? _ _ e)).trans ((q0 b o).trans q)
      exact ⟨⟨y _ _ _ y0, y _ _ _ y1, y _ _ _ y2⟩, ⟨z _ _ _ y0 f0, z _ _ _ y1 f1, z _ _ _ y2 f2⟩, ⟨y _ _ _ x0, y _ _ _ x1, y _ _ _ x2⟩, z _ _ _ x1 g1, z _ _ _ x2 g2⟩
    have HLL : Hid (∀ V, Below W5.heap.size W5 V → Calls Tryz.prog 17 #[.agg #[.int .i64 C, .int .i64 E.op, .slice ea E.args.length ec]] V fun e w' => e = .returned (.string ⟨(Stil.lineText ⟨C, E⟩).toArray⟩) ∧ Below V.heap.size V w') := fun V h => by
      have he := HEN.out V (hbw5.trans (h.mono hbw5.size))
      exact i_listLine ⟨C, E⟩ _ V he.1 he.2.1 he.2.2.1 he.2.2.2.1 (DevsAt.of_owns (ownsRow_below HO5.out h)) HFT.out
    have HJN : Hid (∀ V, Below W5.heap.size W5 V → Calls Tryz.prog 90 #[.slice (some ⟨g, 0, none⟩) (lr + 1 + 1) cap, .string ⟨#[32]⟩] V fun e w' => e = .returned (.string ⟨J.toArray⟩) ∧ Below V.heap.size V w') := fun V h => HJ0.out V (hbw5.trans (h.mono hbw5.size))
    obtain ⟨T, hT⟩ : ∃ T, T = Stil.lineText ⟨C, E⟩ := ⟨_, rfl⟩
    have HFN : Hid (∀ V, (∃ V0 u0 u1 u2, Below W5.heap.size W5 V0 ∧ V = ((V0.setCell ⟨w.heap.size, 0, none⟩ u0).setCell ⟨w.heap.size, 1, none⟩ u1).setCell ⟨w.heap.size, 2, none⟩ u2) → ReadInst (x :: y :: r) (.returned (.tuple #[.agg #[.int .i64 C, .int .i64 E.op, .slice ea E.args.length ec], .bool (T == J)])) w V) := by
      rintro V ⟨V0, u0, u1, u2, h, rfl⟩
      refine ⟨.slice ea E.args.length ec, ?_, ?_, bl_set (by simp) (bl_set (by simp) (bl_set (by simp) (hbw5.trans (h.mono hbw5.size)) _) _) _⟩
      · rw [HIM.out, HI2.out, hT]
      · rw [HI2.out]
        exact Joins.ownsRow_le (ownsRow_setCell_below (ownsRow_setCell_below (ownsRow_setCell_below (ownsRow_below HO5.out h) hzw _) hzw _) hzw _) (Nat.le_of_lt hzw)
    rw [← hT] at HLL
    rw [← hW5]
    clear hT HEN HJ0 HIM hW5 HAL HER HFT hown cy c0 c1 c2 f0 f1 f2 b0 b1 b2 g1 g2 hb3 hbw3
    obtain ⟨⟨c0, c1, c2⟩, ⟨f0, f1, f2⟩, ⟨b0, b1, b2⟩, _⟩ := HAM.out W5 (Below.refl _ _)
    go_region_with (first | (go_at_call 17; refine (HLL.out _ (by (repeat (first | with_reducible exact Below.refl _ _ | with_reducible assumption | with_reducible refine bl_set (by first | exact Nat.le_refl _ | (simp; done) | (simp; omega) | omega) ?_ _ | with_reducible refine bl_alloc ?_ _ | with_reducible refine bl_drewN ?_ _ | with_reducible refine bl_drew ?_ | with_reducible refine bl_grow ?_ _ _ | with_reducible refine bl_call ?_ (by assumption))))).mono ?_; rintro e w7 ⟨rfl, hb7⟩; clear c0 c1 c2 f0 f1 f2 b0 b1 b2; obtain ⟨⟨c0, c1, c2⟩, ⟨f0, f1, f2⟩, ⟨b0, b1, b2⟩, _⟩ := HAM.out w7 (by (repeat (first | with_reducible exact Below.refl _ _ | with_reducible assumption | with_reducible refine bl_set (by first | exact Nat.le_refl _ | (simp; done) | (simp; omega) | omega) ?_ _ | with_reducible refine bl_alloc ?_ _ | with_reducible refine bl_drewN ?_ _ | with_reducible refine bl_drew ?_ | with_reducible refine bl_grow ?_ _ _ | with_reducible refine bl_call ?_ (by assumption))))) | (go_at_call 90; refine (HJN.out _ (by (repeat (first | with_reducible exact Below.refl _ _ | with_reducible assumption | with_reducible refine bl_set (by first | exact Nat.le_refl _ | (simp; done) | (simp; omega) | omega) ?_ _ | with_reducible refine bl_alloc ?_ _ | with_reducible refine bl_drewN ?_ _ | with_reducible refine bl_drew ?_ | with_reducible refine bl_grow ?_ _ _ | with_reducible refine bl_call ?_ (by assumption))))).mono ?_; rintro e w8 ⟨rfl, hb8⟩; clear c0 c1 c2 f0 f1 f2 b0 b1 b2; obtain ⟨⟨c0, c1, c2⟩, ⟨f0, f1, f2⟩, ⟨b0, b1, b2⟩, _⟩ := HAM.out w8 (by (repeat (first | with_reducible exact Below.refl _ _ | with_reducible assumption | with_reducible refine bl_set (by first | exact Nat.le_refl _ | (simp; done) | (simp; omega) | omega) ?_ _ | with_reducible refine bl_alloc ?_ _ | with_reducible refine bl_drewN ?_ _ | with_reducible refine bl_drew ?_ | with_reducible refine bl_grow ?_ _ _ | with_reducible refine bl_call ?_ (by assumption))))))
    all_goals
      go_wp2
      refine bodyPost_ret (v := .tuple #[.agg #[.int .i64 C, .int .i64 E.op, .slice ea E.args.length ec], .bool (T == J)]) (by simp [results, Tryz.results66, go_sem, cell_set_at c0, (cell_set_off (by omega : (1 : Nat) ≠ 0)).trans c1, c2]) rfl ?_
      exact HFN.out _ ⟨_, _, _, _, by (repeat (first | with_reducible exact Below.refl _ _ | with_reducible assumption | with_reducible refine bl_set (by first | exact Nat.le_refl _ | (simp; done) | (simp; omega) | omega) ?_ _ | with_reducible refine bl_alloc ?_ _ | with_reducible refine bl_drewN ?_ _ | with_reducible refine bl_drew ?_ | with_reducible refine bl_grow ?_ _ _ | with_reducible refine bl_call ?_ (by assumption))), rfl⟩
end Go.Proofs.YtipdjmbgbehkaaaGreatDoor
