/- Contracts of the specification's chapter 5: ListParse. -/
import Derived.Test.YtipdjmbgbehkaaaGreatDoorS13
import Derived.Test.YtipdjmbgbehkaaaGreatDoorGj
import Derived.Test.YtipdjmbgbehkaaaGreatDoorHq
import Derived.Maps.AppendAt
namespace Stil
theorem parse_step {ls : List (List UInt8)} {k : Nat} (cs : List Inst) (h : k < ls.length) : parseFrom k cs (ls.drop k) = if wordsOf ls[k] = [] then parseFrom (k + 1) cs (ls.drop (k + 1)) else if specOk (wordsOf ls[k]) = false then ([], k + 1, 2) else if cs.length = 1000 then ([], k + 1, 3) else parseFrom (k + 1) (cs ++ [instOf (wordsOf ls[k])]) (ls.drop (k + 1)) := by
  rw [List.drop_eq_getElem_cons h]; rfl
theorem parse_end {ls : List (List UInt8)} {k : Nat} (cs : List Inst) (h : ls.length ≤ k) : parseFrom k cs (ls.drop k) = (cs, 0, 0) := by
  rw [List.drop_of_length_le h]; rfl
end Stil
namespace Go.Proofs.YtipdjmbgbehkaaaGreatDoor
open Go.RowKit Go.Sort Go.BigFrame
theorem Built.le {w : World} {lo hi : Nat} {sv rv : Value} {us : List Value} {cs : List Stil.Inst} {fin : List Rg} (h : Built w hi sv rv us cs fin) (hl : lo ≤ hi) : Built w lo sv rv us cs fin := by
  obtain ⟨⟨h1, h2, h3⟩, h4, h5, h6⟩ := h
  exact ⟨⟨h1, Joins.ownsRow_le h2 hl, fun i a b => Joins.ownsRow_le (h3 i a b) hl⟩, fun f hf => ⟨(h4 f hf).1, Joins.ownsRow_le (h4 f hf).2.1 hl, fun i a b => Joins.ownsRow_le ((h4 f hf).2.2 i a b) hl⟩, Joins.ownsRow_le h5 hl, h6⟩
theorem Built.store {w : World} {base b o : Nat} {sv rv : Value} {us : List Value} {cs : List Stil.Inst} {fin : List Rg} (h : Built w base sv rv us cs fin) (hb : b < base) (v : Value) : Built (w.setCell ⟨b, o, none⟩ v) base sv rv us cs fin := by
  obtain ⟨⟨h1, h2, h3⟩, h4, h5, h6⟩ := h
  exact ⟨⟨h1, ownsRow_setCell_below h2 hb _, fun i x y => ownsRow_setCell_below (h3 i x y) hb _⟩, fun f hf => ⟨(h4 f hf).1, ownsRow_setCell_below (h4 f hf).2.1 hb _, fun i x y => ownsRow_setCell_below ((h4 f hf).2.2 i x y) hb _⟩, ownsRow_setCell_below h5 hb _, h6⟩
theorem built_nil (w : World) (base : Nat) : Built w base (.slice none 0 0) (.slice none 0 0) [] [] [] := by
  refine ⟨⟨rfl, World.ownsRow_nil _ _ _ _, fun i hi => absurd hi (by simp)⟩, (fun f hf => by cases hf), World.ownsRow_nil _ _ _ _, ?_⟩
  simp [Apart]
  first | exact .inl rfl | rfl
theorem built_row {w : World} {base : Nat} {rv : Value} (h : w.ownsRow base 31 3 rv 0 []) : Built w base (.slice none 0 0) rv [] [] [] := by
  refine ⟨⟨rfl, h, fun i hi => absurd hi (by simp)⟩, (fun f hf => by cases hf), World.ownsRow_nil _ _ _ _, ?_⟩
  simp [Apart]
  first | exact .inl rfl | rfl
/-- What a reading of a text leaves. -/
def ParseOut (R : List Stil.Inst × Int × Int) (e : Ending) (w w' : World) : Prop := ∃ (rv : Value) (us : List Value), e = .returned (.tuple #[rv, .agg #[.int .i64 R.2.1, .int .i64 R.2.2]]) ∧ Built w' w.heap.size (.slice none 0 0) rv us R.1 [] ∧ Below w.heap.size w w'
theorem s_line_ok (ws : List (List UInt8)) (g cap : Nat) (w : World) (hok : Stil.specOk ws = true) (hne : 0 < ws.length) (hn : ws.length ≤ 1000000) (hl : ∀ x ∈ ws, x.length ≤ 1000000) (hg : g < w.heap.size) (hc : ∀ k (h : k < ws.length), w.cell? ⟨g, k, none⟩ = some (.string ⟨ws[k].toArray⟩)) :
    Calls Tryz.prog 41 #[.slice (some ⟨g, 0, none⟩) ws.length cap] w fun e w' => ∃ v, e = .returned (.tuple #[.agg #[.int .i64 (Stil.instOf ws).code, .int .i64 (Stil.instOf ws).one.op, v], .bool true]) ∧ w'.ownsRow w.heap.size 74 3 v (Stil.instOf ws).one.args.length (devsCells (Stil.instOf ws).one.args) ∧ Below w.heap.size w w' := by
  refine (s_l5Line ws g cap w hne hn hl hg hc).mono ?_
  rintro e w' (⟨v, h1, _, h2, h3⟩ | ⟨_, _, _, _, _, _, h, _⟩)
  · exact ⟨v, h1, h2, h3⟩
  · rw [hok] at h; cases h
theorem s_line_no (ws : List (List UInt8)) (g cap : Nat) (w : World) (hok : Stil.specOk ws = false) (hne : 0 < ws.length) (hn : ws.length ≤ 1000000) (hl : ∀ x ∈ ws, x.length ≤ 1000000) (hg : g < w.heap.size) (hc : ∀ k (h : k < ws.length), w.cell? ⟨g, k, none⟩ = some (.string ⟨ws[k].toArray⟩)) :
    Calls Tryz.prog 41 #[.slice (some ⟨g, 0, none⟩) ws.length cap] w fun e w' => ∃ (a b : Int) (p : Option Addr) (n c : Nat), e = .returned (.tuple #[.agg #[.int .i64 a, .int .i64 b, .slice p n c], .bool false]) ∧ Below w.heap.size w w' := by
  refine (s_l5Line ws g cap w hne hn hl hg hc).mono ?_
  rintro e w' (⟨v, _, h, _⟩ | ⟨a, b, p, n, c, h1, _, h2⟩)
  · rw [hok] at h; cases h
  · exact ⟨a, b, p, n, c, h1, h2⟩
set_option maxHeartbeats 4000000 in
set_option maxRecDepth 100000 in
theorem s_listParse (l : List UInt8) (w : World) (hs : l.length ≤ 1048576) :
    Calls Tryz.prog 14 #[.string ⟨l.toArray⟩] w fun e w' => ParseOut (Stil.listParse l) e w w' := by
  have hsz : (⟨l.toArray⟩ : ByteArray).size = l.length := rfl
  by_cases hlong : 50000 < l.length
  · have HR : Hid (Stil.listParse l = ([], 0, 1)) := by show _ = _; unfold Stil.listParse; rw [if_pos hlong]
    go_enter Tryz.func14, Tryz.ntmps14
    go_wp2
    refine bodyPost_ret (v := .tuple #[.slice none 0 0, .agg #[.int .i64 0, .int .i64 1]]) (by simp [results, Tryz.results14, go_sem]) rfl ⟨.slice none 0 0, [], by rw [HR.out], by rw [HR.out]; exact built_nil _ _, by (repeat (first | with_reducible exact Below.refl _ _ | with_reducible assumption | with_reducible refine bl_set (by first | exact Nat.le_refl _ | (simp; done) | (simp; omega) | omega) ?_ _ | with_reducible refine bl_alloc ?_ _ | with_reducible refine bl_drewN ?_ _ | with_reducible refine bl_drew ?_ | with_reducible refine bl_grow ?_ _ _ | with_reducible refine bl_call ?_ (by assumption)))⟩
  have HR : Hid (Stil.listParse l = Stil.parseFrom 0 [] (Stil.cut 10 l)) := by show _ = _; unfold Stil.listParse; rw [if_neg hlong]
  have HCU : Hid (∀ W, Calls Tryz.prog 39 #[.string ⟨l.toArray⟩, .int .u8 10] W fun e w' => ∃ v, e = .returned v ∧ w'.ownsRow W.heap.size 9 1 v (Stil.cut 10 l).length ((Stil.cut 10 l).map strV) ∧ Below W.heap.size W w') := fun W => s_cut l 10 W (by omega)
  have hcn := cut_ne 10 l
  have hcl := piece_count 10 l
  have HPL : Hid (∀ x ∈ Stil.cut 10 l, x.length ≤ 50000) := fun x hx => by have := cut_len 10 l x hx; omega
  obtain ⟨ls, hls⟩ : ∃ ls, ls = Stil.cut 10 l := ⟨_, rfl⟩
  obtain ⟨R, hR⟩ : ∃ R, R = Stil.listParse l := ⟨_, rfl⟩
  rw [← hls] at HR HCU hcn hcl HPL
  rw [← hR] at HR ⊢
  clear hls hR
  obtain ⟨i0, hi, hz0, hz1, hz2⟩ := info_parts info_Inst
  have hnl : ¬ (50000 : Int) < (l.length : Int) := by omega
  go_enter Tryz.func14, Tryz.ntmps14
  go_upto_region 4 with (go_at_call 39; refine (HCU.out _).mono ?_; rintro e w1 ⟨pv, rfl, hown1, hb1⟩; obtain ⟨g, cap, rfl, hg1, hg2, hcap, hcell⟩ := ownsRow_cells hown1 hcn)
  have HCL : Hid (∀ W, Below w1.heap.size w1 W → ∀ k (h : k < ls.length), W.cell? ⟨g, k, none⟩ = some (.string ⟨ls[k].toArray⟩)) := fun W h k hk => by
    rw [h.cell (p := ⟨g, k, none⟩) hg2]
    exact hcell k _ (by rw [List.getElem?_map, List.getElem?_eq_getElem hk]; rfl)
  have hB1 : Below w.heap.size w w1 := by (repeat (first | with_reducible exact Below.refl _ _ | with_reducible assumption | with_reducible refine bl_set (by first | exact Nat.le_refl _ | (simp; done) | (simp; omega) | omega) ?_ _ | with_reducible refine bl_alloc ?_ _ | with_reducible refine bl_drewN ?_ _ | with_reducible refine bl_drew ?_ | with_reducible refine bl_grow ?_ _ _ | with_reducible refine bl_call ?_ (by assumption)))
  have hz1w : w.heap.size < w1.heap.size := Nat.lt_of_lt_of_le (by simp) hb1.size
  have HRS : Hid (∀ W, Below w1.heap.size w1 W → (W.cell? ⟨w.heap.size, 0, none⟩ = some (.int .i64 0) ∧ W.cell? ⟨w.heap.size, 1, none⟩ = some (.int .i64 0)) ∧ W.frozen? ⟨w.heap.size, 0, none⟩ = false ∧ W.frozen? ⟨w.heap.size, 1, none⟩ = false) := fun W h => by
    refine ⟨⟨?_, ?_⟩, ?_, ?_⟩
    · rw [h.cell (p := ⟨w.heap.size, 0, none⟩) hz1w, hb1.cell (p := ⟨w.heap.size, 0, none⟩) (by simp)]; simp [go_sem]
    · rw [h.cell (p := ⟨w.heap.size, 1, none⟩) hz1w, hb1.cell (p := ⟨w.heap.size, 1, none⟩) (by simp)]; simp [go_sem]
    · rw [h.frozen (p := ⟨w.heap.size, 0, none⟩) hz1w, hb1.frozen (p := ⟨w.heap.size, 0, none⟩) (by simp)]; simp [go_sem]
    · rw [h.frozen (p := ⟨w.heap.size, 1, none⟩) hz1w, hb1.frozen (p := ⟨w.heap.size, 1, none⟩) (by simp)]; simp [go_sem]
  have HFT : Hid (∀ W n c, Below w1.heap.size w1 W → R = ([], n, c) → ParseOut R (.returned (.tuple #[.slice none 0 0, .agg #[.int .i64 n, .int .i64 c]])) w ((W.setCell ⟨w.heap.size, 0, none⟩ (.int .i64 n)).setCell ⟨w.heap.size, 1, none⟩ (.int .i64 c))) := fun W n c h e => ⟨.slice none 0 0, [], by rw [e], by rw [e]; exact built_nil _ _, bl_set (by simp) (bl_set (by simp) (hB1.trans (h.mono hB1.size)) _) _⟩
  clear hown1 hcell hb1 HCU
  obtain ⟨nl, hnl2⟩ : ∃ n, n = ls.length := ⟨_, rfl⟩
  have HNL : Hid (nl = ls.length) := hnl2
  rw [← hnl2] at hcn hcl ⊢
  clear hnl2
  go_wp2
  go_loopw [5, 6] (fun v i wr => ∃ (k : Nat) (us : List Value) (cs : List Stil.Inst) (a : Option Addr) (c : Nat), k ≤ nl ∧ i = .int .i64 (k : Int) ∧ v = .slice a cs.length c ∧ cs.length ≤ k ∧ cs.length ≤ 1000 ∧ Built wr w1.heap.size (.slice none 0 0) (.slice a cs.length c) us cs [] ∧ R = Stil.parseFrom k cs (ls.drop k) ∧ Below w1.heap.size w1 wr) (fun _ i _ => nl - (intOf i).toNat)
  case atStart =>
    refine ⟨0, [], [], some ⟨w1.heap.size, 0, none⟩, 0, Nat.zero_le _, rfl, rfl, Nat.le_refl _, by simp, built_row ?_, HR.out, below_alloc _ _⟩
    exact World.ownsRow_made w1 #[] 0 (Nat.le_refl _) (by decide) (by simp)
  case round =>
    obtain ⟨k, us, cs, a, c, hk, rfl, rfl, hck, hc1000, hbt, hR, hb⟩ := hrel
    have HBT : Hid (Built wr w1.heap.size (.slice none 0 0) (.slice a cs.length c) us cs []) := hbt
    have HPR : Hid (R = Stil.parseFrom k cs (ls.drop k)) := hR
    have hzr := hb.size
    clear hbt hR HR
    by_cases hlt : k < nl
    · have hlt' : k < ls.length := by have := HNL.out; omega
      have hc := HCL.out wr hb k hlt'
      have HPS : Hid (R = if Stil.wordsOf ls[k] = [] then Stil.parseFrom (k + 1) cs (ls.drop (k + 1)) else if Stil.specOk (Stil.wordsOf ls[k]) = false then ([], (k : Int) + 1, 2) else if cs.length = 1000 then ([], (k : Int) + 1, 3) else Stil.parseFrom (k + 1) (cs ++ [Stil.instOf (Stil.wordsOf ls[k])]) (ls.drop (k + 1))) := by show _ = _; rw [HPR.out, Stil.parse_step cs hlt']
      have hxl := HPL.out ls[k] (List.getElem_mem hlt')
      obtain ⟨x, hx⟩ : ∃ x, x = ls[k] := ⟨_, rfl⟩
      rw [← hx] at hc HPS hxl
      have hws := Stil.words_small x
      have HLW : Hid (∀ W, Calls Tryz.prog 40 #[.string ⟨x.toArray⟩] W fun e w' => ∃ v, e = .returned v ∧ w'.ownsRow W.heap.size 9 1 v (Stil.wordsOf x).length ((Stil.wordsOf x).map strV) ∧ Below W.heap.size W w') := fun W => s_lineWords x W (by omega)
      obtain ⟨ws, hwe⟩ : ∃ ws, ws = Stil.wordsOf x := ⟨_, rfl⟩
      rw [← hwe] at HPS HLW hws
      obtain ⟨nc, hnc⟩ : ∃ n, n = cs.length := ⟨_, rfl⟩
      have HNC : Hid (nc = cs.length) := hnc
      rw [← hnc] at hck hc1000 HBT HPS ⊢
      have hwk : IntKind.i64.wrap ((k : Int) + 1) = (k : Int) + 1 := by rw [IntKind.wrap_i64]; omega
      have hgr : g < wr.heap.size := Nat.lt_of_lt_of_le hg2 hb.size
      clear hx hwe hnc HPR HCL HPL
      by_cases h0 : ws = []
      · subst h0
        have HE : Hid (R = Stil.parseFrom (k + 1) cs (ls.drop (k + 1))) := by show _ = _; rw [HPS.out, if_pos rfl]
        clear HPS hws
        go_wp2_with (go_at_call 40; refine (HLW.out _).mono ?_; rintro e w3 ⟨v, rfl, hown3, hb3⟩; obtain ⟨wa, wc, hv3, _⟩ := own_open hown3; subst hv3; clear hown3)
        refine ⟨⟨k + 1, us, cs, a, c, by omega, by simp, by rw [HNC.out], by have := HNC.out; omega, by have := HNC.out; omega, ?_, HE.out, bl_call hb hb3⟩, by simp [intOf]; omega⟩
        have := HBT.out.below hb3
        rw [HNC.out] at this
        exact this
      · have hwl : 0 < ws.length := List.length_pos_iff.2 h0
        have HPT : Hid (R = if Stil.specOk ws = false then ([], (k : Int) + 1, 2) else if nc = 1000 then ([], (k : Int) + 1, 3) else Stil.parseFrom (k + 1) (cs ++ [Stil.instOf ws]) (ls.drop (k + 1))) := by show _ = _; rw [HPS.out, if_neg h0]
        have HWL : Hid (ws.length ≤ 1000000 ∧ ∀ y ∈ ws, y.length ≤ 1000000) := ⟨by omega, fun y hy => by have := hws.2 y hy; omega⟩
        clear HPS h0 hws
        obtain ⟨lw, hlw⟩ : ∃ n, n = ws.length := ⟨_, rfl⟩
        have HLN : Hid (lw = ws.length) := hlw
        rw [← hlw] at hwl HLW
        have hlz : ((lw : Int) == 0) = false := by rw [beq_eq_false_iff_ne]; omega
        clear hlw
        go_upto_region 10 with (go_at_call 40; refine (HLW.out _).mono ?_; rintro e w3 ⟨v, rfl, hown3, hb3⟩; obtain ⟨wg, wc, rfl, hwg1, hwg2, hwcap, hwcell⟩ := ownsRow_cells hown3 hwl)
        have HWC : Hid (∀ V, Below w3.heap.size w3 V → wg < V.heap.size ∧ ∀ j (h : j < ws.length), V.cell? ⟨wg, j, none⟩ = some (.string ⟨ws[j].toArray⟩)) := fun V h => ⟨Nat.lt_of_lt_of_le hwg2 h.size, fun j hj => by
          rw [h.cell (p := ⟨wg, j, none⟩) hwg2]
          exact hwcell j _ (by rw [List.getElem?_map, List.getElem?_eq_getElem hj]; rfl)⟩
        have hb13 : Below w1.heap.size w1 w3 := bl_call hb hb3
        have HBT3 : Hid (Built w3 w1.heap.size (.slice none 0 0) (.slice a nc c) us cs []) := HBT.out.below hb3
        clear hown3 hwcell HLW HBT
        cases hok : Stil.specOk ws
        · have HE : Hid (R = ([], (k : Int) + 1, 2)) := by show _ = _; rw [HPT.out, if_pos hok]
          have HLI : Hid (∀ V, Below w3.heap.size w3 V → Calls Tryz.prog 41 #[.slice (some ⟨wg, 0, none⟩) lw wc] V fun e w' => ∃ (a b : Int) (p : Option Addr) (n c : Nat), e = .returned (.tuple #[.agg #[.int .i64 a, .int .i64 b, .slice p n c], .bool false]) ∧ Below V.heap.size V w') := fun V h => by
            rw [HLN.out]
            exact s_line_no ws wg wc V hok (by have := HLN.out; omega) HWL.out.1 HWL.out.2 (HWC.out V h).1 (HWC.out V h).2
          clear HPT hok HWC
          go_upto_region 12 with (go_at_call 41; refine (HLI.out _ (by (repeat (first | with_reducible exact Below.refl _ _ | with_reducible assumption | with_reducible refine bl_set (by first | exact Nat.le_refl _ | (simp; done) | (simp; omega) | omega) ?_ _ | with_reducible refine bl_alloc ?_ _ | with_reducible refine bl_drewN ?_ _ | with_reducible refine bl_drew ?_ | with_reducible refine bl_grow ?_ _ _ | with_reducible refine bl_call ?_ (by assumption))))).mono ?_; rintro e w5 ⟨x1, x2, x3, x4, x5, rfl, hb5⟩)
          have h15 : Below w1.heap.size w1 w5 := by (repeat (first | with_reducible exact Below.refl _ _ | with_reducible assumption | with_reducible refine bl_set (by first | exact Nat.le_refl _ | (simp; done) | (simp; omega) | omega) ?_ _ | with_reducible refine bl_alloc ?_ _ | with_reducible refine bl_drewN ?_ _ | with_reducible refine bl_drew ?_ | with_reducible refine bl_grow ?_ _ _ | with_reducible refine bl_call ?_ (by assumption)))
          obtain ⟨V, hV⟩ : ∃ V, V = w5.alloc (.cells #[.int .i64 x1, .int .i64 x2, .slice x3 x4 x5] 31) := ⟨_, rfl⟩
          have hbV : Below w1.heap.size w1 V := by rw [hV]; exact bl_alloc h15 _
          rw [← hV]
          obtain ⟨⟨c0, c1⟩, f0, f1⟩ := HRS.out V hbV
          clear hV h15
          go_wp2
          refine bodyPost_ret (v := .tuple #[.slice none 0 0, .agg #[.int .i64 ((k : Int) + 1), .int .i64 2]]) (by simp [results, Tryz.results14, go_sem, cell_set_at c0, c1]) rfl ?_
          exact HFT.out V _ _ hbV HE.out
        · have HPU : Hid (R = if nc = 1000 then ([], (k : Int) + 1, 3) else Stil.parseFrom (k + 1) (cs ++ [Stil.instOf ws]) (ls.drop (k + 1))) := by show _ = _; rw [HPT.out, if_neg (by rw [hok]; decide)]
          have HLI : Hid (∀ V, Below w3.heap.size w3 V → Calls Tryz.prog 41 #[.slice (some ⟨wg, 0, none⟩) lw wc] V fun e w' => ∃ v, e = .returned (.tuple #[.agg #[.int .i64 (Stil.instOf ws).code, .int .i64 (Stil.instOf ws).one.op, v], .bool true]) ∧ w'.ownsRow V.heap.size 74 3 v (Stil.instOf ws).one.args.length (devsCells (Stil.instOf ws).one.args) ∧ Below V.heap.size V w') := fun V h => by
            rw [HLN.out]
            exact s_line_ok ws wg wc V hok (by have := HLN.out; omega) HWL.out.1 HWL.out.2 (HWC.out V h).1 (HWC.out V h).2
          obtain ⟨I, hI⟩ : ∃ I, I = Stil.instOf ws := ⟨_, rfl⟩
          rw [← hI] at HPU HLI
          clear HPT hok HWC hI
          go_upto_region 13 with (go_at_call 41; refine (HLI.out _ (by (repeat (first | with_reducible exact Below.refl _ _ | with_reducible assumption | with_reducible refine bl_set (by first | exact Nat.le_refl _ | (simp; done) | (simp; omega) | omega) ?_ _ | with_reducible refine bl_alloc ?_ _ | with_reducible refine bl_drewN ?_ _ | with_reducible refine bl_drew ?_ | with_reducible refine bl_grow ?_ _ _ | with_reducible refine bl_call ?_ (by assumption))))).mono ?_; rintro e w5 ⟨u, rfl, hu5, hb5⟩; obtain ⟨ua, uc, hue, _⟩ := own_open hu5; subst hue)
          have h15 : Below w1.heap.size w1 w5 := by (repeat (first | with_reducible exact Below.refl _ _ | with_reducible assumption | with_reducible refine bl_set (by first | exact Nat.le_refl _ | (simp; done) | (simp; omega) | omega) ?_ _ | with_reducible refine bl_alloc ?_ _ | with_reducible refine bl_drewN ?_ _ | with_reducible refine bl_drew ?_ | with_reducible refine bl_grow ?_ _ _ | with_reducible refine bl_call ?_ (by assumption)))
          have h35 : Below w3.heap.size w3 w5 := by (repeat (first | with_reducible exact Below.refl _ _ | with_reducible assumption | with_reducible refine bl_set (by first | exact Nat.le_refl _ | (simp; done) | (simp; omega) | omega) ?_ _ | with_reducible refine bl_alloc ?_ _ | with_reducible refine bl_drewN ?_ _ | with_reducible refine bl_drew ?_ | with_reducible refine bl_grow ?_ _ _ | with_reducible refine bl_call ?_ (by assumption)))
          have HU5 : Hid (w5.ownsRow w3.heap.size 74 3 (.slice ua I.one.args.length uc) I.one.args.length (devsCells I.one.args)) := hu5
          obtain ⟨V, hV⟩ : ∃ V, V = w5.alloc (.cells #[.int .i64 I.code, .int .i64 I.one.op, .slice ua I.one.args.length uc] 31) := ⟨_, rfl⟩
          have h5V : Below w5.heap.size w5 V := by rw [hV]; exact below_alloc _ _
          have hbV : Below w1.heap.size w1 V := by rw [hV]; exact bl_alloc h15 _
          have hsV : V.heap.size = w5.heap.size + 1 := by rw [hV]; simp
          have d0 : V.cell? ⟨w5.heap.size, 0, none⟩ = some (.int .i64 I.code) := by rw [hV]; simp [go_sem]
          have d1 : V.cell? ⟨w5.heap.size, 1, none⟩ = some (.int .i64 I.one.op) := by rw [hV]; simp [go_sem]
          have d2 : V.cell? ⟨w5.heap.size, 2, none⟩ = some (.slice ua I.one.args.length uc) := by rw [hV]; simp [go_sem]
          rw [← hV]
          obtain ⟨⟨c0, c1⟩, f0, f1⟩ := HRS.out V hbV
          have hwV : w1.heap.size ≤ V.heap.size := hbV.size
          have h3V : Below w3.heap.size w3 V := h35.trans (h5V.mono h35.size)
          have HUV : Hid (V.ownsRow w3.heap.size 74 3 (.slice ua I.one.args.length uc) I.one.args.length (devsCells I.one.args)) := ownsRow_below HU5.out h5V
          clear hV h15 hu5 hb5 HLI h35 h5V hsV
          by_cases hfull : nc = 1000
          · have HE : Hid (R = ([], (k : Int) + 1, 3)) := by show _ = _; rw [HPU.out, if_pos hfull]
            subst hfull
            clear HPU
            go_wp2
            refine bodyPost_ret (v := .tuple #[.slice none 0 0, .agg #[.int .i64 ((k : Int) + 1), .int .i64 3]]) (by simp [results, Tryz.results14, go_sem, cell_set_at c0, c1]) rfl ?_
            exact HFT.out V _ _ hbV HE.out
          · have HE : Hid (R = Stil.parseFrom (k + 1) (cs ++ [I]) (ls.drop (k + 1))) := by show _ = _; rw [HPU.out, if_neg hfull]
            have hnz : ((nc : Int) == 1000) = false := by rw [beq_eq_false_iff_ne]; omega
            have hl9 : nc + 1 ≤ 1000 := by omega
            obtain ⟨xs, hxs⟩ : ∃ xs, xs = rungCells us cs := ⟨_, rfl⟩
            have HXS : Hid (xs = rungCells us cs) := hxs
            have HOV : Hid (V.ownsRow w1.heap.size 31 3 (.slice a nc c) nc xs) := by
              have := ownsRow_below HBT3.out.1.2.1 h3V
              rw [← HNC.out, ← hxs] at this
              exact this
            clear HPU hfull hxs
            go_wp2_with (at_builtin; refine wpList_append_own_at _ rfl _ _ 23 rfl w1.heap.size 31 i0 (.agg #[.int .i64 0, .int .i64 0, .slice none 0 0]) 3 40 Tryz.underlying23 hi hz0 hz1 hz2 rfl (by decide) _ _ _ rfl (HOV.out.alloc _) ⟨V.heap.size, 0, none⟩ 1 1 [.int .i64 I.code, .int .i64 I.one.op, .slice ua I.one.args.length uc] rfl rfl (by exact cells3) (by intro u hu; simp at hu; rcases hu with rfl | rfl | rfl <;> rfl) (by unfold maxLen; omega) (by omega) (by simp only [World.size_alloc]; omega) ?_; intro v' w6 hown6 hgr6 _ hat6; obtain ⟨a6, c6, hv6⟩ := slice_of_owns hown6; subst hv6)
            have h3A : Below w3.heap.size w3 (V.alloc (.cells #[.int .i64 I.code, .int .i64 I.one.op, .slice ua I.one.args.length uc] 31)) := bl_alloc h3V _
            have HB6 : Hid (Built w6 w1.heap.size (.slice none 0 0) (.slice a6 (nc + 1) c6) (us ++ [.slice ua I.one.args.length uc]) (cs ++ [I]) []) := by
              refine Built.push (w := w3) HBT3.out h3A (World.ownsRow.alloc HUV.out _) hb13.size ?_ hgr6 hat6
              rw [← HNC.out, ← HXS.out]
              exact hown6
            have hB6 : Below w1.heap.size w1 w6 := (bl_alloc hbV _).grown hgr6 (by simp only [World.size_alloc]; omega) (fun k hk => (HOV.out.lt k hk).1)
            refine ⟨⟨k + 1, us ++ [.slice ua I.one.args.length uc], cs ++ [I], a6, c6, by omega, by simp, by simp [HNC.out], by rw [List.length_append, ← HNC.out]; simp; omega, by rw [List.length_append, ← HNC.out]; exact hl9, ?_, HE.out, hB6⟩, by simp [intOf]; omega⟩
            have := HB6.out
            rw [HNC.out] at this
            simpa using this
    · obtain rfl : k = nl := by omega
      have HE : Hid (R = (cs, 0, 0)) := by show _ = _; rw [HPR.out, Stil.parse_end cs (by have := HNL.out; omega)]
      obtain ⟨⟨c0, c1⟩, f0, f1⟩ := HRS.out wr hb
      obtain ⟨nc, hnc⟩ : ∃ n, n = cs.length := ⟨_, rfl⟩
      have HNC : Hid (nc = cs.length) := hnc
      rw [← hnc] at hck hc1000 HBT ⊢
      clear HPR hnc
      go_wp2
      refine bodyPost_ret (v := .tuple #[.slice a nc c, .agg #[.int .i64 0, .int .i64 0]]) (by simp [results, Tryz.results14, go_sem, cell_set_at c0, c1]) rfl ?_
      refine ⟨.slice a nc c, us, by rw [HE.out], ?_, bl_set (by simp) (bl_set (by simp) (hB1.trans (hb.mono hB1.size)) _) _⟩
      rw [HE.out]
      exact ((HBT.out.store hz1w _).store hz1w _).le (Nat.le_of_lt hz1w)
end Go.Proofs.YtipdjmbgbehkaaaGreatDoor
