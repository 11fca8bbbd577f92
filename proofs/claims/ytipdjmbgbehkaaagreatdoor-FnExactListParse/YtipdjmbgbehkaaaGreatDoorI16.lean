/- Contracts of the program's chapter 5: listRead, ListParse. -/
import Derived.Test.YtipdjmbgbehkaaaGreatDoorS14
import Derived.Test.YtipdjmbgbehkaaaGreatDoorHs
import Derived.Test.YtipdjmbgbehkaaaGreatDoorI14
import Derived.Test.YtipdjmbgbehkaaaGreatDoorI15
namespace Go.Proofs.YtipdjmbgbehkaaaGreatDoor
open Go.RowKit Go.Sort Go.BigFrame
/-- The error that tells what is wrong. -/
def errOf (R : List Stil.Inst × Int × Int) : Value := if R.2.2 = 0 then .nilIface else .iface 87 (.agg #[.int .i64 R.2.2, if R.2.1 = 0 then .nilIface else .iface 89 (.int .i64 R.2.1)])
/-- What listRead leaves. -/
def ReadOut (R : List Stil.Inst × Int × Int) (e : Ending) (w w' : World) : Prop := ∃ (rv : Value) (us : List Value), e = .returned (.tuple #[rv, errOf R]) ∧ Built w' w.heap.size (.slice none 0 0) rv us R.1 [] ∧ Below w.heap.size w w'
theorem i_splitL (l : List UInt8) (w : World) (hw : LibAt w) (hl : l.length ≤ 1000000000) : Calls Tryz.prog 64 #[.string ⟨l.toArray⟩, .string ⟨#[10]⟩] w fun e w' => ∃ g, e = .returned (.slice (some ⟨g, 0, none⟩) (Stil.cut 10 l).length (Stil.cut 10 l).length) ∧ g < w'.heap.size ∧ (∀ k (h : k < (Stil.cut 10 l).length), w'.cell? ⟨g, k, none⟩ = some (.string ⟨(Stil.cut 10 l)[k].toArray⟩)) ∧ Below w.heap.size w w' := by
  obtain ⟨_, _, m, hm⟩ := hw
  have hsz : (⟨l.toArray⟩ : ByteArray).size = l.length := rfl
  refine (Tryz.strings_Split ⟨l.toArray⟩ ⟨#[10]⟩ m w (by rw [hsz]; omega) hm (by show 1 ≤ 1; omega)).mono ?_
  rintro e w' ⟨he, rfl⟩
  obtain ⟨h1, h2⟩ := Stil.split_lib 10 l
  rw [h2] at he
  rw [h1]
  refine ⟨w.heap.size, he, by simp, fun k hk => ?_, below_alloc _ _⟩
  rw [World.cell?_alloc_at _ _ _ _ rfl]
  simp [hk]
set_option maxHeartbeats 4000000 in
set_option maxRecDepth 100000 in
theorem i_listRead (l : List UInt8) (w : World) (henv : Env w) (hs : l.length ≤ 1048576) :
    Calls Tryz.prog 31 #[.string ⟨l.toArray⟩] w fun e w' => ReadOut (Stil.listParse l) e w w' := by
  have HEN : Hid (∀ V, Below w.heap.size w V → Env V) := fun V h => henv.below h
  have hsz : (⟨l.toArray⟩ : ByteArray).size = l.length := rfl
  clear henv
  by_cases hlong : 50000 < l.length
  · have HR : Hid (Stil.listParse l = ([], 0, 1)) := by show _ = _; unfold Stil.listParse; rw [if_pos hlong]
    go_enter Tryz.func31, Tryz.ntmps31
    go_wp2
    refine bodyPost_ret (v := .tuple #[.slice none 0 0, .iface 87 (.agg #[.int .i64 1, .nilIface])]) (by simp [results, Tryz.results31, go_sem]) rfl ⟨.slice none 0 0, [], by rw [HR.out]; rfl, by rw [HR.out]; exact built_nil _ _, by (repeat (first | with_reducible exact Below.refl _ _ | with_reducible assumption | with_reducible refine bl_set (by first | exact Nat.le_refl _ | (simp; done) | (simp; omega) | omega) ?_ _ | with_reducible refine bl_alloc ?_ _ | with_reducible refine bl_drewN ?_ _ | with_reducible refine bl_drew ?_ | with_reducible refine bl_grow ?_ _ _ | with_reducible refine bl_call ?_ (by assumption)))⟩
  have HR : Hid (Stil.listParse l = Stil.parseFrom 0 [] (Stil.cut 10 l)) := by show _ = _; unfold Stil.listParse; rw [if_neg hlong]
  have HCU : Hid (∀ W, Below w.heap.size w W → Calls Tryz.prog 64 #[.string ⟨l.toArray⟩, .string ⟨#[10]⟩] W fun e w' => ∃ g, e = .returned (.slice (some ⟨g, 0, none⟩) (Stil.cut 10 l).length (Stil.cut 10 l).length) ∧ g < w'.heap.size ∧ (∀ k (h : k < (Stil.cut 10 l).length), w'.cell? ⟨g, k, none⟩ = some (.string ⟨(Stil.cut 10 l)[k].toArray⟩)) ∧ Below W.heap.size W w') := fun W h => i_splitL l W (HEN.out W h).2.2.2.2.1 (by omega)
  have hcl := piece_count 10 l
  have HPL : Hid (∀ x ∈ Stil.cut 10 l, x.length ≤ 50000) := fun x hx => by have := cut_len 10 l x hx; omega
  obtain ⟨ls, hls⟩ : ∃ ls, ls = Stil.cut 10 l := ⟨_, rfl⟩
  obtain ⟨R, hR⟩ : ∃ R, R = Stil.listParse l := ⟨_, rfl⟩
  rw [← hls] at HR HCU hcl HPL
  rw [← hR] at HR ⊢
  clear hls hR
  obtain ⟨i0, hi, hz0, hz1, hz2⟩ := info_parts info_Inst
  have hnl : ¬ (50000 : Int) < (l.length : Int) := by omega
  go_enter Tryz.func31, Tryz.ntmps31
  go_wp2_with (go_at_call 64; refine (HCU.out _ (by (repeat (first | with_reducible exact Below.refl _ _ | with_reducible assumption | with_reducible refine bl_set (by first | exact Nat.le_refl _ | (simp; done) | (simp; omega) | omega) ?_ _ | with_reducible refine bl_alloc ?_ _ | with_reducible refine bl_drewN ?_ _ | with_reducible refine bl_drew ?_ | with_reducible refine bl_grow ?_ _ _ | with_reducible refine bl_call ?_ (by assumption))))).mono ?_; rintro e w1 ⟨g, rfl, hg2, hcell, hb1⟩)
  have HCL : Hid (∀ W, Below w1.heap.size w1 W → ∀ k (h : k < ls.length), W.cell? ⟨g, k, none⟩ = some (.string ⟨ls[k].toArray⟩)) := fun W h k hk => by
    rw [h.cell (p := ⟨g, k, none⟩) hg2]
    exact hcell k hk
  have hB1 : Below w.heap.size w w1 := by (repeat (first | with_reducible exact Below.refl _ _ | with_reducible assumption | with_reducible refine bl_set (by first | exact Nat.le_refl _ | (simp; done) | (simp; omega) | omega) ?_ _ | with_reducible refine bl_alloc ?_ _ | with_reducible refine bl_drewN ?_ _ | with_reducible refine bl_drew ?_ | with_reducible refine bl_grow ?_ _ _ | with_reducible refine bl_call ?_ (by assumption)))
  have hz1w : w.heap.size ≤ w1.heap.size := hB1.size
  have HFT : Hid (∀ W (n c : Int), Below w1.heap.size w1 W → R = ([], n, c) → c ≠ 0 → n ≠ 0 → ReadOut R (.returned (.tuple #[.slice none 0 0, .iface 87 (.agg #[.int .i64 c, .iface 89 (.int .i64 n)])])) w W) := fun W n c h e h1 h2 => by
    refine ⟨.slice none 0 0, [], ?_, by rw [e]; exact built_nil _ _, hB1.trans (h.mono hB1.size)⟩
    rw [e]
    unfold errOf
    simp only
    rw [if_neg h1, if_neg h2]
  clear hcell hb1 HCU
  obtain ⟨nl, hnl2⟩ : ∃ n, n = ls.length := ⟨_, rfl⟩
  have HNL : Hid (nl = ls.length) := hnl2
  rw [← hnl2] at hcl ⊢
  clear hnl2
  go_loopw [4, 19] (fun v i wr => ∃ (k : Nat) (us : List Value) (cs : List Stil.Inst) (a : Option Addr) (c : Nat), k ≤ nl ∧ i = .int .i64 (k : Int) ∧ v = .slice a cs.length c ∧ cs.length ≤ k ∧ cs.length ≤ 1000 ∧ Built wr w1.heap.size (.slice none 0 0) (.slice a cs.length c) us cs [] ∧ R = Stil.parseFrom k cs (ls.drop k) ∧ Below w1.heap.size w1 wr) (fun _ i _ => nl - (intOf i).toNat)
  case atStart => exact ⟨0, [], [], none, 0, Nat.zero_le _, rfl, rfl, Nat.le_refl _, by simp, built_nil _ _, HR.out, Below.refl _ _⟩
  case round =>
    obtain ⟨k, us, cs, a, c, hk, rfl, rfl, hck, hc1000, hbt, hR, hb⟩ := hrel
    have HBT : Hid (Built wr w1.heap.size (.slice none 0 0) (.slice a cs.length c) us cs []) := hbt
    have HPR : Hid (R = Stil.parseFrom k cs (ls.drop k)) := hR
    have hzr := hb.size
    clear hbt hR HR
    by_cases hlt : k < nl
    · have hlt' : k < ls.length := by have := HNL.out; omega
      have hc := HCL.out wr hb k hlt'
      have HPS : Hid (R = if Stil.wordsOf ls[k] = [] then Stil.parseFrom (k + 1) cs (ls.drop (k + 1)) else if Stil.specOk (Stil.wordsOf ls[k]) = false then ([], (k : Int) + 1, 2) else if cs.length = 1000 then ([], (k : Int) + 1, 3) else Stil.parseFrom (k + 1) (cs ++ [Stil.instOf (Stil.wordsOf ls[k])]) (ls.drop (k + 1))) := by show _ = _; rw [HPR.out, Stil.parse_step cs hlt']
      have hxl := HPL.out ls[k] (List.getElem_mem hlt')
      obtain ⟨x, hx⟩ : ∃ x, x = ls[k] := ⟨_, rfl⟩
      rw [← hx] at hc HPS hxl
      have hws := Stil.words_small x
      have hwj := Stil.words_join x
      have hwn := Stil.words_ne x
      have HLW : Hid (∀ W, Calls Tryz.prog 65 #[.string ⟨x.toArray⟩] W fun e w' => ∃ v, e = .returned v ∧ w'.ownsRow W.heap.size 9 1 v (Stil.wordsOf x).length ((Stil.wordsOf x).map strV) ∧ Below W.heap.size W w') := fun W => i_listScan x W (by omega)
      obtain ⟨ws, hwe⟩ : ∃ ws, ws = Stil.wordsOf x := ⟨_, rfl⟩
      rw [← hwe] at HPS HLW hws hwj hwn
      obtain ⟨nc, hnc⟩ : ∃ n, n = cs.length := ⟨_, rfl⟩
      have HNC : Hid (nc = cs.length) := hnc
      rw [← hnc] at hck hc1000 HBT HPS ⊢
      have hwk : IntKind.i64.wrap ((k : Int) + 1) = (k : Int) + 1 := by rw [IntKind.wrap_i64]; omega
      have hgr : g < wr.heap.size := Nat.lt_of_lt_of_le hg2 hb.size
      clear hx hwe hnc HPR HCL HPL
      by_cases h0 : ws = []
      · subst h0
        have HE : Hid (R = Stil.parseFrom (k + 1) cs (ls.drop (k + 1))) := by show _ = _; rw [HPS.out, if_pos rfl]
        clear HPS hws hwj hwn
        go_wp2_with (go_at_call 65; refine (HLW.out _).mono ?_; rintro e w3 ⟨v, rfl, hown3, hb3⟩; obtain ⟨wa, wc, hv3, _⟩ := own_open hown3; subst hv3; clear hown3)
        refine ⟨⟨k + 1, us, cs, a, c, by omega, by simp, by rw [HNC.out], by have := HNC.out; omega, by have := HNC.out; omega, ?_, HE.out, bl_call hb hb3⟩, by simp [intOf]; omega⟩
        have := HBT.out.below hb3
        rw [HNC.out] at this
        exact this
      · have hwl : 0 < ws.length := List.length_pos_iff.2 h0
        have HPT : Hid (R = if Stil.specOk ws = false then ([], (k : Int) + 1, 2) else if nc = 1000 then ([], (k : Int) + 1, 3) else Stil.parseFrom (k + 1) (cs ++ [Stil.instOf ws]) (ls.drop (k + 1))) := by show _ = _; rw [HPS.out, if_neg h0]
        have HWL : Hid (ws.length ≤ 1000000 ∧ (∀ y ∈ ws, y.length ≤ 1000000) ∧ (Stil.joinSp ws).length ≤ 1000000) := ⟨by omega, fun y hy => by have := hws.2 y hy; omega, by omega⟩
        have HAG : Hid (Stil.implOk ws = Stil.specOk ws) := (Stil.lines_agree h0 hwn).symm
        clear HPS h0 hws hwj hwn
        obtain ⟨lw, hlw⟩ : ∃ n, n = ws.length := ⟨_, rfl⟩
        have HLN : Hid (lw = ws.length) := hlw
        rw [← hlw] at hwl HLW
        have hlz : ((lw : Int) == 0) = false := by rw [beq_eq_false_iff_ne]; omega
        clear hlw
        go_upto_region 10 with (go_at_call 65; refine (HLW.out _).mono ?_; rintro e w3 ⟨v, rfl, hown3, hb3⟩; obtain ⟨wg, wc, rfl, hwg1, hwg2, hwcap, hwcell⟩ := ownsRow_cells hown3 hwl)
        have hb13 : Below w1.heap.size w1 w3 := bl_call hb hb3
        have hbw3 : Below w.heap.size w w3 := hB1.trans (hb13.mono hB1.size)
        have HST : Hid (StrsAt w3 (.slice (some ⟨wg, 0, none⟩) ws.length wc) ws) := by
          refine ⟨wg, wc, rfl, by have := HLN.out; omega, hwg2, fun j y hj => ?_⟩
          exact hwcell j _ (by rw [List.getElem?_map, hj]; rfl)
        have HLI : Hid (∀ V, Below w3.heap.size w3 V → Calls Tryz.prog 66 #[.slice (some ⟨wg, 0, none⟩) lw wc] V fun e w' => ∃ v, e = .returned (.tuple #[.agg #[.int .i64 (Stil.instOf ws).code, .int .i64 (Stil.instOf ws).one.op, v], .bool (Stil.specOk ws)]) ∧ w'.ownsRow V.heap.size 74 3 v (Stil.instOf ws).one.args.length (devsCells (Stil.instOf ws).one.args) ∧ Below V.heap.size V w') := fun V h => by
          rw [HLN.out, ← HAG.out]
          exact i_listInst ws wg wc V (HEN.out V (hbw3.trans (h.mono hbw3.size))) (HST.out.below h) (by have := HLN.out; omega) HWL.out.1 HWL.out.2.1 HWL.out.2.2
        have HBT3 : Hid (Built w3 w1.heap.size (.slice none 0 0) (.slice a nc c) us cs []) := HBT.out.below hb3
        clear hown3 hwcell HLW HBT HST HAG
        obtain ⟨I, hI⟩ : ∃ I, I = Stil.instOf ws := ⟨_, rfl⟩
        obtain ⟨ok, hok⟩ : ∃ I, I = Stil.specOk ws := ⟨_, rfl⟩
        rw [← hI] at HPT HLI
        rw [← hok] at HPT HLI
        clear hok hI
        go_upto_region 11 with (go_at_call 66; refine (HLI.out _ (by (repeat (first | with_reducible exact Below.refl _ _ | with_reducible assumption | with_reducible refine bl_set (by first | exact Nat.le_refl _ | (simp; done) | (simp; omega) | omega) ?_ _ | with_reducible refine bl_alloc ?_ _ | with_reducible refine bl_drewN ?_ _ | with_reducible refine bl_drew ?_ | with_reducible refine bl_grow ?_ _ _ | with_reducible refine bl_call ?_ (by assumption))))).mono ?_; rintro e w5 ⟨u, rfl, hu5, hb5⟩; obtain ⟨ua, uc, hue, _⟩ := own_open hu5; subst hue)
        have h15 : Below w1.heap.size w1 w5 := by (repeat (first | with_reducible exact Below.refl _ _ | with_reducible assumption | with_reducible refine bl_set (by first | exact Nat.le_refl _ | (simp; done) | (simp; omega) | omega) ?_ _ | with_reducible refine bl_alloc ?_ _ | with_reducible refine bl_drewN ?_ _ | with_reducible refine bl_drew ?_ | with_reducible refine bl_grow ?_ _ _ | with_reducible refine bl_call ?_ (by assumption)))
        have h35 : Below w3.heap.size w3 w5 := by (repeat (first | with_reducible exact Below.refl _ _ | with_reducible assumption | with_reducible refine bl_set (by first | exact Nat.le_refl _ | (simp; done) | (simp; omega) | omega) ?_ _ | with_reducible refine bl_alloc ?_ _ | with_reducible refine bl_drewN ?_ _ | with_reducible refine bl_drew ?_ | with_reducible refine bl_grow ?_ _ _ | with_reducible refine bl_call ?_ (by assumption)))
        have HU5 : Hid (w5.ownsRow w3.heap.size 74 3 (.slice ua I.one.args.length uc) I.one.args.length (devsCells I.one.args)) := hu5
        obtain ⟨V, hV⟩ : ∃ V, V = w5.alloc (.cells #[.int .i64 I.code, .int .i64 I.one.op, .slice ua I.one.args.length uc] 31) := ⟨_, rfl⟩
        have h5V : Below w5.heap.size w5 V := by rw [hV]; exact below_alloc _ _
        have hbV : Below w1.heap.size w1 V := by rw [hV]; exact bl_alloc h15 _
        have hsV : V.heap.size = w5.heap.size + 1 := by rw [hV]; simp
        have d0 : V.cell? ⟨w5.heap.size, 0, none⟩ = some (.int .i64 I.code) := by rw [hV]; simp [go_sem]
        have d1 : V.cell? ⟨w5.heap.size, 1, none⟩ = some (.int .i64 I.one.op) := by rw [hV]; simp [go_sem]
        have d2 : V.cell? ⟨w5.heap.size, 2, none⟩ = some (.slice ua I.one.args.length uc) := by rw [hV]; simp [go_sem]
        rw [← hV]
        have hwV : w1.heap.size ≤ V.heap.size := hbV.size
        have h3V : Below w3.heap.size w3 V := h35.trans (h5V.mono h35.size)
        have HUV : Hid (V.ownsRow w3.heap.size 74 3 (.slice ua I.one.args.length uc) I.one.args.length (devsCells I.one.args)) := ownsRow_below HU5.out h5V
        clear hV h15 hu5 hb5 HLI h35 h5V hsV
        cases ok
        · have HE : Hid (R = ([], (k : Int) + 1, 2)) := by show _ = _; rw [HPT.out, if_pos rfl]
          clear HPT
          go_wp2
          refine bodyPost_ret (v := .tuple #[.slice none 0 0, .iface 87 (.agg #[.int .i64 2, .iface 89 (.int .i64 ((k : Int) + 1))])]) (by simp [results, Tryz.results31, go_sem]) rfl ?_
          exact HFT.out V _ _ hbV HE.out (by decide) (by omega)
        · have HPU : Hid (R = if nc = 1000 then ([], (k : Int) + 1, 3) else Stil.parseFrom (k + 1) (cs ++ [I]) (ls.drop (k + 1))) := by show _ = _; rw [HPT.out, if_neg (by decide)]
          clear HPT
          by_cases hfull : nc = 1000
          · have HE : Hid (R = ([], (k : Int) + 1, 3)) := by show _ = _; rw [HPU.out, if_pos hfull]
            subst hfull
            clear HPU
            go_wp2
            refine bodyPost_ret (v := .tuple #[.slice none 0 0, .iface 87 (.agg #[.int .i64 3, .iface 89 (.int .i64 ((k : Int) + 1))])]) (by simp [results, Tryz.results31, go_sem]) rfl ?_
            exact HFT.out V _ _ hbV HE.out (by decide) (by omega)
          · have HE : Hid (R = Stil.parseFrom (k + 1) (cs ++ [I]) (ls.drop (k + 1))) := by show _ = _; rw [HPU.out, if_neg hfull]
            have hnz : ((nc : Int) == 1000) = false := by rw [beq_eq_false_iff_ne]; omega
            have hl9 : nc + 1 ≤ 1000 := by omega
            obtain ⟨xs, hxs⟩ : ∃ xs, xs = rungCells us cs := ⟨_, rfl⟩
            have HXS : Hid (xs = rungCells us cs) := hxs
            have HOV : Hid (V.ownsRow w1.heap.size 31 3 (.slice a nc c) nc xs) := by
              have := ownsRow_below HBT3.out.1.2.1 h3V
              rw [← HNC.out, ← hxs] at this
              exact this
            clear HPU hfull hxs
            go_wp2_with (at_builtin; refine wpList_append_own_at _ rfl _ _ 23 rfl w1.heap.size 31 i0 (.agg #[.int .i64 0, .int .i64 0, .slice none 0 0]) 3 40 Tryz.underlying23 hi hz0 hz1 hz2 rfl (by decide) _ _ _ rfl (HOV.out.alloc _) ⟨V.heap.size, 0, none⟩ 1 1 [.int .i64 I.code, .int .i64 I.one.op, .slice ua I.one.args.length uc] rfl rfl (by exact cells3) (by intro u hu; simp at hu; rcases hu with rfl | rfl | rfl <;> rfl) (by unfold maxLen; omega) (by omega) (by simp only [World.size_alloc]; omega) ?_; intro v' w6 hown6 hgr6 _ hat6; obtain ⟨a6, c6, hv6⟩ := slice_of_owns hown6; subst hv6)
            have h3A : Below w3.heap.size w3 (V.alloc (.cells #[.int .i64 I.code, .int .i64 I.one.op, .slice ua I.one.args.length uc] 31)) := bl_alloc h3V _
            have HB6 : Hid (Built w6 w1.heap.size (.slice none 0 0) (.slice a6 (nc + 1) c6) (us ++ [.slice ua I.one.args.length uc]) (cs ++ [I]) []) := by
              refine Built.push (w := w3) HBT3.out h3A (World.ownsRow.alloc HUV.out _) hb13.size ?_ hgr6 hat6
              rw [← HNC.out, ← HXS.out]
              exact hown6
            have hB6 : Below w1.heap.size w1 w6 := (bl_alloc hbV _).grown hgr6 (by simp only [World.size_alloc]; omega) (fun k hk => (HOV.out.lt k hk).1)
            refine ⟨⟨k + 1, us ++ [.slice ua I.one.args.length uc], cs ++ [I], a6, c6, by omega, by simp, by simp [HNC.out], by rw [List.length_append, ← HNC.out]; simp; omega, by rw [List.length_append, ← HNC.out]; exact hl9, ?_, HE.out, hB6⟩, by simp [intOf]; omega⟩
            have := HB6.out
            rw [HNC.out] at this
            simpa using this
    · obtain rfl : k = nl := by omega
      have HE : Hid (R = (cs, 0, 0)) := by show _ = _; rw [HPR.out, Stil.parse_end cs (by have := HNL.out; omega)]
      obtain ⟨nc, hnc⟩ : ∃ n, n = cs.length := ⟨_, rfl⟩
      have HNC : Hid (nc = cs.length) := hnc
      rw [← hnc] at hck hc1000 HBT ⊢
      clear HPR hnc
      go_wp2
      refine bodyPost_ret (v := .tuple #[.slice a nc c, .nilIface]) (by simp [results, Tryz.results31, go_sem]) rfl ?_
      refine ⟨.slice a nc c, us, by rw [HE.out]; rfl, ?_, hB1.trans (hb.mono hB1.size)⟩
      rw [HE.out]
      exact HBT.out.le hz1w
theorem ne_wrong (u v : Value) (w : World) : Sem.run Tryz.prog (binOp BinOp.neq 53 (.iface 87 (.agg #[u, v])) .nilIface) w = .ok (.bool true) w := by kernel_rfl
theorem parse_kinds : ∀ (ls : List (List UInt8)) (k : Nat) (cs : List Stil.Inst), ((Stil.parseFrom k cs ls).2.2 = 0 ∧ (Stil.parseFrom k cs ls).2.1 = 0) ∨ ((Stil.parseFrom k cs ls).2.2 ≠ 0 ∧ (Stil.parseFrom k cs ls).1 = [] ∧ 0 < (Stil.parseFrom k cs ls).2.1 ∧ (Stil.parseFrom k cs ls).2.1 ≤ k + ls.length)
  | [], k, cs => .inl ⟨rfl, rfl⟩
  | l :: r, k, cs => by
    rw [Stil.parseFrom]
    have e1 : ((l :: r).length : Int) = r.length + 1 := by simp
    have h1 := parse_kinds r (k + 1) cs
    have h2 := parse_kinds r (k + 1) (cs ++ [Stil.instOf (Stil.wordsOf l)])
    have e2 : ((k + 1 : Nat) : Int) = k + 1 := by omega
    rw [e2] at h1 h2
    rw [e1]
    split
    · rcases h1 with h | ⟨a, b, c, d⟩
      · exact .inl h
      · exact .inr ⟨a, b, c, by omega⟩
    · split
      · exact .inr ⟨by show (2 : Int) ≠ 0; decide, rfl, by simp only; omega, by simp only; omega⟩
      · split
        · exact .inr ⟨by show (3 : Int) ≠ 0; decide, rfl, by simp only; omega, by simp only; omega⟩
        · rcases h2 with h | ⟨a, b, c, d⟩
          · exact .inl h
          · exact .inr ⟨a, b, c, by omega⟩
theorem list_kinds (l : List UInt8) : ((Stil.listParse l).2.2 = 0 ∧ (Stil.listParse l).2.1 = 0) ∨ ((Stil.listParse l).2.2 ≠ 0 ∧ (Stil.listParse l).1 = []) := by
  unfold Stil.listParse
  split
  · exact .inr ⟨by decide, rfl⟩
  · rcases parse_kinds (Stil.cut 10 l) 0 [] with h | h
    · exact .inl h
    · exact .inr ⟨h.1, h.2.1⟩
set_option maxHeartbeats 2000000 in
set_option maxRecDepth 100000 in
theorem i_listParse (l : List UInt8) (w : World) (henv : Env w) (hs : l.length ≤ 1048576) :
    Calls Tryz.prog 11 #[.string ⟨l.toArray⟩] w fun e w' => ParseOut (Stil.listParse l) e w w' := by
  have HRD : Hid (∀ V, Below w.heap.size w V → Calls Tryz.prog 31 #[.string ⟨l.toArray⟩] V fun e w' => ReadOut (Stil.listParse l) e V w') := fun V h => i_listRead l V (henv.below h) hs
  have HEE : Hid (∀ V, Below w.heap.size w V → ErrTypeAt V) := fun V h => (henv.below h).2.2.2.2.2
  have hk := list_kinds l
  obtain ⟨R, hR⟩ : ∃ R, R = Stil.listParse l := ⟨_, rfl⟩
  rw [← hR] at HRD hk ⊢
  clear hR henv
  have nw := ne_wrong
  have nn := ne_nilE
  rcases hk with ⟨h1, h2⟩ | ⟨h1, h2⟩
  · have HR0 : Hid (∀ V, Below w.heap.size w V → Calls Tryz.prog 31 #[.string ⟨l.toArray⟩] V fun e w' => ∃ (a : Option Addr) (c : Nat) (us : List Value), e = .returned (.tuple #[.slice a R.1.length c, .nilIface]) ∧ Built w' V.heap.size (.slice none 0 0) (.slice a R.1.length c) us R.1 [] ∧ Below V.heap.size V w') := fun V h => by
      refine (HRD.out V h).mono ?_
      rintro e w' ⟨rv, us, rfl, hbt, hb⟩
      obtain ⟨ra, rc, hrv⟩ := slice_of_owns hbt.1.2.1
      subst hrv
      have he : errOf R = .nilIface := by unfold errOf; rw [if_pos h1]
      exact ⟨ra, rc, us, by rw [he], hbt, hb⟩
    clear HRD HEE
    go_enter Tryz.func11, Tryz.ntmps11
    go_upto_region 4 with (go_at_call 31; refine (HR0.out _ (by (repeat (first | with_reducible exact Below.refl _ _ | with_reducible assumption | with_reducible refine bl_set (by first | exact Nat.le_refl _ | (simp; done) | (simp; omega) | omega) ?_ _ | with_reducible refine bl_alloc ?_ _ | with_reducible refine bl_drewN ?_ _ | with_reducible refine bl_drew ?_ | with_reducible refine bl_grow ?_ _ _ | with_reducible refine bl_call ?_ (by assumption))))).mono ?_; rintro e w1 ⟨ra, rc, us, rfl, hbt, hb1⟩)
    have hz : w.heap.size < w1.heap.size := below_lt hb1
    have c0 : w1.cell? ⟨w.heap.size, 0, none⟩ = some (.int .i64 0) := by rw [hb1.cell (p := ⟨w.heap.size, 0, none⟩) (by simp)]; simp [go_sem]
    have c1 : w1.cell? ⟨w.heap.size, 1, none⟩ = some (.int .i64 0) := by rw [hb1.cell (p := ⟨w.heap.size, 1, none⟩) (by simp)]; simp [go_sem]
    have f0 : w1.frozen? ⟨w.heap.size, 0, none⟩ = false := by rw [hb1.frozen (p := ⟨w.heap.size, 0, none⟩) (by simp)]; simp [go_sem]
    have f1 : w1.frozen? ⟨w.heap.size, 1, none⟩ = false := by rw [hb1.frozen (p := ⟨w.heap.size, 1, none⟩) (by simp)]; simp [go_sem]
    have hbw : Below w.heap.size w w1 := by (repeat (first | with_reducible exact Below.refl _ _ | with_reducible assumption | with_reducible refine bl_set (by first | exact Nat.le_refl _ | (simp; done) | (simp; omega) | omega) ?_ _ | with_reducible refine bl_alloc ?_ _ | with_reducible refine bl_drewN ?_ _ | with_reducible refine bl_drew ?_ | with_reducible refine bl_grow ?_ _ _ | with_reducible refine bl_call ?_ (by assumption)))
    have HBT : Hid (Built w1 (w.heap.size + 1) (.slice none 0 0) (.slice ra R.1.length rc) us R.1 []) := by show Built _ _ _ _ _ _ _; simpa using hbt
    have HH : Hid (R.2.1 = 0 ∧ R.2.2 = 0) := ⟨h2, h1⟩
    clear hbt hb1 h1 h2
    go_wp2
    refine bodyPost_ret (v := .tuple #[.slice ra R.1.length rc, .agg #[.int .i64 0, .int .i64 0]]) (by simp [results, Tryz.results11, go_sem, cell_set_at c0, c1]) rfl ?_
    exact ⟨.slice ra R.1.length rc, us, by rw [HH.out.1, HH.out.2], ((HBT.out.store (Nat.lt_succ_self _) _).store (Nat.lt_succ_self _) _).le (Nat.le_succ _), bl_set (by simp) (bl_set (by simp) hbw _) _⟩
  · have HR0 : Hid (∀ V, Below w.heap.size w V → Calls Tryz.prog 31 #[.string ⟨l.toArray⟩] V fun e w' => ∃ (a : Option Addr) (c : Nat), e = .returned (.tuple #[.slice a 0 c, .iface 87 (.agg #[.int .i64 R.2.2, if R.2.1 = 0 then .nilIface else .iface 89 (.int .i64 R.2.1)])]) ∧ Below V.heap.size V w') := fun V h => by
      refine (HRD.out V h).mono ?_
      rintro e w' ⟨rv, us, rfl, hbt, hb⟩
      rw [h2] at hbt
      obtain ⟨ra, rc, hrv⟩ := slice_of_owns hbt.1.2.1
      subst hrv
      have he : errOf R = .iface 87 (.agg #[.int .i64 R.2.2, if R.2.1 = 0 then .nilIface else .iface 89 (.int .i64 R.2.1)]) := by unfold errOf; rw [if_neg h1]
      exact ⟨ra, rc, by rw [he]; rfl, hb⟩
    obtain ⟨X, hX⟩ : ∃ X : Value, X = if R.2.1 = 0 then .nilIface else .iface 89 (.int .i64 R.2.1) := ⟨_, rfl⟩
    rw [← hX] at HR0
    have HXX : Hid (X = .nilIface ∧ R.2.1 = 0 ∨ X = .iface 89 (.int .i64 R.2.1)) := by
      show _ ∨ _
      by_cases h : R.2.1 = 0
      · rw [if_pos h] at hX; exact .inl ⟨hX, h⟩
      · rw [if_neg h] at hX; exact .inr hX
    have hox : X.oneCell' = true := by rcases HXX.out with ⟨rfl, _⟩ | rfl <;> rfl
    have HTD : Hid (∀ V, Below w.heap.size w V → Calls Tryz.prog 32 #[.iface 87 (.agg #[.int .i64 R.2.2, X])] V fun e w' => e = .returned (.agg #[.int .i64 R.2.1, .int .i64 R.2.2]) ∧ Below V.heap.size V w') := fun V h => i_listTold R.2.2 R.2.1 X V (HEE.out V h) HXX.out
    have HH : Hid (R.1 = []) := h2
    clear HRD HEE hX HXX h1 h2
    go_enter Tryz.func11, Tryz.ntmps11
    go_upto_region 3 with (go_at_call 31; refine (HR0.out _ (by (repeat (first | with_reducible exact Below.refl _ _ | with_reducible assumption | with_reducible refine bl_set (by first | exact Nat.le_refl _ | (simp; done) | (simp; omega) | omega) ?_ _ | with_reducible refine bl_alloc ?_ _ | with_reducible refine bl_drewN ?_ _ | with_reducible refine bl_drew ?_ | with_reducible refine bl_grow ?_ _ _ | with_reducible refine bl_call ?_ (by assumption))))).mono ?_; rintro e w1 ⟨ra, rc, rfl, hb1⟩)
    have hz : w.heap.size < w1.heap.size := below_lt hb1
    have HAL : Hid (∀ V, Below w1.heap.size w1 V → (V.cell? ⟨w.heap.size, 0, none⟩ = some (.int .i64 0) ∧ V.cell? ⟨w.heap.size, 1, none⟩ = some (.int .i64 0)) ∧ V.frozen? ⟨w.heap.size, 0, none⟩ = false ∧ V.frozen? ⟨w.heap.size, 1, none⟩ = false) := fun V h => by
      refine ⟨⟨?_, ?_⟩, ?_, ?_⟩
      · rw [h.cell (p := ⟨w.heap.size, 0, none⟩) hz, hb1.cell (p := ⟨w.heap.size, 0, none⟩) (by simp)]; simp [go_sem]
      · rw [h.cell (p := ⟨w.heap.size, 1, none⟩) hz, hb1.cell (p := ⟨w.heap.size, 1, none⟩) (by simp)]; simp [go_sem]
      · rw [h.frozen (p := ⟨w.heap.size, 0, none⟩) hz, hb1.frozen (p := ⟨w.heap.size, 0, none⟩) (by simp)]; simp [go_sem]
      · rw [h.frozen (p := ⟨w.heap.size, 1, none⟩) hz, hb1.frozen (p := ⟨w.heap.size, 1, none⟩) (by simp)]; simp [go_sem]
    have hbw : Below w.heap.size w w1 := by (repeat (first | with_reducible exact Below.refl _ _ | with_reducible assumption | with_reducible refine bl_set (by first | exact Nat.le_refl _ | (simp; done) | (simp; omega) | omega) ?_ _ | with_reducible refine bl_alloc ?_ _ | with_reducible refine bl_drewN ?_ _ | with_reducible refine bl_drew ?_ | with_reducible refine bl_grow ?_ _ _ | with_reducible refine bl_call ?_ (by assumption)))
    clear hb1
    go_wp2_with (go_at_call 32; refine (HTD.out _ (by (repeat (first | with_reducible exact Below.refl _ _ | with_reducible assumption | with_reducible refine bl_set (by first | exact Nat.le_refl _ | (simp; done) | (simp; omega) | omega) ?_ _ | with_reducible refine bl_alloc ?_ _ | with_reducible refine bl_drewN ?_ _ | with_reducible refine bl_drew ?_ | with_reducible refine bl_grow ?_ _ _ | with_reducible refine bl_call ?_ (by assumption))))).mono ?_; rintro e w3 ⟨rfl, hb3⟩; obtain ⟨⟨c0, c1⟩, f0, f1⟩ := HAL.out w3 (by (repeat (first | with_reducible exact Below.refl _ _ | with_reducible assumption | with_reducible refine bl_set (by first | exact Nat.le_refl _ | (simp; done) | (simp; omega) | omega) ?_ _ | with_reducible refine bl_alloc ?_ _ | with_reducible refine bl_drewN ?_ _ | with_reducible refine bl_drew ?_ | with_reducible refine bl_grow ?_ _ _ | with_reducible refine bl_call ?_ (by assumption)))))
    refine bodyPost_ret (v := .tuple #[.slice none 0 0, .agg #[.int .i64 R.2.1, .int .i64 R.2.2]]) (by simp [results, Tryz.results11, go_sem, cell_set_at c0, c1]) rfl ?_
    exact ⟨.slice none 0 0, [], rfl, by rw [HH.out]; exact built_nil _ _, bl_set (by simp) (bl_set (by simp) (by (repeat (first | with_reducible exact Below.refl _ _ | with_reducible assumption | with_reducible refine bl_set (by first | exact Nat.le_refl _ | (simp; done) | (simp; omega) | omega) ?_ _ | with_reducible refine bl_alloc ?_ _ | with_reducible refine bl_drewN ?_ _ | with_reducible refine bl_drew ?_ | with_reducible refine bl_grow ?_ _ _ | with_reducible refine bl_call ?_ (by assumption)))) _) _⟩
end Go.Proofs.YtipdjmbgbehkaaaGreatDoor
