/- N8, LW25: texts put together. -/
import Derived.Test.YtbfkfdbkjbgneaaGreatDoorGj
import Derived.Test.YtbfkfdbkjbgneaaGreatDoorGh
import Derived.Test.YtbfkfdbkjbgneaaGreatDoorM25
import Derived.Test.YtbfkfdbkjbgneaaGreatDoorHm
import Derived.Test.YtbfkfdbkjbgneaaGreatDoorHo
import Derived.Deep.RegionWith
import Derived.Lib.QuietBelow
/- Rungs that are handed on; a list that is put together of them. -/
namespace Go.Proofs.YtbfkfdbkjbgneaaGreatDoor
open Go.RowKit Go.Sort Go.BigFrame
theorem cap_own {w : World} {base s n : Nat} {e : TypeId} {v : Value} {xs : List Value} {a : Option Addr} {cap : Nat} (h : w.ownsRow base e s v n xs) (hv : v = .slice a n cap) : CapOk a n cap := by
  obtain ⟨a', cap', hv', hq, -⟩ := own_open h
  rw [hv] at hv'
  cases hv'
  exact hq
theorem devs_own {w : World} {base : Nat} {v : Value} {ds : List Stil.Dev} (h : w.ownsRow base 82 3 v ds.length (devsCells ds)) : DevsIn (fun b => base ≤ b) w v ds := by
  obtain ⟨a, cap, hv, hc⟩ := DevsFrom.of_owns h
  exact ⟨a, cap, hv, cap_own h hv, hc⟩
theorem rung_in {w : World} {base : Nat} {rv : Value} {us : List Value} {cs : List Stil.Inst} (h : RungOwn w base rv us cs) : InstsIn (fun b => base ≤ b) w rv cs := by
  obtain ⟨hlen, hown, hus⟩ := h
  by_cases hz : cs.length = 0
  · obtain ⟨a, cap, hv⟩ := slice_of_owns hown
    exact ⟨a, cap, hv, cap_own hown hv, fun i hi => absurd hi (by omega)⟩
  · obtain ⟨g, cap, hv, hbase, hlt, _, hcell⟩ := ownsRow_cells hown (by omega)
    refine ⟨_, cap, hv, cap_own hown hv, fun i hi => ⟨g, 0, rfl, hbase, hlt, ?_⟩⟩
    obtain ⟨a1, a2, a3⟩ := rungCells_get us cs i (by omega) hi
    unfold InstIn
    rw [Nat.zero_add]
    exact ⟨hcell _ _ a1, hcell _ _ a2, us[i]'(by omega), hcell _ _ a3, devs_own (hus i (by omega) hi)⟩
/-- Rungs in a row. -/
def InstssIn (P : Nat → Prop) (w : World) (v : Value) (L : List (List Stil.Inst)) : Prop := ∃ a cap, v = .slice a L.length cap ∧ ∀ i (h : i < L.length), ∃ b, a = some ⟨b, 0, none⟩ ∧ b < w.heap.size ∧ ∃ rv, w.cell? ⟨b, i, none⟩ = some rv ∧ InstsIn P w rv L[i]
theorem InstssIn.below {P : Nat → Prop} {w w' : World} {v : Value} {L : List (List Stil.Inst)} (h : InstssIn P w v L) (hb : Below w.heap.size w w') : InstssIn P w' v L := by
  obtain ⟨a, cap, hv, hc⟩ := h
  refine ⟨a, cap, hv, fun i hi => ?_⟩
  obtain ⟨b, h1, h2, rv, h3, h4⟩ := hc i hi
  exact ⟨b, h1, Nat.lt_of_lt_of_le h2 hb.size, rv, (hb.cell (p := ⟨b, i, none⟩) h2).trans h3, h4.keep (KeepsIn.of_below hb)⟩
theorem InstssIn.top {P : Nat → Prop} {w : World} {v : Value} {L : List (List Stil.Inst)} (h : InstssIn P w v L) : InstssIn (fun b => b < w.heap.size) w v L := by
  obtain ⟨a, cap, hv, hc⟩ := h
  refine ⟨a, cap, hv, fun i hi => ?_⟩
  obtain ⟨b, h1, h2, rv, h3, h4⟩ := hc i hi
  exact ⟨b, h1, h2, rv, h3, h4.mono fun c hc _ => hc⟩
theorem built_in {w : World} {base : Nat} {sv rv : Value} {us : List Value} {cs : List Stil.Inst} {fin : List Rg} (h : Built w base sv rv us cs fin) : InstssIn (fun b => base ≤ b) w sv (fin.map (·.2.2)) := by
  obtain ⟨_, hfin, hsv, _⟩ := h
  by_cases hz : fin.length = 0
  · obtain ⟨a, cap, hv⟩ := slice_of_owns hsv
    exact ⟨a, cap, by simpa using hv, fun i hi => absurd hi (by simp; omega)⟩
  · obtain ⟨B, cap, hv, hbase, hlt, _, hcell⟩ := ownsRow_cells hsv (by omega)
    refine ⟨some ⟨B, 0, none⟩, cap, by simpa using hv, fun i hi => ?_⟩
    have hi' : i < fin.length := by simpa using hi
    refine ⟨B, rfl, hlt, fin[i].1, hcell i _ (by simp [List.getElem?_eq_getElem hi']), ?_⟩
    rw [List.getElem_map]
    exact rung_in (hfin _ (List.getElem_mem hi'))
theorem i_rungsL {w W : World} {v : Value} {l : List Stil.Inst} (hr : ∀ W, Below w.heap.size w W → RowsAt W ∧ LWordsAt W) (h : LstF w v l) (hb : Below w.heap.size w W) : Calls Tryz.prog 10 #[v] W fun e w' => ∃ (a : Option Addr) (cap : Nat), e = .returned (.slice a (Stil.sureRungs l).length cap) ∧ InstssIn (fun b => b < w'.heap.size) w' (.slice a (Stil.sureRungs l).length cap) (Stil.sureRungs l) ∧ Below W.heap.size W w' := by
  obtain ⟨h1, h2, h3⟩ := h W hb
  by_cases hbad : 0 < (Stil.sureCheck l).1
  · refine (i_sureRungs_no l v W (hr W hb).1 (hr W hb).2 h1 h3 h2 hbad).mono ?_
    rintro e w1 ⟨rfl, hb⟩
    have e0 : Stil.sureRungs l = [] := by unfold Stil.sureRungs; rw [if_pos hbad]
    rw [e0]
    exact ⟨none, 0, rfl, ⟨none, 0, rfl, fun i hi => absurd hi (by simp)⟩, hb⟩
  · have hok := Stil.sureCheck_zero l hbad
    have hlen := Stil.sureCheck_len hok.1
    have e0 : Stil.sureRungs l = Stil.rungsFrom [] l := by unfold Stil.sureRungs; rw [if_neg hbad]
    rw [e0]
    refine (i_sureRungs_ok l v W (hr W hb).1 (hr W hb).2 h1 hlen h2 hok).mono ?_
    rintro e w1 ⟨sv, rv, us, cs, fin, rfl, hbt, hfin, hb⟩
    have hin := (built_in hbt).top
    rw [hfin] at hin
    obtain ⟨a, cap, hv, hc⟩ := id hin
    subst hv
    exact ⟨a, cap, rfl, hin, hb⟩
/-- A list that grows by lists whose operands lie below base, its row at or beyond base. -/
def BackSt (base : Nat) (W : World) (v : Value) (l : List Stil.Inst) : Prop := ∃ xs, W.ownsRow base 43 3 v l.length xs ∧ RowOf 3 (InstC (fun b => b < base) W) xs l
theorem BackSt.below {base : Nat} {W W' : World} {v : Value} {l : List Stil.Inst} (h : BackSt base W v l) (hb : Below W.heap.size W W') : BackSt base W' v l := by
  obtain ⟨xs, h1, h2⟩ := h
  exact ⟨xs, ownsRow_below h1 hb, h2.imp fun _ _ _ h => h.keep (KeepsIn.of_below hb)⟩
theorem BackSt.in {base : Nat} {W : World} {v : Value} {l : List Stil.Inst} (h : BackSt base W v l) : InstsIn (fun _ => True) W v l := by
  obtain ⟨xs, h1, h2⟩ := h
  exact instsIn_of_row h1 (h2.imp fun _ _ _ h => h.mono fun _ _ _ => trivial) fun _ _ => trivial
theorem back_new (W : World) : BackSt W.heap.size (W.alloc (.cells #[] 43)) (.slice (some ⟨W.heap.size, 0, none⟩) 0 0) [] := by
  have := World.ownsRow_lit (base := W.heap.size) (e := 43) (size := 3) W #[] 0 (by omega) (by unfold maxLen; omega) rfl
  exact ⟨[], by simpa using this, RowOf.nil _ _⟩
set_option maxHeartbeats 1000000 in
theorem wpList_back {ops : Array Oper} {rest : List Oper} {o : Oper} {a : Act} {W : World} {Q : Exit → Act → World → Prop} (hgd : o.guard = none) (s x : Operand)
    (ho : o.op = .call { callee := .builtin .append, args := #[s, x], argTypes := #[23, 23] }) (base : Nat) (v kv : Value) (l ms : List Stil.Inst) (hs : a.eval s = v) (hx : a.eval x = kv)
    (hst : BackSt base W v l) (hk : InstsIn (fun b => b < base) W kv ms) (hne : 0 < ms.length) (hl : l.length + ms.length ≤ 1000000) (hb : base ≤ W.heap.size)
    (h : ∀ a' c' w', BackSt base w' (.slice a' (l.length + ms.length) c') (l ++ ms) → (∀ w0, Below base w0 W → base ≤ w0.heap.size → Below base w0 w') → wpList Tryz.prog ops Q rest (a.put o.dst (.slice a' (l.length + ms.length) c')) w') : wpList Tryz.prog ops Q (o :: rest) a W := by
  obtain ⟨i0, hi, hy0, hy1, hy2⟩ := info_parts info_inst
  obtain ⟨xs, hown, hrow⟩ := hst
  obtain ⟨ad, cap, rfl, hq, us, hrk, hcell⟩ := row_of_insts hk
  obtain ⟨p, rfl⟩ : ∃ p, ad = some p := by
    cases ad with
    | none => exact absurd (hq.2 rfl) (by have := hq.1; omega)
    | some p => exact ⟨p, rfl⟩
  refine wpList_append_own_at W hgd s x 23 ho base 43 i0 (.agg #[.int .i64 0, .int .i64 0, .slice none 0 0]) 3 40 Tryz.underlying23 hi hy0 hy1 hy2 rfl (by decide) v l.length xs hs hown p ms.length cap us hx hrk.1 (hcell _ rfl) (row_cells hrk) (by unfold maxLen; omega) (by omega) hb ?_
  intro v' w' hown' hgr' _ hat
  obtain ⟨a', c', rfl, -⟩ := own_open hown'
  have hlo : ∀ k, v.ownBlock = some k → base ≤ k := fun k hk => (hown.lt k hk).1
  have hk2 : ∀ cs e, InstC (fun b => b < base) W cs e → InstC (fun b => b < base) w' cs e := fun cs e h => h.keep (KeepsIn.of_grown hgr' fun b hb e => by have := hlo b e; omega)
  exact h a' c' w' ⟨xs ++ us, by simpa using hown', (hrow.append hrk).imp fun cs e _ => hk2 cs e⟩ (fun w0 h0 h1 => bg_own h0 hgr' hlo h1)
end Go.Proofs.YtbfkfdbkjbgneaaGreatDoor
/- The law on lists one behind the other and on rungs: the walk. -/
namespace Go.Proofs.YtbfkfdbkjbgneaaGreatDoor
open Go.RowKit Go.Sort Go.BigFrame
open Classical in
set_option maxHeartbeats 1000000 in
theorem i_listSame (es fs : List Stil.Inst) (v u : Value) (w : World) (hat : InstsAt w v es) (hau : InstsAt w u fs) (hf : ∀ x ∈ es, x.fits) (hg : ∀ x ∈ fs, x.fits) (hl : es.length ≤ 1048576) (hm : fs.length ≤ 1048576) :
    Calls Tryz.prog 11 #[v, u] w fun e w' => e = .returned (.bool (decide (es = fs))) ∧ Below w.heap.size w w' := by
  have H : Hid (∀ W, Below w.heap.size w W → Calls Tryz.prog 21 #[v, u, .func (.func 22) #[] #[]] W fun e w' => e = .returned (.bool (decide (es = fs))) ∧ Below W.heap.size W w') := fun W h => i_eqfInsts es fs (fun x hx y hy => i_instSame x y (hf x hx) (hg y hy)) v u W (hat.below h) (hau.below h) hl hm
  obtain ⟨a1, c1, rfl, -⟩ := hat
  obtain ⟨a2, c2, rfl, -⟩ := hau
  go_enter Tryz.func11, Tryz.ntmps11
  go_wp2_with (go_at_call 21; refine (H.out _ (by (repeat (first | with_reducible exact Below.refl _ _ | with_reducible assumption | with_reducible refine bl_set (by first | exact Nat.le_refl _ | (simp; done) | (simp; omega) | omega) ?_ _ | with_reducible refine bl_alloc ?_ _ | with_reducible refine bl_drewN ?_ _ | with_reducible refine bl_drew ?_ | with_reducible refine bl_grow ?_ _ _ | with_reducible refine bl_call ?_ (by assumption))))).mono ?_; rintro e w1 ⟨rfl, hb⟩)
  go_ret
  exact ⟨rfl, by (repeat (first | with_reducible exact Below.refl _ _ | with_reducible assumption | with_reducible refine bl_set (by first | exact Nat.le_refl _ | (simp; done) | (simp; omega) | omega) ?_ _ | with_reducible refine bl_alloc ?_ _ | with_reducible refine bl_drewN ?_ _ | with_reducible refine bl_drew ?_ | with_reducible refine bl_grow ?_ _ _ | with_reducible refine bl_call ?_ (by assumption)))⟩
set_option maxHeartbeats 1000000 in
theorem s_drawSureRungs (v : Value) (w : World) (hv : BytesAt w v) : Calls Tryz.prog 9 #[v] w fun e w' => HalfOut e w w' := by
  have HV : Hid (BytesAt w v) := hv
  obtain ⟨av, lv, cv, rfl, -⟩ := hv
  go_enter Tryz.func9, Tryz.ntmps9
  go_wp2_with (go_at_call 12; refine (s_l6Half _ _ HV.out).mono ?_; rintro e w3 ⟨l3, v3, rfl, h3⟩; have HO : Hid (HalfOut (.returned v3) w w3) := ⟨l3, v3, rfl, h3⟩; clear h3)
  go_ret
  exact HO.out
theorem flat_take (L : List (List Stil.Inst)) (j : Nat) (h : j < L.length) : (L.take (j + 1)).flatten = (L.take j).flatten ++ L[j] := by
  rw [List.take_succ_eq_append_getElem h, List.flatten_append]
  simp
theorem flat_len (L : List (List Stil.Inst)) (j : Nat) : (L.take j).flatten.length ≤ L.flatten.length := by
  have h := congrArg List.length (congrArg List.flatten (List.take_append_drop j L))
  rw [List.flatten_append, List.length_append] at h
  omega
set_option maxHeartbeats 4000000 in
set_option maxRecDepth 100000 in
theorem law_sureJoin (u t : Value) (w : World) (hrow : RowsAt w) (hlw : LWordsAt w) (hu : BytesAt w u) (ht : BytesAt w t) :
    Calls Tryz.prog 4 #[u, t] w fun e w' => e = .returned (.bool true) ∧ Below w.heap.size w w' := by
  have HR : Hid (∀ W, Below w.heap.size w W → RowsAt W ∧ LWordsAt W) := fun W h => ⟨hrow.below h, hlw.below h⟩
  have HDU : Hid (∀ W, Below w.heap.size w W → Calls Tryz.prog 9 #[u] W fun e w' => HalfOut e W w') := fun W h => s_drawSureRungs u W (hu.below h)
  have HDT : Hid (∀ W, Below w.heap.size w W → Calls Tryz.prog 9 #[t] W fun e w' => HalfOut e W w') := fun W h => s_drawSureRungs t W (ht.below h)
  have hfw : ∀ (u0 u1 : Value) (w : World), (Instr.field 26 (.agg #[u0, u1]) 0).run Tryz.prog w = .ok u0 w := fun _ _ _ => by kernel_rfl
  obtain ⟨ua, ul, uc, rfl, -, -, -⟩ := hu
  obtain ⟨ta, tl, tc, rfl, -, -, -⟩ := ht
  clear hrow hlw
  by_cases hbig : 1048576 < ul
  · go_enter Tryz.func4, Tryz.ntmps4
    go_wp2
    go_ret
    exact ⟨rfl, by (repeat (first | with_reducible exact Below.refl _ _ | with_reducible assumption | with_reducible refine bl_set (by first | exact Nat.le_refl _ | (simp; done) | (simp; omega) | omega) ?_ _ | with_reducible refine bl_alloc ?_ _ | with_reducible refine bl_drewN ?_ _ | with_reducible refine bl_drew ?_ | with_reducible refine bl_grow ?_ _ _ | with_reducible refine bl_call ?_ (by assumption)))⟩
  by_cases hbig2 : 1048576 < tl
  · go_enter Tryz.func4, Tryz.ntmps4
    go_wp2
    go_ret
    exact ⟨rfl, by (repeat (first | with_reducible exact Below.refl _ _ | with_reducible assumption | with_reducible refine bl_set (by first | exact Nat.le_refl _ | (simp; done) | (simp; omega) | omega) ?_ _ | with_reducible refine bl_alloc ?_ _ | with_reducible refine bl_drewN ?_ _ | with_reducible refine bl_drew ?_ | with_reducible refine bl_grow ?_ _ _ | with_reducible refine bl_call ?_ (by assumption)))⟩
  go_enter Tryz.func4, Tryz.ntmps4
  go_upto_region 4 with (go_at_call 9; refine (HDU.out _ (by (repeat (first | with_reducible exact Below.refl _ _ | with_reducible assumption | with_reducible refine bl_set (by first | exact Nat.le_refl _ | (simp; done) | (simp; omega) | omega) ?_ _ | with_reducible refine bl_alloc ?_ _ | with_reducible refine bl_drewN ?_ _ | with_reducible refine bl_drew ?_ | with_reducible refine bl_grow ?_ _ _ | with_reducible refine bl_call ?_ (by assumption))))).mono ?_; rintro e w1 ⟨la, va, rfl, hina, hta, hna, hb1⟩)
  have HIA : Hid (InstsIn (fun b => w.heap.size < b) w1 va la) := hina
  have HTA : Hid (∀ i ∈ la, ITame i ∧ i.one.args.length ≤ 4) := hta
  have HBW1 : Hid (Below w.heap.size w w1) := hb1
  obtain ⟨aa, ka, rfl, -⟩ := id hina
  clear hina hta hb1 HDU
  go_upto_region 5 with (go_at_call 9; refine (HDT.out _ HBW1.out).mono ?_; rintro e w2 ⟨lb, vb, rfl, hinb, htb, hnb, hb2⟩)
  have HIB : Hid (InstsIn (fun b => w1.heap.size < b) w2 vb lb) := hinb
  have HTB : Hid (∀ i ∈ lb, ITame i ∧ i.one.args.length ≤ 4) := htb
  have HIA2 : Hid (InstsIn (fun b => w.heap.size < b) w2 (.slice aa la.length ka) la) := HIA.out.keep (KeepsIn.of_below hb2)
  have hbw2 : Below w.heap.size w w2 := HBW1.out.trans (hb2.mono HBW1.out.size)
  have hz12 : w.heap.size ≤ w1.heap.size := HBW1.out.size
  have hz22 := hb2.size
  obtain ⟨ab, kb, rfl, -⟩ := id hinb
  have HLA : Hid (LstF w2 (.slice aa la.length ka) la) := lstF (lst_of HIA2.out HTA.out hna (by omega))
  have HLB : Hid (LstF w2 (.slice ab lb.length kb) lb) := lstF (lst_of hinb htb hnb (by omega))
  have HR2 : Hid (∀ W, Below w2.heap.size w2 W → RowsAt W ∧ LWordsAt W) := fun W h => HR.out W (hbw2.trans (h.mono hbw2.size))
  have HFIN : Hid (∀ W, Below w2.heap.size w2 W → Below w.heap.size w W) := fun W h => hbw2.trans (h.mono hbw2.size)
  obtain ⟨L, hL⟩ : ∃ L, L = Stil.sureRungs la := ⟨_, rfl⟩
  obtain ⟨c1, hc1⟩ : ∃ c, c = (Stil.sureCheck la).1 := ⟨_, rfl⟩
  obtain ⟨c2, hc2⟩ : ∃ c, c = (Stil.sureCheck la).2 := ⟨_, rfl⟩
  have HLR : Hid (∀ r ∈ L, Stil.sureCheck r = (0, 0) ∧ (Stil.sureRungs r).length = 1 ∧ 0 < r.length ∧ (∀ x ∈ r, x ∈ la) ∧ r.length ≤ 1000) := by
    intro r hr
    rw [hL] at hr
    by_cases hz : (Stil.sureCheck la).1 = 0
    · have h1 := (Stil.sure_rungs hz).2 r hr
      have e0 : Stil.sureRungs la = Stil.rungsFrom [] la := by unfold Stil.sureRungs; rw [if_neg (by omega)]
      rw [e0] at hr
      have h2 := Stil.rungsFrom_mem la [] r hr
      have h3 := Stil.sureCheck_len hz
      refine ⟨h1.1, h1.2, h2.1, fun x hx => ?_, by have := h2.2.2; simp at this; omega⟩
      rcases h2.2.1 x hx with h | h
      · cases h
      · exact h
    · have hp := (Stil.check_bounds la).1
      have e0 : Stil.sureRungs la = [] := by unfold Stil.sureRungs; rw [if_pos (by omega)]
      rw [e0] at hr
      cases hr
  have HOK : Hid (c1 = 0 → L.flatten = la ∧ la.length ≤ 1000) := fun h => by
    rw [hL]
    rw [hc1] at h
    exact ⟨(Stil.sure_rungs h).1, Stil.sureCheck_len h⟩
  have HNO : Hid (c1 ≠ 0 → L = [] ∧ 0 < c1) := fun h => by
    have hp := (Stil.check_bounds la).1
    rw [← hc1] at hp
    refine ⟨?_, by omega⟩
    rw [hL]
    unfold Stil.sureRungs
    rw [if_pos (by rw [← hc1]; omega)]
  have HJN : Hid (c1 = 0 → (Stil.sureCheck lb).1 = 0 → la.length + lb.length ≤ 1000 → Stil.sureCheck (la ++ lb) = (0, 0) ∧ (Stil.sureRungs (la ++ lb)).length = L.length + (Stil.sureRungs lb).length) := fun h1 h2 h3 => by
    rw [hL]
    exact Stil.sure_join (by rw [← hc1]; exact h1) h2 h3
  have hLn : L.length ≤ 1048576 := by
    rw [hL]
    unfold Stil.sureRungs
    split
    · simp
    · have := Stil.rungsFrom_len la []
      omega
  have hfl : L.flatten.length ≤ 1000 := by
    by_cases hz : c1 = 0
    · obtain ⟨h1, h2⟩ := HOK.out hz
      rw [h1]; exact h2
    · rw [(HNO.out hz).1]; simp
  have HRU : Hid (∀ W, Below w2.heap.size w2 W → Calls Tryz.prog 10 #[.slice aa la.length ka] W fun e w' => ∃ (a : Option Addr) (cap : Nat), e = .returned (.slice a L.length cap) ∧ InstssIn (fun b => b < w'.heap.size) w' (.slice a L.length cap) L ∧ Below W.heap.size W w') := fun W h => by
    rw [hL]
    exact i_rungsL HR2.out HLA.out h
  have HSC : Hid (∀ W, Below w2.heap.size w2 W → Calls Tryz.prog 7 #[.slice aa la.length ka] W fun e w' => e = .returned (.agg #[.int .i64 c1, .int .i64 c2]) ∧ Below W.heap.size W w') := fun W h => by
    rw [hc1, hc2]
    exact s_checkL HLA.out h
  have HIC : Hid (∀ W, Below w2.heap.size w2 W → Calls Tryz.prog 6 #[.slice aa la.length ka] W fun e w' => e = .returned (.agg #[.int .i64 c1, .int .i64 c2]) ∧ Below W.heap.size W w') := fun W h => by
    rw [hc1, hc2]
    exact i_checkL HR2.out HLA.out h
  clear hinb htb hb2 hbw2 HIA HDT HR HBW1 hL hc1 hc2
  go_wp2_with (first | (go_at_call 10; refine (HRU.out _ (by (repeat (first | with_reducible exact Below.refl _ _ | with_reducible assumption | with_reducible refine bl_set (by first | exact Nat.le_refl _ | (simp; done) | (simp; omega) | omega) ?_ _ | with_reducible refine bl_alloc ?_ _ | with_reducible refine bl_drewN ?_ _ | with_reducible refine bl_drew ?_ | with_reducible refine bl_grow ?_ _ _ | with_reducible refine bl_call ?_ (by assumption))))).mono ?_; rintro e w3 ⟨ar, kr, rfl, hin3, hb3⟩) | (go_at_call 7; refine (HSC.out _ (by (repeat (first | with_reducible exact Below.refl _ _ | with_reducible assumption | with_reducible refine bl_set (by first | exact Nat.le_refl _ | (simp; done) | (simp; omega) | omega) ?_ _ | with_reducible refine bl_alloc ?_ _ | with_reducible refine bl_drewN ?_ _ | with_reducible refine bl_drew ?_ | with_reducible refine bl_grow ?_ _ _ | with_reducible refine bl_call ?_ (by assumption))))).mono ?_; rintro e w4 ⟨rfl, hb4⟩))
  have hb24 : Below w2.heap.size w2 w4 := by (repeat (first | with_reducible exact Below.refl _ _ | with_reducible assumption | with_reducible refine bl_set (by first | exact Nat.le_refl _ | (simp; done) | (simp; omega) | omega) ?_ _ | with_reducible refine bl_alloc ?_ _ | with_reducible refine bl_drewN ?_ _ | with_reducible refine bl_drew ?_ | with_reducible refine bl_grow ?_ _ _ | with_reducible refine bl_call ?_ (by assumption)))
  have hz34 := hb4.size
  have HRG : Hid (∀ W, Below w4.heap.size w4 W → InstssIn (fun b => b < w4.heap.size) W (.slice ar L.length kr) L) := fun W h => by
    have h1 := (hin3.below hb4).top
    exact h1.below h
  have HFI4 : Hid (∀ W, Below w4.heap.size w4 W → Below w2.heap.size w2 W) := fun W h => hb24.trans (h.mono hb24.size)
  clear hin3 hb3 hb4 HRU HSC
  go_loopw [9, 10] (fun bk i wr => ∃ j : Nat, j ≤ L.length ∧ i = .int .i64 (j : Int) ∧ BackSt w4.heap.size wr bk (L.take j).flatten ∧ Below w4.heap.size w4 wr ∧ w4.heap.size < wr.heap.size) (fun _ i _ => L.length - (intOf i).toNat)
  case atStart => exact ⟨0, Nat.zero_le _, rfl, by simpa using back_new w4, below_alloc _ _, by simp⟩
  case round =>
    obtain ⟨j, hj, rfl, hst, hB, hzs⟩ := hrel
    by_cases hlt : j < L.length
    · obtain ⟨r, hr⟩ : ∃ r, r = L[j] := ⟨_, rfl⟩
      obtain ⟨hr1, hr2, hr3, hr4, hr5⟩ := HLR.out r (by rw [hr]; exact List.getElem_mem hlt)
      have HFT : Hid ((L.take (j + 1)).flatten = (L.take j).flatten ++ r) := by show _ = _; rw [hr]; exact flat_take L j hlt
      have hfj : (L.take j).flatten.length ≤ 1000 := Nat.le_trans (flat_len L j) hfl
      obtain ⟨a', c', e', hc⟩ := HRG.out w4 (Below.refl _ _)
      injection e' with ea eb ec
      subst ea ec
      obtain ⟨bR, rfl, hbR, rv, hcl, hin⟩ := hc j hlt
      rw [← hr] at hin
      obtain ⟨arv, crv, rfl, -⟩ := id hin
      have HIN : Hid (∀ W, Below w4.heap.size w4 W → InstsIn (fun b => b < w4.heap.size) W (.slice arv r.length crv) r) := fun W h => hin.keep (KeepsIn.of_below h)
      have HLr : Hid (LstF w4 (.slice arv r.length crv) r) := lstF ⟨hin.at, fun x hx => (HTA.out x (hr4 x hx)).1.fits, by omega⟩
      have HC1 : Hid (∀ W, Below w4.heap.size w4 W → Calls Tryz.prog 6 #[.slice arv r.length crv] W fun e w' => e = .returned (.agg #[.int .i64 0, .int .i64 0]) ∧ Below W.heap.size W w') := fun W h => by
        have := i_checkL (fun W h => HR2.out W (HFI4.out W h)) HLr.out h
        rw [hr1] at this
        exact this
      have HC2 : Hid (∀ W, Below w4.heap.size w4 W → Calls Tryz.prog 10 #[.slice arv r.length crv] W fun e w' => ∃ (a : Option Addr) (cap : Nat), e = .returned (.slice a 1 cap) ∧ Below W.heap.size W w') := fun W h => (i_rungsL (fun W h => HR2.out W (HFI4.out W h)) HLr.out h).mono fun e w' ⟨a, cap, h1, _, h3⟩ => ⟨a, cap, by rw [h1, hr2], h3⟩
      obtain ⟨m, hm⟩ : ∃ m, m = (L.take j).flatten := ⟨_, rfl⟩
      rw [← hm] at hst HFT hfj
      have HST : Hid (∀ W, Below wr.heap.size wr W → BackSt w4.heap.size W u9 m) := fun W h => hst.below h
      have hzr := hB.size
      have y0 := (hB.cell (p := ⟨bR, j, none⟩) hbR).trans hcl
      clear hst hc hin hr hr1 hr2 hr4 hcl eb HLr hm
      go_wp2_with (first | (go_at_call 6; refine (HC1.out _ (by (repeat (first | with_reducible exact Below.refl _ _ | with_reducible assumption | with_reducible refine bl_set (by first | exact Nat.le_refl _ | (simp; done) | (simp; omega) | omega) ?_ _ | with_reducible refine bl_alloc ?_ _ | with_reducible refine bl_drewN ?_ _ | with_reducible refine bl_drew ?_ | with_reducible refine bl_grow ?_ _ _ | with_reducible refine bl_call ?_ (by assumption))))).mono ?_; rintro e w5 ⟨rfl, hb5⟩; have y1 := (hb5.cell (p := ⟨bR, j, none⟩) (by show bR < _; omega)).trans y0; have hz5 := hb5.size) | (go_at_call 10; refine (HC2.out _ (by (repeat (first | with_reducible exact Below.refl _ _ | with_reducible assumption | with_reducible refine bl_set (by first | exact Nat.le_refl _ | (simp; done) | (simp; omega) | omega) ?_ _ | with_reducible refine bl_alloc ?_ _ | with_reducible refine bl_drewN ?_ _ | with_reducible refine bl_drew ?_ | with_reducible refine bl_grow ?_ _ _ | with_reducible refine bl_call ?_ (by assumption))))).mono ?_; rintro e w6 ⟨a6, k6, rfl, hb6⟩; have y2 := (hb6.cell (p := ⟨bR, j, none⟩) (by show bR < _; omega)).trans y1; have hz6 := hb6.size; have HB6 : Hid (Below w4.heap.size w4 w6) := (by show Below _ _ _; (repeat (first | with_reducible exact Below.refl _ _ | with_reducible assumption | with_reducible refine bl_set (by first | exact Nat.le_refl _ | (simp; done) | (simp; omega) | omega) ?_ _ | with_reducible refine bl_alloc ?_ _ | with_reducible refine bl_drewN ?_ _ | with_reducible refine bl_drew ?_ | with_reducible refine bl_grow ?_ _ _ | with_reducible refine bl_call ?_ (by assumption)))); have HR6 : Hid (Below wr.heap.size wr w6) := hb5.trans (hb6.mono hb5.size)) | (at_builtin; refine wpList_back rfl _ _ rfl w4.heap.size u9 (.slice arv r.length crv) m r rfl rfl (HST.out _ HR6.out) (HIN.out _ HB6.out) hr3 (by omega) (by omega) ?_; intro a7 c7 w7 hst7 hbl7))
      go_roundw
      case rel => exact ⟨j + 1, hlt, by simp, by rw [HFT.out]; exact hst7, hbl7 w4 HB6.out (Nat.le_refl _), by have := (hbl7 w6 (Below.refl _ _) (by omega)).size; omega⟩
      case measure => simp [intOf]; omega
    · obtain rfl : j = L.length := by omega
      rw [List.take_length] at hst
      have HBR : Hid (Below w2.heap.size w2 wr) := HFI4.out wr hB
      clear HRG
      by_cases hz : c1 = 0
      · subst hz
        obtain ⟨hfe, hla⟩ := HOK.out rfl
        rw [hfe] at hst
        have HBK : Hid (InstsAt wr u9 la) := hst.in.at
        obtain ⟨a9, k9, rfl, -⟩ := HBK.out
        clear hst hfe
        obtain ⟨d1, hd1⟩ : ∃ c, c = (Stil.sureCheck lb).1 := ⟨_, rfl⟩
        obtain ⟨d2, hd2⟩ : ∃ c, c = (Stil.sureCheck lb).2 := ⟨_, rfl⟩
        have hd0 : 0 ≤ d1 := by rw [hd1]; exact (Stil.check_bounds lb).1
        have HLS : Hid (∀ W, Below wr.heap.size wr W → Calls Tryz.prog 11 #[.slice a9 la.length k9, .slice aa la.length ka] W fun e w' => e = .returned (.bool true) ∧ Below W.heap.size W w') := fun W h => by
          have h2 := HLA.out W (HBR.out.trans (h.mono HBR.out.size))
          have := i_listSame la la _ _ W (HBK.out.below h) h2.1 h2.2.1 h2.2.1 h2.2.2 h2.2.2
          simpa using this
        have HSB : Hid (∀ W, Below wr.heap.size wr W → Calls Tryz.prog 7 #[.slice ab lb.length kb] W fun e w' => e = .returned (.agg #[.int .i64 d1, .int .i64 d2]) ∧ Below W.heap.size W w') := fun W h => by
          rw [hd1, hd2]
          exact s_checkL HLB.out (HBR.out.trans (h.mono HBR.out.size))
        have HFR : Hid (∀ W, Below wr.heap.size wr W → Below w.heap.size w W) := fun W h => HFIN.out W (HBR.out.trans (h.mono HBR.out.size))
        rw [← hd1] at HJN
        clear hd1 hd2
        by_cases hdb : 0 < d1
        · go_wp2_with (first | (go_at_call 11; refine (HLS.out _ (by (repeat (first | with_reducible exact Below.refl _ _ | with_reducible assumption | with_reducible refine bl_set (by first | exact Nat.le_refl _ | (simp; done) | (simp; omega) | omega) ?_ _ | with_reducible refine bl_alloc ?_ _ | with_reducible refine bl_drewN ?_ _ | with_reducible refine bl_drew ?_ | with_reducible refine bl_grow ?_ _ _ | with_reducible refine bl_call ?_ (by assumption))))).mono ?_; rintro e w5 ⟨rfl, hb5⟩) | (go_at_call 7; refine (HSB.out _ (by (repeat (first | with_reducible exact Below.refl _ _ | with_reducible assumption | with_reducible refine bl_set (by first | exact Nat.le_refl _ | (simp; done) | (simp; omega) | omega) ?_ _ | with_reducible refine bl_alloc ?_ _ | with_reducible refine bl_drewN ?_ _ | with_reducible refine bl_drew ?_ | with_reducible refine bl_grow ?_ _ _ | with_reducible refine bl_call ?_ (by assumption))))).mono ?_; rintro e w6 ⟨rfl, hb6⟩))
          go_ret
          exact ⟨by first | rfl | simp, HFR.out _ (by (repeat (first | with_reducible exact Below.refl _ _ | with_reducible assumption | with_reducible refine bl_set (by first | exact Nat.le_refl _ | (simp; done) | (simp; omega) | omega) ?_ _ | with_reducible refine bl_alloc ?_ _ | with_reducible refine bl_drewN ?_ _ | with_reducible refine bl_drew ?_ | with_reducible refine bl_grow ?_ _ _ | with_reducible refine bl_call ?_ (by assumption))))⟩
        · obtain rfl : d1 = 0 := by omega
          have hws : IntKind.i64.wrap ((la.length : Int) + (lb.length : Int)) = (la.length : Int) + (lb.length : Int) := by rw [IntKind.wrap_i64]; omega
          by_cases hmany : 1000 < la.length + lb.length
          · have hd : decide (1000 < (la.length : Int) + (lb.length : Int)) = true := by simp; omega
            go_wp2_with (first | (go_at_call 11; refine (HLS.out _ (by (repeat (first | with_reducible exact Below.refl _ _ | with_reducible assumption | with_reducible refine bl_set (by first | exact Nat.le_refl _ | (simp; done) | (simp; omega) | omega) ?_ _ | with_reducible refine bl_alloc ?_ _ | with_reducible refine bl_drewN ?_ _ | with_reducible refine bl_drew ?_ | with_reducible refine bl_grow ?_ _ _ | with_reducible refine bl_call ?_ (by assumption))))).mono ?_; rintro e w5 ⟨rfl, hb5⟩) | (go_at_call 7; refine (HSB.out _ (by (repeat (first | with_reducible exact Below.refl _ _ | with_reducible assumption | with_reducible refine bl_set (by first | exact Nat.le_refl _ | (simp; done) | (simp; omega) | omega) ?_ _ | with_reducible refine bl_alloc ?_ _ | with_reducible refine bl_drewN ?_ _ | with_reducible refine bl_drew ?_ | with_reducible refine bl_grow ?_ _ _ | with_reducible refine bl_call ?_ (by assumption))))).mono ?_; rintro e w6 ⟨rfl, hb6⟩))
            go_ret
            exact ⟨by first | rfl | simp, HFR.out _ (by (repeat (first | with_reducible exact Below.refl _ _ | with_reducible assumption | with_reducible refine bl_set (by first | exact Nat.le_refl _ | (simp; done) | (simp; omega) | omega) ?_ _ | with_reducible refine bl_alloc ?_ _ | with_reducible refine bl_drewN ?_ _ | with_reducible refine bl_drew ?_ | with_reducible refine bl_grow ?_ _ _ | with_reducible refine bl_call ?_ (by assumption))))⟩
          · have hd : decide (1000 < (la.length : Int) + (lb.length : Int)) = false := by simp; omega
            have HJ2 : Hid (Stil.sureCheck (la ++ lb) = (0, 0) ∧ (Stil.sureRungs (la ++ lb)).length = L.length + (Stil.sureRungs lb).length) := HJN.out rfl rfl (by omega)
            go_upto_region 20 with (first | (go_at_call 11; refine (HLS.out _ (by (repeat (first | with_reducible exact Below.refl _ _ | with_reducible assumption | with_reducible refine bl_set (by first | exact Nat.le_refl _ | (simp; done) | (simp; omega) | omega) ?_ _ | with_reducible refine bl_alloc ?_ _ | with_reducible refine bl_drewN ?_ _ | with_reducible refine bl_drew ?_ | with_reducible refine bl_grow ?_ _ _ | with_reducible refine bl_call ?_ (by assumption))))).mono ?_; rintro e w5 ⟨rfl, hb5⟩) | (go_at_call 7; refine (HSB.out _ (by (repeat (first | with_reducible exact Below.refl _ _ | with_reducible assumption | with_reducible refine bl_set (by first | exact Nat.le_refl _ | (simp; done) | (simp; omega) | omega) ?_ _ | with_reducible refine bl_alloc ?_ _ | with_reducible refine bl_drewN ?_ _ | with_reducible refine bl_drew ?_ | with_reducible refine bl_grow ?_ _ _ | with_reducible refine bl_call ?_ (by assumption))))).mono ?_; rintro e w6 ⟨rfl, hb6⟩))
            have hbr6 : Below wr.heap.size wr w6 := by (repeat (first | with_reducible exact Below.refl _ _ | with_reducible assumption | with_reducible refine bl_set (by first | exact Nat.le_refl _ | (simp; done) | (simp; omega) | omega) ?_ _ | with_reducible refine bl_alloc ?_ _ | with_reducible refine bl_drewN ?_ _ | with_reducible refine bl_drew ?_ | with_reducible refine bl_grow ?_ _ _ | with_reducible refine bl_call ?_ (by assumption)))
            have hzr6 := hbr6.size
            have hz24 := hb24.size
            have hb26 : Below w2.heap.size w2 w6 := HBR.out.trans (hbr6.mono HBR.out.size)
            have hz26 := hb26.size
            have HA6 : Hid (InstsIn (fun b => w.heap.size < b) w6 (.slice aa la.length ka) la) := HIA2.out.keep (KeepsIn.of_below hb26)
            have HB6 : Hid (InstsIn (fun b => w1.heap.size < b ∧ b < w6.heap.size) w6 (.slice ab lb.length kb) lb) := (HIB.out.keep (KeepsIn.of_below hb26)).mono fun b h1 h2 => ⟨h2, h1⟩
            have HBW6 : Hid (Below w2.heap.size w2 w6) := hb26
            clear hb5 hb6 hbr6 hb26 HLS HSB HJN HOK HNO
            have hzw6 : w.heap.size < w6.heap.size := by omega
            go_upto_region 21 with (first | (at_builtin; refine wpList_copy_insts rfl _ _ rfl (fun b => w.heap.size < b) w6 la (.slice aa la.length ka) rfl rfl rfl HA6.out (by omega) ?_; intro bb cc w7 xs hown hrow hbb1 hbb2 hgr7; have HO7 : Hid (w7.ownsRow w6.heap.size 43 3 (.slice (some ⟨bb, 0, none⟩) la.length cc) la.length xs) := hown; have HRO : Hid (RowOf 3 (InstC (fun b => w.heap.size < b ∧ b < w6.heap.size) w7) xs la) := hrow; have HI7 : Hid (InstsIn (fun b => w1.heap.size < b ∧ b < w6.heap.size) w7 (.slice ab lb.length kb) lb) := (HB6.out.keep (KeepsIn.of_below (below_alloc _ _))).keep (KeepsIn.of_grown hgr7 fun b hb e => (by simp only [Option.some.injEq] at e; have := hb.2; omega)); have HB7 : Hid (Below w2.heap.size w2 w7) := bg_own (HBW6.out.trans ((below_alloc _ _).mono HBW6.out.size)) hgr7 (fun j hj => (by simp at hj; omega)) (Nat.le_refl _); have hz7 : w6.heap.size < w7.heap.size := (by have := hgr7.size; simp at this; omega); clear hown hrow hgr7) | (at_builtin; refine wpList_join_insts rfl _ _ rfl w6.heap.size w.heap.size bb la.length cc (.slice ab lb.length kb) la lb xs rfl rfl rfl HO7.out (HRO.out.imp fun _ _ _ h => h.mono fun b _ hb => ⟨hb.1, by simp [Value.ownBlock]; omega⟩) (HI7.out.mono fun b _ hb => ⟨by omega, by simp [Value.ownBlock]; omega⟩) (by omega) (by omega) hzw6 ?_; intro a8 k8 w8 hin8 hgr8; have HB8 : Hid (Below w2.heap.size w2 w8) := bg_own HB7.out hgr8 (fun j hj => (by simp at hj; omega)) (Nat.le_refl _); have HL8 : Hid (Lst w8 (.slice a8 (la ++ lb).length k8) (la ++ lb)) := lst_of (q := 4) (n := 1000) hin8 (fun i hi => (by rcases List.mem_append.1 hi with h | h; exact HTA.out i h; exact HTB.out i h)) (by rw [List.length_append]; omega) (by omega); obtain ⟨m8, hm8⟩ : ∃ m, m = la ++ lb := ⟨_, rfl⟩; rw [← hm8] at HL8 HJ2 ⊢; clear hin8 hgr8 hm8))
            obtain ⟨hj1, hj2⟩ := HJ2.out
            obtain ⟨nb, hnb2⟩ : ∃ n, n = (Stil.sureRungs lb).length := ⟨_, rfl⟩
            have hnb3 : nb ≤ 80000 := by
              rw [hnb2]
              unfold Stil.sureRungs
              split
              · simp
              · have := Stil.rungsFrom_len lb []
                omega
            have HLF : Hid (LstF w8 (.slice a8 m8.length k8) m8) := lstF HL8.out
            have HR8 : Hid (∀ W, Below w8.heap.size w8 W → RowsAt W ∧ LWordsAt W) := fun W h => HR2.out W (HB8.out.trans (h.mono HB8.out.size))
            have HC8 : Hid (∀ W, Below w8.heap.size w8 W → Calls Tryz.prog 6 #[.slice a8 m8.length k8] W fun e w' => e = .returned (.agg #[.int .i64 0, .int .i64 0]) ∧ Below W.heap.size W w') := fun W h => by
              have := i_checkL HR8.out HLF.out h
              rw [hj1] at this
              exact this
            have HG8 : Hid (∀ W, Below w8.heap.size w8 W → Calls Tryz.prog 10 #[.slice a8 m8.length k8] W fun e w' => ∃ (a : Option Addr) (cap : Nat), e = .returned (.slice a (L.length + nb) cap) ∧ Below W.heap.size W w') := fun W h => (i_rungsL HR8.out HLF.out h).mono fun e w' ⟨a, cap, h1, _, h3⟩ => ⟨a, cap, by rw [h1, hj2, hnb2], h3⟩
            have HGB : Hid (∀ W, Below w8.heap.size w8 W → Calls Tryz.prog 10 #[.slice ab lb.length kb] W fun e w' => ∃ (a : Option Addr) (cap : Nat), e = .returned (.slice a nb cap) ∧ Below W.heap.size W w') := fun W h => (i_rungsL HR2.out HLB.out (HB8.out.trans (h.mono HB8.out.size))).mono fun e w' ⟨a, cap, h1, _, h3⟩ => ⟨a, cap, by rw [h1, hnb2], h3⟩
            have HF8 : Hid (∀ W, Below w8.heap.size w8 W → Below w.heap.size w W) := fun W h => HFIN.out W (HB8.out.trans (h.mono HB8.out.size))
            have hwn : IntKind.i64.wrap ((L.length : Int) + (nb : Int)) = (L.length : Int) + (nb : Int) := by rw [IntKind.wrap_i64]; omega
            clear hj1 hj2 hnb2 HLF HL8 HJ2 HO7 HRO HI7 HA6 HB6
            go_wp2_with (first | (go_at_call 6; refine (HC8.out _ (by (repeat (first | with_reducible exact Below.refl _ _ | with_reducible assumption | with_reducible refine bl_set (by first | exact Nat.le_refl _ | (simp; done) | (simp; omega) | omega) ?_ _ | with_reducible refine bl_alloc ?_ _ | with_reducible refine bl_drewN ?_ _ | with_reducible refine bl_drew ?_ | with_reducible refine bl_grow ?_ _ _ | with_reducible refine bl_call ?_ (by assumption))))).mono ?_; rintro e w9 ⟨rfl, hb9⟩) | (go_at_call_of 10 (Value.slice a8 m8.length k8); refine (HG8.out _ (by (repeat (first | with_reducible exact Below.refl _ _ | with_reducible assumption | with_reducible refine bl_set (by first | exact Nat.le_refl _ | (simp; done) | (simp; omega) | omega) ?_ _ | with_reducible refine bl_alloc ?_ _ | with_reducible refine bl_drewN ?_ _ | with_reducible refine bl_drew ?_ | with_reducible refine bl_grow ?_ _ _ | with_reducible refine bl_call ?_ (by assumption))))).mono ?_; rintro e w10 ⟨a10, k10, rfl, hb10⟩) | (go_at_call_of 10 (Value.slice ab lb.length kb); refine (HGB.out _ (by (repeat (first | with_reducible exact Below.refl _ _ | with_reducible assumption | with_reducible refine bl_set (by first | exact Nat.le_refl _ | (simp; done) | (simp; omega) | omega) ?_ _ | with_reducible refine bl_alloc ?_ _ | with_reducible refine bl_drewN ?_ _ | with_reducible refine bl_drew ?_ | with_reducible refine bl_grow ?_ _ _ | with_reducible refine bl_call ?_ (by assumption))))).mono ?_; rintro e w11 ⟨a11, k11, rfl, hb11⟩))
            go_ret
            exact ⟨by first | rfl | simp, HF8.out _ (by (repeat (first | with_reducible exact Below.refl _ _ | with_reducible assumption | with_reducible refine bl_set (by first | exact Nat.le_refl _ | (simp; done) | (simp; omega) | omega) ?_ _ | with_reducible refine bl_alloc ?_ _ | with_reducible refine bl_drewN ?_ _ | with_reducible refine bl_drew ?_ | with_reducible refine bl_grow ?_ _ _ | with_reducible refine bl_call ?_ (by assumption))))⟩
      · obtain ⟨hl0, hcp⟩ := HNO.out hz
        subst hl0
        obtain ⟨xs9, hown9, -⟩ := hst
        obtain ⟨a9, k9, rfl, -⟩ := own_open hown9
        clear hown9
        have hz1 : (c1 == 0) = false := beq_eq_false_iff_ne.2 hz
        have HIR : Hid (∀ W, Below wr.heap.size wr W → Calls Tryz.prog 6 #[.slice aa la.length ka] W fun e w' => e = .returned (.agg #[.int .i64 c1, .int .i64 c2]) ∧ Below W.heap.size W w') := fun W h => HIC.out W (HBR.out.trans (h.mono HBR.out.size))
        have HFR : Hid (∀ W, Below wr.heap.size wr W → Below w.heap.size w W) := fun W h => HFIN.out W (HBR.out.trans (h.mono HBR.out.size))
        go_wp2_with (go_at_call 6; refine (HIR.out _ (by (repeat (first | with_reducible exact Below.refl _ _ | with_reducible assumption | with_reducible refine bl_set (by first | exact Nat.le_refl _ | (simp; done) | (simp; omega) | omega) ?_ _ | with_reducible refine bl_alloc ?_ _ | with_reducible refine bl_drewN ?_ _ | with_reducible refine bl_drew ?_ | with_reducible refine bl_grow ?_ _ _ | with_reducible refine bl_call ?_ (by assumption))))).mono ?_; rintro e w5 ⟨rfl, hb5⟩)
        go_ret
        exact ⟨by first | rfl | simp, HFR.out _ (by (repeat (first | with_reducible exact Below.refl _ _ | with_reducible assumption | with_reducible refine bl_set (by first | exact Nat.le_refl _ | (simp; done) | (simp; omega) | omega) ?_ _ | with_reducible refine bl_alloc ?_ _ | with_reducible refine bl_drewN ?_ _ | with_reducible refine bl_drew ?_ | with_reducible refine bl_grow ?_ _ _ | with_reducible refine bl_call ?_ (by assumption))))⟩
end Go.Proofs.YtbfkfdbkjbgneaaGreatDoor
