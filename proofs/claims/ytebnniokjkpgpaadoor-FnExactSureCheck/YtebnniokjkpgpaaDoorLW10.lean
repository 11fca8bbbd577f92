/- The law on SureCheck: the walk. -/
import Derived.Test.YtebnniokjkpgpaaDoorGb
import Derived.Test.YtebnniokjkpgpaaDoorGc
import Derived.Test.YtebnniokjkpgpaaDoorGe
namespace Go.Proofs.YtebnniokjkpgpaaDoor
open Go.RowKit Go.Sort Go.BigFrame
theorem lt_of_cellL {W : World} {t : Addr} {v : Value} (h : W.cell? t = some v) : t.block < W.heap.size := by
  rcases Nat.lt_or_ge t.block W.heap.size with h' | h'
  · exact h'
  · simp [World.cell?, Array.getElem?_eq_none h'] at h
theorem l_szList (l : List Stil.Inst) (hw : ∀ x ∈ l, x.wf) (hl : l.length ≤ 9223372036854775807) (v : Value) (q : Int) (W : World) (hat : InstsAt W v l) (h1 : 0 ≤ q) (h2 : q ≤ 1048576) :
    Calls Tryd.prog 5 #[v, .int .i64 q] W fun e w' => e = .returned (.int .i64 (szL q (Stil.instsSz l))) ∧ Below W.heap.size W w' :=
  l_szInsts l (fun x hx => l_szInst x (hw x hx)) v q W hat h1 h2 hl
theorem l_toList (l : List Stil.Inst) (hf : ∀ x ∈ l, x.fits) (hl : l.length ≤ 1048576) (v : Value) (W : World) (hat : InstsAt W v l) :
    Calls Tryd.prog 7 #[v] W fun e w' => ∃ b, e = .returned (.slice (some ⟨b, 0, none⟩) l.length l.length) ∧ InstsAt w' (.slice (some ⟨b, 0, none⟩) l.length l.length) l ∧ Below W.heap.size W w' := by
  refine (l_toInsts l (fun x hx => l_toInst x (hf x hx)) v W hat hl).mono ?_
  rintro e w1 ⟨rfl, g, hb⟩
  exact ⟨_, rfl, g.at, hb⟩
theorem l_eqList (l : List Stil.Inst) (hf : ∀ x ∈ l, x.fits) (hl : l.length ≤ 1048576) (v u : Value) (W : World) (hat : InstsAt W v l) (hau : InstsAt W u l) :
    Calls Tryd.prog 10 #[v, u] W fun e w' => e = .returned (.bool true) ∧ Below W.heap.size W w' :=
  l_eqInsts l (fun x hx => l_eqInst x (hf x hx)) v u W hat hau hl
set_option maxHeartbeats 2000000 in
set_option maxRecDepth 100000 in
theorem l_eqSureFault (a : Int) (b : Nat) (w : World) : Calls Tryd.prog 9 #[.agg #[.int .i64 a, .int .i64 b], .agg #[.int .i64 a, .int .i64 b]] w fun e w' => e = .returned (.bool true) ∧ Below w.heap.size w w' := by
  go_enter Tryd.func9, Tryd.ntmps9
  go_wp2
  go_ret
  exact ⟨rfl, by (repeat (first | with_reducible exact Below.refl _ _ | with_reducible assumption | with_reducible refine bl_set (by first | exact Nat.le_refl _ | (simp; done) | (simp; omega) | omega) ?_ _ | with_reducible refine bl_alloc ?_ _ | with_reducible refine bl_drewN ?_ _ | with_reducible refine bl_drew ?_ | with_reducible refine bl_grow ?_ _ _ | with_reducible refine bl_call ?_ (by assumption)))⟩
set_option maxHeartbeats 2000000 in
set_option maxRecDepth 100000 in
theorem law_sureCheck (v : Value) (la : List Stil.Inst) (w : World) (hrow : RowsAt w) (hlw : LWordsAt w) (hav : InstsAt w v la) (wfa : ∀ x ∈ la, x.wf) (hla : la.length ≤ 9223372036854775807) :
    Calls Tryd.prog 3 #[v] w fun e w' => e = .returned (.bool true) ∧ Below w.heap.size w w' := by
  have HA : Hid (∀ W, Below w.heap.size w W → InstsAt W v la) := fun W h => hav.below h
  have SA : Hid (∀ W, Below w.heap.size w W → ∀ q, 0 ≤ q → q ≤ 1048576 → Calls Tryd.prog 5 #[v, .int .i64 q] W fun e w' => e = .returned (.int .i64 (szL q (Stil.instsSz la))) ∧ Below W.heap.size W w') := fun W h q => l_szList la wfa hla v q W (hav.below h)
  have FA : Hid (Stil.instsSz la ≤ 1048576 → (∀ x ∈ la, x.fits) ∧ la.length ≤ 1048576) := Stil.insts_fit wfa
  have HRW : Hid (∀ W, Below w.heap.size w W → RowsAt W) := fun W h => hrow.below h
  have HET : Hid (∀ W, Below w.heap.size w W → LWordsAt W) := fun W h => hlw.below h
  clear hrow hlw
  obtain ⟨p0, r0, rfl, _⟩ := hav
  obtain ⟨sa, hsa⟩ : ∃ s, s = Stil.instsSz la := ⟨_, rfl⟩
  rw [← hsa] at SA FA
  clear wfa hsa
  by_cases h1 : (1048576 : Int) - sa < 0
  · have HZ : Hid (szL 1048576 sa = -1) := szL_neg h1
    clear h1
    go_enter Tryd.func3, Tryd.ntmps3
    go_wp2_with (go_at_call 5; refine (SA.out _ (by (repeat (first | with_reducible exact Below.refl _ _ | with_reducible assumption | with_reducible refine bl_set (by first | exact Nat.le_refl _ | (simp; done) | (simp; omega) | omega) ?_ _ | with_reducible refine bl_alloc ?_ _ | with_reducible refine bl_drewN ?_ _ | with_reducible refine bl_drew ?_ | with_reducible refine bl_grow ?_ _ _ | with_reducible refine bl_call ?_ (by assumption)))) _ (by omega) (by omega)).mono ?_; rw [HZ.out]; rintro e w1 ⟨rfl, hb1⟩)
    go_ret
    exact ⟨rfl, by (repeat (first | with_reducible exact Below.refl _ _ | with_reducible assumption | with_reducible refine bl_set (by first | exact Nat.le_refl _ | (simp; done) | (simp; omega) | omega) ?_ _ | with_reducible refine bl_alloc ?_ _ | with_reducible refine bl_drewN ?_ _ | with_reducible refine bl_drew ?_ | with_reducible refine bl_grow ?_ _ _ | with_reducible refine bl_call ?_ (by assumption)))⟩
  obtain ⟨q1, hq1⟩ : ∃ q1 : Int, q1 = 1048576 - sa := ⟨_, rfl⟩
  have hq10 : 0 ≤ q1 := by omega
  have HZ : Hid (szL 1048576 sa = q1) := by show _ = _; rw [szL_nn h1, hq1]
  obtain ⟨hfa, hla2⟩ := FA.out (by omega)
  have HFA : Hid (∀ x ∈ la, x.fits) := hfa
  clear h1 hq1 hfa FA
  obtain ⟨c1, hc1⟩ : ∃ c, c = (Stil.sureCheck la).1 := ⟨_, rfl⟩
  obtain ⟨c2, hc2⟩ : ∃ c, c = (Stil.sureCheck la).2 := ⟨_, rfl⟩
  have HE1 : Hid ((Stil.sureCheck la).1 = c1) := hc1.symm
  have HE2 : Hid ((Stil.sureCheck la).2 = c2) := hc2.symm
  clear hc1 hc2
  go_enter Tryd.func3, Tryd.ntmps3
  go_wp2_with (go_at_call 5; refine (SA.out _ (by (repeat (first | with_reducible exact Below.refl _ _ | with_reducible assumption | with_reducible refine bl_set (by first | exact Nat.le_refl _ | (simp; done) | (simp; omega) | omega) ?_ _ | with_reducible refine bl_alloc ?_ _ | with_reducible refine bl_drewN ?_ _ | with_reducible refine bl_drew ?_ | with_reducible refine bl_grow ?_ _ _ | with_reducible refine bl_call ?_ (by assumption)))) _ (by omega) (by omega)).mono ?_; rw [HZ.out]; rintro e w1 ⟨rfl, hb1⟩)
  go_wp2_with (go_at_call 7; refine (l_toList la HFA.out hla2 _ _ (HA.out _ (by (repeat (first | with_reducible exact Below.refl _ _ | with_reducible assumption | with_reducible refine bl_set (by first | exact Nat.le_refl _ | (simp; done) | (simp; omega) | omega) ?_ _ | with_reducible refine bl_alloc ?_ _ | with_reducible refine bl_drewN ?_ _ | with_reducible refine bl_drew ?_ | with_reducible refine bl_grow ?_ _ _ | with_reducible refine bl_call ?_ (by assumption)))))).mono ?_; rintro e w3 ⟨b3, rfl, g3, hb3⟩)
  have HG3 : Hid (∀ W, Below w3.heap.size w3 W → InstsAt W (.slice (some ⟨b3, 0, none⟩) la.length la.length) la) := fun W h => g3.below h
  clear g3
  go_wp2_with (go_at_call 6; refine (s_sureCheck la _ _ (HG3.out _ (by (repeat (first | with_reducible exact Below.refl _ _ | with_reducible assumption | with_reducible refine bl_set (by first | exact Nat.le_refl _ | (simp; done) | (simp; omega) | omega) ?_ _ | with_reducible refine bl_alloc ?_ _ | with_reducible refine bl_drewN ?_ _ | with_reducible refine bl_drew ?_ | with_reducible refine bl_grow ?_ _ _ | with_reducible refine bl_call ?_ (by assumption))))) hla2 HFA.out).mono ?_; rw [HE1.out, HE2.out]; rintro e w5 ⟨rfl, hb5⟩)
  clear HG3
  go_wp2_with (go_at_call 7; refine (l_toList la HFA.out hla2 _ _ (HA.out _ (by (repeat (first | with_reducible exact Below.refl _ _ | with_reducible assumption | with_reducible refine bl_set (by first | exact Nat.le_refl _ | (simp; done) | (simp; omega) | omega) ?_ _ | with_reducible refine bl_alloc ?_ _ | with_reducible refine bl_drewN ?_ _ | with_reducible refine bl_drew ?_ | with_reducible refine bl_grow ?_ _ _ | with_reducible refine bl_call ?_ (by assumption)))))).mono ?_; rintro e w6 ⟨b6, rfl, g6, hb6⟩; have y0 : w6.cell? ⟨w5.heap.size, 0, none⟩ = some (.int .i64 c1) := (by rw [hb6.cell (p := ⟨w5.heap.size, 0, none⟩) (by simp)]; simp [go_sem]); have y1 : w6.cell? ⟨w5.heap.size, 1, none⟩ = some (.int .i64 c2) := (by rw [hb6.cell (p := ⟨w5.heap.size, 1, none⟩) (by simp)]; simp [go_sem]))
  have HG6 : Hid (∀ W, Below w6.heap.size w6 W → InstsAt W (.slice (some ⟨b6, 0, none⟩) la.length la.length) la) := fun W h => g6.below h
  clear g6
  go_wp2_with (go_at_call 8; refine (i_sureCheck la _ _ (HRW.out _ (by (repeat (first | with_reducible exact Below.refl _ _ | with_reducible assumption | with_reducible refine bl_set (by first | exact Nat.le_refl _ | (simp; done) | (simp; omega) | omega) ?_ _ | with_reducible refine bl_alloc ?_ _ | with_reducible refine bl_drewN ?_ _ | with_reducible refine bl_drew ?_ | with_reducible refine bl_grow ?_ _ _ | with_reducible refine bl_call ?_ (by assumption))))) (HET.out _ (by (repeat (first | with_reducible exact Below.refl _ _ | with_reducible assumption | with_reducible refine bl_set (by first | exact Nat.le_refl _ | (simp; done) | (simp; omega) | omega) ?_ _ | with_reducible refine bl_alloc ?_ _ | with_reducible refine bl_drewN ?_ _ | with_reducible refine bl_drew ?_ | with_reducible refine bl_grow ?_ _ _ | with_reducible refine bl_call ?_ (by assumption))))) (HG6.out _ (by (repeat (first | with_reducible exact Below.refl _ _ | with_reducible assumption | with_reducible refine bl_set (by first | exact Nat.le_refl _ | (simp; done) | (simp; omega) | omega) ?_ _ | with_reducible refine bl_alloc ?_ _ | with_reducible refine bl_drewN ?_ _ | with_reducible refine bl_drew ?_ | with_reducible refine bl_grow ?_ _ _ | with_reducible refine bl_call ?_ (by assumption))))) hla2 HFA.out).mono ?_; rw [HE1.out, HE2.out]; rintro e w8 ⟨rfl, hb8⟩; have z0 : w8.cell? ⟨w5.heap.size, 0, none⟩ = some (.int .i64 c1) := (hb8.cell (lt_of_cellL y0)).trans y0; have z1 : w8.cell? ⟨w5.heap.size, 1, none⟩ = some (.int .i64 c2) := (hb8.cell (lt_of_cellL y1)).trans y1; have hlt8 : w5.heap.size < w8.heap.size := lt_of_cellL z0)
  go_wp2_with (go_at_call 9; refine (l_eqSureFault c1 c2 _).mono ?_; rintro e w9a ⟨rfl, hb9a⟩)
  go_wp2_with (go_at_call 7; refine (l_toList la HFA.out hla2 _ _ (HA.out _ (by (repeat (first | with_reducible exact Below.refl _ _ | with_reducible assumption | with_reducible refine bl_set (by first | exact Nat.le_refl _ | (simp; done) | (simp; omega) | omega) ?_ _ | with_reducible refine bl_alloc ?_ _ | with_reducible refine bl_drewN ?_ _ | with_reducible refine bl_drew ?_ | with_reducible refine bl_grow ?_ _ _ | with_reducible refine bl_call ?_ (by assumption)))))).mono ?_; rintro e w9 ⟨b9, rfl, g9, hb9⟩)
  have HG9 : Hid (∀ W, Below w9.heap.size w9 W → InstsAt W (.slice (some ⟨b9, 0, none⟩) la.length la.length) la) := fun W h => g9.below h
  clear g9
  go_wp2_with (go_at_call 10; refine (l_eqList la HFA.out hla2 _ _ _ (HG6.out _ (by (repeat (first | with_reducible exact Below.refl _ _ | with_reducible assumption | with_reducible refine bl_set (by first | exact Nat.le_refl _ | (simp; done) | (simp; omega) | omega) ?_ _ | with_reducible refine bl_alloc ?_ _ | with_reducible refine bl_drewN ?_ _ | with_reducible refine bl_drew ?_ | with_reducible refine bl_grow ?_ _ _ | with_reducible refine bl_call ?_ (by assumption))))) (HG9.out _ (by (repeat (first | with_reducible exact Below.refl _ _ | with_reducible assumption | with_reducible refine bl_set (by first | exact Nat.le_refl _ | (simp; done) | (simp; omega) | omega) ?_ _ | with_reducible refine bl_alloc ?_ _ | with_reducible refine bl_drewN ?_ _ | with_reducible refine bl_drew ?_ | with_reducible refine bl_grow ?_ _ _ | with_reducible refine bl_call ?_ (by assumption)))))).mono ?_; rintro e w10 ⟨rfl, hb10⟩)
  go_ret
  exact ⟨rfl, by (repeat (first | with_reducible exact Below.refl _ _ | with_reducible assumption | with_reducible refine bl_set (by first | exact Nat.le_refl _ | (simp; done) | (simp; omega) | omega) ?_ _ | with_reducible refine bl_alloc ?_ _ | with_reducible refine bl_drewN ?_ _ | with_reducible refine bl_drew ?_ | with_reducible refine bl_grow ?_ _ _ | with_reducible refine bl_call ?_ (by assumption)))⟩
end Go.Proofs.YtebnniokjkpgpaaDoor
