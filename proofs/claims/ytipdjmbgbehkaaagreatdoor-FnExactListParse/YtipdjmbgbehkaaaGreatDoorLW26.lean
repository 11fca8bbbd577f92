/- The law on ListParse: the walk. -/
import Derived.Test.YtipdjmbgbehkaaaGreatDoorLW10
import Derived.Test.YtipdjmbgbehkaaaGreatDoorI16
import Derived.Test.YtipdjmbgbehkaaaGreatDoorGh
namespace Go.Proofs.YtipdjmbgbehkaaaGreatDoor
open Go.RowKit Go.Sort Go.BigFrame
theorem code_bound (x : List UInt8) : -1 ≤ Stil.codeOf x ∧ Stil.codeOf x ≤ 11 := by unfold Stil.codeOf; (repeat' split) <;> omega
theorem inst_fits (ws : List (List UInt8)) : (Stil.instOf ws).fits := by
  have hc := code_bound (ws.headD [])
  refine ⟨⟨by show _ ≤ Stil.codeOf _; omega, by show Stil.codeOf _ ≤ _; omega⟩, ?_⟩
  unfold Stil.instOf
  match ws with
  | [] => exact ⟨⟨by show (-9223372036854775808 : Int) ≤ 0; decide, by show (0 : Int) ≤ 9223372036854775807; decide⟩, by simp, by simp⟩
  | [_] => exact ⟨⟨by show (-9223372036854775808 : Int) ≤ 0; decide, by show (0 : Int) ≤ 9223372036854775807; decide⟩, by simp, by simp⟩
  | _ :: b :: _ => exact elemRead_fits b
theorem parse_fits : ∀ (ls : List (List UInt8)) (k : Nat) (cs : List Stil.Inst), (∀ x ∈ cs, x.fits) → cs.length ≤ 1000 → (∀ x ∈ (Stil.parseFrom k cs ls).1, x.fits) ∧ (Stil.parseFrom k cs ls).1.length ≤ 1000
  | [], k, cs, h1, h2 => ⟨h1, h2⟩
  | l :: r, k, cs, h1, h2 => by
    rw [Stil.parseFrom]
    split
    · exact parse_fits r (k + 1) cs h1 h2
    · split
      · exact ⟨(fun x hx => by cases hx), by simp⟩
      · split
        · exact ⟨(fun x hx => by cases hx), by simp⟩
        · rename_i hn
          refine parse_fits r (k + 1) _ (fun x hx => ?_) (by simp; omega)
          rcases List.mem_append.1 hx with h | h
          · exact h1 x h
          · rw [List.mem_singleton.1 h]; exact inst_fits _
theorem list_fits (l : List UInt8) : (∀ x ∈ (Stil.listParse l).1, x.fits) ∧ (Stil.listParse l).1.length ≤ 1000 := by
  unfold Stil.listParse
  split
  · exact ⟨(fun x hx => by cases hx), by simp⟩
  · exact parse_fits _ _ _ (fun x hx => by cases hx) (by simp)
/-- The third cell of an instruction holds a slice: it is none of the places of numbers. -/
theorem sh_head {w : World} {v : Value} {b o i : Nat} {qs : List (List Pl)} (h : InstsSh w v b o qs) (hn : NumsAt w (instPs b o qs)) (hi : i < qs.length) : (b, o + i * 3 + 2) ∉ instPs b o qs := by
  intro hm
  obtain ⟨_, _, av, h3, hd⟩ := h.2 i hi
  obtain ⟨a, n, cap, hv, _⟩ := hd
  obtain ⟨_, ⟨k, hk⟩, _⟩ := hn _ hm
  have hk2 : w.cell? ⟨b, o + i * 3 + 2, none⟩ = some (.int .i64 k) := hk
  rw [h3, hv] at hk2
  cases hk2
/-- An answered list that owns its memory, all of it at or beyond lo. -/
def ListPk (lo : Nat) (w : World) (v : Value) (cs : List Stil.Inst) (B : Nat) (qs : List (List Pl)) : Prop := InstsSh w v B 0 qs ∧ NumsAt w (instPs B 0 qs) ∧ (instPs B 0 qs).Nodup ∧ (∀ p ∈ instPs B 0 qs, lo ≤ p.1) ∧ InstsAt w v cs ∧ (instPs B 0 qs).length ≤ 3145730000
theorem ListPk.below {lo : Nat} {w w' : World} {v : Value} {cs : List Stil.Inst} {B : Nat} {qs : List (List Pl)} (h : ListPk lo w v cs B qs) (hb : Below w.heap.size w w') : ListPk lo w' v cs B qs :=
  ⟨h.1.below hb, h.2.1.below hb, h.2.2.1, h.2.2.2.1, h.2.2.2.2.1.below hb, h.2.2.2.2.2⟩
theorem built_pk {w : World} {base : Nat} {rv : Value} {us : List Value} {cs : List Stil.Inst} (h : Built w base (.slice none 0 0) rv us cs []) (hl : cs.length ≤ 1000) (hsm : ∀ x ∈ cs, x.fits) : ∃ B qs, ListPk base w rv cs B qs := by
  by_cases h0 : 0 < cs.length
  · obtain ⟨hr, _, _, hp⟩ := h
    have hap : (rv :: us).Pairwise Apart := by
      have := (List.pairwise_cons.1 hp).2
      simpa using this
    obtain ⟨g, qs, a0, a1, a2, a3, a4, a5, a6⟩ := rung_shape hr h0 hap (fun x hx => (hsm x hx).2.2.1)
    refine ⟨g, qs, a2, a3, a4, fun p hp => (a6 p hp).1, a5, ?_⟩
    have := Nat.mul_le_mul_right 3145730 hl
    omega
  · obtain rfl : cs = [] := List.length_eq_zero_iff.1 (by omega)
    obtain ⟨a, c, hv⟩ := slice_of_owns h.1.2.1
    subst hv
    exact ⟨0, [], ⟨⟨a, c, rfl, fun h => absurd h (by simp)⟩, fun i hi => absurd hi (by simp)⟩, (fun p hp => by simp [instPs] at hp), by simp [instPs], (fun p hp => by simp [instPs] at hp), ⟨a, c, rfl, fun i hi => absurd hi (by simp)⟩, by simp [instPs]⟩
set_option maxHeartbeats 1000000 in
set_option maxRecDepth 100000 in
theorem l_eqListFault (n c : Int) (w : World) : Calls Tryz.prog 22 #[.agg #[.int .i64 n, .int .i64 c], .agg #[.int .i64 n, .int .i64 c]] w fun e w' => e = .returned (.bool true) ∧ Below w.heap.size w w' := by
  go_enter Tryz.func22, Tryz.ntmps22
  go_wp2
  go_ret
  exact ⟨rfl, by (repeat (first | with_reducible exact Below.refl _ _ | with_reducible assumption | with_reducible refine bl_set (by first | exact Nat.le_refl _ | (simp; done) | (simp; omega) | omega) ?_ _ | with_reducible refine bl_alloc ?_ _ | with_reducible refine bl_drewN ?_ _ | with_reducible refine bl_drew ?_ | with_reducible refine bl_grow ?_ _ _ | with_reducible refine bl_call ?_ (by assumption)))⟩
set_option maxHeartbeats 4000000 in
set_option maxRecDepth 100000 in
theorem law_listParse (l : List UInt8) (w : World) (henv : Env w) (hl : l.length ≤ 9223372036854775807) :
    Calls Tryz.prog 6 #[.string ⟨l.toArray⟩] w fun e w' => e = .returned (.bool true) ∧ Below w.heap.size w w' := by
  have hsz : (⟨l.toArray⟩ : ByteArray).size = l.length := rfl
  by_cases hbig : 1048576 < l.length
  · go_enter Tryz.func6, Tryz.ntmps6
    go_wp2
    go_ret
    exact ⟨rfl, Below.refl _ _⟩
  have hl2 : l.length ≤ 1048576 := by omega
  have hlf := list_fits l
  have HSP : Hid (∀ W, Calls Tryz.prog 14 #[.string ⟨l.toArray⟩] W fun e w' => ∃ (a : Option Addr) (cap : Nat), e = .returned (.tuple #[.slice a (Stil.listParse l).1.length cap, .agg #[.int .i64 (Stil.listParse l).2.1, .int .i64 (Stil.listParse l).2.2]]) ∧ InstsAt w' (.slice a (Stil.listParse l).1.length cap) (Stil.listParse l).1 ∧ Below W.heap.size W w') := fun W => by
    refine (s_listParse l W hl2).mono ?_
    rintro e w' ⟨rv, us, rfl, hbt, hb⟩
    have hfr := (rung_from hbt.1).at
    obtain ⟨a, c, hv⟩ := slice_of_owns hbt.1.2.1
    subst hv
    exact ⟨a, c, rfl, hfr, hb⟩
  have HIM : Hid (∀ W lo, Below w.heap.size w W → lo ≤ W.heap.size → Calls Tryz.prog 11 #[.string ⟨l.toArray⟩] W fun e w' => ∃ (a : Option Addr) (cap B : Nat) (qs : List (List Pl)), e = .returned (.tuple #[.slice a (Stil.listParse l).1.length cap, .agg #[.int .i64 (Stil.listParse l).2.1, .int .i64 (Stil.listParse l).2.2]]) ∧ ListPk lo w' (.slice a (Stil.listParse l).1.length cap) (Stil.listParse l).1 B qs ∧ Below W.heap.size W w') := fun W lo hW hlo => by
    refine (i_listParse l W (henv.below hW) hl2).mono ?_
    rintro e w' ⟨rv, us, rfl, hbt, hb⟩
    obtain ⟨B, qs, hpk⟩ := built_pk hbt hlf.2 hlf.1
    obtain ⟨a, c, hv⟩ := slice_of_owns hbt.1.2.1
    subst hv
    exact ⟨a, c, B, qs, rfl, ⟨hpk.1, hpk.2.1, hpk.2.2.1, fun p hp => Nat.le_trans hlo (hpk.2.2.2.1 p hp), hpk.2.2.2.2⟩, hb⟩
  obtain ⟨R, hR⟩ : ∃ R, R = Stil.listParse l := ⟨_, rfl⟩
  rw [← hR] at HSP HIM hlf
  have HEQ : Hid (∀ W u t, InstsAt W u R.1 → InstsAt W t R.1 → Calls Tryz.prog 21 #[u, t] W fun e w' => e = .returned (.bool true) ∧ Below W.heap.size W w') := fun W u t h1 h2 => l_eqList R.1 hlf.1 (by omega) u t W h1 h2
  have HEF : Hid (∀ W, Calls Tryz.prog 22 #[.agg #[.int .i64 R.2.1, .int .i64 R.2.2], .agg #[.int .i64 R.2.1, .int .i64 R.2.2]] W fun e w' => e = .returned (.bool true) ∧ Below W.heap.size W w') := fun W => l_eqListFault _ _ W
  obtain ⟨L, hL⟩ : ∃ L, L = R.1 := ⟨_, rfl⟩
  obtain ⟨x1, hx1⟩ : ∃ L, L = R.2.1 := ⟨_, rfl⟩
  obtain ⟨x2, hx2⟩ : ∃ L, L = R.2.2 := ⟨_, rfl⟩
  rw [← hL, ← hx1, ← hx2] at HSP HIM
  rw [← hL] at HEQ
  rw [← hx1, ← hx2] at HEF
  clear hR hlf hL hx1 hx2 henv
  go_enter Tryz.func6, Tryz.ntmps6
  go_upto_region 4 with (go_at_call 14; refine (HSP.out _).mono ?_; rintro e w5 ⟨a5, c5, rfl, g5, hb5⟩)
  obtain ⟨V5, hV5⟩ : ∃ V, V = w5.alloc (.cells #[.int .i64 x1, .int .i64 x2] 33) := ⟨_, rfl⟩
  have h5V : Below w5.heap.size w5 V5 := by rw [hV5]; exact below_alloc _ _
  have hs5 : V5.heap.size = w5.heap.size + 1 := by rw [hV5]; simp
  have y0 : V5.cell? ⟨w5.heap.size, 0, none⟩ = some (.int .i64 x1) := by rw [hV5]; simp [go_sem]
  have y1 : V5.cell? ⟨w5.heap.size, 1, none⟩ = some (.int .i64 x2) := by rw [hV5]; simp [go_sem]
  have HG5 : Hid (∀ W, Below V5.heap.size V5 W → InstsAt W (.slice a5 L.length c5) L ∧ W.cell? ⟨w5.heap.size, 0, none⟩ = some (.int .i64 x1) ∧ W.cell? ⟨w5.heap.size, 1, none⟩ = some (.int .i64 x2)) := fun W h => ⟨(g5.below h5V).below h, (h.cell (World.block_lt_of_cell? _ _ y0)).trans y0, (h.cell (World.block_lt_of_cell? _ _ y1)).trans y1⟩
  have hb5V : Below w.heap.size w V5 := bl_call (by (repeat (first | with_reducible exact Below.refl _ _ | with_reducible assumption | with_reducible refine bl_set (by first | exact Nat.le_refl _ | (simp; done) | (simp; omega) | omega) ?_ _ | with_reducible refine bl_alloc ?_ _ | with_reducible refine bl_drewN ?_ _ | with_reducible refine bl_drew ?_ | with_reducible refine bl_grow ?_ _ _ | with_reducible refine bl_call ?_ (by assumption)))) h5V
  rw [← hV5]
  clear hV5 g5 hb5 h5V HSP
  go_upto_region 5 with (go_at_call 11; refine (HIM.out _ V5.heap.size (by (repeat (first | with_reducible exact Below.refl _ _ | with_reducible assumption | with_reducible refine bl_set (by first | exact Nat.le_refl _ | (simp; done) | (simp; omega) | omega) ?_ _ | with_reducible refine bl_alloc ?_ _ | with_reducible refine bl_drewN ?_ _ | with_reducible refine bl_drew ?_ | with_reducible refine bl_grow ?_ _ _ | with_reducible refine bl_call ?_ (by assumption)))) ((by (repeat (first | with_reducible exact Below.refl _ _ | with_reducible assumption | with_reducible refine bl_set (by first | exact Nat.le_refl _ | (simp; done) | (simp; omega) | omega) ?_ _ | with_reducible refine bl_alloc ?_ _ | with_reducible refine bl_drewN ?_ _ | with_reducible refine bl_drew ?_ | with_reducible refine bl_grow ?_ _ _ | with_reducible refine bl_call ?_ (by assumption))) : Below V5.heap.size V5 _).size) ).mono ?_; rintro e w8 ⟨a8, c8, B8, qs8, rfl, R8, hb8⟩)
  have h58 : Below V5.heap.size V5 w8 := by (repeat (first | with_reducible exact Below.refl _ _ | with_reducible assumption | with_reducible refine bl_set (by first | exact Nat.le_refl _ | (simp; done) | (simp; omega) | omega) ?_ _ | with_reducible refine bl_alloc ?_ _ | with_reducible refine bl_drewN ?_ _ | with_reducible refine bl_drew ?_ | with_reducible refine bl_grow ?_ _ _ | with_reducible refine bl_call ?_ (by assumption)))
  obtain ⟨V8, hV8⟩ : ∃ V, V = w8.alloc (.cells #[.int .i64 x1, .int .i64 x2] 33) := ⟨_, rfl⟩
  have h8V : Below w8.heap.size w8 V8 := by rw [hV8]; exact below_alloc _ _
  have z0 : V8.cell? ⟨w8.heap.size, 0, none⟩ = some (.int .i64 x1) := by rw [hV8]; simp [go_sem]
  have z1 : V8.cell? ⟨w8.heap.size, 1, none⟩ = some (.int .i64 x2) := by rw [hV8]; simp [go_sem]
  have HR8 : Hid (∀ W, Below V8.heap.size V8 W → ListPk V5.heap.size W (.slice a8 L.length c8) L B8 qs8 ∧ W.cell? ⟨w8.heap.size, 0, none⟩ = some (.int .i64 x1) ∧ W.cell? ⟨w8.heap.size, 1, none⟩ = some (.int .i64 x2)) := fun W h => ⟨(R8.below h8V).below h, (h.cell (World.block_lt_of_cell? _ _ z0)).trans z0, (h.cell (World.block_lt_of_cell? _ _ z1)).trans z1⟩
  have h5V8 : Below V5.heap.size V5 V8 := bl_call h58 h8V
  have hbV8 : Below w.heap.size w V8 := hb5V.trans (h5V8.mono hb5V.size)
  rw [← hV8]
  clear hV8 R8 hb8 h58 h8V
  obtain ⟨_, u0, u1⟩ := HG5.out V8 h5V8
  go_upto_region 7 with (first | (go_at_call 21; refine (HEQ.out _ _ _ ((HR8.out _ (by (repeat (first | with_reducible exact Below.refl _ _ | with_reducible assumption | with_reducible refine bl_set (by first | exact Nat.le_refl _ | (simp; done) | (simp; omega) | omega) ?_ _ | with_reducible refine bl_alloc ?_ _ | with_reducible refine bl_drewN ?_ _ | with_reducible refine bl_drew ?_ | with_reducible refine bl_grow ?_ _ _ | with_reducible refine bl_call ?_ (by assumption))))).1.2.2.2.2.1) (HG5.out _ (by (repeat (first | with_reducible exact Below.refl _ _ | with_reducible assumption | with_reducible refine bl_set (by first | exact Nat.le_refl _ | (simp; done) | (simp; omega) | omega) ?_ _ | with_reducible refine bl_alloc ?_ _ | with_reducible refine bl_drewN ?_ _ | with_reducible refine bl_drew ?_ | with_reducible refine bl_grow ?_ _ _ | with_reducible refine bl_call ?_ (by assumption))))).1).mono ?_; rintro e w9 ⟨rfl, hb9⟩; clear y0 y1 z0 z1 u0 u1; obtain ⟨_, z0, z1⟩ := HR8.out w9 (by (repeat (first | with_reducible exact Below.refl _ _ | with_reducible assumption | with_reducible refine bl_set (by first | exact Nat.le_refl _ | (simp; done) | (simp; omega) | omega) ?_ _ | with_reducible refine bl_alloc ?_ _ | with_reducible refine bl_drewN ?_ _ | with_reducible refine bl_drew ?_ | with_reducible refine bl_grow ?_ _ _ | with_reducible refine bl_call ?_ (by assumption)))); obtain ⟨_, u0, u1⟩ := HG5.out w9 (by (repeat (first | with_reducible exact Below.refl _ _ | with_reducible assumption | with_reducible refine bl_set (by first | exact Nat.le_refl _ | (simp; done) | (simp; omega) | omega) ?_ _ | with_reducible refine bl_alloc ?_ _ | with_reducible refine bl_drewN ?_ _ | with_reducible refine bl_drew ?_ | with_reducible refine bl_grow ?_ _ _ | with_reducible refine bl_call ?_ (by assumption))))) | (go_at_call 22; refine (HEF.out _).mono ?_; rintro e w10 ⟨rfl, hb10⟩))
  obtain ⟨m8, hm8⟩ : ∃ k : Nat, k = (instPs B8 0 qs8).length := ⟨_, rfl⟩
  have hmn : ¬ (1 + (m8 : Int) < 0) := by omega
  have h58s : w5.heap.size < V5.heap.size := by omega
  have hwV5 : w.heap.size ≤ V5.heap.size := hb5V.size
  have HMR : Hid (∀ W, Below w.heap.size w W → Below V5.heap.size V5 W → Below V8.heap.size V8 W → Calls Tryz.prog 23 #[.slice a8 L.length c8, .int .i64 1] W fun e w' => e = .returned (.int .i64 (1 + m8)) ∧ Below w.heap.size w w' ∧ Below V5.heap.size V5 w' ∧ HeldAt w' (instPs B8 0 qs8) 1 ∧ InstsSh w' (.slice a8 L.length c8) B8 0 qs8 ∧ (∀ p ∈ instPs B8 0 qs8, p.1 < w'.heap.size) ∧ (instPs B8 0 qs8).length ≤ 3145730000) := by
    intro W h0 h5 h8
    obtain ⟨⟨r1, r2, r3, r4, r5, r6⟩, _, _⟩ := HR8.out W h8
    rw [hm8]
    refine (p_markInsts _ B8 0 qs8 1 W r1 r2 r3 (by omega) (by omega)).mono ?_
    rintro e w' ⟨rfl, hm⟩
    have hhd : ∀ i, i < qs8.length → (B8, 0 + i * 3 + 2) ∉ instPs B8 0 qs8 := fun i hi => sh_head r1 r2 hi
    exact ⟨rfl, h0.trans (hm.2.2.2.2 _ h0.size (fun p hp => Nat.le_trans hwV5 (r4 p hp))), h5.trans (hm.2.2.2.2 _ h5.size (fun p hp => r4 p hp)), hm.held, r1.marked hm hhd, fun p hp => Nat.lt_of_lt_of_le (r2 p hp).1 hm.1, r6⟩
  have HM8 : Hid (m8 = (instPs B8 0 qs8).length) := hm8
  obtain ⟨hB10, h510, h810⟩ : Below w.heap.size w w10 ∧ Below V5.heap.size V5 w10 ∧ Below V8.heap.size V8 w10 := ⟨by (repeat (first | with_reducible exact Below.refl _ _ | with_reducible assumption | with_reducible refine bl_set (by first | exact Nat.le_refl _ | (simp; done) | (simp; omega) | omega) ?_ _ | with_reducible refine bl_alloc ?_ _ | with_reducible refine bl_drewN ?_ _ | with_reducible refine bl_drew ?_ | with_reducible refine bl_grow ?_ _ _ | with_reducible refine bl_call ?_ (by assumption))), by (repeat (first | with_reducible exact Below.refl _ _ | with_reducible assumption | with_reducible refine bl_set (by first | exact Nat.le_refl _ | (simp; done) | (simp; omega) | omega) ?_ _ | with_reducible refine bl_alloc ?_ _ | with_reducible refine bl_drewN ?_ _ | with_reducible refine bl_drew ?_ | with_reducible refine bl_grow ?_ _ _ | with_reducible refine bl_call ?_ (by assumption))), by (repeat (first | with_reducible exact Below.refl _ _ | with_reducible assumption | with_reducible refine bl_set (by first | exact Nat.le_refl _ | (simp; done) | (simp; omega) | omega) ?_ _ | with_reducible refine bl_alloc ?_ _ | with_reducible refine bl_drewN ?_ _ | with_reducible refine bl_drew ?_ | with_reducible refine bl_grow ?_ _ _ | with_reducible refine bl_call ?_ (by assumption)))⟩
  clear hm8 z0 z1 u0 u1 hb9 hb10 hbV8 h5V8
  go_upto_region 9 with (go_at_call 23; refine (HMR.out _ hB10 h510 h810).mono ?_; rintro e w13 ⟨rfl, hb13, hb13b, hh13, sh13, lt13, len13⟩)
  have HH : Hid (∀ W, Below w13.heap.size w13 W → Calls Tryz.prog 24 #[.slice a8 L.length c8, .int .i64 1] W fun e w' => e = .returned (.int .i64 (1 + m8)) ∧ Below W.heap.size W w') := by
    intro W h
    rw [HM8.out]
    refine (p_heldInsts _ B8 0 qs8 1 W (sh13.below h) (hh13.below h lt13) (by omega) (by omega)).mono ?_
    rintro e w' ⟨rfl, rfl⟩
    exact ⟨rfl, Below.refl _ _⟩
  clear HMR HR8 hh13 sh13 lt13 HM8 len13 hB10 h510 h810
  obtain ⟨_, u0, u1⟩ := HG5.out w13 hb13b
  go_upto_region 15 with (go_at_call 24; refine (HH.out _ (by (repeat (first | with_reducible exact Below.refl _ _ | with_reducible assumption | with_reducible refine bl_set (by first | exact Nat.le_refl _ | (simp; done) | (simp; omega) | omega) ?_ _ | with_reducible refine bl_alloc ?_ _ | with_reducible refine bl_drewN ?_ _ | with_reducible refine bl_drew ?_ | with_reducible refine bl_grow ?_ _ _ | with_reducible refine bl_call ?_ (by assumption))))).mono ?_; rintro e w14 ⟨rfl, hb14⟩)
  obtain ⟨h0_14, h5_14, h13_14⟩ : Below w.heap.size w w14 ∧ Below V5.heap.size V5 w14 ∧ Below w13.heap.size w13 w14 := ⟨bl_call hb13 hb14, bl_call hb13b hb14, hb14⟩
  clear hb14 hb13 hb13b
  go_upto_region 16 with (go_at_call 11; refine (HIM.out _ 0 h0_14 (Nat.zero_le _)).mono ?_; rintro e w16 ⟨a16, c16, B16, qs16, rfl, R16, hb16⟩)
  obtain ⟨V16, hV16⟩ : ∃ V, V = w16.alloc (.cells #[.int .i64 x1, .int .i64 x2] 33) := ⟨_, rfl⟩
  have h16V : Below w16.heap.size w16 V16 := by rw [hV16]; exact below_alloc _ _
  have z0 : V16.cell? ⟨w16.heap.size, 0, none⟩ = some (.int .i64 x1) := by rw [hV16]; simp [go_sem]
  have z1 : V16.cell? ⟨w16.heap.size, 1, none⟩ = some (.int .i64 x2) := by rw [hV16]; simp [go_sem]
  have HR16 : Hid (∀ W, Below V16.heap.size V16 W → InstsAt W (.slice a16 L.length c16) L ∧ W.cell? ⟨w16.heap.size, 0, none⟩ = some (.int .i64 x1) ∧ W.cell? ⟨w16.heap.size, 1, none⟩ = some (.int .i64 x2)) := fun W h => ⟨(R16.2.2.2.2.1.below h16V).below h, (h.cell (World.block_lt_of_cell? _ _ z0)).trans z0, (h.cell (World.block_lt_of_cell? _ _ z1)).trans z1⟩
  have h0_V : Below w.heap.size w V16 := bl_call (bl_call h0_14 hb16) h16V
  have h5_V : Below V5.heap.size V5 V16 := bl_call (bl_call h5_14 hb16) h16V
  have h13_V : Below w13.heap.size w13 V16 := bl_call (bl_call h13_14 hb16) h16V
  rw [← hV16]
  clear hV16 R16 hb16 h16V h0_14 h5_14 h13_14 u0 u1
  obtain ⟨_, u0, u1⟩ := HG5.out V16 h5_V
  go_upto_region 18 with (first | (go_at_call 21; refine (HEQ.out _ _ _ ((HR16.out _ (by (repeat (first | with_reducible exact Below.refl _ _ | with_reducible assumption | with_reducible refine bl_set (by first | exact Nat.le_refl _ | (simp; done) | (simp; omega) | omega) ?_ _ | with_reducible refine bl_alloc ?_ _ | with_reducible refine bl_drewN ?_ _ | with_reducible refine bl_drew ?_ | with_reducible refine bl_grow ?_ _ _ | with_reducible refine bl_call ?_ (by assumption))))).1) (HG5.out _ (by (repeat (first | with_reducible exact Below.refl _ _ | with_reducible assumption | with_reducible refine bl_set (by first | exact Nat.le_refl _ | (simp; done) | (simp; omega) | omega) ?_ _ | with_reducible refine bl_alloc ?_ _ | with_reducible refine bl_drewN ?_ _ | with_reducible refine bl_drew ?_ | with_reducible refine bl_grow ?_ _ _ | with_reducible refine bl_call ?_ (by assumption))))).1).mono ?_; rintro e w17 ⟨rfl, hb17⟩; clear z0 z1 u0 u1; obtain ⟨_, z0, z1⟩ := HR16.out w17 (by (repeat (first | with_reducible exact Below.refl _ _ | with_reducible assumption | with_reducible refine bl_set (by first | exact Nat.le_refl _ | (simp; done) | (simp; omega) | omega) ?_ _ | with_reducible refine bl_alloc ?_ _ | with_reducible refine bl_drewN ?_ _ | with_reducible refine bl_drew ?_ | with_reducible refine bl_grow ?_ _ _ | with_reducible refine bl_call ?_ (by assumption)))); obtain ⟨_, u0, u1⟩ := HG5.out w17 (by (repeat (first | with_reducible exact Below.refl _ _ | with_reducible assumption | with_reducible refine bl_set (by first | exact Nat.le_refl _ | (simp; done) | (simp; omega) | omega) ?_ _ | with_reducible refine bl_alloc ?_ _ | with_reducible refine bl_drewN ?_ _ | with_reducible refine bl_drew ?_ | with_reducible refine bl_grow ?_ _ _ | with_reducible refine bl_call ?_ (by assumption))))) | (go_at_call 22; refine (HEF.out _).mono ?_; rintro e w18 ⟨rfl, hb18⟩))
  go_wp2_with (go_at_call 24; refine (HH.out _ (by (repeat (first | with_reducible exact Below.refl _ _ | with_reducible assumption | with_reducible refine bl_set (by first | exact Nat.le_refl _ | (simp; done) | (simp; omega) | omega) ?_ _ | with_reducible refine bl_alloc ?_ _ | with_reducible refine bl_drewN ?_ _ | with_reducible refine bl_drew ?_ | with_reducible refine bl_grow ?_ _ _ | with_reducible refine bl_call ?_ (by assumption))))).mono ?_; rintro e w19 ⟨rfl, hb19⟩)
  go_ret
  exact ⟨rfl, by (repeat (first | with_reducible exact Below.refl _ _ | with_reducible assumption | with_reducible refine bl_set (by first | exact Nat.le_refl _ | (simp; done) | (simp; omega) | omega) ?_ _ | with_reducible refine bl_alloc ?_ _ | with_reducible refine bl_drewN ?_ _ | with_reducible refine bl_drew ?_ | with_reducible refine bl_grow ?_ _ _ | with_reducible refine bl_call ?_ (by assumption)))⟩
end Go.Proofs.YtipdjmbgbehkaaaGreatDoor
