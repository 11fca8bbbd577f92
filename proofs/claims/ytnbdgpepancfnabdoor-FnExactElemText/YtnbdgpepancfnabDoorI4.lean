/- Contracts of the program's chapter 1, third part: DevText. -/
import Derived.Test.YtnbdgpepancfnabDoorI1b
import Derived.Test.YtnbdgpepancfnabDoorSH
import Derived.Lib.SmallJoins
namespace Go.Proofs.YtnbdgpepancfnabDoor
open Go.RowKit Go.Sort Go.BigFrame
/-- The table of the powers of ten, the library's own. -/
def PowAt (w : World) : Prop := Lib.TabIs Tryd.prog w "internal/strconv.uint64pow10" .u64 Lib.pow10Tab
theorem gPow : Tryd.prog.globalNamed "internal/strconv.uint64pow10" = some 2 := by kernel_rfl
theorem PowAt.below {w w' : World} (h : PowAt w) (hb : Below w.heap.size w w') : PowAt w' := Joins.tab_stays gPow h hb (Nat.le_refl _)
/-- The words lie in memory. -/
def WordsAt (w : World) : Prop := 0 < w.heap.size ∧ ∀ k : Nat, k < 4 → w.cell? ⟨0, k, none⟩ = some (.string ⟨(Stil.words.getD k []).toArray⟩)
theorem WordsAt.below {w w' : World} (h : WordsAt w) (hb : Below w.heap.size w w') : WordsAt w' :=
  ⟨Nat.lt_of_lt_of_le h.1 hb.size, fun k hk => by rw [(bcell hb).1 _ _ h.1]; exact h.2 k hk⟩
theorem i_itoa (n : Int) (w : World) (hp : PowAt w) (h0 : -9223372036854775808 ≤ n) (h1 : n ≤ 9223372036854775807) :
    Calls Tryd.prog 40 #[.int .i64 n] w fun e w' => e = .returned (.string ⟨(Lib.itoa n).toArray⟩) ∧ Below w.heap.size w w' :=
  (Tryd.strconv_Itoa n h0 h1 w hp).mono fun _ _ ⟨he, k, os, hw⟩ => ⟨he, by rw [hw]; exact below_regrown w (w.drawn + k) os⟩
theorem repeat0 (c : Nat) : Lib.repeatL [48] c = List.replicate c 48 := by
  induction c with
  | zero => rfl
  | succ k ih => simp [Lib.repeatL, List.replicate_succ] at *; exact ih
theorem i_repeat0 (c : Nat) (w : World) (hc : c ≤ 100) :
    Calls Tryd.prog 49 #[.string ⟨#[48]⟩, .int .i64 c] w fun e w' => e = .returned (.string ⟨Array.replicate c 48⟩) ∧ Below w.heap.size w w' := by
  have h := Tryd.strings_Repeat ⟨#[48]⟩ c w (by omega) (by show 1 * c ≤ _; omega)
  rw [show (⟨#[48]⟩ : ByteArray).data.toList = [48] from rfl, repeat0, List.toArray_replicate] at h
  exact h
set_option maxHeartbeats 1000000 in
set_option maxRecDepth 100000 in
theorem i_decText_nat (n p : Nat) (w : World) (hp : PowAt w) (h : n ≤ 999999999) (hp1 : 1 ≤ p) (hp2 : p ≤ 6) :
    Calls Tryd.prog 41 #[.int .i64 n, .int .i64 p] w fun e w' => e = .returned (.string ⟨(Stil.decNat n p).toArray⟩) ∧ Below w.heap.size w w' := by
  have hlen := decDigits_le (n := n) (by omega)
  have HI : Hid (Lib.itoa (n : Int) = Lib.decDigits n) := by show _ = _; unfold Lib.itoa; rw [if_neg (by omega)]; simp
  have HP : Hid (∀ W, Below w.heap.size w W → PowAt W) := fun W h => hp.below h
  clear hp
  by_cases hc : (Lib.decDigits n).length < p + 1
  · obtain ⟨c, hcc⟩ : ∃ c, c = p + 1 - (Lib.decDigits n).length := ⟨_, rfl⟩
    obtain ⟨d, hd⟩ : ∃ d, d = Lib.decDigits n := ⟨_, rfl⟩
    rw [← hd] at hlen HI hc hcc
    have hc1 : 1 ≤ c := by omega
    have hc2 : c ≤ 10 := by omega
    have hcl : c + d.length = p + 1 := by omega
    have hci : ((p : Int) + 1 - (d.length : Int)) = c := by omega
    obtain ⟨l, hl⟩ : ∃ l, l = List.replicate c 48 ++ d := ⟨_, rfl⟩
    have hll : l.length = p + 1 := by rw [hl]; simp; omega
    have HL : Hid (Stil.padTo p (Lib.decDigits n) = l) := by
      show _ = _
      rw [hl, ← hd, Stil.padTo, ← hcc]
    have HA : Hid ((⟨Array.replicate c 48⟩ : ByteArray) ++ ⟨d.toArray⟩ = ⟨l.toArray⟩) := by show _ = _; rw [hl, ← List.toArray_replicate]; exact ba_app _ _
    have hpt : ((p : Int) + 1 - (p : Int)) = 1 := by omega
    have hll1 : 1 < l.length := by omega
    clear hl hcc hc hd
    go_enter Tryd.func41, Tryd.ntmps41
    go_wp2_with (first | (go_at_call 40; refine (i_itoa _ _ (HP.out _ (by (repeat (first | exact Below.refl _ _ | assumption | refine bl_alloc ?_ _ | refine bl_drewN ?_ _ | refine bl_drew ?_ | refine bl_grow ?_ _ _ | refine bl_set (Nat.le_refl _) ?_ _ | refine bl_call ?_ (by assumption))))) (by omega) (by omega)).mono ?_; rw [HI.out]; rintro e w1 ⟨rfl, hb⟩) | (go_at_call 49; refine (i_repeat0 c _ (by omega)).mono ?_; rintro e w2 ⟨rfl, hb2⟩))
    rw [HA.out]
    clear HA
    focus
      go_wp2
      go_quiet (fail)
      go_wp2
      go_ret
      refine ⟨ret_string ?_, by (repeat (first | exact Below.refl _ _ | assumption | refine bl_alloc ?_ _ | refine bl_drewN ?_ _ | refine bl_drew ?_ | refine bl_grow ?_ _ _ | refine bl_set (Nat.le_refl _) ?_ _ | refine bl_call ?_ (by assumption)))⟩
      rw [Stil.decNat, HL.out, show l.length - p = 1 from by omega, ba_ext, ba_ext, ba_app2, ba_app]; simp [List.take_of_length_le (show l.length ≤ p + 1 by omega)]
  · obtain ⟨d, hd⟩ : ∃ d, d = Lib.decDigits n := ⟨_, rfl⟩
    rw [← hd] at hlen HI hc
    have hc' : p + 1 ≤ d.length := by omega
    have HL : Hid (Stil.padTo p (Lib.decDigits n) = d) := by
      show _ = _
      rw [← hd, Stil.padTo, show p + 1 - d.length = 0 from by omega]; rfl
    clear hd hc
    go_enter Tryd.func41, Tryd.ntmps41
    go_wp2_with (first | (go_at_call 40; refine (i_itoa _ _ (HP.out _ (by (repeat (first | exact Below.refl _ _ | assumption | refine bl_alloc ?_ _ | refine bl_drewN ?_ _ | refine bl_drew ?_ | refine bl_grow ?_ _ _ | refine bl_set (Nat.le_refl _) ?_ _ | refine bl_call ?_ (by assumption))))) (by omega) (by omega)).mono ?_; rw [HI.out]; rintro e w1 ⟨rfl, hb⟩))
    focus
      go_wp2
      go_quiet (fail)
      go_wp2
      go_ret
      refine ⟨ret_string ?_, by (repeat (first | exact Below.refl _ _ | assumption | refine bl_alloc ?_ _ | refine bl_drewN ?_ _ | refine bl_drew ?_ | refine bl_grow ?_ _ _ | refine bl_set (Nat.le_refl _) ?_ _ | refine bl_call ?_ (by assumption)))⟩
      rw [Stil.decNat, HL.out, ba_ext, ba_ext, ba_app2, ba_app]; simp
set_option maxHeartbeats 1000000 in
set_option maxRecDepth 100000 in
theorem i_decText_neg (n p : Nat) (w : World) (hp : PowAt w) (h : n ≤ 999999999) (hp1 : 1 ≤ p) (hp2 : p ≤ 6) (hn0 : 1 ≤ n) :
    Calls Tryd.prog 41 #[.int .i64 (-(n : Int)), .int .i64 p] w fun e w' => e = .returned (.string ⟨(45 :: Stil.decNat n p).toArray⟩) ∧ Below w.heap.size w w' := by
  have hlen := decDigits_le (n := n) (by omega)
  have HI : Hid (Lib.itoa (n : Int) = Lib.decDigits n) := by show _ = _; unfold Lib.itoa; rw [if_neg (by omega)]; simp
  have HP : Hid (∀ W, Below w.heap.size w W → PowAt W) := fun W h => hp.below h
  clear hp
  by_cases hc : (Lib.decDigits n).length < p + 1
  · obtain ⟨c, hcc⟩ : ∃ c, c = p + 1 - (Lib.decDigits n).length := ⟨_, rfl⟩
    obtain ⟨d, hd⟩ : ∃ d, d = Lib.decDigits n := ⟨_, rfl⟩
    rw [← hd] at hlen HI hc hcc
    have hc1 : 1 ≤ c := by omega
    have hc2 : c ≤ 10 := by omega
    have hcl : c + d.length = p + 1 := by omega
    have hci : ((p : Int) + 1 - (d.length : Int)) = c := by omega
    obtain ⟨l, hl⟩ : ∃ l, l = List.replicate c 48 ++ d := ⟨_, rfl⟩
    have hll : l.length = p + 1 := by rw [hl]; simp; omega
    have HL : Hid (Stil.padTo p (Lib.decDigits n) = l) := by
      show _ = _
      rw [hl, ← hd, Stil.padTo, ← hcc]
    have HA : Hid ((⟨Array.replicate c 48⟩ : ByteArray) ++ ⟨d.toArray⟩ = ⟨l.toArray⟩) := by show _ = _; rw [hl, ← List.toArray_replicate]; exact ba_app _ _
    have hpt : ((p : Int) + 1 - (p : Int)) = 1 := by omega
    have hll1 : 1 < l.length := by omega
    clear hl hcc hc hd
    go_enter Tryd.func41, Tryd.ntmps41
    go_wp2_with (first | (go_at_call 40; refine (i_itoa _ _ (HP.out _ (by (repeat (first | exact Below.refl _ _ | assumption | refine bl_alloc ?_ _ | refine bl_drewN ?_ _ | refine bl_drew ?_ | refine bl_grow ?_ _ _ | refine bl_set (Nat.le_refl _) ?_ _ | refine bl_call ?_ (by assumption))))) (by omega) (by omega)).mono ?_; rw [HI.out]; rintro e w1 ⟨rfl, hb⟩) | (go_at_call 49; refine (i_repeat0 c _ (by omega)).mono ?_; rintro e w2 ⟨rfl, hb2⟩))
    rw [HA.out]
    clear HA
    focus
      go_wp2
      go_quiet (fail)
      go_wp2
      go_ret
      refine ⟨ret_string ?_, by (repeat (first | exact Below.refl _ _ | assumption | refine bl_alloc ?_ _ | refine bl_drewN ?_ _ | refine bl_drew ?_ | refine bl_grow ?_ _ _ | refine bl_set (Nat.le_refl _) ?_ _ | refine bl_call ?_ (by assumption)))⟩
      rw [Stil.decNat, HL.out, show l.length - p = 1 from by omega, ba_ext, ba_ext, ba_app1, ba_app2, ba_app]; simp [List.take_of_length_le (show l.length ≤ p + 1 by omega)]
  · obtain ⟨d, hd⟩ : ∃ d, d = Lib.decDigits n := ⟨_, rfl⟩
    rw [← hd] at hlen HI hc
    have hc' : p + 1 ≤ d.length := by omega
    have HL : Hid (Stil.padTo p (Lib.decDigits n) = d) := by
      show _ = _
      rw [← hd, Stil.padTo, show p + 1 - d.length = 0 from by omega]; rfl
    clear hd hc
    go_enter Tryd.func41, Tryd.ntmps41
    go_wp2_with (first | (go_at_call 40; refine (i_itoa _ _ (HP.out _ (by (repeat (first | exact Below.refl _ _ | assumption | refine bl_alloc ?_ _ | refine bl_drewN ?_ _ | refine bl_drew ?_ | refine bl_grow ?_ _ _ | refine bl_set (Nat.le_refl _) ?_ _ | refine bl_call ?_ (by assumption))))) (by omega) (by omega)).mono ?_; rw [HI.out]; rintro e w1 ⟨rfl, hb⟩))
    focus
      go_wp2
      go_quiet (fail)
      go_wp2
      go_ret
      refine ⟨ret_string ?_, by (repeat (first | exact Below.refl _ _ | assumption | refine bl_alloc ?_ _ | refine bl_drewN ?_ _ | refine bl_drew ?_ | refine bl_grow ?_ _ _ | refine bl_set (Nat.le_refl _) ?_ _ | refine bl_call ?_ (by assumption)))⟩
      rw [Stil.decNat, HL.out, ba_ext, ba_ext, ba_app1, ba_app2, ba_app]; simp
theorem i_decText (n p : Int) (w : World) (hp : PowAt w) (h1 : -999999999 ≤ n) (h2 : n ≤ 999999999) (hp1 : 1 ≤ p) (hp2 : p ≤ 6) :
    Calls Tryd.prog 41 #[.int .i64 n, .int .i64 p] w fun e w' => e = .returned (.string ⟨(Stil.decText n p).toArray⟩) ∧ Below w.heap.size w w' := by
  obtain ⟨q, rfl⟩ := Int.eq_ofNat_of_zero_le (a := p) (by omega)
  by_cases h0 : 0 ≤ n
  · obtain ⟨m, rfl⟩ := Int.eq_ofNat_of_zero_le h0
    have e : Stil.decText (m : Int) q = Stil.decNat m q := by unfold Stil.decText; rw [if_neg (by omega)]; simp
    rw [e]
    exact i_decText_nat m q w hp (by omega) (by omega) (by omega)
  · obtain ⟨m, hm⟩ := Int.eq_ofNat_of_zero_le (a := -n) (by omega)
    have e : Stil.decText n q = 45 :: Stil.decNat m q := by unfold Stil.decText; rw [if_pos (by omega)]; congr 2; omega
    rw [e]
    have hn : n = -(m : Int) := by omega
    subst hn
    exact i_decText_neg m q w hp (by omega) (by omega) (by omega) (by omega)
end Go.Proofs.YtnbdgpepancfnabDoor
