/- I4, I4b, I5, I5a, I5b: texts put together. -/
import Derived.Test.YtcpojnbfinlgiaaDoorGI
import Derived.Test.YtcpojnbfinlgiaaDoorSH
import Derived.Lib.SmallJoins
import Derived.Test.YtcpojnbfinlgiaaDoorGA
import Derived.Test.YtcpojnbfinlgiaaDoorGC
import Derived.Shelf.Abstract
import Derived.Lib.Join
import Derived.Test.YtcpojnbfinlgiaaDoorGJ
import Derived.Test.YtcpojnbfinlgiaaDoorGM
/- Contracts of the program's chapter 1, third part: DevText. -/
namespace Go.Proofs.YtcpojnbfinlgiaaDoor
open Go.RowKit Go.Sort Go.BigFrame
/-- The table of the powers of ten, the library's own. -/
def PowAt (w : World) : Prop := Lib.TabIs Tryd.prog w "internal/strconv.uint64pow10" .u64 Lib.pow10Tab
theorem gPow : Tryd.prog.globalNamed "internal/strconv.uint64pow10" = some 2 := by kernel_rfl
theorem PowAt.below {w w' : World} (h : PowAt w) (hb : Below w.heap.size w w') : PowAt w' := Joins.tab_stays gPow h hb (Nat.le_refl _)
/-- The words lie in memory. -/
def WordsAt (w : World) : Prop := 0 < w.heap.size ∧ ∀ k : Nat, k < 4 → w.cell? ⟨0, k, none⟩ = some (.string ⟨(Stil.words.getD k []).toArray⟩)
theorem WordsAt.below {w w' : World} (h : WordsAt w) (hb : Below w.heap.size w w') : WordsAt w' :=
  ⟨Nat.lt_of_lt_of_le h.1 hb.size, fun k hk => by rw [(bcell hb).1 _ _ h.1]; exact h.2 k hk⟩
theorem i_itoa (n : Int) (w : World) (hp : PowAt w) (h0 : -9223372036854775808 ≤ n) (h1 : n ≤ 9223372036854775807) :
    Calls Tryd.prog 40 #[.int .i64 n] w fun e w' => e = .returned (.string ⟨(Lib.itoa n).toArray⟩) ∧ Below w.heap.size w w' :=
  (Tryd.strconv_Itoa n h0 h1 w hp).mono fun _ _ ⟨he, k, os, hw⟩ => ⟨he, by rw [hw]; exact below_regrown w (w.drawn + k) os⟩
theorem repeat0 (c : Nat) : Lib.repeatL [48] c = List.replicate c 48 := by
  induction c with
  | zero => rfl
  | succ k ih => simp [Lib.repeatL, List.replicate_succ] at *; exact ih
theorem i_repeat0 (c : Nat) (w : World) (hc : c ≤ 100) :
    Calls Tryd.prog 49 #[.string ⟨#[48]⟩, .int .i64 c] w fun e w' => e = .returned (.string ⟨Array.replicate c 48⟩) ∧ Below w.heap.size w w' := by
  have h := Tryd.strings_Repeat ⟨#[48]⟩ c w (by omega) (by show 1 * c ≤ _; omega)
  rw [show (⟨#[48]⟩ : ByteArray).data.toList = [48] from rfl, repeat0, List.toArray_replicate] at h
  exact h
set_option maxHeartbeats 1000000 in
set_option maxRecDepth 100000 in
theorem i_decText_nat (n p : Nat) (w : World) (hp : PowAt w) (h : n ≤ 999999999) (hp1 : 1 ≤ p) (hp2 : p ≤ 6) :
    Calls Tryd.prog 41 #[.int .i64 n, .int .i64 p] w fun e w' => e = .returned (.string ⟨(Stil.decNat n p).toArray⟩) ∧ Below w.heap.size w w' := by
  have hlen := decDigits_le (n := n) (by omega)
  have HI : Hid (Lib.itoa (n : Int) = Lib.decDigits n) := by show _ = _; unfold Lib.itoa; rw [if_neg (by omega)]; simp
  have HP : Hid (∀ W, Below w.heap.size w W → PowAt W) := fun W h => hp.below h
  clear hp
  by_cases hc : (Lib.decDigits n).length < p + 1
  · obtain ⟨c, hcc⟩ : ∃ c, c = p + 1 - (Lib.decDigits n).length := ⟨_, rfl⟩
    obtain ⟨d, hd⟩ : ∃ d, d = Lib.decDigits n := ⟨_, rfl⟩
    rw [← hd] at hlen HI hc hcc
    have hc1 : 1 ≤ c := by omega
    have hc2 : c ≤ 10 := by omega
    have hcl : c + d.length = p + 1 := by omega
    have hci : ((p : Int) + 1 - (d.length : Int)) = c := by omega
    obtain ⟨l, hl⟩ : ∃ l, l = List.replicate c 48 ++ d := ⟨_, rfl⟩
    have hll : l.length = p + 1 := by rw [hl]; simp; omega
    have HL : Hid (Stil.padTo p (Lib.decDigits n) = l) := by
      show _ = _
      rw [hl, ← hd, Stil.padTo, ← hcc]
    have HA : Hid ((⟨Array.replicate c 48⟩ : ByteArray) ++ ⟨d.toArray⟩ = ⟨l.toArray⟩) := by show _ = _; rw [hl, ← List.toArray_replicate]; exact ba_app _ _
    have hpt : ((p : Int) + 1 - (p : Int)) = 1 := by omega
    have hll1 : 1 < l.length := by omega
    clear hl hcc hc hd
    go_enter Tryd.func41, Tryd.ntmps41
    go_wp2_with (first | (go_at_call 40; refine (i_itoa _ _ (HP.out _ (by (repeat (first | exact Below.refl _ _ | assumption | refine bl_alloc ?_ _ | refine bl_drewN ?_ _ | refine bl_drew ?_ | refine bl_grow ?_ _ _ | refine bl_set (Nat.le_refl _) ?_ _ | refine bl_call ?_ (by assumption))))) (by omega) (by omega)).mono ?_; rw [HI.out]; rintro e w1 ⟨rfl, hb⟩) | (go_at_call 49; refine (i_repeat0 c _ (by omega)).mono ?_; rintro e w2 ⟨rfl, hb2⟩))
    rw [HA.out]
    clear HA
    focus
      go_wp2
      go_quiet (fail)
      go_wp2
      go_ret
      refine ⟨ret_string ?_, by (repeat (first | exact Below.refl _ _ | assumption | refine bl_alloc ?_ _ | refine bl_drewN ?_ _ | refine bl_drew ?_ | refine bl_grow ?_ _ _ | refine bl_set (Nat.le_refl _) ?_ _ | refine bl_call ?_ (by assumption)))⟩
      rw [Stil.decNat, HL.out, show l.length - p = 1 from by omega, ba_ext, ba_ext, ba_app2, ba_app]; simp [List.take_of_length_le (show l.length ≤ p + 1 by omega)]
  · obtain ⟨d, hd⟩ : ∃ d, d = Lib.decDigits n := ⟨_, rfl⟩
    rw [← hd] at hlen HI hc
    have hc' : p + 1 ≤ d.length := by omega
    have HL : Hid (Stil.padTo p (Lib.decDigits n) = d) := by
      show _ = _
      rw [← hd, Stil.padTo, show p + 1 - d.length = 0 from by omega]; rfl
    clear hd hc
    go_enter Tryd.func41, Tryd.ntmps41
    go_wp2_with (first | (go_at_call 40; refine (i_itoa _ _ (HP.out _ (by (repeat (first | exact Below.refl _ _ | assumption | refine bl_alloc ?_ _ | refine bl_drewN ?_ _ | refine bl_drew ?_ | refine bl_grow ?_ _ _ | refine bl_set (Nat.le_refl _) ?_ _ | refine bl_call ?_ (by assumption))))) (by omega) (by omega)).mono ?_; rw [HI.out]; rintro e w1 ⟨rfl, hb⟩))
    focus
      go_wp2
      go_quiet (fail)
      go_wp2
      go_ret
      refine ⟨ret_string ?_, by (repeat (first | exact Below.refl _ _ | assumption | refine bl_alloc ?_ _ | refine bl_drewN ?_ _ | refine bl_drew ?_ | refine bl_grow ?_ _ _ | refine bl_set (Nat.le_refl _) ?_ _ | refine bl_call ?_ (by assumption)))⟩
      rw [Stil.decNat, HL.out, ba_ext, ba_ext, ba_app2, ba_app]; simp
set_option maxHeartbeats 1000000 in
set_option maxRecDepth 100000 in
theorem i_decText_neg (n p : Nat) (w : World) (hp : PowAt w) (h : n ≤ 999999999) (hp1 : 1 ≤ p) (hp2 : p ≤ 6) (hn0 : 1 ≤ n) :
    Calls Tryd.prog 41 #[.int .i64 (-(n : Int)), .int .i64 p] w fun e w' => e = .returned (.string ⟨(45 :: Stil.decNat n p).toArray⟩) ∧ Below w.heap.size w w' := by
  have hlen := decDigits_le (n := n) (by omega)
  have HI : Hid (Lib.itoa (n : Int) = Lib.decDigits n) := by show _ = _; unfold Lib.itoa; rw [if_neg (by omega)]; simp
  have HP : Hid (∀ W, Below w.heap.size w W → PowAt W) := fun W h => hp.below h
  clear hp
  by_cases hc : (Lib.decDigits n).length < p + 1
  · obtain ⟨c, hcc⟩ : ∃ c, c = p + 1 - (Lib.decDigits n).length := ⟨_, rfl⟩
    obtain ⟨d, hd⟩ : ∃ d, d = Lib.decDigits n := ⟨_, rfl⟩
    rw [← hd] at hlen HI hc hcc
    have hc1 : 1 ≤ c := by omega
    have hc2 : c ≤ 10 := by omega
    have hcl : c + d.length = p + 1 := by omega
    have hci : ((p : Int) + 1 - (d.length : Int)) = c := by omega
    obtain ⟨l, hl⟩ : ∃ l, l = List.replicate c 48 ++ d := ⟨_, rfl⟩
    have hll : l.length = p + 1 := by rw [hl]; simp; omega
    have HL : Hid (Stil.padTo p (Lib.decDigits n) = l) := by
      show _ = _
      rw [hl, ← hd, Stil.padTo, ← hcc]
    have HA : Hid ((⟨Array.replicate c 48⟩ : ByteArray) ++ ⟨d.toArray⟩ = ⟨l.toArray⟩) := by show _ = _; rw [hl, ← List.toArray_replicate]; exact ba_app _ _
    have hpt : ((p : Int) + 1 - (p : Int)) = 1 := by omega
    have hll1 : 1 < l.length := by omega
    clear hl hcc hc hd
    go_enter Tryd.func41, Tryd.ntmps41
    go_wp2_with (first | (go_at_call 40; refine (i_itoa _ _ (HP.out _ (by (repeat (first | exact Below.refl _ _ | assumption | refine bl_alloc ?_ _ | refine bl_drewN ?_ _ | refine bl_drew ?_ | refine bl_grow ?_ _ _ | refine bl_set (Nat.le_refl _) ?_ _ | refine bl_call ?_ (by assumption))))) (by omega) (by omega)).mono ?_; rw [HI.out]; rintro e w1 ⟨rfl, hb⟩) | (go_at_call 49; refine (i_repeat0 c _ (by omega)).mono ?_; rintro e w2 ⟨rfl, hb2⟩))
    rw [HA.out]
    clear HA
    focus
      go_wp2
      go_quiet (fail)
      go_wp2
      go_ret
      refine ⟨ret_string ?_, by (repeat (first | exact Below.refl _ _ | assumption | refine bl_alloc ?_ _ | refine bl_drewN ?_ _ | refine bl_drew ?_ | refine bl_grow ?_ _ _ | refine bl_set (Nat.le_refl _) ?_ _ | refine bl_call ?_ (by assumption)))⟩
      rw [Stil.decNat, HL.out, show l.length - p = 1 from by omega, ba_ext, ba_ext, ba_app1, ba_app2, ba_app]; simp [List.take_of_length_le (show l.length ≤ p + 1 by omega)]
  · obtain ⟨d, hd⟩ : ∃ d, d = Lib.decDigits n := ⟨_, rfl⟩
    rw [← hd] at hlen HI hc
    have hc' : p + 1 ≤ d.length := by omega
    have HL : Hid (Stil.padTo p (Lib.decDigits n) = d) := by
      show _ = _
      rw [← hd, Stil.padTo, show p + 1 - d.length = 0 from by omega]; rfl
    clear hd hc
    go_enter Tryd.func41, Tryd.ntmps41
    go_wp2_with (first | (go_at_call 40; refine (i_itoa _ _ (HP.out _ (by (repeat (first | exact Below.refl _ _ | assumption | refine bl_alloc ?_ _ | refine bl_drewN ?_ _ | refine bl_drew ?_ | refine bl_grow ?_ _ _ | refine bl_set (Nat.le_refl _) ?_ _ | refine bl_call ?_ (by assumption))))) (by omega) (by omega)).mono ?_; rw [HI.out]; rintro e w1 ⟨rfl, hb⟩))
    focus
      go_wp2
      go_quiet (fail)
      go_wp2
      go_ret
      refine ⟨ret_string ?_, by (repeat (first | exact Below.refl _ _ | assumption | refine bl_alloc ?_ _ | refine bl_drewN ?_ _ | refine bl_drew ?_ | refine bl_grow ?_ _ _ | refine bl_set (Nat.le_refl _) ?_ _ | refine bl_call ?_ (by assumption)))⟩
      rw [Stil.decNat, HL.out, ba_ext, ba_ext, ba_app1, ba_app2, ba_app]; simp
theorem i_decText (n p : Int) (w : World) (hp : PowAt w) (h1 : -999999999 ≤ n) (h2 : n ≤ 999999999) (hp1 : 1 ≤ p) (hp2 : p ≤ 6) :
    Calls Tryd.prog 41 #[.int .i64 n, .int .i64 p] w fun e w' => e = .returned (.string ⟨(Stil.decText n p).toArray⟩) ∧ Below w.heap.size w w' := by
  obtain ⟨q, rfl⟩ := Int.eq_ofNat_of_zero_le (a := p) (by omega)
  by_cases h0 : 0 ≤ n
  · obtain ⟨m, rfl⟩ := Int.eq_ofNat_of_zero_le h0
    have e : Stil.decText (m : Int) q = Stil.decNat m q := by unfold Stil.decText; rw [if_neg (by omega)]; simp
    rw [e]
    exact i_decText_nat m q w hp (by omega) (by omega) (by omega)
  · obtain ⟨m, hm⟩ := Int.eq_ofNat_of_zero_le (a := -n) (by omega)
    have e : Stil.decText n q = 45 :: Stil.decNat m q := by unfold Stil.decText; rw [if_pos (by omega)]; congr 2; omega
    rw [e]
    have hn : n = -(m : Int) := by omega
    subst hn
    exact i_decText_neg m q w hp (by omega) (by omega) (by omega) (by omega)
end Go.Proofs.YtcpojnbfinlgiaaDoor
/- Contracts of the program's chapter 1, fourth part: DevText. -/
namespace Go.Proofs.YtcpojnbfinlgiaaDoor
open Go.RowKit Go.Sort Go.BigFrame
set_option maxHeartbeats 400000 in
set_option maxRecDepth 100000 in
theorem i_devText (k n p : Int) (w : World) (hr : RowsAt w) (hw : WordsAt w) (hpw : PowAt w) (hn1 : -9223372036854775808 ≤ n) (hn2 : n ≤ 9223372036854775807) :
    Calls Tryd.prog 27 #[.agg #[.int .i64 k, .int .i64 n, .int .i64 p]] w fun e w' => e = .returned (.string ⟨(Stil.devText k n p).toArray⟩) ∧ Below w.heap.size w w' := by
  have HR : Hid (∀ W, Below w.heap.size w W → RowsAt W) := fun W h => hr.below h
  have HWd : Hid (∀ W, Below w.heap.size w W → WordsAt W) := fun W h => hw.below h
  have HP : Hid (∀ W, Below w.heap.size w W → PowAt W) := fun W h => hpw.below h
  clear hr hw hpw
  cases hok : Stil.devOkB k n p
  · have HD : Hid (Stil.devText k n p = []) := by show Stil.devText k n p = []; unfold Stil.devText; rw [hok]; rfl
    go_enter Tryd.func27, Tryd.ntmps27
    go_wp2_with (go_at_call 39; refine (i_devOk _ _ _ _ (HR.out _ (below_alloc _ _)) hn1 hn2).mono ?_; rintro e w' ⟨rfl, hb⟩)
    go_ret
    exact ⟨ret_string (by rw [HD.out]), below_two hb⟩
  · by_cases h11 : k = 11
    · subst h11
      have HD : Hid (Stil.devText 11 n p = Lib.itoa n) := by show _ = _; unfold Stil.devText; rw [hok]; rfl
      have hr : -32768 ≤ n ∧ n ≤ 32767 := by simp [Stil.devOkB] at hok; omega
      obtain ⟨hr1, hr2⟩ := hr
      go_enter Tryd.func27, Tryd.ntmps27
      go_wp2_with (first | (go_at_call 39; refine (i_devOk _ _ _ _ (HR.out _ (below_alloc _ _)) hn1 hn2).mono ?_; rintro e w' ⟨rfl, hb⟩; obtain ⟨hc, hf⟩ := bcell hb) | (go_at_call 40; refine (i_itoa n _ (HP.out _ (below_two hb)) (by omega) (by omega)).mono ?_; rintro e w2 ⟨rfl, hb2⟩))
      go_ret
      exact ⟨ret_string (by rw [HD.out]), (below_two hb).trans (hb2.mono (by have := hb.size; simp at this; omega))⟩
    · by_cases h12 : k = 12
      · subst h12
        obtain ⟨a1, a2, a3, a4⟩ := devOk_dec hok
        have HD : Hid (Stil.devText 12 n p = Stil.decText n p) := by show _ = _; unfold Stil.devText; rw [hok]; rfl
        go_enter Tryd.func27, Tryd.ntmps27
        go_wp2_with (first | (go_at_call 39; refine (i_devOk _ _ _ _ (HR.out _ (below_alloc _ _)) hn1 hn2).mono ?_; rintro e w' ⟨rfl, hb⟩; obtain ⟨hc, hf⟩ := bcell hb) | (go_at_call 41; refine (i_decText n p _ (HP.out _ (below_two hb)) a1 a2 a3 a4).mono ?_; rintro e w2 ⟨rfl, hb2⟩))
        go_ret
        exact ⟨ret_string (by rw [HD.out]), (below_two hb).trans (hb2.mono (by have := hb.size; simp at this; omega))⟩
      · by_cases h13 : k = 13
        · subst h13
          obtain ⟨a1, a2⟩ := devOk_word hok
          have HD : Hid (Stil.devText 13 n p = Stil.words.getD n.toNat []) := by show _ = _; unfold Stil.devText; rw [hok]; rfl
          go_enter Tryd.func27, Tryd.ntmps27
          go_wp2_with (go_at_call 39; refine (i_devOk _ _ _ _ (HR.out _ (below_alloc _ _)) hn1 hn2).mono ?_; rw [hok]; rintro e w' ⟨rfl, hb⟩; obtain ⟨hc, hf⟩ := bcell hb; have hwd := (HWd.out _ (below_two hb)).2 n.toNat (by omega); have c0 : w'.cell? ⟨w.heap.size, 0, none⟩ = some (.int .i64 13) := (by rw [hc _ _ (by simp)]; simp [go_sem]); have c1 : w'.cell? ⟨w.heap.size, 1, none⟩ = some (.int .i64 n) := (by rw [hc _ _ (by simp)]; simp [go_sem]); clear hc hf)
          go_ret
          exact ⟨ret_string (by rw [HD.out]; simp), below_two hb⟩
        · obtain ⟨a1, a2, a3, a4, a5⟩ := devOk_dev hok h11 h12 h13
          subst a5
          have h11' : (k == 11) = false := by simpa using h11
          have h12' : (k == 12) = false := by simpa using h12
          have h13' : (k == 13) = false := by simpa using h13
          have HD : Hid (Stil.devText k n 0 = Stil.letters.getD (k.toNat - 1) 0 :: Lib.itoa n) := by
            show _ = _
            unfold Stil.devText; rw [hok]; simp [h11, h12, h13]
          have hl : (Lib.itoa n).length ≤ 19 := by
            unfold Lib.itoa; rw [if_neg (by omega)]; exact decDigits_le (by omega)
          have hL : Stil.devLetter k = ⟨#[Stil.letters.getD (k.toNat - 1) 0]⟩ := by unfold Stil.devLetter; rw [if_pos ⟨a1, a2⟩]
          clear h11 h12 h13
          go_enter Tryd.func27, Tryd.ntmps27
          go_wp2_with (first | (go_at_call 39; refine (i_devOk _ _ _ _ (HR.out _ (below_alloc _ _)) hn1 hn2).mono ?_; rintro e w' ⟨rfl, hb⟩; obtain ⟨hc, hf⟩ := bcell hb))
          have c0 : w'.cell? ⟨w.heap.size, 0, none⟩ = some (.int .i64 k) := by rw [hc _ _ (by simp)]; simp [go_sem]
          have c1 : w'.cell? ⟨w.heap.size, 1, none⟩ = some (.int .i64 n) := by rw [hc _ _ (by simp)]; simp [go_sem]
          have hbw : Below w.heap.size w w' := below_two hb
          have r0 := cell_regrown c0
          have r1 := cell_regrown c1
          refine wp_region_quiet_below (by kernel_rfl) (by kernel_rfl) ?_
          repeat (go_big_quiet_step ((first | exact Calls.regrown_of (i_devLetter _ _ (HR.out _ (by (repeat (first | exact Below.refl _ _ | assumption | refine bl_alloc ?_ _ | refine bl_drewN ?_ _ | refine bl_drew ?_ | refine bl_grow ?_ _ _ | refine bl_set (Nat.le_refl _) ?_ _ | refine bl_call ?_ (by assumption)))))) | exact Calls.regrown_of (i_itoa _ _ (HP.out _ (by (repeat (first | exact Below.refl _ _ | assumption | refine bl_alloc ?_ _ | refine bl_drewN ?_ _ | refine bl_drew ?_ | refine bl_grow ?_ _ _ | refine bl_set (Nat.le_refl _) ?_ _ | refine bl_call ?_ (by assumption))))) (by omega) (by omega)))))
          refine wpQuiet_nil ?_
          intro _ hw'
          obtain ⟨⟨dq, osq⟩, hw''⟩ := hw'
          subst hw''
          go_wp2
          go_ret
          refine ⟨ret_string ?_, (below_two hb).trans ((below_regrown _ dq osq).mono (by have := hb.size; simp at this; omega))⟩
          rw [HD.out, ba_app1]; simp [List.getD]
end Go.Proofs.YtcpojnbfinlgiaaDoor
/- Contracts of the program's chapter 2: how texts are put together. -/
namespace Go.Proofs.YtcpojnbfinlgiaaDoor
open Go.RowKit Go.Sort Go.BigFrame
/-- A slice of texts. -/
def StrsAt (w : World) (v : Value) (xs : List (List UInt8)) : Prop := ∃ b cap, v = .slice (some ⟨b, 0, none⟩) xs.length cap ∧ xs.length ≤ cap ∧ b < w.heap.size ∧ ∀ j x, xs[j]? = some x → w.cell? ⟨b, j, none⟩ = some (strV x)
theorem StrsAt.below {w w' : World} {v : Value} {xs : List (List UInt8)} (h : StrsAt w v xs) (hb : Below w.heap.size w w') : StrsAt w' v xs := by
  obtain ⟨b, cap, rfl, hc, hlt, hx⟩ := h
  exact ⟨b, cap, rfl, hc, Nat.lt_of_lt_of_le hlt hb.size, fun j x hj => by rw [(bcell hb).1 _ _ hlt]; exact hx j x hj⟩
theorem StrsAt.of_owns {w : World} {base : Nat} {v : Value} {xs : List (List UInt8)} (h : w.ownsRow base 9 1 v xs.length (xs.map strV)) (h0 : 0 < xs.length) : StrsAt w v xs := by
  obtain ⟨_, ⟨_, h1⟩ | ⟨g, cap, cur, rfl, _, hg, hn, _, _, hcur⟩⟩ := h
  · omega
  · refine ⟨g, cap, rfl, hn, (Array.getElem?_eq_some_iff.1 hg).1, fun j x hj => ?_⟩
    have hjl : j < xs.length := (List.getElem?_eq_some_iff.1 hj).1
    rw [cell_of_row _ _ j cur _ _ hg]
    have := congrArg (fun l => l[j]?) hcur
    simp only [Nat.mul_one, List.getElem?_take, hjl, if_true, List.getElem?_map, hj, Option.map_some] at this
    simpa using this
theorem i_join (sep : List UInt8) (v : Value) (xs : List (List UInt8)) (w : World) (hat : StrsAt w v xs) (hn : xs.length ≤ 1000) (hlen : (Lib.join xs sep).length ≤ 1000000) :
    Calls Tryd.prog 75 #[v, .string ⟨sep.toArray⟩] w fun e w' => e = .returned (.string ⟨(Lib.join xs sep).toArray⟩) ∧ Below w.heap.size w w' := by
  obtain ⟨b, cap, rfl, hc, hlt, hx⟩ := hat
  have e1 : ((xs.map fun x => (⟨x.toArray⟩ : ByteArray)).map (·.data.toList)) = xs := by rw [List.map_map]; exact (List.map_congr_left (fun _ _ => by simp)).trans (List.map_id xs)
  have h := Tryd.strings_Join b 0 cap (xs.map fun x => (⟨x.toArray⟩ : ByteArray)) ⟨sep.toArray⟩ w (fun j x hj => by
      rw [List.getElem?_map] at hj
      obtain ⟨y, hy, rfl⟩ := Option.map_eq_some_iff.1 hj
      rw [Nat.zero_add]; exact hx j y hy) hlt (by simp; omega) (by simpa using hc) (by rw [e1]; show (Lib.join xs sep).length ≤ _; omega)
  rw [e1, List.length_map] at h
  exact h
/-- A function that writes: what it makes of a word and texts. -/
def WriteFn (n : Nat) (f : List UInt8 → List (List UInt8) → List UInt8) : Prop := (∀ args w, (callFunc n args).run Tryd.prog w = .ok (.enter n args) w) ∧
  ∀ (word : List UInt8) (v : Value) (xs : List (List UInt8)) (w : World), StrsAt w v xs → word.length ≤ 100 → xs.length ≤ 3 → (∀ sep : List UInt8, sep.length ≤ 100 → (Lib.join xs sep).length ≤ 1000) →
    Calls Tryd.prog n #[.string ⟨word.toArray⟩, v] w fun e w' => e = .returned (.string ⟨(f word xs).toArray⟩) ∧ Below w.heap.size w w'
set_option maxHeartbeats 400000 in
set_option maxRecDepth 100000 in
theorem wf_ahead : WriteFn 57 (fun word xs => word ++ Lib.join xs [58]) := by
  refine ⟨enters_of Tryd.func57 (by kernel_rfl) rfl, fun word v xs w hat hw hx hj => ?_⟩
  have HA : Hid (∀ W, Below w.heap.size w W → StrsAt W v xs) := fun W h => hat.below h
  have hjj := hj [58] (by simp)
  obtain ⟨b, cap, rfl, hc, hlt, _⟩ := hat
  obtain ⟨t, ht⟩ : ∃ t, t = Lib.join xs [58] := ⟨_, rfl⟩
  have htl : t.length ≤ 1000 := by rw [ht]; exact hjj
  have HI : Hid (∀ W, Below w.heap.size w W → Calls Tryd.prog 75 #[.slice (some ⟨b, 0, none⟩) xs.length cap, .string ⟨#[58]⟩] W fun e w' => e = .returned (.string ⟨t.toArray⟩) ∧ Below W.heap.size W w') := by
    intro W h; rw [ht]; exact i_join [58] _ xs W (HA.out W h) (by omega) (by omega)
  dsimp only
  rw [← ht]
  clear ht hjj hj HA
  go_enter Tryd.func57, Tryd.ntmps57
  go_wp2_with (go_at_call 75; refine (HI.out _ (by (repeat (first | exact Below.refl _ _ | assumption | refine bl_alloc ?_ _ | refine bl_drewN ?_ _ | refine bl_drew ?_ | refine bl_grow ?_ _ _ | refine bl_set (Nat.le_refl _) ?_ _ | refine bl_call ?_ (by assumption))))).mono ?_; rintro e w1 ⟨rfl, hb⟩)
  go_ret
  exact ⟨ret_string (ba_app _ _), hb⟩
set_option maxHeartbeats 400000 in
set_option maxRecDepth 100000 in
theorem wf_between : WriteFn 60 (fun word xs => Lib.join xs word) := by
  refine ⟨enters_of Tryd.func60 (by kernel_rfl) rfl, fun word v xs w hat hw hx hj => ?_⟩
  have HA : Hid (∀ W, Below w.heap.size w W → StrsAt W v xs) := fun W h => hat.below h
  have hjj := hj word hw
  obtain ⟨b, cap, rfl, hc, hlt, _⟩ := hat
  obtain ⟨t, ht⟩ : ∃ t, t = Lib.join xs word := ⟨_, rfl⟩
  have htl : t.length ≤ 1000 := by rw [ht]; exact hjj
  have HI : Hid (∀ W, Below w.heap.size w W → Calls Tryd.prog 75 #[.slice (some ⟨b, 0, none⟩) xs.length cap, .string ⟨word.toArray⟩] W fun e w' => e = .returned (.string ⟨t.toArray⟩) ∧ Below W.heap.size W w') := by
    intro W h; rw [ht]; exact i_join word _ xs W (HA.out W h) (by omega) (by omega)
  dsimp only
  rw [← ht]
  clear ht hjj hj HA
  go_enter Tryd.func60, Tryd.ntmps60
  go_wp2_with (go_at_call 75; refine (HI.out _ (by (repeat (first | exact Below.refl _ _ | assumption | refine bl_alloc ?_ _ | refine bl_drewN ?_ _ | refine bl_drew ?_ | refine bl_grow ?_ _ _ | refine bl_set (Nat.le_refl _) ?_ _ | refine bl_call ?_ (by assumption))))).mono ?_; rintro e w1 ⟨rfl, hb⟩)
  go_ret
  exact ⟨rfl, hb⟩
set_option maxHeartbeats 400000 in
set_option maxRecDepth 100000 in
theorem wf_named : WriteFn 61 (fun word xs => word ++ 58 :: Lib.join xs [44]) := by
  refine ⟨enters_of Tryd.func61 (by kernel_rfl) rfl, fun word v xs w hat hw hx hj => ?_⟩
  have HA : Hid (∀ W, Below w.heap.size w W → StrsAt W v xs) := fun W h => hat.below h
  have hjj := hj [44] (by simp)
  obtain ⟨b, cap, rfl, hc, hlt, _⟩ := hat
  obtain ⟨t, ht⟩ : ∃ t, t = Lib.join xs [44] := ⟨_, rfl⟩
  have htl : t.length ≤ 1000 := by rw [ht]; exact hjj
  have HI : Hid (∀ W, Below w.heap.size w W → Calls Tryd.prog 75 #[.slice (some ⟨b, 0, none⟩) xs.length cap, .string ⟨#[44]⟩] W fun e w' => e = .returned (.string ⟨t.toArray⟩) ∧ Below W.heap.size W w') := by
    intro W h; rw [ht]; exact i_join [44] _ xs W (HA.out W h) (by omega) (by omega)
  dsimp only
  rw [← ht]
  clear ht hjj hj HA
  go_enter Tryd.func61, Tryd.ntmps61
  go_wp2_with (go_at_call 75; refine (HI.out _ (by (repeat (first | exact Below.refl _ _ | assumption | refine bl_alloc ?_ _ | refine bl_drewN ?_ _ | refine bl_drew ?_ | refine bl_grow ?_ _ _ | refine bl_set (Nat.le_refl _) ?_ _ | refine bl_call ?_ (by assumption))))).mono ?_; rintro e w1 ⟨rfl, hb⟩)
  go_ret
  exact ⟨ret_string (by rw [ba_app2, ba_app]; simp), hb⟩
end Go.Proofs.YtcpojnbfinlgiaaDoor
/- What the rows' writers make of the operands' texts is the text of the model. -/
namespace Go.Proofs.YtcpojnbfinlgiaaDoor
open Go.RowKit Go.Sort Go.BigFrame
theorem join_args (d : Stil.Dev) (r : List Stil.Dev) : Lib.join ((d :: r).map Stil.Dev.text) [44] = d.text ++ Stil.argsText r := by
  rw [List.map_cons, Lib.join_cons]
  congr 1
  induction r with
  | nil => rfl
  | cons x r ih => rw [List.map_cons, Lib.joinTail, List.map_cons, List.flatten_cons, Stil.argsText, ← ih]; rfl
theorem coil_shape {op : Int} {ds : List Stil.Dev} (h : Stil.isCoil op ds = true) : 21 ≤ op ∧ op ≤ 37 ∧ 0 < ds.length ∧ ds.length ≤ 3 := by
  unfold Stil.isCoil at h
  split at h
  · cases h
  · rename_i hn
    have ha : (1 : Int) ≤ Stil.arity op ∧ Stil.arity op ≤ 3 := by
      unfold Stil.arity
      split
      · omega
      · split
        · omega
        · rw [if_pos (by omega)]; omega
    omega
theorem contact_shape {op : Int} {ds : List Stil.Dev} (h : Stil.isContact op ds = true) : 1 ≤ op ∧ op ≤ 10 ∧ ((op ≤ 2 ∧ ∃ a, ds = [a]) ∨ (3 ≤ op ∧ ∃ a b, ds = [a, b])) := by
  unfold Stil.isContact at h
  split at h
  · cases h
  · rename_i hn
    refine ⟨by omega, by omega, ?_⟩
    split at h
    · rename_i a
      simp at h
      exact Or.inl ⟨h.1, a, rfl⟩
    · rename_i a b
      split at h
      · cases h
      · exact Or.inr ⟨by omega, a, b, rfl⟩
    · cases h
def writeOf (op : Int) (word : List UInt8) (xs : List (List UInt8)) : List UInt8 :=
  if op ≤ 4 then word ++ Lib.join xs [58] else if op ≤ 10 then Lib.join xs word else word ++ 58 :: Lib.join xs [44]
theorem row_coil {op : Int} (h1 : 21 ≤ op) (h2 : op ≤ 37) : (rowOf op).1 = Stil.elemName op ∧ (rowOf op).2.1 = 61 ∧ (rowOf op).1.length ≤ 100 := by
  have h : op = 21 ∨ op = 22 ∨ op = 23 ∨ op = 24 ∨ op = 25 ∨ op = 26 ∨ op = 27 ∨ op = 28 ∨ op = 29 ∨ op = 30 ∨ op = 31 ∨ op = 32 ∨ op = 33 ∨ op = 34 ∨ op = 35 ∨ op = 36 ∨ op = 37 := by omega
  rcases h with rfl | rfl | rfl | rfl | rfl | rfl | rfl | rfl | rfl | rfl | rfl | rfl | rfl | rfl | rfl | rfl | rfl <;> exact ⟨rfl, rfl, by decide⟩
theorem row_sign {op : Int} (h1 : 5 ≤ op) (h2 : op ≤ 10) : (rowOf op).1 = Stil.sign op ∧ (rowOf op).2.1 = 60 ∧ (rowOf op).1.length ≤ 100 := by
  have h : op = 5 ∨ op = 6 ∨ op = 7 ∨ op = 8 ∨ op = 9 ∨ op = 10 := by omega
  rcases h with rfl | rfl | rfl | rfl | rfl | rfl <;> exact ⟨rfl, rfl, by decide⟩
theorem row_ahead {op : Int} (h1 : 1 ≤ op) (h2 : op ≤ 4) : (rowOf op).1 = (if op = 1 then [] else if op = 2 then [47] else if op = 3 then [43] else [45]) ∧ (rowOf op).2.1 = 57 ∧ (rowOf op).1.length ≤ 100 := by
  have h : op = 1 ∨ op = 2 ∨ op = 3 ∨ op = 4 := by omega
  rcases h with rfl | rfl | rfl | rfl <;> exact ⟨rfl, rfl, by decide⟩
theorem write_fn {op : Int} (h : (1 ≤ op ∧ op ≤ 10) ∨ (21 ≤ op ∧ op ≤ 37)) : WriteFn (rowOf op).2.1 (writeOf op) ∧ (rowOf op).2.1 ≠ 0 ∧ (rowOf op).1.length ≤ 100 := by
  rcases h with ⟨h1, h2⟩ | ⟨h1, h2⟩
  · by_cases h4 : op ≤ 4
    · obtain ⟨_, e, l⟩ := row_ahead h1 h4
      rw [e]
      refine ⟨?_, by decide, l⟩
      rw [show writeOf op = (fun word xs => word ++ Lib.join xs [58]) from by funext word xs; unfold writeOf; rw [if_pos h4]]
      exact wf_ahead
    · obtain ⟨_, e, l⟩ := row_sign (by omega) h2
      rw [e]
      refine ⟨?_, by decide, l⟩
      rw [show writeOf op = (fun word xs => Lib.join xs word) from by funext word xs; unfold writeOf; rw [if_neg h4, if_pos h2]]
      exact wf_between
  · obtain ⟨_, e, l⟩ := row_coil h1 h2
    rw [e]
    refine ⟨?_, by decide, l⟩
    rw [show writeOf op = (fun word xs => word ++ 58 :: Lib.join xs [44]) from by funext word xs; unfold writeOf; rw [if_neg (by omega), if_neg (by omega)]]
    exact wf_named
theorem coil_contact {op : Int} {ds : List Stil.Dev} (h : op ≤ 10) : Stil.isCoil op ds = false := by unfold Stil.isCoil; rw [if_pos (by omega)]
theorem join_two (a b sep : List UInt8) : Lib.join [a, b] sep = a ++ (sep ++ b) := by rw [Lib.join_cons]; simp [Lib.joinTail]
theorem write_eq {op : Int} {ds : List Stil.Dev} (h : (Stil.isContact op ds || Stil.isCoil op ds) = true) : writeOf op (rowOf op).1 (ds.map Stil.Dev.text) = Stil.elemText op ds := by
  cases hco : Stil.isCoil op ds
  · rw [hco, Bool.or_false] at h
    obtain ⟨h1, h2, hs⟩ := contact_shape h
    unfold Stil.elemText
    rw [hco, h]
    rcases hs with ⟨h3, a, rfl⟩ | ⟨h3, a, b, rfl⟩
    · rw [(row_ahead h1 (by omega)).1]
      unfold writeOf
      rw [if_pos (by omega)]
      have h12 : op = 1 ∨ op = 2 := by omega
      rcases h12 with rfl | rfl <;> simp [Lib.join_one]
    · by_cases h4 : op ≤ 4
      · rw [(row_ahead h1 h4).1]
        unfold writeOf
        rw [if_pos h4]
        have h34 : op = 3 ∨ op = 4 := by omega
        rcases h34 with rfl | rfl <;> simp [join_two]
      · rw [(row_sign (by omega) h2).1]
        unfold writeOf
        rw [if_neg h4, if_pos h2]
        simp [join_two, show ¬ op = 3 by omega, show ¬ op = 4 by omega]
  · obtain ⟨h1, h2, h3, _⟩ := coil_shape hco
    unfold Stil.elemText
    rw [hco]
    match ds, h3 with
    | d :: r, _ =>
      rw [(row_coil h1 h2).1]
      unfold writeOf
      rw [if_neg (by omega), if_neg (by omega), join_args]
      simp
end Go.Proofs.YtcpojnbfinlgiaaDoor
/- Contracts of the program's chapter 2: ElemText. -/
namespace Go.Proofs.YtcpojnbfinlgiaaDoor
open Go.RowKit Go.Sort Go.BigFrame
theorem join_bound : ∀ (xs : List (List UInt8)) (sep : List UInt8), xs.length ≤ 3 → (∀ x ∈ xs, x.length ≤ 60) → sep.length ≤ 100 → (Lib.join xs sep).length ≤ 1000
  | [], _, _, _, _ => by simp [Lib.join_nil]
  | [a], _, _, h, _ => by rw [Lib.join_one]; have := h a (by simp); omega
  | [a, b], sep, _, h, hs => by
    rw [Lib.join_cons]; simp [Lib.joinTail]
    have h1 := h a (by simp); have h2 := h b (by simp); omega
  | [a, b, c], sep, _, h, hs => by
    rw [Lib.join_cons]; simp [Lib.joinTail]
    have h1 := h a (by simp); have h2 := h b (by simp); have h3 := h c (by simp); omega
  | _ :: _ :: _ :: _ :: _, _, h, _, _ => by simp at h
set_option maxHeartbeats 1000000 in
set_option maxRecDepth 100000 in
theorem i_elemText_go (op : Int) (v : Value) (ds : List Stil.Dev) (f : List UInt8 → List (List UInt8) → List UInt8) (w : World) (hr : RowsAt w) (hw : WordsAt w) (hpw : PowAt w) (hat : DevsAt w v ds) (hfit : ∀ d ∈ ds, d.fits)
    (hok : (Stil.isContact op ds || Stil.isCoil op ds) = true) (h0 : 0 < ds.length) (h3 : ds.length ≤ 3) (hwf : WriteFn (rowOf op).2.1 f) (hnz : (rowOf op).2.1 ≠ 0) (hword : (rowOf op).1.length ≤ 100) :
    Calls Tryd.prog 11 #[.agg #[.int .i64 op, v]] w fun e w' => e = .returned (.string ⟨(f (rowOf op).1 (ds.map Stil.Dev.text)).toArray⟩) ∧ Below w.heap.size w w' := by
  obtain ⟨i0, hi, hz0, hz1, hz9⟩ := info_parts info_string
  have HC : Hid (∀ W, Below w.heap.size w W → Calls Tryd.prog 26 #[.agg #[.int .i64 op, v]] W fun e w' => e = .returned (.bool (Stil.isContact op ds)) ∧ Below W.heap.size W w') := fun W h => i_isContact op v ds W (hr.below h) (hat.below h) hfit (by omega)
  have HO : Hid (∀ W, Below w.heap.size w W → Calls Tryd.prog 8 #[.agg #[.int .i64 op, v]] W fun e w' => e = .returned (.bool (Stil.isCoil op ds)) ∧ Below W.heap.size W w') := fun W h => i_isCoil op v ds W (hr.below h) (hat.below h) hfit (by omega)
  have HT : Hid (∀ W, Below w.heap.size w W → ∀ d ∈ ds, Calls Tryd.prog 27 #[.agg #[.int .i64 d.kind, .int .i64 d.n, .int .i64 d.p]] W fun e w' => e = .returned (.string ⟨d.text.toArray⟩) ∧ Below W.heap.size W w') := fun W h d hd => i_devText d.kind d.n d.p W (hr.below h) (hw.below h) (hpw.below h) (hfit d hd).2.1.1 (hfit d hd).2.1.2
  have HTL : Hid (∀ d ∈ ds, d.text.length ≤ 60) := fun d hd => devText_len d.kind d.n d.p (hfit d hd).2.1.1 (hfit d hd).2.1.2
  have HRow : Hid (∀ W, Calls Tryd.prog 28 #[.int .i64 op] W fun e w' => e = .returned (rowVal (rowOf op)) ∧ Below W.heap.size W w') := fun W => i_rowOf op W
  have HW : Hid (∀ (word : List UInt8) (v : Value) (xs : List (List UInt8)) (w : World), StrsAt w v xs → word.length ≤ 100 → xs.length ≤ 3 → (∀ sep : List UInt8, sep.length ≤ 100 → (Lib.join xs sep).length ≤ 1000) →
    Calls Tryd.prog (rowOf op).2.1 #[.string ⟨word.toArray⟩, v] w fun e w' => e = .returned (.string ⟨(f word xs).toArray⟩) ∧ Below w.heap.size w w') := hwf.2
  have hent := hwf.1
  obtain ⟨a, cap, rfl, hat⟩ := hat
  have HA : Hid (∀ i (h : i < ds.length), ∃ b o, a = some ⟨b, o, none⟩ ∧ b < w.heap.size ∧ DevAt w b (o + i * 3) ds[i]) := hat
  have HK : Hid ((Stil.isContact op ds || Stil.isCoil op ds) = true) := hok
  clear hr hw hpw hat hfit hok hwf
  generalize rowOf op = r at HRow HW hent hnz hword ⊢
  obtain ⟨s, hs⟩ : ∃ s, s = r.1 := ⟨_, rfl⟩
  obtain ⟨n0, e0⟩ : ∃ n, n = r.2.1 := ⟨_, rfl⟩
  obtain ⟨n1, e1⟩ : ∃ n, n = r.2.2.1.getD 0 0 := ⟨_, rfl⟩
  obtain ⟨n2, e2⟩ : ∃ n, n = r.2.2.1.getD 1 0 := ⟨_, rfl⟩
  obtain ⟨n3, e3⟩ : ∃ n, n = r.2.2.1.getD 2 0 := ⟨_, rfl⟩
  obtain ⟨n4, e4⟩ : ∃ n, n = r.2.2.2.getD 0 0 := ⟨_, rfl⟩
  obtain ⟨n5, e5⟩ : ∃ n, n = r.2.2.2.getD 1 0 := ⟨_, rfl⟩
  obtain ⟨n6, e6⟩ : ∃ n, n = r.2.2.2.getD 2 0 := ⟨_, rfl⟩
  rw [← e0] at hnz HW hent
  rw [← hs] at hword ⊢
  have hrv : rowVal r = .agg #[.string ⟨s.toArray⟩, .func (.func n0) #[] #[], fnv n1, fnv n2, fnv n3, fnv n4, fnv n5, fnv n6] := by rw [rowVal, hs, ← fnv_pos hnz, e0, e1, e2, e3, e4, e5, e6]
  rw [hrv] at HRow
  have hst := run_store_fnv
  clear hrv hs e0 e1 e2 e3 e4 e5 e6 hnz
  cases hct : Stil.isContact op ds
  · have hco : Stil.isCoil op ds = true := by have := HK.out; rw [hct] at this; simpa using this
    go_enter Tryd.func11, Tryd.ntmps11
    go_wp2_with (first | (go_at_call 26; refine (HC.out _ (by (repeat (first | exact Below.refl _ _ | assumption | refine bl_alloc ?_ _ | refine bl_drewN ?_ _ | refine bl_drew ?_ | refine bl_grow ?_ _ _ | refine bl_set (Nat.le_refl _) ?_ _ | refine bl_call ?_ (by assumption))))).mono ?_; rw [hct]; rintro e w1 ⟨rfl, hb1⟩; obtain ⟨hc1, hf1⟩ := bcell hb1; have hz := below_lt hb1) | (go_at_call 8; refine (HO.out _ (by (repeat (first | exact Below.refl _ _ | assumption | refine bl_alloc ?_ _ | refine bl_drewN ?_ _ | refine bl_drew ?_ | refine bl_grow ?_ _ _ | refine bl_set (Nat.le_refl _) ?_ _ | refine bl_call ?_ (by assumption))))).mono ?_; rw [hco]; rintro e w2 ⟨rfl, hb2⟩; obtain ⟨hc2, hf2⟩ := bcell hb2; have hz2 : w.heap.size < w2.heap.size := Nat.lt_of_lt_of_le hz hb2.size) | (at_make; refine wpList_make_own _ rfl _ _ 45 rfl (w.heap.size + 1) 9 i0 (.string ⟨#[]⟩) 1 Tryd.underlying45 hi hz0 hz1 _ _ _ ds.length rfl rfl rfl ?b2 ?b3 ?b4 ?_))
    case b2 => rw [hz9]; omega
    case b3 => unfold maxLen; omega
    case b4 => omega
    intro w3 hown hgrow
    have hbE : Below (w.heap.size + 1) (w.alloc (.cells #[.int .i64 op, .slice a ds.length cap] 29)) w2 := (by have h := hb1.trans (hb2.mono hb1.size); simpa using h)
    have hb3 : Below (w.heap.size + 1) (w.alloc (.cells #[.int .i64 op, .slice a ds.length cap] 29)) w3 := hbE.grown hgrow (by omega) (fun _ h => by cases h)
    have e1 : w3.cell? ⟨w.heap.size, 1, none⟩ = some (.slice a ds.length cap) := by rw [hb3.cell (p := ⟨w.heap.size, 1, none⟩) (by simp)]; simp [go_sem]
    clear hbE hgrow
    go_wp2
    go_loopw [3, 22] (fun txt i wr => ∃ k : Nat, k ≤ ds.length ∧ i = .int .i64 k ∧ wr.ownsRow (w.heap.size + 1) 9 1 txt k (((ds.take k).map Stil.Dev.text).map strV) ∧ Below (w.heap.size + 1) (w.alloc (.cells #[.int .i64 op, .slice a ds.length cap] 29)) wr) (fun _ i _ => ds.length - (intOf i).toNat)
    case atStart => exact ⟨0, by omega, rfl, by simpa using hown, hb3⟩
    case round =>
      clear hown hb3 e1
      obtain ⟨k, hk, rfl, hown, hb⟩ := hrel
      have hbw : Below w.heap.size w wr := (below_alloc _ _).trans (hb.mono (by omega))
      by_cases hlt : k < ds.length
      · obtain ⟨b, o, rfl, hbl, hdv⟩ := HA.out k hlt
        obtain ⟨x0, x1, x2⟩ := hdv.below hbw hbl
        have HX : Hid (∀ W, Below w.heap.size w W → Calls Tryd.prog 27 #[.agg #[.int .i64 ds[k].kind, .int .i64 ds[k].n, .int .i64 ds[k].p]] W fun e w' => e = .returned (.string ⟨ds[k].text.toArray⟩) ∧ Below W.heap.size W w') := fun W h => HT.out W h ds[k] (List.getElem_mem hlt)
        have HD : Hid (((ds.take (k + 1)).map Stil.Dev.text).map strV = ((ds.take k).map Stil.Dev.text).map strV ++ [strV ds[k].text]) := by
          show _ = _
          rw [List.take_succ_eq_append_getElem hlt, List.map_append, List.map_append]; rfl
        obtain ⟨x, hx⟩ : ∃ x, x = ds[k] := ⟨_, rfl⟩
        rw [← hx] at x0 x1 x2 HX HD
        have hsz : w.heap.size + 1 ≤ wr.heap.size := by have := hb.size; simp at this; exact this
        clear hx hdv
        go_wp2_with (first | (go_at_call 27; refine (HX.out _ (by (repeat (first | exact Below.refl _ _ | assumption | refine bl_alloc ?_ _ | refine bl_drewN ?_ _ | refine bl_drew ?_ | refine bl_grow ?_ _ _ | refine bl_set (Nat.le_refl _) ?_ _ | refine bl_call ?_ (by assumption))))).mono ?_; rintro e w4 ⟨rfl, hb4⟩; have hown4 := ownsRow_below (hown.alloc (.cells #[.int .i64 x.kind, .int .i64 x.n, .int .i64 x.p] 37)) hb4) | (at_builtin; refine wpList_append_own _ rfl _ _ 45 rfl (w.heap.size + 1) 9 i0 (.string ⟨#[]⟩) 1 16 Tryd.underlying45 hi hz0 hz1 hz9 rfl (by decide) _ _ _ rfl (hown4.alloc _) ⟨w4.heap.size, 0, none⟩ 1 1 [.string ⟨x.text.toArray⟩] rfl rfl ?c1 ?c2 ?c3 ?c4 ?c5 ?_))
        case c1 => exact cell_one_new _ _ _
        case c2 => intro u hu; simp at hu; subst hu; rfl
        case c3 => unfold maxLen; omega
        case c4 => omega
        case c5 => have := hb4.size; simp at this ⊢; omega
        intro v' w5 hown5 hgrow _
        have hlt5 := hown4.lt
        have hsz4 : w.heap.size + 1 ≤ w4.heap.size := by have := hb4.size; simp at this; omega
        have hb5 : Below (w.heap.size + 1) (w.alloc (.cells #[.int .i64 op, .slice (some ⟨b, o, none⟩) ds.length cap] 29)) w5 := (((hb.alloc hsz _).trans (hb4.mono (by simp; omega))).alloc hsz4 _).grown hgrow (by simp; omega) (fun k hk => (hlt5 k hk).1)
        clear hown hown4
        go_wp2
        refine ⟨⟨k + 1, by omega, by go_num, ?_, hb5⟩, by simp [intOf]; omega⟩
        rw [HD.out, show List.map strV (List.map Stil.Dev.text (List.take k ds)) = List.take k (List.map (strV ∘ Stil.Dev.text) ds) from by simp [List.map_take]]; exact hown5
      · have hkn : k = ds.length := by omega
        subst hkn
        rw [List.take_length] at hown
        have HS : Hid (∀ W, Below wr.heap.size wr W → StrsAt W u3 (ds.map Stil.Dev.text)) := fun W h => (StrsAt.of_owns (by simpa using hown) (by simpa using h0)).below h
        obtain ⟨bt, ct, rfl, _, _, _⟩ := HS.out wr (Below.refl _ _)
        have e0 : wr.cell? ⟨w.heap.size, 0, none⟩ = some (.int .i64 op) := by rw [hb.cell (p := ⟨w.heap.size, 0, none⟩) (by simp)]; simp [go_sem]
        have HJ : ∀ sep : List UInt8, sep.length ≤ 100 → (Lib.join (ds.map Stil.Dev.text) sep).length ≤ 1000 := fun sep hsep => join_bound _ sep (by simpa using h3) (fun x hx => by obtain ⟨d, hd, rfl⟩ := List.mem_map.1 hx; exact HTL.out d hd) hsep
        have HH : Hid (∀ W, Below wr.heap.size wr W → Calls Tryd.prog n0 #[.string ⟨s.toArray⟩, .slice (some ⟨bt, 0, none⟩) ds.length ct] W fun e w' => e = .returned (.string ⟨(f s (ds.map Stil.Dev.text)).toArray⟩) ∧ Below W.heap.size W w') := fun W h => by
          have := HW.out s _ _ W (HS.out W h) hword (by simpa using h3) HJ
          rw [List.length_map] at this
          exact this
        clear hown hb hc1 hf1 hc2 hf2 HJ
        go_wp2_with (first | (go_at_call 28; refine (HRow.out _).mono ?_; rintro e w6 ⟨rfl, hb6⟩))
        refine (HH.out _ (bl_alloc hb6 _)).mono ?_
        rintro e w7 ⟨rfl, hb7⟩
        go_wp2
        go_ret
        exact ⟨rfl, bl_call (bl_alloc (bl_call hbw hb6) _) hb7⟩
  · go_enter Tryd.func11, Tryd.ntmps11
    go_wp2_with (first | (go_at_call 26; refine (HC.out _ (by (repeat (first | exact Below.refl _ _ | assumption | refine bl_alloc ?_ _ | refine bl_drewN ?_ _ | refine bl_drew ?_ | refine bl_grow ?_ _ _ | refine bl_set (Nat.le_refl _) ?_ _ | refine bl_call ?_ (by assumption))))).mono ?_; rw [hct]; rintro e w1 ⟨rfl, hb1⟩; obtain ⟨hc1, hf1⟩ := bcell hb1; have hz := below_lt hb1) | (at_make; refine wpList_make_own _ rfl _ _ 45 rfl (w.heap.size + 1) 9 i0 (.string ⟨#[]⟩) 1 Tryd.underlying45 hi hz0 hz1 _ _ _ ds.length rfl rfl rfl ?b2 ?b3 ?b4 ?_))
    case b2 => rw [hz9]; omega
    case b3 => unfold maxLen; omega
    case b4 => omega
    intro w3 hown hgrow
    have hbE : Below (w.heap.size + 1) (w.alloc (.cells #[.int .i64 op, .slice a ds.length cap] 29)) w1 := (by simpa using hb1)
    have hb3 : Below (w.heap.size + 1) (w.alloc (.cells #[.int .i64 op, .slice a ds.length cap] 29)) w3 := hbE.grown hgrow (by omega) (fun _ h => by cases h)
    have e1 : w3.cell? ⟨w.heap.size, 1, none⟩ = some (.slice a ds.length cap) := by rw [hb3.cell (p := ⟨w.heap.size, 1, none⟩) (by simp)]; simp [go_sem]
    clear hbE hgrow
    go_wp2
    go_loopw [3, 22] (fun txt i wr => ∃ k : Nat, k ≤ ds.length ∧ i = .int .i64 k ∧ wr.ownsRow (w.heap.size + 1) 9 1 txt k (((ds.take k).map Stil.Dev.text).map strV) ∧ Below (w.heap.size + 1) (w.alloc (.cells #[.int .i64 op, .slice a ds.length cap] 29)) wr) (fun _ i _ => ds.length - (intOf i).toNat)
    case atStart => exact ⟨0, by omega, rfl, by simpa using hown, hb3⟩
    case round =>
      clear hown hb3 e1
      obtain ⟨k, hk, rfl, hown, hb⟩ := hrel
      have hbw : Below w.heap.size w wr := (below_alloc _ _).trans (hb.mono (by omega))
      by_cases hlt : k < ds.length
      · obtain ⟨b, o, rfl, hbl, hdv⟩ := HA.out k hlt
        obtain ⟨x0, x1, x2⟩ := hdv.below hbw hbl
        have HX : Hid (∀ W, Below w.heap.size w W → Calls Tryd.prog 27 #[.agg #[.int .i64 ds[k].kind, .int .i64 ds[k].n, .int .i64 ds[k].p]] W fun e w' => e = .returned (.string ⟨ds[k].text.toArray⟩) ∧ Below W.heap.size W w') := fun W h => HT.out W h ds[k] (List.getElem_mem hlt)
        have HD : Hid (((ds.take (k + 1)).map Stil.Dev.text).map strV = ((ds.take k).map Stil.Dev.text).map strV ++ [strV ds[k].text]) := by
          show _ = _
          rw [List.take_succ_eq_append_getElem hlt, List.map_append, List.map_append]; rfl
        obtain ⟨x, hx⟩ : ∃ x, x = ds[k] := ⟨_, rfl⟩
        rw [← hx] at x0 x1 x2 HX HD
        have hsz : w.heap.size + 1 ≤ wr.heap.size := by have := hb.size; simp at this; exact this
        clear hx hdv
        go_wp2_with (first | (go_at_call 27; refine (HX.out _ (by (repeat (first | exact Below.refl _ _ | assumption | refine bl_alloc ?_ _ | refine bl_drewN ?_ _ | refine bl_drew ?_ | refine bl_grow ?_ _ _ | refine bl_set (Nat.le_refl _) ?_ _ | refine bl_call ?_ (by assumption))))).mono ?_; rintro e w4 ⟨rfl, hb4⟩; have hown4 := ownsRow_below (hown.alloc (.cells #[.int .i64 x.kind, .int .i64 x.n, .int .i64 x.p] 37)) hb4) | (at_builtin; refine wpList_append_own _ rfl _ _ 45 rfl (w.heap.size + 1) 9 i0 (.string ⟨#[]⟩) 1 16 Tryd.underlying45 hi hz0 hz1 hz9 rfl (by decide) _ _ _ rfl (hown4.alloc _) ⟨w4.heap.size, 0, none⟩ 1 1 [.string ⟨x.text.toArray⟩] rfl rfl ?c1 ?c2 ?c3 ?c4 ?c5 ?_))
        case c1 => exact cell_one_new _ _ _
        case c2 => intro u hu; simp at hu; subst hu; rfl
        case c3 => unfold maxLen; omega
        case c4 => omega
        case c5 => have := hb4.size; simp at this ⊢; omega
        intro v' w5 hown5 hgrow _
        have hlt5 := hown4.lt
        have hsz4 : w.heap.size + 1 ≤ w4.heap.size := by have := hb4.size; simp at this; omega
        have hb5 : Below (w.heap.size + 1) (w.alloc (.cells #[.int .i64 op, .slice (some ⟨b, o, none⟩) ds.length cap] 29)) w5 := (((hb.alloc hsz _).trans (hb4.mono (by simp; omega))).alloc hsz4 _).grown hgrow (by simp; omega) (fun k hk => (hlt5 k hk).1)
        clear hown hown4
        go_wp2
        refine ⟨⟨k + 1, by omega, by go_num, ?_, hb5⟩, by simp [intOf]; omega⟩
        rw [HD.out, show List.map strV (List.map Stil.Dev.text (List.take k ds)) = List.take k (List.map (strV ∘ Stil.Dev.text) ds) from by simp [List.map_take]]; exact hown5
      · have hkn : k = ds.length := by omega
        subst hkn
        rw [List.take_length] at hown
        have HS : Hid (∀ W, Below wr.heap.size wr W → StrsAt W u3 (ds.map Stil.Dev.text)) := fun W h => (StrsAt.of_owns (by simpa using hown) (by simpa using h0)).below h
        obtain ⟨bt, ct, rfl, _, _, _⟩ := HS.out wr (Below.refl _ _)
        have e0 : wr.cell? ⟨w.heap.size, 0, none⟩ = some (.int .i64 op) := by rw [hb.cell (p := ⟨w.heap.size, 0, none⟩) (by simp)]; simp [go_sem]
        have HJ : ∀ sep : List UInt8, sep.length ≤ 100 → (Lib.join (ds.map Stil.Dev.text) sep).length ≤ 1000 := fun sep hsep => join_bound _ sep (by simpa using h3) (fun x hx => by obtain ⟨d, hd, rfl⟩ := List.mem_map.1 hx; exact HTL.out d hd) hsep
        have HH : Hid (∀ W, Below wr.heap.size wr W → Calls Tryd.prog n0 #[.string ⟨s.toArray⟩, .slice (some ⟨bt, 0, none⟩) ds.length ct] W fun e w' => e = .returned (.string ⟨(f s (ds.map Stil.Dev.text)).toArray⟩) ∧ Below W.heap.size W w') := fun W h => by
          have := HW.out s _ _ W (HS.out W h) hword (by simpa using h3) HJ
          rw [List.length_map] at this
          exact this
        clear hown hb hc1 hf1 HJ
        go_wp2_with (first | (go_at_call 28; refine (HRow.out _).mono ?_; rintro e w6 ⟨rfl, hb6⟩))
        refine (HH.out _ (bl_alloc hb6 _)).mono ?_
        rintro e w7 ⟨rfl, hb7⟩
        go_wp2
        go_ret
        exact ⟨rfl, bl_call (bl_alloc (bl_call hbw hb6) _) hb7⟩
set_option maxHeartbeats 1000000 in
set_option maxRecDepth 100000 in
theorem i_elemText (op : Int) (v : Value) (ds : List Stil.Dev) (w : World) (hr : RowsAt w) (hw : WordsAt w) (hpw : PowAt w) (hat : DevsAt w v ds) (hfit : ∀ d ∈ ds, d.fits) (hl : ds.length ≤ 9223372036854775807) :
    Calls Tryd.prog 11 #[.agg #[.int .i64 op, v]] w fun e w' => e = .returned (.string ⟨(Stil.elemText op ds).toArray⟩) ∧ Below w.heap.size w w' := by
  cases hok : (Stil.isContact op ds || Stil.isCoil op ds)
  · have hct : Stil.isContact op ds = false := by cases h : Stil.isContact op ds <;> simp_all
    have hco : Stil.isCoil op ds = false := by cases h : Stil.isCoil op ds <;> simp_all
    have HD : Hid (Stil.elemText op ds = []) := by show _ = _; unfold Stil.elemText; rw [hco, hct]; rfl
    have HC : Hid (∀ W, Below w.heap.size w W → Calls Tryd.prog 26 #[.agg #[.int .i64 op, v]] W fun e w' => e = .returned (.bool (Stil.isContact op ds)) ∧ Below W.heap.size W w') := fun W h => i_isContact op v ds W (hr.below h) (hat.below h) hfit hl
    have HO : Hid (∀ W, Below w.heap.size w W → Calls Tryd.prog 8 #[.agg #[.int .i64 op, v]] W fun e w' => e = .returned (.bool (Stil.isCoil op ds)) ∧ Below W.heap.size W w') := fun W h => i_isCoil op v ds W (hr.below h) (hat.below h) hfit hl
    obtain ⟨a, cap, rfl, _⟩ := hat
    clear hr hw hpw hfit hok
    go_enter Tryd.func11, Tryd.ntmps11
    go_wp2_with (first | (go_at_call 26; refine (HC.out _ (by (repeat (first | exact Below.refl _ _ | assumption | refine bl_alloc ?_ _ | refine bl_drewN ?_ _ | refine bl_drew ?_ | refine bl_grow ?_ _ _ | refine bl_set (Nat.le_refl _) ?_ _ | refine bl_call ?_ (by assumption))))).mono ?_; rw [hct]; rintro e w1 ⟨rfl, hb1⟩; obtain ⟨hc1, hf1⟩ := bcell hb1; have hz := below_lt hb1) | (go_at_call 8; refine (HO.out _ (by (repeat (first | exact Below.refl _ _ | assumption | refine bl_alloc ?_ _ | refine bl_drewN ?_ _ | refine bl_drew ?_ | refine bl_grow ?_ _ _ | refine bl_set (Nat.le_refl _) ?_ _ | refine bl_call ?_ (by assumption))))).mono ?_; rw [hco]; rintro e w2 ⟨rfl, hb2⟩))
    go_ret
    exact ⟨ret_string (by rw [HD.out]), by (repeat (first | exact Below.refl _ _ | assumption | refine bl_alloc ?_ _ | refine bl_drewN ?_ _ | refine bl_drew ?_ | refine bl_grow ?_ _ _ | refine bl_set (Nat.le_refl _) ?_ _ | refine bl_call ?_ (by assumption)))⟩
  · have hrange : (1 ≤ op ∧ op ≤ 10) ∨ (21 ≤ op ∧ op ≤ 37) := by
      cases hco : Stil.isCoil op ds
      · rw [hco, Bool.or_false] at hok
        have := contact_shape hok; exact Or.inl ⟨this.1, this.2.1⟩
      · have := coil_shape hco; exact Or.inr ⟨this.1, this.2.1⟩
    have hlen : 0 < ds.length ∧ ds.length ≤ 3 := by
      cases hco : Stil.isCoil op ds
      · rw [hco, Bool.or_false] at hok
        rcases (contact_shape hok).2.2 with ⟨_, a, rfl⟩ | ⟨_, a, b, rfl⟩ <;> simp
      · have := coil_shape hco; exact ⟨this.2.2.1, this.2.2.2⟩
    obtain ⟨hwf, hnz, hword⟩ := write_fn hrange
    rw [← write_eq hok]
    exact i_elemText_go op v ds (writeOf op) w hr hw hpw hat hfit hok hlen.1 hlen.2 hwf hnz hword
end Go.Proofs.YtcpojnbfinlgiaaDoor
