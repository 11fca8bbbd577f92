/- S1, S1b, S1c, S1d, S1e, S1f, S1g, S1h: texts put together. -/
import Derived.Test.YtcpojnbfinlgiaaDoorChecked
import Derived.Test.YtcpojnbfinlgiaaDoorGM
import Derived.WalkKit
import Derived.WalkSpells
import Derived.WalkLawsBesides
import Derived.Deep.QuietTactic
import Derived.BigQuiet
import Derived.Lib.QuietBelow
import Derived.Deep.Light
import Derived.Lib.ItoaNum
import Derived.Laws.BytesArg
import Derived.Deep.RegionHeld3
/- Contracts of the specification's chapter 1. -/
namespace Go.Proofs.YtcpojnbfinlgiaaDoor
open Go.RowKit Go.Sort Go.BigFrame
theorem ret_int {k : IntKind} {a b : Int} (h : a = b) : Ending.returned (.int k a) = .returned (.int k b) := by rw [h]
theorem ret_bool {a b : Bool} (h : a = b) : Ending.returned (.bool a) = .returned (.bool b) := by rw [h]
theorem bcell {W w1 : World} (hb : Below W.heap.size W w1) : (∀ b o, b < W.heap.size → w1.cell? ⟨b, o, none⟩ = W.cell? ⟨b, o, none⟩) ∧ (∀ b o, b < W.heap.size → w1.frozen? ⟨b, o, none⟩ = W.frozen? ⟨b, o, none⟩) :=
  ⟨fun b o h => hb.cell (p := ⟨b, o, none⟩) h, fun b o h => hb.frozen (p := ⟨b, o, none⟩) h⟩
theorem below_alloc (w : World) (o : Obj) : Below w.heap.size w (w.alloc o) := (Below.refl _ _).alloc (Nat.le_refl _) o
theorem same_below {P : Program} {f : FuncId} {args : Array Value} {w : World} {v : Value} (h : Calls P f args w fun e w' => e = .returned v ∧ w' = w) : Calls P f args w fun e w' => e = .returned v ∧ Below w.heap.size w w' :=
  h.mono fun _ _ ⟨he, hw⟩ => ⟨he, by rw [hw]; exact Below.refl _ _⟩
set_option maxHeartbeats 400000 in
theorem s_devSize (k : Int) (w : World) :
    Calls Tryd.prog 44 #[.int .i64 k] w fun e w' => e = .returned (.int .i64 (Stil.devSize k)) ∧ w' = w := by
  go_enter Tryd.func44, Tryd.ntmps44
  go_wp2
  all_goals go_ret
  all_goals (refine ⟨ret_int ?_, rfl⟩; simp only [beq_iff_eq, beq_eq_false_iff_ne] at *; unfold Stil.devSize; simp [*])
set_option maxHeartbeats 400000 in
theorem s_devOk (k n p : Int) (w : World) (hn1 : -9223372036854775808 ≤ n) (hn2 : n ≤ 9223372036854775807) :
    Calls Tryd.prog 29 #[.agg #[.int .i64 k, .int .i64 n, .int .i64 p]] w fun e w' => e = .returned (.bool (Stil.devOkB k n p)) ∧ Below w.heap.size w w' := by
  have c0 : (w.alloc (Obj.cells #[.int .i64 k, .int .i64 n, .int .i64 p] 37)).cell? ⟨w.heap.size, 0, none⟩ = some (.int .i64 k) := by simp [go_sem]
  have c1 : (w.alloc (Obj.cells #[.int .i64 k, .int .i64 n, .int .i64 p] 37)).cell? ⟨w.heap.size, 1, none⟩ = some (.int .i64 n) := by simp [go_sem]
  have c2 : (w.alloc (Obj.cells #[.int .i64 k, .int .i64 n, .int .i64 p] 37)).cell? ⟨w.heap.size, 2, none⟩ = some (.int .i64 p) := by simp [go_sem]
  have r0 := cell_regrown c0
  have r1 := cell_regrown c1
  have r2 := cell_regrown c2
  clear c0 c1 c2
  go_enter Tryd.func29, Tryd.ntmps29
  go_wp2
  rotate_right 1
  focus
    by_cases h0 : 0 ≤ n
    · by_cases h1 : n < Stil.devSize k
      · refine wp_region_quiet_below (by kernel_rfl) (by kernel_rfl) ?_
        repeat (go_big_quiet_step ((exact Calls.regrown_of (same_below (s_devSize _ _)))))
        refine wpQuiet_nil ?_
        intro _ hw'
        obtain ⟨⟨dq, osq⟩, hw''⟩ := hw'
        subst hw''
        go_wp2
        go_ret
        refine ⟨ret_bool ?_, (below_alloc _ _).trans ((below_regrown _ dq osq).mono (by simp))⟩
        go_light
        simp only [beq_eq_false_iff_ne] at *
        (rw [Bool.eq_iff_iff]; simp [Stil.devOkB, *]; try omega)
      · have h1' : decide (n < Stil.devSize k) = false := by simpa using h1
        refine wp_region_quiet_below (by kernel_rfl) (by kernel_rfl) ?_
        repeat (go_big_quiet_step ((exact Calls.regrown_of (same_below (s_devSize _ _)))))
        refine wpQuiet_nil ?_
        intro _ hw'
        obtain ⟨⟨dq, osq⟩, hw''⟩ := hw'
        subst hw''
        go_wp2
        go_ret
        refine ⟨ret_bool ?_, (below_alloc _ _).trans ((below_regrown _ dq osq).mono (by simp))⟩
        go_light
        simp only [beq_eq_false_iff_ne] at *
        (rw [Bool.eq_iff_iff]; simp [Stil.devOkB, *]; try omega)
    · have h0' : decide (0 ≤ n) = false := by simpa using h0
      refine wp_region_quiet_below (by kernel_rfl) (by kernel_rfl) ?_
      repeat (go_big_quiet_step ((exact Calls.regrown_of (same_below (s_devSize _ _)))))
      refine wpQuiet_nil ?_
      intro _ hw'
      obtain ⟨⟨dq, osq⟩, hw''⟩ := hw'
      subst hw''
      go_wp2
      go_ret
      refine ⟨ret_bool ?_, (below_alloc _ _).trans ((below_regrown _ dq osq).mono (by simp))⟩
      go_light
      simp only [beq_eq_false_iff_ne] at *
      (rw [Bool.eq_iff_iff]; simp [Stil.devOkB, *]; try omega)
  all_goals go_ret
  all_goals (refine ⟨ret_bool ?_, below_alloc _ _⟩)
  all_goals go_light
  all_goals simp only [beq_iff_eq, beq_eq_false_iff_ne] at *
  all_goals (rw [Bool.eq_iff_iff]; simp [Stil.devOkB, *]; try omega)
end Go.Proofs.YtcpojnbfinlgiaaDoor
/- Contracts of the specification's chapter 1, second part. -/
namespace Go.Proofs.YtcpojnbfinlgiaaDoor
open Go.RowKit Go.Sort Go.BigFrame
theorem below_two {w w1 : World} {o : Obj} (hb : Below (w.alloc o).heap.size (w.alloc o) w1) : Below w.heap.size w w1 := (below_alloc w o).trans (hb.mono (by simp))
set_option maxHeartbeats 400000 in
theorem s_devIsBit (k n p : Int) (w : World) (hn1 : -9223372036854775808 ≤ n) (hn2 : n ≤ 9223372036854775807) :
    Calls Tryd.prog 37 #[.agg #[.int .i64 k, .int .i64 n, .int .i64 p]] w fun e w' => e = .returned (.bool (Stil.devIsBitB k n p)) ∧ Below w.heap.size w w' := by
  cases h : Stil.devOkB k n p
  all_goals
    go_enter Tryd.func37, Tryd.ntmps37
    go_wp2_with (go_at_call 29; refine (s_devOk _ _ _ _ hn1 hn2).mono ?_; rintro e w' ⟨rfl, hb⟩; obtain ⟨hc, hf⟩ := bcell hb)
    all_goals go_ret
    all_goals (refine ⟨ret_bool ?_, below_two (by assumption)⟩)
    all_goals go_light
    all_goals (rw [Stil.devIsBitB, h, Bool.eq_iff_iff]; clear h; simp [*]; try omega)
set_option maxHeartbeats 400000 in
theorem s_devIsWhole (k n p : Int) (w : World) (hn1 : -9223372036854775808 ≤ n) (hn2 : n ≤ 9223372036854775807) :
    Calls Tryd.prog 15 #[.agg #[.int .i64 k, .int .i64 n, .int .i64 p]] w fun e w' => e = .returned (.bool (Stil.devIsWholeB k n p)) ∧ Below w.heap.size w w' := by
  cases h : Stil.devOkB k n p
  all_goals
    go_enter Tryd.func15, Tryd.ntmps15
    go_wp2_with (go_at_call 29; refine (s_devOk _ _ _ _ hn1 hn2).mono ?_; rintro e w' ⟨rfl, hb⟩; obtain ⟨hc, hf⟩ := bcell hb)
    all_goals go_ret
    all_goals (refine ⟨ret_bool ?_, below_two (by assumption)⟩)
    all_goals go_light
    all_goals (rw [Stil.devIsWholeB, h, Bool.eq_iff_iff]; clear h; simp [*]; try omega)
set_option maxHeartbeats 400000 in
theorem s_devIsReal (k n p : Int) (w : World) (hn1 : -9223372036854775808 ≤ n) (hn2 : n ≤ 9223372036854775807) :
    Calls Tryd.prog 16 #[.agg #[.int .i64 k, .int .i64 n, .int .i64 p]] w fun e w' => e = .returned (.bool (Stil.devIsRealB k n p)) ∧ Below w.heap.size w w' := by
  cases h : Stil.devOkB k n p
  all_goals
    go_enter Tryd.func16, Tryd.ntmps16
    go_wp2_with (go_at_call 29; refine (s_devOk _ _ _ _ hn1 hn2).mono ?_; rintro e w' ⟨rfl, hb⟩; obtain ⟨hc, hf⟩ := bcell hb)
    all_goals go_ret
    all_goals (refine ⟨ret_bool ?_, below_two (by assumption)⟩)
    all_goals go_light
    all_goals (rw [Stil.devIsRealB, h, Bool.eq_iff_iff]; clear h; simp [*]; try omega)
theorem ret_string {a b : ByteArray} (h : a = b) : Ending.returned (.string a) = .returned (.string b) := by rw [h]
set_option maxHeartbeats 400000 in
theorem s_devLetter (k : Int) (w : World) :
    Calls Tryd.prog 36 #[.int .i64 k] w fun e w' => e = .returned (.string (Stil.devLetter k)) ∧ w' = w := by
  by_cases h : 1 ≤ k ∧ k ≤ 10
  · obtain ⟨h1, h2⟩ := h
    have hs : (Stil.devSize k == 0) = false := by
      simp only [beq_eq_false_iff_ne]; unfold Stil.devSize; split; omega; split; omega; split; omega; split <;> omega
    go_enter Tryd.func36, Tryd.ntmps36
    go_wp2_with (go_at_call 44; refine (s_devSize _ _).mono ?_; rintro e w' ⟨rfl, rfl⟩)
    go_ret
    refine ⟨ret_string ?_, rfl⟩
    go_light
    have hk : k = 1 ∨ k = 2 ∨ k = 3 ∨ k = 4 ∨ k = 5 ∨ k = 6 ∨ k = 7 ∨ k = 8 ∨ k = 9 ∨ k = 10 := by omega
    clear hs h1 h2
    rcases hk with rfl | rfl | rfl | rfl | rfl | rfl | rfl | rfl | rfl | rfl <;> decide +kernel
  · have hs : (Stil.devSize k == 0) = true := by
      simp only [beq_iff_eq]; unfold Stil.devSize; rw [if_neg (by omega), if_neg (by omega), if_neg (by omega), if_neg (by omega)]
    go_enter Tryd.func36, Tryd.ntmps36
    go_wp2_with (go_at_call 44; refine (s_devSize _ _).mono ?_; rintro e w' ⟨rfl, rfl⟩)
    go_ret
    refine ⟨ret_string ?_, rfl⟩
    unfold Stil.devLetter; rw [if_neg h]
end Go.Proofs.YtcpojnbfinlgiaaDoor
/- Contracts of the specification's chapter 1, third part: decimals. -/
namespace Go.Proofs.YtcpojnbfinlgiaaDoor
open Go.RowKit Go.Sort Go.BigFrame
theorem conv_one (w : World) (b : Int) : (convert 64 9 (.slice (some ⟨w.heap.size, 0, none⟩) 1 1)).run Tryd.prog (w.alloc (.cells #[.int .u8 b] 5)) = .ok (.string ⟨[UInt8.ofNat b.toNat].toArray⟩) (w.alloc (.cells #[.int .u8 b] 5)) := by
  have hc : ∀ i, i < 1 → (w.alloc (.cells #[.int .u8 b] 5)).cell? ⟨w.heap.size, 0 + i, none⟩ = some (.int .u8 ([b].getD i 0)) := by
    intro i hi
    have h0 : i = 0 := by omega
    subst h0
    simp [go_sem]
  have := run_convert_bytes_arg (P := Tryd.prog) (w.alloc (.cells #[.int .u8 b] 5)) 64 5 Tryd.underlying64 Tryd.underlying5 w.heap.size 0 1 1 [b] rfl hc 9 Tryd.underlying9
  rw [this]; rfl
theorem ba_app (a b : List UInt8) : ((⟨a.toArray⟩ : ByteArray) ++ (⟨b.toArray⟩ : ByteArray)) = ⟨(a ++ b).toArray⟩ := by
  apply ByteArray.ext; simp [ByteArray.data_append]
theorem ba_app1 (x : UInt8) (b : List UInt8) : ((⟨#[x]⟩ : ByteArray) ++ (⟨b.toArray⟩ : ByteArray)) = ⟨(x :: b).toArray⟩ := ba_app [x] b
theorem u8_digit (m : Nat) : (48 : UInt8) + UInt8.ofNat m = UInt8.ofNat (48 + m) := by simp
theorem nDigits_le : ∀ (k n : Nat), n < 10 ^ (k + 1) → Lib.nDigits n ≤ k + 1
  | 0, n, h => by rw [Lib.nDigits_small (by simpa using h)]; omega
  | k + 1, n, h => by
    by_cases h1 : n < 10
    · rw [Lib.nDigits_small h1]; omega
    · rw [Lib.nDigits_big h1]
      have := nDigits_le k (n / 10) (by rw [Nat.pow_succ] at h; omega)
      omega
theorem decDigits_le {n : Nat} (h : n ≤ 9223372036854775807) : (Lib.decDigits n).length ≤ 19 := by
  rw [Lib.decDigits_length]; exact nDigits_le 18 n (by omega)
theorem decDigits_big {u : Nat} (h : ¬ u < 10) : Lib.decDigits u = Lib.decDigits (u / 10) ++ [UInt8.ofNat (48 + u % 10)] := by rw [Lib.decDigits, dif_neg h]
set_option maxHeartbeats 400000 in
set_option maxRecDepth 100000 in
theorem s_dec_nat (n : Nat) (w : World) (h : n ≤ 9223372036854775807) :
    Calls Tryd.prog 33 #[.int .i64 n] w fun e w' => e = .returned (.string ⟨(Lib.decDigits n).toArray⟩) ∧ Below w.heap.size w w' := by
  have hcv := conv_one
  have hlen := decDigits_le h
  go_enter Tryd.func33, Tryd.ntmps33
  go_wp2
  go_loopw [0, 3] (fun v out wr => ∃ (m : Nat) (suf : List UInt8), m ≤ n ∧ suf.length ≤ 19 ∧ v = .int .i64 m ∧ out = .string ⟨suf.toArray⟩ ∧ Lib.decDigits n = Lib.decDigits m ++ suf ∧ Below w.heap.size w wr) (fun v _ _ => (intOf v).toNat)
  case atStart => exact ⟨n, [], Nat.le_refl _, by simp, rfl, rfl, by simp, Below.refl _ _⟩
  case round =>
    obtain ⟨m, suf, hm, hsl, rfl, rfl, hd, hb⟩ := hrel
    have HD : Hid (Lib.decDigits n = Lib.decDigits m ++ suf) := hd
    clear hd
    by_cases hlt : m ≤ 9
    · go_wp2
      go_ret
      refine ⟨ret_string ?_, hb.alloc hb.size _⟩
      rw [HD.out, Lib.decDigits_one (by omega), ba_app1, u8_digit]; rfl
    · go_wp2
      go_roundw
      case rel =>
        refine ⟨m / 10, UInt8.ofNat (48 + m % 10) :: suf, by omega, ?_, by go_num, ?_, ?_, hb.alloc hb.size _⟩
        · have e : (Lib.decDigits n).length = (Lib.decDigits (m / 10)).length + 1 + suf.length := by rw [HD.out, decDigits_big (by omega)]; simp; omega
          rw [List.length_cons]; omega
        · rw [ba_app1, u8_digit]
        · rw [HD.out, decDigits_big (by omega)]; simp
      case measure => simp [intOf]; omega
set_option maxHeartbeats 400000 in
set_option maxRecDepth 100000 in
theorem s_dec (n : Int) (w : World) (h1 : -9223372036854775807 ≤ n) (h2 : n ≤ 9223372036854775807) :
    Calls Tryd.prog 33 #[.int .i64 n] w fun e w' => e = .returned (.string ⟨(Lib.itoa n).toArray⟩) ∧ Below w.heap.size w w' := by
  by_cases h0 : 0 ≤ n
  · obtain ⟨m, rfl⟩ := Int.eq_ofNat_of_zero_le h0
    have e : Lib.itoa (m : Int) = Lib.decDigits m := by unfold Lib.itoa; rw [if_neg (by omega)]; simp
    rw [e]
    exact s_dec_nat m w (by omega)
  · obtain ⟨m, hm⟩ := Int.eq_ofNat_of_zero_le (a := -n) (by omega)
    have e : Lib.itoa n = 45 :: Lib.decDigits m := by unfold Lib.itoa; rw [if_pos (by omega)]; congr 2; omega
    have hl := decDigits_le (n := m) (by omega)
    rw [e]
    have hn : n = -(m : Int) := by omega
    subst hn
    have hm' : m ≤ 9223372036854775807 := by omega
    have hp : 1 ≤ m := by omega
    clear hm e h0
    go_enter Tryd.func33, Tryd.ntmps33
    go_wp2_with (go_at_call 33; refine (s_dec_nat m _ hm').mono ?_; rintro e w' ⟨rfl, hb⟩)
    go_ret
    exact ⟨ret_string (ba_app1 _ _), hb⟩
end Go.Proofs.YtcpojnbfinlgiaaDoor
/- Contracts of the specification's chapter 1, fourth part: decimal numbers, DevText. -/
namespace Go.Proofs.YtcpojnbfinlgiaaDoor
open Go.RowKit Go.Sort Go.BigFrame
theorem ba_ext (l : List UInt8) (a b : Nat) : (⟨l.toArray⟩ : ByteArray).extract a b = ⟨((l.take b).drop a).toArray⟩ := by
  apply ByteArray.ext
  simp [ByteArray.data_extract, List.extract_eq_take_drop, List.drop_take]
theorem ba_app2 (a : List UInt8) (x : UInt8) : ((⟨a.toArray⟩ : ByteArray) ++ (⟨#[x]⟩ : ByteArray)) = ⟨(a ++ [x]).toArray⟩ := ba_app a [x]
theorem decNat_le (m q : Nat) (h : m ≤ 9223372036854775807) : (Stil.decNat m q).length ≤ 30 + q := by
  have := decDigits_le h
  simp [Stil.decNat, Stil.padTo]; omega
def strSize : Value → Nat | .string b => b.size | _ => 0
set_option maxHeartbeats 400000 in
theorem s_words (w : World) :
    Calls Tryd.prog 35 #[] w fun e w' => e = .returned (.slice (some ⟨w.heap.size, 0, none⟩) 4 4) ∧ w' = w.alloc (.cells #[.string ⟨#[110, 97, 110]⟩, .string ⟨#[105, 110, 102]⟩, .string ⟨#[45, 105, 110, 102]⟩, .string ⟨#[45, 48, 46, 48]⟩] 9) := by
  go_enter Tryd.func35, Tryd.ntmps35
  go_wp2
  go_ret
  exact ⟨rfl, rfl⟩
set_option maxHeartbeats 400000 in
set_option maxRecDepth 100000 in
theorem s_dec1_nat (n p : Nat) (w : World) (h : n ≤ 999999999) (hp1 : 1 ≤ p) (hp2 : p ≤ 6) :
    Calls Tryd.prog 34 #[.int .i64 n, .int .i64 p] w fun e w' => e = .returned (.string ⟨(Stil.decNat n p).toArray⟩) ∧ Below w.heap.size w w' := by
  have hlen := decDigits_le (n := n) (by omega)
  go_enter Tryd.func34, Tryd.ntmps34
  go_wp2_with (go_at_call 33; refine (s_dec_nat n _ (by omega)).mono ?_; rintro e w' ⟨rfl, hb⟩)
  go_loop [5] (fun s => ∃ k : Nat, s = .string ⟨(List.replicate k 48 ++ Lib.decDigits n).toArray⟩ ∧ k ≤ p + 1 - (Lib.decDigits n).length) (fun s => 7 - strSize s)
  case atStart => exact ⟨0, by simp, by omega⟩
  case round =>
    obtain ⟨k, rfl, hk⟩ := hrel
    by_cases hlt : k + (Lib.decDigits n).length ≤ p
    · go_wp2
      refine ⟨⟨k + 1, ?_, by omega⟩, ?_⟩
      · rw [ba_app1]; rfl
      · rw [ba_app1]; simp [ByteArray.size, strSize]; omega
    · obtain ⟨l, hl⟩ : ∃ l, l = List.replicate k 48 ++ Lib.decDigits n := ⟨_, rfl⟩
      have hll : l.length = k + (Lib.decDigits n).length := by rw [hl]; simp
      have h1 : p < l.length := by omega
      have h2 : l.length ≤ 30 := by omega
      have HL : Hid (Stil.padTo p (Lib.decDigits n) = l) := by
        show Stil.padTo p (Lib.decDigits n) = l
        rw [hl]; unfold Stil.padTo; congr 2; omega
      rw [← hl]
      clear hl hll hlt hk hlen
      go_wp2
      go_quiet (fail)
      go_wp2
      go_ret
      refine ⟨ret_string ?_, below_drewN hb nq⟩
      have e := HL.out
      rw [Stil.decNat, e, ba_ext, ba_ext, ba_app2, ba_app]
      simp
set_option maxHeartbeats 400000 in
set_option maxRecDepth 100000 in
theorem s_dec1 (n p : Int) (w : World) (h1 : -999999999 ≤ n) (h2 : n ≤ 999999999) (hp1 : 1 ≤ p) (hp2 : p ≤ 6) :
    Calls Tryd.prog 34 #[.int .i64 n, .int .i64 p] w fun e w' => e = .returned (.string ⟨(Stil.decText n p).toArray⟩) ∧ Below w.heap.size w w' := by
  obtain ⟨q, rfl⟩ := Int.eq_ofNat_of_zero_le (a := p) (by omega)
  by_cases h0 : 0 ≤ n
  · obtain ⟨m, rfl⟩ := Int.eq_ofNat_of_zero_le h0
    have e : Stil.decText (m : Int) q = Stil.decNat m q := by unfold Stil.decText; rw [if_neg (by omega)]; simp
    rw [e]
    exact s_dec1_nat m q w (by omega) (by omega) (by omega)
  · obtain ⟨m, hm⟩ := Int.eq_ofNat_of_zero_le (a := -n) (by omega)
    have e : Stil.decText n q = 45 :: Stil.decNat m q := by unfold Stil.decText; rw [if_pos (by omega)]; congr 2; omega
    have hl := decNat_le m q (by omega)
    rw [e]
    have hn : n = -(m : Int) := by omega
    subst hn
    have hm' : m ≤ 999999999 := by omega
    have hp : 1 ≤ m := by omega
    have hq1 : 1 ≤ q := by omega
    have hq2 : q ≤ 6 := by omega
    clear hm e h0
    go_enter Tryd.func34, Tryd.ntmps34
    go_wp2_with (go_at_call 34; refine (s_dec1_nat m q _ hm' hq1 hq2).mono ?_; rintro e w' ⟨rfl, hb⟩)
    go_ret
    exact ⟨ret_string (ba_app1 _ _), hb⟩
end Go.Proofs.YtcpojnbfinlgiaaDoor
/- Contracts of the specification's chapter 1, fifth part: DevText. -/
namespace Go.Proofs.YtcpojnbfinlgiaaDoor
open Go.RowKit Go.Sort Go.BigFrame
theorem devOk_dec {n p : Int} (h : Stil.devOkB 12 n p = true) : -999999999 ≤ n ∧ n ≤ 999999999 ∧ 1 ≤ p ∧ p ≤ 6 := by
  simp [Stil.devOkB] at h; omega
theorem devOk_word {n p : Int} (h : Stil.devOkB 13 n p = true) : 0 ≤ n ∧ n ≤ 3 := by
  simp [Stil.devOkB] at h; omega
theorem devOk_dev {k n p : Int} (h : Stil.devOkB k n p = true) (h1 : k ≠ 11) (h2 : k ≠ 12) (h3 : k ≠ 13) : 1 ≤ k ∧ k ≤ 10 ∧ 0 ≤ n ∧ n < 64 ∧ p = 0 := by
  simp only [Stil.devOkB, if_neg h1, if_neg h2, if_neg h3, decide_eq_true_eq] at h
  obtain ⟨a, b, c⟩ := h
  unfold Stil.devSize at b
  split at b
  · omega
  · split at b
    · omega
    · split at b
      · omega
      · split at b <;> omega
set_option maxHeartbeats 400000 in
set_option maxRecDepth 100000 in
theorem s_devText (k n p : Int) (w : World) (hn1 : -9223372036854775808 ≤ n) (hn2 : n ≤ 9223372036854775807) :
    Calls Tryd.prog 23 #[.agg #[.int .i64 k, .int .i64 n, .int .i64 p]] w fun e w' => e = .returned (.string ⟨(Stil.devText k n p).toArray⟩) ∧ Below w.heap.size w w' := by
  cases hok : Stil.devOkB k n p
  · have HD : Hid (Stil.devText k n p = []) := by show Stil.devText k n p = []; unfold Stil.devText; rw [hok]; rfl
    go_enter Tryd.func23, Tryd.ntmps23
    go_wp2_with (go_at_call 29; refine (s_devOk _ _ _ _ hn1 hn2).mono ?_; rintro e w' ⟨rfl, hb⟩)
    go_ret
    exact ⟨ret_string (by rw [HD.out]), below_two hb⟩
  · by_cases h11 : k = 11
    · subst h11
      have HD : Hid (Stil.devText 11 n p = Lib.itoa n) := by show _ = _; unfold Stil.devText; rw [hok]; rfl
      have hr : -32768 ≤ n ∧ n ≤ 32767 := by simp [Stil.devOkB] at hok; omega
      obtain ⟨hr1, hr2⟩ := hr
      go_enter Tryd.func23, Tryd.ntmps23
      go_wp2_with (first | (go_at_call 29; refine (s_devOk _ _ _ _ hn1 hn2).mono ?_; rintro e w' ⟨rfl, hb⟩; obtain ⟨hc, hf⟩ := bcell hb) | (go_at_call 33; refine (s_dec n _ (by omega) (by omega)).mono ?_; rintro e w2 ⟨rfl, hb2⟩))
      go_ret
      exact ⟨ret_string (by rw [HD.out]), (below_two hb).trans (hb2.mono (by have := hb.size; simp at this; omega))⟩
    · by_cases h12 : k = 12
      · subst h12
        obtain ⟨a1, a2, a3, a4⟩ := devOk_dec hok
        have HD : Hid (Stil.devText 12 n p = Stil.decText n p) := by show _ = _; unfold Stil.devText; rw [hok]; rfl
        go_enter Tryd.func23, Tryd.ntmps23
        go_wp2_with (first | (go_at_call 29; refine (s_devOk _ _ _ _ hn1 hn2).mono ?_; rintro e w' ⟨rfl, hb⟩; obtain ⟨hc, hf⟩ := bcell hb) | (go_at_call 34; refine (s_dec1 n p _ a1 a2 a3 a4).mono ?_; rintro e w2 ⟨rfl, hb2⟩))
        go_ret
        exact ⟨ret_string (by rw [HD.out]), (below_two hb).trans (hb2.mono (by have := hb.size; simp at this; omega))⟩
      · by_cases h13 : k = 13
        · subst h13
          obtain ⟨a1, a2⟩ := devOk_word hok
          have HD : Hid (Stil.devText 13 n p = Stil.words.getD n.toNat []) := by show _ = _; unfold Stil.devText; rw [hok]; rfl
          go_enter Tryd.func23, Tryd.ntmps23
          go_wp2_with (first | (go_at_call 29; refine (s_devOk _ _ _ _ hn1 hn2).mono ?_; rintro e w' ⟨rfl, hb⟩; obtain ⟨hc, hf⟩ := bcell hb))
          have c1 : w'.cell? ⟨w.heap.size, 1, none⟩ = some (.int .i64 n) := by rw [hc _ _ (by simp)]; simp [go_sem]
          have c1' : ∀ o, (w'.alloc o).cell? ⟨w.heap.size, 1, none⟩ = some (.int .i64 n) := fun o => by rw [World.cell?_alloc_some _ _ _ (by rw [c1]; rfl)]; exact c1
          clear hc hf
          have hwd : ∀ W : World, (W.alloc (Obj.cells #[.string ⟨#[110, 97, 110]⟩, .string ⟨#[105, 110, 102]⟩, .string ⟨#[45, 105, 110, 102]⟩, .string ⟨#[45, 48, 46, 48]⟩] 9)).cell? ⟨W.heap.size, n.toNat, none⟩ = some (.string ⟨(Stil.words.getD n.toNat []).toArray⟩) := by
            intro W
            have hn : n = 0 ∨ n = 1 ∨ n = 2 ∨ n = 3 := by omega
            rcases hn with rfl | rfl | rfl | rfl <;> simp [go_sem, Stil.words]
          have hlt : n < 4 := by omega
          go_region_with (go_at_call 35; refine (s_words _).mono ?_; rintro e w2 ⟨rfl, rfl⟩)
          all_goals go_wp2
          all_goals go_ret
          all_goals refine ⟨ret_string (by rw [HD.out]; rfl), ?_⟩
          all_goals exact ((below_two hb).alloc (by have := hb.size; simp at this; omega) _).drew
        · obtain ⟨a1, a2, a3, a4, a5⟩ := devOk_dev hok h11 h12 h13
          subst a5
          have h11' : (k == 11) = false := by simpa using h11
          have h12' : (k == 12) = false := by simpa using h12
          have h13' : (k == 13) = false := by simpa using h13
          have HD : Hid (Stil.devText k n 0 = Stil.letters.getD (k.toNat - 1) 0 :: Lib.itoa n) := by
            show _ = _
            unfold Stil.devText; rw [hok]; simp [h11, h12, h13]
          have hl : (Lib.itoa n).length ≤ 19 := by
            unfold Lib.itoa; rw [if_neg (by omega)]; exact decDigits_le (by omega)
          have hL : Stil.devLetter k = ⟨#[Stil.letters.getD (k.toNat - 1) 0]⟩ := by unfold Stil.devLetter; rw [if_pos ⟨a1, a2⟩]
          clear h11 h12 h13
          go_enter Tryd.func23, Tryd.ntmps23
          go_wp2_with (first | (go_at_call 29; refine (s_devOk _ _ _ _ hn1 hn2).mono ?_; rintro e w' ⟨rfl, hb⟩; obtain ⟨hc, hf⟩ := bcell hb))
          have c0 : w'.cell? ⟨w.heap.size, 0, none⟩ = some (.int .i64 k) := by rw [hc _ _ (by simp)]; simp [go_sem]
          have c1 : w'.cell? ⟨w.heap.size, 1, none⟩ = some (.int .i64 n) := by rw [hc _ _ (by simp)]; simp [go_sem]
          have r0 := cell_regrown c0
          have r1 := cell_regrown c1
          refine wp_region_quiet_below (by kernel_rfl) (by kernel_rfl) ?_
          repeat (go_big_quiet_step ((first | exact Calls.regrown_of (same_below (s_devLetter _ _)) | exact Calls.regrown_of (s_dec _ _ (by omega) (by omega)))))
          refine wpQuiet_nil ?_
          intro _ hw'
          obtain ⟨⟨dq, osq⟩, hw''⟩ := hw'
          subst hw''
          go_wp2
          go_ret
          refine ⟨ret_string ?_, (below_two hb).trans ((below_regrown _ dq osq).mono (by have := hb.size; simp at this; omega))⟩
          rw [HD.out, ba_app1]; simp [List.getD]
end Go.Proofs.YtcpojnbfinlgiaaDoor
/- Contracts of the specification's chapter 1, sixth part: digits that are read, a byte that is looked for. -/
namespace Go.Proofs.YtcpojnbfinlgiaaDoor
open Go.RowKit Go.Sort Go.BigFrame
theorem ba_get (l : List UInt8) (k : Nat) (h : k < l.length) : (⟨l.toArray⟩ : ByteArray)[k]'(by simpa [ByteArray.size] using h) = l[k] := rfl
theorem digFold_bound : ∀ (l : List UInt8) (acc n : Nat), Stil.digFold acc l = some n → n < (acc + 1) * 10 ^ l.length
  | [], acc, n, h => by simp [Stil.digFold] at h; subst h; simp
  | c :: r, acc, n, h => by
    unfold Stil.digFold at h
    split at h
    · have := digFold_bound r _ n h
      have h3 : (acc * 10 + (c.toNat - 48) + 1) * 10 ^ r.length ≤ (acc + 1) * 10 * 10 ^ r.length := Nat.mul_le_mul_right _ (by omega)
      rw [List.length_cons, Nat.pow_succ, Nat.mul_comm (10 ^ r.length) 10, ← Nat.mul_assoc]
      omega
    · cases h
theorem digits_bound (l : List UInt8) : -1 ≤ Stil.digits l ∧ Stil.digits l < 100000000000000000 := by
  unfold Stil.digits
  split
  · omega
  · rename_i h
    cases hn : Stil.digFold 0 l with
    | some n =>
      have h1 := digFold_bound l 0 n hn
      have h2 : 10 ^ l.length ≤ 10 ^ 17 := Nat.pow_le_pow_right (by omega) (by omega)
      have h3 : (10 : Nat) ^ 17 = 100000000000000000 := by decide
      simp only [Stil.optInt]
      omega
    | none => simp [Stil.optInt]
end Go.Proofs.YtcpojnbfinlgiaaDoor
/- Contracts of the specification's chapter 1, seventh part: l1Guess. -/
namespace Go.Proofs.YtcpojnbfinlgiaaDoor
open Go.RowKit Go.Sort Go.BigFrame
theorem words_cell (W : World) (k : Nat) (hk : k < 4) : (W.alloc (Obj.cells #[.string ⟨#[110, 97, 110]⟩, .string ⟨#[105, 110, 102]⟩, .string ⟨#[45, 105, 110, 102]⟩, .string ⟨#[45, 48, 46, 48]⟩] 9)).cell? ⟨W.heap.size, k, none⟩ = some (.string ⟨(Stil.words.getD k []).toArray⟩) := by
  have hn : k = 0 ∨ k = 1 ∨ k = 2 ∨ k = 3 := by omega
  rcases hn with rfl | rfl | rfl | rfl <;> simp [go_sem, Stil.words]
theorem ba_drop (l : List UInt8) (a : Nat) : (⟨l.toArray⟩ : ByteArray).extract a l.length = ⟨(l.drop a).toArray⟩ := by rw [ba_ext, List.take_length]
theorem letter_eq (l : List UInt8) (m : Nat) (hl : l ≠ []) (h1 : 1 ≤ m) (h2 : m ≤ 10) : (((⟨l.toArray⟩ : ByteArray).extract 0 1).toList == (Stil.devLetter (m : Int)).toList) = Stil.letterAt l m := by
  cases l with
  | nil => exact absurd rfl hl
  | cons c r =>
    unfold Stil.devLetter Stil.letterAt
    rw [if_pos (by omega), ba_ext]
    simp
theorem head_get (l : List UInt8) (h : 0 < l.length) (hh : l.head? = some 45) : (45 : UInt8) = l[0] := by
  rw [List.head?_eq_getElem?, List.getElem?_eq_getElem h] at hh; exact (Option.some.inj hh).symm
theorem cat_eq (t : List UInt8) (d : Nat) : (⟨t.toArray⟩ : ByteArray).extract 0 d ++ (⟨t.toArray⟩ : ByteArray).extract (d + 1) t.length = ⟨(t.take d ++ t.drop (d + 1)).toArray⟩ := by
  rw [ba_drop, ba_ext, ba_app]; simp
theorem find_spec (c : UInt8) (l : List UInt8) : Stil.find c l < 0 ∨ ∃ d : Nat, Stil.find c l = d ∧ d < l.length := by
  have h : ∀ (l : List UInt8) (k : Nat), Stil.findFrom c l k < 0 ∨ ∃ d : Nat, Stil.findFrom c l k = ((k + d : Nat) : Int) ∧ d < l.length := by
    intro l
    induction l with
    | nil => intro k; left; simp [Stil.findFrom]
    | cons x r ih =>
      intro k
      unfold Stil.findFrom
      split
      · right; exact ⟨0, by simp, by simp⟩
      · rcases ih (k + 1) with h | ⟨d, h, hd⟩
        · left; exact h
        · right; exact ⟨d + 1, by rw [h]; congr 1; omega, by simp; omega⟩
  rcases h l 0 with h | ⟨d, h, hd⟩
  · exact Or.inl h
  · exact Or.inr ⟨d, by unfold Stil.find; rw [h]; simp, hd⟩
end Go.Proofs.YtcpojnbfinlgiaaDoor
/- Contracts of the specification's chapter 1, eighth part: DevRead. -/
namespace Go.Proofs.YtcpojnbfinlgiaaDoor
open Go.RowKit Go.Sort Go.BigFrame
theorem below_lt {w w1 : World} {o : Obj} (hb : Below (w.alloc o).heap.size (w.alloc o) w1) : w.heap.size < w1.heap.size := by have := hb.size; simp at this; omega
theorem guessNum_bound (l : List UInt8) : -9223372036854775808 ≤ (Stil.guessNum l).n ∧ (Stil.guessNum l).n ≤ 9223372036854775807 := by
  unfold Stil.guessNum Stil.signOf
  have h1 := digits_bound (Stil.bare l)
  split
  · simp only; split <;> omega
  · have h2 := digits_bound (List.take (Stil.find 46 (Stil.bare l)).toNat (Stil.bare l) ++ List.drop ((Stil.find 46 (Stil.bare l)).toNat + 1) (Stil.bare l))
    simp only; split <;> omega
theorem guessFrom_bound (l : List UInt8) : ∀ m k : Nat, -9223372036854775808 ≤ (Stil.guessFrom l m k).n ∧ (Stil.guessFrom l m k).n ≤ 9223372036854775807
  | 0, k => guessNum_bound l
  | m + 1, k => by
    unfold Stil.guessFrom
    split
    · have := digits_bound (l.drop 1); simp only; omega
    · exact guessFrom_bound l m (k + 1)
theorem wordFrom_bound (l : List UInt8) : ∀ m k : Nat, m + k ≤ 4 → -9223372036854775808 ≤ (Stil.wordFrom l m k).n ∧ (Stil.wordFrom l m k).n ≤ 9223372036854775807
  | 0, k, _ => guessFrom_bound l 10 1
  | m + 1, k, h1 => by
    unfold Stil.wordFrom
    split
    · simp only; omega
    · exact wordFrom_bound l m (k + 1) (by omega)
theorem guess_bound (l : List UInt8) : -9223372036854775808 ≤ (Stil.guess l).n ∧ (Stil.guess l).n ≤ 9223372036854775807 := wordFrom_bound l 4 0 (by omega)
end Go.Proofs.YtcpojnbfinlgiaaDoor
