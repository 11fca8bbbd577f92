/- S1, S1b, S1c, S1d, S1e, S1f, S1g, S1h: texts put together. -/
import Derived.Test.YthhfnncehfkbfaaDoorChecked
import Derived.Test.YthhfnncehfkbfaaDoorGM
import Derived.WalkKit
import Derived.WalkSpells
import Derived.WalkLawsBesides
import Derived.Deep.QuietTactic
import Derived.BigQuiet
import Derived.Lib.QuietBelow
import Derived.Deep.Light
import Derived.Lib.ItoaNum
import Derived.Laws.BytesArg
import Derived.Deep.RegionHeld3
/- Contracts of the specification's chapter 1. -/
namespace Go.Proofs.YthhfnncehfkbfaaDoor
open Go.RowKit Go.Sort Go.BigFrame
theorem ret_int {k : IntKind} {a b : Int} (h : a = b) : Ending.returned (.int k a) = .returned (.int k b) := by rw [h]
theorem ret_bool {a b : Bool} (h : a = b) : Ending.returned (.bool a) = .returned (.bool b) := by rw [h]
theorem bcell {W w1 : World} (hb : Below W.heap.size W w1) : (∀ b o, b < W.heap.size → w1.cell? ⟨b, o, none⟩ = W.cell? ⟨b, o, none⟩) ∧ (∀ b o, b < W.heap.size → w1.frozen? ⟨b, o, none⟩ = W.frozen? ⟨b, o, none⟩) :=
  ⟨fun b o h => hb.cell (p := ⟨b, o, none⟩) h, fun b o h => hb.frozen (p := ⟨b, o, none⟩) h⟩
theorem below_alloc (w : World) (o : Obj) : Below w.heap.size w (w.alloc o) := (Below.refl _ _).alloc (Nat.le_refl _) o
theorem same_below {P : Program} {f : FuncId} {args : Array Value} {w : World} {v : Value} (h : Calls P f args w fun e w' => e = .returned v ∧ w' = w) : Calls P f args w fun e w' => e = .returned v ∧ Below w.heap.size w w' :=
  h.mono fun _ _ ⟨he, hw⟩ => ⟨he, by rw [hw]; exact Below.refl _ _⟩
set_option maxHeartbeats 400000 in
theorem s_devSize (k : Int) (w : World) :
    Calls Tryd.prog 55 #[.int .i64 k] w fun e w' => e = .returned (.int .i64 (Stil.devSize k)) ∧ w' = w := by
  go_enter Tryd.func55, Tryd.ntmps55
  go_wp2
  all_goals go_ret
  all_goals (refine ⟨ret_int ?_, rfl⟩; simp only [beq_iff_eq, beq_eq_false_iff_ne] at *; unfold Stil.devSize; simp [*])
set_option maxHeartbeats 400000 in
theorem s_devOk (k n p : Int) (w : World) (hn1 : -9223372036854775808 ≤ n) (hn2 : n ≤ 9223372036854775807) :
    Calls Tryd.prog 42 #[.agg #[.int .i64 k, .int .i64 n, .int .i64 p]] w fun e w' => e = .returned (.bool (Stil.devOkB k n p)) ∧ Below w.heap.size w w' := by
  have c0 : (w.alloc (Obj.cells #[.int .i64 k, .int .i64 n, .int .i64 p] 69)).cell? ⟨w.heap.size, 0, none⟩ = some (.int .i64 k) := by simp [go_sem]
  have c1 : (w.alloc (Obj.cells #[.int .i64 k, .int .i64 n, .int .i64 p] 69)).cell? ⟨w.heap.size, 1, none⟩ = some (.int .i64 n) := by simp [go_sem]
  have c2 : (w.alloc (Obj.cells #[.int .i64 k, .int .i64 n, .int .i64 p] 69)).cell? ⟨w.heap.size, 2, none⟩ = some (.int .i64 p) := by simp [go_sem]
  have r0 := cell_regrown c0
  have r1 := cell_regrown c1
  have r2 := cell_regrown c2
  clear c0 c1 c2
  go_enter Tryd.func42, Tryd.ntmps42
  go_wp2
  rotate_right 1
  focus
    by_cases h0 : 0 ≤ n
    · by_cases h1 : n < Stil.devSize k
      · refine wp_region_quiet_below (by kernel_rfl) (by kernel_rfl) ?_
        repeat (go_big_quiet_step ((exact Calls.regrown_of (same_below (s_devSize _ _)))))
        refine wpQuiet_nil ?_
        intro _ hw'
        obtain ⟨⟨dq, osq⟩, hw''⟩ := hw'
        subst hw''
        go_wp2
        go_ret
        refine ⟨ret_bool ?_, (below_alloc _ _).trans ((below_regrown _ dq osq).mono (by simp))⟩
        go_light
        simp only [beq_eq_false_iff_ne] at *
        (rw [Bool.eq_iff_iff]; simp [Stil.devOkB, *]; try omega)
      · have h1' : decide (n < Stil.devSize k) = false := by simpa using h1
        refine wp_region_quiet_below (by kernel_rfl) (by kernel_rfl) ?_
        repeat (go_big_quiet_step ((exact Calls.regrown_of (same_below (s_devSize _ _)))))
        refine wpQuiet_nil ?_
        intro _ hw'
        obtain ⟨⟨dq, osq⟩, hw''⟩ := hw'
        subst hw''
        go_wp2
        go_ret
        refine ⟨ret_bool ?_, (below_alloc _ _).trans ((below_regrown _ dq osq).mono (by simp))⟩
        go_light
        simp only [beq_eq_false_iff_ne] at *
        (rw [Bool.eq_iff_iff]; simp [Stil.devOkB, *]; try omega)
    · have h0' : decide (0 ≤ n) = false := by simpa using h0
      refine wp_region_quiet_below (by kernel_rfl) (by kernel_rfl) ?_
      repeat (go_big_quiet_step ((exact Calls.regrown_of (same_below (s_devSize _ _)))))
      refine wpQuiet_nil ?_
      intro _ hw'
      obtain ⟨⟨dq, osq⟩, hw''⟩ := hw'
      subst hw''
      go_wp2
      go_ret
      refine ⟨ret_bool ?_, (below_alloc _ _).trans ((below_regrown _ dq osq).mono (by simp))⟩
      go_light
      simp only [beq_eq_false_iff_ne] at *
      (rw [Bool.eq_iff_iff]; simp [Stil.devOkB, *]; try omega)
  all_goals go_ret
  all_goals (refine ⟨ret_bool ?_, below_alloc _ _⟩)
  all_goals go_light
  all_goals simp only [beq_iff_eq, beq_eq_false_iff_ne] at *
  all_goals (rw [Bool.eq_iff_iff]; simp [Stil.devOkB, *]; try omega)
end Go.Proofs.YthhfnncehfkbfaaDoor
/- Contracts of the specification's chapter 1, second part. -/
namespace Go.Proofs.YthhfnncehfkbfaaDoor
open Go.RowKit Go.Sort Go.BigFrame
theorem below_two {w w1 : World} {o : Obj} (hb : Below (w.alloc o).heap.size (w.alloc o) w1) : Below w.heap.size w w1 := (below_alloc w o).trans (hb.mono (by simp))
set_option maxHeartbeats 400000 in
theorem s_devIsBit (k n p : Int) (w : World) (hn1 : -9223372036854775808 ≤ n) (hn2 : n ≤ 9223372036854775807) :
    Calls Tryd.prog 41 #[.agg #[.int .i64 k, .int .i64 n, .int .i64 p]] w fun e w' => e = .returned (.bool (Stil.devIsBitB k n p)) ∧ Below w.heap.size w w' := by
  cases h : Stil.devOkB k n p
  all_goals
    go_enter Tryd.func41, Tryd.ntmps41
    go_wp2_with (go_at_call 42; refine (s_devOk _ _ _ _ hn1 hn2).mono ?_; rintro e w' ⟨rfl, hb⟩; obtain ⟨hc, hf⟩ := bcell hb)
    all_goals go_ret
    all_goals (refine ⟨ret_bool ?_, below_two (by assumption)⟩)
    all_goals go_light
    all_goals (rw [Stil.devIsBitB, h, Bool.eq_iff_iff]; clear h; simp [*]; try omega)
set_option maxHeartbeats 400000 in
theorem s_devIsWhole (k n p : Int) (w : World) (hn1 : -9223372036854775808 ≤ n) (hn2 : n ≤ 9223372036854775807) :
    Calls Tryd.prog 43 #[.agg #[.int .i64 k, .int .i64 n, .int .i64 p]] w fun e w' => e = .returned (.bool (Stil.devIsWholeB k n p)) ∧ Below w.heap.size w w' := by
  cases h : Stil.devOkB k n p
  all_goals
    go_enter Tryd.func43, Tryd.ntmps43
    go_wp2_with (go_at_call 42; refine (s_devOk _ _ _ _ hn1 hn2).mono ?_; rintro e w' ⟨rfl, hb⟩; obtain ⟨hc, hf⟩ := bcell hb)
    all_goals go_ret
    all_goals (refine ⟨ret_bool ?_, below_two (by assumption)⟩)
    all_goals go_light
    all_goals (rw [Stil.devIsWholeB, h, Bool.eq_iff_iff]; clear h; simp [*]; try omega)
set_option maxHeartbeats 400000 in
theorem s_devIsReal (k n p : Int) (w : World) (hn1 : -9223372036854775808 ≤ n) (hn2 : n ≤ 9223372036854775807) :
    Calls Tryd.prog 44 #[.agg #[.int .i64 k, .int .i64 n, .int .i64 p]] w fun e w' => e = .returned (.bool (Stil.devIsRealB k n p)) ∧ Below w.heap.size w w' := by
  cases h : Stil.devOkB k n p
  all_goals
    go_enter Tryd.func44, Tryd.ntmps44
    go_wp2_with (go_at_call 42; refine (s_devOk _ _ _ _ hn1 hn2).mono ?_; rintro e w' ⟨rfl, hb⟩; obtain ⟨hc, hf⟩ := bcell hb)
    all_goals go_ret
    all_goals (refine ⟨ret_bool ?_, below_two (by assumption)⟩)
    all_goals go_light
    all_goals (rw [Stil.devIsRealB, h, Bool.eq_iff_iff]; clear h; simp [*]; try omega)
theorem ret_string {a b : ByteArray} (h : a = b) : Ending.returned (.string a) = .returned (.string b) := by rw [h]
end Go.Proofs.YthhfnncehfkbfaaDoor
/- Contracts of the specification's chapter 1, third part: decimals. -/
namespace Go.Proofs.YthhfnncehfkbfaaDoor
open Go.RowKit Go.Sort Go.BigFrame
theorem conv_one (w : World) (b : Int) : (convert 102 9 (.slice (some ⟨w.heap.size, 0, none⟩) 1 1)).run Tryd.prog (w.alloc (.cells #[.int .u8 b] 5)) = .ok (.string ⟨[UInt8.ofNat b.toNat].toArray⟩) (w.alloc (.cells #[.int .u8 b] 5)) := by
  have hc : ∀ i, i < 1 → (w.alloc (.cells #[.int .u8 b] 5)).cell? ⟨w.heap.size, 0 + i, none⟩ = some (.int .u8 ([b].getD i 0)) := by
    intro i hi
    have h0 : i = 0 := by omega
    subst h0
    simp [go_sem]
  have := run_convert_bytes_arg (P := Tryd.prog) (w.alloc (.cells #[.int .u8 b] 5)) 102 5 Tryd.underlying102 Tryd.underlying5 w.heap.size 0 1 1 [b] rfl hc 9 Tryd.underlying9
  rw [this]; rfl
theorem ba_app (a b : List UInt8) : ((⟨a.toArray⟩ : ByteArray) ++ (⟨b.toArray⟩ : ByteArray)) = ⟨(a ++ b).toArray⟩ := by
  apply ByteArray.ext; simp [ByteArray.data_append]
theorem ba_app1 (x : UInt8) (b : List UInt8) : ((⟨#[x]⟩ : ByteArray) ++ (⟨b.toArray⟩ : ByteArray)) = ⟨(x :: b).toArray⟩ := ba_app [x] b
theorem u8_digit (m : Nat) : (48 : UInt8) + UInt8.ofNat m = UInt8.ofNat (48 + m) := by simp
theorem nDigits_le : ∀ (k n : Nat), n < 10 ^ (k + 1) → Lib.nDigits n ≤ k + 1
  | 0, n, h => by rw [Lib.nDigits_small (by simpa using h)]; omega
  | k + 1, n, h => by
    by_cases h1 : n < 10
    · rw [Lib.nDigits_small h1]; omega
    · rw [Lib.nDigits_big h1]
      have := nDigits_le k (n / 10) (by rw [Nat.pow_succ] at h; omega)
      omega
theorem decDigits_le {n : Nat} (h : n ≤ 9223372036854775807) : (Lib.decDigits n).length ≤ 19 := by
  rw [Lib.decDigits_length]; exact nDigits_le 18 n (by omega)
theorem decDigits_big {u : Nat} (h : ¬ u < 10) : Lib.decDigits u = Lib.decDigits (u / 10) ++ [UInt8.ofNat (48 + u % 10)] := by rw [Lib.decDigits, dif_neg h]
end Go.Proofs.YthhfnncehfkbfaaDoor
/- Contracts of the specification's chapter 1, fourth part: decimal numbers, DevText. -/
namespace Go.Proofs.YthhfnncehfkbfaaDoor
open Go.RowKit Go.Sort Go.BigFrame
theorem ba_ext (l : List UInt8) (a b : Nat) : (⟨l.toArray⟩ : ByteArray).extract a b = ⟨((l.take b).drop a).toArray⟩ := by
  apply ByteArray.ext
  simp [ByteArray.data_extract, List.extract_eq_take_drop, List.drop_take]
theorem ba_app2 (a : List UInt8) (x : UInt8) : ((⟨a.toArray⟩ : ByteArray) ++ (⟨#[x]⟩ : ByteArray)) = ⟨(a ++ [x]).toArray⟩ := ba_app a [x]
theorem decNat_le (m q : Nat) (h : m ≤ 9223372036854775807) : (Stil.decNat m q).length ≤ 30 + q := by
  have := decDigits_le h
  simp [Stil.decNat, Stil.padTo]; omega
def strSize : Value → Nat | .string b => b.size | _ => 0
end Go.Proofs.YthhfnncehfkbfaaDoor
/- Contracts of the specification's chapter 1, fifth part: DevText. -/
namespace Go.Proofs.YthhfnncehfkbfaaDoor
open Go.RowKit Go.Sort Go.BigFrame
theorem devOk_dec {n p : Int} (h : Stil.devOkB 12 n p = true) : -999999999 ≤ n ∧ n ≤ 999999999 ∧ 1 ≤ p ∧ p ≤ 6 := by
  simp [Stil.devOkB] at h; omega
theorem devOk_word {n p : Int} (h : Stil.devOkB 13 n p = true) : 0 ≤ n ∧ n ≤ 3 := by
  simp [Stil.devOkB] at h; omega
theorem devOk_dev {k n p : Int} (h : Stil.devOkB k n p = true) (h1 : k ≠ 11) (h2 : k ≠ 12) (h3 : k ≠ 13) : 1 ≤ k ∧ k ≤ 10 ∧ 0 ≤ n ∧ n < 64 ∧ p = 0 := by
  simp only [Stil.devOkB, if_neg h1, if_neg h2, if_neg h3, decide_eq_true_eq] at h
  obtain ⟨a, b, c⟩ := h
  unfold Stil.devSize at b
  split at b
  · omega
  · split at b
    · omega
    · split at b
      · omega
      · split at b <;> omega
end Go.Proofs.YthhfnncehfkbfaaDoor
/- Contracts of the specification's chapter 1, sixth part: digits that are read, a byte that is looked for. -/
namespace Go.Proofs.YthhfnncehfkbfaaDoor
open Go.RowKit Go.Sort Go.BigFrame
theorem ba_get (l : List UInt8) (k : Nat) (h : k < l.length) : (⟨l.toArray⟩ : ByteArray)[k]'(by simpa [ByteArray.size] using h) = l[k] := rfl
theorem digFold_bound : ∀ (l : List UInt8) (acc n : Nat), Stil.digFold acc l = some n → n < (acc + 1) * 10 ^ l.length
  | [], acc, n, h => by simp [Stil.digFold] at h; subst h; simp
  | c :: r, acc, n, h => by
    unfold Stil.digFold at h
    split at h
    · have := digFold_bound r _ n h
      have h3 : (acc * 10 + (c.toNat - 48) + 1) * 10 ^ r.length ≤ (acc + 1) * 10 * 10 ^ r.length := Nat.mul_le_mul_right _ (by omega)
      rw [List.length_cons, Nat.pow_succ, Nat.mul_comm (10 ^ r.length) 10, ← Nat.mul_assoc]
      omega
    · cases h
theorem digits_bound (l : List UInt8) : -1 ≤ Stil.digits l ∧ Stil.digits l < 100000000000000000 := by
  unfold Stil.digits
  split
  · omega
  · rename_i h
    cases hn : Stil.digFold 0 l with
    | some n =>
      have h1 := digFold_bound l 0 n hn
      have h2 : 10 ^ l.length ≤ 10 ^ 17 := Nat.pow_le_pow_right (by omega) (by omega)
      have h3 : (10 : Nat) ^ 17 = 100000000000000000 := by decide
      simp only [Stil.optInt]
      omega
    | none => simp [Stil.optInt]
end Go.Proofs.YthhfnncehfkbfaaDoor
/- Contracts of the specification's chapter 1, seventh part: l1Guess. -/
namespace Go.Proofs.YthhfnncehfkbfaaDoor
open Go.RowKit Go.Sort Go.BigFrame
theorem words_cell (W : World) (k : Nat) (hk : k < 4) : (W.alloc (Obj.cells #[.string ⟨#[110, 97, 110]⟩, .string ⟨#[105, 110, 102]⟩, .string ⟨#[45, 105, 110, 102]⟩, .string ⟨#[45, 48, 46, 48]⟩] 9)).cell? ⟨W.heap.size, k, none⟩ = some (.string ⟨(Stil.words.getD k []).toArray⟩) := by
  have hn : k = 0 ∨ k = 1 ∨ k = 2 ∨ k = 3 := by omega
  rcases hn with rfl | rfl | rfl | rfl <;> simp [go_sem, Stil.words]
theorem ba_drop (l : List UInt8) (a : Nat) : (⟨l.toArray⟩ : ByteArray).extract a l.length = ⟨(l.drop a).toArray⟩ := by rw [ba_ext, List.take_length]
theorem letter_eq (l : List UInt8) (m : Nat) (hl : l ≠ []) (h1 : 1 ≤ m) (h2 : m ≤ 10) : (((⟨l.toArray⟩ : ByteArray).extract 0 1).toList == (Stil.devLetter (m : Int)).toList) = Stil.letterAt l m := by
  cases l with
  | nil => exact absurd rfl hl
  | cons c r =>
    unfold Stil.devLetter Stil.letterAt
    rw [if_pos (by omega), ba_ext]
    simp
theorem head_get (l : List UInt8) (h : 0 < l.length) (hh : l.head? = some 45) : (45 : UInt8) = l[0] := by
  rw [List.head?_eq_getElem?, List.getElem?_eq_getElem h] at hh; exact (Option.some.inj hh).symm
theorem cat_eq (t : List UInt8) (d : Nat) : (⟨t.toArray⟩ : ByteArray).extract 0 d ++ (⟨t.toArray⟩ : ByteArray).extract (d + 1) t.length = ⟨(t.take d ++ t.drop (d + 1)).toArray⟩ := by
  rw [ba_drop, ba_ext, ba_app]; simp
theorem find_spec (c : UInt8) (l : List UInt8) : Stil.find c l < 0 ∨ ∃ d : Nat, Stil.find c l = d ∧ d < l.length := by
  have h : ∀ (l : List UInt8) (k : Nat), Stil.findFrom c l k < 0 ∨ ∃ d : Nat, Stil.findFrom c l k = ((k + d : Nat) : Int) ∧ d < l.length := by
    intro l
    induction l with
    | nil => intro k; left; simp [Stil.findFrom]
    | cons x r ih =>
      intro k
      unfold Stil.findFrom
      split
      · right; exact ⟨0, by simp, by simp⟩
      · rcases ih (k + 1) with h | ⟨d, h, hd⟩
        · left; exact h
        · right; exact ⟨d + 1, by rw [h]; congr 1; omega, by simp; omega⟩
  rcases h l 0 with h | ⟨d, h, hd⟩
  · exact Or.inl h
  · exact Or.inr ⟨d, by unfold Stil.find; rw [h]; simp, hd⟩
end Go.Proofs.YthhfnncehfkbfaaDoor
/- Contracts of the specification's chapter 1, eighth part: DevRead. -/
namespace Go.Proofs.YthhfnncehfkbfaaDoor
open Go.RowKit Go.Sort Go.BigFrame
theorem below_lt {w w1 : World} {o : Obj} (hb : Below (w.alloc o).heap.size (w.alloc o) w1) : w.heap.size < w1.heap.size := by have := hb.size; simp at this; omega
theorem guessNum_bound (l : List UInt8) : -9223372036854775808 ≤ (Stil.guessNum l).n ∧ (Stil.guessNum l).n ≤ 9223372036854775807 := by
  unfold Stil.guessNum Stil.signOf
  have h1 := digits_bound (Stil.bare l)
  split
  · simp only; split <;> omega
  · have h2 := digits_bound (List.take (Stil.find 46 (Stil.bare l)).toNat (Stil.bare l) ++ List.drop ((Stil.find 46 (Stil.bare l)).toNat + 1) (Stil.bare l))
    simp only; split <;> omega
theorem guessFrom_bound (l : List UInt8) : ∀ m k : Nat, -9223372036854775808 ≤ (Stil.guessFrom l m k).n ∧ (Stil.guessFrom l m k).n ≤ 9223372036854775807
  | 0, k => guessNum_bound l
  | m + 1, k => by
    unfold Stil.guessFrom
    split
    · have := digits_bound (l.drop 1); simp only; omega
    · exact guessFrom_bound l m (k + 1)
theorem wordFrom_bound (l : List UInt8) : ∀ m k : Nat, m + k ≤ 4 → -9223372036854775808 ≤ (Stil.wordFrom l m k).n ∧ (Stil.wordFrom l m k).n ≤ 9223372036854775807
  | 0, k, _ => guessFrom_bound l 10 1
  | m + 1, k, h1 => by
    unfold Stil.wordFrom
    split
    · simp only; omega
    · exact wordFrom_bound l m (k + 1) (by omega)
theorem guess_bound (l : List UInt8) : -9223372036854775808 ≤ (Stil.guess l).n ∧ (Stil.guess l).n ≤ 9223372036854775807 := wordFrom_bound l 4 0 (by omega)
end Go.Proofs.YthhfnncehfkbfaaDoor
