/- Contracts of the specification's chapter 1, third part: decimals. -/
import Derived.Test.YtnbdgpepancfnabDoorS1b
import Derived.Lib.ItoaNum
import Derived.Laws.BytesArg
namespace Go.Proofs.YtnbdgpepancfnabDoor
open Go.RowKit Go.Sort Go.BigFrame
theorem conv_one (w : World) (b : Int) : (convert 64 9 (.slice (some ⟨w.heap.size, 0, none⟩) 1 1)).run Tryd.prog (w.alloc (.cells #[.int .u8 b] 5)) = .ok (.string ⟨[UInt8.ofNat b.toNat].toArray⟩) (w.alloc (.cells #[.int .u8 b] 5)) := by
  have hc : ∀ i, i < 1 → (w.alloc (.cells #[.int .u8 b] 5)).cell? ⟨w.heap.size, 0 + i, none⟩ = some (.int .u8 ([b].getD i 0)) := by
    intro i hi
    have h0 : i = 0 := by omega
    subst h0
    simp [go_sem]
  have := run_convert_bytes_arg (P := Tryd.prog) (w.alloc (.cells #[.int .u8 b] 5)) 64 5 Tryd.underlying64 Tryd.underlying5 w.heap.size 0 1 1 [b] rfl hc 9 Tryd.underlying9
  rw [this]; rfl
theorem ba_app (a b : List UInt8) : ((⟨a.toArray⟩ : ByteArray) ++ (⟨b.toArray⟩ : ByteArray)) = ⟨(a ++ b).toArray⟩ := by
  apply ByteArray.ext; simp [ByteArray.data_append]
theorem ba_app1 (x : UInt8) (b : List UInt8) : ((⟨#[x]⟩ : ByteArray) ++ (⟨b.toArray⟩ : ByteArray)) = ⟨(x :: b).toArray⟩ := ba_app [x] b
theorem u8_digit (m : Nat) : (48 : UInt8) + UInt8.ofNat m = UInt8.ofNat (48 + m) := by simp
theorem nDigits_le : ∀ (k n : Nat), n < 10 ^ (k + 1) → Lib.nDigits n ≤ k + 1
  | 0, n, h => by rw [Lib.nDigits_small (by simpa using h)]; omega
  | k + 1, n, h => by
    by_cases h1 : n < 10
    · rw [Lib.nDigits_small h1]; omega
    · rw [Lib.nDigits_big h1]
      have := nDigits_le k (n / 10) (by rw [Nat.pow_succ] at h; omega)
      omega
theorem decDigits_le {n : Nat} (h : n ≤ 9223372036854775807) : (Lib.decDigits n).length ≤ 19 := by
  rw [Lib.decDigits_length]; exact nDigits_le 18 n (by omega)
theorem decDigits_big {u : Nat} (h : ¬ u < 10) : Lib.decDigits u = Lib.decDigits (u / 10) ++ [UInt8.ofNat (48 + u % 10)] := by rw [Lib.decDigits, dif_neg h]
set_option maxHeartbeats 400000 in
set_option maxRecDepth 100000 in
theorem s_dec_nat (n : Nat) (w : World) (h : n ≤ 9223372036854775807) :
    Calls Tryd.prog 33 #[.int .i64 n] w fun e w' => e = .returned (.string ⟨(Lib.decDigits n).toArray⟩) ∧ Below w.heap.size w w' := by
  have hcv := conv_one
  have hlen := decDigits_le h
  go_enter Tryd.func33, Tryd.ntmps33
  go_wp2
  go_loopw [0, 3] (fun v out wr => ∃ (m : Nat) (suf : List UInt8), m ≤ n ∧ suf.length ≤ 19 ∧ v = .int .i64 m ∧ out = .string ⟨suf.toArray⟩ ∧ Lib.decDigits n = Lib.decDigits m ++ suf ∧ Below w.heap.size w wr) (fun v _ _ => (intOf v).toNat)
  case atStart => exact ⟨n, [], Nat.le_refl _, by simp, rfl, rfl, by simp, Below.refl _ _⟩
  case round =>
    obtain ⟨m, suf, hm, hsl, rfl, rfl, hd, hb⟩ := hrel
    have HD : Hid (Lib.decDigits n = Lib.decDigits m ++ suf) := hd
    clear hd
    by_cases hlt : m ≤ 9
    · go_wp2
      go_ret
      refine ⟨ret_string ?_, hb.alloc hb.size _⟩
      rw [HD.out, Lib.decDigits_one (by omega), ba_app1, u8_digit]; rfl
    · go_wp2
      go_roundw
      case rel =>
        refine ⟨m / 10, UInt8.ofNat (48 + m % 10) :: suf, by omega, ?_, by go_num, ?_, ?_, hb.alloc hb.size _⟩
        · have e : (Lib.decDigits n).length = (Lib.decDigits (m / 10)).length + 1 + suf.length := by rw [HD.out, decDigits_big (by omega)]; simp; omega
          rw [List.length_cons]; omega
        · rw [ba_app1, u8_digit]
        · rw [HD.out, decDigits_big (by omega)]; simp
      case measure => simp [intOf]; omega
set_option maxHeartbeats 400000 in
set_option maxRecDepth 100000 in
theorem s_dec (n : Int) (w : World) (h1 : -9223372036854775807 ≤ n) (h2 : n ≤ 9223372036854775807) :
    Calls Tryd.prog 33 #[.int .i64 n] w fun e w' => e = .returned (.string ⟨(Lib.itoa n).toArray⟩) ∧ Below w.heap.size w w' := by
  by_cases h0 : 0 ≤ n
  · obtain ⟨m, rfl⟩ := Int.eq_ofNat_of_zero_le h0
    have e : Lib.itoa (m : Int) = Lib.decDigits m := by unfold Lib.itoa; rw [if_neg (by omega)]; simp
    rw [e]
    exact s_dec_nat m w (by omega)
  · obtain ⟨m, hm⟩ := Int.eq_ofNat_of_zero_le (a := -n) (by omega)
    have e : Lib.itoa n = 45 :: Lib.decDigits m := by unfold Lib.itoa; rw [if_pos (by omega)]; congr 2; omega
    have hl := decDigits_le (n := m) (by omega)
    rw [e]
    have hn : n = -(m : Int) := by omega
    subst hn
    have hm' : m ≤ 9223372036854775807 := by omega
    have hp : 1 ≤ m := by omega
    clear hm e h0
    go_enter Tryd.func33, Tryd.ntmps33
    go_wp2_with (go_at_call 33; refine (s_dec_nat m _ hm').mono ?_; rintro e w' ⟨rfl, hb⟩)
    go_ret
    exact ⟨ret_string (ba_app1 _ _), hb⟩
end Go.Proofs.YtnbdgpepancfnabDoor
