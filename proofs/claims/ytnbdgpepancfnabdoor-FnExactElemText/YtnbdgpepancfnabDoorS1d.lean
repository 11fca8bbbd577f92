/- Contracts of the specification's chapter 1, fourth part: decimal numbers, DevText. -/
import Derived.Test.YtnbdgpepancfnabDoorS1c
namespace Go.Proofs.YtnbdgpepancfnabDoor
open Go.RowKit Go.Sort Go.BigFrame
theorem ba_ext (l : List UInt8) (a b : Nat) : (⟨l.toArray⟩ : ByteArray).extract a b = ⟨((l.take b).drop a).toArray⟩ := by
  apply ByteArray.ext
  simp [ByteArray.data_extract, List.extract_eq_take_drop, List.drop_take]
theorem ba_app2 (a : List UInt8) (x : UInt8) : ((⟨a.toArray⟩ : ByteArray) ++ (⟨#[x]⟩ : ByteArray)) = ⟨(a ++ [x]).toArray⟩ := ba_app a [x]
theorem decNat_le (m q : Nat) (h : m ≤ 9223372036854775807) : (Stil.decNat m q).length ≤ 30 + q := by
  have := decDigits_le h
  simp [Stil.decNat, Stil.padTo]; omega
def strSize : Value → Nat | .string b => b.size | _ => 0
set_option maxHeartbeats 400000 in
theorem s_words (w : World) :
    Calls Tryd.prog 35 #[] w fun e w' => e = .returned (.slice (some ⟨w.heap.size, 0, none⟩) 4 4) ∧ w' = w.alloc (.cells #[.string ⟨#[110, 97, 110]⟩, .string ⟨#[105, 110, 102]⟩, .string ⟨#[45, 105, 110, 102]⟩, .string ⟨#[45, 48, 46, 48]⟩] 9) := by
  go_enter Tryd.func35, Tryd.ntmps35
  go_wp2
  go_ret
  exact ⟨rfl, rfl⟩
set_option maxHeartbeats 400000 in
set_option maxRecDepth 100000 in
theorem s_dec1_nat (n p : Nat) (w : World) (h : n ≤ 999999999) (hp1 : 1 ≤ p) (hp2 : p ≤ 6) :
    Calls Tryd.prog 34 #[.int .i64 n, .int .i64 p] w fun e w' => e = .returned (.string ⟨(Stil.decNat n p).toArray⟩) ∧ Below w.heap.size w w' := by
  have hlen := decDigits_le (n := n) (by omega)
  go_enter Tryd.func34, Tryd.ntmps34
  go_wp2_with (go_at_call 33; refine (s_dec_nat n _ (by omega)).mono ?_; rintro e w' ⟨rfl, hb⟩)
  go_loop [5] (fun s => ∃ k : Nat, s = .string ⟨(List.replicate k 48 ++ Lib.decDigits n).toArray⟩ ∧ k ≤ p + 1 - (Lib.decDigits n).length) (fun s => 7 - strSize s)
  case atStart => exact ⟨0, by simp, by omega⟩
  case round =>
    obtain ⟨k, rfl, hk⟩ := hrel
    by_cases hlt : k + (Lib.decDigits n).length ≤ p
    · go_wp2
      refine ⟨⟨k + 1, ?_, by omega⟩, ?_⟩
      · rw [ba_app1]; rfl
      · rw [ba_app1]; simp [ByteArray.size, strSize]; omega
    · obtain ⟨l, hl⟩ : ∃ l, l = List.replicate k 48 ++ Lib.decDigits n := ⟨_, rfl⟩
      have hll : l.length = k + (Lib.decDigits n).length := by rw [hl]; simp
      have h1 : p < l.length := by omega
      have h2 : l.length ≤ 30 := by omega
      have HL : Hid (Stil.padTo p (Lib.decDigits n) = l) := by
        show Stil.padTo p (Lib.decDigits n) = l
        rw [hl]; unfold Stil.padTo; congr 2; omega
      rw [← hl]
      clear hl hll hlt hk hlen
      go_wp2
      go_quiet (fail)
      go_wp2
      go_ret
      refine ⟨ret_string ?_, below_drewN hb nq⟩
      have e := HL.out
      rw [Stil.decNat, e, ba_ext, ba_ext, ba_app2, ba_app]
      simp
set_option maxHeartbeats 400000 in
set_option maxRecDepth 100000 in
theorem s_dec1 (n p : Int) (w : World) (h1 : -999999999 ≤ n) (h2 : n ≤ 999999999) (hp1 : 1 ≤ p) (hp2 : p ≤ 6) :
    Calls Tryd.prog 34 #[.int .i64 n, .int .i64 p] w fun e w' => e = .returned (.string ⟨(Stil.decText n p).toArray⟩) ∧ Below w.heap.size w w' := by
  obtain ⟨q, rfl⟩ := Int.eq_ofNat_of_zero_le (a := p) (by omega)
  by_cases h0 : 0 ≤ n
  · obtain ⟨m, rfl⟩ := Int.eq_ofNat_of_zero_le h0
    have e : Stil.decText (m : Int) q = Stil.decNat m q := by unfold Stil.decText; rw [if_neg (by omega)]; simp
    rw [e]
    exact s_dec1_nat m q w (by omega) (by omega) (by omega)
  · obtain ⟨m, hm⟩ := Int.eq_ofNat_of_zero_le (a := -n) (by omega)
    have e : Stil.decText n q = 45 :: Stil.decNat m q := by unfold Stil.decText; rw [if_pos (by omega)]; congr 2; omega
    have hl := decNat_le m q (by omega)
    rw [e]
    have hn : n = -(m : Int) := by omega
    subst hn
    have hm' : m ≤ 999999999 := by omega
    have hp : 1 ≤ m := by omega
    have hq1 : 1 ≤ q := by omega
    have hq2 : q ≤ 6 := by omega
    clear hm e h0
    go_enter Tryd.func34, Tryd.ntmps34
    go_wp2_with (go_at_call 34; refine (s_dec1_nat m q _ hm' hq1 hq2).mono ?_; rintro e w' ⟨rfl, hb⟩)
    go_ret
    exact ⟨ret_string (ba_app1 _ _), hb⟩
end Go.Proofs.YtnbdgpepancfnabDoor
