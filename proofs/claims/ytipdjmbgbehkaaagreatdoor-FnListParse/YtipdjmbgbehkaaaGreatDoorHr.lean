/- S11, S12, S13a: texts put together. -/
import Derived.Test.YtipdjmbgbehkaaaGreatDoorGC
import Derived.Test.YtipdjmbgbehkaaaGreatDoorHq
set_option maxHeartbeats 4000000
set_option maxRecDepth 100000
/- Contracts of the specification's chapter 5: the words of a line. -/
namespace Go.Proofs.YtipdjmbgbehkaaaGreatDoor
open Go.RowKit Go.Sort Go.BigFrame
/-- The words among the first k pieces. -/
def filt (ps : List (List UInt8)) (k : Nat) : List (List UInt8) := (ps.take k).filter fun x => !x.isEmpty
theorem filt_no {ps : List (List UInt8)} {k : Nat} (h : k < ps.length) (hx : ps[k] = []) : filt ps (k + 1) = filt ps k := by
 unfold filt
 rw [List.take_succ_eq_append_getElem h, List.filter_append, hx]
 simp
theorem filt_yes {ps : List (List UInt8)} {k : Nat} (h : k < ps.length) (hx : ps[k] ≠ []) : filt ps (k + 1) = filt ps k ++ [ps[k]] := by
 unfold filt
 rw [List.take_succ_eq_append_getElem h, List.filter_append]
 congr 1
 cases hp : ps[k] with
 | nil => exact absurd hp hx
 | cons a r => rfl
theorem filt_len (ps : List (List UInt8)) (k : Nat) : (filt ps k).length ≤ k := by
 unfold filt
 have h1 := List.length_filter_le (fun x : List UInt8 => !x.isEmpty) (ps.take k)
 have h2 := List.length_take_le k ps
 omega
theorem filt_all (l : List UInt8) : filt (Stil.cut 32 l) (Stil.cut 32 l).length = Stil.wordsOf l := by
 unfold filt Stil.wordsOf
 rw [List.take_length]
theorem piece_count (c : UInt8) (l : List UInt8) : (Stil.cut c l).length ≤ l.length + 1 := by
 induction l with
 | nil => simp [Stil.cut]
 | cons x r ih =>
  rw [Stil.cut]
  split
  ·simp; omega
  ·have : (Stil.consHead x (Stil.cut c r)).length = (Stil.cut c r).length ∨ (Stil.consHead x (Stil.cut c r)).length = 1 := by
    cases h : Stil.cut c r with
    | nil => right; rfl
    | cons a q => left; rfl
   rcases this with h | h <;> simp <;> omega
theorem s_lineWords (l : List UInt8) (w : World) (hs : l.length ≤ 1000000) :
  Calls Tryz.prog 40 #[.string ⟨l.toArray⟩] w fun e w' => ∃ v, e = .returned v ∧ w'.ownsRow w.heap.size 9 1 v (Stil.wordsOf l).length ((Stil.wordsOf l).map strV) ∧ Below w.heap.size w w' := by
 obtain ⟨i0, hi, hz0, hz1, hz2⟩ := info_parts info_string
 have HC : Hid (∀ W, Calls Tryz.prog 39 #[.string ⟨l.toArray⟩, .int .u8 32] W fun e w' => ∃ v, e = .returned v ∧ w'.ownsRow W.heap.size 9 1 v (Stil.cut 32 l).length ((Stil.cut 32 l).map strV) ∧ Below W.heap.size W w') := fun W => s_cut l 32 W (by omega)
 have HWA : Hid (filt (Stil.cut 32 l) (Stil.cut 32 l).length = Stil.wordsOf l) := filt_all l
 have hcn := cut_ne 32 l
 have hcl := piece_count 32 l
 obtain ⟨ps, hps⟩ : ∃ ps, ps = Stil.cut 32 l := ⟨_, rfl⟩
 rw [← hps] at HC HWA hcn hcl
 rw [← HWA.out]
 clear hps HWA
 go_enter Tryz.func40, Tryz.ntmps40
 go_wp2_with (go_at_call 39; refine (HC.out _).mono ?_; rintro e w1 ⟨pv, rfl, hown1, hb1⟩; obtain ⟨g, cap, rfl, hg1, hg2, hcap, hcell⟩ := ownsRow_cells hown1 hcn)
 have HCL : Hid (∀ W, Below w1.heap.size w1 W → ∀ k (h : k < ps.length), W.cell? ⟨g, k, none⟩ = some (.string ⟨ps[k].toArray⟩)) := fun W h k hk => by
  rw [h.cell (p := ⟨g, k, none⟩) hg2]
  exact hcell k _ (by rw [List.getElem?_map, List.getElem?_eq_getElem hk]; rfl)
 have hB1 : Below w.heap.size w w1 := blA
 clear hown1 hcell hb1 HC
 go_loopw [4, 5] (fun v i wr => ∃ k : Nat, k ≤ ps.length ∧ i = .int .i64 (k : Int) ∧ wr.ownsRow w1.heap.size 9 1 v (filt ps k).length ((filt ps k).map strV) ∧ Below w1.heap.size w1 wr) (fun _ i _ => ps.length - (intOf i).toNat)
 case atStart => exact ⟨0, Nat.zero_le _, rfl, by simpa [filt] using World.ownsRow_made w1 #[] 0 (Nat.le_refl _) (by decide) (by simp), below_alloc _ _⟩
 case round =>
  obtain ⟨k, hk, rfl, hown, hb⟩ := hrel
  have hfl := filt_len ps k
  by_cases hlt : k < ps.length
  ·have hc := HCL.out wr hb k hlt
   by_cases hx : ps[k] = []
   ·have HF : Hid (filt ps (k + 1) = filt ps k) := filt_no hlt hx
    rw [hx] at hc
    have HOW : Hid (wr.ownsRow w1.heap.size 9 1 u4 (filt ps k).length ((filt ps k).map strV)) := hown
    clear hown hx
    go_wp2
    exact ⟨⟨k + 1, hlt, by simp, by rw [HF.out]; exact HOW.out, hb⟩, by simp [intOf]; omega⟩
   ·have HF : Hid (filt ps (k + 1) = filt ps k ++ [ps[k]]) := filt_yes hlt hx
    obtain ⟨x, hxe⟩ : ∃ x, x = ps[k] := ⟨_, rfl⟩
    rw [← hxe] at hc HF hx
    have hx1 : x.isEmpty = false := by cases x with | nil => exact absurd rfl hx | cons a r => rfl
    have HOW : Hid (wr.ownsRow w1.heap.size 9 1 u4 (filt ps k).length ((filt ps k).map strV)) := hown
    have hzr := hb.size
    clear hown hxe
    go_wp2_with (at_builtin; refine wpList_append_own _ rfl _ _ 68 rfl w1.heap.size 9 i0 (.string ⟨#[]⟩) 1 16 Tryz.underlying68 hi hz0 hz1 hz2 rfl (by decide) _ _ _ rfl (HOW.out.alloc _) ⟨wr.heap.size, 0, none⟩ 1 1 [.string ⟨x.toArray⟩] rfl rfl (by exact cell_one_new _ _ _) (by intro u hu; simp at hu; subst hu; rfl) (by unfold maxLen; omega) (by omega) (by simp; omega) ?_; intro v' w6 hown6 hgr6 _)
    have hlt2 := HOW.out.lt
    have hB2 : Below w1.heap.size w1 w6 := (bl_alloc hb _).grown hgr6 (by simp; omega) (fun k hk => (hlt2 k hk).1)
    refine ⟨⟨k + 1, hlt, by simp, ?_, hB2⟩, by simp [intOf]; omega⟩
    rw [HF.out, List.map_append, List.length_append]
    exact hown6
  ·obtain rfl : k = ps.length := by omega
   have HOW : Hid (wr.ownsRow w1.heap.size 9 1 u4 (filt ps ps.length).length ((filt ps ps.length).map strV)) := hown
   have hz := hB1.size
   clear hown
   go_wp2
   go_ret
   exact ⟨_, rfl, Joins.ownsRow_le HOW.out hz, hB1.trans (hb.mono hz)⟩
theorem s_listWord (k : Nat) (w : World) (h1 : 1 ≤ k) (h2 : k ≤ 11) :
  Calls Tryz.prog 49 #[.int .i64 k] w fun e w' => e = .returned (.string ⟨(Stil.lwordOf k).toArray⟩) ∧ Below w.heap.size w w' := by
 have hk : k = 1 ∨ k = 2 ∨ k = 3 ∨ k = 4 ∨ k = 5 ∨ k = 6 ∨ k = 7 ∨ k = 8 ∨ k = 9 ∨ k = 10 ∨ k = 11 := by omega
 rcases hk with rfl | rfl | rfl | rfl | rfl | rfl | rfl | rfl | rfl | rfl | rfl
 all_goals
  go_enter Tryz.func49, Tryz.ntmps49
  go_wp2
  go_ret
  exact ⟨rfl, blA⟩
/-- The code with this word among the first n. -/
def codeUp (x : List UInt8) : Nat → Int
 | 0 => 0
 | n + 1 => if x = Stil.lwordOf ((n + 1 : Nat) : Int) then ((n + 1 : Nat) : Int) else codeUp x n
theorem code_up (x : List UInt8) : codeUp x 11 = Stil.codeOf x := by
 simp only [codeUp]
 unfold Stil.codeOf
 by_cases h1 : x = Stil.lwordOf 1
 ·subst h1; decide
 by_cases h2 : x = Stil.lwordOf 2
 ·subst h2; decide
 by_cases h3 : x = Stil.lwordOf 3
 ·subst h3; decide
 by_cases h4 : x = Stil.lwordOf 4
 ·subst h4; decide
 by_cases h5 : x = Stil.lwordOf 5
 ·subst h5; decide
 by_cases h6 : x = Stil.lwordOf 6
 ·subst h6; decide
 by_cases h7 : x = Stil.lwordOf 7
 ·subst h7; decide
 by_cases h8 : x = Stil.lwordOf 8
 ·subst h8; decide
 by_cases h9 : x = Stil.lwordOf 9
 ·subst h9; decide
 by_cases h10 : x = Stil.lwordOf 10
 ·subst h10; decide
 by_cases h11 : x = Stil.lwordOf 11
 ·subst h11; decide
 simp [h1, h2, h3, h4, h5, h6, h7, h8, h9, h10, h11]
theorem elemRead_fits (l : List UInt8) : (Stil.elemRead l).fits := by
 cases hb : Stil.elemReadB l
 ·rw [Stil.read_no hb]
  exact ⟨⟨by show (-9223372036854775808 : Int) ≤ 0; decide, by show (0 : Int) ≤ 9223372036854775807; decide⟩, by simp, by simp⟩
 ·have ht := Stil.text_read hb
  have hop : 1 ≤ (Stil.elemRead l).op ∧ (Stil.elemRead l).op ≤ 37 := by
   rcases Stil.elemText_ok (by rw [ht]; exact Stil.readB_ne hb) with h1 | h1
   ·unfold Stil.isContact at h1
    split at h1
    ·cases h1
    ·omega
   ·have := Stil.coil_len h1; omega
  exact ⟨⟨by omega, by omega⟩, by have := Stil.read_len l; omega, fun d hd => devOk_fits d (Stil.read_ok hb d hd)⟩
end Go.Proofs.YtipdjmbgbehkaaaGreatDoor
