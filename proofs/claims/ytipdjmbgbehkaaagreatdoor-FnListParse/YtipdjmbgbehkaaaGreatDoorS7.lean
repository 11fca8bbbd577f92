/- T7, T7b: texts put together. -/
import Derived.Test.YtipdjmbgbehkaaaGreatDoorGg
import Derived.Test.YtipdjmbgbehkaaaGreatDoorGZ
import Derived.Test.YtipdjmbgbehkaaaGreatDoorGJ
/- How lists of instructions lie in memory. -/
namespace Go.Proofs.YtipdjmbgbehkaaaGreatDoor
open Go.RowKit Go.Sort Go.BigFrame
/-- The instruction i lies at this place. -/
def InstAt (w : World) (b o : Nat) (i : Stil.Inst) : Prop := w.cell? ⟨b, o, none⟩ = some (.int .i64 i.code) ∧ w.cell? ⟨b, o + 1, none⟩ = some (.int .i64 i.one.op) ∧ ∃ av, w.cell? ⟨b, o + 2, none⟩ = some av ∧ DevsAt w av i.one.args
/-- The value v is a slice of just these instructions. -/
def InstsAt (w : World) (v : Value) (l : List Stil.Inst) : Prop := ∃ a cap, v = .slice a l.length cap ∧ ∀ i (h : i < l.length), ∃ b o, a = some ⟨b, o, none⟩ ∧ b < w.heap.size ∧ InstAt w b (o + i * 3) l[i]
theorem InstAt.below {w w' : World} {b o : Nat} {i : Stil.Inst} (h : InstAt w b o i) (hb : Below w.heap.size w w') (hlt : b < w.heap.size) : InstAt w' b o i := by
 obtain ⟨h1, h2, av, h3, h4⟩ := h
 exact ⟨by rw [hb.cell (p := ⟨b, o, none⟩) hlt]; exact h1, by rw [hb.cell (p := ⟨b, o + 1, none⟩) hlt]; exact h2, av, by rw [hb.cell (p := ⟨b, o + 2, none⟩) hlt]; exact h3, h4.below hb⟩
theorem InstsAt.below {w w' : World} {v : Value} {l : List Stil.Inst} (h : InstsAt w v l) (hb : Below w.heap.size w w') : InstsAt w' v l := by
 obtain ⟨a, cap, hv, hc⟩ := h
 refine ⟨a, cap, hv, fun i hi => ?_⟩
 obtain ⟨b, o, ha, hlt, hn⟩ := hc i hi
 exact ⟨b, o, ha, Nat.lt_of_lt_of_le hlt hb.size, hn.below hb hlt⟩
/-- The instruction lies at this place, and whatever it holds at or beyond lo. -/
def InstFrom (lo : Nat) (w : World) (b o : Nat) (i : Stil.Inst) : Prop := w.cell? ⟨b, o, none⟩ = some (.int .i64 i.code) ∧ w.cell? ⟨b, o + 1, none⟩ = some (.int .i64 i.one.op) ∧ ∃ av, w.cell? ⟨b, o + 2, none⟩ = some av ∧ DevsFrom lo w av i.one.args
def InstsFrom (lo : Nat) (w : World) (v : Value) (l : List Stil.Inst) : Prop := ∃ a cap, v = .slice a l.length cap ∧ ∀ i (h : i < l.length), ∃ b o, a = some ⟨b, o, none⟩ ∧ lo ≤ b ∧ b < w.heap.size ∧ InstFrom lo w b (o + i * 3) l[i]
theorem InstsFrom.at {lo : Nat} {w : World} {v : Value} {l : List Stil.Inst} (h : InstsFrom lo w v l) : InstsAt w v l := by
 obtain ⟨a, cap, hv, hc⟩ := h
 refine ⟨a, cap, hv, fun i hi => ?_⟩
 obtain ⟨b, o, ha, hl', hb, h1, h2, av, h3, h4⟩ := hc i hi
 exact ⟨b, o, ha, hb, h1, h2, av, h3, h4.at⟩
end Go.Proofs.YtipdjmbgbehkaaaGreatDoor
/- I8: texts put together. -/
set_option maxHeartbeats 4000000
set_option maxRecDepth 100000
/- Contracts of the program's chapter 5: ListWord, ListOk. -/
namespace Go.Proofs.YtipdjmbgbehkaaaGreatDoor
open Go.RowKit Go.Sort Go.BigFrame
/-- The words of the instructions lie where the program's text lays them. -/
def LWordsAt (w : World) : Prop := 0 < w.heap.size ∧ ∀ k : Nat, k < 12 → w.cell? ⟨0, k, none⟩ = some (.string ⟨(Stil.listWords.getD k []).toArray⟩)
theorem LWordsAt.below {w w' : World} (h : LWordsAt w) (hb : Below w.heap.size w w') : LWordsAt w' :=
 ⟨Nat.lt_of_lt_of_le h.1 hb.size, fun k hk => by rw [hb.cell (p := ⟨0, k, none⟩) h.1]; exact h.2 k hk⟩
theorem i_listWord_no (c : Int) (w : World) (h : c < 0 ∨ 12 ≤ c) :
  Calls Tryz.prog 44 #[.int .i64 c] w fun e w' => e = .returned (.string ⟨#[]⟩) ∧ w' = w := by
 go_enter Tryz.func44, Tryz.ntmps44
 go_wp2
 all_goals first | (exfalso; omega) | (go_ret; exact ⟨rfl, rfl⟩)
theorem i_listWord (k : Nat) (w : World) (hw : LWordsAt w) (h : k < 12) :
  Calls Tryz.prog 44 #[.int .i64 k] w fun e w' => e = .returned (.string ⟨(Stil.listWords.getD k []).toArray⟩) ∧ w' = w := by
 have hk := hw.2 k h
 obtain ⟨s, hs⟩ : ∃ s : ByteArray, s = ⟨(Stil.listWords.getD k []).toArray⟩ := ⟨_, rfl⟩
 rw [← hs] at hk ⊢
 clear hs hw
 go_enter Tryz.func44, Tryz.ntmps44
 go_wp2
 go_ret
 exact ⟨rfl, rfl⟩
end Go.Proofs.YtipdjmbgbehkaaaGreatDoor
/- Contracts of the specification's chapters 5 and 6: ListOk, and what is wrong with an instruction. -/
namespace Go.Proofs.YtipdjmbgbehkaaaGreatDoor
open Go.RowKit Go.Sort Go.BigFrame
set_option maxHeartbeats 2000000 in
set_option maxRecDepth 100000 in
theorem s_listOk (i : Stil.Inst) (av : Value) (w : World) (hav : DevsAt w av i.one.args) (hf : i.fits) :
  Calls Tryz.prog 10 #[.agg #[.int .i64 i.code, .int .i64 i.one.op, av]] w fun e w' => e = .returned (.bool (Stil.listOk i)) ∧ Below w.heap.size w w' := by
 obtain ⟨c, op, ds⟩ := i
 simp only at hav hf ⊢
 have hla : ds.length ≤ 1048576 := hf.2.2.1
 have HC : Hid (∀ W, Below w.heap.size w W → Calls Tryz.prog 29 #[.agg #[.int .i64 op, av]] W fun e w' => e = .returned (.bool (Stil.isContact op ds)) ∧ Below W.heap.size W w') := fun W hW => s_isContact op av ds W (hav.below hW) hf.2.2.2 (by omega)
 have HO : Hid (∀ W, Below w.heap.size w W → Calls Tryz.prog 30 #[.agg #[.int .i64 op, av]] W fun e w' => e = .returned (.bool (Stil.isCoil op ds)) ∧ Below W.heap.size W w') := fun W hW => s_isCoil op av ds W (hav.below hW) hf.2.2.2 (by omega)
 have HL : Hid (Stil.listOk ⟨c, op, ds⟩ = if c < 1 ∨ 11 < c then false else if c ≤ 3 then Stil.isContact op ds else if c = 10 then Stil.isCoil op ds else (op == 0 && ds.length == 0)) := rfl
 obtain ⟨p0, r0, rfl, _⟩ := hav
 obtain ⟨R, hR⟩ : ∃ R, R = Stil.listOk ⟨c, op, ds⟩ := ⟨_, rfl⟩
 obtain ⟨q1, hq1⟩ : ∃ q, q = Stil.isContact op ds := ⟨_, rfl⟩
 obtain ⟨q2, hq2⟩ : ∃ q, q = Stil.isCoil op ds := ⟨_, rfl⟩
 obtain ⟨ln, hln⟩ : ∃ ln, ln = ds.length := ⟨_, rfl⟩
 rw [← hR] at HL ⊢
 rw [← hq1] at HL HC
 rw [← hq2] at HL HO
 rw [← hln] at HL HC HO hla ⊢
 clear hR hq1 hq2 hf hln
 by_cases h1 : c < 1 ∨ 11 < c
 ·have HX : Hid (R = false) := by show _ = _; rw [HL.out, if_pos h1]
  clear HL HC HO
  go_enter Tryz.func10, Tryz.ntmps10
  go_wp2
  all_goals first | (exfalso; omega) | (go_ret; exact ⟨ret_bool HX.out.symm, blA⟩)
 ·have HL2 : Hid (R = if c ≤ 3 then q1 else if c = 10 then q2 else (op == 0 && ln == 0)) := by show _ = _; rw [HL.out, if_neg h1]
  have c1 : ¬ c < 1 := by omega
  have c2 : ¬ 11 < c := by omega
  clear HL h1
  by_cases h3 : c ≤ 3
  ·have HX : Hid (R = q1) := by show _ = _; rw [HL2.out, if_pos h3]
   clear HL2 HO
   go_enter Tryz.func10, Tryz.ntmps10
   go_wp2_with (go_at_call 29; refine (HC.out _ blA).mono ?_; rintro e w1 ⟨rfl, hb⟩)
   go_ret
   exact ⟨ret_bool HX.out.symm, blA⟩
  ·by_cases h10 : c = 10
   ·have HX : Hid (R = q2) := by show _ = _; rw [HL2.out, if_neg h3, if_pos h10]
    subst h10
    clear HL2 HC
    go_enter Tryz.func10, Tryz.ntmps10
    go_wp2_with (go_at_call 30; refine (HO.out _ blA).mono ?_; rintro e w1 ⟨rfl, hb⟩)
    go_ret
    exact ⟨ret_bool HX.out.symm, blA⟩
   ·have HX : Hid (R = (op == 0 && ln == 0)) := by show _ = _; rw [HL2.out, if_neg h3, if_neg h10]
    have e10 : (c == 10) = false := by rw [beq_eq_false_iff_ne]; exact h10
    clear HL2 HC HO h10
    go_enter Tryz.func10, Tryz.ntmps10
    go_wp2
    all_goals go_ret
    all_goals (refine ⟨ret_bool ?_, blA⟩)
    all_goals (rw [HX.out, Bool.eq_iff_iff]; go_light; simp [*])
end Go.Proofs.YtipdjmbgbehkaaaGreatDoor
