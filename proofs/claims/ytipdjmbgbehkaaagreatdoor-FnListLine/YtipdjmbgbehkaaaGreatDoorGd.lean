/- T7, T7b: texts put together. -/
import Derived.Test.YtipdjmbgbehkaaaGreatDoorGg
import Derived.Test.YtipdjmbgbehkaaaGreatDoorGZ
import Derived.Test.YtipdjmbgbehkaaaGreatDoorGJ
/- How lists of instructions lie in memory. -/
namespace Go.Proofs.YtipdjmbgbehkaaaGreatDoor
open Go.RowKit Go.Sort Go.BigFrame
/-- The instruction i lies at this place. -/
def InstAt (w : World) (b o : Nat) (i : Stil.Inst) : Prop := w.cell? ⟨b, o, none⟩ = some (.int .i64 i.code) ∧ w.cell? ⟨b, o + 1, none⟩ = some (.int .i64 i.one.op) ∧ ∃ av, w.cell? ⟨b, o + 2, none⟩ = some av ∧ DevsAt w av i.one.args
/-- The value v is a slice of just these instructions. -/
def InstsAt (w : World) (v : Value) (l : List Stil.Inst) : Prop := ∃ a cap, v = .slice a l.length cap ∧ ∀ i (h : i < l.length), ∃ b o, a = some ⟨b, o, none⟩ ∧ b < w.heap.size ∧ InstAt w b (o + i * 3) l[i]
theorem InstAt.below {w w' : World} {b o : Nat} {i : Stil.Inst} (h : InstAt w b o i) (hb : Below w.heap.size w w') (hlt : b < w.heap.size) : InstAt w' b o i := by
  obtain ⟨h1, h2, av, h3, h4⟩ := h
  exact ⟨by rw [hb.cell (p := ⟨b, o, none⟩) hlt]; exact h1, by rw [hb.cell (p := ⟨b, o + 1, none⟩) hlt]; exact h2, av, by rw [hb.cell (p := ⟨b, o + 2, none⟩) hlt]; exact h3, h4.below hb⟩
theorem InstsAt.below {w w' : World} {v : Value} {l : List Stil.Inst} (h : InstsAt w v l) (hb : Below w.heap.size w w') : InstsAt w' v l := by
  obtain ⟨a, cap, hv, hc⟩ := h
  refine ⟨a, cap, hv, fun i hi => ?_⟩
  obtain ⟨b, o, ha, hlt, hn⟩ := hc i hi
  exact ⟨b, o, ha, Nat.lt_of_lt_of_le hlt hb.size, hn.below hb hlt⟩
/-- The instruction lies at this place, and whatever it holds at or beyond lo. -/
def InstFrom (lo : Nat) (w : World) (b o : Nat) (i : Stil.Inst) : Prop := w.cell? ⟨b, o, none⟩ = some (.int .i64 i.code) ∧ w.cell? ⟨b, o + 1, none⟩ = some (.int .i64 i.one.op) ∧ ∃ av, w.cell? ⟨b, o + 2, none⟩ = some av ∧ DevsFrom lo w av i.one.args
def InstsFrom (lo : Nat) (w : World) (v : Value) (l : List Stil.Inst) : Prop := ∃ a cap, v = .slice a l.length cap ∧ ∀ i (h : i < l.length), ∃ b o, a = some ⟨b, o, none⟩ ∧ lo ≤ b ∧ b < w.heap.size ∧ InstFrom lo w b (o + i * 3) l[i]
theorem InstsFrom.at {lo : Nat} {w : World} {v : Value} {l : List Stil.Inst} (h : InstsFrom lo w v l) : InstsAt w v l := by
  obtain ⟨a, cap, hv, hc⟩ := h
  refine ⟨a, cap, hv, fun i hi => ?_⟩
  obtain ⟨b, o, ha, hl', hb, h1, h2, av, h3, h4⟩ := hc i hi
  exact ⟨b, o, ha, hb, h1, h2, av, h3, h4.at⟩
end Go.Proofs.YtipdjmbgbehkaaaGreatDoor
/- The verifier's points in memory. -/
namespace Go.Proofs.YtipdjmbgbehkaaaGreatDoor
open Go.RowKit Go.Sort Go.BigFrame
end Go.Proofs.YtipdjmbgbehkaaaGreatDoor
/- I7n: texts put together. -/
/- Contracts of the program's chapter 3: whether a contact or coil is nothing. -/
namespace Go.Proofs.YtipdjmbgbehkaaaGreatDoor
open Go.RowKit Go.Sort Go.BigFrame
set_option maxHeartbeats 1000000 in
theorem i_isNothing (op : Int) (a : Option Addr) (ln cap : Nat) (w : World) (_h : ln ≤ 9223372036854775807) :
    Calls Tryz.prog 45 #[.agg #[.int .i64 op, .slice a ln cap]] w fun e w' => e = .returned (.bool (op == 0 && ln == 0)) ∧ Below w.heap.size w w' := by
  by_cases h0 : op = 0
  · subst h0
    go_enter Tryz.func45, Tryz.ntmps45
    go_wp2
    all_goals go_ret
    all_goals refine ⟨ret_bool ?_, by (repeat (first | with_reducible exact Below.refl _ _ | with_reducible assumption | with_reducible refine bl_set (by first | exact Nat.le_refl _ | (simp; done) | (simp; omega) | omega) ?_ _ | with_reducible refine bl_alloc ?_ _ | with_reducible refine bl_drewN ?_ _ | with_reducible refine bl_drew ?_ | with_reducible refine bl_grow ?_ _ _ | with_reducible refine bl_call ?_ (by assumption)))⟩
    all_goals (go_light; rw [Bool.eq_iff_iff]; simp; try omega)
  · have h1 : (op == 0) = false := by rw [beq_eq_false_iff_ne]; exact h0
    go_enter Tryz.func45, Tryz.ntmps45
    go_wp2
    all_goals go_ret
    all_goals refine ⟨ret_bool ?_, by (repeat (first | with_reducible exact Below.refl _ _ | with_reducible assumption | with_reducible refine bl_set (by first | exact Nat.le_refl _ | (simp; done) | (simp; omega) | omega) ?_ _ | with_reducible refine bl_alloc ?_ _ | with_reducible refine bl_drewN ?_ _ | with_reducible refine bl_drew ?_ | with_reducible refine bl_grow ?_ _ _ | with_reducible refine bl_call ?_ (by assumption)))⟩
    all_goals (go_light; simp [h1])
end Go.Proofs.YtipdjmbgbehkaaaGreatDoor
/- I8: texts put together. -/
/- Contracts of the program's chapter 5: ListWord, ListOk. -/
namespace Go.Proofs.YtipdjmbgbehkaaaGreatDoor
open Go.RowKit Go.Sort Go.BigFrame
/-- The words of the instructions lie where the program's text lays them. -/
def LWordsAt (w : World) : Prop := 0 < w.heap.size ∧ ∀ k : Nat, k < 12 → w.cell? ⟨0, k, none⟩ = some (.string ⟨(Stil.listWords.getD k []).toArray⟩)
theorem LWordsAt.below {w w' : World} (h : LWordsAt w) (hb : Below w.heap.size w w') : LWordsAt w' :=
  ⟨Nat.lt_of_lt_of_le h.1 hb.size, fun k hk => by rw [hb.cell (p := ⟨0, k, none⟩) h.1]; exact h.2 k hk⟩
set_option maxHeartbeats 1000000 in
set_option maxRecDepth 100000 in
theorem i_listWord_no (c : Int) (w : World) (h : c < 0 ∨ 12 ≤ c) :
    Calls Tryz.prog 44 #[.int .i64 c] w fun e w' => e = .returned (.string ⟨#[]⟩) ∧ w' = w := by
  go_enter Tryz.func44, Tryz.ntmps44
  go_wp2
  all_goals first | (exfalso; omega) | (go_ret; exact ⟨rfl, rfl⟩)
set_option maxHeartbeats 1000000 in
set_option maxRecDepth 100000 in
theorem i_listWord (k : Nat) (w : World) (hw : LWordsAt w) (h : k < 12) :
    Calls Tryz.prog 44 #[.int .i64 k] w fun e w' => e = .returned (.string ⟨(Stil.listWords.getD k []).toArray⟩) ∧ w' = w := by
  have hk := hw.2 k h
  obtain ⟨s, hs⟩ : ∃ s : ByteArray, s = ⟨(Stil.listWords.getD k []).toArray⟩ := ⟨_, rfl⟩
  rw [← hs] at hk ⊢
  clear hs hw
  go_enter Tryz.func44, Tryz.ntmps44
  go_wp2
  go_ret
  exact ⟨rfl, rfl⟩
end Go.Proofs.YtipdjmbgbehkaaaGreatDoor
