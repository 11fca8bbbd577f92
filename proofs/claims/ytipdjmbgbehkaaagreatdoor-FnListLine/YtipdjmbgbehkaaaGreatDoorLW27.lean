/- I17, I18: texts put together. -/
import Derived.Test.YtipdjmbgbehkaaaGreatDoorSH
import Derived.Test.YtipdjmbgbehkaaaGreatDoorHs
import Derived.Test.YtipdjmbgbehkaaaGreatDoorM30
import Derived.Test.YtipdjmbgbehkaaaGreatDoorGd
import Derived.Test.YtipdjmbgbehkaaaGreatDoorHo
import Derived.Test.YtipdjmbgbehkaaaGreatDoorHt
import Derived.Test.YtipdjmbgbehkaaaGreatDoorHx
import Derived.Test.YtipdjmbgbehkaaaGreatDoorGh
/- Contracts of the program's chapter 5: ListText, over a strings.Builder. -/
namespace Go.Proofs.YtipdjmbgbehkaaaGreatDoor
open Go.RowKit Go.Sort Go.BigFrame
end Go.Proofs.YtipdjmbgbehkaaaGreatDoor
/- Contracts of the program's chapter 5: ListSame. -/
namespace Go.Proofs.YtipdjmbgbehkaaaGreatDoor
open Go.RowKit Go.Sort Go.BigFrame
open Classical in
set_option maxHeartbeats 1000000 in
theorem i_listSame (es fs : List Stil.Inst) (v u : Value) (w : World) (hat : InstsAt w v es) (hau : InstsAt w u fs) (hf : ∀ x ∈ es, x.fits) (hg : ∀ x ∈ fs, x.fits) (hl : es.length ≤ 1048576) (hm : fs.length ≤ 1048576) :
    Calls Tryz.prog 12 #[v, u] w fun e w' => e = .returned (.bool (decide (es = fs))) ∧ Below w.heap.size w w' := by
  have H : Hid (∀ W, Below w.heap.size w W → Calls Tryz.prog 33 #[v, u, .func (.func 34) #[] #[]] W fun e w' => e = .returned (.bool (decide (es = fs))) ∧ Below W.heap.size W w') := fun W h => i_eqfInsts es fs (fun x hx y hy => i_instSame x y (hf x hx) (hg y hy)) v u W (hat.below h) (hau.below h) hl hm
  obtain ⟨a1, c1, rfl, -⟩ := hat
  obtain ⟨a2, c2, rfl, -⟩ := hau
  go_enter Tryz.func12, Tryz.ntmps12
  go_wp2_with (go_at_call 33; refine (H.out _ (by (repeat (first | with_reducible exact Below.refl _ _ | with_reducible assumption | with_reducible refine bl_set (by first | exact Nat.le_refl _ | (simp; done) | (simp; omega) | omega) ?_ _ | with_reducible refine bl_alloc ?_ _ | with_reducible refine bl_drewN ?_ _ | with_reducible refine bl_drew ?_ | with_reducible refine bl_grow ?_ _ _ | with_reducible refine bl_call ?_ (by assumption))))).mono ?_; rintro e w1 ⟨rfl, hb⟩)
  go_ret
  exact ⟨rfl, by (repeat (first | with_reducible exact Below.refl _ _ | with_reducible assumption | with_reducible refine bl_set (by first | exact Nat.le_refl _ | (simp; done) | (simp; omega) | omega) ?_ _ | with_reducible refine bl_alloc ?_ _ | with_reducible refine bl_drewN ?_ _ | with_reducible refine bl_drew ?_ | with_reducible refine bl_grow ?_ _ _ | with_reducible refine bl_call ?_ (by assumption)))⟩
end Go.Proofs.YtipdjmbgbehkaaaGreatDoor
/- The law on lists that are written and read: the walk. -/
namespace Stil
def okTo (l : List Inst) (j : Nat) : Bool := decide (l.length ≤ 1000) && (l.take j).all listOk
theorem okTo_next (l : List Inst) (j : Nat) (h : j < l.length) : okTo l (j + 1) = (okTo l j && listOk l[j]) := by
  unfold okTo
  rw [List.take_succ_eq_append_getElem h, List.all_append, Bool.and_assoc]
  simp
theorem okTo_all (l : List Inst) : okTo l l.length = (decide (l.length ≤ 1000) && l.all listOk) := by unfold okTo; rw [List.take_length]
theorem listText_no {l : List Inst} (h : okTo l l.length = false) : listText l = [] := by
  rw [okTo_all] at h
  unfold listText
  rw [if_pos]
  by_cases h1 : 1000 < l.length
  · exact .inl h1
  · right
    have h2 : l.all listOk = false := by
      rw [decide_eq_true (by omega), Bool.true_and] at h
      exact h
    rw [List.all_eq_false] at h2
    obtain ⟨i, hi, hk⟩ := h2
    exact ⟨i, hi, by simpa using hk⟩
theorem okTo_parts {l : List Inst} (h : okTo l l.length = true) : l.length ≤ 1000 ∧ ∀ i ∈ l, listOk i = true := by
  rw [okTo_all, Bool.and_eq_true] at h
  exact ⟨of_decide_eq_true h.1, fun i hi => List.all_eq_true.1 h.2 i hi⟩
end Stil
namespace Go.Proofs.YtipdjmbgbehkaaaGreatDoor
open Go.RowKit Go.Sort Go.BigFrame
theorem parse_at {R : List Stil.Inst × Int × Int} {e : Ending} {w w' : World} (h : ParseOut R e w w') : ∃ (a : Option Addr) (c : Nat), e = .returned (.tuple #[.slice a R.1.length c, .agg #[.int .i64 R.2.1, .int .i64 R.2.2]]) ∧ InstsAt w' (.slice a R.1.length c) R.1 ∧ Below w.heap.size w w' := by
  obtain ⟨rv, us, rfl, hbt, hb⟩ := h
  have hfr := (rung_from hbt.1).at
  obtain ⟨a, c, hv⟩ := slice_of_owns hbt.1.2.1
  subst hv
  exact ⟨a, c, rfl, hfr, hb⟩
end Go.Proofs.YtipdjmbgbehkaaaGreatDoor
