/- Contracts of the program's chapter 2, fourth part: how many operands a way takes. -/
import Derived.Test.YtnbdgpepancfnabDoorI3b
import Derived.LoopN
namespace Go.Proofs.YtnbdgpepancfnabDoor
open Go.RowKit Go.Sort Go.BigFrame
def wayVal (l : List Nat) : Value := .agg #[fnv (l.getD 0 0), fnv (l.getD 1 0), fnv (l.getD 2 0)]
theorem ne_nil (w : World) : Sem.run Tryd.prog (binOp BinOp.neq 47 .nilFunc .nilFunc) w = .ok (.bool false) w := by kernel_rfl
theorem ne_fn (a : Nat) (w : World) : Sem.run Tryd.prog (binOp BinOp.neq 47 (.func (.func a) #[] #[]) .nilFunc) w = .ok (.bool true) w := by kernel_rfl
theorem fnv_pos {n : Nat} (h : n ≠ 0) : fnv n = .func (.func n) #[] #[] := by unfold fnv; rw [if_neg h]
theorem fnv_zero : fnv 0 = .nilFunc := rfl
set_option maxHeartbeats 1000000 in
set_option maxRecDepth 100000 in
theorem i_places0 (w : World) :
    Calls Tryd.prog 45 #[.agg #[.nilFunc, .nilFunc, .nilFunc]] w fun e w' => e = .returned (.int .i64 0) ∧ Below w.heap.size w w' := by
  have h1 := ne_nil
  have h2 := ne_fn
  go_enter Tryd.func45, Tryd.ntmps45
  go_wp2
  refine wp_loop_rounds 1 ?_
  rw [rounds_succ]
  go_wp2
  go_ret
  exact ⟨rfl, by (repeat (first | exact Below.refl _ _ | assumption | refine bl_alloc ?_ _ | refine bl_drewN ?_ _ | refine bl_drew ?_ | refine bl_grow ?_ _ _ | refine bl_set (Nat.le_refl _) ?_ _ | refine bl_call ?_ (by assumption)))⟩
set_option maxHeartbeats 1000000 in
set_option maxRecDepth 100000 in
theorem i_places1 (a : Nat) (w : World) :
    Calls Tryd.prog 45 #[.agg #[.func (.func a) #[] #[], .nilFunc, .nilFunc]] w fun e w' => e = .returned (.int .i64 1) ∧ Below w.heap.size w w' := by
  have h1 := ne_nil
  have h2 := ne_fn
  go_enter Tryd.func45, Tryd.ntmps45
  go_wp2
  refine wp_loop_rounds 2 ?_
  rw [rounds_succ]
  go_wp2
  rw [rounds_succ]
  go_wp2
  go_ret
  exact ⟨rfl, by (repeat (first | exact Below.refl _ _ | assumption | refine bl_alloc ?_ _ | refine bl_drewN ?_ _ | refine bl_drew ?_ | refine bl_grow ?_ _ _ | refine bl_set (Nat.le_refl _) ?_ _ | refine bl_call ?_ (by assumption)))⟩
set_option maxHeartbeats 1000000 in
set_option maxRecDepth 100000 in
theorem i_places2 (a b : Nat) (w : World) :
    Calls Tryd.prog 45 #[.agg #[.func (.func a) #[] #[], .func (.func b) #[] #[], .nilFunc]] w fun e w' => e = .returned (.int .i64 2) ∧ Below w.heap.size w w' := by
  have h1 := ne_nil
  have h2 := ne_fn
  go_enter Tryd.func45, Tryd.ntmps45
  go_wp2
  refine wp_loop_rounds 3 ?_
  rw [rounds_succ]
  go_wp2
  rw [rounds_succ]
  go_wp2
  rw [rounds_succ]
  go_wp2
  go_ret
  exact ⟨rfl, by (repeat (first | exact Below.refl _ _ | assumption | refine bl_alloc ?_ _ | refine bl_drewN ?_ _ | refine bl_drew ?_ | refine bl_grow ?_ _ _ | refine bl_set (Nat.le_refl _) ?_ _ | refine bl_call ?_ (by assumption)))⟩
set_option maxHeartbeats 1000000 in
set_option maxRecDepth 100000 in
theorem i_places3 (a b c : Nat) (w : World) :
    Calls Tryd.prog 45 #[.agg #[.func (.func a) #[] #[], .func (.func b) #[] #[], .func (.func c) #[] #[]]] w fun e w' => e = .returned (.int .i64 3) ∧ Below w.heap.size w w' := by
  have h1 := ne_nil
  have h2 := ne_fn
  go_enter Tryd.func45, Tryd.ntmps45
  go_wp2
  refine wp_loop_rounds 4 ?_
  rw [rounds_succ]
  go_wp2
  rw [rounds_succ]
  go_wp2
  rw [rounds_succ]
  go_wp2
  rw [rounds_succ]
  go_wp2
  go_ret
  exact ⟨rfl, by (repeat (first | exact Below.refl _ _ | assumption | refine bl_alloc ?_ _ | refine bl_drewN ?_ _ | refine bl_drew ?_ | refine bl_grow ?_ _ _ | refine bl_set (Nat.le_refl _) ?_ _ | refine bl_call ?_ (by assumption)))⟩
theorem i_places (l : List Nat) (w : World) (hl : l.length ≤ 3) (hn : ∀ x ∈ l, x ≠ 0) :
    Calls Tryd.prog 45 #[wayVal l] w fun e w' => e = .returned (.int .i64 l.length) ∧ Below w.heap.size w w' := by
  match l, hl, hn with
  | [], _, _ => exact i_places0 w
  | [a], _, hn => simp only [wayVal, List.getD, List.getElem?_cons_zero, List.getElem?_cons_succ, List.getElem?_nil, Option.getD, fnv_pos (hn a (by simp)), fnv_zero]; exact i_places1 a w
  | [a, b], _, hn => simp only [wayVal, List.getD, List.getElem?_cons_zero, List.getElem?_cons_succ, List.getElem?_nil, Option.getD, fnv_pos (hn a (by simp)), fnv_pos (hn b (by simp)), fnv_zero]; exact i_places2 a b w
  | [a, b, c], _, hn => simp only [wayVal, List.getD, List.getElem?_cons_zero, List.getElem?_cons_succ, Option.getD, fnv_pos (hn a (by simp)), fnv_pos (hn b (by simp)), fnv_pos (hn c (by simp))]; exact i_places3 a b c w
  | _ :: _ :: _ :: _ :: _, hl, _ => simp at hl
end Go.Proofs.YtnbdgpepancfnabDoor
