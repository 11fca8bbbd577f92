/- Contracts of the program's chapter 2: kinds of operands. -/
import Derived.Test.YtnbdgpepancfnabDoorI1b
namespace Go.Proofs.YtnbdgpepancfnabDoor
open Go.RowKit Go.Sort Go.BigFrame
/-- Integers in memory. -/
def IntsAt (w : World) (b o : Nat) (l : List Int) : Prop := ∀ i (h : i < l.length), w.cell? ⟨b, o + i, none⟩ = some (.int .i64 l[i])
set_option maxHeartbeats 400000 in
set_option maxRecDepth 100000 in
theorem i_slIndex (b cap : Nat) (l : List Int) (v : Int) (w : World) (hat : IntsAt w b 0 l) (hl : l.length ≤ 1000) :
    Calls Tryd.prog 93 #[.slice (some ⟨b, 0, none⟩) l.length cap, .int .i64 v] w fun e w' => (∃ r, e = .returned (.int .i64 r) ∧ (0 ≤ r ↔ v ∈ l)) ∧ w' = w := by
  have HA : Hid (IntsAt w b 0 l) := hat
  clear hat
  go_enter Tryd.func93, Tryd.ntmps93
  go_wp2
  go_loop [8] (fun i => ∃ k : Nat, k ≤ l.length ∧ i = .int .i64 k ∧ v ∉ l.take k) (fun i => l.length - (intOf i).toNat)
  case atStart => exact ⟨0, by omega, rfl, by simp⟩
  case round =>
    obtain ⟨k, hk, rfl, hno⟩ := hrel
    have HN : Hid (v ∉ l.take k) := hno
    clear hno
    by_cases hlt : k < l.length
    · have hc := HA.out k hlt
      rw [Nat.zero_add] at hc
      by_cases hx : v = l[k]
      · have hxb : (v == l[k]) = true := by simpa using hx
        have HM : Hid (v ∈ l) := by show _ ∈ _; rw [hx]; exact List.getElem_mem hlt
        clear hx
        go_wp2
        go_ret
        exact ⟨⟨k, rfl, fun _ => HM.out, fun _ => by omega⟩, rfl⟩
      · have hxb : (v == l[k]) = false := by simpa using hx
        have HM : Hid (v ∉ l.take (k + 1)) := by
          show _ ∉ _; rw [List.take_succ_eq_append_getElem hlt, List.mem_append]; rintro (h | h)
          · exact HN.out h
          · exact hx (by simpa using h)
        clear hx
        go_wp2
        exact ⟨⟨k + 1, by omega, by go_num, HM.out⟩, by simp [intOf]; omega⟩
    · have HM : Hid (v ∉ l) := by
        show _ ∉ _
        have := HN.out
        rwa [List.take_of_length_le (by omega)] at this
      go_wp2
      go_ret
      exact ⟨⟨-1, rfl, fun h => by omega, fun h => absurd h HM.out⟩, rfl⟩
set_option maxHeartbeats 400000 in
set_option maxRecDepth 100000 in
theorem i_slContains (b cap : Nat) (l : List Int) (v : Int) (w : World) (hat : IntsAt w b 0 l) (hl : l.length ≤ 1000) :
    Calls Tryd.prog 85 #[.slice (some ⟨b, 0, none⟩) l.length cap, .int .i64 v] w fun e w' => e = .returned (.bool (decide (v ∈ l))) ∧ w' = w := by
  have HA : Hid (IntsAt w b 0 l) := hat
  clear hat
  go_enter Tryd.func85, Tryd.ntmps85
  go_wp2_with (go_at_call 93; refine (i_slIndex b cap l v _ HA.out hl).mono ?_; rintro e w1 ⟨⟨r, rfl, hr⟩, rfl⟩)
  go_ret
  exact ⟨ret_bool (by first | rfl | exact decide_eq_decide.2 hr), rfl⟩
set_option maxHeartbeats 400000 in
set_option maxRecDepth 100000 in
theorem i_among (d : Stil.Dev) (b cap : Nat) (l : List Int) (w : World) (hr : RowsAt w) (hat : IntsAt w b 0 l) (hb : b < w.heap.size) (hl : l.length ≤ 1000) (hn1 : -9223372036854775808 ≤ d.n) (hn2 : d.n ≤ 9223372036854775807) :
    Calls Tryd.prog 74 #[.agg #[.int .i64 d.kind, .int .i64 d.n, .int .i64 d.p], .slice (some ⟨b, 0, none⟩) l.length cap] w fun e w' => e = .returned (.bool (d.ok && decide (d.kind ∈ l))) ∧ Below w.heap.size w w' := by
  have HR : Hid (∀ W, Below w.heap.size w W → RowsAt W) := fun W h => hr.below h
  have HA : Hid (∀ W, Below w.heap.size w W → IntsAt W b 0 l) := fun W h i hi => by rw [(bcell h).1 _ _ hb]; exact hat i hi
  clear hr hat
  cases h : d.ok
  all_goals
    go_enter Tryd.func74, Tryd.ntmps74
    go_wp2_with (first | (go_at_call 39; refine (i_devOk _ _ _ _ (HR.out _ (by (repeat (first | exact Below.refl _ _ | assumption | refine bl_alloc ?_ _ | refine bl_drewN ?_ _ | refine bl_drew ?_ | refine bl_grow ?_ _ _ | refine bl_set (Nat.le_refl _) ?_ _ | refine bl_call ?_ (by assumption))))) hn1 hn2).mono ?_; rw [show Stil.devOkB d.kind d.n d.p = _ from h]; rintro e w1 ⟨rfl, hb1⟩; obtain ⟨hc, hf⟩ := bcell hb1) | (go_at_call 85; refine (i_slContains b cap l _ _ (HA.out _ (by (repeat (first | exact Below.refl _ _ | assumption | refine bl_alloc ?_ _ | refine bl_drewN ?_ _ | refine bl_drew ?_ | refine bl_grow ?_ _ _ | refine bl_set (Nat.le_refl _) ?_ _ | refine bl_call ?_ (by assumption))))) hl).mono ?_; rintro e w2 ⟨rfl, rfl⟩))
    all_goals go_ret
    all_goals exact ⟨rfl, by (repeat (first | exact Below.refl _ _ | assumption | refine bl_alloc ?_ _ | refine bl_drewN ?_ _ | refine bl_drew ?_ | refine bl_grow ?_ _ _ | refine bl_set (Nat.le_refl _) ?_ _ | refine bl_call ?_ (by assumption)))⟩
end Go.Proofs.YtnbdgpepancfnabDoor
