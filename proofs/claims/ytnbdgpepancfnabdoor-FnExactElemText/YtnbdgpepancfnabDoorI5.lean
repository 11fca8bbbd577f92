/- Contracts of the program's chapter 2: how texts are put together. -/
import Derived.Test.YtnbdgpepancfnabDoorI4b
import Derived.Test.YtnbdgpepancfnabDoorS2i
import Derived.Shelf.Abstract
import Derived.Lib.Join
namespace Go.Proofs.YtnbdgpepancfnabDoor
open Go.RowKit Go.Sort Go.BigFrame
/-- A slice of texts. -/
def StrsAt (w : World) (v : Value) (xs : List (List UInt8)) : Prop := ∃ b cap, v = .slice (some ⟨b, 0, none⟩) xs.length cap ∧ xs.length ≤ cap ∧ b < w.heap.size ∧ ∀ j x, xs[j]? = some x → w.cell? ⟨b, j, none⟩ = some (strV x)
theorem StrsAt.below {w w' : World} {v : Value} {xs : List (List UInt8)} (h : StrsAt w v xs) (hb : Below w.heap.size w w') : StrsAt w' v xs := by
  obtain ⟨b, cap, rfl, hc, hlt, hx⟩ := h
  exact ⟨b, cap, rfl, hc, Nat.lt_of_lt_of_le hlt hb.size, fun j x hj => by rw [(bcell hb).1 _ _ hlt]; exact hx j x hj⟩
theorem StrsAt.of_owns {w : World} {base : Nat} {v : Value} {xs : List (List UInt8)} (h : w.ownsRow base 9 1 v xs.length (xs.map strV)) (h0 : 0 < xs.length) : StrsAt w v xs := by
  obtain ⟨_, ⟨_, h1⟩ | ⟨g, cap, cur, rfl, _, hg, hn, _, _, hcur⟩⟩ := h
  · omega
  · refine ⟨g, cap, rfl, hn, (Array.getElem?_eq_some_iff.1 hg).1, fun j x hj => ?_⟩
    have hjl : j < xs.length := (List.getElem?_eq_some_iff.1 hj).1
    rw [cell_of_row _ _ j cur _ _ hg]
    have := congrArg (fun l => l[j]?) hcur
    simp only [Nat.mul_one, List.getElem?_take, hjl, if_true, List.getElem?_map, hj, Option.map_some] at this
    simpa using this
theorem i_join (sep : List UInt8) (v : Value) (xs : List (List UInt8)) (w : World) (hat : StrsAt w v xs) (hn : xs.length ≤ 1000) (hlen : (Lib.join xs sep).length ≤ 1000000) :
    Calls Tryd.prog 75 #[v, .string ⟨sep.toArray⟩] w fun e w' => e = .returned (.string ⟨(Lib.join xs sep).toArray⟩) ∧ Below w.heap.size w w' := by
  obtain ⟨b, cap, rfl, hc, hlt, hx⟩ := hat
  have e1 : ((xs.map fun x => (⟨x.toArray⟩ : ByteArray)).map (·.data.toList)) = xs := by rw [List.map_map]; exact (List.map_congr_left (fun _ _ => by simp)).trans (List.map_id xs)
  have h := Tryd.strings_Join b 0 cap (xs.map fun x => (⟨x.toArray⟩ : ByteArray)) ⟨sep.toArray⟩ w (fun j x hj => by
      rw [List.getElem?_map] at hj
      obtain ⟨y, hy, rfl⟩ := Option.map_eq_some_iff.1 hj
      rw [Nat.zero_add]; exact hx j y hy) hlt (by simp; omega) (by simpa using hc) (by rw [e1]; show (Lib.join xs sep).length ≤ _; omega)
  rw [e1, List.length_map] at h
  exact h
/-- A function that writes: what it makes of a word and texts. -/
def WriteFn (n : Nat) (f : List UInt8 → List (List UInt8) → List UInt8) : Prop := (∀ args w, (callFunc n args).run Tryd.prog w = .ok (.enter n args) w) ∧
  ∀ (word : List UInt8) (v : Value) (xs : List (List UInt8)) (w : World), StrsAt w v xs → word.length ≤ 100 → xs.length ≤ 3 → (∀ sep : List UInt8, sep.length ≤ 100 → (Lib.join xs sep).length ≤ 1000) →
    Calls Tryd.prog n #[.string ⟨word.toArray⟩, v] w fun e w' => e = .returned (.string ⟨(f word xs).toArray⟩) ∧ Below w.heap.size w w'
set_option maxHeartbeats 400000 in
set_option maxRecDepth 100000 in
theorem wf_ahead : WriteFn 57 (fun word xs => word ++ Lib.join xs [58]) := by
  refine ⟨enters_of Tryd.func57 (by kernel_rfl) rfl, fun word v xs w hat hw hx hj => ?_⟩
  have HA : Hid (∀ W, Below w.heap.size w W → StrsAt W v xs) := fun W h => hat.below h
  have hjj := hj [58] (by simp)
  obtain ⟨b, cap, rfl, hc, hlt, _⟩ := hat
  obtain ⟨t, ht⟩ : ∃ t, t = Lib.join xs [58] := ⟨_, rfl⟩
  have htl : t.length ≤ 1000 := by rw [ht]; exact hjj
  have HI : Hid (∀ W, Below w.heap.size w W → Calls Tryd.prog 75 #[.slice (some ⟨b, 0, none⟩) xs.length cap, .string ⟨#[58]⟩] W fun e w' => e = .returned (.string ⟨t.toArray⟩) ∧ Below W.heap.size W w') := by
    intro W h; rw [ht]; exact i_join [58] _ xs W (HA.out W h) (by omega) (by omega)
  dsimp only
  rw [← ht]
  clear ht hjj hj HA
  go_enter Tryd.func57, Tryd.ntmps57
  go_wp2_with (go_at_call 75; refine (HI.out _ (by (repeat (first | exact Below.refl _ _ | assumption | refine bl_alloc ?_ _ | refine bl_drewN ?_ _ | refine bl_drew ?_ | refine bl_grow ?_ _ _ | refine bl_set (Nat.le_refl _) ?_ _ | refine bl_call ?_ (by assumption))))).mono ?_; rintro e w1 ⟨rfl, hb⟩)
  go_ret
  exact ⟨ret_string (ba_app _ _), hb⟩
set_option maxHeartbeats 400000 in
set_option maxRecDepth 100000 in
theorem wf_between : WriteFn 60 (fun word xs => Lib.join xs word) := by
  refine ⟨enters_of Tryd.func60 (by kernel_rfl) rfl, fun word v xs w hat hw hx hj => ?_⟩
  have HA : Hid (∀ W, Below w.heap.size w W → StrsAt W v xs) := fun W h => hat.below h
  have hjj := hj word hw
  obtain ⟨b, cap, rfl, hc, hlt, _⟩ := hat
  obtain ⟨t, ht⟩ : ∃ t, t = Lib.join xs word := ⟨_, rfl⟩
  have htl : t.length ≤ 1000 := by rw [ht]; exact hjj
  have HI : Hid (∀ W, Below w.heap.size w W → Calls Tryd.prog 75 #[.slice (some ⟨b, 0, none⟩) xs.length cap, .string ⟨word.toArray⟩] W fun e w' => e = .returned (.string ⟨t.toArray⟩) ∧ Below W.heap.size W w') := by
    intro W h; rw [ht]; exact i_join word _ xs W (HA.out W h) (by omega) (by omega)
  dsimp only
  rw [← ht]
  clear ht hjj hj HA
  go_enter Tryd.func60, Tryd.ntmps60
  go_wp2_with (go_at_call 75; refine (HI.out _ (by (repeat (first | exact Below.refl _ _ | assumption | refine bl_alloc ?_ _ | refine bl_drewN ?_ _ | refine bl_drew ?_ | refine bl_grow ?_ _ _ | refine bl_set (Nat.le_refl _) ?_ _ | refine bl_call ?_ (by assumption))))).mono ?_; rintro e w1 ⟨rfl, hb⟩)
  go_ret
  exact ⟨rfl, hb⟩
set_option maxHeartbeats 400000 in
set_option maxRecDepth 100000 in
theorem wf_named : WriteFn 61 (fun word xs => word ++ 58 :: Lib.join xs [44]) := by
  refine ⟨enters_of Tryd.func61 (by kernel_rfl) rfl, fun word v xs w hat hw hx hj => ?_⟩
  have HA : Hid (∀ W, Below w.heap.size w W → StrsAt W v xs) := fun W h => hat.below h
  have hjj := hj [44] (by simp)
  obtain ⟨b, cap, rfl, hc, hlt, _⟩ := hat
  obtain ⟨t, ht⟩ : ∃ t, t = Lib.join xs [44] := ⟨_, rfl⟩
  have htl : t.length ≤ 1000 := by rw [ht]; exact hjj
  have HI : Hid (∀ W, Below w.heap.size w W → Calls Tryd.prog 75 #[.slice (some ⟨b, 0, none⟩) xs.length cap, .string ⟨#[44]⟩] W fun e w' => e = .returned (.string ⟨t.toArray⟩) ∧ Below W.heap.size W w') := by
    intro W h; rw [ht]; exact i_join [44] _ xs W (HA.out W h) (by omega) (by omega)
  dsimp only
  rw [← ht]
  clear ht hjj hj HA
  go_enter Tryd.func61, Tryd.ntmps61
  go_wp2_with (go_at_call 75; refine (HI.out _ (by (repeat (first | exact Below.refl _ _ | assumption | refine bl_alloc ?_ _ | refine bl_drewN ?_ _ | refine bl_drew ?_ | refine bl_grow ?_ _ _ | refine bl_set (Nat.le_refl _) ?_ _ | refine bl_call ?_ (by assumption))))).mono ?_; rintro e w1 ⟨rfl, hb⟩)
  go_ret
  exact ⟨ret_string (by rw [ba_app2, ba_app]; simp), hb⟩
end Go.Proofs.YtnbdgpepancfnabDoor
