/- T4, T5: texts put together. -/
import Derived.Test.YtipdjmbgbehkaaaGreatDoorGg
import Derived.Maps.AppendAt
import Derived.Test.YtipdjmbgbehkaaaGreatDoorGM
import Derived.Test.YtipdjmbgbehkaaaGreatDoorD9
/- Ladders in memory of their own: all their blocks of one kind. -/
namespace Go.Proofs.YtipdjmbgbehkaaaGreatDoor
open Go.RowKit Go.Sort Go.BigFrame
/-- Whatever lies in blocks of P in w lies so in w'. -/
def KeepsIn (P : Nat → Prop) (w w' : World) : Prop := w.heap.size ≤ w'.heap.size ∧ ∀ b o, P b → b < w.heap.size → w'.cell? ⟨b, o, none⟩ = w.cell? ⟨b, o, none⟩
theorem KeepsIn.trans {P : Nat → Prop} {a b c : World} (h1 : KeepsIn P a b) (h2 : KeepsIn P b c) : KeepsIn P a c :=
  ⟨Nat.le_trans h1.1 h2.1, fun x o hl hx => (h2.2 x o hl (Nat.lt_of_lt_of_le hx h1.1)).trans (h1.2 x o hl hx)⟩
theorem KeepsIn.of_below {P : Nat → Prop} {w w' : World} (h : Below w.heap.size w w') : KeepsIn P w w' := ⟨h.size, fun b o _ hb => h.cell (p := ⟨b, o, none⟩) hb⟩
theorem KeepsIn.of_grown {P : Nat → Prop} {w w' : World} {r : Option Nat} (h : w.grownBy w' r) (hr : ∀ b, P b → r ≠ some b) : KeepsIn P w w' := ⟨h.size, fun b o hb hl => by
  unfold World.cell?
  rw [h.block b hl (fun e => hr b hb e.symm)]⟩
theorem KeepsIn.set {P : Nat → Prop} {w : World} {b o : Nat} (hb : ¬ P b) (v : Value) : KeepsIn P w (w.setCell ⟨b, o, none⟩ v) := ⟨((Below.refl 0 w).setCell (Nat.zero_le _) v).size, fun x p hx _ => by
  have hne : ¬ x = b := fun e => hb (e ▸ hx)
  have hne2 : ¬ b = x := fun e => hb (e ▸ hx)
  simp [go_sem]⟩
/-- How a slice's room is told. -/
def CapOk (a : Option Addr) (n cap : Nat) : Prop := n ≤ cap ∧ (a = none → cap = 0)
def DevsIn (P : Nat → Prop) (w : World) (v : Value) (ds : List Stil.Dev) : Prop := ∃ a cap, v = .slice a ds.length cap ∧ CapOk a ds.length cap ∧ ∀ i (h : i < ds.length), ∃ b o, a = some ⟨b, o, none⟩ ∧ P b ∧ b < w.heap.size ∧ DevAt w b (o + i * 3) ds[i]
theorem DevAt.keepIn {P : Nat → Prop} {w w' : World} {b o : Nat} {d : Stil.Dev} (h : DevAt w b o d) (hk : KeepsIn P w w') (hl : P b) (hb : b < w.heap.size) : DevAt w' b o d := by
  obtain ⟨h1, h2, h3⟩ := h
  exact ⟨by rw [hk.2 _ _ hl hb]; exact h1, by rw [hk.2 _ _ hl hb]; exact h2, by rw [hk.2 _ _ hl hb]; exact h3⟩
theorem DevsIn.keep {P : Nat → Prop} {w w' : World} {v : Value} {ds : List Stil.Dev} (h : DevsIn P w v ds) (hk : KeepsIn P w w') : DevsIn P w' v ds := by
  obtain ⟨a, cap, hv, hq, hc⟩ := h
  refine ⟨a, cap, hv, hq, fun i hi => ?_⟩
  obtain ⟨b, o, ha, hl, hb, hd⟩ := hc i hi
  exact ⟨b, o, ha, hl, Nat.lt_of_lt_of_le hb hk.1, hd.keepIn hk hl hb⟩
theorem DevsIn.mono {P Q : Nat → Prop} {w : World} {v : Value} {ds : List Stil.Dev} (h : DevsIn Q w v ds) (hl : ∀ b, b < w.heap.size → Q b → P b) : DevsIn P w v ds := by
  obtain ⟨a, cap, hv, hq, hc⟩ := h
  refine ⟨a, cap, hv, hq, fun i hi => ?_⟩
  obtain ⟨b, o, ha, hl', hb, hd⟩ := hc i hi
  exact ⟨b, o, ha, hl _ hb hl', hb, hd⟩
theorem DevsIn.at {P : Nat → Prop} {w : World} {v : Value} {ds : List Stil.Dev} (h : DevsIn P w v ds) : DevsAt w v ds := by
  obtain ⟨a, cap, hv, hq, hc⟩ := h
  refine ⟨a, cap, hv, fun i hi => ?_⟩
  obtain ⟨b, o, ha, hl', hb, hd⟩ := hc i hi
  exact ⟨b, o, ha, hb, hd⟩
end Go.Proofs.YtipdjmbgbehkaaaGreatDoor
/- Rows of contacts, nets and arms: what a list's cells hold. -/
namespace Go.Proofs.YtipdjmbgbehkaaaGreatDoor
open Go.RowKit Go.Sort Go.BigFrame
/-- Cells of things of one size, one behind the other. -/
def RowOf {α : Type} (s : Nat) (R : List Value → α → Prop) (xs : List Value) (us : List α) : Prop := xs.length = us.length * s ∧ ∀ i (h : i < us.length), R ((xs.drop (i * s)).take s) us[i]
theorem RowOf.nil {α : Type} (s : Nat) (R : List Value → α → Prop) : RowOf s R [] [] := ⟨by simp, fun i h => by simp at h⟩
theorem RowOf.imp {α : Type} {s : Nat} {R Q : List Value → α → Prop} {xs : List Value} {us : List α} (h : RowOf s R xs us) (hq : ∀ cs a, a ∈ us → R cs a → Q cs a) : RowOf s Q xs us :=
  ⟨h.1, fun i hi => hq _ _ (List.getElem_mem hi) (h.2 i hi)⟩
theorem RowOf.append {α : Type} {s : Nat} {R : List Value → α → Prop} {xs ys : List Value} {us bs : List α} (h : RowOf s R xs us) (k : RowOf s R ys bs) : RowOf s R (xs ++ ys) (us ++ bs) := by
  have h1 := h.1
  have k1 := k.1
  refine ⟨by simp [h1, k1, Nat.add_mul], fun i hi => ?_⟩
  by_cases hl : i < us.length
  · have hle : i * s + s ≤ us.length * s := by rw [← Nat.succ_mul]; exact Nat.mul_le_mul_right s hl
    rw [List.getElem_append_left hl, List.drop_append_of_le_length (by omega), List.take_append_of_le_length (by simp; omega)]
    exact h.2 i hl
  · have hi2 : i - us.length < bs.length := by simp at hi; omega
    have e : i * s = xs.length + (i - us.length) * s := by rw [h1, ← Nat.add_mul]; congr 1; omega
    rw [List.getElem_append_right (by omega), e, List.drop_append]
    simp only [Nat.le_add_right, List.drop_eq_nil_of_le, List.nil_append, Nat.add_sub_cancel_left]
    exact k.2 _ hi2
theorem RowOf.one {α : Type} {s : Nat} {R : List Value → α → Prop} {cs : List Value} {a : α} (hl : cs.length = s) (h : R cs a) : RowOf s R cs [a] :=
  ⟨by simp [hl], fun i hi => by
    have : i = 0 := by simp at hi; omega
    subst this
    simpa [← hl] using h⟩
theorem RowOf.set {α : Type} {s : Nat} {R : List Value → α → Prop} {xs ys : List Value} {us : List α} {k : Nat} {a : α} (h : RowOf s R xs us) (hk : k < us.length) (hl : ys.length = xs.length) (ha : R ((ys.drop (k * s)).take s) a)
    (ho : ∀ j, j < k * s ∨ k * s + s ≤ j → ys[j]? = xs[j]?) : RowOf s R ys (us.set k a) := by
  refine ⟨by simp [hl, h.1], fun i hi => ?_⟩
  by_cases e : i = k
  · subst e
    rw [List.getElem_set_self]
    exact ha
  · rw [List.getElem_set_ne (fun x => e x.symm)]
    have hi2 : i < us.length := by simpa using hi
    have h2 := h.2 i hi2
    have : (ys.drop (i * s)).take s = (xs.drop (i * s)).take s := by
      apply List.ext_getElem?
      intro j
      simp only [List.getElem?_take, List.getElem?_drop]
      by_cases hj : j < s
      · rw [if_pos hj, if_pos hj]
        apply ho
        rcases Nat.lt_or_gt_of_ne e with h3 | h3
        · left
          have : i * s + s ≤ k * s := by rw [← Nat.succ_mul]; exact Nat.mul_le_mul_right s h3
          omega
        · right
          have : k * s + s ≤ i * s := by rw [← Nat.succ_mul]; exact Nat.mul_le_mul_right s h3
          omega
      · rw [if_neg hj, if_neg hj]
    rw [this]
    exact h2
/-- What an own row's cells are, and how its room is told. -/
theorem own_open {w : World} {base s n : Nat} {e : TypeId} {v : Value} {xs : List Value} (h : w.ownsRow base e s v n xs) : ∃ a cap, v = .slice a n cap ∧ CapOk a n cap ∧ (∀ b o sp, a = some ⟨b, o, sp⟩ → o = 0 ∧ sp = none ∧ v.ownBlock = some b ∧ base ≤ b ∧ b < w.heap.size ∧ ∀ j u, xs[j]? = some u → w.cell? ⟨b, j, none⟩ = some u) ∧ (0 < n → a ≠ none) := by
  rcases h.2 with ⟨h0, h1⟩ | ⟨g, cap, cur, hv, hb, hh, hc, hr⟩
  · have hn : n = 0 := h1
    subst hn
    exact ⟨none, 0, h0, ⟨Nat.le_refl _, fun _ => rfl⟩, fun b o sp he => (by cases he), fun hp => absurd hp (by omega)⟩
  · refine ⟨_, cap, hv, ⟨hc, fun he => (by cases he)⟩, fun b o sp he => ?_, fun _ he => (by cases he)⟩
    simp only [Option.some.injEq, Addr.mk.injEq] at he
    obtain ⟨rfl, rfl, rfl⟩ := he
    have hob : v.ownBlock = some g := by rw [hv]; rfl
    refine ⟨rfl, rfl, hob, hb, (h.lt g hob).2, fun j u hj => ?_⟩
    have hj' : j < xs.length := (List.getElem?_eq_some_iff.1 hj).1
    subst hv
    have := h.cellAt j (by have := h.1; omega)
    rw [this]
    exact hj
theorem row_at {α : Type} {s : Nat} {R : List Value → α → Prop} {xs : List Value} {us : List α} (_h : RowOf s R xs us) {i : Nat} (_hi : i < us.length) {cs : List Value} (hc : (xs.drop (i * s)).take s = cs) : ∀ j u, cs[j]? = some u → xs[i * s + j]? = some u := by
  intro j u hj
  rw [← hc] at hj
  simp only [List.getElem?_take, List.getElem?_drop] at hj
  split at hj
  · exact hj
  · cases hj
theorem row_build {α : Type} {s : Nat} {R : List Value → α → Prop} {us : List α} (f : Nat → Value) (h : ∀ i (hi : i < us.length), R ((List.range s).map fun j => f (i * s + j)) us[i]) : RowOf s R ((List.range (us.length * s)).map f) us := by
  refine ⟨by simp, fun i hi => ?_⟩
  have e : (((List.range (us.length * s)).map f).drop (i * s)).take s = (List.range s).map fun j => f (i * s + j) := by
    have hle : i * s + s ≤ us.length * s := by rw [← Nat.succ_mul]; exact Nat.mul_le_mul_right s hi
    apply List.ext_getElem?
    intro j
    simp only [List.getElem?_take, List.getElem?_drop, List.getElem?_map]
    by_cases hj : j < s
    · rw [if_pos hj, List.getElem?_range (by omega), List.getElem?_range hj]; rfl
    · rw [if_neg hj, List.getElem?_eq_none (by simp; omega)]; rfl
  rw [e]
  exact h i hi
/-- A list in memory is a row of cells. -/
def RowIn {α : Type} (s : Nat) (R : List Value → α → Prop) (w : World) (v : Value) (us : List α) : Prop := ∃ a cap, v = .slice a us.length cap ∧ CapOk a us.length cap ∧ ∃ xs, RowOf s R xs us ∧ ∀ ad, a = some ad → ∀ j u, xs[j]? = some u → w.cell? (ad.add j) = some u
theorem rowIn_mk {α : Type} {s : Nat} {R : List Value → α → Prop} {w : World} {a : Option Addr} {cap : Nat} {us : List α} (hs : 0 < s) (hq : CapOk a us.length cap) (h : ∀ i (hi : i < us.length), ∃ b o, a = some ⟨b, o, none⟩ ∧ ∃ cs : List Value, cs.length = s ∧ R cs us[i] ∧ ∀ j u, cs[j]? = some u → w.cell? ⟨b, o + i * s + j, none⟩ = some u) : RowIn s R w (.slice a us.length cap) us := by
  refine ⟨a, cap, rfl, hq, ?_⟩
  by_cases hn : us = []
  · subst hn
    exact ⟨[], RowOf.nil _ _, fun ad _ j u hj => by simp at hj⟩
  · obtain ⟨b, o, rfl, _⟩ := h 0 (by cases us with | nil => exact absurd rfl hn | cons _ _ => simp)
    have hc : ∀ i (hi : i < us.length), ∃ cs : List Value, cs.length = s ∧ R cs us[i] ∧ ∀ j u, cs[j]? = some u → w.cell? ⟨b, o + i * s + j, none⟩ = some u := by
      intro i hi
      obtain ⟨b', o', e, h'⟩ := h i hi
      simp only [Option.some.injEq, Addr.mk.injEq, and_true] at e
      obtain ⟨rfl, rfl⟩ := e
      exact h'
    refine ⟨_, row_build (fun j => (w.cell? ⟨b, o + j, none⟩).getD (.int .i64 0)) (fun i hi => ?_), fun ad he j u hj => ?_⟩
    · obtain ⟨cs, h1, h2, h3⟩ := hc i hi
      have e : ((List.range s).map fun j => (w.cell? ⟨b, o + (i * s + j), none⟩).getD (.int .i64 0)) = cs := by
        apply List.ext_getElem?
        intro j
        by_cases hj : j < s
        · rw [List.getElem?_map, List.getElem?_range hj, List.getElem?_eq_getElem (by omega)]
          simp only [Option.map_some, Option.some.injEq]
          rw [← Nat.add_assoc, h3 j cs[j] (List.getElem?_eq_getElem (by omega))]; rfl
        · rw [List.getElem?_eq_none (by simp; omega), List.getElem?_eq_none (by omega)]
      rw [e]
      exact h2
    · cases he
      rw [List.getElem?_map] at hj
      have hjl : j < us.length * s := by
        apply Classical.byContradiction
        intro hx
        rw [List.getElem?_eq_none (by simp; omega)] at hj
        cases hj
      rw [List.getElem?_range hjl] at hj
      simp only [Option.map_some, Option.some.injEq] at hj
      have hi : j / s < us.length := Nat.div_lt_of_lt_mul (by rw [Nat.mul_comm]; exact hjl)
      obtain ⟨cs, h1, h2, h3⟩ := hc (j / s) hi
      have hm : j % s < cs.length := by rw [h1]; exact Nat.mod_lt _ hs
      have := h3 (j % s) cs[j % s] (List.getElem?_eq_getElem hm)
      have e : o + j / s * s + j % s = o + j := by have := Nat.div_add_mod j s; rw [Nat.mul_comm] at this; omega
      rw [e] at this
      rw [this] at hj
      rw [Addr.add_lit, this, ← hj]; rfl
/-- Blocks beyond B, but for the one that a list of its own holds. -/
def Off (B : Nat) (v : Value) (b : Nat) : Prop := B < b ∧ v.ownBlock ≠ some b
theorem off_keep {B : Nat} {v : Value} {w w' : World} (h : w.grownBy w' v.ownBlock) : KeepsIn (Off B v) w w' := KeepsIn.of_grown h fun _ hb => hb.2
theorem off_mono {B : Nat} {v v' : Value} {w : World} (h : v'.ownBlock = v.ownBlock ∨ v'.ownBlock = some w.heap.size) : ∀ b, b < w.heap.size → Off B v b → Off B v' b := by
  intro b hb h1
  refine ⟨h1.1, ?_⟩
  rcases h with h | h
  · rw [h]; exact h1.2
  · rw [h]
    intro e
    simp only [Option.some.injEq] at e
    omega
theorem keep_mono {P Q : Nat → Prop} {w w' : World} (h : KeepsIn Q w w') (hl : ∀ b, b < w.heap.size → P b → Q b) : KeepsIn P w w' := ⟨h.1, fun b o hb hlt => h.2 b o (hl b hlt hb) hlt⟩
theorem devs_of_el {w : World} {g : Nat} {v : Value} {ds : List Stil.Dev} (h : ElArgs w g v ds) : DevsIn (fun b => g < b) w v ds := h
theorem devs_nil (P : Nat → Prop) (w : World) : DevsIn P w (.slice none 0 0) [] := ⟨none, 0, rfl, ⟨Nat.le_refl _, fun _ => rfl⟩, fun i hi => by simp at hi⟩
/-- Small numbers, short lists. -/
def ETame (e : Stil.Elem) : Prop := (-1000000 ≤ e.op ∧ e.op ≤ 1000000) ∧ (∀ d ∈ e.args, Small d) ∧ e.args.length ≤ 100000
theorem ETame.wf {e : Stil.Elem} (h : ETame e) : e.wf := ⟨⟨by have := h.1.1; omega, by have := h.1.2; omega⟩, by have := h.2.2; omega, fun d hd => (h.2.1 d hd).fits⟩
end Go.Proofs.YtipdjmbgbehkaaaGreatDoor
