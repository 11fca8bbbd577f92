/- The ways of the table, in plain words: what each place asks. -/
import Derived.Test.YtnbdgpepancfnabDoorI3e
import Derived.Test.YtnbdgpepancfnabDoorI2b
import Derived.Test.YtnbdgpepancfnabDoorM2c
namespace Go.Proofs.YtnbdgpepancfnabDoor
open Go.RowKit Go.Sort Go.BigFrame
def pl (l : List Int) (d : Stil.Dev) : Bool := d.ok && decide (d.kind ∈ l)
def plPreset (d : Stil.Dev) : Bool := d.ok && decide (d.kind ∈ ([11] : List Int)) && decide (0 ≤ d.n)
theorem pf_E : PlaceFn 59 (pl [5]) := ⟨enters_of Tryd.func59 (by kernel_rfl) rfl, fun d w hr hf => i_isE d w hr hf.2.1.1 hf.2.1.2⟩
theorem pf_S : PlaceFn 65 (pl [4]) := ⟨enters_of Tryd.func65 (by kernel_rfl) rfl, fun d w hr hf => i_isS d w hr hf.2.1.1 hf.2.1.2⟩
theorem pf_T : PlaceFn 53 (pl [7]) := ⟨enters_of Tryd.func53 (by kernel_rfl) rfl, fun d w hr hf => i_isT d w hr hf.2.1.1 hf.2.1.2⟩
theorem pf_C : PlaceFn 66 (pl [8]) := ⟨enters_of Tryd.func66 (by kernel_rfl) rfl, fun d w hr hf => i_isC d w hr hf.2.1.1 hf.2.1.2⟩
theorem pf_D : PlaceFn 55 (pl [9]) := ⟨enters_of Tryd.func55 (by kernel_rfl) rfl, fun d w hr hf => i_isD d w hr hf.2.1.1 hf.2.1.2⟩
theorem pf_R : PlaceFn 56 (pl [10]) := ⟨enters_of Tryd.func56 (by kernel_rfl) rfl, fun d w hr hf => i_isR d w hr hf.2.1.1 hf.2.1.2⟩
theorem pf_YM : PlaceFn 62 (pl [2, 3]) := ⟨enters_of Tryd.func62 (by kernel_rfl) rfl, fun d w hr hf => i_isYM d w hr hf.2.1.1 hf.2.1.2⟩
theorem pf_YMS : PlaceFn 63 (pl [2, 3, 4]) := ⟨enters_of Tryd.func63 (by kernel_rfl) rfl, fun d w hr hf => i_isYMS d w hr hf.2.1.1 hf.2.1.2⟩
theorem pf_YMSTC : PlaceFn 64 (pl [2, 3, 4, 7, 8]) := ⟨enters_of Tryd.func64 (by kernel_rfl) rfl, fun d w hr hf => i_isYMSTC d w hr hf.2.1.1 hf.2.1.2⟩
theorem pf_Preset : PlaceFn 54 plPreset := ⟨enters_of Tryd.func54 (by kernel_rfl) rfl, fun d w hr hf => i_isPreset d w hr hf.2.1.1 hf.2.1.2⟩
theorem pf_Bit : PlaceFn 58 Stil.Dev.isBit := ⟨enters_of Tryd.func58 (by kernel_rfl) rfl, fun d w hr hf => i_devIsBit d.kind d.n d.p w hr hf.2.1.1 hf.2.1.2⟩
theorem pf_Whole : PlaceFn 51 Stil.Dev.isWhole := ⟨enters_of Tryd.func51 (by kernel_rfl) rfl, fun d w hr hf => i_devIsWhole d.kind d.n d.p w hr hf.2.1.1 hf.2.1.2⟩
theorem pf_Real : PlaceFn 52 Stil.Dev.isReal := ⟨enters_of Tryd.func52 (by kernel_rfl) rfl, fun d w hr hf => i_devIsReal d.kind d.n d.p w hr hf.2.1.1 hf.2.1.2⟩
theorem way0 : WayFn [] [] := ⟨rfl, by simp, fun i h => absurd h (by simp)⟩
theorem way1 {a : Nat} {p : Stil.Dev → Bool} (ha : a ≠ 0) (h : PlaceFn a p) : WayFn [a] [p] := ⟨rfl, by simp, fun i h1 h2 => by
  have : i = 0 := by simp at h1; omega
  subst this; exact ⟨ha, h⟩⟩
theorem way2 {a b : Nat} {p q : Stil.Dev → Bool} (ha : a ≠ 0) (h : PlaceFn a p) (hb : b ≠ 0) (k : PlaceFn b q) : WayFn [a, b] [p, q] := ⟨rfl, by simp, fun i h1 h2 => by
  have : i = 0 ∨ i = 1 := by simp at h1; omega
  rcases this with rfl | rfl
  · exact ⟨ha, h⟩
  · exact ⟨hb, k⟩⟩
theorem way3 {a b c : Nat} {p q r : Stil.Dev → Bool} (ha : a ≠ 0) (h : PlaceFn a p) (hb : b ≠ 0) (k : PlaceFn b q) (hc : c ≠ 0) (m : PlaceFn c r) : WayFn [a, b, c] [p, q, r] := ⟨rfl, by simp, fun i h1 h2 => by
  have : i = 0 ∨ i = 1 ∨ i = 2 := by simp at h1; omega
  rcases this with rfl | rfl | rfl
  · exact ⟨ha, h⟩
  · exact ⟨hb, k⟩
  · exact ⟨hc, m⟩⟩
/-- What the two ways of an Op ask. -/
def opWays (op : Int) : List (Stil.Dev → Bool) × List (Stil.Dev → Bool) :=
  if op = 1 then ([Stil.Dev.isBit], []) else
  if op = 2 then ([Stil.Dev.isBit], []) else
  if op = 3 then ([Stil.Dev.isBit, pl [5]], []) else
  if op = 4 then ([Stil.Dev.isBit, pl [5]], []) else
  if op = 5 then ([Stil.Dev.isWhole, Stil.Dev.isWhole], [Stil.Dev.isReal, Stil.Dev.isReal]) else
  if op = 6 then ([Stil.Dev.isWhole, Stil.Dev.isWhole], [Stil.Dev.isReal, Stil.Dev.isReal]) else
  if op = 7 then ([Stil.Dev.isWhole, Stil.Dev.isWhole], [Stil.Dev.isReal, Stil.Dev.isReal]) else
  if op = 8 then ([Stil.Dev.isWhole, Stil.Dev.isWhole], [Stil.Dev.isReal, Stil.Dev.isReal]) else
  if op = 9 then ([Stil.Dev.isWhole, Stil.Dev.isWhole], [Stil.Dev.isReal, Stil.Dev.isReal]) else
  if op = 10 then ([Stil.Dev.isWhole, Stil.Dev.isWhole], [Stil.Dev.isReal, Stil.Dev.isReal]) else
  if op = 21 then ([pl [2, 3]], []) else
  if op = 22 then ([pl [2, 3, 4]], []) else
  if op = 23 then ([pl [2, 3, 4, 7, 8]], []) else
  if op = 24 then ([pl [2, 3], pl [5]], []) else
  if op = 25 then ([pl [4]], []) else
  if op = 26 then ([pl [7], plPreset], []) else
  if op = 27 then ([pl [7], plPreset], []) else
  if op = 28 then ([pl [7], plPreset], []) else
  if op = 29 then ([pl [8], plPreset], []) else
  if op = 30 then ([pl [9], Stil.Dev.isWhole], [pl [10], Stil.Dev.isReal]) else
  if op = 31 then ([pl [9], Stil.Dev.isWhole, Stil.Dev.isWhole], [pl [10], Stil.Dev.isReal, Stil.Dev.isReal]) else
  if op = 32 then ([pl [9], Stil.Dev.isWhole, Stil.Dev.isWhole], [pl [10], Stil.Dev.isReal, Stil.Dev.isReal]) else
  if op = 33 then ([pl [9], Stil.Dev.isWhole, Stil.Dev.isWhole], [pl [10], Stil.Dev.isReal, Stil.Dev.isReal]) else
  if op = 34 then ([pl [9], Stil.Dev.isWhole, Stil.Dev.isWhole], [pl [10], Stil.Dev.isReal, Stil.Dev.isReal]) else
  if op = 35 then ([pl [9], Stil.Dev.isWhole, Stil.Dev.isWhole], []) else
  if op = 36 then ([pl [10], Stil.Dev.isWhole], []) else
  if op = 37 then ([pl [9], Stil.Dev.isReal], []) else
  ([], [])
theorem ways_1 : WayFn (rowOf 1).2.2.1 (opWays 1).1 ∧ WayFn (rowOf 1).2.2.2 (opWays 1).2 := ⟨way1 (by decide) pf_Bit, way0⟩
theorem ways_2 : WayFn (rowOf 2).2.2.1 (opWays 2).1 ∧ WayFn (rowOf 2).2.2.2 (opWays 2).2 := ⟨way1 (by decide) pf_Bit, way0⟩
theorem ways_3 : WayFn (rowOf 3).2.2.1 (opWays 3).1 ∧ WayFn (rowOf 3).2.2.2 (opWays 3).2 := ⟨way2 (by decide) pf_Bit (by decide) pf_E, way0⟩
theorem ways_4 : WayFn (rowOf 4).2.2.1 (opWays 4).1 ∧ WayFn (rowOf 4).2.2.2 (opWays 4).2 := ⟨way2 (by decide) pf_Bit (by decide) pf_E, way0⟩
theorem ways_5 : WayFn (rowOf 5).2.2.1 (opWays 5).1 ∧ WayFn (rowOf 5).2.2.2 (opWays 5).2 := ⟨way2 (by decide) pf_Whole (by decide) pf_Whole, way2 (by decide) pf_Real (by decide) pf_Real⟩
theorem ways_6 : WayFn (rowOf 6).2.2.1 (opWays 6).1 ∧ WayFn (rowOf 6).2.2.2 (opWays 6).2 := ⟨way2 (by decide) pf_Whole (by decide) pf_Whole, way2 (by decide) pf_Real (by decide) pf_Real⟩
theorem ways_7 : WayFn (rowOf 7).2.2.1 (opWays 7).1 ∧ WayFn (rowOf 7).2.2.2 (opWays 7).2 := ⟨way2 (by decide) pf_Whole (by decide) pf_Whole, way2 (by decide) pf_Real (by decide) pf_Real⟩
theorem ways_8 : WayFn (rowOf 8).2.2.1 (opWays 8).1 ∧ WayFn (rowOf 8).2.2.2 (opWays 8).2 := ⟨way2 (by decide) pf_Whole (by decide) pf_Whole, way2 (by decide) pf_Real (by decide) pf_Real⟩
theorem ways_9 : WayFn (rowOf 9).2.2.1 (opWays 9).1 ∧ WayFn (rowOf 9).2.2.2 (opWays 9).2 := ⟨way2 (by decide) pf_Whole (by decide) pf_Whole, way2 (by decide) pf_Real (by decide) pf_Real⟩
theorem ways_10 : WayFn (rowOf 10).2.2.1 (opWays 10).1 ∧ WayFn (rowOf 10).2.2.2 (opWays 10).2 := ⟨way2 (by decide) pf_Whole (by decide) pf_Whole, way2 (by decide) pf_Real (by decide) pf_Real⟩
theorem ways_21 : WayFn (rowOf 21).2.2.1 (opWays 21).1 ∧ WayFn (rowOf 21).2.2.2 (opWays 21).2 := ⟨way1 (by decide) pf_YM, way0⟩
theorem ways_22 : WayFn (rowOf 22).2.2.1 (opWays 22).1 ∧ WayFn (rowOf 22).2.2.2 (opWays 22).2 := ⟨way1 (by decide) pf_YMS, way0⟩
theorem ways_23 : WayFn (rowOf 23).2.2.1 (opWays 23).1 ∧ WayFn (rowOf 23).2.2.2 (opWays 23).2 := ⟨way1 (by decide) pf_YMSTC, way0⟩
theorem ways_24 : WayFn (rowOf 24).2.2.1 (opWays 24).1 ∧ WayFn (rowOf 24).2.2.2 (opWays 24).2 := ⟨way2 (by decide) pf_YM (by decide) pf_E, way0⟩
theorem ways_25 : WayFn (rowOf 25).2.2.1 (opWays 25).1 ∧ WayFn (rowOf 25).2.2.2 (opWays 25).2 := ⟨way1 (by decide) pf_S, way0⟩
theorem ways_26 : WayFn (rowOf 26).2.2.1 (opWays 26).1 ∧ WayFn (rowOf 26).2.2.2 (opWays 26).2 := ⟨way2 (by decide) pf_T (by decide) pf_Preset, way0⟩
theorem ways_27 : WayFn (rowOf 27).2.2.1 (opWays 27).1 ∧ WayFn (rowOf 27).2.2.2 (opWays 27).2 := ⟨way2 (by decide) pf_T (by decide) pf_Preset, way0⟩
theorem ways_28 : WayFn (rowOf 28).2.2.1 (opWays 28).1 ∧ WayFn (rowOf 28).2.2.2 (opWays 28).2 := ⟨way2 (by decide) pf_T (by decide) pf_Preset, way0⟩
theorem ways_29 : WayFn (rowOf 29).2.2.1 (opWays 29).1 ∧ WayFn (rowOf 29).2.2.2 (opWays 29).2 := ⟨way2 (by decide) pf_C (by decide) pf_Preset, way0⟩
theorem ways_30 : WayFn (rowOf 30).2.2.1 (opWays 30).1 ∧ WayFn (rowOf 30).2.2.2 (opWays 30).2 := ⟨way2 (by decide) pf_D (by decide) pf_Whole, way2 (by decide) pf_R (by decide) pf_Real⟩
theorem ways_31 : WayFn (rowOf 31).2.2.1 (opWays 31).1 ∧ WayFn (rowOf 31).2.2.2 (opWays 31).2 := ⟨way3 (by decide) pf_D (by decide) pf_Whole (by decide) pf_Whole, way3 (by decide) pf_R (by decide) pf_Real (by decide) pf_Real⟩
theorem ways_32 : WayFn (rowOf 32).2.2.1 (opWays 32).1 ∧ WayFn (rowOf 32).2.2.2 (opWays 32).2 := ⟨way3 (by decide) pf_D (by decide) pf_Whole (by decide) pf_Whole, way3 (by decide) pf_R (by decide) pf_Real (by decide) pf_Real⟩
theorem ways_33 : WayFn (rowOf 33).2.2.1 (opWays 33).1 ∧ WayFn (rowOf 33).2.2.2 (opWays 33).2 := ⟨way3 (by decide) pf_D (by decide) pf_Whole (by decide) pf_Whole, way3 (by decide) pf_R (by decide) pf_Real (by decide) pf_Real⟩
theorem ways_34 : WayFn (rowOf 34).2.2.1 (opWays 34).1 ∧ WayFn (rowOf 34).2.2.2 (opWays 34).2 := ⟨way3 (by decide) pf_D (by decide) pf_Whole (by decide) pf_Whole, way3 (by decide) pf_R (by decide) pf_Real (by decide) pf_Real⟩
theorem ways_35 : WayFn (rowOf 35).2.2.1 (opWays 35).1 ∧ WayFn (rowOf 35).2.2.2 (opWays 35).2 := ⟨way3 (by decide) pf_D (by decide) pf_Whole (by decide) pf_Whole, way0⟩
theorem ways_36 : WayFn (rowOf 36).2.2.1 (opWays 36).1 ∧ WayFn (rowOf 36).2.2.2 (opWays 36).2 := ⟨way2 (by decide) pf_R (by decide) pf_Whole, way0⟩
theorem ways_37 : WayFn (rowOf 37).2.2.1 (opWays 37).1 ∧ WayFn (rowOf 37).2.2.2 (opWays 37).2 := ⟨way2 (by decide) pf_D (by decide) pf_Real, way0⟩
theorem contact_eq_1 (ds : List Stil.Dev) : (takesB (opWays 1).1 ds || takesB (opWays 1).2 ds) = Stil.isContact 1 ds := by
  rw [show opWays 1 = ([Stil.Dev.isBit], []) from rfl]
  match ds with
  | [] => simp [takesB, Stil.isContact]
  | [a] => (simp [takesB, placesB, Stil.isContact, Stil.Dev.isBit]; try grind)
  | [a, b] => (simp [takesB, placesB, Stil.isContact, Stil.Dev.isBit]; try grind)
  | [a, b, c] => (simp [takesB, placesB, Stil.isContact, Stil.Dev.isBit]; try grind)
  | a :: b :: c :: d :: r => simp [takesB, placesB, Stil.isContact]; try omega
theorem contact_eq_2 (ds : List Stil.Dev) : (takesB (opWays 2).1 ds || takesB (opWays 2).2 ds) = Stil.isContact 2 ds := by
  rw [show opWays 2 = ([Stil.Dev.isBit], []) from rfl]
  match ds with
  | [] => simp [takesB, Stil.isContact]
  | [a] => (simp [takesB, placesB, Stil.isContact, Stil.Dev.isBit]; try grind)
  | [a, b] => (simp [takesB, placesB, Stil.isContact, Stil.Dev.isBit]; try grind)
  | [a, b, c] => (simp [takesB, placesB, Stil.isContact, Stil.Dev.isBit]; try grind)
  | a :: b :: c :: d :: r => simp [takesB, placesB, Stil.isContact]; try omega
theorem contact_eq_3 (ds : List Stil.Dev) : (takesB (opWays 3).1 ds || takesB (opWays 3).2 ds) = Stil.isContact 3 ds := by
  rw [show opWays 3 = ([Stil.Dev.isBit, pl [5]], []) from rfl]
  match ds with
  | [] => simp [takesB, Stil.isContact]
  | [a] => (simp [takesB, placesB, Stil.isContact, Stil.Dev.isBit]; try grind)
  | [a, b] => (simp [takesB, placesB, Stil.isContact, pl, Stil.Dev.ok, Stil.Dev.isBit]; try grind)
  | [a, b, c] => (simp [takesB, placesB, Stil.isContact, pl, Stil.Dev.ok, Stil.Dev.isBit]; try grind)
  | a :: b :: c :: d :: r => simp [takesB, placesB, Stil.isContact]; try omega
theorem contact_eq_4 (ds : List Stil.Dev) : (takesB (opWays 4).1 ds || takesB (opWays 4).2 ds) = Stil.isContact 4 ds := by
  rw [show opWays 4 = ([Stil.Dev.isBit, pl [5]], []) from rfl]
  match ds with
  | [] => simp [takesB, Stil.isContact]
  | [a] => (simp [takesB, placesB, Stil.isContact, Stil.Dev.isBit]; try grind)
  | [a, b] => (simp [takesB, placesB, Stil.isContact, pl, Stil.Dev.ok, Stil.Dev.isBit]; try grind)
  | [a, b, c] => (simp [takesB, placesB, Stil.isContact, pl, Stil.Dev.ok, Stil.Dev.isBit]; try grind)
  | a :: b :: c :: d :: r => simp [takesB, placesB, Stil.isContact]; try omega
theorem contact_eq_5 (ds : List Stil.Dev) : (takesB (opWays 5).1 ds || takesB (opWays 5).2 ds) = Stil.isContact 5 ds := by
  rw [show opWays 5 = ([Stil.Dev.isWhole, Stil.Dev.isWhole], [Stil.Dev.isReal, Stil.Dev.isReal]) from rfl]
  match ds with
  | [] => simp [takesB, Stil.isContact]
  | [a] => (simp [takesB, placesB, Stil.isContact, Stil.Dev.isBit, Stil.Dev.isWhole, Stil.Dev.isReal]; try grind)
  | [a, b] => (simp [takesB, placesB, Stil.isContact, Stil.Dev.isWhole, Stil.Dev.isReal]; try grind)
  | [a, b, c] => (simp [takesB, placesB, Stil.isContact, Stil.Dev.isWhole, Stil.Dev.isReal]; try grind)
  | a :: b :: c :: d :: r => simp [takesB, placesB, Stil.isContact]; try omega
theorem contact_eq_6 (ds : List Stil.Dev) : (takesB (opWays 6).1 ds || takesB (opWays 6).2 ds) = Stil.isContact 6 ds := by
  rw [show opWays 6 = ([Stil.Dev.isWhole, Stil.Dev.isWhole], [Stil.Dev.isReal, Stil.Dev.isReal]) from rfl]
  match ds with
  | [] => simp [takesB, Stil.isContact]
  | [a] => (simp [takesB, placesB, Stil.isContact, Stil.Dev.isBit, Stil.Dev.isWhole, Stil.Dev.isReal]; try grind)
  | [a, b] => (simp [takesB, placesB, Stil.isContact, Stil.Dev.isWhole, Stil.Dev.isReal]; try grind)
  | [a, b, c] => (simp [takesB, placesB, Stil.isContact, Stil.Dev.isWhole, Stil.Dev.isReal]; try grind)
  | a :: b :: c :: d :: r => simp [takesB, placesB, Stil.isContact]; try omega
theorem contact_eq_7 (ds : List Stil.Dev) : (takesB (opWays 7).1 ds || takesB (opWays 7).2 ds) = Stil.isContact 7 ds := by
  rw [show opWays 7 = ([Stil.Dev.isWhole, Stil.Dev.isWhole], [Stil.Dev.isReal, Stil.Dev.isReal]) from rfl]
  match ds with
  | [] => simp [takesB, Stil.isContact]
  | [a] => (simp [takesB, placesB, Stil.isContact, Stil.Dev.isBit, Stil.Dev.isWhole, Stil.Dev.isReal]; try grind)
  | [a, b] => (simp [takesB, placesB, Stil.isContact, Stil.Dev.isWhole, Stil.Dev.isReal]; try grind)
  | [a, b, c] => (simp [takesB, placesB, Stil.isContact, Stil.Dev.isWhole, Stil.Dev.isReal]; try grind)
  | a :: b :: c :: d :: r => simp [takesB, placesB, Stil.isContact]; try omega
theorem contact_eq_8 (ds : List Stil.Dev) : (takesB (opWays 8).1 ds || takesB (opWays 8).2 ds) = Stil.isContact 8 ds := by
  rw [show opWays 8 = ([Stil.Dev.isWhole, Stil.Dev.isWhole], [Stil.Dev.isReal, Stil.Dev.isReal]) from rfl]
  match ds with
  | [] => simp [takesB, Stil.isContact]
  | [a] => (simp [takesB, placesB, Stil.isContact, Stil.Dev.isBit, Stil.Dev.isWhole, Stil.Dev.isReal]; try grind)
  | [a, b] => (simp [takesB, placesB, Stil.isContact, Stil.Dev.isWhole, Stil.Dev.isReal]; try grind)
  | [a, b, c] => (simp [takesB, placesB, Stil.isContact, Stil.Dev.isWhole, Stil.Dev.isReal]; try grind)
  | a :: b :: c :: d :: r => simp [takesB, placesB, Stil.isContact]; try omega
theorem contact_eq_9 (ds : List Stil.Dev) : (takesB (opWays 9).1 ds || takesB (opWays 9).2 ds) = Stil.isContact 9 ds := by
  rw [show opWays 9 = ([Stil.Dev.isWhole, Stil.Dev.isWhole], [Stil.Dev.isReal, Stil.Dev.isReal]) from rfl]
  match ds with
  | [] => simp [takesB, Stil.isContact]
  | [a] => (simp [takesB, placesB, Stil.isContact, Stil.Dev.isBit, Stil.Dev.isWhole, Stil.Dev.isReal]; try grind)
  | [a, b] => (simp [takesB, placesB, Stil.isContact, Stil.Dev.isWhole, Stil.Dev.isReal]; try grind)
  | [a, b, c] => (simp [takesB, placesB, Stil.isContact, Stil.Dev.isWhole, Stil.Dev.isReal]; try grind)
  | a :: b :: c :: d :: r => simp [takesB, placesB, Stil.isContact]; try omega
theorem contact_eq_10 (ds : List Stil.Dev) : (takesB (opWays 10).1 ds || takesB (opWays 10).2 ds) = Stil.isContact 10 ds := by
  rw [show opWays 10 = ([Stil.Dev.isWhole, Stil.Dev.isWhole], [Stil.Dev.isReal, Stil.Dev.isReal]) from rfl]
  match ds with
  | [] => simp [takesB, Stil.isContact]
  | [a] => (simp [takesB, placesB, Stil.isContact, Stil.Dev.isBit, Stil.Dev.isWhole, Stil.Dev.isReal]; try grind)
  | [a, b] => (simp [takesB, placesB, Stil.isContact, Stil.Dev.isWhole, Stil.Dev.isReal]; try grind)
  | [a, b, c] => (simp [takesB, placesB, Stil.isContact, Stil.Dev.isWhole, Stil.Dev.isReal]; try grind)
  | a :: b :: c :: d :: r => simp [takesB, placesB, Stil.isContact]; try omega
theorem coil_eq_21 (ds : List Stil.Dev) : (takesB (opWays 21).1 ds || takesB (opWays 21).2 ds) = Stil.isCoil 21 ds := by
  rw [show opWays 21 = ([pl [2, 3]], []) from rfl]
  match ds with
  | [] => simp [takesB, Stil.isCoil, Stil.arity]
  | [a] => (simp [takesB, placesB, Stil.isCoil, Stil.arity, pl, Stil.Dev.kindIs, Stil.kindB, Stil.Dev.ok]; try grind)
  | [a, b] => (simp [takesB, placesB, Stil.isCoil, Stil.arity, pl, Stil.Dev.ok]; try grind)
  | [a, b, c] => (simp [takesB, placesB, Stil.isCoil, Stil.arity, pl, Stil.Dev.ok]; try grind)
  | a :: b :: c :: d :: r => simp [takesB, placesB, Stil.isCoil, Stil.arity]; try omega
theorem coil_eq_22 (ds : List Stil.Dev) : (takesB (opWays 22).1 ds || takesB (opWays 22).2 ds) = Stil.isCoil 22 ds := by
  rw [show opWays 22 = ([pl [2, 3, 4]], []) from rfl]
  match ds with
  | [] => simp [takesB, Stil.isCoil, Stil.arity]
  | [a] => (simp [takesB, placesB, Stil.isCoil, Stil.arity, pl, Stil.Dev.kindIs, Stil.kindB, Stil.Dev.ok]; try grind)
  | [a, b] => (simp [takesB, placesB, Stil.isCoil, Stil.arity, pl, Stil.Dev.ok]; try grind)
  | [a, b, c] => (simp [takesB, placesB, Stil.isCoil, Stil.arity, pl, Stil.Dev.ok]; try grind)
  | a :: b :: c :: d :: r => simp [takesB, placesB, Stil.isCoil, Stil.arity]; try omega
theorem coil_eq_23 (ds : List Stil.Dev) : (takesB (opWays 23).1 ds || takesB (opWays 23).2 ds) = Stil.isCoil 23 ds := by
  rw [show opWays 23 = ([pl [2, 3, 4, 7, 8]], []) from rfl]
  match ds with
  | [] => simp [takesB, Stil.isCoil, Stil.arity]
  | [a] => (simp [takesB, placesB, Stil.isCoil, Stil.arity, pl, Stil.Dev.kindIs, Stil.kindB, Stil.Dev.ok]; try grind)
  | [a, b] => (simp [takesB, placesB, Stil.isCoil, Stil.arity, pl, Stil.Dev.ok]; try grind)
  | [a, b, c] => (simp [takesB, placesB, Stil.isCoil, Stil.arity, pl, Stil.Dev.ok]; try grind)
  | a :: b :: c :: d :: r => simp [takesB, placesB, Stil.isCoil, Stil.arity]; try omega
theorem coil_eq_24 (ds : List Stil.Dev) : (takesB (opWays 24).1 ds || takesB (opWays 24).2 ds) = Stil.isCoil 24 ds := by
  rw [show opWays 24 = ([pl [2, 3], pl [5]], []) from rfl]
  match ds with
  | [] => simp [takesB, Stil.isCoil, Stil.arity]
  | [a] => (simp [takesB, placesB, Stil.isCoil, Stil.arity, pl, Stil.Dev.ok]; try grind)
  | [a, b] => (simp [takesB, placesB, Stil.isCoil, Stil.arity, pl, Stil.Dev.kindIs, Stil.kindB, Stil.Dev.ok]; try grind)
  | [a, b, c] => (simp [takesB, placesB, Stil.isCoil, Stil.arity, pl, Stil.Dev.ok]; try grind)
  | a :: b :: c :: d :: r => simp [takesB, placesB, Stil.isCoil, Stil.arity]; try omega
theorem coil_eq_25 (ds : List Stil.Dev) : (takesB (opWays 25).1 ds || takesB (opWays 25).2 ds) = Stil.isCoil 25 ds := by
  rw [show opWays 25 = ([pl [4]], []) from rfl]
  match ds with
  | [] => simp [takesB, Stil.isCoil, Stil.arity]
  | [a] => (simp [takesB, placesB, Stil.isCoil, Stil.arity, pl, Stil.Dev.kindIs, Stil.kindB, Stil.Dev.ok]; try grind)
  | [a, b] => (simp [takesB, placesB, Stil.isCoil, Stil.arity, pl, Stil.Dev.ok]; try grind)
  | [a, b, c] => (simp [takesB, placesB, Stil.isCoil, Stil.arity, pl, Stil.Dev.ok]; try grind)
  | a :: b :: c :: d :: r => simp [takesB, placesB, Stil.isCoil, Stil.arity]; try omega
theorem coil_eq_26 (ds : List Stil.Dev) : (takesB (opWays 26).1 ds || takesB (opWays 26).2 ds) = Stil.isCoil 26 ds := by
  rw [show opWays 26 = ([pl [7], plPreset], []) from rfl]
  match ds with
  | [] => simp [takesB, Stil.isCoil, Stil.arity]
  | [a] => (simp [takesB, placesB, Stil.isCoil, Stil.arity, pl, Stil.Dev.ok]; try grind)
  | [a, b] => (simp [takesB, placesB, Stil.isCoil, Stil.arity, pl, plPreset, Stil.Dev.kindIs, Stil.kindB, Stil.Dev.ok]; try grind)
  | [a, b, c] => (simp [takesB, placesB, Stil.isCoil, Stil.arity, pl, plPreset, Stil.Dev.ok]; try grind)
  | a :: b :: c :: d :: r => simp [takesB, placesB, Stil.isCoil, Stil.arity]; try omega
theorem coil_eq_27 (ds : List Stil.Dev) : (takesB (opWays 27).1 ds || takesB (opWays 27).2 ds) = Stil.isCoil 27 ds := by
  rw [show opWays 27 = ([pl [7], plPreset], []) from rfl]
  match ds with
  | [] => simp [takesB, Stil.isCoil, Stil.arity]
  | [a] => (simp [takesB, placesB, Stil.isCoil, Stil.arity, pl, Stil.Dev.ok]; try grind)
  | [a, b] => (simp [takesB, placesB, Stil.isCoil, Stil.arity, pl, plPreset, Stil.Dev.kindIs, Stil.kindB, Stil.Dev.ok]; try grind)
  | [a, b, c] => (simp [takesB, placesB, Stil.isCoil, Stil.arity, pl, plPreset, Stil.Dev.ok]; try grind)
  | a :: b :: c :: d :: r => simp [takesB, placesB, Stil.isCoil, Stil.arity]; try omega
theorem coil_eq_28 (ds : List Stil.Dev) : (takesB (opWays 28).1 ds || takesB (opWays 28).2 ds) = Stil.isCoil 28 ds := by
  rw [show opWays 28 = ([pl [7], plPreset], []) from rfl]
  match ds with
  | [] => simp [takesB, Stil.isCoil, Stil.arity]
  | [a] => (simp [takesB, placesB, Stil.isCoil, Stil.arity, pl, Stil.Dev.ok]; try grind)
  | [a, b] => (simp [takesB, placesB, Stil.isCoil, Stil.arity, pl, plPreset, Stil.Dev.kindIs, Stil.kindB, Stil.Dev.ok]; try grind)
  | [a, b, c] => (simp [takesB, placesB, Stil.isCoil, Stil.arity, pl, plPreset, Stil.Dev.ok]; try grind)
  | a :: b :: c :: d :: r => simp [takesB, placesB, Stil.isCoil, Stil.arity]; try omega
theorem coil_eq_29 (ds : List Stil.Dev) : (takesB (opWays 29).1 ds || takesB (opWays 29).2 ds) = Stil.isCoil 29 ds := by
  rw [show opWays 29 = ([pl [8], plPreset], []) from rfl]
  match ds with
  | [] => simp [takesB, Stil.isCoil, Stil.arity]
  | [a] => (simp [takesB, placesB, Stil.isCoil, Stil.arity, pl, Stil.Dev.ok]; try grind)
  | [a, b] => (simp [takesB, placesB, Stil.isCoil, Stil.arity, pl, plPreset, Stil.Dev.kindIs, Stil.kindB, Stil.Dev.ok]; try grind)
  | [a, b, c] => (simp [takesB, placesB, Stil.isCoil, Stil.arity, pl, plPreset, Stil.Dev.ok]; try grind)
  | a :: b :: c :: d :: r => simp [takesB, placesB, Stil.isCoil, Stil.arity]; try omega
theorem coil_eq_30 (ds : List Stil.Dev) : (takesB (opWays 30).1 ds || takesB (opWays 30).2 ds) = Stil.isCoil 30 ds := by
  rw [show opWays 30 = ([pl [9], Stil.Dev.isWhole], [pl [10], Stil.Dev.isReal]) from rfl]
  match ds with
  | [] => simp [takesB, Stil.isCoil, Stil.arity]
  | [a] => (simp [takesB, placesB, Stil.isCoil, Stil.arity, pl, Stil.Dev.ok]; try grind)
  | [a, b] => (simp [takesB, placesB, Stil.isCoil, Stil.arity, Stil.calcB, Stil.calcRest, pl, Stil.Dev.kindIs, Stil.kindB, Stil.Dev.ok, Stil.Dev.isWhole, Stil.Dev.isReal]; try grind)
  | [a, b, c] => (simp [takesB, placesB, Stil.isCoil, Stil.arity, pl, Stil.Dev.ok, Stil.Dev.isWhole, Stil.Dev.isReal]; try grind)
  | a :: b :: c :: d :: r => simp [takesB, placesB, Stil.isCoil, Stil.arity]; try omega
theorem coil_eq_31 (ds : List Stil.Dev) : (takesB (opWays 31).1 ds || takesB (opWays 31).2 ds) = Stil.isCoil 31 ds := by
  rw [show opWays 31 = ([pl [9], Stil.Dev.isWhole, Stil.Dev.isWhole], [pl [10], Stil.Dev.isReal, Stil.Dev.isReal]) from rfl]
  match ds with
  | [] => simp [takesB, Stil.isCoil, Stil.arity]
  | [a] => (simp [takesB, placesB, Stil.isCoil, Stil.arity, pl, Stil.Dev.ok]; try grind)
  | [a, b] => (simp [takesB, placesB, Stil.isCoil, Stil.arity, pl, Stil.Dev.ok, Stil.Dev.isWhole, Stil.Dev.isReal]; try grind)
  | [a, b, c] => (simp [takesB, placesB, Stil.isCoil, Stil.arity, Stil.calcB, Stil.calcRest, pl, Stil.Dev.kindIs, Stil.kindB, Stil.Dev.ok, Stil.Dev.isWhole, Stil.Dev.isReal]; try grind)
  | a :: b :: c :: d :: r => simp [takesB, placesB, Stil.isCoil, Stil.arity]; try omega
theorem coil_eq_32 (ds : List Stil.Dev) : (takesB (opWays 32).1 ds || takesB (opWays 32).2 ds) = Stil.isCoil 32 ds := by
  rw [show opWays 32 = ([pl [9], Stil.Dev.isWhole, Stil.Dev.isWhole], [pl [10], Stil.Dev.isReal, Stil.Dev.isReal]) from rfl]
  match ds with
  | [] => simp [takesB, Stil.isCoil, Stil.arity]
  | [a] => (simp [takesB, placesB, Stil.isCoil, Stil.arity, pl, Stil.Dev.ok]; try grind)
  | [a, b] => (simp [takesB, placesB, Stil.isCoil, Stil.arity, pl, Stil.Dev.ok, Stil.Dev.isWhole, Stil.Dev.isReal]; try grind)
  | [a, b, c] => (simp [takesB, placesB, Stil.isCoil, Stil.arity, Stil.calcB, Stil.calcRest, pl, Stil.Dev.kindIs, Stil.kindB, Stil.Dev.ok, Stil.Dev.isWhole, Stil.Dev.isReal]; try grind)
  | a :: b :: c :: d :: r => simp [takesB, placesB, Stil.isCoil, Stil.arity]; try omega
theorem coil_eq_33 (ds : List Stil.Dev) : (takesB (opWays 33).1 ds || takesB (opWays 33).2 ds) = Stil.isCoil 33 ds := by
  rw [show opWays 33 = ([pl [9], Stil.Dev.isWhole, Stil.Dev.isWhole], [pl [10], Stil.Dev.isReal, Stil.Dev.isReal]) from rfl]
  match ds with
  | [] => simp [takesB, Stil.isCoil, Stil.arity]
  | [a] => (simp [takesB, placesB, Stil.isCoil, Stil.arity, pl, Stil.Dev.ok]; try grind)
  | [a, b] => (simp [takesB, placesB, Stil.isCoil, Stil.arity, pl, Stil.Dev.ok, Stil.Dev.isWhole, Stil.Dev.isReal]; try grind)
  | [a, b, c] => (simp [takesB, placesB, Stil.isCoil, Stil.arity, Stil.calcB, Stil.calcRest, pl, Stil.Dev.kindIs, Stil.kindB, Stil.Dev.ok, Stil.Dev.isWhole, Stil.Dev.isReal]; try grind)
  | a :: b :: c :: d :: r => simp [takesB, placesB, Stil.isCoil, Stil.arity]; try omega
theorem coil_eq_34 (ds : List Stil.Dev) : (takesB (opWays 34).1 ds || takesB (opWays 34).2 ds) = Stil.isCoil 34 ds := by
  rw [show opWays 34 = ([pl [9], Stil.Dev.isWhole, Stil.Dev.isWhole], [pl [10], Stil.Dev.isReal, Stil.Dev.isReal]) from rfl]
  match ds with
  | [] => simp [takesB, Stil.isCoil, Stil.arity]
  | [a] => (simp [takesB, placesB, Stil.isCoil, Stil.arity, pl, Stil.Dev.ok]; try grind)
  | [a, b] => (simp [takesB, placesB, Stil.isCoil, Stil.arity, pl, Stil.Dev.ok, Stil.Dev.isWhole, Stil.Dev.isReal]; try grind)
  | [a, b, c] => (simp [takesB, placesB, Stil.isCoil, Stil.arity, Stil.calcB, Stil.calcRest, pl, Stil.Dev.kindIs, Stil.kindB, Stil.Dev.ok, Stil.Dev.isWhole, Stil.Dev.isReal]; try grind)
  | a :: b :: c :: d :: r => simp [takesB, placesB, Stil.isCoil, Stil.arity]; try omega
theorem coil_eq_35 (ds : List Stil.Dev) : (takesB (opWays 35).1 ds || takesB (opWays 35).2 ds) = Stil.isCoil 35 ds := by
  rw [show opWays 35 = ([pl [9], Stil.Dev.isWhole, Stil.Dev.isWhole], []) from rfl]
  match ds with
  | [] => simp [takesB, Stil.isCoil, Stil.arity]
  | [a] => (simp [takesB, placesB, Stil.isCoil, Stil.arity, pl, Stil.Dev.ok]; try grind)
  | [a, b] => (simp [takesB, placesB, Stil.isCoil, Stil.arity, pl, Stil.Dev.ok, Stil.Dev.isWhole]; try grind)
  | [a, b, c] => (simp [takesB, placesB, Stil.isCoil, Stil.arity, Stil.calcB, Stil.calcRest, pl, Stil.Dev.kindIs, Stil.kindB, Stil.Dev.ok, Stil.Dev.isWhole, Stil.Dev.isReal]; try grind)
  | a :: b :: c :: d :: r => simp [takesB, placesB, Stil.isCoil, Stil.arity]; try omega
theorem coil_eq_36 (ds : List Stil.Dev) : (takesB (opWays 36).1 ds || takesB (opWays 36).2 ds) = Stil.isCoil 36 ds := by
  rw [show opWays 36 = ([pl [10], Stil.Dev.isWhole], []) from rfl]
  match ds with
  | [] => simp [takesB, Stil.isCoil, Stil.arity]
  | [a] => (simp [takesB, placesB, Stil.isCoil, Stil.arity, pl, Stil.Dev.ok]; try grind)
  | [a, b] => (simp [takesB, placesB, Stil.isCoil, Stil.arity, pl, Stil.Dev.kindIs, Stil.kindB, Stil.Dev.ok, Stil.Dev.isWhole]; try grind)
  | [a, b, c] => (simp [takesB, placesB, Stil.isCoil, Stil.arity, pl, Stil.Dev.ok, Stil.Dev.isWhole]; try grind)
  | a :: b :: c :: d :: r => simp [takesB, placesB, Stil.isCoil, Stil.arity]; try omega
theorem coil_eq_37 (ds : List Stil.Dev) : (takesB (opWays 37).1 ds || takesB (opWays 37).2 ds) = Stil.isCoil 37 ds := by
  rw [show opWays 37 = ([pl [9], Stil.Dev.isReal], []) from rfl]
  match ds with
  | [] => simp [takesB, Stil.isCoil, Stil.arity]
  | [a] => (simp [takesB, placesB, Stil.isCoil, Stil.arity, pl, Stil.Dev.ok]; try grind)
  | [a, b] => (simp [takesB, placesB, Stil.isCoil, Stil.arity, pl, Stil.Dev.kindIs, Stil.kindB, Stil.Dev.ok, Stil.Dev.isReal]; try grind)
  | [a, b, c] => (simp [takesB, placesB, Stil.isCoil, Stil.arity, pl, Stil.Dev.ok, Stil.Dev.isReal]; try grind)
  | a :: b :: c :: d :: r => simp [takesB, placesB, Stil.isCoil, Stil.arity]; try omega
theorem contact_ways (op : Int) (h1 : 1 ≤ op) (h2 : op ≤ 10) : WayFn (rowOf op).2.2.1 (opWays op).1 ∧ WayFn (rowOf op).2.2.2 (opWays op).2 ∧ ∀ ds, (takesB (opWays op).1 ds || takesB (opWays op).2 ds) = Stil.isContact op ds := by
  have h : op = 1 ∨ op = 2 ∨ op = 3 ∨ op = 4 ∨ op = 5 ∨ op = 6 ∨ op = 7 ∨ op = 8 ∨ op = 9 ∨ op = 10 := by omega
  rcases h with rfl | rfl | rfl | rfl | rfl | rfl | rfl | rfl | rfl | rfl
  · exact ⟨ways_1.1, ways_1.2, contact_eq_1⟩
  · exact ⟨ways_2.1, ways_2.2, contact_eq_2⟩
  · exact ⟨ways_3.1, ways_3.2, contact_eq_3⟩
  · exact ⟨ways_4.1, ways_4.2, contact_eq_4⟩
  · exact ⟨ways_5.1, ways_5.2, contact_eq_5⟩
  · exact ⟨ways_6.1, ways_6.2, contact_eq_6⟩
  · exact ⟨ways_7.1, ways_7.2, contact_eq_7⟩
  · exact ⟨ways_8.1, ways_8.2, contact_eq_8⟩
  · exact ⟨ways_9.1, ways_9.2, contact_eq_9⟩
  · exact ⟨ways_10.1, ways_10.2, contact_eq_10⟩
theorem coil_ways (op : Int) (h1 : 21 ≤ op) (h2 : op ≤ 37) : WayFn (rowOf op).2.2.1 (opWays op).1 ∧ WayFn (rowOf op).2.2.2 (opWays op).2 ∧ ∀ ds, (takesB (opWays op).1 ds || takesB (opWays op).2 ds) = Stil.isCoil op ds := by
  have h : op = 21 ∨ op = 22 ∨ op = 23 ∨ op = 24 ∨ op = 25 ∨ op = 26 ∨ op = 27 ∨ op = 28 ∨ op = 29 ∨ op = 30 ∨ op = 31 ∨ op = 32 ∨ op = 33 ∨ op = 34 ∨ op = 35 ∨ op = 36 ∨ op = 37 := by omega
  rcases h with rfl | rfl | rfl | rfl | rfl | rfl | rfl | rfl | rfl | rfl | rfl | rfl | rfl | rfl | rfl | rfl | rfl
  · exact ⟨ways_21.1, ways_21.2, coil_eq_21⟩
  · exact ⟨ways_22.1, ways_22.2, coil_eq_22⟩
  · exact ⟨ways_23.1, ways_23.2, coil_eq_23⟩
  · exact ⟨ways_24.1, ways_24.2, coil_eq_24⟩
  · exact ⟨ways_25.1, ways_25.2, coil_eq_25⟩
  · exact ⟨ways_26.1, ways_26.2, coil_eq_26⟩
  · exact ⟨ways_27.1, ways_27.2, coil_eq_27⟩
  · exact ⟨ways_28.1, ways_28.2, coil_eq_28⟩
  · exact ⟨ways_29.1, ways_29.2, coil_eq_29⟩
  · exact ⟨ways_30.1, ways_30.2, coil_eq_30⟩
  · exact ⟨ways_31.1, ways_31.2, coil_eq_31⟩
  · exact ⟨ways_32.1, ways_32.2, coil_eq_32⟩
  · exact ⟨ways_33.1, ways_33.2, coil_eq_33⟩
  · exact ⟨ways_34.1, ways_34.2, coil_eq_34⟩
  · exact ⟨ways_35.1, ways_35.2, coil_eq_35⟩
  · exact ⟨ways_36.1, ways_36.2, coil_eq_36⟩
  · exact ⟨ways_37.1, ways_37.2, coil_eq_37⟩
end Go.Proofs.YtnbdgpepancfnabDoor
