/- S11, S12, S13a: texts put together. -/
import Derived.Test.YtipdjmbgbehkaaaGreatDoorGC
import Derived.Test.YtipdjmbgbehkaaaGreatDoorHq
import Derived.Test.YtipdjmbgbehkaaaGreatDoorGh
import Derived.Test.YtipdjmbgbehkaaaGreatDoorGD
import Derived.Test.YtipdjmbgbehkaaaGreatDoorG4
import Derived.Test.YtipdjmbgbehkaaaGreatDoorS7
import Derived.Lib.QuietBelow
import Derived.Deep.RegionWith
import Derived.Maps.AppendAt
/- Contracts of the specification's chapter 5: the words of a line. -/
namespace Go.Proofs.YtipdjmbgbehkaaaGreatDoor
open Go.RowKit Go.Sort Go.BigFrame
theorem piece_count (c : UInt8) (l : List UInt8) : (Stil.cut c l).length ≤ l.length + 1 := by
  induction l with
  | nil => simp [Stil.cut]
  | cons x r ih =>
    rw [Stil.cut]
    split
    · simp; omega
    · have : (Stil.consHead x (Stil.cut c r)).length = (Stil.cut c r).length ∨ (Stil.consHead x (Stil.cut c r)).length = 1 := by
        cases h : Stil.cut c r with
        | nil => right; rfl
        | cons a q => left; rfl
      rcases this with h | h <;> simp <;> omega
end Go.Proofs.YtipdjmbgbehkaaaGreatDoor
/- Contracts of the specification's chapter 5: the words of the codes. -/
namespace Go.Proofs.YtipdjmbgbehkaaaGreatDoor
open Go.RowKit Go.Sort Go.BigFrame
set_option maxHeartbeats 2000000 in
set_option maxRecDepth 100000 in
theorem s_listWord (k : Nat) (w : World) (h1 : 1 ≤ k) (h2 : k ≤ 11) :
    Calls Tryz.prog 49 #[.int .i64 k] w fun e w' => e = .returned (.string ⟨(Stil.lwordOf k).toArray⟩) ∧ Below w.heap.size w w' := by
  have hk : k = 1 ∨ k = 2 ∨ k = 3 ∨ k = 4 ∨ k = 5 ∨ k = 6 ∨ k = 7 ∨ k = 8 ∨ k = 9 ∨ k = 10 ∨ k = 11 := by omega
  rcases hk with rfl | rfl | rfl | rfl | rfl | rfl | rfl | rfl | rfl | rfl | rfl
  all_goals
    go_enter Tryz.func49, Tryz.ntmps49
    go_wp2
    go_ret
    exact ⟨rfl, by (repeat (first | with_reducible exact Below.refl _ _ | with_reducible assumption | with_reducible refine bl_set (by first | exact Nat.le_refl _ | (simp; done) | (simp; omega) | omega) ?_ _ | with_reducible refine bl_alloc ?_ _ | with_reducible refine bl_drewN ?_ _ | with_reducible refine bl_drew ?_ | with_reducible refine bl_grow ?_ _ _ | with_reducible refine bl_call ?_ (by assumption)))⟩
end Go.Proofs.YtipdjmbgbehkaaaGreatDoor
/- What is read of a contact or coil is of small numbers. -/
namespace Go.Proofs.YtipdjmbgbehkaaaGreatDoor
theorem elemRead_fits (l : List UInt8) : (Stil.elemRead l).fits := by
  cases hb : Stil.elemReadB l
  · rw [Stil.read_no hb]
    exact ⟨⟨by show (-9223372036854775808 : Int) ≤ 0; decide, by show (0 : Int) ≤ 9223372036854775807; decide⟩, by simp, by simp⟩
  · have ht := Stil.text_read hb
    have hop : 1 ≤ (Stil.elemRead l).op ∧ (Stil.elemRead l).op ≤ 37 := by
      rcases Stil.elemText_ok (by rw [ht]; exact Stil.readB_ne hb) with h1 | h1
      · unfold Stil.isContact at h1
        split at h1
        · cases h1
        · omega
      · have := Stil.coil_len h1; omega
    exact ⟨⟨by omega, by omega⟩, by have := Stil.read_len l; omega, fun d hd => devOk_fits d (Stil.read_ok hb d hd)⟩
end Go.Proofs.YtipdjmbgbehkaaaGreatDoor
/- N3: texts put together. -/
/- The program's chapter 6: SureRungs. -/
namespace Go.Proofs.YtipdjmbgbehkaaaGreatDoor
open Go.RowKit Go.Sort Go.BigFrame
theorem cells3 {W : World} {u0 u1 u2 : Value} {t : TypeId} : ∀ j u, [u0, u1, u2][j]? = some u → (W.alloc (.cells #[u0, u1, u2] t)).cell? ((⟨W.heap.size, 0, none⟩ : Addr).add j) = some u := by
  intro j u h
  rw [Addr.add_lit]
  match j, h with
  | 0, h => simp at h; subst h; simp [go_sem]
  | 1, h => simp at h; subst h; simp [go_sem]
  | 2, h => simp at h; subst h; simp [go_sem]
  | j + 3, h => simp at h
end Go.Proofs.YtipdjmbgbehkaaaGreatDoor
/- S13, S14: texts put together. -/
/- Contracts of the specification's chapter 5: the instruction of a line. -/
namespace Go.Proofs.YtipdjmbgbehkaaaGreatDoor
open Go.RowKit Go.Sort Go.BigFrame
end Go.Proofs.YtipdjmbgbehkaaaGreatDoor
/- Contracts of the specification's chapter 5: ListParse. -/
namespace Stil
theorem parse_step {ls : List (List UInt8)} {k : Nat} (cs : List Inst) (h : k < ls.length) : parseFrom k cs (ls.drop k) = if wordsOf ls[k] = [] then parseFrom (k + 1) cs (ls.drop (k + 1)) else if specOk (wordsOf ls[k]) = false then ([], k + 1, 2) else if cs.length = 1000 then ([], k + 1, 3) else parseFrom (k + 1) (cs ++ [instOf (wordsOf ls[k])]) (ls.drop (k + 1)) := by
  rw [List.drop_eq_getElem_cons h]; rfl
theorem parse_end {ls : List (List UInt8)} {k : Nat} (cs : List Inst) (h : ls.length ≤ k) : parseFrom k cs (ls.drop k) = (cs, 0, 0) := by
  rw [List.drop_of_length_le h]; rfl
end Stil
namespace Go.Proofs.YtipdjmbgbehkaaaGreatDoor
open Go.RowKit Go.Sort Go.BigFrame
theorem Built.le {w : World} {lo hi : Nat} {sv rv : Value} {us : List Value} {cs : List Stil.Inst} {fin : List Rg} (h : Built w hi sv rv us cs fin) (hl : lo ≤ hi) : Built w lo sv rv us cs fin := by
  obtain ⟨⟨h1, h2, h3⟩, h4, h5, h6⟩ := h
  exact ⟨⟨h1, Joins.ownsRow_le h2 hl, fun i a b => Joins.ownsRow_le (h3 i a b) hl⟩, fun f hf => ⟨(h4 f hf).1, Joins.ownsRow_le (h4 f hf).2.1 hl, fun i a b => Joins.ownsRow_le ((h4 f hf).2.2 i a b) hl⟩, Joins.ownsRow_le h5 hl, h6⟩
theorem Built.store {w : World} {base b o : Nat} {sv rv : Value} {us : List Value} {cs : List Stil.Inst} {fin : List Rg} (h : Built w base sv rv us cs fin) (hb : b < base) (v : Value) : Built (w.setCell ⟨b, o, none⟩ v) base sv rv us cs fin := by
  obtain ⟨⟨h1, h2, h3⟩, h4, h5, h6⟩ := h
  exact ⟨⟨h1, ownsRow_setCell_below h2 hb _, fun i x y => ownsRow_setCell_below (h3 i x y) hb _⟩, fun f hf => ⟨(h4 f hf).1, ownsRow_setCell_below (h4 f hf).2.1 hb _, fun i x y => ownsRow_setCell_below ((h4 f hf).2.2 i x y) hb _⟩, ownsRow_setCell_below h5 hb _, h6⟩
theorem built_nil (w : World) (base : Nat) : Built w base (.slice none 0 0) (.slice none 0 0) [] [] [] := by
  refine ⟨⟨rfl, World.ownsRow_nil _ _ _ _, fun i hi => absurd hi (by simp)⟩, (fun f hf => by cases hf), World.ownsRow_nil _ _ _ _, ?_⟩
  simp [Apart]
  first | exact .inl rfl | rfl
/-- What a reading of a text leaves. -/
def ParseOut (R : List Stil.Inst × Int × Int) (e : Ending) (w w' : World) : Prop := ∃ (rv : Value) (us : List Value), e = .returned (.tuple #[rv, .agg #[.int .i64 R.2.1, .int .i64 R.2.2]]) ∧ Built w' w.heap.size (.slice none 0 0) rv us R.1 [] ∧ Below w.heap.size w w'
end Go.Proofs.YtipdjmbgbehkaaaGreatDoor
