/- N3: texts put together. -/
import Derived.Test.YtipdjmbgbehkaaaGreatDoorGh
import Derived.Test.YtipdjmbgbehkaaaGreatDoorHr
import Derived.Test.YtipdjmbgbehkaaaGreatDoorGC
import Derived.Test.YtipdjmbgbehkaaaGreatDoorGD
import Derived.Test.YtipdjmbgbehkaaaGreatDoorG4
import Derived.Test.YtipdjmbgbehkaaaGreatDoorS7
import Derived.Lib.QuietBelow
import Derived.Deep.RegionWith
import Derived.Test.YtipdjmbgbehkaaaGreatDoorHq
import Derived.Maps.AppendAt
/- The program's chapter 6: SureRungs. -/
namespace Go.Proofs.YtipdjmbgbehkaaaGreatDoor
open Go.RowKit Go.Sort Go.BigFrame
theorem cells3 {W : World} {u0 u1 u2 : Value} {t : TypeId} : ∀ j u, [u0, u1, u2][j]? = some u → (W.alloc (.cells #[u0, u1, u2] t)).cell? ((⟨W.heap.size, 0, none⟩ : Addr).add j) = some u := by
  intro j u h
  rw [Addr.add_lit]
  match j, h with
  | 0, h => simp at h; subst h; simp [go_sem]
  | 1, h => simp at h; subst h; simp [go_sem]
  | 2, h => simp at h; subst h; simp [go_sem]
  | j + 3, h => simp at h
end Go.Proofs.YtipdjmbgbehkaaaGreatDoor
/- S13, S14: texts put together. -/
/- Contracts of the specification's chapter 5: the instruction of a line. -/
namespace Go.Proofs.YtipdjmbgbehkaaaGreatDoor
open Go.RowKit Go.Sort Go.BigFrame
end Go.Proofs.YtipdjmbgbehkaaaGreatDoor
/- Contracts of the specification's chapter 5: ListParse. -/
namespace Stil
theorem parse_step {ls : List (List UInt8)} {k : Nat} (cs : List Inst) (h : k < ls.length) : parseFrom k cs (ls.drop k) = if wordsOf ls[k] = [] then parseFrom (k + 1) cs (ls.drop (k + 1)) else if specOk (wordsOf ls[k]) = false then ([], k + 1, 2) else if cs.length = 1000 then ([], k + 1, 3) else parseFrom (k + 1) (cs ++ [instOf (wordsOf ls[k])]) (ls.drop (k + 1)) := by
  rw [List.drop_eq_getElem_cons h]; rfl
theorem parse_end {ls : List (List UInt8)} {k : Nat} (cs : List Inst) (h : ls.length ≤ k) : parseFrom k cs (ls.drop k) = (cs, 0, 0) := by
  rw [List.drop_of_length_le h]; rfl
end Stil
namespace Go.Proofs.YtipdjmbgbehkaaaGreatDoor
open Go.RowKit Go.Sort Go.BigFrame
theorem Built.le {w : World} {lo hi : Nat} {sv rv : Value} {us : List Value} {cs : List Stil.Inst} {fin : List Rg} (h : Built w hi sv rv us cs fin) (hl : lo ≤ hi) : Built w lo sv rv us cs fin := by
  obtain ⟨⟨h1, h2, h3⟩, h4, h5, h6⟩ := h
  exact ⟨⟨h1, Joins.ownsRow_le h2 hl, fun i a b => Joins.ownsRow_le (h3 i a b) hl⟩, fun f hf => ⟨(h4 f hf).1, Joins.ownsRow_le (h4 f hf).2.1 hl, fun i a b => Joins.ownsRow_le ((h4 f hf).2.2 i a b) hl⟩, Joins.ownsRow_le h5 hl, h6⟩
theorem Built.store {w : World} {base b o : Nat} {sv rv : Value} {us : List Value} {cs : List Stil.Inst} {fin : List Rg} (h : Built w base sv rv us cs fin) (hb : b < base) (v : Value) : Built (w.setCell ⟨b, o, none⟩ v) base sv rv us cs fin := by
  obtain ⟨⟨h1, h2, h3⟩, h4, h5, h6⟩ := h
  exact ⟨⟨h1, ownsRow_setCell_below h2 hb _, fun i x y => ownsRow_setCell_below (h3 i x y) hb _⟩, fun f hf => ⟨(h4 f hf).1, ownsRow_setCell_below (h4 f hf).2.1 hb _, fun i x y => ownsRow_setCell_below ((h4 f hf).2.2 i x y) hb _⟩, ownsRow_setCell_below h5 hb _, h6⟩
theorem built_nil (w : World) (base : Nat) : Built w base (.slice none 0 0) (.slice none 0 0) [] [] [] := by
  refine ⟨⟨rfl, World.ownsRow_nil _ _ _ _, fun i hi => absurd hi (by simp)⟩, (fun f hf => by cases hf), World.ownsRow_nil _ _ _ _, ?_⟩
  simp [Apart]
  first | exact .inl rfl | rfl
/-- What a reading of a text leaves. -/
def ParseOut (R : List Stil.Inst × Int × Int) (e : Ending) (w w' : World) : Prop := ∃ (rv : Value) (us : List Value), e = .returned (.tuple #[rv, .agg #[.int .i64 R.2.1, .int .i64 R.2.2]]) ∧ Built w' w.heap.size (.slice none 0 0) rv us R.1 [] ∧ Below w.heap.size w w'
end Go.Proofs.YtipdjmbgbehkaaaGreatDoor
