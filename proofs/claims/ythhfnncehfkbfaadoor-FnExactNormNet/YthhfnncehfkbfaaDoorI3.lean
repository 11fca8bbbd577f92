/- Contracts of the program's chapter 2, second part: the table of contacts and coils. -/
import Derived.Test.YthhfnncehfkbfaaDoorGI
import Derived.Laws.EntriesVeiled
import Derived.Deep.WholeRow
import Derived.Laws.CopyOwn
namespace Go.Proofs.YthhfnncehfkbfaaDoor
open Go.RowKit Go.Sort Go.BigFrame
/-- The rows: a word, the function that writes, the functions of the two ways. -/
def elemTab : List (List UInt8 × Nat × List Nat × List Nat) :=
  [([], 0, [], []),
   ([], 68, [69], []),
   ([47], 68, [69], []),
   ([43], 68, [69, 70], []),
   ([45], 68, [69, 70], []),
   ([60], 71, [62, 62], [63, 63]),
   ([60, 61], 71, [62, 62], [63, 63]),
   ([61], 71, [62, 62], [63, 63]),
   ([60, 62], 71, [62, 62], [63, 63]),
   ([62, 61], 71, [62, 62], [63, 63]),
   ([62], 71, [62, 62], [63, 63]),
   ([], 0, [], []),
   ([], 0, [], []),
   ([], 0, [], []),
   ([], 0, [], []),
   ([], 0, [], []),
   ([], 0, [], []),
   ([], 0, [], []),
   ([], 0, [], []),
   ([], 0, [], []),
   ([], 0, [], []),
   ([111, 117, 116], 72, [73], []),
   ([115, 101, 116], 72, [74], []),
   ([114, 101, 115, 101, 116], 72, [75], []),
   ([112, 117, 108, 115, 101], 72, [73, 70], []),
   ([115, 116, 101, 112], 72, [76], []),
   ([116, 105, 109, 101, 114], 72, [64, 65], []),
   ([104, 111, 108, 100], 72, [64, 65], []),
   ([108, 97, 116, 101], 72, [64, 65], []),
   ([99, 111, 117, 110, 116], 72, [77, 65], []),
   ([109, 111, 118, 101], 72, [66, 62], [67, 63]),
   ([97, 100, 100], 72, [66, 62, 62], [67, 63, 63]),
   ([115, 117, 98], 72, [66, 62, 62], [67, 63, 63]),
   ([109, 117, 108], 72, [66, 62, 62], [67, 63, 63]),
   ([100, 105, 118], 72, [66, 62, 62], [67, 63, 63]),
   ([114, 101, 109], 72, [66, 62, 62], []),
   ([114, 101, 97, 108], 72, [67, 62], []),
   ([119, 104, 111, 108, 101], 72, [66, 63], [])]
def fnv (n : Nat) : Value := if n = 0 then .nilFunc else .func (.func n) #[] #[]
def rowCells (r : List UInt8 × Nat × List Nat × List Nat) : List Value :=
  [.string ⟨r.1.toArray⟩, fnv r.2.1, fnv (r.2.2.1.getD 0 0), fnv (r.2.2.1.getD 1 0), fnv (r.2.2.1.getD 2 0), fnv (r.2.2.2.getD 0 0), fnv (r.2.2.2.getD 1 0), fnv (r.2.2.2.getD 2 0)]
def rowsList : List Value := elemTab.flatMap rowCells
theorem store_step {P : Program} {g : Nat} {t : TypeId} {vs tgt : List Value} {cur : Array Value} {w : World} {α : Type} (f : Unit → World → Result α) (hvs : vs = tgt) (hg : w.heap[g]? = some (.cells cur t (0, 0))) (hl : tgt.length = cur.size) (h1 : tgt.all (·.oneCell') = true) :
    ((storeCells ⟨g, 0, none⟩ vs 0).run P w).andThen f = f () (w.setRow g tgt.toArray) := by
  subst hvs
  rw [run_storeCells_from (P := P) g t vs 0 cur w hg (by omega) (fun v hv => List.all_eq_true.1 h1 v hv)]
  simp [Result.andThen]
theorem heap_alloc4 (w : World) (o1 o2 o3 o4 : Obj) : ((((w.alloc o1).alloc o2).alloc o3).alloc o4).heap[w.heap.size]? = some o1 := by
  show ((((w.heap.push o1).push o2).push o3).push o4)[w.heap.size]? = _
  simp [Array.getElem?_push]
  rw [if_neg (by omega), if_neg (by omega)]
set_option maxHeartbeats 4000000 in
set_option maxRecDepth 100000 in
theorem i_rows (w : World) :
    Calls Tryd.prog 60 #[] w fun e w' => e = .returned (.agg rowsList.toArray) ∧ Below w.heap.size w w' := by
  go_enter Tryd.func60, Tryd.ntmps60
  go_wp2
  rw [store_step (tgt := rowsList) (cur := Tryd.zeroCells88) (t := 88)]
  case hvs => kernel_rfl
  case hl => kernel_rfl
  case h1 => kernel_rfl
  case hg => exact heap_alloc4 _ _ _ _ _
  obtain ⟨W, hW⟩ : ∃ W, W = (((w.alloc (Obj.cells Tryd.zeroCells88 88)).alloc (Obj.cells #[.func (.func 62) #[] #[], .func (.func 62) #[] #[], .nilFunc, .func (.func 63) #[] #[], .func (.func 63) #[] #[], .nilFunc] 83)).alloc (Obj.cells #[.func (.func 64) #[] #[], .func (.func 65) #[] #[], .nilFunc, .nilFunc, .nilFunc, .nilFunc] 83)).alloc (Obj.cells #[.func (.func 66) #[] #[], .func (.func 62) #[] #[], .func (.func 62) #[] #[], .func (.func 67) #[] #[], .func (.func 63) #[] #[], .func (.func 63) #[] #[]] 83) := ⟨_, rfl⟩
  have hg : W.heap[w.heap.size]? = some (.cells Tryd.zeroCells88 88 (0, 0)) := by rw [hW]; exact heap_alloc4 _ _ _ _ _
  have hb : Below w.heap.size w W := by rw [hW]; (repeat (first | exact Below.refl _ _ | assumption | refine bl_alloc ?_ _ | refine bl_drewN ?_ _ | refine bl_drew ?_ | refine bl_grow ?_ _ _ | refine bl_set (Nat.le_refl _) ?_ _ | refine bl_call ?_ (by assumption)))
  rw [← hW]
  clear hW
  have hld : (loadVar 88 ⟨w.heap.size, 0, none⟩).run Tryd.prog (W.setRow w.heap.size rowsList.toArray) = .ok (.agg rowsList.toArray) (W.setRow w.heap.size rowsList.toArray) :=
    run_loadVar_row _ _ _ 88 _ (0, 0) _ (setRow_heap _ _ _ _ _ _ hg) Tryd.underlying88 rfl (by kernel_rfl)
  have hbs : Below w.heap.size w (W.setRow w.heap.size rowsList.toArray) := below_setRow hb (Nat.le_refl _) _
  generalize W.setRow w.heap.size rowsList.toArray = V at hld hbs ⊢
  rw [Oper.upon_skip]
  go_wp2
  refine bodyPost_ret (v := .agg rowsList.toArray) (by simp [results, Tryd.results60, Act.put, asAddr, hld]) rfl ⟨rfl, hbs⟩
end Go.Proofs.YthhfnncehfkbfaaDoor
