/- Contracts of the program's chapter 2, second part: the table of contacts and coils. -/
import Derived.Test.YtnnhbjgegkikoaaDoorGI
import Derived.Laws.EntriesVeiled
import Derived.Deep.WholeRow
import Derived.Laws.CopyOwn
namespace Go.Proofs.YtnnhbjgegkikoaaDoor
open Go.RowKit Go.Sort Go.BigFrame
/-- The rows: a word, the function that writes, the functions of the two ways. -/
def elemTab : List (List UInt8 × Nat × List Nat × List Nat) :=
  [([], 0, [], []),
   ([], 53, [54], []),
   ([47], 53, [54], []),
   ([43], 53, [54, 55], []),
   ([45], 53, [54, 55], []),
   ([60], 56, [47, 47], [48, 48]),
   ([60, 61], 56, [47, 47], [48, 48]),
   ([61], 56, [47, 47], [48, 48]),
   ([60, 62], 56, [47, 47], [48, 48]),
   ([62, 61], 56, [47, 47], [48, 48]),
   ([62], 56, [47, 47], [48, 48]),
   ([], 0, [], []),
   ([], 0, [], []),
   ([], 0, [], []),
   ([], 0, [], []),
   ([], 0, [], []),
   ([], 0, [], []),
   ([], 0, [], []),
   ([], 0, [], []),
   ([], 0, [], []),
   ([], 0, [], []),
   ([111, 117, 116], 57, [58], []),
   ([115, 101, 116], 57, [59], []),
   ([114, 101, 115, 101, 116], 57, [60], []),
   ([112, 117, 108, 115, 101], 57, [58, 55], []),
   ([115, 116, 101, 112], 57, [61], []),
   ([116, 105, 109, 101, 114], 57, [49, 50], []),
   ([104, 111, 108, 100], 57, [49, 50], []),
   ([108, 97, 116, 101], 57, [49, 50], []),
   ([99, 111, 117, 110, 116], 57, [62, 50], []),
   ([109, 111, 118, 101], 57, [51, 47], [52, 48]),
   ([97, 100, 100], 57, [51, 47, 47], [52, 48, 48]),
   ([115, 117, 98], 57, [51, 47, 47], [52, 48, 48]),
   ([109, 117, 108], 57, [51, 47, 47], [52, 48, 48]),
   ([100, 105, 118], 57, [51, 47, 47], [52, 48, 48]),
   ([114, 101, 109], 57, [51, 47, 47], []),
   ([114, 101, 97, 108], 57, [52, 47], []),
   ([119, 104, 111, 108, 101], 57, [51, 48], [])]
def fnv (n : Nat) : Value := if n = 0 then .nilFunc else .func (.func n) #[] #[]
def rowCells (r : List UInt8 × Nat × List Nat × List Nat) : List Value :=
  [.string ⟨r.1.toArray⟩, fnv r.2.1, fnv (r.2.2.1.getD 0 0), fnv (r.2.2.1.getD 1 0), fnv (r.2.2.1.getD 2 0), fnv (r.2.2.2.getD 0 0), fnv (r.2.2.2.getD 1 0), fnv (r.2.2.2.getD 2 0)]
def rowsList : List Value := elemTab.flatMap rowCells
theorem store_step {P : Program} {g : Nat} {t : TypeId} {vs tgt : List Value} {cur : Array Value} {w : World} {α : Type} (f : Unit → World → Result α) (hvs : vs = tgt) (hg : w.heap[g]? = some (.cells cur t (0, 0))) (hl : tgt.length = cur.size) (h1 : tgt.all (·.oneCell') = true) :
    ((storeCells ⟨g, 0, none⟩ vs 0).run P w).andThen f = f () (w.setRow g tgt.toArray) := by
  subst hvs
  rw [run_storeCells_from (P := P) g t vs 0 cur w hg (by omega) (fun v hv => List.all_eq_true.1 h1 v hv)]
  simp [Result.andThen]
theorem heap_alloc4 (w : World) (o1 o2 o3 o4 : Obj) : ((((w.alloc o1).alloc o2).alloc o3).alloc o4).heap[w.heap.size]? = some o1 := by
  show ((((w.heap.push o1).push o2).push o3).push o4)[w.heap.size]? = _
  simp [Array.getElem?_push]
  rw [if_neg (by omega), if_neg (by omega)]
set_option maxHeartbeats 4000000 in
set_option maxRecDepth 100000 in
theorem i_rows (w : World) :
    Calls Tryd.prog 38 #[] w fun e w' => e = .returned (.agg rowsList.toArray) ∧ Below w.heap.size w w' := by
  go_enter Tryd.func38, Tryd.ntmps38
  go_wp2
  rw [store_step (tgt := rowsList) (cur := Tryd.zeroCells56) (t := 56)]
  case hvs => kernel_rfl
  case hl => kernel_rfl
  case h1 => kernel_rfl
  case hg => exact heap_alloc4 _ _ _ _ _
  obtain ⟨W, hW⟩ : ∃ W, W = (((w.alloc (Obj.cells Tryd.zeroCells56 56)).alloc (Obj.cells #[.func (.func 47) #[] #[], .func (.func 47) #[] #[], .nilFunc, .func (.func 48) #[] #[], .func (.func 48) #[] #[], .nilFunc] 43)).alloc (Obj.cells #[.func (.func 49) #[] #[], .func (.func 50) #[] #[], .nilFunc, .nilFunc, .nilFunc, .nilFunc] 43)).alloc (Obj.cells #[.func (.func 51) #[] #[], .func (.func 47) #[] #[], .func (.func 47) #[] #[], .func (.func 52) #[] #[], .func (.func 48) #[] #[], .func (.func 48) #[] #[]] 43) := ⟨_, rfl⟩
  have hg : W.heap[w.heap.size]? = some (.cells Tryd.zeroCells56 56 (0, 0)) := by rw [hW]; exact heap_alloc4 _ _ _ _ _
  have hb : Below w.heap.size w W := by rw [hW]; (repeat (first | exact Below.refl _ _ | assumption | refine bl_alloc ?_ _ | refine bl_drewN ?_ _ | refine bl_drew ?_ | refine bl_grow ?_ _ _ | refine bl_set (Nat.le_refl _) ?_ _ | refine bl_call ?_ (by assumption)))
  rw [← hW]
  clear hW
  have hld : (loadVar 56 ⟨w.heap.size, 0, none⟩).run Tryd.prog (W.setRow w.heap.size rowsList.toArray) = .ok (.agg rowsList.toArray) (W.setRow w.heap.size rowsList.toArray) :=
    run_loadVar_row _ _ _ 56 _ (0, 0) _ (setRow_heap _ _ _ _ _ _ hg) Tryd.underlying56 rfl (by kernel_rfl)
  have hbs : Below w.heap.size w (W.setRow w.heap.size rowsList.toArray) := below_setRow hb (Nat.le_refl _) _
  generalize W.setRow w.heap.size rowsList.toArray = V at hld hbs ⊢
  rw [Oper.upon_skip]
  go_wp2
  refine bodyPost_ret (v := .agg rowsList.toArray) (by simp [results, Tryd.results38, Act.put, asAddr, hld]) rfl ⟨rfl, hbs⟩
end Go.Proofs.YtnnhbjgegkikoaaDoor
