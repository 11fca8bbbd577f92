/- Contracts of the program's chapter 2, second part: the table of contacts and coils. -/
import Derived.Test.YtcpojnbfinlgiaaDoorGI
import Derived.Laws.EntriesVeiled
import Derived.Deep.WholeRow
import Derived.Laws.CopyOwn
namespace Go.Proofs.YtcpojnbfinlgiaaDoor
open Go.RowKit Go.Sort Go.BigFrame
/-- The rows: a word, the function that writes, the functions of the two ways. -/
def elemTab : List (List UInt8 × Nat × List Nat × List Nat) :=
  [([], 0, [], []),
   ([], 57, [58], []),
   ([47], 57, [58], []),
   ([43], 57, [58, 59], []),
   ([45], 57, [58, 59], []),
   ([60], 60, [51, 51], [52, 52]),
   ([60, 61], 60, [51, 51], [52, 52]),
   ([61], 60, [51, 51], [52, 52]),
   ([60, 62], 60, [51, 51], [52, 52]),
   ([62, 61], 60, [51, 51], [52, 52]),
   ([62], 60, [51, 51], [52, 52]),
   ([], 0, [], []),
   ([], 0, [], []),
   ([], 0, [], []),
   ([], 0, [], []),
   ([], 0, [], []),
   ([], 0, [], []),
   ([], 0, [], []),
   ([], 0, [], []),
   ([], 0, [], []),
   ([], 0, [], []),
   ([111, 117, 116], 61, [62], []),
   ([115, 101, 116], 61, [63], []),
   ([114, 101, 115, 101, 116], 61, [64], []),
   ([112, 117, 108, 115, 101], 61, [62, 59], []),
   ([115, 116, 101, 112], 61, [65], []),
   ([116, 105, 109, 101, 114], 61, [53, 54], []),
   ([104, 111, 108, 100], 61, [53, 54], []),
   ([108, 97, 116, 101], 61, [53, 54], []),
   ([99, 111, 117, 110, 116], 61, [66, 54], []),
   ([109, 111, 118, 101], 61, [55, 51], [56, 52]),
   ([97, 100, 100], 61, [55, 51, 51], [56, 52, 52]),
   ([115, 117, 98], 61, [55, 51, 51], [56, 52, 52]),
   ([109, 117, 108], 61, [55, 51, 51], [56, 52, 52]),
   ([100, 105, 118], 61, [55, 51, 51], [56, 52, 52]),
   ([114, 101, 109], 61, [55, 51, 51], []),
   ([114, 101, 97, 108], 61, [56, 51], []),
   ([119, 104, 111, 108, 101], 61, [55, 52], [])]
def fnv (n : Nat) : Value := if n = 0 then .nilFunc else .func (.func n) #[] #[]
def rowCells (r : List UInt8 × Nat × List Nat × List Nat) : List Value :=
  [.string ⟨r.1.toArray⟩, fnv r.2.1, fnv (r.2.2.1.getD 0 0), fnv (r.2.2.1.getD 1 0), fnv (r.2.2.1.getD 2 0), fnv (r.2.2.2.getD 0 0), fnv (r.2.2.2.getD 1 0), fnv (r.2.2.2.getD 2 0)]
def rowsList : List Value := elemTab.flatMap rowCells
theorem store_step {P : Program} {g : Nat} {t : TypeId} {vs tgt : List Value} {cur : Array Value} {w : World} {α : Type} (f : Unit → World → Result α) (hvs : vs = tgt) (hg : w.heap[g]? = some (.cells cur t (0, 0))) (hl : tgt.length = cur.size) (h1 : tgt.all (·.oneCell') = true) :
    ((storeCells ⟨g, 0, none⟩ vs 0).run P w).andThen f = f () (w.setRow g tgt.toArray) := by
  subst hvs
  rw [run_storeCells_from (P := P) g t vs 0 cur w hg (by omega) (fun v hv => List.all_eq_true.1 h1 v hv)]
  simp [Result.andThen]
theorem heap_alloc4 (w : World) (o1 o2 o3 o4 : Obj) : ((((w.alloc o1).alloc o2).alloc o3).alloc o4).heap[w.heap.size]? = some o1 := by
  show ((((w.heap.push o1).push o2).push o3).push o4)[w.heap.size]? = _
  simp [Array.getElem?_push]
  rw [if_neg (by omega), if_neg (by omega)]
set_option maxHeartbeats 4000000 in
set_option maxRecDepth 100000 in
theorem i_rows (w : World) :
    Calls Tryd.prog 43 #[] w fun e w' => e = .returned (.agg rowsList.toArray) ∧ Below w.heap.size w w' := by
  go_enter Tryd.func43, Tryd.ntmps43
  go_wp2
  rw [store_step (tgt := rowsList) (cur := Tryd.zeroCells61) (t := 61)]
  case hvs => kernel_rfl
  case hl => kernel_rfl
  case h1 => kernel_rfl
  case hg => exact heap_alloc4 _ _ _ _ _
  obtain ⟨W, hW⟩ : ∃ W, W = (((w.alloc (Obj.cells Tryd.zeroCells61 61)).alloc (Obj.cells #[.func (.func 51) #[] #[], .func (.func 51) #[] #[], .nilFunc, .func (.func 52) #[] #[], .func (.func 52) #[] #[], .nilFunc] 50)).alloc (Obj.cells #[.func (.func 53) #[] #[], .func (.func 54) #[] #[], .nilFunc, .nilFunc, .nilFunc, .nilFunc] 50)).alloc (Obj.cells #[.func (.func 55) #[] #[], .func (.func 51) #[] #[], .func (.func 51) #[] #[], .func (.func 56) #[] #[], .func (.func 52) #[] #[], .func (.func 52) #[] #[]] 50) := ⟨_, rfl⟩
  have hg : W.heap[w.heap.size]? = some (.cells Tryd.zeroCells61 61 (0, 0)) := by rw [hW]; exact heap_alloc4 _ _ _ _ _
  have hb : Below w.heap.size w W := by rw [hW]; (repeat (first | exact Below.refl _ _ | assumption | refine bl_alloc ?_ _ | refine bl_drewN ?_ _ | refine bl_drew ?_ | refine bl_grow ?_ _ _ | refine bl_set (Nat.le_refl _) ?_ _ | refine bl_call ?_ (by assumption)))
  rw [← hW]
  clear hW
  have hld : (loadVar 61 ⟨w.heap.size, 0, none⟩).run Tryd.prog (W.setRow w.heap.size rowsList.toArray) = .ok (.agg rowsList.toArray) (W.setRow w.heap.size rowsList.toArray) :=
    run_loadVar_row _ _ _ 61 _ (0, 0) _ (setRow_heap _ _ _ _ _ _ hg) Tryd.underlying61 rfl (by kernel_rfl)
  have hbs : Below w.heap.size w (W.setRow w.heap.size rowsList.toArray) := below_setRow hb (Nat.le_refl _) _
  generalize W.setRow w.heap.size rowsList.toArray = V at hld hbs ⊢
  rw [Oper.upon_skip]
  go_wp2
  refine bodyPost_ret (v := .agg rowsList.toArray) (by simp [results, Tryd.results43, Act.put, asAddr, hld]) rfl ⟨rfl, hbs⟩
end Go.Proofs.YtcpojnbfinlgiaaDoor
