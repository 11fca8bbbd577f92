/- X6, X6b, X8, X8b, X8c, X10: texts put together. -/
import Derived.Test.YtipdjmbgbehkaaaGreatDoorGC
import Derived.LaidEql
import Derived.Stop.Asserts
import Derived.RowKitTokens
/- errors.As by its contracts, at the two targets of the program's chapter 3. -/
namespace Go.Proofs.YtipdjmbgbehkaaaGreatDoor
open Go.RowKit Go.Extern.Stop Go.Stop Go.Extern
theorem as_nil (t : Value) (w : World) : Calls Tryz.prog 67 #[.nilIface, t] w fun e w' => e = .returned (.bool false) ∧ w' = w := by
  go_enter Tryz.func67, Tryz.ntmps67
  go_wp2
  go_ret
  exact ⟨rfl, rfl⟩
end Go.Proofs.YtipdjmbgbehkaaaGreatDoor
/- What errors.As writes, at the interface treeWrong. -/
namespace Go.Proofs.YtipdjmbgbehkaaaGreatDoor
open Go.RowKit Go.Extern.Stop Go.Stop Go.Extern
theorem rl_mKind (h : Value) (w : World) : (Go.method 357 158 (.agg #[h]) "Kind").run Tryz.prog w = .ok (227, h) w := by kernel_rfl
theorem rl_mElem (h : Value) (w : World) : (Go.method 357 158 (.agg #[h]) "Elem").run Tryz.prog w = .ok (242, .agg #[h]) w := by kernel_rfl
theorem rl_mImpl (h : Value) (w : World) : (Go.method 357 158 (.agg #[h]) "Implements").run Tryz.prog w = .ok (243, .agg #[h]) w := by kernel_rfl
theorem rl_mAss (h : Value) (w : World) : (Go.method 357 158 (.agg #[h]) "AssignableTo").run Tryz.prog w = .ok (240, .agg #[h]) w := by kernel_rfl
theorem lt_of_cellA {W : World} {t : Addr} {v : Value} (h : W.cell? t = some v) : t.block < W.heap.size := by
  rcases Nat.lt_or_ge t.block W.heap.size with h' | h'
  · exact h'
  · simp [World.cell?, Array.getElem?_eq_none h'] at h
theorem cellA_alloc {W : World} {t : Addr} {v : Value} (ob : Obj) (h : W.cell? t = some v) : (W.alloc ob).cell? t = some v := ((below_alloc W ob).cell (lt_of_cellA h)).trans h
theorem frozenA_alloc {W : World} {t : Addr} {v : Value} (ob : Obj) (h : W.cell? t = some v) (hf : W.frozen? t = false) : (W.alloc ob).frozen? t = false := ((below_alloc W ob).frozen (lt_of_cellA h)).trans hf
end Go.Proofs.YtipdjmbgbehkaaaGreatDoor
/- errors.As at a code: the closed facts, and what is written. -/
namespace Go.Proofs.YtipdjmbgbehkaaaGreatDoor
open Go.RowKit Go.Extern.Stop Go.Stop Go.Extern
end Go.Proofs.YtipdjmbgbehkaaaGreatDoor
/- errors.As at a code. -/
namespace Go.Proofs.YtipdjmbgbehkaaaGreatDoor
open Go.RowKit Go.Extern.Stop Go.Stop Go.Extern
end Go.Proofs.YtipdjmbgbehkaaaGreatDoor
/- The handle of the type 'error'. -/
namespace Go.Proofs.YtipdjmbgbehkaaaGreatDoor
open Go.RowKit Go.Sort Go.BigFrame
/-- The handle of the type 'error' lies where the library keeps it. -/
def ErrTypeAt (w : World) : Prop := w.cell? ⟨1, 0, none⟩ = some (.iface 158 (.agg #[.pointer (some ⟨10, 53, none⟩)]))
theorem ErrTypeAt.below {w w' : World} (h : ErrTypeAt w) (hb : Below w.heap.size w w') : ErrTypeAt w' := (hb.cell (lt_of_cellA h)).trans h
end Go.Proofs.YtipdjmbgbehkaaaGreatDoor
/- errors.As at a bad text. -/
namespace Go.Proofs.YtipdjmbgbehkaaaGreatDoor
open Go.RowKit Go.Extern.Stop Go.Stop Go.Extern
theorem rs_typeOf (v : Value) (w : World) : (ReflectliteType.typeOf #[.iface 155 v]).run Tryz.prog w = .ok (.iface 158 (.agg #[.pointer (some ⟨10, 155, none⟩)])) w := by kernel_rfl
theorem rs_ass (w : World) : (ReflectliteType.relation "AssignableTo" ReflectliteType.assignableTo #[.agg #[.pointer (some ⟨10, 155, none⟩)], .iface 158 (.agg #[.pointer (some ⟨10, 155, none⟩)])]).run Tryz.prog w = .ok (.bool true) w := by kernel_rfl
theorem rs_valueV (k : ByteArray) (w : World) : (ReflectliteValue.unpack (.iface 155 (.agg #[.string k]))).run Tryz.prog w = .ok (.agg #[.pointer (some ⟨10, 155, none⟩), .pointer (some ⟨w.heap.size, 0, none⟩), .int .u64 153]) (w.alloc (.cells #[.string k] 155)) := by kernel_rfl
theorem rs_partsV (a : Addr) (w : World) : (ReflectliteValue.parts (.agg #[.pointer (some ⟨10, 155, none⟩), .pointer (some a), .int .u64 153])).run Tryz.prog w = .ok (some (155, a, 153)) w := by kernel_rfl
theorem rs_value (t : Addr) (w : World) : (ReflectliteValue.unpack (.iface 156 (.pointer (some t)))).run Tryz.prog w = .ok (.agg #[.pointer (some ⟨10, 156, none⟩), .pointer (some ⟨w.heap.size, 0, none⟩), .int .u64 150]) (w.alloc (.cells #[.pointer (some t)] 156)) := by kernel_rfl
theorem rs_type (a : Addr) (w : World) : (ReflectliteValue.methodAny (ReflectliteValue.valueError "reflectlite.Value.Type" 0) (fun t _ _ _ => ReflectliteType.toType t) #[.agg #[.pointer (some ⟨10, 156, none⟩), .pointer (some a), .int .u64 150]]).run Tryz.prog w = .ok (.iface 158 (.agg #[.pointer (some ⟨10, 156, none⟩)])) w := by kernel_rfl
theorem rs_kindP (w : World) : ((ReflectliteType.abiMethod fun t => (fun a : Nat => Value.int IntKind.u8 (a : Int)) <$> Rtype.kind t) #[.pointer (some ⟨10, 156, none⟩)]).run Tryz.prog w = .ok (.int .u8 22) w := by kernel_rfl
theorem rs_kind (w : World) : ((ReflectliteType.abiMethod fun t => (fun a : Nat => Value.int IntKind.u8 (a : Int)) <$> Rtype.kind t) #[.pointer (some ⟨10, 155, none⟩)]).run Tryz.prog w = .ok (.int .u8 25) w := by kernel_rfl
theorem rs_elem (w : World) : (ReflectliteType.method ReflectliteType.elem #[.agg #[.pointer (some ⟨10, 156, none⟩)]]).run Tryz.prog w = .ok (.iface 158 (.agg #[.pointer (some ⟨10, 155, none⟩)])) w := by kernel_rfl
theorem rs_impl (w : World) : (ReflectliteType.relation "Implements" ReflectliteType.implements_ #[.agg #[.pointer (some ⟨10, 155, none⟩)], .iface 158 (.agg #[.pointer (some ⟨10, 53, none⟩)])]).run Tryz.prog w = .ok (.bool true) w := by kernel_rfl
theorem rs_partsP (a : Addr) (w : World) : (ReflectliteValue.parts (.agg #[.pointer (some ⟨10, 156, none⟩), .pointer (some a), .int .u64 150])).run Tryz.prog w = .ok (some (156, a, 150)) w := by kernel_rfl
theorem rs_parts (a : Addr) (w : World) : (ReflectliteValue.parts (.agg #[.pointer (some ⟨10, 155, none⟩), .pointer (some a), .int .u64 409])).run Tryz.prog w = .ok (some (155, a, 409)) w := by kernel_rfl
theorem rs_elemOf (w : World) : (Rtype.elem? 156).run Tryz.prog w = .ok (some 155) w := by kernel_rfl
theorem rs_mk (p : Addr) (w : World) : (ReflectliteValue.mk 155 p ReflectliteValue.flagAddr).run Tryz.prog w = .ok (.agg #[.pointer (some ⟨10, 155, none⟩), .pointer (some p), .int .u64 409]) w := by kernel_rfl
theorem rs_direct (w : World) : (Rtype.directlyAssignable 155 155).run Tryz.prog w = .ok true w := by kernel_rfl
theorem rs_isNil (a p : Addr) (W : World) (ha : W.cell? a = some (.pointer (some p))) :
    (ReflectliteValue.method (ReflectliteValue.valueError "reflectlite.Value.IsNil" 0) ReflectliteValue.isNil #[.agg #[.pointer (some ⟨10, 156, none⟩), .pointer (some a), .int .u64 150]]).run Tryz.prog W = .ok (.bool false) W := by
  change Sem.run _ (ReflectliteValue.parts (.agg #[.pointer (some ⟨10, 156, none⟩), .pointer (some a), .int .u64 150]) >>= _) _ = _
  simp only [Sem.run_bind, rs_partsP, Result.andThen]
  simp [ReflectliteValue.isNil, loadVar, isAgg, underlying, Tryz.underlying156, ha, Result.andThen]
theorem rs_elemV (a p : Addr) (W : World) (ha : W.cell? a = some (.pointer (some p))) :
    (ReflectliteValue.method (ReflectliteValue.valueError "reflectlite.Value.Elem" 0) ReflectliteValue.elem #[.agg #[.pointer (some ⟨10, 156, none⟩), .pointer (some a), .int .u64 150]]).run Tryz.prog W
      = .ok (.agg #[.pointer (some ⟨10, 155, none⟩), .pointer (some p), .int .u64 409]) W := by
  change Sem.run _ (ReflectliteValue.parts (.agg #[.pointer (some ⟨10, 156, none⟩), .pointer (some a), .int .u64 150]) >>= _) _ = _
  simp only [Sem.run_bind, rs_partsP, Result.andThen]
  simp [ReflectliteValue.elem, loadVar, isAgg, underlying, Tryz.underlying156, ha, Result.andThen, rs_elemOf, rs_mk]
theorem rs_set (ta b : Addr) (k : ByteArray) (old : Value) (W : World) (hb : W.cell? b = some (.string k)) (ht : W.cell? ta = some old) (hf : W.frozen? ta = false) :
    (ReflectliteValue.set #[.agg #[.pointer (some ⟨10, 155, none⟩), .pointer (some ta), .int .u64 409], .agg #[.pointer (some ⟨10, 155, none⟩), .pointer (some b), .int .u64 153]]).run Tryz.prog W
      = .ok (.tuple #[]) (W.setCell ta (.string k)) := by
  change Sem.run _ (ReflectliteValue.parts (.agg #[.pointer (some ⟨10, 155, none⟩), .pointer (some ta), .int .u64 409]) >>= fun p => ReflectliteValue.parts (.agg #[.pointer (some ⟨10, 155, none⟩), .pointer (some b), .int .u64 153]) >>= _) _ = _
  simp only [Sem.run_bind, rs_parts, rs_partsV, Result.andThen]
  have hld : (loadCells b 1).run Tryz.prog W = .ok #[.string k] W := by
    simp [loadCells, loadCellsFrom, hb, Addr.add, Result.andThen]
  simp [ReflectliteValue.flagAddr, loadVar, isAgg, underlying, Tryz.underlying155, hld, Result.andThen, rs_direct, storeVar, Value.cells, storeCells, Addr.add]
  rw [run_store Tryz.prog W ta _ _ (by rfl)]
  simp [ht, hf]
set_option maxHeartbeats 4000000 in
set_option maxRecDepth 100000 in
theorem as_hitS (k : ByteArray) (t : Addr) (old : Value) (w : World) (hg : w.cell? ⟨1, 0, none⟩ = some (.iface 158 (.agg #[.pointer (some ⟨10, 53, none⟩)]))) (ht0 : w.cell? t = some old) (hf0 : w.frozen? t = false) :
    Calls Tryz.prog 67 #[.iface 155 (.agg #[.string k]), .iface 156 (.pointer (some t))] w fun ev w' => ev = .returned (.bool true) ∧ ∃ w4, Below w.heap.size w w4 ∧ w' = w4.setCell t (.string k) := by
  have h6 := @run_callFunc_extern Tryz.prog 91 _ (fun args => ReflectliteValue.unpack (args.getD 0 (.tuple #[]))) Tryz.func91 (by kernel_rfl) (by kernel_rfl) (by kernel_rfl) (by kernel_rfl)
  have h7 := @run_callFunc_extern Tryz.prog 92 _ (ReflectliteValue.methodAny (ReflectliteValue.valueError "reflectlite.Value.Type" 0) (fun t _ _ _ => ReflectliteType.toType t)) Tryz.func92 (by kernel_rfl) (by kernel_rfl) (by kernel_rfl) (by kernel_rfl)
  have h8 := @run_callFunc_extern Tryz.prog 93 _ (ReflectliteValue.method (ReflectliteValue.valueError "reflectlite.Value.IsNil" 0) ReflectliteValue.isNil) Tryz.func93 (by kernel_rfl) (by kernel_rfl) (by kernel_rfl) (by kernel_rfl)
  have h27 := @run_callFunc_extern Tryz.prog 227 _ (ReflectliteType.abiMethod fun t => do pure (.int .u8 (← Rtype.kind t))) Tryz.func227 (by kernel_rfl) (by kernel_rfl) (by kernel_rfl) (by kernel_rfl)
  have h37 := @run_callFunc_extern Tryz.prog 242 _ (ReflectliteType.method ReflectliteType.elem) Tryz.func242 (by kernel_rfl) (by kernel_rfl) (by kernel_rfl) (by kernel_rfl)
  have h10 := @run_callFunc_extern Tryz.prog 127 _ ReflectliteType.typeOf Tryz.func127 (by kernel_rfl) (by kernel_rfl) (by kernel_rfl) (by kernel_rfl)
  have h35 := @run_callFunc_extern Tryz.prog 240 _ (ReflectliteType.relation "AssignableTo" ReflectliteType.assignableTo) Tryz.func240 (by kernel_rfl) (by kernel_rfl) (by kernel_rfl) (by kernel_rfl)
  have h11 := @run_callFunc_extern Tryz.prog 128 _ (ReflectliteValue.method (ReflectliteValue.valueError "reflectlite.Value.Elem" 0) ReflectliteValue.elem) Tryz.func128 (by kernel_rfl) (by kernel_rfl) (by kernel_rfl) (by kernel_rfl)
  have h12 := @run_callFunc_extern Tryz.prog 129 _ ReflectliteValue.set Tryz.func129 (by kernel_rfl) (by kernel_rfl) (by kernel_rfl) (by kernel_rfl)
  have f6 := rs_value
  have f7 := rs_type
  have k1 := rs_kindP
  have k2 := rs_kind
  have e1 := rs_elem
  have tO := rs_typeOf
  have aB := rs_ass
  have vB := rs_valueV
  have h38 := @run_callFunc_extern Tryz.prog 243 _ (ReflectliteType.relation "Implements" ReflectliteType.implements_) Tryz.func243 (by kernel_rfl) (by kernel_rfl) (by kernel_rfl) (by kernel_rfl)
  have i1 := rs_impl
  have mI := rl_mImpl
  have hg2 : ((w.alloc (.cells #[.pointer (some t)] 156)).alloc (.cells #[.pointer (some ⟨10, 156, none⟩), .pointer (some ⟨w.heap.size, 0, none⟩), .int .u64 150] 122)).cell? ⟨1, 0, none⟩ = some (.iface 158 (.agg #[.pointer (some ⟨10, 53, none⟩)])) := cellA_alloc _ (cellA_alloc _ hg)
  have mK := rl_mKind
  have mE := rl_mElem
  have mA := rl_mAss
  have n8 := rs_isNil ⟨w.heap.size, 0, none⟩ t ((w.alloc (.cells #[.pointer (some t)] 156)).alloc (.cells #[.pointer (some ⟨10, 156, none⟩), .pointer (some ⟨w.heap.size, 0, none⟩), .int .u64 150] 122)) (cellA_alloc _ (by simp))
  have el := rs_elemV ⟨w.heap.size, 0, none⟩ t (((w.alloc (.cells #[.pointer (some t)] 156)).alloc (.cells #[.pointer (some ⟨10, 156, none⟩), .pointer (some ⟨w.heap.size, 0, none⟩), .int .u64 150] 122)).alloc (.cells #[.pointer (some ⟨10, 156, none⟩), .pointer (some ⟨w.heap.size, 0, none⟩), .int .u64 150] 122)) (cellA_alloc _ (cellA_alloc _ (by simp)))
  have st := rs_set t ⟨w.heap.size + 1 + 1 + 1, 0, none⟩ k old ((((w.alloc (.cells #[.pointer (some t)] 156)).alloc (.cells #[.pointer (some ⟨10, 156, none⟩), .pointer (some ⟨w.heap.size, 0, none⟩), .int .u64 150] 122)).alloc (.cells #[.pointer (some ⟨10, 156, none⟩), .pointer (some ⟨w.heap.size, 0, none⟩), .int .u64 150] 122)).alloc (.cells #[.string k] 155)) (by rw [World.cell?_alloc_at _ _ _ _ (by simp)]; rfl) (cellA_alloc _ (cellA_alloc _ (cellA_alloc _ (cellA_alloc _ ht0)))) (frozenA_alloc _ (cellA_alloc _ (cellA_alloc _ (cellA_alloc _ ht0))) (frozenA_alloc _ (cellA_alloc _ (cellA_alloc _ ht0)) (frozenA_alloc _ (cellA_alloc _ ht0) (frozenA_alloc _ ht0 hf0))))
  go_enter Tryz.func67, Tryz.ntmps67
  go_wp2
  refine wp_loop_rounds 1 ?_
  rw [rounds_succ]
  go_wp2
  go_ret
  exact ⟨rfl, _, by (repeat (first | with_reducible exact Below.refl _ _ | with_reducible assumption | with_reducible refine bl_set (by first | exact Nat.le_refl _ | (simp; done) | (simp; omega) | omega) ?_ _ | with_reducible refine bl_alloc ?_ _ | with_reducible refine bl_drewN ?_ _ | with_reducible refine bl_drew ?_ | with_reducible refine bl_grow ?_ _ _ | with_reducible refine bl_call ?_ (by assumption))), rfl⟩
end Go.Proofs.YtipdjmbgbehkaaaGreatDoor
