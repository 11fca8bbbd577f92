/- X6, X6b, X7, X7r, X8, X8b, X8c, X9: texts put together. -/
import Derived.Test.YtodialneapakgaaGreatDoorGC
import Derived.LaidEql
import Derived.Stop.Asserts
import Derived.RowKitTokens
import Derived.Test.YtodialneapakgaaGreatDoorGX
import Derived.Test.YtodialneapakgaaGreatDoorGT
/- errors.As by its contracts, at the two targets of the program's chapter 3. -/
namespace Go.Proofs.YtodialneapakgaaGreatDoor
open Go.RowKit Go.Extern.Stop Go.Stop Go.Extern
theorem as_nil (t : Value) (w : World) : Calls Tryz.prog 37 #[.nilIface, t] w fun e w' => e = .returned (.bool false) ∧ w' = w := by
  go_enter Tryz.func37, Tryz.ntmps37
  go_wp2
  go_ret
  exact ⟨rfl, rfl⟩
theorem rl_valueW (t : Addr) (w : World) : (ReflectliteValue.unpack (.iface 99 (.pointer (some t)))).run Tryz.prog w = .ok (.agg #[.pointer (some ⟨9, 99, none⟩), .pointer (some ⟨w.heap.size, 0, none⟩), .int .u64 150]) (w.alloc (.cells #[.pointer (some t)] 99)) := by kernel_rfl
theorem rl_typeW (a : Addr) (w : World) : (ReflectliteValue.methodAny (ReflectliteValue.valueError "reflectlite.Value.Type" 0) (fun t _ _ _ => ReflectliteType.toType t) #[.agg #[.pointer (some ⟨9, 99, none⟩), .pointer (some a), .int .u64 150]]).run Tryz.prog w = .ok (.iface 162 (.agg #[.pointer (some ⟨9, 99, none⟩)])) w := by kernel_rfl
theorem rl_kindPW (w : World) : ((ReflectliteType.abiMethod fun t => (fun a : Nat => Value.int IntKind.u8 (a : Int)) <$> Rtype.kind t) #[.pointer (some ⟨9, 99, none⟩)]).run Tryz.prog w = .ok (.int .u8 22) w := by kernel_rfl
theorem rl_kindW (w : World) : ((ReflectliteType.abiMethod fun t => (fun a : Nat => Value.int IntKind.u8 (a : Int)) <$> Rtype.kind t) #[.pointer (some ⟨9, 97, none⟩)]).run Tryz.prog w = .ok (.int .u8 20) w := by kernel_rfl
theorem rl_elemW (w : World) : (ReflectliteType.method ReflectliteType.elem #[.agg #[.pointer (some ⟨9, 99, none⟩)]]).run Tryz.prog w = .ok (.iface 162 (.agg #[.pointer (some ⟨9, 97, none⟩)])) w := by kernel_rfl
theorem rl_typeOfB (v : Value) (w : World) : (ReflectliteType.typeOf #[.iface 135 v]).run Tryz.prog w = .ok (.iface 162 (.agg #[.pointer (some ⟨9, 135, none⟩)])) w := by kernel_rfl
theorem rl_typeOfR (v : Value) (w : World) : (ReflectliteType.typeOf #[.iface 138 v]).run Tryz.prog w = .ok (.iface 162 (.agg #[.pointer (some ⟨9, 138, none⟩)])) w := by kernel_rfl
theorem rl_assBW (w : World) : (ReflectliteType.relation "AssignableTo" ReflectliteType.assignableTo #[.agg #[.pointer (some ⟨9, 135, none⟩)], .iface 162 (.agg #[.pointer (some ⟨9, 97, none⟩)])]).run Tryz.prog w = .ok (.bool true) w := by kernel_rfl
theorem rl_assRW (w : World) : (ReflectliteType.relation "AssignableTo" ReflectliteType.assignableTo #[.agg #[.pointer (some ⟨9, 138, none⟩)], .iface 162 (.agg #[.pointer (some ⟨9, 97, none⟩)])]).run Tryz.prog w = .ok (.bool true) w := by kernel_rfl
theorem rl_assBB (w : World) : (ReflectliteType.relation "AssignableTo" ReflectliteType.assignableTo #[.agg #[.pointer (some ⟨9, 135, none⟩)], .iface 162 (.agg #[.pointer (some ⟨9, 135, none⟩)])]).run Tryz.prog w = .ok (.bool true) w := by kernel_rfl
theorem rl_valueB (k : Int) (w : World) : (ReflectliteValue.unpack (.iface 135 (.int .i64 k))).run Tryz.prog w = .ok (.agg #[.pointer (some ⟨9, 135, none⟩), .pointer (some ⟨w.heap.size, 0, none⟩), .int .u64 130]) (w.alloc (.cells #[.int .i64 k] 135)) := by kernel_rfl
theorem rl_valueR (a b : Value) (w : World) : (ReflectliteValue.unpack (.iface 138 (.agg #[a, b]))).run Tryz.prog w = .ok (.agg #[.pointer (some ⟨9, 138, none⟩), .pointer (some ⟨w.heap.size, 0, none⟩), .int .u64 153]) (w.alloc (.cells #[a, b] 138)) := by kernel_rfl
theorem rl_partsPW (a : Addr) (w : World) : (ReflectliteValue.parts (.agg #[.pointer (some ⟨9, 99, none⟩), .pointer (some a), .int .u64 150])).run Tryz.prog w = .ok (some (99, a, 150)) w := by kernel_rfl
theorem rl_isNilW (a p : Addr) (W : World) (ha : W.cell? a = some (.pointer (some p))) :
    (ReflectliteValue.method (ReflectliteValue.valueError "reflectlite.Value.IsNil" 0) ReflectliteValue.isNil #[.agg #[.pointer (some ⟨9, 99, none⟩), .pointer (some a), .int .u64 150]]).run Tryz.prog W = .ok (.bool false) W := by
  change Sem.run _ (ReflectliteValue.parts (.agg #[.pointer (some ⟨9, 99, none⟩), .pointer (some a), .int .u64 150]) >>= _) _ = _
  simp only [Sem.run_bind, rl_partsPW, Result.andThen]
  simp [ReflectliteValue.isNil, loadVar, isAgg, underlying, Tryz.underlying99, ha, Result.andThen]
theorem rl_elemOfW (w : World) : (Rtype.elem? 99).run Tryz.prog w = .ok (some 97) w := by kernel_rfl
theorem rl_mkW (p : Addr) (w : World) : (ReflectliteValue.mk 97 p ReflectliteValue.flagAddr).run Tryz.prog w = .ok (.agg #[.pointer (some ⟨9, 97, none⟩), .pointer (some p), .int .u64 404]) w := by kernel_rfl
theorem rl_elemVW (a p : Addr) (W : World) (ha : W.cell? a = some (.pointer (some p))) :
    (ReflectliteValue.method (ReflectliteValue.valueError "reflectlite.Value.Elem" 0) ReflectliteValue.elem #[.agg #[.pointer (some ⟨9, 99, none⟩), .pointer (some a), .int .u64 150]]).run Tryz.prog W
      = .ok (.agg #[.pointer (some ⟨9, 97, none⟩), .pointer (some p), .int .u64 404]) W := by
  change Sem.run _ (ReflectliteValue.parts (.agg #[.pointer (some ⟨9, 99, none⟩), .pointer (some a), .int .u64 150]) >>= _) _ = _
  simp only [Sem.run_bind, rl_partsPW, Result.andThen]
  simp [ReflectliteValue.elem, loadVar, isAgg, underlying, Tryz.underlying99, ha, Result.andThen, rl_elemOfW, rl_mkW]
theorem rl_partsW (a : Addr) (w : World) : (ReflectliteValue.parts (.agg #[.pointer (some ⟨9, 97, none⟩), .pointer (some a), .int .u64 404])).run Tryz.prog w = .ok (some (97, a, 404)) w := by kernel_rfl
theorem rl_partsB (a : Addr) (w : World) : (ReflectliteValue.parts (.agg #[.pointer (some ⟨9, 135, none⟩), .pointer (some a), .int .u64 130])).run Tryz.prog w = .ok (some (135, a, 130)) w := by kernel_rfl
theorem rl_partsR (a : Addr) (w : World) : (ReflectliteValue.parts (.agg #[.pointer (some ⟨9, 138, none⟩), .pointer (some a), .int .u64 153])).run Tryz.prog w = .ok (some (138, a, 153)) w := by kernel_rfl
theorem rl_directWB (w : World) : (Rtype.directlyAssignable 97 135).run Tryz.prog w = .ok false w := by kernel_rfl
theorem rl_directWR (w : World) : (Rtype.directlyAssignable 97 138).run Tryz.prog w = .ok false w := by kernel_rfl
theorem rl_implWB (w : World) : (Rtype.implements 97 135).run Tryz.prog w = .ok true w := by kernel_rfl
theorem rl_implWR (w : World) : (Rtype.implements 97 138).run Tryz.prog w = .ok true w := by kernel_rfl
theorem rl_kB (w : World) : (Rtype.kind 135).run Tryz.prog w = .ok 2 w := by kernel_rfl
theorem rl_kR (w : World) : (Rtype.kind 138).run Tryz.prog w = .ok 25 w := by kernel_rfl
end Go.Proofs.YtodialneapakgaaGreatDoor
/- What errors.As writes, at the interface treeWrong. -/
namespace Go.Proofs.YtodialneapakgaaGreatDoor
open Go.RowKit Go.Extern.Stop Go.Stop Go.Extern
theorem rl_setB (ta b : Addr) (k : Int) (old : Value) (W : World) (hb : W.cell? b = some (.int .i64 k)) (ht : W.cell? ta = some old) (hf : W.frozen? ta = false) :
    (ReflectliteValue.set #[.agg #[.pointer (some ⟨9, 97, none⟩), .pointer (some ta), .int .u64 404], .agg #[.pointer (some ⟨9, 135, none⟩), .pointer (some b), .int .u64 130]]).run Tryz.prog W
      = .ok (.tuple #[]) (W.setCell ta (.iface 135 (.int .i64 k))) := by
  change Sem.run _ (ReflectliteValue.parts (.agg #[.pointer (some ⟨9, 97, none⟩), .pointer (some ta), .int .u64 404]) >>= fun p => ReflectliteValue.parts (.agg #[.pointer (some ⟨9, 135, none⟩), .pointer (some b), .int .u64 130]) >>= _) _ = _
  simp only [Sem.run_bind, rl_partsW, rl_partsB, Result.andThen]
  simp [ReflectliteValue.flagAddr, loadVar, isAgg, underlying, Tryz.underlying135, hb, Result.andThen, rl_directWB, rl_implWB, rl_kB, storeVar, Value.cells, storeCells, Addr.add]
  rw [run_store Tryz.prog W ta _ _ (by rfl)]
  simp [ht, hf]
theorem rl_setR (ta b : Addr) (u v old : Value) (W : World) (hb0 : W.cell? (b.add 0) = some u) (hb1 : W.cell? (b.add 1) = some v) (ht : W.cell? ta = some old) (hf : W.frozen? ta = false) :
    (ReflectliteValue.set #[.agg #[.pointer (some ⟨9, 97, none⟩), .pointer (some ta), .int .u64 404], .agg #[.pointer (some ⟨9, 138, none⟩), .pointer (some b), .int .u64 153]]).run Tryz.prog W
      = .ok (.tuple #[]) (W.setCell ta (.iface 138 (.agg #[u, v]))) := by
  have hl : (loadCells b 2).run Tryz.prog W = .ok #[u, v] W := run_loadCells_list W b [u, v] (fun j x hx => by
    match j, hx with
    | 0, hx => cases hx; exact hb0
    | 1, hx => cases hx; exact hb1)
  change Sem.run _ (ReflectliteValue.parts (.agg #[.pointer (some ⟨9, 97, none⟩), .pointer (some ta), .int .u64 404]) >>= fun p => ReflectliteValue.parts (.agg #[.pointer (some ⟨9, 138, none⟩), .pointer (some b), .int .u64 153]) >>= _) _ = _
  simp only [Sem.run_bind, rl_partsW, rl_partsR, Result.andThen]
  simp [ReflectliteValue.flagAddr, loadVar, isAgg, underlying, Tryz.underlying138, hl, Result.andThen, rl_directWR, rl_implWR, rl_kR, storeVar, Value.cells, storeCells, Addr.add]
  rw [run_store Tryz.prog W ta _ _ (by rfl)]
  simp [ht, hf]
theorem rl_mKind (h : Value) (w : World) : (Go.method 384 162 (.agg #[h]) "Kind").run Tryz.prog w = .ok (226, h) w := by kernel_rfl
theorem rl_mElem (h : Value) (w : World) : (Go.method 384 162 (.agg #[h]) "Elem").run Tryz.prog w = .ok (242, .agg #[h]) w := by kernel_rfl
theorem rl_mImpl (h : Value) (w : World) : (Go.method 384 162 (.agg #[h]) "Implements").run Tryz.prog w = .ok (243, .agg #[h]) w := by kernel_rfl
theorem rl_mAss (h : Value) (w : World) : (Go.method 384 162 (.agg #[h]) "AssignableTo").run Tryz.prog w = .ok (240, .agg #[h]) w := by kernel_rfl
theorem lt_of_cellA {W : World} {t : Addr} {v : Value} (h : W.cell? t = some v) : t.block < W.heap.size := by
  rcases Nat.lt_or_ge t.block W.heap.size with h' | h'
  · exact h'
  · simp [World.cell?, Array.getElem?_eq_none h'] at h
theorem cellA_alloc {W : World} {t : Addr} {v : Value} (ob : Obj) (h : W.cell? t = some v) : (W.alloc ob).cell? t = some v := ((below_alloc W ob).cell (lt_of_cellA h)).trans h
theorem frozenA_alloc {W : World} {t : Addr} {v : Value} (ob : Obj) (h : W.cell? t = some v) (hf : W.frozen? t = false) : (W.alloc ob).frozen? t = false := ((below_alloc W ob).frozen (lt_of_cellA h)).trans hf
end Go.Proofs.YtodialneapakgaaGreatDoor
/- errors.As at the interface treeWrong. -/
namespace Go.Proofs.YtodialneapakgaaGreatDoor
open Go.RowKit Go.Extern.Stop Go.Stop Go.Extern
set_option maxHeartbeats 4000000 in
set_option maxRecDepth 100000 in
theorem as_hitB (k : Int) (t : Addr) (old : Value) (w : World) (ht0 : w.cell? t = some old) (hf0 : w.frozen? t = false) :
    Calls Tryz.prog 37 #[.iface 135 (.int .i64 k), .iface 99 (.pointer (some t))] w fun ev w' => ev = .returned (.bool true) ∧ ∃ w4, Below w.heap.size w w4 ∧ w' = w4.setCell t (.iface 135 (.int .i64 k)) := by
  have h6 := @run_callFunc_extern Tryz.prog 71 _ (fun args => ReflectliteValue.unpack (args.getD 0 (.tuple #[]))) Tryz.func71 (by kernel_rfl) (by kernel_rfl) (by kernel_rfl) (by kernel_rfl)
  have h7 := @run_callFunc_extern Tryz.prog 72 _ (ReflectliteValue.methodAny (ReflectliteValue.valueError "reflectlite.Value.Type" 0) (fun t _ _ _ => ReflectliteType.toType t)) Tryz.func72 (by kernel_rfl) (by kernel_rfl) (by kernel_rfl) (by kernel_rfl)
  have h8 := @run_callFunc_extern Tryz.prog 73 _ (ReflectliteValue.method (ReflectliteValue.valueError "reflectlite.Value.IsNil" 0) ReflectliteValue.isNil) Tryz.func73 (by kernel_rfl) (by kernel_rfl) (by kernel_rfl) (by kernel_rfl)
  have h27 := @run_callFunc_extern Tryz.prog 226 _ (ReflectliteType.abiMethod fun t => do pure (.int .u8 (← Rtype.kind t))) Tryz.func226 (by kernel_rfl) (by kernel_rfl) (by kernel_rfl) (by kernel_rfl)
  have h37 := @run_callFunc_extern Tryz.prog 242 _ (ReflectliteType.method ReflectliteType.elem) Tryz.func242 (by kernel_rfl) (by kernel_rfl) (by kernel_rfl) (by kernel_rfl)
  have h10 := @run_callFunc_extern Tryz.prog 126 _ ReflectliteType.typeOf Tryz.func126 (by kernel_rfl) (by kernel_rfl) (by kernel_rfl) (by kernel_rfl)
  have h35 := @run_callFunc_extern Tryz.prog 240 _ (ReflectliteType.relation "AssignableTo" ReflectliteType.assignableTo) Tryz.func240 (by kernel_rfl) (by kernel_rfl) (by kernel_rfl) (by kernel_rfl)
  have h11 := @run_callFunc_extern Tryz.prog 127 _ (ReflectliteValue.method (ReflectliteValue.valueError "reflectlite.Value.Elem" 0) ReflectliteValue.elem) Tryz.func127 (by kernel_rfl) (by kernel_rfl) (by kernel_rfl) (by kernel_rfl)
  have h12 := @run_callFunc_extern Tryz.prog 128 _ ReflectliteValue.set Tryz.func128 (by kernel_rfl) (by kernel_rfl) (by kernel_rfl) (by kernel_rfl)
  have f6 := rl_valueW
  have f7 := rl_typeW
  have k1 := rl_kindPW
  have k2 := rl_kindW
  have e1 := rl_elemW
  have tO := rl_typeOfB
  have aB := rl_assBW
  have vB := rl_valueB
  have mK := rl_mKind
  have mE := rl_mElem
  have mA := rl_mAss
  have n8 := rl_isNilW ⟨w.heap.size, 0, none⟩ t ((w.alloc (.cells #[.pointer (some t)] 99)).alloc (.cells #[.pointer (some ⟨9, 99, none⟩), .pointer (some ⟨w.heap.size, 0, none⟩), .int .u64 150] 115)) (cellA_alloc _ (by simp))
  have el := rl_elemVW ⟨w.heap.size, 0, none⟩ t (((w.alloc (.cells #[.pointer (some t)] 99)).alloc (.cells #[.pointer (some ⟨9, 99, none⟩), .pointer (some ⟨w.heap.size, 0, none⟩), .int .u64 150] 115)).alloc (.cells #[.pointer (some ⟨9, 99, none⟩), .pointer (some ⟨w.heap.size, 0, none⟩), .int .u64 150] 115)) (cellA_alloc _ (cellA_alloc _ (by simp)))
  have st := rl_setB t ⟨w.heap.size + 1 + 1 + 1, 0, none⟩ k old ((((w.alloc (.cells #[.pointer (some t)] 99)).alloc (.cells #[.pointer (some ⟨9, 99, none⟩), .pointer (some ⟨w.heap.size, 0, none⟩), .int .u64 150] 115)).alloc (.cells #[.pointer (some ⟨9, 99, none⟩), .pointer (some ⟨w.heap.size, 0, none⟩), .int .u64 150] 115)).alloc (.cells #[.int .i64 k] 135)) (by rw [World.cell?_alloc_at _ _ _ _ (by simp)]; rfl) (cellA_alloc _ (cellA_alloc _ (cellA_alloc _ (cellA_alloc _ ht0)))) (frozenA_alloc _ (cellA_alloc _ (cellA_alloc _ (cellA_alloc _ ht0))) (frozenA_alloc _ (cellA_alloc _ (cellA_alloc _ ht0)) (frozenA_alloc _ (cellA_alloc _ ht0) (frozenA_alloc _ ht0 hf0))))
  go_enter Tryz.func37, Tryz.ntmps37
  go_wp2
  refine wp_loop_rounds 1 ?_
  rw [rounds_succ]
  go_wp2
  go_ret
  exact ⟨rfl, _, by (repeat (first | with_reducible exact Below.refl _ _ | with_reducible assumption | with_reducible refine bl_set (by first | exact Nat.le_refl _ | (simp; done) | (simp; omega) | omega) ?_ _ | with_reducible refine bl_alloc ?_ _ | with_reducible refine bl_drewN ?_ _ | with_reducible refine bl_drew ?_ | with_reducible refine bl_grow ?_ _ _ | with_reducible refine bl_call ?_ (by assumption))), rfl⟩
end Go.Proofs.YtodialneapakgaaGreatDoor
/- errors.As at the interface treeWrong, of what is wrapped with its rung. -/
namespace Go.Proofs.YtodialneapakgaaGreatDoor
open Go.RowKit Go.Extern.Stop Go.Stop Go.Extern
set_option maxHeartbeats 4000000 in
set_option maxRecDepth 100000 in
theorem as_hitR (u v : Value) (t : Addr) (old : Value) (w : World) (ht0 : w.cell? t = some old) (hf0 : w.frozen? t = false) :
    Calls Tryz.prog 37 #[.iface 138 (.agg #[u, v]), .iface 99 (.pointer (some t))] w fun ev w' => ev = .returned (.bool true) ∧ ∃ w4, Below w.heap.size w w4 ∧ w' = w4.setCell t (.iface 138 (.agg #[u, v])) := by
  have h6 := @run_callFunc_extern Tryz.prog 71 _ (fun args => ReflectliteValue.unpack (args.getD 0 (.tuple #[]))) Tryz.func71 (by kernel_rfl) (by kernel_rfl) (by kernel_rfl) (by kernel_rfl)
  have h7 := @run_callFunc_extern Tryz.prog 72 _ (ReflectliteValue.methodAny (ReflectliteValue.valueError "reflectlite.Value.Type" 0) (fun t _ _ _ => ReflectliteType.toType t)) Tryz.func72 (by kernel_rfl) (by kernel_rfl) (by kernel_rfl) (by kernel_rfl)
  have h8 := @run_callFunc_extern Tryz.prog 73 _ (ReflectliteValue.method (ReflectliteValue.valueError "reflectlite.Value.IsNil" 0) ReflectliteValue.isNil) Tryz.func73 (by kernel_rfl) (by kernel_rfl) (by kernel_rfl) (by kernel_rfl)
  have h27 := @run_callFunc_extern Tryz.prog 226 _ (ReflectliteType.abiMethod fun t => do pure (.int .u8 (← Rtype.kind t))) Tryz.func226 (by kernel_rfl) (by kernel_rfl) (by kernel_rfl) (by kernel_rfl)
  have h37 := @run_callFunc_extern Tryz.prog 242 _ (ReflectliteType.method ReflectliteType.elem) Tryz.func242 (by kernel_rfl) (by kernel_rfl) (by kernel_rfl) (by kernel_rfl)
  have h10 := @run_callFunc_extern Tryz.prog 126 _ ReflectliteType.typeOf Tryz.func126 (by kernel_rfl) (by kernel_rfl) (by kernel_rfl) (by kernel_rfl)
  have h35 := @run_callFunc_extern Tryz.prog 240 _ (ReflectliteType.relation "AssignableTo" ReflectliteType.assignableTo) Tryz.func240 (by kernel_rfl) (by kernel_rfl) (by kernel_rfl) (by kernel_rfl)
  have h11 := @run_callFunc_extern Tryz.prog 127 _ (ReflectliteValue.method (ReflectliteValue.valueError "reflectlite.Value.Elem" 0) ReflectliteValue.elem) Tryz.func127 (by kernel_rfl) (by kernel_rfl) (by kernel_rfl) (by kernel_rfl)
  have h12 := @run_callFunc_extern Tryz.prog 128 _ ReflectliteValue.set Tryz.func128 (by kernel_rfl) (by kernel_rfl) (by kernel_rfl) (by kernel_rfl)
  have f6 := rl_valueW
  have f7 := rl_typeW
  have k1 := rl_kindPW
  have k2 := rl_kindW
  have e1 := rl_elemW
  have tO := rl_typeOfR
  have aB := rl_assRW
  have vB := rl_valueR
  have mK := rl_mKind
  have mE := rl_mElem
  have mA := rl_mAss
  have n8 := rl_isNilW ⟨w.heap.size, 0, none⟩ t ((w.alloc (.cells #[.pointer (some t)] 99)).alloc (.cells #[.pointer (some ⟨9, 99, none⟩), .pointer (some ⟨w.heap.size, 0, none⟩), .int .u64 150] 115)) (cellA_alloc _ (by simp))
  have el := rl_elemVW ⟨w.heap.size, 0, none⟩ t (((w.alloc (.cells #[.pointer (some t)] 99)).alloc (.cells #[.pointer (some ⟨9, 99, none⟩), .pointer (some ⟨w.heap.size, 0, none⟩), .int .u64 150] 115)).alloc (.cells #[.pointer (some ⟨9, 99, none⟩), .pointer (some ⟨w.heap.size, 0, none⟩), .int .u64 150] 115)) (cellA_alloc _ (cellA_alloc _ (by simp)))
  have st := rl_setR t ⟨w.heap.size + 1 + 1 + 1, 0, none⟩ u v old ((((w.alloc (.cells #[.pointer (some t)] 99)).alloc (.cells #[.pointer (some ⟨9, 99, none⟩), .pointer (some ⟨w.heap.size, 0, none⟩), .int .u64 150] 115)).alloc (.cells #[.pointer (some ⟨9, 99, none⟩), .pointer (some ⟨w.heap.size, 0, none⟩), .int .u64 150] 115)).alloc (.cells #[u, v] 138)) (by simp [go_sem, Addr.add]) (by simp [go_sem, Addr.add]) (cellA_alloc _ (cellA_alloc _ (cellA_alloc _ (cellA_alloc _ ht0)))) (frozenA_alloc _ (cellA_alloc _ (cellA_alloc _ (cellA_alloc _ ht0))) (frozenA_alloc _ (cellA_alloc _ (cellA_alloc _ ht0)) (frozenA_alloc _ (cellA_alloc _ ht0) (frozenA_alloc _ ht0 hf0))))
  go_enter Tryz.func37, Tryz.ntmps37
  go_wp2
  refine wp_loop_rounds 1 ?_
  rw [rounds_succ]
  go_wp2
  go_ret
  exact ⟨rfl, _, by (repeat (first | with_reducible exact Below.refl _ _ | with_reducible assumption | with_reducible refine bl_set (by first | exact Nat.le_refl _ | (simp; done) | (simp; omega) | omega) ?_ _ | with_reducible refine bl_alloc ?_ _ | with_reducible refine bl_drewN ?_ _ | with_reducible refine bl_drew ?_ | with_reducible refine bl_grow ?_ _ _ | with_reducible refine bl_call ?_ (by assumption))), rfl⟩
end Go.Proofs.YtodialneapakgaaGreatDoor
/- errors.As at a code: the closed facts, and what is written. -/
namespace Go.Proofs.YtodialneapakgaaGreatDoor
open Go.RowKit Go.Extern.Stop Go.Stop Go.Extern
theorem rb_value (t : Addr) (w : World) : (ReflectliteValue.unpack (.iface 271 (.pointer (some t)))).run Tryz.prog w = .ok (.agg #[.pointer (some ⟨9, 271, none⟩), .pointer (some ⟨w.heap.size, 0, none⟩), .int .u64 150]) (w.alloc (.cells #[.pointer (some t)] 271)) := by kernel_rfl
theorem rb_type (a : Addr) (w : World) : (ReflectliteValue.methodAny (ReflectliteValue.valueError "reflectlite.Value.Type" 0) (fun t _ _ _ => ReflectliteType.toType t) #[.agg #[.pointer (some ⟨9, 271, none⟩), .pointer (some a), .int .u64 150]]).run Tryz.prog w = .ok (.iface 162 (.agg #[.pointer (some ⟨9, 271, none⟩)])) w := by kernel_rfl
theorem rb_kindP (w : World) : ((ReflectliteType.abiMethod fun t => (fun a : Nat => Value.int IntKind.u8 (a : Int)) <$> Rtype.kind t) #[.pointer (some ⟨9, 271, none⟩)]).run Tryz.prog w = .ok (.int .u8 22) w := by kernel_rfl
theorem rb_kind (w : World) : ((ReflectliteType.abiMethod fun t => (fun a : Nat => Value.int IntKind.u8 (a : Int)) <$> Rtype.kind t) #[.pointer (some ⟨9, 135, none⟩)]).run Tryz.prog w = .ok (.int .u8 2) w := by kernel_rfl
theorem rb_elem (w : World) : (ReflectliteType.method ReflectliteType.elem #[.agg #[.pointer (some ⟨9, 271, none⟩)]]).run Tryz.prog w = .ok (.iface 162 (.agg #[.pointer (some ⟨9, 135, none⟩)])) w := by kernel_rfl
theorem rb_impl (w : World) : (ReflectliteType.relation "Implements" ReflectliteType.implements_ #[.agg #[.pointer (some ⟨9, 135, none⟩)], .iface 162 (.agg #[.pointer (some ⟨9, 65, none⟩)])]).run Tryz.prog w = .ok (.bool true) w := by kernel_rfl
theorem rb_partsP (a : Addr) (w : World) : (ReflectliteValue.parts (.agg #[.pointer (some ⟨9, 271, none⟩), .pointer (some a), .int .u64 150])).run Tryz.prog w = .ok (some (271, a, 150)) w := by kernel_rfl
theorem rb_parts (a : Addr) (w : World) : (ReflectliteValue.parts (.agg #[.pointer (some ⟨9, 135, none⟩), .pointer (some a), .int .u64 386])).run Tryz.prog w = .ok (some (135, a, 386)) w := by kernel_rfl
theorem rb_elemOf (w : World) : (Rtype.elem? 271).run Tryz.prog w = .ok (some 135) w := by kernel_rfl
theorem rb_mk (p : Addr) (w : World) : (ReflectliteValue.mk 135 p ReflectliteValue.flagAddr).run Tryz.prog w = .ok (.agg #[.pointer (some ⟨9, 135, none⟩), .pointer (some p), .int .u64 386]) w := by kernel_rfl
theorem rb_direct (w : World) : (Rtype.directlyAssignable 135 135).run Tryz.prog w = .ok true w := by kernel_rfl
theorem rb_isNil (a p : Addr) (W : World) (ha : W.cell? a = some (.pointer (some p))) :
    (ReflectliteValue.method (ReflectliteValue.valueError "reflectlite.Value.IsNil" 0) ReflectliteValue.isNil #[.agg #[.pointer (some ⟨9, 271, none⟩), .pointer (some a), .int .u64 150]]).run Tryz.prog W = .ok (.bool false) W := by
  change Sem.run _ (ReflectliteValue.parts (.agg #[.pointer (some ⟨9, 271, none⟩), .pointer (some a), .int .u64 150]) >>= _) _ = _
  simp only [Sem.run_bind, rb_partsP, Result.andThen]
  simp [ReflectliteValue.isNil, loadVar, isAgg, underlying, Tryz.underlying271, ha, Result.andThen]
theorem rb_elemV (a p : Addr) (W : World) (ha : W.cell? a = some (.pointer (some p))) :
    (ReflectliteValue.method (ReflectliteValue.valueError "reflectlite.Value.Elem" 0) ReflectliteValue.elem #[.agg #[.pointer (some ⟨9, 271, none⟩), .pointer (some a), .int .u64 150]]).run Tryz.prog W
      = .ok (.agg #[.pointer (some ⟨9, 135, none⟩), .pointer (some p), .int .u64 386]) W := by
  change Sem.run _ (ReflectliteValue.parts (.agg #[.pointer (some ⟨9, 271, none⟩), .pointer (some a), .int .u64 150]) >>= _) _ = _
  simp only [Sem.run_bind, rb_partsP, Result.andThen]
  simp [ReflectliteValue.elem, loadVar, isAgg, underlying, Tryz.underlying271, ha, Result.andThen, rb_elemOf, rb_mk]
theorem rb_set (ta b : Addr) (k : Int) (old : Value) (W : World) (hb : W.cell? b = some (.int .i64 k)) (ht : W.cell? ta = some old) (hf : W.frozen? ta = false) :
    (ReflectliteValue.set #[.agg #[.pointer (some ⟨9, 135, none⟩), .pointer (some ta), .int .u64 386], .agg #[.pointer (some ⟨9, 135, none⟩), .pointer (some b), .int .u64 130]]).run Tryz.prog W
      = .ok (.tuple #[]) (W.setCell ta (.int .i64 k)) := by
  change Sem.run _ (ReflectliteValue.parts (.agg #[.pointer (some ⟨9, 135, none⟩), .pointer (some ta), .int .u64 386]) >>= fun p => ReflectliteValue.parts (.agg #[.pointer (some ⟨9, 135, none⟩), .pointer (some b), .int .u64 130]) >>= _) _ = _
  simp only [Sem.run_bind, rb_parts, rl_partsB, Result.andThen]
  simp [ReflectliteValue.flagAddr, loadVar, isAgg, underlying, Tryz.underlying135, hb, Result.andThen, rb_direct, storeVar, Value.cells, storeCells, Addr.add]
  rw [run_store Tryz.prog W ta _ _ (by rfl)]
  simp [ht, hf]
end Go.Proofs.YtodialneapakgaaGreatDoor
/- errors.As at a code. -/
namespace Go.Proofs.YtodialneapakgaaGreatDoor
open Go.RowKit Go.Extern.Stop Go.Stop Go.Extern
set_option maxHeartbeats 4000000 in
set_option maxRecDepth 100000 in
theorem as_hitK (k : Int) (t : Addr) (old : Value) (w : World) (hg : w.cell? ⟨1, 0, none⟩ = some (.iface 162 (.agg #[.pointer (some ⟨9, 65, none⟩)]))) (ht0 : w.cell? t = some old) (hf0 : w.frozen? t = false) :
    Calls Tryz.prog 37 #[.iface 135 (.int .i64 k), .iface 271 (.pointer (some t))] w fun ev w' => ev = .returned (.bool true) ∧ ∃ w4, Below w.heap.size w w4 ∧ w' = w4.setCell t (.int .i64 k) := by
  have h6 := @run_callFunc_extern Tryz.prog 71 _ (fun args => ReflectliteValue.unpack (args.getD 0 (.tuple #[]))) Tryz.func71 (by kernel_rfl) (by kernel_rfl) (by kernel_rfl) (by kernel_rfl)
  have h7 := @run_callFunc_extern Tryz.prog 72 _ (ReflectliteValue.methodAny (ReflectliteValue.valueError "reflectlite.Value.Type" 0) (fun t _ _ _ => ReflectliteType.toType t)) Tryz.func72 (by kernel_rfl) (by kernel_rfl) (by kernel_rfl) (by kernel_rfl)
  have h8 := @run_callFunc_extern Tryz.prog 73 _ (ReflectliteValue.method (ReflectliteValue.valueError "reflectlite.Value.IsNil" 0) ReflectliteValue.isNil) Tryz.func73 (by kernel_rfl) (by kernel_rfl) (by kernel_rfl) (by kernel_rfl)
  have h27 := @run_callFunc_extern Tryz.prog 226 _ (ReflectliteType.abiMethod fun t => do pure (.int .u8 (← Rtype.kind t))) Tryz.func226 (by kernel_rfl) (by kernel_rfl) (by kernel_rfl) (by kernel_rfl)
  have h37 := @run_callFunc_extern Tryz.prog 242 _ (ReflectliteType.method ReflectliteType.elem) Tryz.func242 (by kernel_rfl) (by kernel_rfl) (by kernel_rfl) (by kernel_rfl)
  have h10 := @run_callFunc_extern Tryz.prog 126 _ ReflectliteType.typeOf Tryz.func126 (by kernel_rfl) (by kernel_rfl) (by kernel_rfl) (by kernel_rfl)
  have h35 := @run_callFunc_extern Tryz.prog 240 _ (ReflectliteType.relation "AssignableTo" ReflectliteType.assignableTo) Tryz.func240 (by kernel_rfl) (by kernel_rfl) (by kernel_rfl) (by kernel_rfl)
  have h11 := @run_callFunc_extern Tryz.prog 127 _ (ReflectliteValue.method (ReflectliteValue.valueError "reflectlite.Value.Elem" 0) ReflectliteValue.elem) Tryz.func127 (by kernel_rfl) (by kernel_rfl) (by kernel_rfl) (by kernel_rfl)
  have h12 := @run_callFunc_extern Tryz.prog 128 _ ReflectliteValue.set Tryz.func128 (by kernel_rfl) (by kernel_rfl) (by kernel_rfl) (by kernel_rfl)
  have f6 := rb_value
  have f7 := rb_type
  have k1 := rb_kindP
  have k2 := rb_kind
  have e1 := rb_elem
  have tO := rl_typeOfB
  have aB := rl_assBB
  have vB := rl_valueB
  have h38 := @run_callFunc_extern Tryz.prog 243 _ (ReflectliteType.relation "Implements" ReflectliteType.implements_) Tryz.func243 (by kernel_rfl) (by kernel_rfl) (by kernel_rfl) (by kernel_rfl)
  have i1 := rb_impl
  have mI := rl_mImpl
  have hg2 : ((w.alloc (.cells #[.pointer (some t)] 271)).alloc (.cells #[.pointer (some ⟨9, 271, none⟩), .pointer (some ⟨w.heap.size, 0, none⟩), .int .u64 150] 115)).cell? ⟨1, 0, none⟩ = some (.iface 162 (.agg #[.pointer (some ⟨9, 65, none⟩)])) := cellA_alloc _ (cellA_alloc _ hg)
  have mK := rl_mKind
  have mE := rl_mElem
  have mA := rl_mAss
  have n8 := rb_isNil ⟨w.heap.size, 0, none⟩ t ((w.alloc (.cells #[.pointer (some t)] 271)).alloc (.cells #[.pointer (some ⟨9, 271, none⟩), .pointer (some ⟨w.heap.size, 0, none⟩), .int .u64 150] 115)) (cellA_alloc _ (by simp))
  have el := rb_elemV ⟨w.heap.size, 0, none⟩ t (((w.alloc (.cells #[.pointer (some t)] 271)).alloc (.cells #[.pointer (some ⟨9, 271, none⟩), .pointer (some ⟨w.heap.size, 0, none⟩), .int .u64 150] 115)).alloc (.cells #[.pointer (some ⟨9, 271, none⟩), .pointer (some ⟨w.heap.size, 0, none⟩), .int .u64 150] 115)) (cellA_alloc _ (cellA_alloc _ (by simp)))
  have st := rb_set t ⟨w.heap.size + 1 + 1 + 1, 0, none⟩ k old ((((w.alloc (.cells #[.pointer (some t)] 271)).alloc (.cells #[.pointer (some ⟨9, 271, none⟩), .pointer (some ⟨w.heap.size, 0, none⟩), .int .u64 150] 115)).alloc (.cells #[.pointer (some ⟨9, 271, none⟩), .pointer (some ⟨w.heap.size, 0, none⟩), .int .u64 150] 115)).alloc (.cells #[.int .i64 k] 135)) (by rw [World.cell?_alloc_at _ _ _ _ (by simp)]; rfl) (cellA_alloc _ (cellA_alloc _ (cellA_alloc _ (cellA_alloc _ ht0)))) (frozenA_alloc _ (cellA_alloc _ (cellA_alloc _ (cellA_alloc _ ht0))) (frozenA_alloc _ (cellA_alloc _ (cellA_alloc _ ht0)) (frozenA_alloc _ (cellA_alloc _ ht0) (frozenA_alloc _ ht0 hf0))))
  go_enter Tryz.func37, Tryz.ntmps37
  go_wp2
  refine wp_loop_rounds 1 ?_
  rw [rounds_succ]
  go_wp2
  go_ret
  exact ⟨rfl, _, by (repeat (first | with_reducible exact Below.refl _ _ | with_reducible assumption | with_reducible refine bl_set (by first | exact Nat.le_refl _ | (simp; done) | (simp; omega) | omega) ?_ _ | with_reducible refine bl_alloc ?_ _ | with_reducible refine bl_drewN ?_ _ | with_reducible refine bl_drew ?_ | with_reducible refine bl_grow ?_ _ _ | with_reducible refine bl_call ?_ (by assumption))), rfl⟩
end Go.Proofs.YtodialneapakgaaGreatDoor
/- The handle of the type 'error'. -/
namespace Go.Proofs.YtodialneapakgaaGreatDoor
open Go.RowKit Go.Sort Go.BigFrame
/-- The handle of the type 'error' lies where the library keeps it. -/
def ErrTypeAt (w : World) : Prop := w.cell? ⟨1, 0, none⟩ = some (.iface 162 (.agg #[.pointer (some ⟨9, 65, none⟩)]))
theorem ErrTypeAt.below {w w' : World} (h : ErrTypeAt w) (hb : Below w.heap.size w w') : ErrTypeAt w' := (hb.cell (lt_of_cellA h)).trans h
end Go.Proofs.YtodialneapakgaaGreatDoor
/- Contracts of the program's chapter 3: the fault that an error tells; TreeCheck. -/
namespace Go.Proofs.YtodialneapakgaaGreatDoor
open Go.RowKit Go.Sort Go.BigFrame
set_option maxHeartbeats 2000000 in
set_option maxRecDepth 100000 in
theorem i_faultB (k : Int) (w : World) : Calls Tryz.prog 235 #[.int .i64 k] w fun e w' => e = .returned (.agg #[.int .i64 k, .int .i64 0]) ∧ Below w.heap.size w w' := by
  go_enter Tryz.func235, Tryz.ntmps235
  go_wp2
  refine bodyPost_ret (v := .agg #[.int .i64 k, .int .i64 0]) (by simp [results, Tryz.results235, go_sem]) rfl ⟨rfl, by (repeat (first | with_reducible exact Below.refl _ _ | with_reducible assumption | with_reducible refine bl_set (by first | exact Nat.le_refl _ | (simp; done) | (simp; omega) | omega) ?_ _ | with_reducible refine bl_alloc ?_ _ | with_reducible refine bl_drewN ?_ _ | with_reducible refine bl_drew ?_ | with_reducible refine bl_grow ?_ _ _ | with_reducible refine bl_call ?_ (by assumption)))⟩
set_option maxHeartbeats 2000000 in
set_option maxRecDepth 100000 in
theorem i_faultR (k : Int) (j : Nat) (w : World) (hg : ErrTypeAt w) : Calls Tryz.prog 238 #[.agg #[.int .i64 j, .iface 135 (.int .i64 k)]] w fun e w' => e = .returned (.agg #[.int .i64 k, .int .i64 j]) ∧ Below w.heap.size w w' := by
  have HG : Hid (∀ W, Below w.heap.size w W → ErrTypeAt W) := fun W h => hg.below h
  clear hg
  go_enter Tryz.func238, Tryz.ntmps238
  go_wp2_with (go_at_call 37; refine (as_hitK k ⟨w.heap.size + 1 + 1, 0, none⟩ (.int .i64 0) _ (HG.out _ (by (repeat (first | with_reducible exact Below.refl _ _ | with_reducible assumption | with_reducible refine bl_set (by first | exact Nat.le_refl _ | (simp; done) | (simp; omega) | omega) ?_ _ | with_reducible refine bl_alloc ?_ _ | with_reducible refine bl_drewN ?_ _ | with_reducible refine bl_drew ?_ | with_reducible refine bl_grow ?_ _ _ | with_reducible refine bl_call ?_ (by assumption))))) (by simp [go_sem]) (by simp [go_sem])).mono ?_; rintro e w1 ⟨rfl, w4, hb4, rfl⟩; have c0 : w4.cell? ⟨w.heap.size, 0, none⟩ = some (.int .i64 j) := (by rw [hb4.cell (p := ⟨w.heap.size, 0, none⟩) (by simp; omega)]; simp [go_sem]); have c1 : w4.cell? ⟨w.heap.size + 1, 0, none⟩ = some (.int .i64 0) := (by rw [hb4.cell (p := ⟨w.heap.size + 1, 0, none⟩) (by simp)]; simp [go_sem]); have c2 : w4.cell? ⟨w.heap.size + 1, 1, none⟩ = some (.int .i64 0) := (by rw [hb4.cell (p := ⟨w.heap.size + 1, 1, none⟩) (by simp)]; simp [go_sem]); have f1 : w4.frozen? ⟨w.heap.size + 1, 0, none⟩ = false := (by rw [hb4.frozen (p := ⟨w.heap.size + 1, 0, none⟩) (by simp)]; simp [go_sem]); have f2 : w4.frozen? ⟨w.heap.size + 1, 1, none⟩ = false := (by rw [hb4.frozen (p := ⟨w.heap.size + 1, 1, none⟩) (by simp)]; simp [go_sem]); have c3 : w4.cell? ⟨w.heap.size + 1 + 1, 0, none⟩ = some (.int .i64 0) := (by rw [hb4.cell (p := ⟨w.heap.size + 1 + 1, 0, none⟩) (by simp)]; simp [go_sem]))
  refine bodyPost_ret (v := .agg #[.int .i64 k, .int .i64 j]) (by simp [results, Tryz.results238, go_sem, c1, c2]) rfl ⟨rfl, by (repeat (first | with_reducible exact Below.refl _ _ | with_reducible assumption | with_reducible refine bl_set (by first | exact Nat.le_refl _ | (simp; done) | (simp; omega) | omega) ?_ _ | with_reducible refine bl_alloc ?_ _ | with_reducible refine bl_drewN ?_ _ | with_reducible refine bl_drew ?_ | with_reducible refine bl_grow ?_ _ _ | with_reducible refine bl_call ?_ (by assumption)))⟩
theorem firstRung_none (l : List Stil.Arm) (k : Nat) : ¬ 0 < (Stil.firstRung l k).1 → Stil.firstRung l k = (0, 0) := by
  induction l generalizing k with
  | nil => intro _; rfl
  | cons x r ih =>
    intro h
    rw [Stil.firstRung] at h ⊢
    split
    · rename_i hx; rw [if_pos hx] at h; exact absurd hx h
    · rename_i hx; rw [if_neg hx] at h; exact ih _ h
theorem rl_faultB (v : Value) (w : World) : (Go.method 384 135 v "loop.example/stilway/impl.fault").run Tryz.prog w = .ok (235, v) w := by kernel_rfl
theorem rl_faultR (u v : Value) (w : World) : (Go.method 384 138 (.agg #[u, v]) "loop.example/stilway/impl.fault").run Tryz.prog w = .ok (238, .agg #[u, v]) w := by kernel_rfl
set_option maxHeartbeats 2000000 in
set_option maxRecDepth 100000 in
theorem i_treeCheck (l : List Stil.Arm) (kv : Value) (w : World) (hr : RowsAt w) (hg : ErrTypeAt w) (hkv : ArmsAt w kv l) (hl : l.length ≤ 1048576) (hsz : Stil.treeSize l ≤ 1000000000) (hft : ∀ x ∈ l, Stil.armFits x) :
    Calls Tryz.prog 21 #[kv] w fun e w' => e = .returned (.agg #[.int .i64 (Stil.treeCheck l).1, .int .i64 (Stil.treeCheck l).2]) ∧ Below w.heap.size w w' := by
  have HL : Hid (∀ W, Below w.heap.size w W → Calls Tryz.prog 48 #[kv] W fun e w' => e = .returned (lookOf (decide (40 < l.length ∨ 400 < Stil.treeSize l)) (Stil.firstRung l 0)) ∧ Below W.heap.size W w') := fun W hW => i_treeLook l kv W (hr.below hW) (hkv.below hW) hl hsz hft
  have HG : Hid (∀ W, Below w.heap.size w W → ErrTypeAt W) := fun W h => hg.below h
  have HF : Hid (¬ 0 < (Stil.firstRung l 0).1 → Stil.firstRung l 0 = (0, 0)) := firstRung_none l 0
  have HT : Hid (Stil.treeCheck l = if 40 < l.length ∨ 400 < Stil.treeSize l then (1, 0) else Stil.firstRung l 0) := rfl
  obtain ⟨a, cap, rfl, _⟩ := hkv
  have mB : ∀ (v : Value) (w : World), (Go.method 384 135 v "loop.example/stilway/impl.fault").run Tryz.prog w = .ok (235, v) w := rl_faultB
  have mR : ∀ (u v : Value) (w : World), (Go.method 384 138 (.agg #[u, v]) "loop.example/stilway/impl.fault").run Tryz.prog w = .ok (238, .agg #[u, v]) w := rl_faultR
  obtain ⟨ln, hln⟩ : ∃ ln, ln = l.length := ⟨_, rfl⟩
  obtain ⟨z, hz⟩ : ∃ z, z = Stil.treeSize l := ⟨_, rfl⟩
  obtain ⟨Q, hQ⟩ : ∃ Q, Q = Stil.firstRung l 0 := ⟨_, rfl⟩
  obtain ⟨R, hR⟩ : ∃ R, R = Stil.treeCheck l := ⟨_, rfl⟩
  rw [← hln] at HL HT hl ⊢
  rw [← hz] at HL HT
  rw [← hQ] at HL HT HF
  rw [← hR] at HT ⊢
  clear hln hz hQ hR hr hg hft hsz
  by_cases h1 : 40 < ln ∨ 400 < z
  · have HX : Hid (R = (1, 0)) := by show _ = _; rw [HT.out, if_pos h1]
    rw [decide_eq_true h1] at HL
    have HL1 : Hid (∀ W, Below w.heap.size w W → Calls Tryz.prog 48 #[.slice a ln cap] W fun e w' => e = .returned (.iface 135 (.int .i64 1)) ∧ Below W.heap.size W w') := HL
    clear HL HT h1 HF
    go_enter Tryz.func21, Tryz.ntmps21
    go_wp2_with (first | (go_at_call 48; refine (HL1.out _ (by (repeat (first | with_reducible exact Below.refl _ _ | with_reducible assumption | with_reducible refine bl_set (by first | exact Nat.le_refl _ | (simp; done) | (simp; omega) | omega) ?_ _ | with_reducible refine bl_alloc ?_ _ | with_reducible refine bl_drewN ?_ _ | with_reducible refine bl_drew ?_ | with_reducible refine bl_grow ?_ _ _ | with_reducible refine bl_call ?_ (by assumption))))).mono ?_; rintro e w1 ⟨rfl, hb1⟩; have c1 : w1.cell? ⟨w.heap.size + 1, 0, none⟩ = some .nilIface := (by rw [hb1.cell (p := ⟨w.heap.size + 1, 0, none⟩) (by simp)]; simp [go_sem]); have f1 : w1.frozen? ⟨w.heap.size + 1, 0, none⟩ = false := (by rw [hb1.frozen (p := ⟨w.heap.size + 1, 0, none⟩) (by simp)]; simp [go_sem]); have r0 : w1.cell? ⟨w.heap.size, 0, none⟩ = some (.int .i64 0) := (by rw [hb1.cell (p := ⟨w.heap.size, 0, none⟩) (by simp; omega)]; simp [go_sem]); have q0 : w1.frozen? ⟨w.heap.size, 0, none⟩ = false := (by rw [hb1.frozen (p := ⟨w.heap.size, 0, none⟩) (by simp; omega)]; simp [go_sem]); have r1 : w1.cell? ⟨w.heap.size, 1, none⟩ = some (.int .i64 0) := (by rw [hb1.cell (p := ⟨w.heap.size, 1, none⟩) (by simp; omega)]; simp [go_sem]); have q1 : w1.frozen? ⟨w.heap.size, 1, none⟩ = false := (by rw [hb1.frozen (p := ⟨w.heap.size, 1, none⟩) (by simp; omega)]; simp [go_sem])) | (go_at_call 37; refine (as_hitB 1 ⟨w.heap.size + 1, 0, none⟩ .nilIface _ c1 f1).mono ?_; rintro e w2 ⟨rfl, w4, hb4, rfl⟩; have c4 : w4.cell? ⟨w.heap.size + 1, 0, none⟩ = some .nilIface := (hb4.cell (lt_of_cellA c1)).trans c1; have s0 : w4.cell? ⟨w.heap.size, 0, none⟩ = some (.int .i64 0) := (hb4.cell (lt_of_cellA r0)).trans r0; have p0 : w4.frozen? ⟨w.heap.size, 0, none⟩ = false := (hb4.frozen (lt_of_cellA r0)).trans q0; have s1 : w4.cell? ⟨w.heap.size, 1, none⟩ = some (.int .i64 0) := (hb4.cell (lt_of_cellA r1)).trans r1; have p1 : w4.frozen? ⟨w.heap.size, 1, none⟩ = false := (hb4.frozen (lt_of_cellA r1)).trans q1) | (go_at_call 235; refine (i_faultB _ _).mono ?_; rintro e w5 ⟨rfl, hb5⟩; have t0 : w5.cell? ⟨w.heap.size, 0, none⟩ = some (.int .i64 0) := (hb5.cell (p := ⟨w.heap.size, 0, none⟩) (Nat.lt_of_lt_of_le (lt_of_cellA s0) (sizeSet _ _ _))).trans ((cellSetOther (by omega)).trans s0); have g0 : w5.frozen? ⟨w.heap.size, 0, none⟩ = false := (hb5.frozen (p := ⟨w.heap.size, 0, none⟩) (Nat.lt_of_lt_of_le (lt_of_cellA s0) (sizeSet _ _ _))).trans (by rw [World.frozen?_setCell]; exact p0); have t1 : w5.cell? ⟨w.heap.size, 1, none⟩ = some (.int .i64 0) := (hb5.cell (p := ⟨w.heap.size, 1, none⟩) (Nat.lt_of_lt_of_le (lt_of_cellA s1) (sizeSet _ _ _))).trans ((cellSetOther (by omega)).trans s1); have g1 : w5.frozen? ⟨w.heap.size, 1, none⟩ = false := (hb5.frozen (p := ⟨w.heap.size, 1, none⟩) (Nat.lt_of_lt_of_le (lt_of_cellA s1) (sizeSet _ _ _))).trans (by rw [World.frozen?_setCell]; exact p1)))
    refine bodyPost_ret (v := .agg #[.int .i64 1, .int .i64 0]) (by simp [results, Tryz.results21, go_sem, t0, t1]) rfl ⟨by rw [HX.out]; rfl, by (repeat (first | with_reducible exact Below.refl _ _ | with_reducible assumption | with_reducible refine bl_set (by first | exact Nat.le_refl _ | (simp; done) | (simp; omega) | omega) ?_ _ | with_reducible refine bl_alloc ?_ _ | with_reducible refine bl_drewN ?_ _ | with_reducible refine bl_drew ?_ | with_reducible refine bl_grow ?_ _ _ | with_reducible refine bl_call ?_ (by assumption)))⟩
  · rw [decide_eq_false h1] at HL
    have HT2 : Hid (R = Q) := by show _ = _; rw [HT.out, if_neg h1]
    clear HT h1
    by_cases hq : 0 < Q.1
    · have HX : Hid (R = Q) := HT2.out
      have HL1 : Hid (∀ W, Below w.heap.size w W → Calls Tryz.prog 48 #[.slice a ln cap] W fun e w' => e = .returned (.iface 138 (.agg #[.int .i64 Q.2, .iface 135 (.int .i64 Q.1)])) ∧ Below W.heap.size W w') := fun W hW => (HL.out W hW).mono fun e w' ⟨he, hb⟩ => ⟨by rw [he]; unfold lookOf; simp [hq], hb⟩
      clear HL hq HF
      go_enter Tryz.func21, Tryz.ntmps21
      go_wp2_with (first | (go_at_call 48; refine (HL1.out _ (by (repeat (first | with_reducible exact Below.refl _ _ | with_reducible assumption | with_reducible refine bl_set (by first | exact Nat.le_refl _ | (simp; done) | (simp; omega) | omega) ?_ _ | with_reducible refine bl_alloc ?_ _ | with_reducible refine bl_drewN ?_ _ | with_reducible refine bl_drew ?_ | with_reducible refine bl_grow ?_ _ _ | with_reducible refine bl_call ?_ (by assumption))))).mono ?_; rintro e w1 ⟨rfl, hb1⟩; have c1 : w1.cell? ⟨w.heap.size + 1, 0, none⟩ = some .nilIface := (by rw [hb1.cell (p := ⟨w.heap.size + 1, 0, none⟩) (by simp)]; simp [go_sem]); have f1 : w1.frozen? ⟨w.heap.size + 1, 0, none⟩ = false := (by rw [hb1.frozen (p := ⟨w.heap.size + 1, 0, none⟩) (by simp)]; simp [go_sem]); have r0 : w1.cell? ⟨w.heap.size, 0, none⟩ = some (.int .i64 0) := (by rw [hb1.cell (p := ⟨w.heap.size, 0, none⟩) (by simp; omega)]; simp [go_sem]); have q0 : w1.frozen? ⟨w.heap.size, 0, none⟩ = false := (by rw [hb1.frozen (p := ⟨w.heap.size, 0, none⟩) (by simp; omega)]; simp [go_sem]); have r1 : w1.cell? ⟨w.heap.size, 1, none⟩ = some (.int .i64 0) := (by rw [hb1.cell (p := ⟨w.heap.size, 1, none⟩) (by simp; omega)]; simp [go_sem]); have q1 : w1.frozen? ⟨w.heap.size, 1, none⟩ = false := (by rw [hb1.frozen (p := ⟨w.heap.size, 1, none⟩) (by simp; omega)]; simp [go_sem])) | (go_at_call 37; refine (as_hitR _ _ ⟨w.heap.size + 1, 0, none⟩ .nilIface _ c1 f1).mono ?_; rintro e w2 ⟨rfl, w4, hb4, rfl⟩; have c4 : w4.cell? ⟨w.heap.size + 1, 0, none⟩ = some .nilIface := (hb4.cell (lt_of_cellA c1)).trans c1; have s0 : w4.cell? ⟨w.heap.size, 0, none⟩ = some (.int .i64 0) := (hb4.cell (lt_of_cellA r0)).trans r0; have p0 : w4.frozen? ⟨w.heap.size, 0, none⟩ = false := (hb4.frozen (lt_of_cellA r0)).trans q0; have s1 : w4.cell? ⟨w.heap.size, 1, none⟩ = some (.int .i64 0) := (hb4.cell (lt_of_cellA r1)).trans r1; have p1 : w4.frozen? ⟨w.heap.size, 1, none⟩ = false := (hb4.frozen (lt_of_cellA r1)).trans q1) | (go_at_call 238; refine (i_faultR _ _ _ (HG.out _ (by (repeat (first | with_reducible exact Below.refl _ _ | with_reducible assumption | with_reducible refine bl_set (by first | exact Nat.le_refl _ | (simp; done) | (simp; omega) | omega) ?_ _ | with_reducible refine bl_alloc ?_ _ | with_reducible refine bl_drewN ?_ _ | with_reducible refine bl_drew ?_ | with_reducible refine bl_grow ?_ _ _ | with_reducible refine bl_call ?_ (by assumption)))))).mono ?_; rintro e w5 ⟨rfl, hb5⟩; have t0 : w5.cell? ⟨w.heap.size, 0, none⟩ = some (.int .i64 0) := (hb5.cell (p := ⟨w.heap.size, 0, none⟩) (Nat.lt_of_lt_of_le (lt_of_cellA s0) (sizeSet _ _ _))).trans ((cellSetOther (by omega)).trans s0); have g0 : w5.frozen? ⟨w.heap.size, 0, none⟩ = false := (hb5.frozen (p := ⟨w.heap.size, 0, none⟩) (Nat.lt_of_lt_of_le (lt_of_cellA s0) (sizeSet _ _ _))).trans (by rw [World.frozen?_setCell]; exact p0); have t1 : w5.cell? ⟨w.heap.size, 1, none⟩ = some (.int .i64 0) := (hb5.cell (p := ⟨w.heap.size, 1, none⟩) (Nat.lt_of_lt_of_le (lt_of_cellA s1) (sizeSet _ _ _))).trans ((cellSetOther (by omega)).trans s1); have g1 : w5.frozen? ⟨w.heap.size, 1, none⟩ = false := (hb5.frozen (p := ⟨w.heap.size, 1, none⟩) (Nat.lt_of_lt_of_le (lt_of_cellA s1) (sizeSet _ _ _))).trans (by rw [World.frozen?_setCell]; exact p1)))
      refine bodyPost_ret (v := .agg #[.int .i64 Q.1, .int .i64 Q.2]) (by simp [results, Tryz.results21, go_sem, t0, t1]) rfl ⟨by rw [HX.out], by (repeat (first | with_reducible exact Below.refl _ _ | with_reducible assumption | with_reducible refine bl_set (by first | exact Nat.le_refl _ | (simp; done) | (simp; omega) | omega) ?_ _ | with_reducible refine bl_alloc ?_ _ | with_reducible refine bl_drewN ?_ _ | with_reducible refine bl_drew ?_ | with_reducible refine bl_grow ?_ _ _ | with_reducible refine bl_call ?_ (by assumption)))⟩
    · have HX : Hid (R = (0, 0)) := by show _ = _; rw [HT2.out]; exact HF.out hq
      have HL1 : Hid (∀ W, Below w.heap.size w W → Calls Tryz.prog 48 #[.slice a ln cap] W fun e w' => e = .returned .nilIface ∧ Below W.heap.size W w') := fun W hW => (HL.out W hW).mono fun e w' ⟨he, hb⟩ => ⟨by rw [he]; unfold lookOf; simp [hq], hb⟩
      clear HL hq HF HT2
      go_enter Tryz.func21, Tryz.ntmps21
      go_wp2_with (first | (go_at_call 48; refine (HL1.out _ (by (repeat (first | with_reducible exact Below.refl _ _ | with_reducible assumption | with_reducible refine bl_set (by first | exact Nat.le_refl _ | (simp; done) | (simp; omega) | omega) ?_ _ | with_reducible refine bl_alloc ?_ _ | with_reducible refine bl_drewN ?_ _ | with_reducible refine bl_drew ?_ | with_reducible refine bl_grow ?_ _ _ | with_reducible refine bl_call ?_ (by assumption))))).mono ?_; rintro e w1 ⟨rfl, hb1⟩; have t0 : w1.cell? ⟨w.heap.size, 0, none⟩ = some (.int .i64 0) := (by rw [hb1.cell (p := ⟨w.heap.size, 0, none⟩) (by simp; omega)]; simp [go_sem]); have q0 : w1.frozen? ⟨w.heap.size, 0, none⟩ = false := (by rw [hb1.frozen (p := ⟨w.heap.size, 0, none⟩) (by simp; omega)]; simp [go_sem]); have t1 : w1.cell? ⟨w.heap.size, 1, none⟩ = some (.int .i64 0) := (by rw [hb1.cell (p := ⟨w.heap.size, 1, none⟩) (by simp; omega)]; simp [go_sem]); have q1 : w1.frozen? ⟨w.heap.size, 1, none⟩ = false := (by rw [hb1.frozen (p := ⟨w.heap.size, 1, none⟩) (by simp; omega)]; simp [go_sem])) | (go_at_call 37; refine (as_nil _ _).mono ?_; rintro e w2 ⟨rfl, rfl⟩))
      refine bodyPost_ret (v := .agg #[.int .i64 0, .int .i64 0]) (by simp [results, Tryz.results21, go_sem, t0, t1]) rfl ⟨by rw [HX.out]; rfl, by (repeat (first | with_reducible exact Below.refl _ _ | with_reducible assumption | with_reducible refine bl_set (by first | exact Nat.le_refl _ | (simp; done) | (simp; omega) | omega) ?_ _ | with_reducible refine bl_alloc ?_ _ | with_reducible refine bl_drewN ?_ _ | with_reducible refine bl_drew ?_ | with_reducible refine bl_grow ?_ _ _ | with_reducible refine bl_call ?_ (by assumption)))⟩
end Go.Proofs.YtodialneapakgaaGreatDoor
