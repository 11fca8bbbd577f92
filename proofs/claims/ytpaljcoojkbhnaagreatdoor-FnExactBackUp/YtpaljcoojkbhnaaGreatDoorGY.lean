/- X6, X6b, X8, X8b, X8c, X7, X7r, X9: texts put together. -/
import Derived.LaidEql
import Derived.Stop.Asserts
import Derived.RowKitTokens
import Derived.Test.YtpaljcoojkbhnaaGreatDoorGX
set_option maxHeartbeats 4000000
set_option maxRecDepth 100000
/- errors.As by its contracts, at the two targets of the program's chapter 3. -/
namespace Go.Proofs.YtpaljcoojkbhnaaGreatDoor
open Go.RowKit Go.Extern.Stop Go.Stop Go.Extern
theorem as_nil (t : Value) (w : World) : Calls Tryz.prog 26 #[.nilIface, t] w fun e w' => e = .returned (.bool false) ∧ w' = w := by
 go_enter Tryz.func26, Tryz.ntmps26
 go_wp2
 go_ret
 exact ⟨rfl, rfl⟩
theorem rl_valueW (t : Addr) (w : World) : (ReflectliteValue.unpack (.iface 186 (.pointer (some t)))).run Tryz.prog w = .ok (.agg #[.pointer (some ⟨4, 186, none⟩), .pointer (some ⟨w.heap.size, 0, none⟩), .int .u64 150]) (w.alloc (.cells #[.pointer (some t)] 186)) := by kernel_rfl
theorem rl_typeW (a : Addr) (w : World) : (ReflectliteValue.methodAny (ReflectliteValue.valueError "reflectlite.Value.Type" 0) (fun t _ _ _ => ReflectliteType.toType t) #[.agg #[.pointer (some ⟨4, 186, none⟩), .pointer (some a), .int .u64 150]]).run Tryz.prog w = .ok (.iface 142 (.agg #[.pointer (some ⟨4, 186, none⟩)])) w := by kernel_rfl
theorem rl_kindPW (w : World) : ((ReflectliteType.abiMethod fun t => (fun a : Nat => Value.int IntKind.u8 (a : Int)) <$> Rtype.kind t) #[.pointer (some ⟨4, 186, none⟩)]).run Tryz.prog w = .ok (.int .u8 22) w := by kernel_rfl
theorem rl_kindW (w : World) : ((ReflectliteType.abiMethod fun t => (fun a : Nat => Value.int IntKind.u8 (a : Int)) <$> Rtype.kind t) #[.pointer (some ⟨4, 184, none⟩)]).run Tryz.prog w = .ok (.int .u8 20) w := by kernel_rfl
theorem rl_elemW (w : World) : (ReflectliteType.method ReflectliteType.elem #[.agg #[.pointer (some ⟨4, 186, none⟩)]]).run Tryz.prog w = .ok (.iface 142 (.agg #[.pointer (some ⟨4, 184, none⟩)])) w := by kernel_rfl
theorem rl_typeOfB (v : Value) (w : World) : (ReflectliteType.typeOf #[.iface 200 v]).run Tryz.prog w = .ok (.iface 142 (.agg #[.pointer (some ⟨4, 200, none⟩)])) w := by kernel_rfl
theorem rl_typeOfR (v : Value) (w : World) : (ReflectliteType.typeOf #[.iface 203 v]).run Tryz.prog w = .ok (.iface 142 (.agg #[.pointer (some ⟨4, 203, none⟩)])) w := by kernel_rfl
theorem rl_assBW (w : World) : (ReflectliteType.relation "AssignableTo" ReflectliteType.assignableTo #[.agg #[.pointer (some ⟨4, 200, none⟩)], .iface 142 (.agg #[.pointer (some ⟨4, 184, none⟩)])]).run Tryz.prog w = .ok (.bool true) w := by kernel_rfl
theorem rl_assRW (w : World) : (ReflectliteType.relation "AssignableTo" ReflectliteType.assignableTo #[.agg #[.pointer (some ⟨4, 203, none⟩)], .iface 142 (.agg #[.pointer (some ⟨4, 184, none⟩)])]).run Tryz.prog w = .ok (.bool true) w := by kernel_rfl
theorem rl_assBB (w : World) : (ReflectliteType.relation "AssignableTo" ReflectliteType.assignableTo #[.agg #[.pointer (some ⟨4, 200, none⟩)], .iface 142 (.agg #[.pointer (some ⟨4, 200, none⟩)])]).run Tryz.prog w = .ok (.bool true) w := by kernel_rfl
theorem rl_valueB (k : Int) (w : World) : (ReflectliteValue.unpack (.iface 200 (.int .i64 k))).run Tryz.prog w = .ok (.agg #[.pointer (some ⟨4, 200, none⟩), .pointer (some ⟨w.heap.size, 0, none⟩), .int .u64 130]) (w.alloc (.cells #[.int .i64 k] 200)) := by kernel_rfl
theorem rl_valueR (a b : Value) (w : World) : (ReflectliteValue.unpack (.iface 203 (.agg #[a, b]))).run Tryz.prog w = .ok (.agg #[.pointer (some ⟨4, 203, none⟩), .pointer (some ⟨w.heap.size, 0, none⟩), .int .u64 153]) (w.alloc (.cells #[a, b] 203)) := by kernel_rfl
theorem rl_partsPW (a : Addr) (w : World) : (ReflectliteValue.parts (.agg #[.pointer (some ⟨4, 186, none⟩), .pointer (some a), .int .u64 150])).run Tryz.prog w = .ok (some (186, a, 150)) w := by kernel_rfl
theorem rl_isNilW (a p : Addr) (W : World) (ha : W.cell? a = some (.pointer (some p))) :
  (ReflectliteValue.method (ReflectliteValue.valueError "reflectlite.Value.IsNil" 0) ReflectliteValue.isNil #[.agg #[.pointer (some ⟨4, 186, none⟩), .pointer (some a), .int .u64 150]]).run Tryz.prog W = .ok (.bool false) W := by
 change Sem.run _ (ReflectliteValue.parts (.agg #[.pointer (some ⟨4, 186, none⟩), .pointer (some a), .int .u64 150]) >>= _) _ = _
 simp only [Sem.run_bind, rl_partsPW, Result.andThen]
 simp [ReflectliteValue.isNil, loadVar, isAgg, underlying, Tryz.underlying186, ha, Result.andThen]
theorem rl_elemOfW (w : World) : (Rtype.elem? 186).run Tryz.prog w = .ok (some 184) w := by kernel_rfl
theorem rl_mkW (p : Addr) (w : World) : (ReflectliteValue.mk 184 p ReflectliteValue.flagAddr).run Tryz.prog w = .ok (.agg #[.pointer (some ⟨4, 184, none⟩), .pointer (some p), .int .u64 404]) w := by kernel_rfl
theorem rl_elemVW (a p : Addr) (W : World) (ha : W.cell? a = some (.pointer (some p))) :
  (ReflectliteValue.method (ReflectliteValue.valueError "reflectlite.Value.Elem" 0) ReflectliteValue.elem #[.agg #[.pointer (some ⟨4, 186, none⟩), .pointer (some a), .int .u64 150]]).run Tryz.prog W
   = .ok (.agg #[.pointer (some ⟨4, 184, none⟩), .pointer (some p), .int .u64 404]) W := by
 change Sem.run _ (ReflectliteValue.parts (.agg #[.pointer (some ⟨4, 186, none⟩), .pointer (some a), .int .u64 150]) >>= _) _ = _
 simp only [Sem.run_bind, rl_partsPW, Result.andThen]
 simp [ReflectliteValue.elem, loadVar, isAgg, underlying, Tryz.underlying186, ha, Result.andThen, rl_elemOfW, rl_mkW]
theorem rl_partsW (a : Addr) (w : World) : (ReflectliteValue.parts (.agg #[.pointer (some ⟨4, 184, none⟩), .pointer (some a), .int .u64 404])).run Tryz.prog w = .ok (some (184, a, 404)) w := by kernel_rfl
theorem rl_partsB (a : Addr) (w : World) : (ReflectliteValue.parts (.agg #[.pointer (some ⟨4, 200, none⟩), .pointer (some a), .int .u64 130])).run Tryz.prog w = .ok (some (200, a, 130)) w := by kernel_rfl
theorem rl_partsR (a : Addr) (w : World) : (ReflectliteValue.parts (.agg #[.pointer (some ⟨4, 203, none⟩), .pointer (some a), .int .u64 153])).run Tryz.prog w = .ok (some (203, a, 153)) w := by kernel_rfl
theorem rl_directWB (w : World) : (Rtype.directlyAssignable 184 200).run Tryz.prog w = .ok false w := by kernel_rfl
theorem rl_directWR (w : World) : (Rtype.directlyAssignable 184 203).run Tryz.prog w = .ok false w := by kernel_rfl
theorem rl_implWB (w : World) : (Rtype.implements 184 200).run Tryz.prog w = .ok true w := by kernel_rfl
theorem rl_implWR (w : World) : (Rtype.implements 184 203).run Tryz.prog w = .ok true w := by kernel_rfl
theorem rl_kB (w : World) : (Rtype.kind 200).run Tryz.prog w = .ok 2 w := by kernel_rfl
theorem rl_kR (w : World) : (Rtype.kind 203).run Tryz.prog w = .ok 25 w := by kernel_rfl
theorem rl_setB (ta b : Addr) (k : Int) (old : Value) (W : World) (hb : W.cell? b = some (.int .i64 k)) (ht : W.cell? ta = some old) (hf : W.frozen? ta = false) :
  (ReflectliteValue.set #[.agg #[.pointer (some ⟨4, 184, none⟩), .pointer (some ta), .int .u64 404], .agg #[.pointer (some ⟨4, 200, none⟩), .pointer (some b), .int .u64 130]]).run Tryz.prog W
   = .ok (.tuple #[]) (W.setCell ta (.iface 200 (.int .i64 k))) := by
 change Sem.run _ (ReflectliteValue.parts (.agg #[.pointer (some ⟨4, 184, none⟩), .pointer (some ta), .int .u64 404]) >>= fun p => ReflectliteValue.parts (.agg #[.pointer (some ⟨4, 200, none⟩), .pointer (some b), .int .u64 130]) >>= _) _ = _
 simp only [Sem.run_bind, rl_partsW, rl_partsB, Result.andThen]
 simp [ReflectliteValue.flagAddr, loadVar, isAgg, underlying, Tryz.underlying200, hb, Result.andThen, rl_directWB, rl_implWB, rl_kB, storeVar, Value.cells, storeCells, Addr.add]
 rw [run_store Tryz.prog W ta _ _ (by rfl)]
 simp [ht, hf]
theorem rl_setR (ta b : Addr) (u v old : Value) (W : World) (hb0 : W.cell? (b.add 0) = some u) (hb1 : W.cell? (b.add 1) = some v) (ht : W.cell? ta = some old) (hf : W.frozen? ta = false) :
  (ReflectliteValue.set #[.agg #[.pointer (some ⟨4, 184, none⟩), .pointer (some ta), .int .u64 404], .agg #[.pointer (some ⟨4, 203, none⟩), .pointer (some b), .int .u64 153]]).run Tryz.prog W
   = .ok (.tuple #[]) (W.setCell ta (.iface 203 (.agg #[u, v]))) := by
 have hl : (loadCells b 2).run Tryz.prog W = .ok #[u, v] W := run_loadCells_list W b [u, v] (fun j x hx => by
  match j, hx with
  | 0, hx => cases hx; exact hb0
  | 1, hx => cases hx; exact hb1)
 change Sem.run _ (ReflectliteValue.parts (.agg #[.pointer (some ⟨4, 184, none⟩), .pointer (some ta), .int .u64 404]) >>= fun p => ReflectliteValue.parts (.agg #[.pointer (some ⟨4, 203, none⟩), .pointer (some b), .int .u64 153]) >>= _) _ = _
 simp only [Sem.run_bind, rl_partsW, rl_partsR, Result.andThen]
 simp [ReflectliteValue.flagAddr, loadVar, isAgg, underlying, Tryz.underlying203, hl, Result.andThen, rl_directWR, rl_implWR, rl_kR, storeVar, Value.cells, storeCells, Addr.add]
 rw [run_store Tryz.prog W ta _ _ (by rfl)]
 simp [ht, hf]
theorem rl_mKind (h : Value) (w : World) : (Go.method 361 142 (.agg #[h]) "Kind").run Tryz.prog w = .ok (187, h) w := by kernel_rfl
theorem rl_mElem (h : Value) (w : World) : (Go.method 361 142 (.agg #[h]) "Elem").run Tryz.prog w = .ok (199, .agg #[h]) w := by kernel_rfl
theorem rl_mImpl (h : Value) (w : World) : (Go.method 361 142 (.agg #[h]) "Implements").run Tryz.prog w = .ok (200, .agg #[h]) w := by kernel_rfl
theorem rl_mAss (h : Value) (w : World) : (Go.method 361 142 (.agg #[h]) "AssignableTo").run Tryz.prog w = .ok (197, .agg #[h]) w := by kernel_rfl
theorem lt_of_cellA {W : World} {t : Addr} {v : Value} (h : W.cell? t = some v) : t.block < W.heap.size := by
 rcases Nat.lt_or_ge t.block W.heap.size with h' | h'
 ·exact h'
 ·simp [World.cell?, Array.getElem?_eq_none h'] at h
theorem cellA_alloc {W : World} {t : Addr} {v : Value} (ob : Obj) (h : W.cell? t = some v) : (W.alloc ob).cell? t = some v := ((below_alloc W ob).cell (lt_of_cellA h)).trans h
theorem frozenA_alloc {W : World} {t : Addr} {v : Value} (ob : Obj) (h : W.cell? t = some v) (hf : W.frozen? t = false) : (W.alloc ob).frozen? t = false := ((below_alloc W ob).frozen (lt_of_cellA h)).trans hf
theorem rb_value (t : Addr) (w : World) : (ReflectliteValue.unpack (.iface 250 (.pointer (some t)))).run Tryz.prog w = .ok (.agg #[.pointer (some ⟨4, 250, none⟩), .pointer (some ⟨w.heap.size, 0, none⟩), .int .u64 150]) (w.alloc (.cells #[.pointer (some t)] 250)) := by kernel_rfl
theorem rb_type (a : Addr) (w : World) : (ReflectliteValue.methodAny (ReflectliteValue.valueError "reflectlite.Value.Type" 0) (fun t _ _ _ => ReflectliteType.toType t) #[.agg #[.pointer (some ⟨4, 250, none⟩), .pointer (some a), .int .u64 150]]).run Tryz.prog w = .ok (.iface 142 (.agg #[.pointer (some ⟨4, 250, none⟩)])) w := by kernel_rfl
theorem rb_kindP (w : World) : ((ReflectliteType.abiMethod fun t => (fun a : Nat => Value.int IntKind.u8 (a : Int)) <$> Rtype.kind t) #[.pointer (some ⟨4, 250, none⟩)]).run Tryz.prog w = .ok (.int .u8 22) w := by kernel_rfl
theorem rb_kind (w : World) : ((ReflectliteType.abiMethod fun t => (fun a : Nat => Value.int IntKind.u8 (a : Int)) <$> Rtype.kind t) #[.pointer (some ⟨4, 200, none⟩)]).run Tryz.prog w = .ok (.int .u8 2) w := by kernel_rfl
theorem rb_elem (w : World) : (ReflectliteType.method ReflectliteType.elem #[.agg #[.pointer (some ⟨4, 250, none⟩)]]).run Tryz.prog w = .ok (.iface 142 (.agg #[.pointer (some ⟨4, 200, none⟩)])) w := by kernel_rfl
theorem rb_impl (w : World) : (ReflectliteType.relation "Implements" ReflectliteType.implements_ #[.agg #[.pointer (some ⟨4, 200, none⟩)], .iface 142 (.agg #[.pointer (some ⟨4, 58, none⟩)])]).run Tryz.prog w = .ok (.bool true) w := by kernel_rfl
theorem rb_partsP (a : Addr) (w : World) : (ReflectliteValue.parts (.agg #[.pointer (some ⟨4, 250, none⟩), .pointer (some a), .int .u64 150])).run Tryz.prog w = .ok (some (250, a, 150)) w := by kernel_rfl
theorem rb_parts (a : Addr) (w : World) : (ReflectliteValue.parts (.agg #[.pointer (some ⟨4, 200, none⟩), .pointer (some a), .int .u64 386])).run Tryz.prog w = .ok (some (200, a, 386)) w := by kernel_rfl
theorem rb_elemOf (w : World) : (Rtype.elem? 250).run Tryz.prog w = .ok (some 200) w := by kernel_rfl
theorem rb_mk (p : Addr) (w : World) : (ReflectliteValue.mk 200 p ReflectliteValue.flagAddr).run Tryz.prog w = .ok (.agg #[.pointer (some ⟨4, 200, none⟩), .pointer (some p), .int .u64 386]) w := by kernel_rfl
theorem rb_direct (w : World) : (Rtype.directlyAssignable 200 200).run Tryz.prog w = .ok true w := by kernel_rfl
theorem rb_isNil (a p : Addr) (W : World) (ha : W.cell? a = some (.pointer (some p))) :
  (ReflectliteValue.method (ReflectliteValue.valueError "reflectlite.Value.IsNil" 0) ReflectliteValue.isNil #[.agg #[.pointer (some ⟨4, 250, none⟩), .pointer (some a), .int .u64 150]]).run Tryz.prog W = .ok (.bool false) W := by
 change Sem.run _ (ReflectliteValue.parts (.agg #[.pointer (some ⟨4, 250, none⟩), .pointer (some a), .int .u64 150]) >>= _) _ = _
 simp only [Sem.run_bind, rb_partsP, Result.andThen]
 simp [ReflectliteValue.isNil, loadVar, isAgg, underlying, Tryz.underlying250, ha, Result.andThen]
theorem rb_elemV (a p : Addr) (W : World) (ha : W.cell? a = some (.pointer (some p))) :
  (ReflectliteValue.method (ReflectliteValue.valueError "reflectlite.Value.Elem" 0) ReflectliteValue.elem #[.agg #[.pointer (some ⟨4, 250, none⟩), .pointer (some a), .int .u64 150]]).run Tryz.prog W
   = .ok (.agg #[.pointer (some ⟨4, 200, none⟩), .pointer (some p), .int .u64 386]) W := by
 change Sem.run _ (ReflectliteValue.parts (.agg #[.pointer (some ⟨4, 250, none⟩), .pointer (some a), .int .u64 150]) >>= _) _ = _
 simp only [Sem.run_bind, rb_partsP, Result.andThen]
 simp [ReflectliteValue.elem, loadVar, isAgg, underlying, Tryz.underlying250, ha, Result.andThen, rb_elemOf, rb_mk]
theorem rb_set (ta b : Addr) (k : Int) (old : Value) (W : World) (hb : W.cell? b = some (.int .i64 k)) (ht : W.cell? ta = some old) (hf : W.frozen? ta = false) :
  (ReflectliteValue.set #[.agg #[.pointer (some ⟨4, 200, none⟩), .pointer (some ta), .int .u64 386], .agg #[.pointer (some ⟨4, 200, none⟩), .pointer (some b), .int .u64 130]]).run Tryz.prog W
   = .ok (.tuple #[]) (W.setCell ta (.int .i64 k)) := by
 change Sem.run _ (ReflectliteValue.parts (.agg #[.pointer (some ⟨4, 200, none⟩), .pointer (some ta), .int .u64 386]) >>= fun p => ReflectliteValue.parts (.agg #[.pointer (some ⟨4, 200, none⟩), .pointer (some b), .int .u64 130]) >>= _) _ = _
 simp only [Sem.run_bind, rb_parts, rl_partsB, Result.andThen]
 simp [ReflectliteValue.flagAddr, loadVar, isAgg, underlying, Tryz.underlying200, hb, Result.andThen, rb_direct, storeVar, Value.cells, storeCells, Addr.add]
 rw [run_store Tryz.prog W ta _ _ (by rfl)]
 simp [ht, hf]
theorem as_hitK (k : Int) (t : Addr) (old : Value) (w : World) (hg : w.cell? ⟨0, 0, none⟩ = some (.iface 142 (.agg #[.pointer (some ⟨4, 58, none⟩)]))) (ht0 : w.cell? t = some old) (hf0 : w.frozen? t = false) :
  Calls Tryz.prog 26 #[.iface 200 (.int .i64 k), .iface 250 (.pointer (some t))] w fun ev w' => ev = .returned (.bool true) ∧ ∃ w4, Below w.heap.size w w4 ∧ w' = w4.setCell t (.int .i64 k) := by
 have h6 := @run_callFunc_extern Tryz.prog 57 _ (fun args => ReflectliteValue.unpack (args.getD 0 (.tuple #[]))) Tryz.func57 (by kernel_rfl) (by kernel_rfl) (by kernel_rfl) (by kernel_rfl)
 have h7 := @run_callFunc_extern Tryz.prog 58 _ (ReflectliteValue.methodAny (ReflectliteValue.valueError "reflectlite.Value.Type" 0) (fun t _ _ _ => ReflectliteType.toType t)) Tryz.func58 (by kernel_rfl) (by kernel_rfl) (by kernel_rfl) (by kernel_rfl)
 have h8 := @run_callFunc_extern Tryz.prog 59 _ (ReflectliteValue.method (ReflectliteValue.valueError "reflectlite.Value.IsNil" 0) ReflectliteValue.isNil) Tryz.func59 (by kernel_rfl) (by kernel_rfl) (by kernel_rfl) (by kernel_rfl)
 have h27 := @run_callFunc_extern Tryz.prog 187 _ (ReflectliteType.abiMethod fun t => do pure (.int .u8 (← Rtype.kind t))) Tryz.func187 (by kernel_rfl) (by kernel_rfl) (by kernel_rfl) (by kernel_rfl)
 have h37 := @run_callFunc_extern Tryz.prog 199 _ (ReflectliteType.method ReflectliteType.elem) Tryz.func199 (by kernel_rfl) (by kernel_rfl) (by kernel_rfl) (by kernel_rfl)
 have h10 := @run_callFunc_extern Tryz.prog 90 _ ReflectliteType.typeOf Tryz.func90 (by kernel_rfl) (by kernel_rfl) (by kernel_rfl) (by kernel_rfl)
 have h35 := @run_callFunc_extern Tryz.prog 197 _ (ReflectliteType.relation "AssignableTo" ReflectliteType.assignableTo) Tryz.func197 (by kernel_rfl) (by kernel_rfl) (by kernel_rfl) (by kernel_rfl)
 have h11 := @run_callFunc_extern Tryz.prog 91 _ (ReflectliteValue.method (ReflectliteValue.valueError "reflectlite.Value.Elem" 0) ReflectliteValue.elem) Tryz.func91 (by kernel_rfl) (by kernel_rfl) (by kernel_rfl) (by kernel_rfl)
 have h12 := @run_callFunc_extern Tryz.prog 92 _ ReflectliteValue.set Tryz.func92 (by kernel_rfl) (by kernel_rfl) (by kernel_rfl) (by kernel_rfl)
 have f6 := rb_value
 have f7 := rb_type
 have k1 := rb_kindP
 have k2 := rb_kind
 have e1 := rb_elem
 have tO := rl_typeOfB
 have aB := rl_assBB
 have vB := rl_valueB
 have h38 := @run_callFunc_extern Tryz.prog 200 _ (ReflectliteType.relation "Implements" ReflectliteType.implements_) Tryz.func200 (by kernel_rfl) (by kernel_rfl) (by kernel_rfl) (by kernel_rfl)
 have i1 := rb_impl
 have mI := rl_mImpl
 have hg2 : ((w.alloc (.cells #[.pointer (some t)] 250)).alloc (.cells #[.pointer (some ⟨4, 250, none⟩), .pointer (some ⟨w.heap.size, 0, none⟩), .int .u64 150] 105)).cell? ⟨0, 0, none⟩ = some (.iface 142 (.agg #[.pointer (some ⟨4, 58, none⟩)])) := cellA_alloc _ (cellA_alloc _ hg)
 have mK := rl_mKind
 have mE := rl_mElem
 have mA := rl_mAss
 have n8 := rb_isNil ⟨w.heap.size, 0, none⟩ t ((w.alloc (.cells #[.pointer (some t)] 250)).alloc (.cells #[.pointer (some ⟨4, 250, none⟩), .pointer (some ⟨w.heap.size, 0, none⟩), .int .u64 150] 105)) (cellA_alloc _ (by simp))
 have el := rb_elemV ⟨w.heap.size, 0, none⟩ t (((w.alloc (.cells #[.pointer (some t)] 250)).alloc (.cells #[.pointer (some ⟨4, 250, none⟩), .pointer (some ⟨w.heap.size, 0, none⟩), .int .u64 150] 105)).alloc (.cells #[.pointer (some ⟨4, 250, none⟩), .pointer (some ⟨w.heap.size, 0, none⟩), .int .u64 150] 105)) (cellA_alloc _ (cellA_alloc _ (by simp)))
 have st := rb_set t ⟨w.heap.size + 1 + 1 + 1, 0, none⟩ k old ((((w.alloc (.cells #[.pointer (some t)] 250)).alloc (.cells #[.pointer (some ⟨4, 250, none⟩), .pointer (some ⟨w.heap.size, 0, none⟩), .int .u64 150] 105)).alloc (.cells #[.pointer (some ⟨4, 250, none⟩), .pointer (some ⟨w.heap.size, 0, none⟩), .int .u64 150] 105)).alloc (.cells #[.int .i64 k] 200)) (by rw [World.cell?_alloc_at _ _ _ _ (by simp)]; rfl) (cellA_alloc _ (cellA_alloc _ (cellA_alloc _ (cellA_alloc _ ht0)))) (frozenA_alloc _ (cellA_alloc _ (cellA_alloc _ (cellA_alloc _ ht0))) (frozenA_alloc _ (cellA_alloc _ (cellA_alloc _ ht0)) (frozenA_alloc _ (cellA_alloc _ ht0) (frozenA_alloc _ ht0 hf0))))
 go_enter Tryz.func26, Tryz.ntmps26
 go_wp2
 refine wp_loop_rounds 1 ?_
 rw [rounds_succ]
 go_wp2
 go_ret
 exact ⟨rfl, _, blA, rfl⟩
open Go.RowKit Go.Sort Go.BigFrame
/-- The handle of the type 'error' lies where the library keeps it. -/
def ErrTypeAt (w : World) : Prop := w.cell? ⟨0, 0, none⟩ = some (.iface 142 (.agg #[.pointer (some ⟨4, 58, none⟩)]))
theorem ErrTypeAt.below {w w' : World} (h : ErrTypeAt w) (hb : Below w.heap.size w w') : ErrTypeAt w' := (hb.cell (lt_of_cellA h)).trans h
theorem as_hitB (k : Int) (t : Addr) (old : Value) (w : World) (ht0 : w.cell? t = some old) (hf0 : w.frozen? t = false) :
  Calls Tryz.prog 26 #[.iface 200 (.int .i64 k), .iface 186 (.pointer (some t))] w fun ev w' => ev = .returned (.bool true) ∧ ∃ w4, Below w.heap.size w w4 ∧ w' = w4.setCell t (.iface 200 (.int .i64 k)) := by
 have h6 := @run_callFunc_extern Tryz.prog 57 _ (fun args => ReflectliteValue.unpack (args.getD 0 (.tuple #[]))) Tryz.func57 (by kernel_rfl) (by kernel_rfl) (by kernel_rfl) (by kernel_rfl)
 have h7 := @run_callFunc_extern Tryz.prog 58 _ (ReflectliteValue.methodAny (ReflectliteValue.valueError "reflectlite.Value.Type" 0) (fun t _ _ _ => ReflectliteType.toType t)) Tryz.func58 (by kernel_rfl) (by kernel_rfl) (by kernel_rfl) (by kernel_rfl)
 have h8 := @run_callFunc_extern Tryz.prog 59 _ (ReflectliteValue.method (ReflectliteValue.valueError "reflectlite.Value.IsNil" 0) ReflectliteValue.isNil) Tryz.func59 (by kernel_rfl) (by kernel_rfl) (by kernel_rfl) (by kernel_rfl)
 have h27 := @run_callFunc_extern Tryz.prog 187 _ (ReflectliteType.abiMethod fun t => do pure (.int .u8 (← Rtype.kind t))) Tryz.func187 (by kernel_rfl) (by kernel_rfl) (by kernel_rfl) (by kernel_rfl)
 have h37 := @run_callFunc_extern Tryz.prog 199 _ (ReflectliteType.method ReflectliteType.elem) Tryz.func199 (by kernel_rfl) (by kernel_rfl) (by kernel_rfl) (by kernel_rfl)
 have h10 := @run_callFunc_extern Tryz.prog 90 _ ReflectliteType.typeOf Tryz.func90 (by kernel_rfl) (by kernel_rfl) (by kernel_rfl) (by kernel_rfl)
 have h35 := @run_callFunc_extern Tryz.prog 197 _ (ReflectliteType.relation "AssignableTo" ReflectliteType.assignableTo) Tryz.func197 (by kernel_rfl) (by kernel_rfl) (by kernel_rfl) (by kernel_rfl)
 have h11 := @run_callFunc_extern Tryz.prog 91 _ (ReflectliteValue.method (ReflectliteValue.valueError "reflectlite.Value.Elem" 0) ReflectliteValue.elem) Tryz.func91 (by kernel_rfl) (by kernel_rfl) (by kernel_rfl) (by kernel_rfl)
 have h12 := @run_callFunc_extern Tryz.prog 92 _ ReflectliteValue.set Tryz.func92 (by kernel_rfl) (by kernel_rfl) (by kernel_rfl) (by kernel_rfl)
 have f6 := rl_valueW
 have f7 := rl_typeW
 have k1 := rl_kindPW
 have k2 := rl_kindW
 have e1 := rl_elemW
 have tO := rl_typeOfB
 have aB := rl_assBW
 have vB := rl_valueB
 have mK := rl_mKind
 have mE := rl_mElem
 have mA := rl_mAss
 have n8 := rl_isNilW ⟨w.heap.size, 0, none⟩ t ((w.alloc (.cells #[.pointer (some t)] 186)).alloc (.cells #[.pointer (some ⟨4, 186, none⟩), .pointer (some ⟨w.heap.size, 0, none⟩), .int .u64 150] 105)) (cellA_alloc _ (by simp))
 have el := rl_elemVW ⟨w.heap.size, 0, none⟩ t (((w.alloc (.cells #[.pointer (some t)] 186)).alloc (.cells #[.pointer (some ⟨4, 186, none⟩), .pointer (some ⟨w.heap.size, 0, none⟩), .int .u64 150] 105)).alloc (.cells #[.pointer (some ⟨4, 186, none⟩), .pointer (some ⟨w.heap.size, 0, none⟩), .int .u64 150] 105)) (cellA_alloc _ (cellA_alloc _ (by simp)))
 have st := rl_setB t ⟨w.heap.size + 1 + 1 + 1, 0, none⟩ k old ((((w.alloc (.cells #[.pointer (some t)] 186)).alloc (.cells #[.pointer (some ⟨4, 186, none⟩), .pointer (some ⟨w.heap.size, 0, none⟩), .int .u64 150] 105)).alloc (.cells #[.pointer (some ⟨4, 186, none⟩), .pointer (some ⟨w.heap.size, 0, none⟩), .int .u64 150] 105)).alloc (.cells #[.int .i64 k] 200)) (by rw [World.cell?_alloc_at _ _ _ _ (by simp)]; rfl) (cellA_alloc _ (cellA_alloc _ (cellA_alloc _ (cellA_alloc _ ht0)))) (frozenA_alloc _ (cellA_alloc _ (cellA_alloc _ (cellA_alloc _ ht0))) (frozenA_alloc _ (cellA_alloc _ (cellA_alloc _ ht0)) (frozenA_alloc _ (cellA_alloc _ ht0) (frozenA_alloc _ ht0 hf0))))
 go_enter Tryz.func26, Tryz.ntmps26
 go_wp2
 refine wp_loop_rounds 1 ?_
 rw [rounds_succ]
 go_wp2
 go_ret
 exact ⟨rfl, _, blA, rfl⟩
theorem as_hitR (u v : Value) (t : Addr) (old : Value) (w : World) (ht0 : w.cell? t = some old) (hf0 : w.frozen? t = false) :
  Calls Tryz.prog 26 #[.iface 203 (.agg #[u, v]), .iface 186 (.pointer (some t))] w fun ev w' => ev = .returned (.bool true) ∧ ∃ w4, Below w.heap.size w w4 ∧ w' = w4.setCell t (.iface 203 (.agg #[u, v])) := by
 have h6 := @run_callFunc_extern Tryz.prog 57 _ (fun args => ReflectliteValue.unpack (args.getD 0 (.tuple #[]))) Tryz.func57 (by kernel_rfl) (by kernel_rfl) (by kernel_rfl) (by kernel_rfl)
 have h7 := @run_callFunc_extern Tryz.prog 58 _ (ReflectliteValue.methodAny (ReflectliteValue.valueError "reflectlite.Value.Type" 0) (fun t _ _ _ => ReflectliteType.toType t)) Tryz.func58 (by kernel_rfl) (by kernel_rfl) (by kernel_rfl) (by kernel_rfl)
 have h8 := @run_callFunc_extern Tryz.prog 59 _ (ReflectliteValue.method (ReflectliteValue.valueError "reflectlite.Value.IsNil" 0) ReflectliteValue.isNil) Tryz.func59 (by kernel_rfl) (by kernel_rfl) (by kernel_rfl) (by kernel_rfl)
 have h27 := @run_callFunc_extern Tryz.prog 187 _ (ReflectliteType.abiMethod fun t => do pure (.int .u8 (← Rtype.kind t))) Tryz.func187 (by kernel_rfl) (by kernel_rfl) (by kernel_rfl) (by kernel_rfl)
 have h37 := @run_callFunc_extern Tryz.prog 199 _ (ReflectliteType.method ReflectliteType.elem) Tryz.func199 (by kernel_rfl) (by kernel_rfl) (by kernel_rfl) (by kernel_rfl)
 have h10 := @run_callFunc_extern Tryz.prog 90 _ ReflectliteType.typeOf Tryz.func90 (by kernel_rfl) (by kernel_rfl) (by kernel_rfl) (by kernel_rfl)
 have h35 := @run_callFunc_extern Tryz.prog 197 _ (ReflectliteType.relation "AssignableTo" ReflectliteType.assignableTo) Tryz.func197 (by kernel_rfl) (by kernel_rfl) (by kernel_rfl) (by kernel_rfl)
 have h11 := @run_callFunc_extern Tryz.prog 91 _ (ReflectliteValue.method (ReflectliteValue.valueError "reflectlite.Value.Elem" 0) ReflectliteValue.elem) Tryz.func91 (by kernel_rfl) (by kernel_rfl) (by kernel_rfl) (by kernel_rfl)
 have h12 := @run_callFunc_extern Tryz.prog 92 _ ReflectliteValue.set Tryz.func92 (by kernel_rfl) (by kernel_rfl) (by kernel_rfl) (by kernel_rfl)
 have f6 := rl_valueW
 have f7 := rl_typeW
 have k1 := rl_kindPW
 have k2 := rl_kindW
 have e1 := rl_elemW
 have tO := rl_typeOfR
 have aB := rl_assRW
 have vB := rl_valueR
 have mK := rl_mKind
 have mE := rl_mElem
 have mA := rl_mAss
 have n8 := rl_isNilW ⟨w.heap.size, 0, none⟩ t ((w.alloc (.cells #[.pointer (some t)] 186)).alloc (.cells #[.pointer (some ⟨4, 186, none⟩), .pointer (some ⟨w.heap.size, 0, none⟩), .int .u64 150] 105)) (cellA_alloc _ (by simp))
 have el := rl_elemVW ⟨w.heap.size, 0, none⟩ t (((w.alloc (.cells #[.pointer (some t)] 186)).alloc (.cells #[.pointer (some ⟨4, 186, none⟩), .pointer (some ⟨w.heap.size, 0, none⟩), .int .u64 150] 105)).alloc (.cells #[.pointer (some ⟨4, 186, none⟩), .pointer (some ⟨w.heap.size, 0, none⟩), .int .u64 150] 105)) (cellA_alloc _ (cellA_alloc _ (by simp)))
 have st := rl_setR t ⟨w.heap.size + 1 + 1 + 1, 0, none⟩ u v old ((((w.alloc (.cells #[.pointer (some t)] 186)).alloc (.cells #[.pointer (some ⟨4, 186, none⟩), .pointer (some ⟨w.heap.size, 0, none⟩), .int .u64 150] 105)).alloc (.cells #[.pointer (some ⟨4, 186, none⟩), .pointer (some ⟨w.heap.size, 0, none⟩), .int .u64 150] 105)).alloc (.cells #[u, v] 203)) (by simp [go_sem, Addr.add]) (by simp [go_sem, Addr.add]) (cellA_alloc _ (cellA_alloc _ (cellA_alloc _ (cellA_alloc _ ht0)))) (frozenA_alloc _ (cellA_alloc _ (cellA_alloc _ (cellA_alloc _ ht0))) (frozenA_alloc _ (cellA_alloc _ (cellA_alloc _ ht0)) (frozenA_alloc _ (cellA_alloc _ ht0) (frozenA_alloc _ ht0 hf0))))
 go_enter Tryz.func26, Tryz.ntmps26
 go_wp2
 refine wp_loop_rounds 1 ?_
 rw [rounds_succ]
 go_wp2
 go_ret
 exact ⟨rfl, _, blA, rfl⟩
theorem i_faultB (k : Int) (w : World) : Calls Tryz.prog 208 #[.int .i64 k] w fun e w' => e = .returned (.agg #[.int .i64 k, .int .i64 0]) ∧ Below w.heap.size w w' := by
 go_enter Tryz.func208, Tryz.ntmps208
 go_wp2
 refine bodyPost_ret (v := .agg #[.int .i64 k, .int .i64 0]) (by simp [results, Tryz.results208, go_sem]) rfl ⟨rfl, blA⟩
theorem i_faultR (k : Int) (j : Nat) (w : World) (hg : ErrTypeAt w) : Calls Tryz.prog 211 #[.agg #[.int .i64 j, .iface 200 (.int .i64 k)]] w fun e w' => e = .returned (.agg #[.int .i64 k, .int .i64 j]) ∧ Below w.heap.size w w' := by
 have HG : Hid (∀ W, Below w.heap.size w W → ErrTypeAt W) := fun W h => hg.below h
 clear hg
 go_enter Tryz.func211, Tryz.ntmps211
 go_wp2_with (go_at_call 26; refine (as_hitK k ⟨w.heap.size + 1 + 1, 0, none⟩ (.int .i64 0) _ (HG.out _ blA) (by simp [go_sem]) (by simp [go_sem])).mono ?_; rintro e w1 ⟨rfl, w4, hb4, rfl⟩; have c0 : w4.cell? ⟨w.heap.size, 0, none⟩ = some (.int .i64 j) := (by rw [hb4.cell (p := ⟨w.heap.size, 0, none⟩) (by simp; omega)]; simp [go_sem]); have c1 : w4.cell? ⟨w.heap.size + 1, 0, none⟩ = some (.int .i64 0) := (clA hb4); have c2 : w4.cell? ⟨w.heap.size + 1, 1, none⟩ = some (.int .i64 0) := (clA hb4); have f1 : w4.frozen? ⟨w.heap.size + 1, 0, none⟩ = false := (frA hb4); have f2 : w4.frozen? ⟨w.heap.size + 1, 1, none⟩ = false := (frA hb4); have c3 : w4.cell? ⟨w.heap.size + 1 + 1, 0, none⟩ = some (.int .i64 0) := (clA hb4))
 refine bodyPost_ret (v := .agg #[.int .i64 k, .int .i64 j]) (by simp [results, Tryz.results211, go_sem, c1, c2]) rfl ⟨rfl, blA⟩
theorem firstRung_none (l : List Stil.Arm) (k : Nat) : ¬ 0 < (Stil.firstRung l k).1 → Stil.firstRung l k = (0, 0) := by
 induction l generalizing k with
 | nil => intro _; rfl
 | cons x r ih =>
  intro h
  rw [Stil.firstRung] at h ⊢
  split
  ·rename_i hx; rw [if_pos hx] at h; exact absurd hx h
  ·rename_i hx; rw [if_neg hx] at h; exact ih _ h
theorem rl_faultB (v : Value) (w : World) : (Go.method 361 200 v "loop.example/stilway/impl.fault").run Tryz.prog w = .ok (208, v) w := by kernel_rfl
theorem rl_faultR (u v : Value) (w : World) : (Go.method 361 203 (.agg #[u, v]) "loop.example/stilway/impl.fault").run Tryz.prog w = .ok (211, .agg #[u, v]) w := by kernel_rfl
theorem i_treeCheck (l : List Stil.Arm) (kv : Value) (w : World) (hr : RowsAt w) (hg : ErrTypeAt w) (hkv : ArmsAt w kv l) (hl : l.length ≤ 1048576) (hsz : Stil.treeSize l ≤ 1000000000) (hft : ∀ x ∈ l, Stil.armFits x) :
  Calls Tryz.prog 103 #[kv] w fun e w' => e = .returned (.agg #[.int .i64 (Stil.treeCheck l).1, .int .i64 (Stil.treeCheck l).2]) ∧ Below w.heap.size w w' := by
 have HL : Hid (∀ W, Below w.heap.size w W → Calls Tryz.prog 116 #[kv] W fun e w' => e = .returned (lookOf (decide (40 < l.length ∨ 400 < Stil.treeSize l)) (Stil.firstRung l 0)) ∧ Below W.heap.size W w') := fun W hW => i_treeLook l kv W (hr.below hW) (hkv.below hW) hl hsz hft
 have HG : Hid (∀ W, Below w.heap.size w W → ErrTypeAt W) := fun W h => hg.below h
 have HF : Hid (¬ 0 < (Stil.firstRung l 0).1 → Stil.firstRung l 0 = (0, 0)) := firstRung_none l 0
 have HT : Hid (Stil.treeCheck l = if 40 < l.length ∨ 400 < Stil.treeSize l then (1, 0) else Stil.firstRung l 0) := rfl
 obtain ⟨a, cap, rfl, _⟩ := hkv
 have mB : ∀ (v : Value) (w : World), (Go.method 361 200 v "loop.example/stilway/impl.fault").run Tryz.prog w = .ok (208, v) w := rl_faultB
 have mR : ∀ (u v : Value) (w : World), (Go.method 361 203 (.agg #[u, v]) "loop.example/stilway/impl.fault").run Tryz.prog w = .ok (211, .agg #[u, v]) w := rl_faultR
 obtain ⟨ln, hln⟩ : ∃ ln, ln = l.length := ⟨_, rfl⟩
 obtain ⟨z, hz⟩ : ∃ z, z = Stil.treeSize l := ⟨_, rfl⟩
 obtain ⟨Q, hQ⟩ : ∃ Q, Q = Stil.firstRung l 0 := ⟨_, rfl⟩
 obtain ⟨R, hR⟩ : ∃ R, R = Stil.treeCheck l := ⟨_, rfl⟩
 rw [← hln] at HL HT hl ⊢
 rw [← hz] at HL HT
 rw [← hQ] at HL HT HF
 rw [← hR] at HT ⊢
 clear hln hz hQ hR hr hg hft hsz
 by_cases h1 : 40 < ln ∨ 400 < z
 ·have HX : Hid (R = (1, 0)) := by show _ = _; rw [HT.out, if_pos h1]
  rw [decide_eq_true h1] at HL
  have HL1 : Hid (∀ W, Below w.heap.size w W → Calls Tryz.prog 116 #[.slice a ln cap] W fun e w' => e = .returned (.iface 200 (.int .i64 1)) ∧ Below W.heap.size W w') := HL
  clear HL HT h1 HF
  go_enter Tryz.func103, Tryz.ntmps103
  go_wp2_with (first | (go_at_call 116; refine (HL1.out _ blA).mono ?_; rintro e w1 ⟨rfl, hb1⟩; have c1 : w1.cell? ⟨w.heap.size + 1, 0, none⟩ = some .nilIface := (clA hb1); have f1 : w1.frozen? ⟨w.heap.size + 1, 0, none⟩ = false := (frA hb1); have r0 : w1.cell? ⟨w.heap.size, 0, none⟩ = some (.int .i64 0) := (by rw [hb1.cell (p := ⟨w.heap.size, 0, none⟩) (by simp; omega)]; simp [go_sem]); have q0 : w1.frozen? ⟨w.heap.size, 0, none⟩ = false := (by rw [hb1.frozen (p := ⟨w.heap.size, 0, none⟩) (by simp; omega)]; simp [go_sem]); have r1 : w1.cell? ⟨w.heap.size, 1, none⟩ = some (.int .i64 0) := (by rw [hb1.cell (p := ⟨w.heap.size, 1, none⟩) (by simp; omega)]; simp [go_sem]); have q1 : w1.frozen? ⟨w.heap.size, 1, none⟩ = false := (by rw [hb1.frozen (p := ⟨w.heap.size, 1, none⟩) (by simp; omega)]; simp [go_sem])) | (go_at_call 26; refine (as_hitB 1 ⟨w.heap.size + 1, 0, none⟩ .nilIface _ c1 f1).mono ?_; rintro e w2 ⟨rfl, w4, hb4, rfl⟩; have c4 : w4.cell? ⟨w.heap.size + 1, 0, none⟩ = some .nilIface := (hb4.cell (lt_of_cellA c1)).trans c1; have s0 : w4.cell? ⟨w.heap.size, 0, none⟩ = some (.int .i64 0) := (hb4.cell (lt_of_cellA r0)).trans r0; have p0 : w4.frozen? ⟨w.heap.size, 0, none⟩ = false := (hb4.frozen (lt_of_cellA r0)).trans q0; have s1 : w4.cell? ⟨w.heap.size, 1, none⟩ = some (.int .i64 0) := (hb4.cell (lt_of_cellA r1)).trans r1; have p1 : w4.frozen? ⟨w.heap.size, 1, none⟩ = false := (hb4.frozen (lt_of_cellA r1)).trans q1) | (go_at_call 208; refine (i_faultB _ _).mono ?_; rintro e w5 ⟨rfl, hb5⟩; have t0 : w5.cell? ⟨w.heap.size, 0, none⟩ = some (.int .i64 0) := (hb5.cell (p := ⟨w.heap.size, 0, none⟩) (Nat.lt_of_lt_of_le (lt_of_cellA s0) (sizeSet _ _ _))).trans ((cellSetOther (by omega)).trans s0); have g0 : w5.frozen? ⟨w.heap.size, 0, none⟩ = false := (hb5.frozen (p := ⟨w.heap.size, 0, none⟩) (Nat.lt_of_lt_of_le (lt_of_cellA s0) (sizeSet _ _ _))).trans (by rw [World.frozen?_setCell]; exact p0); have t1 : w5.cell? ⟨w.heap.size, 1, none⟩ = some (.int .i64 0) := (hb5.cell (p := ⟨w.heap.size, 1, none⟩) (Nat.lt_of_lt_of_le (lt_of_cellA s1) (sizeSet _ _ _))).trans ((cellSetOther (by omega)).trans s1); have g1 : w5.frozen? ⟨w.heap.size, 1, none⟩ = false := (hb5.frozen (p := ⟨w.heap.size, 1, none⟩) (Nat.lt_of_lt_of_le (lt_of_cellA s1) (sizeSet _ _ _))).trans (by rw [World.frozen?_setCell]; exact p1)))
  refine bodyPost_ret (v := .agg #[.int .i64 1, .int .i64 0]) (by simp [results, Tryz.results103, go_sem, t0, t1]) rfl ⟨by rw [HX.out]; rfl, blA⟩
 ·rw [decide_eq_false h1] at HL
  have HT2 : Hid (R = Q) := by show _ = _; rw [HT.out, if_neg h1]
  clear HT h1
  by_cases hq : 0 < Q.1
  ·have HX : Hid (R = Q) := HT2.out
   have HL1 : Hid (∀ W, Below w.heap.size w W → Calls Tryz.prog 116 #[.slice a ln cap] W fun e w' => e = .returned (.iface 203 (.agg #[.int .i64 Q.2, .iface 200 (.int .i64 Q.1)])) ∧ Below W.heap.size W w') := fun W hW => (HL.out W hW).mono fun e w' ⟨he, hb⟩ => ⟨by rw [he]; unfold lookOf; simp [hq], hb⟩
   clear HL hq HF
   go_enter Tryz.func103, Tryz.ntmps103
   go_wp2_with (first | (go_at_call 116; refine (HL1.out _ blA).mono ?_; rintro e w1 ⟨rfl, hb1⟩; have c1 : w1.cell? ⟨w.heap.size + 1, 0, none⟩ = some .nilIface := (clA hb1); have f1 : w1.frozen? ⟨w.heap.size + 1, 0, none⟩ = false := (frA hb1); have r0 : w1.cell? ⟨w.heap.size, 0, none⟩ = some (.int .i64 0) := (by rw [hb1.cell (p := ⟨w.heap.size, 0, none⟩) (by simp; omega)]; simp [go_sem]); have q0 : w1.frozen? ⟨w.heap.size, 0, none⟩ = false := (by rw [hb1.frozen (p := ⟨w.heap.size, 0, none⟩) (by simp; omega)]; simp [go_sem]); have r1 : w1.cell? ⟨w.heap.size, 1, none⟩ = some (.int .i64 0) := (by rw [hb1.cell (p := ⟨w.heap.size, 1, none⟩) (by simp; omega)]; simp [go_sem]); have q1 : w1.frozen? ⟨w.heap.size, 1, none⟩ = false := (by rw [hb1.frozen (p := ⟨w.heap.size, 1, none⟩) (by simp; omega)]; simp [go_sem])) | (go_at_call 26; refine (as_hitR _ _ ⟨w.heap.size + 1, 0, none⟩ .nilIface _ c1 f1).mono ?_; rintro e w2 ⟨rfl, w4, hb4, rfl⟩; have c4 : w4.cell? ⟨w.heap.size + 1, 0, none⟩ = some .nilIface := (hb4.cell (lt_of_cellA c1)).trans c1; have s0 : w4.cell? ⟨w.heap.size, 0, none⟩ = some (.int .i64 0) := (hb4.cell (lt_of_cellA r0)).trans r0; have p0 : w4.frozen? ⟨w.heap.size, 0, none⟩ = false := (hb4.frozen (lt_of_cellA r0)).trans q0; have s1 : w4.cell? ⟨w.heap.size, 1, none⟩ = some (.int .i64 0) := (hb4.cell (lt_of_cellA r1)).trans r1; have p1 : w4.frozen? ⟨w.heap.size, 1, none⟩ = false := (hb4.frozen (lt_of_cellA r1)).trans q1) | (go_at_call 211; refine (i_faultR _ _ _ (HG.out _ blA)).mono ?_; rintro e w5 ⟨rfl, hb5⟩; have t0 : w5.cell? ⟨w.heap.size, 0, none⟩ = some (.int .i64 0) := (hb5.cell (p := ⟨w.heap.size, 0, none⟩) (Nat.lt_of_lt_of_le (lt_of_cellA s0) (sizeSet _ _ _))).trans ((cellSetOther (by omega)).trans s0); have g0 : w5.frozen? ⟨w.heap.size, 0, none⟩ = false := (hb5.frozen (p := ⟨w.heap.size, 0, none⟩) (Nat.lt_of_lt_of_le (lt_of_cellA s0) (sizeSet _ _ _))).trans (by rw [World.frozen?_setCell]; exact p0); have t1 : w5.cell? ⟨w.heap.size, 1, none⟩ = some (.int .i64 0) := (hb5.cell (p := ⟨w.heap.size, 1, none⟩) (Nat.lt_of_lt_of_le (lt_of_cellA s1) (sizeSet _ _ _))).trans ((cellSetOther (by omega)).trans s1); have g1 : w5.frozen? ⟨w.heap.size, 1, none⟩ = false := (hb5.frozen (p := ⟨w.heap.size, 1, none⟩) (Nat.lt_of_lt_of_le (lt_of_cellA s1) (sizeSet _ _ _))).trans (by rw [World.frozen?_setCell]; exact p1)))
   refine bodyPost_ret (v := .agg #[.int .i64 Q.1, .int .i64 Q.2]) (by simp [results, Tryz.results103, go_sem, t0, t1]) rfl ⟨by rw [HX.out], blA⟩
  ·have HX : Hid (R = (0, 0)) := by show _ = _; rw [HT2.out]; exact HF.out hq
   have HL1 : Hid (∀ W, Below w.heap.size w W → Calls Tryz.prog 116 #[.slice a ln cap] W fun e w' => e = .returned .nilIface ∧ Below W.heap.size W w') := fun W hW => (HL.out W hW).mono fun e w' ⟨he, hb⟩ => ⟨by rw [he]; unfold lookOf; simp [hq], hb⟩
   clear HL hq HF HT2
   go_enter Tryz.func103, Tryz.ntmps103
   go_wp2_with (first | (go_at_call 116; refine (HL1.out _ blA).mono ?_; rintro e w1 ⟨rfl, hb1⟩; have t0 : w1.cell? ⟨w.heap.size, 0, none⟩ = some (.int .i64 0) := (by rw [hb1.cell (p := ⟨w.heap.size, 0, none⟩) (by simp; omega)]; simp [go_sem]); have q0 : w1.frozen? ⟨w.heap.size, 0, none⟩ = false := (by rw [hb1.frozen (p := ⟨w.heap.size, 0, none⟩) (by simp; omega)]; simp [go_sem]); have t1 : w1.cell? ⟨w.heap.size, 1, none⟩ = some (.int .i64 0) := (by rw [hb1.cell (p := ⟨w.heap.size, 1, none⟩) (by simp; omega)]; simp [go_sem]); have q1 : w1.frozen? ⟨w.heap.size, 1, none⟩ = false := (by rw [hb1.frozen (p := ⟨w.heap.size, 1, none⟩) (by simp; omega)]; simp [go_sem])) | (go_at_call 26; refine (as_nil _ _).mono ?_; rintro e w2 ⟨rfl, rfl⟩))
   refine bodyPost_ret (v := .agg #[.int .i64 0, .int .i64 0]) (by simp [results, Tryz.results103, go_sem, t0, t1]) rfl ⟨by rw [HX.out]; rfl, blA⟩
end Go.Proofs.YtpaljcoojkbhnaaGreatDoor
