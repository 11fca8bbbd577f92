import Derived.LaidEql
import Derived.Stop.Asserts
import Derived.RowKitTokens
import Derived.Test.YtobbpffcggchmaaGreatDoorGV
set_option maxHeartbeats 4000000
set_option maxRecDepth 100000
namespace Go.Proofs.YtobbpffcggchmaaGreatDoor
open Tryz
open Stil
open Go.RowKit Go.Extern.Stop Go.Stop Go.Extern
variable {W:World}{v:Value}
theorem as_nil (t:Value)(w:World):Calls prog 21 #[.nilIface,t] w λe a=>e=.returned (.bool false)/\a=w:=by
 go_enter func21,ntmps21
 go_wp2
 go_ret;exact⟨rfl,rfl⟩
theorem Aku (t:Addr)(w:World):(ReflectliteValue.unpack (.iface 151 (.pointer (some t)))).run prog w=.ok (.agg #[.pointer (some ⟨4,151,none⟩), .pointer (some ⟨w.heap.size,0,none⟩), .int .u64 150]) (w.alloc (.cells #[.pointer (some t)] 151)):=krz
theorem Aqi (a:Addr)(w:World):(ReflectliteValue.methodAny (ReflectliteValue.valueError "reflectlite.Value.Type" 0) (λt _ _ _=>ReflectliteType.toType t) #[.agg #[.pointer (some ⟨4,151,none⟩), .pointer (some a), .int .u64 150]]).run prog w=.ok (.iface 124 (.agg #[.pointer (some ⟨4,151,none⟩)])) w:=krz
theorem Aky (w:World):((ReflectliteType.abiMethod λt=>(λa:Nat=>Value.int IntKind.u8 (a:Int))<$>Rtype.kind t) #[.pointer (some ⟨4,151,none⟩)]).run prog w=.ok (.int .u8 22) w:=krz
theorem Aqj (w:World):((ReflectliteType.abiMethod λt=>(λa:Nat=>Value.int IntKind.u8 (a:Int))<$>Rtype.kind t) #[.pointer (some ⟨4,149,none⟩)]).run prog w=.ok (.int .u8 20) w:=krz
theorem Aqk (w:World):(ReflectliteType.method ReflectliteType.elem #[.agg #[.pointer (some ⟨4,151,none⟩)]]).run prog w=.ok (.iface 124 (.agg #[.pointer (some ⟨4,149,none⟩)])) w:=krz
theorem Ag8 (v:Value)(w:World):(ReflectliteType.typeOf #[.iface 165 v]).run prog w=.ok (.iface 124 (.agg #[.pointer (some ⟨4,165,none⟩)])) w:=krz
theorem Asb (v:Value)(w:World):(ReflectliteType.typeOf #[.iface 168 v]).run prog w=.ok (.iface 124 (.agg #[.pointer (some ⟨4,168,none⟩)])) w:=krz
theorem A1p (w:World):(ReflectliteType.relation "AssignableTo" ReflectliteType.assignableTo #[.agg #[.pointer (some ⟨4,165,none⟩)], .iface 124 (.agg #[.pointer (some ⟨4,149,none⟩)])]).run prog w=.ok (.bool true) w:=krz
theorem A1o (w:World):(ReflectliteType.relation "AssignableTo" ReflectliteType.assignableTo #[.agg #[.pointer (some ⟨4,168,none⟩)], .iface 124 (.agg #[.pointer (some ⟨4,149,none⟩)])]).run prog w=.ok (.bool true) w:=krz
theorem A1q (w:World):(ReflectliteType.relation "AssignableTo" ReflectliteType.assignableTo #[.agg #[.pointer (some ⟨4,165,none⟩)], .iface 124 (.agg #[.pointer (some ⟨4,165,none⟩)])]).run prog w=.ok (.bool true) w:=krz
theorem Akv (k:Int)(w:World):(ReflectliteValue.unpack (.iface 165 (.int .i64 k))).run prog w=.ok (.agg #[.pointer (some ⟨4,165,none⟩), .pointer (some ⟨w.heap.size,0,none⟩), .int .u64 130]) (w.alloc (.cells #[.int .i64 k] 165)):=krz
theorem Aw7 (a b:Value)(w:World):(ReflectliteValue.unpack (.iface 168 (.agg #[a,b]))).run prog w=.ok (.agg #[.pointer (some ⟨4,168,none⟩), .pointer (some ⟨w.heap.size,0,none⟩), .int .u64 153]) (w.alloc (.cells #[a,b] 168)):=krz
theorem Ag9 (a:Addr)(w:World):(ReflectliteValue.parts (.agg #[.pointer (some ⟨4,151,none⟩), .pointer (some a), .int .u64 150])).run prog w=.ok (some (151,a,150)) w:=krz
theorem Akz (a p:Addr)(W:World)(b:W.cell? a=some (.pointer (some p))):
  (ReflectliteValue.method (ReflectliteValue.valueError "reflectlite.Value.IsNil" 0) ReflectliteValue.isNil #[.agg #[.pointer (some ⟨4,151,none⟩), .pointer (some a), .int .u64 150]]).run prog W=.ok (.bool false) W:=by
 change Sem.run _ (ReflectliteValue.parts (.agg #[.pointer (some ⟨4,151,none⟩), .pointer (some a), .int .u64 150])>>=_) _=_;simp only[Sem.run_bind,Ag9,Result.andThen];simp[ReflectliteValue.isNil,loadVar,isAgg,underlying,underlying151,b,Result.andThen]
theorem Asd (w:World):(Rtype.elem? 151).run prog w=.ok (some 149) w:=krz
theorem A66 (p:Addr)(w:World):(ReflectliteValue.mk 149 p ReflectliteValue.flagAddr).run prog w=.ok (.agg #[.pointer (some ⟨4,149,none⟩), .pointer (some p), .int .u64 404]) w:=krz
theorem Ak0 (a p:Addr)(W:World)(b:W.cell? a=some (.pointer (some p))):
  (ReflectliteValue.method (ReflectliteValue.valueError "reflectlite.Value.Elem" 0) ReflectliteValue.elem #[.agg #[.pointer (some ⟨4,151,none⟩), .pointer (some a), .int .u64 150]]).run prog W
   =.ok (.agg #[.pointer (some ⟨4,149,none⟩), .pointer (some p), .int .u64 404]) W:=by
 change Sem.run _ (ReflectliteValue.parts (.agg #[.pointer (some ⟨4,151,none⟩), .pointer (some a), .int .u64 150])>>=_) _=_;simp only[Sem.run_bind,Ag9,Result.andThen];simp[ReflectliteValue.elem,loadVar,isAgg,underlying,underlying151,b,Result.andThen,Asd,A66]
theorem Akw (a:Addr)(w:World):(ReflectliteValue.parts (.agg #[.pointer (some ⟨4,149,none⟩), .pointer (some a), .int .u64 404])).run prog w=.ok (some (149,a,404)) w:=krz
theorem Akx (a:Addr)(w:World):(ReflectliteValue.parts (.agg #[.pointer (some ⟨4,165,none⟩), .pointer (some a), .int .u64 130])).run prog w=.ok (some (165,a,130)) w:=krz
theorem Aw8 (a:Addr)(w:World):(ReflectliteValue.parts (.agg #[.pointer (some ⟨4,168,none⟩), .pointer (some a), .int .u64 153])).run prog w=.ok (some (168,a,153)) w:=krz
theorem An4 (w:World):(Rtype.directlyAssignable 149 165).run prog w=.ok false w:=krz
theorem An3 (w:World):(Rtype.directlyAssignable 149 168).run prog w=.ok false w:=krz
theorem Axa (w:World):(Rtype.implements 149 165).run prog w=.ok true w:=krz
theorem Aw9 (w:World):(Rtype.implements 149 168).run prog w=.ok true w:=krz
theorem A79 (w:World):(Rtype.kind 165).run prog w=.ok 2 w:=krz
theorem A78 (w:World):(Rtype.kind 168).run prog w=.ok 25 w:=krz
theorem A40 (a b:Addr)(k:Int)(old:Value)(W:World)(d:W.cell? b=some (.int .i64 k))(e:W.cell? a=some old)(c:W.frozen? a=false):
  (ReflectliteValue.set #[.agg #[.pointer (some ⟨4,149,none⟩), .pointer (some a), .int .u64 404], .agg #[.pointer (some ⟨4,165,none⟩), .pointer (some b), .int .u64 130]]).run prog W
   =.ok (.tuple #[]) (W.setCell a (.iface 165 (.int .i64 k))):=by
 change Sem.run _ (ReflectliteValue.parts (.agg #[.pointer (some ⟨4,149,none⟩), .pointer (some a), .int .u64 404])>>=λp=>ReflectliteValue.parts (.agg #[.pointer (some ⟨4,165,none⟩), .pointer (some b), .int .u64 130])>>=_) _=_;simp only[Sem.run_bind,Akw,Akx,Result.andThen];simp[ReflectliteValue.flagAddr,loadVar,isAgg,underlying,underlying165,d,Result.andThen,An4,Axa,A79,storeVar,Value.cells,storeCells,Addr.add];rw[run_store prog W a _ _ rrz];simp[e,c]
theorem A4z (a b:Addr)(u v old:Value)(W:World)(i:W.cell? (b.add 0)=some u)(g:W.cell? (b.add 1)=some v)(e:W.cell? a=some old)(d:W.frozen? a=false):
  (ReflectliteValue.set #[.agg #[.pointer (some ⟨4,149,none⟩), .pointer (some a), .int .u64 404], .agg #[.pointer (some ⟨4,168,none⟩), .pointer (some b), .int .u64 153]]).run prog W
   =.ok (.tuple #[]) (W.setCell a (.iface 168 (.agg #[u,v]))):=by
 have f:(loadCells b 2).run prog W=.ok #[u,v] W:=run_loadCells_list W b [u,v] (λj x c=>by
  match j,c with
  | 0,c=>cases c;exact i
  | 1,c=>cases c;exact g)
 change Sem.run _ (ReflectliteValue.parts (.agg #[.pointer (some ⟨4,149,none⟩), .pointer (some a), .int .u64 404])>>=λp=>ReflectliteValue.parts (.agg #[.pointer (some ⟨4,168,none⟩), .pointer (some b), .int .u64 153])>>=_) _=_;simp only[Sem.run_bind,Akw,Aw8,Result.andThen];simp[ReflectliteValue.flagAddr,loadVar,isAgg,underlying,underlying168,f,Result.andThen,An3,Aw9,A78,storeVar,Value.cells,storeCells,Addr.add];rw[run_store prog W a _ _ rrz];simp[e,d]
theorem Zw (h:Value)(w:World):(Go.method 336 124 (.agg #[h]) "Kind").run prog w=.ok (173,h) w:=krz
theorem Zx (h:Value)(w:World):(Go.method 336 124 (.agg #[h]) "Elem").run prog w=.ok (186, .agg #[h]) w:=krz
theorem Aip (h:Value)(w:World):(Go.method 336 124 (.agg #[h]) "Implements").run prog w=.ok (187, .agg #[h]) w:=krz
theorem Ad7 (h:Value)(w:World):(Go.method 336 124 (.agg #[h]) "AssignableTo").run prog w=.ok (184, .agg #[h]) w:=krz
theorem Ec {t:Addr}(h:W.cell? t=some v):t.block<W.heap.size:=by
 rcases Ba3 t.block W.heap.size with a | a
 ·exact a
 ·simp[World.cell?,Bbq a] at h
theorem Ae {t:Addr}(ob:Obj)(h:W.cell? t=some v):(W.alloc ob).cell? t=some v:=((Aa W ob).cell (Ec h)).trans h
theorem Dk {t:Addr}(ob:Obj)(h:W.cell? t=some v)(a:W.frozen? t=false):(W.alloc ob).frozen? t=false:=((Aa W ob).frozen (Ec h)).trans a
theorem A1s (t:Addr)(w:World):(ReflectliteValue.unpack (.iface 224 (.pointer (some t)))).run prog w=.ok (.agg #[.pointer (some ⟨4,224,none⟩), .pointer (some ⟨w.heap.size,0,none⟩), .int .u64 150]) (w.alloc (.cells #[.pointer (some t)] 224)):=krz
theorem A42 (a:Addr)(w:World):(ReflectliteValue.methodAny (ReflectliteValue.valueError "reflectlite.Value.Type" 0) (λt _ _ _=>ReflectliteType.toType t) #[.agg #[.pointer (some ⟨4,224,none⟩), .pointer (some a), .int .u64 150]]).run prog w=.ok (.iface 124 (.agg #[.pointer (some ⟨4,224,none⟩)])) w:=krz
theorem A1u (w:World):((ReflectliteType.abiMethod λt=>(λa:Nat=>Value.int IntKind.u8 (a:Int))<$>Rtype.kind t) #[.pointer (some ⟨4,224,none⟩)]).run prog w=.ok (.int .u8 22) w:=krz
theorem A43 (w:World):((ReflectliteType.abiMethod λt=>(λa:Nat=>Value.int IntKind.u8 (a:Int))<$>Rtype.kind t) #[.pointer (some ⟨4,165,none⟩)]).run prog w=.ok (.int .u8 2) w:=krz
theorem A45 (w:World):(ReflectliteType.method ReflectliteType.elem #[.agg #[.pointer (some ⟨4,224,none⟩)]]).run prog w=.ok (.iface 124 (.agg #[.pointer (some ⟨4,165,none⟩)])) w:=krz
theorem A44 (w:World):(ReflectliteType.relation "Implements" ReflectliteType.implements_ #[.agg #[.pointer (some ⟨4,165,none⟩)], .iface 124 (.agg #[.pointer (some ⟨4,57,none⟩)])]).run prog w=.ok (.bool true) w:=krz
theorem Ak1 (a:Addr)(w:World):(ReflectliteValue.parts (.agg #[.pointer (some ⟨4,224,none⟩), .pointer (some a), .int .u64 150])).run prog w=.ok (some (224,a,150)) w:=krz
theorem A1t (a:Addr)(w:World):(ReflectliteValue.parts (.agg #[.pointer (some ⟨4,165,none⟩), .pointer (some a), .int .u64 386])).run prog w=.ok (some (165,a,386)) w:=krz
theorem Axe (w:World):(Rtype.elem? 224).run prog w=.ok (some 165) w:=krz
theorem A8a (p:Addr)(w:World):(ReflectliteValue.mk 165 p ReflectliteValue.flagAddr).run prog w=.ok (.agg #[.pointer (some ⟨4,165,none⟩), .pointer (some p), .int .u64 386]) w:=krz
theorem Axf (w:World):(Rtype.directlyAssignable 165 165).run prog w=.ok true w:=krz
theorem A1v (a p:Addr)(W:World)(b:W.cell? a=some (.pointer (some p))):
  (ReflectliteValue.method (ReflectliteValue.valueError "reflectlite.Value.IsNil" 0) ReflectliteValue.isNil #[.agg #[.pointer (some ⟨4,224,none⟩), .pointer (some a), .int .u64 150]]).run prog W=.ok (.bool false) W:=by
 change Sem.run _ (ReflectliteValue.parts (.agg #[.pointer (some ⟨4,224,none⟩), .pointer (some a), .int .u64 150])>>=_) _=_;simp only[Sem.run_bind,Ak1,Result.andThen];simp[ReflectliteValue.isNil,loadVar,isAgg,underlying,underlying224,b,Result.andThen]
theorem A1w (a p:Addr)(W:World)(b:W.cell? a=some (.pointer (some p))):
  (ReflectliteValue.method (ReflectliteValue.valueError "reflectlite.Value.Elem" 0) ReflectliteValue.elem #[.agg #[.pointer (some ⟨4,224,none⟩), .pointer (some a), .int .u64 150]]).run prog W
   =.ok (.agg #[.pointer (some ⟨4,165,none⟩), .pointer (some p), .int .u64 386]) W:=by
 change Sem.run _ (ReflectliteValue.parts (.agg #[.pointer (some ⟨4,224,none⟩), .pointer (some a), .int .u64 150])>>=_) _=_;simp only[Sem.run_bind,Ak1,Result.andThen];simp[ReflectliteValue.elem,loadVar,isAgg,underlying,underlying224,b,Result.andThen,Axe,A8a]
theorem A67 (a b:Addr)(k:Int)(old:Value)(W:World)(d:W.cell? b=some (.int .i64 k))(e:W.cell? a=some old)(c:W.frozen? a=false):
  (ReflectliteValue.set #[.agg #[.pointer (some ⟨4,165,none⟩), .pointer (some a), .int .u64 386], .agg #[.pointer (some ⟨4,165,none⟩), .pointer (some b), .int .u64 130]]).run prog W
   =.ok (.tuple #[]) (W.setCell a (.int .i64 k)):=by
 change Sem.run _ (ReflectliteValue.parts (.agg #[.pointer (some ⟨4,165,none⟩), .pointer (some a), .int .u64 386])>>=λp=>ReflectliteValue.parts (.agg #[.pointer (some ⟨4,165,none⟩), .pointer (some b), .int .u64 130])>>=_) _=_;simp only[Sem.run_bind,A1t,Akx,Result.andThen];simp[ReflectliteValue.flagAddr,loadVar,isAgg,underlying,underlying165,d,Result.andThen,Axf,storeVar,Value.cells,storeCells,Addr.add];rw[run_store prog W a _ _ rrz];simp[e,c]
theorem A6n (k:Int)(t:Addr)(old:Value)(w:World)(hg:w.cell? ⟨0,0,none⟩=some (.iface 124 (.agg #[.pointer (some ⟨4,57,none⟩)])))(a:w.cell? t=some old)(c:w.frozen? t=false):
  Calls prog 21 #[.iface 165 (.int .i64 k), .iface 224 (.pointer (some t))] w λe d=>e=.returned (.bool true)/\∃b,Below w.heap.size w b/\d=b.setCell t (.int .i64 k):=by
 have r:=@run_callFunc_extern prog 52 _ (λargs=>ReflectliteValue.unpack (args.getD 0 (.tuple #[]))) func52 krz krz krz krz;have u:=@run_callFunc_extern prog 53 _ (ReflectliteValue.methodAny (ReflectliteValue.valueError "reflectlite.Value.Type" 0) (λt _ _ _=>ReflectliteType.toType t)) func53 krz krz krz krz;have L:=@run_callFunc_extern prog 54 _ (ReflectliteValue.method (ReflectliteValue.valueError "reflectlite.Value.IsNil" 0) ReflectliteValue.isNil) func54 krz krz krz krz;have E:=@run_callFunc_extern prog 173 _ (ReflectliteType.abiMethod λt=>do pure (.int .u8 (<-Rtype.kind t))) func173 krz krz krz krz;have B:=@run_callFunc_extern prog 186 _ (ReflectliteType.method ReflectliteType.elem) func186 krz krz krz krz;have C:=@run_callFunc_extern prog 79 _ ReflectliteType.typeOf func79 krz krz krz krz;have g:=@run_callFunc_extern prog 184 _ (ReflectliteType.relation "AssignableTo" ReflectliteType.assignableTo) func184 krz krz krz krz;have z:=@run_callFunc_extern prog 80 _ (ReflectliteValue.method (ReflectliteValue.valueError "reflectlite.Value.Elem" 0) ReflectliteValue.elem) func80 krz krz krz krz
 have o:=@run_callFunc_extern prog 81 _ ReflectliteValue.set func81 krz krz krz krz;have H:=A1s;have m:=A42;have I:=A1u;have j:=A43;have q:=A45;have K:=Ag8;have y:=A1q;have l:=Akv;have J:=@run_callFunc_extern prog 187 _ (ReflectliteType.relation "Implements" ReflectliteType.implements_) func187 krz krz krz krz;have F:=A44;have s:=Aip;have M:((w.alloc (.cells #[.pointer (some t)] 224)).alloc (.cells #[.pointer (some ⟨4,224,none⟩), .pointer (some ⟨w.heap.size,0,none⟩), .int .u64 150] 95)).cell? ⟨0,0,none⟩=some (.iface 124 (.agg #[.pointer (some ⟨4,57,none⟩)])):=Ae _ (Ae _ hg);have D:=Zw;have x:=Zx;have G:=Ad7;have i:=A1v ⟨w.heap.size,0,none⟩ t ((w.alloc (.cells #[.pointer (some t)] 224)).alloc (.cells #[.pointer (some ⟨4,224,none⟩), .pointer (some ⟨w.heap.size,0,none⟩), .int .u64 150] 95)) (Ae _ spz);have f:=A1w ⟨w.heap.size,0,none⟩ t (((w.alloc (.cells #[.pointer (some t)] 224)).alloc (.cells #[.pointer (some ⟨4,224,none⟩), .pointer (some ⟨w.heap.size,0,none⟩), .int .u64 150] 95)).alloc (.cells #[.pointer (some ⟨4,224,none⟩), .pointer (some ⟨w.heap.size,0,none⟩), .int .u64 150] 95)) (Ae _ (Ae _ spz));have A:=A67 t ⟨w.heap.size+1+1+1,0,none⟩ k old ((((w.alloc (.cells #[.pointer (some t)] 224)).alloc (.cells #[.pointer (some ⟨4,224,none⟩), .pointer (some ⟨w.heap.size,0,none⟩), .int .u64 150] 95)).alloc (.cells #[.pointer (some ⟨4,224,none⟩), .pointer (some ⟨w.heap.size,0,none⟩), .int .u64 150] 95)).alloc (.cells #[.int .i64 k] 165)) yBi (Ae _ (Ae _ (Ae _ (Ae _ a)))) (Dk _ (Ae _ (Ae _ (Ae _ a))) (Dk _ (Ae _ (Ae _ a)) (Dk _ (Ae _ a) (Dk _ a c))))
 go_enter func21,ntmps21
 go_wp2
 refine wp_loop_rounds 1 ?_;rw[rounds_succ]
 go_wp2
 go_ret;exact⟨rfl,_,blA,rfl⟩
open Go.Sort Go.BigFrame
def Em (w:World):Prop:=w.cell? ⟨0,0,none⟩=some (.iface 124 (.agg #[.pointer (some ⟨4,57,none⟩)]))
theorem Em.below {w w':World}(h:Em w)(a:Below w.heap.size w w'):Em w':=(a.cell (Ec h)).trans h
theorem A6o (k:Int)(t:Addr)(old:Value)(w:World)(a:w.cell? t=some old)(c:w.frozen? t=false):
  Calls prog 21 #[.iface 165 (.int .i64 k), .iface 151 (.pointer (some t))] w λe d=>e=.returned (.bool true)/\∃b,Below w.heap.size w b/\d=b.setCell t (.iface 165 (.int .i64 k)):=by
 have r:=@run_callFunc_extern prog 52 _ (λargs=>ReflectliteValue.unpack (args.getD 0 (.tuple #[]))) func52 krz krz krz krz;have s:=@run_callFunc_extern prog 53 _ (ReflectliteValue.methodAny (ReflectliteValue.valueError "reflectlite.Value.Type" 0) (λt _ _ _=>ReflectliteType.toType t)) func53 krz krz krz krz;have I:=@run_callFunc_extern prog 54 _ (ReflectliteValue.method (ReflectliteValue.valueError "reflectlite.Value.IsNil" 0) ReflectliteValue.isNil) func54 krz krz krz krz;have D:=@run_callFunc_extern prog 173 _ (ReflectliteType.abiMethod λt=>do pure (.int .u8 (<-Rtype.kind t))) func173 krz krz krz krz;have A:=@run_callFunc_extern prog 186 _ (ReflectliteType.method ReflectliteType.elem) func186 krz krz krz krz;have B:=@run_callFunc_extern prog 79 _ ReflectliteType.typeOf func79 krz krz krz krz;have g:=@run_callFunc_extern prog 184 _ (ReflectliteType.relation "AssignableTo" ReflectliteType.assignableTo) func184 krz krz krz krz;have y:=@run_callFunc_extern prog 80 _ (ReflectliteValue.method (ReflectliteValue.valueError "reflectlite.Value.Elem" 0) ReflectliteValue.elem) func80 krz krz krz krz
 have o:=@run_callFunc_extern prog 81 _ ReflectliteValue.set func81 krz krz krz krz;have F:=Aku;have m:=Aqi;have G:=Aky;have j:=Aqj;have q:=Aqk;have H:=Ag8;have x:=A1p;have l:=Akv;have C:=Zw;have u:=Zx;have E:=Ad7;have i:=Akz ⟨w.heap.size,0,none⟩ t ((w.alloc (.cells #[.pointer (some t)] 151)).alloc (.cells #[.pointer (some ⟨4,151,none⟩), .pointer (some ⟨w.heap.size,0,none⟩), .int .u64 150] 95)) (Ae _ spz);have f:=Ak0 ⟨w.heap.size,0,none⟩ t (((w.alloc (.cells #[.pointer (some t)] 151)).alloc (.cells #[.pointer (some ⟨4,151,none⟩), .pointer (some ⟨w.heap.size,0,none⟩), .int .u64 150] 95)).alloc (.cells #[.pointer (some ⟨4,151,none⟩), .pointer (some ⟨w.heap.size,0,none⟩), .int .u64 150] 95)) (Ae _ (Ae _ spz));have z:=A40 t ⟨w.heap.size+1+1+1,0,none⟩ k old ((((w.alloc (.cells #[.pointer (some t)] 151)).alloc (.cells #[.pointer (some ⟨4,151,none⟩), .pointer (some ⟨w.heap.size,0,none⟩), .int .u64 150] 95)).alloc (.cells #[.pointer (some ⟨4,151,none⟩), .pointer (some ⟨w.heap.size,0,none⟩), .int .u64 150] 95)).alloc (.cells #[.int .i64 k] 165)) yBi (Ae _ (Ae _ (Ae _ (Ae _ a)))) (Dk _ (Ae _ (Ae _ (Ae _ a))) (Dk _ (Ae _ (Ae _ a)) (Dk _ (Ae _ a) (Dk _ a c))));go_enter func21,ntmps21
 go_wp2
 refine wp_loop_rounds 1 ?_;rw[rounds_succ]
 go_wp2
 go_ret;exact⟨rfl,_,blA,rfl⟩
theorem A6m (u v:Value)(t:Addr)(old:Value)(w:World)(a:w.cell? t=some old)(c:w.frozen? t=false):
  Calls prog 21 #[.iface 168 (.agg #[u,v]), .iface 151 (.pointer (some t))] w λe d=>e=.returned (.bool true)/\∃b,Below w.heap.size w b/\d=b.setCell t (.iface 168 (.agg #[u,v])):=by
 have q:=@run_callFunc_extern prog 52 _ (λargs=>ReflectliteValue.unpack (args.getD 0 (.tuple #[]))) func52 krz krz krz krz;have r:=@run_callFunc_extern prog 53 _ (ReflectliteValue.methodAny (ReflectliteValue.valueError "reflectlite.Value.Type" 0) (λt _ _ _=>ReflectliteType.toType t)) func53 krz krz krz krz;have I:=@run_callFunc_extern prog 54 _ (ReflectliteValue.method (ReflectliteValue.valueError "reflectlite.Value.IsNil" 0) ReflectliteValue.isNil) func54 krz krz krz krz;have D:=@run_callFunc_extern prog 173 _ (ReflectliteType.abiMethod λt=>do pure (.int .u8 (<-Rtype.kind t))) func173 krz krz krz krz;have A:=@run_callFunc_extern prog 186 _ (ReflectliteType.method ReflectliteType.elem) func186 krz krz krz krz;have B:=@run_callFunc_extern prog 79 _ ReflectliteType.typeOf func79 krz krz krz krz;have g:=@run_callFunc_extern prog 184 _ (ReflectliteType.relation "AssignableTo" ReflectliteType.assignableTo) func184 krz krz krz krz;have y:=@run_callFunc_extern prog 80 _ (ReflectliteValue.method (ReflectliteValue.valueError "reflectlite.Value.Elem" 0) ReflectliteValue.elem) func80 krz krz krz krz
 have m:=@run_callFunc_extern prog 81 _ ReflectliteValue.set func81 krz krz krz krz;have F:=Aku;have l:=Aqi;have G:=Aky;have j:=Aqj;have o:=Aqk;have H:=Asb;have x:=A1o;have k:=Aw7;have C:=Zw;have s:=Zx;have E:=Ad7;have i:=Akz ⟨w.heap.size,0,none⟩ t ((w.alloc (.cells #[.pointer (some t)] 151)).alloc (.cells #[.pointer (some ⟨4,151,none⟩), .pointer (some ⟨w.heap.size,0,none⟩), .int .u64 150] 95)) (Ae _ spz);have f:=Ak0 ⟨w.heap.size,0,none⟩ t (((w.alloc (.cells #[.pointer (some t)] 151)).alloc (.cells #[.pointer (some ⟨4,151,none⟩), .pointer (some ⟨w.heap.size,0,none⟩), .int .u64 150] 95)).alloc (.cells #[.pointer (some ⟨4,151,none⟩), .pointer (some ⟨w.heap.size,0,none⟩), .int .u64 150] 95)) (Ae _ (Ae _ spz));have z:=A4z t ⟨w.heap.size+1+1+1,0,none⟩ u v old ((((w.alloc (.cells #[.pointer (some t)] 151)).alloc (.cells #[.pointer (some ⟨4,151,none⟩), .pointer (some ⟨w.heap.size,0,none⟩), .int .u64 150] 95)).alloc (.cells #[.pointer (some ⟨4,151,none⟩), .pointer (some ⟨w.heap.size,0,none⟩), .int .u64 150] 95)).alloc (.cells #[u,v] 168)) (by simp[go_sem,Addr.add]) (by simp[go_sem,Addr.add]) (Ae _ (Ae _ (Ae _ (Ae _ a)))) (Dk _ (Ae _ (Ae _ (Ae _ a))) (Dk _ (Ae _ (Ae _ a)) (Dk _ (Ae _ a) (Dk _ a c))));go_enter func21,ntmps21
 go_wp2
 refine wp_loop_rounds 1 ?_;rw[rounds_succ]
 go_wp2
 go_ret;exact⟨rfl,_,blA,rfl⟩
theorem A2z (k:Int)(w:World):Calls prog 195 #[.int .i64 k] w λe a=>e=.returned (.agg #[.int .i64 k, .int .i64 0])/\Below w.heap.size w a:=by
 go_enter func195,ntmps195
 go_wp2
 refine bodyPost_ret (v:=.agg #[.int .i64 k, .int .i64 0]) (by simp[results,results195,go_sem]) rfl ⟨rfl,blA⟩
theorem A2y (k:Int)(j:Nat)(w:World)(hg:Em w):Calls prog 198 #[.agg #[.int .i64 j, .iface 165 (.int .i64 k)]] w λe g=>e=.returned (.agg #[.int .i64 k, .int .i64 j])/\Below w.heap.size w g:=by
 have f:=hid (λW (h:Below w.heap.size w W)=>hg.below h);clear hg;go_enter func198,ntmps198
 go_wp2_with (go_at_call 21;refine(A6n k ⟨w.heap.size+1+1,0,none⟩ (.int .i64 0) _ (f _ blA) (by simp[go_sem]) (by simp[go_sem])).mono ?_;rintro e l ⟨rfl,b,c,rfl⟩;have o:b.cell? ⟨w.heap.size,0,none⟩=some (.int .i64 j):=(by rw[c.cell (p:=⟨w.heap.size,0,none⟩) yAb];simp[go_sem]);have d:b.cell? ⟨w.heap.size+1,0,none⟩=some (.int .i64 0):=(clA c);have i:b.cell? ⟨w.heap.size+1,1,none⟩=some (.int .i64 0):=(clA c);have q:b.frozen? ⟨w.heap.size+1,0,none⟩=false:=(frA c);have m:b.frozen? ⟨w.heap.size+1,1,none⟩=false:=(frA c);have r:b.cell? ⟨w.heap.size+1+1,0,none⟩=some (.int .i64 0):=(clA c))
 refine bodyPost_ret (v:=.agg #[.int .i64 k, .int .i64 j]) (by simp[results,results198,go_sem,d,i]) rfl ⟨rfl,blA⟩
theorem Agi (l:List Stil.Arm)(k:Nat):¬0<(Gf l k).1->Gf l k=(0,0):=by
 induction l generalizing k with
 | nil=>intro _;rfl
 | cons x r b=>
  intro h;rw[Gf] at h ⊢;split
  ·rename_i a;rw[if_pos a] at h;exact absurd a h
  ·rename_i a;rw[if_neg a] at h;exact b _ h
theorem Axc (v:Value)(w:World):(Go.method 336 165 v "loop.example/stilway/impl.fault").run prog w=.ok (195,v) w:=krz
theorem Axb (u v:Value)(w:World):(Go.method 336 168 (.agg #[u,v]) "loop.example/stilway/impl.fault").run prog w=.ok (198, .agg #[u,v]) w:=krz
theorem Aos (l:List Stil.Arm)(K:Value)(w:World)(hr:Ei w)(hg:Em w)(S:Eb w K l)(hl:l.length<=1048576)(O:Ce l<=1000000000)(P:∀x∈l,D7 x):
  Calls prog 66 #[K] w λe g=>e=.returned (.agg #[.int .i64 (Dc l).1, .int .i64 (Dc l).2])/\Below w.heap.size w g:=by
 have d:=hid (λW t=>Ath l K W (hr.below t) (S.below t) hl O P);have Z:=hid (λW (h:Below w.heap.size w W)=>hg.below h);have A:=hid (Agi l 0);have j:Hid (Dc l=if 40<l.length\/400<Ce l then(1,0) else Gf l 0):=rfl;obtain⟨a,cap,rfl,_⟩:=S;have mB:=Axc;have mR:=Axb;obtain⟨s,U⟩:∃s,s=l.length:=⟨_,rfl⟩
 obtain⟨z,T⟩:∃z,z=Ce l:=⟨_,rfl⟩
 obtain⟨Q,M⟩:∃Q,Q=Gf l 0:=⟨_,rfl⟩
 obtain⟨R,V⟩:∃R,R=Dc l:=⟨_,rfl⟩
 rw[<-U] at d j hl ⊢;rw[<-T] at d j;rw[<-M] at d j A;rw[<-V] at j ⊢;clear U T M V hr hg P O;by_cases h1:40<s\/400<z
 ·have u:Hid (R=(1,0)):=by show _=_;rw[j.out,if_pos h1]
  rw[Bba h1] at d;have C:Hid (∀W,Below w.heap.size w W->Calls prog 98 #[.slice a s cap] W λe g=>e=.returned (.iface 165 (.int .i64 1))/\Below W.heap.size W g):=d;clear d j h1 A;go_enter func66,ntmps66
  go_wp2_with (first | (go_at_call 98;refine(C _ blA).mono ?_;rintro e c ⟨rfl,b⟩;have m:c.cell? ⟨w.heap.size+1,0,none⟩=some .nilIface:=(clA b);have L:c.frozen? ⟨w.heap.size+1,0,none⟩=false:=(frA b);have r:c.cell? ⟨w.heap.size,0,none⟩=some (.int .i64 0):=(by rw[b.cell (p:=⟨w.heap.size,0,none⟩) yAb];simp[go_sem]);have F:c.frozen? ⟨w.heap.size,0,none⟩=false:=(by rw[b.frozen (p:=⟨w.heap.size,0,none⟩) yAb];simp[go_sem]);have k:c.cell? ⟨w.heap.size,1,none⟩=some (.int .i64 0):=(by rw[b.cell (p:=⟨w.heap.size,1,none⟩) yAb];simp[go_sem]);have q1:c.frozen? ⟨w.heap.size,1,none⟩=false:=(by rw[b.frozen (p:=⟨w.heap.size,1,none⟩) yAb];simp[go_sem])) | (go_at_call 21;refine(A6o 1 ⟨w.heap.size+1,0,none⟩ .nilIface _ m L).mono ?_;rintro e N ⟨rfl,w4,f,rfl⟩;have c4:=(f.cell (Ec m)).trans m;have q:=(f.cell (Ec r)).trans r;have G:=(f.frozen (Ec r)).trans F;have o:=(f.cell (Ec k)).trans k;have H:=(f.frozen (Ec k)).trans q1) | (go_at_call 195;refine(A2z _ _).mono ?_;rintro e B ⟨rfl,i⟩;have y:=(i.cell (p:=⟨w.heap.size,0,none⟩) (A82 (Ec q) (Kt _ _ _))).trans ((Bz omz).trans q);have Y:B.frozen? ⟨w.heap.size,0,none⟩=false:=(i.frozen (p:=⟨w.heap.size,0,none⟩) (A82 (Ec q) (Kt _ _ _))).trans (by rw[World.frozen?_setCell];exact G);have E:=(i.cell (p:=⟨w.heap.size,1,none⟩) (A82 (Ec o) (Kt _ _ _))).trans ((Bz omz).trans o);have X:B.frozen? ⟨w.heap.size,1,none⟩=false:=(i.frozen (p:=⟨w.heap.size,1,none⟩) (A82 (Ec o) (Kt _ _ _))).trans (by rw[World.frozen?_setCell];exact H)))
  refine bodyPost_ret (v:=.agg #[.int .i64 1, .int .i64 0]) (by simp[results,results66,go_sem,y,E]) rfl ⟨by rw[u.out];rfl,blA⟩
 ·rw[Ba1 h1] at d
  have I:Hid (R=Q):=by show _=_;rw[j.out,if_neg h1]
  clear j h1;by_cases D:0<Q.1
  ·have u:=hid I.out
   have C:Hid (∀W,Below w.heap.size w W->Calls prog 98 #[.slice a s cap] W λe g=>e=.returned (.iface 168 (.agg #[.int .i64 Q.2, .iface 165 (.int .i64 Q.1)]))/\Below W.heap.size W g):=λW t=>(d W t).mono λe g ⟨J,hb⟩=>⟨by rw[J];unfold lookOf;simp[D],hb⟩
   clear d D A;go_enter func66,ntmps66
   go_wp2_with (first | (go_at_call 98;refine(C _ blA).mono ?_;rintro e c ⟨rfl,b⟩;have m:c.cell? ⟨w.heap.size+1,0,none⟩=some .nilIface:=(clA b);have L:c.frozen? ⟨w.heap.size+1,0,none⟩=false:=(frA b);have r:c.cell? ⟨w.heap.size,0,none⟩=some (.int .i64 0):=(by rw[b.cell (p:=⟨w.heap.size,0,none⟩) yAb];simp[go_sem]);have F:c.frozen? ⟨w.heap.size,0,none⟩=false:=(by rw[b.frozen (p:=⟨w.heap.size,0,none⟩) yAb];simp[go_sem]);have k:c.cell? ⟨w.heap.size,1,none⟩=some (.int .i64 0):=(by rw[b.cell (p:=⟨w.heap.size,1,none⟩) yAb];simp[go_sem]);have q1:c.frozen? ⟨w.heap.size,1,none⟩=false:=(by rw[b.frozen (p:=⟨w.heap.size,1,none⟩) yAb];simp[go_sem])) | (go_at_call 21;refine(A6m _ _ ⟨w.heap.size+1,0,none⟩ .nilIface _ m L).mono ?_;rintro e N ⟨rfl,w4,f,rfl⟩;have c4:=(f.cell (Ec m)).trans m;have q:=(f.cell (Ec r)).trans r;have G:=(f.frozen (Ec r)).trans F;have o:=(f.cell (Ec k)).trans k;have H:=(f.frozen (Ec k)).trans q1) | (go_at_call 198;refine(A2y _ _ _ (Z _ blA)).mono ?_;rintro e B ⟨rfl,i⟩;have y:=(i.cell (p:=⟨w.heap.size,0,none⟩) (A82 (Ec q) (Kt _ _ _))).trans ((Bz omz).trans q);have Y:B.frozen? ⟨w.heap.size,0,none⟩=false:=(i.frozen (p:=⟨w.heap.size,0,none⟩) (A82 (Ec q) (Kt _ _ _))).trans (by rw[World.frozen?_setCell];exact G);have E:=(i.cell (p:=⟨w.heap.size,1,none⟩) (A82 (Ec o) (Kt _ _ _))).trans ((Bz omz).trans o);have X:B.frozen? ⟨w.heap.size,1,none⟩=false:=(i.frozen (p:=⟨w.heap.size,1,none⟩) (A82 (Ec o) (Kt _ _ _))).trans (by rw[World.frozen?_setCell];exact H)))
   refine bodyPost_ret (v:=.agg #[.int .i64 Q.1, .int .i64 Q.2]) (by simp[results,results66,go_sem,y,E]) rfl ⟨by rw[u.out],blA⟩
  ·have u:Hid (R=(0,0)):=by show _=_;rw[I.out];exact A D
   have C:Hid (∀W,Below w.heap.size w W->Calls prog 98 #[.slice a s cap] W λe g=>e=.returned .nilIface/\Below W.heap.size W g):=λW t=>(d W t).mono λe g ⟨J,hb⟩=>⟨by rw[J];unfold lookOf;simp[D],hb⟩
   clear d D A I;go_enter func66,ntmps66
   go_wp2_with (first | (go_at_call 98;refine(C _ blA).mono ?_;rintro e c ⟨rfl,b⟩;have y:c.cell? ⟨w.heap.size,0,none⟩=some (.int .i64 0):=(by rw[b.cell (p:=⟨w.heap.size,0,none⟩) yAb];simp[go_sem]);have F:c.frozen? ⟨w.heap.size,0,none⟩=false:=(by rw[b.frozen (p:=⟨w.heap.size,0,none⟩) yAb];simp[go_sem]);have E:c.cell? ⟨w.heap.size,1,none⟩=some (.int .i64 0):=(by rw[b.cell (p:=⟨w.heap.size,1,none⟩) yAb];simp[go_sem]);have q1:c.frozen? ⟨w.heap.size,1,none⟩=false:=(by rw[b.frozen (p:=⟨w.heap.size,1,none⟩) yAb];simp[go_sem])) | (go_at_call 21;refine(as_nil _ _).mono ?_;rintro e N ⟨rfl,rfl⟩))
   refine bodyPost_ret (v:=.agg #[.int .i64 0, .int .i64 0]) (by simp[results,results66,go_sem,y,E]) rfl ⟨by rw[u.out];rfl,blA⟩
end Go.Proofs.YtobbpffcggchmaaGreatDoor
