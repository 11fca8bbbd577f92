import Derived.LaidEql
import Derived.Stop.Asserts
import Derived.RowKitTokens
import Derived.Test.YtnpfcnolmkanfaaGreatDoorGV
set_option maxHeartbeats 4000000
set_option maxRecDepth 100000
namespace Go.Proofs.YtnpfcnolmkanfaaGreatDoor
open Tryz
open Stil
open Go.RowKit Go.Extern.Stop Go.Stop Go.Extern
variable {W:World}{v:Value}
theorem as_nil (t:Value)(w:World):Calls prog 48 #[.nilIface,t] w λe a=>e=.returned (.bool false)/\a=w:=by
 go_enter func48,ntmps48
 go_wp2
 go_ret;exact⟨rfl,rfl⟩
theorem Aj7 (t:Addr)(w:World):(ReflectliteValue.unpack (.iface 87 (.pointer (some t)))).run prog w=.ok (.agg #[.pointer (some ⟨3,87,none⟩), .pointer (some ⟨w.heap.size,0,none⟩), .int .u64 150]) (w.alloc (.cells #[.pointer (some t)] 87)):=krz
theorem Apc (a:Addr)(w:World):(ReflectliteValue.methodAny (ReflectliteValue.valueError "reflectlite.Value.Type" 0) (λt _ _ _=>ReflectliteType.toType t) #[.agg #[.pointer (some ⟨3,87,none⟩), .pointer (some a), .int .u64 150]]).run prog w=.ok (.iface 135 (.agg #[.pointer (some ⟨3,87,none⟩)])) w:=krz
theorem Akb (w:World):((ReflectliteType.abiMethod λt=>(λa:Nat=>Value.int IntKind.u8 (a:Int))<$>Rtype.kind t) #[.pointer (some ⟨3,87,none⟩)]).run prog w=.ok (.int .u8 22) w:=krz
theorem Apd (w:World):((ReflectliteType.abiMethod λt=>(λa:Nat=>Value.int IntKind.u8 (a:Int))<$>Rtype.kind t) #[.pointer (some ⟨3,82,none⟩)]).run prog w=.ok (.int .u8 20) w:=krz
theorem Ape (w:World):(ReflectliteType.method ReflectliteType.elem #[.agg #[.pointer (some ⟨3,87,none⟩)]]).run prog w=.ok (.iface 135 (.agg #[.pointer (some ⟨3,82,none⟩)])) w:=krz
theorem Agq (v:Value)(w:World):(ReflectliteType.typeOf #[.iface 121 v]).run prog w=.ok (.iface 135 (.agg #[.pointer (some ⟨3,121,none⟩)])) w:=krz
theorem Aqz (v:Value)(w:World):(ReflectliteType.typeOf #[.iface 124 v]).run prog w=.ok (.iface 135 (.agg #[.pointer (some ⟨3,124,none⟩)])) w:=krz
theorem Azr (w:World):(ReflectliteType.relation "AssignableTo" ReflectliteType.assignableTo #[.agg #[.pointer (some ⟨3,121,none⟩)], .iface 135 (.agg #[.pointer (some ⟨3,82,none⟩)])]).run prog w=.ok (.bool true) w:=krz
theorem Azq (w:World):(ReflectliteType.relation "AssignableTo" ReflectliteType.assignableTo #[.agg #[.pointer (some ⟨3,124,none⟩)], .iface 135 (.agg #[.pointer (some ⟨3,82,none⟩)])]).run prog w=.ok (.bool true) w:=krz
theorem Azs (w:World):(ReflectliteType.relation "AssignableTo" ReflectliteType.assignableTo #[.agg #[.pointer (some ⟨3,121,none⟩)], .iface 135 (.agg #[.pointer (some ⟨3,121,none⟩)])]).run prog w=.ok (.bool true) w:=krz
theorem Aj8 (k:Int)(w:World):(ReflectliteValue.unpack (.iface 121 (.int .i64 k))).run prog w=.ok (.agg #[.pointer (some ⟨3,121,none⟩), .pointer (some ⟨w.heap.size,0,none⟩), .int .u64 130]) (w.alloc (.cells #[.int .i64 k] 121)):=krz
theorem Avt (a b:Value)(w:World):(ReflectliteValue.unpack (.iface 124 (.agg #[a,b]))).run prog w=.ok (.agg #[.pointer (some ⟨3,124,none⟩), .pointer (some ⟨w.heap.size,0,none⟩), .int .u64 153]) (w.alloc (.cells #[a,b] 124)):=krz
theorem Agr (a:Addr)(w:World):(ReflectliteValue.parts (.agg #[.pointer (some ⟨3,87,none⟩), .pointer (some a), .int .u64 150])).run prog w=.ok (some (87,a,150)) w:=krz
theorem Akc (a p:Addr)(W:World)(b:W.cell? a=some (.pointer (some p))):
  (ReflectliteValue.method (ReflectliteValue.valueError "reflectlite.Value.IsNil" 0) ReflectliteValue.isNil #[.agg #[.pointer (some ⟨3,87,none⟩), .pointer (some a), .int .u64 150]]).run prog W=.ok (.bool false) W:=by
 change Sem.run _ (ReflectliteValue.parts (.agg #[.pointer (some ⟨3,87,none⟩), .pointer (some a), .int .u64 150])>>=_) _=_;simp only[Sem.run_bind,Agr,Result.andThen];simp[ReflectliteValue.isNil,loadVar,isAgg,underlying,underlying87,b,Result.andThen]
theorem Aq0 (w:World):(Rtype.elem? 87).run prog w=.ok (some 82) w:=krz
theorem A4p (p:Addr)(w:World):(ReflectliteValue.mk 82 p ReflectliteValue.flagAddr).run prog w=.ok (.agg #[.pointer (some ⟨3,82,none⟩), .pointer (some p), .int .u64 404]) w:=krz
theorem Akd (a p:Addr)(W:World)(b:W.cell? a=some (.pointer (some p))):
  (ReflectliteValue.method (ReflectliteValue.valueError "reflectlite.Value.Elem" 0) ReflectliteValue.elem #[.agg #[.pointer (some ⟨3,87,none⟩), .pointer (some a), .int .u64 150]]).run prog W
   =.ok (.agg #[.pointer (some ⟨3,82,none⟩), .pointer (some p), .int .u64 404]) W:=by
 change Sem.run _ (ReflectliteValue.parts (.agg #[.pointer (some ⟨3,87,none⟩), .pointer (some a), .int .u64 150])>>=_) _=_;simp only[Sem.run_bind,Agr,Result.andThen];simp[ReflectliteValue.elem,loadVar,isAgg,underlying,underlying87,b,Result.andThen,Aq0,A4p]
theorem Aj9 (a:Addr)(w:World):(ReflectliteValue.parts (.agg #[.pointer (some ⟨3,82,none⟩), .pointer (some a), .int .u64 404])).run prog w=.ok (some (82,a,404)) w:=krz
theorem Aka (a:Addr)(w:World):(ReflectliteValue.parts (.agg #[.pointer (some ⟨3,121,none⟩), .pointer (some a), .int .u64 130])).run prog w=.ok (some (121,a,130)) w:=krz
theorem Avu (a:Addr)(w:World):(ReflectliteValue.parts (.agg #[.pointer (some ⟨3,124,none⟩), .pointer (some a), .int .u64 153])).run prog w=.ok (some (124,a,153)) w:=krz
theorem Anf (w:World):(Rtype.directlyAssignable 82 121).run prog w=.ok false w:=krz
theorem Ane (w:World):(Rtype.directlyAssignable 82 124).run prog w=.ok false w:=krz
theorem Avw (w:World):(Rtype.implements 82 121).run prog w=.ok true w:=krz
theorem Avv (w:World):(Rtype.implements 82 124).run prog w=.ok true w:=krz
theorem A5f (w:World):(Rtype.kind 121).run prog w=.ok 2 w:=krz
theorem A5e (w:World):(Rtype.kind 124).run prog w=.ok 25 w:=krz
theorem A2q (a b:Addr)(k:Int)(old:Value)(W:World)(e:W.cell? b=some (.int .i64 k))(d:W.cell? a=some old)(c:W.frozen? a=false):
  (ReflectliteValue.set #[.agg #[.pointer (some ⟨3,82,none⟩), .pointer (some a), .int .u64 404], .agg #[.pointer (some ⟨3,121,none⟩), .pointer (some b), .int .u64 130]]).run prog W
   =.ok (.tuple #[]) (W.setCell a (.iface 121 (.int .i64 k))):=by
 change Sem.run _ (ReflectliteValue.parts (.agg #[.pointer (some ⟨3,82,none⟩), .pointer (some a), .int .u64 404])>>=λp=>ReflectliteValue.parts (.agg #[.pointer (some ⟨3,121,none⟩), .pointer (some b), .int .u64 130])>>=_) _=_;simp only[Sem.run_bind,Aj9,Aka,Result.andThen];simp[ReflectliteValue.flagAddr,loadVar,isAgg,underlying,underlying121,e,Result.andThen,Anf,Avw,A5f,storeVar,Value.cells,storeCells,Addr.add];rw[run_store prog W a _ _ rrz];simp[d,c]
theorem A2p (a b:Addr)(u v old:Value)(W:World)(g:W.cell? (b.add 0)=some u)(e:W.cell? (b.add 1)=some v)(f:W.cell? a=some old)(d:W.frozen? a=false):
  (ReflectliteValue.set #[.agg #[.pointer (some ⟨3,82,none⟩), .pointer (some a), .int .u64 404], .agg #[.pointer (some ⟨3,124,none⟩), .pointer (some b), .int .u64 153]]).run prog W
   =.ok (.tuple #[]) (W.setCell a (.iface 124 (.agg #[u,v]))):=by
 have i:(loadCells b 2).run prog W=.ok #[u,v] W:=run_loadCells_list W b [u,v] (λj x c=>by
  match j,c with
  | 0,c=>cases c;exact g
  | 1,c=>cases c;exact e)
 change Sem.run _ (ReflectliteValue.parts (.agg #[.pointer (some ⟨3,82,none⟩), .pointer (some a), .int .u64 404])>>=λp=>ReflectliteValue.parts (.agg #[.pointer (some ⟨3,124,none⟩), .pointer (some b), .int .u64 153])>>=_) _=_;simp only[Sem.run_bind,Aj9,Avu,Result.andThen];simp[ReflectliteValue.flagAddr,loadVar,isAgg,underlying,underlying124,i,Result.andThen,Ane,Avv,A5e,storeVar,Value.cells,storeCells,Addr.add];rw[run_store prog W a _ _ rrz];simp[f,d]
theorem Ah3 (h:Value)(w:World):(Go.method 329 135 (.agg #[h]) "Kind").run prog w=.ok (178,h) w:=krz
theorem Ah4 (h:Value)(w:World):(Go.method 329 135 (.agg #[h]) "Elem").run prog w=.ok (193, .agg #[h]) w:=krz
theorem Azp (h:Value)(w:World):(Go.method 329 135 (.agg #[h]) "Implements").run prog w=.ok (194, .agg #[h]) w:=krz
theorem Anc (h:Value)(w:World):(Go.method 329 135 (.agg #[h]) "AssignableTo").run prog w=.ok (191, .agg #[h]) w:=krz
theorem Ec {t:Addr}(h:W.cell? t=some v):t.block<W.heap.size:=by
 rcases A70 t.block W.heap.size with a | a
 ·exact a
 ·simp[World.cell?,A8n a] at h
theorem Bc {t:Addr}(ob:Obj)(h:W.cell? t=some v):(W.alloc ob).cell? t=some v:=((Aa W ob).cell (Ec h)).trans h
theorem F7 {t:Addr}(ob:Obj)(h:W.cell? t=some v)(a:W.frozen? t=false):(W.alloc ob).frozen? t=false:=((Aa W ob).frozen (Ec h)).trans a
theorem Azu (t:Addr)(w:World):(ReflectliteValue.unpack (.iface 215 (.pointer (some t)))).run prog w=.ok (.agg #[.pointer (some ⟨3,215,none⟩), .pointer (some ⟨w.heap.size,0,none⟩), .int .u64 150]) (w.alloc (.cells #[.pointer (some t)] 215)):=krz
theorem A2s (a:Addr)(w:World):(ReflectliteValue.methodAny (ReflectliteValue.valueError "reflectlite.Value.Type" 0) (λt _ _ _=>ReflectliteType.toType t) #[.agg #[.pointer (some ⟨3,215,none⟩), .pointer (some a), .int .u64 150]]).run prog w=.ok (.iface 135 (.agg #[.pointer (some ⟨3,215,none⟩)])) w:=krz
theorem Azw (w:World):((ReflectliteType.abiMethod λt=>(λa:Nat=>Value.int IntKind.u8 (a:Int))<$>Rtype.kind t) #[.pointer (some ⟨3,215,none⟩)]).run prog w=.ok (.int .u8 22) w:=krz
theorem A2t (w:World):((ReflectliteType.abiMethod λt=>(λa:Nat=>Value.int IntKind.u8 (a:Int))<$>Rtype.kind t) #[.pointer (some ⟨3,121,none⟩)]).run prog w=.ok (.int .u8 2) w:=krz
theorem A2v (w:World):(ReflectliteType.method ReflectliteType.elem #[.agg #[.pointer (some ⟨3,215,none⟩)]]).run prog w=.ok (.iface 135 (.agg #[.pointer (some ⟨3,121,none⟩)])) w:=krz
theorem A2u (w:World):(ReflectliteType.relation "Implements" ReflectliteType.implements_ #[.agg #[.pointer (some ⟨3,121,none⟩)], .iface 135 (.agg #[.pointer (some ⟨3,85,none⟩)])]).run prog w=.ok (.bool true) w:=krz
theorem Ake (a:Addr)(w:World):(ReflectliteValue.parts (.agg #[.pointer (some ⟨3,215,none⟩), .pointer (some a), .int .u64 150])).run prog w=.ok (some (215,a,150)) w:=krz
theorem Azv (a:Addr)(w:World):(ReflectliteValue.parts (.agg #[.pointer (some ⟨3,121,none⟩), .pointer (some a), .int .u64 386])).run prog w=.ok (some (121,a,386)) w:=krz
theorem Avz (w:World):(Rtype.elem? 215).run prog w=.ok (some 121) w:=krz
theorem A5g (p:Addr)(w:World):(ReflectliteValue.mk 121 p ReflectliteValue.flagAddr).run prog w=.ok (.agg #[.pointer (some ⟨3,121,none⟩), .pointer (some p), .int .u64 386]) w:=krz
theorem Av0 (w:World):(Rtype.directlyAssignable 121 121).run prog w=.ok true w:=krz
theorem Azx (a p:Addr)(W:World)(b:W.cell? a=some (.pointer (some p))):
  (ReflectliteValue.method (ReflectliteValue.valueError "reflectlite.Value.IsNil" 0) ReflectliteValue.isNil #[.agg #[.pointer (some ⟨3,215,none⟩), .pointer (some a), .int .u64 150]]).run prog W=.ok (.bool false) W:=by
 change Sem.run _ (ReflectliteValue.parts (.agg #[.pointer (some ⟨3,215,none⟩), .pointer (some a), .int .u64 150])>>=_) _=_;simp only[Sem.run_bind,Ake,Result.andThen];simp[ReflectliteValue.isNil,loadVar,isAgg,underlying,underlying215,b,Result.andThen]
theorem Azy (a p:Addr)(W:World)(b:W.cell? a=some (.pointer (some p))):
  (ReflectliteValue.method (ReflectliteValue.valueError "reflectlite.Value.Elem" 0) ReflectliteValue.elem #[.agg #[.pointer (some ⟨3,215,none⟩), .pointer (some a), .int .u64 150]]).run prog W
   =.ok (.agg #[.pointer (some ⟨3,121,none⟩), .pointer (some p), .int .u64 386]) W:=by
 change Sem.run _ (ReflectliteValue.parts (.agg #[.pointer (some ⟨3,215,none⟩), .pointer (some a), .int .u64 150])>>=_) _=_;simp only[Sem.run_bind,Ake,Result.andThen];simp[ReflectliteValue.elem,loadVar,isAgg,underlying,underlying215,b,Result.andThen,Avz,A5g]
theorem A4q (a b:Addr)(k:Int)(old:Value)(W:World)(e:W.cell? b=some (.int .i64 k))(d:W.cell? a=some old)(c:W.frozen? a=false):
  (ReflectliteValue.set #[.agg #[.pointer (some ⟨3,121,none⟩), .pointer (some a), .int .u64 386], .agg #[.pointer (some ⟨3,121,none⟩), .pointer (some b), .int .u64 130]]).run prog W
   =.ok (.tuple #[]) (W.setCell a (.int .i64 k)):=by
 change Sem.run _ (ReflectliteValue.parts (.agg #[.pointer (some ⟨3,121,none⟩), .pointer (some a), .int .u64 386])>>=λp=>ReflectliteValue.parts (.agg #[.pointer (some ⟨3,121,none⟩), .pointer (some b), .int .u64 130])>>=_) _=_;simp only[Sem.run_bind,Azv,Aka,Result.andThen];simp[ReflectliteValue.flagAddr,loadVar,isAgg,underlying,underlying121,e,Result.andThen,Av0,storeVar,Value.cells,storeCells,Addr.add];rw[run_store prog W a _ _ rrz];simp[d,c]
theorem A35 (k:Int)(t:Addr)(old:Value)(w:World)(hg:w.cell? ⟨0,0,none⟩=some (.iface 135 (.agg #[.pointer (some ⟨3,85,none⟩)])))(a:w.cell? t=some old)(c:w.frozen? t=false):
  Calls prog 48 #[.iface 121 (.int .i64 k), .iface 215 (.pointer (some t))] w λe d=>e=.returned (.bool true)/\∃b,Below w.heap.size w b/\d=b.setCell t (.int .i64 k):=by
 have F:=@run_callFunc_extern prog 79 _ (λargs=>ReflectliteValue.unpack (args.getD 0 (.tuple #[]))) func79 krz krz krz krz;have E:=@run_callFunc_extern prog 80 _ (ReflectliteValue.methodAny (ReflectliteValue.valueError "reflectlite.Value.Type" 0) (λt _ _ _=>ReflectliteType.toType t)) func80 krz krz krz krz;have r:=@run_callFunc_extern prog 81 _ (ReflectliteValue.method (ReflectliteValue.valueError "reflectlite.Value.IsNil" 0) ReflectliteValue.isNil) func81 krz krz krz krz;have x:=@run_callFunc_extern prog 178 _ (ReflectliteType.abiMethod λt=>do pure (.int .u8 (<-Rtype.kind t))) func178 krz krz krz krz;have I:=@run_callFunc_extern prog 193 _ (ReflectliteType.method ReflectliteType.elem) func193 krz krz krz krz;have o:=@run_callFunc_extern prog 102 _ ReflectliteType.typeOf func102 krz krz krz krz;have g:=@run_callFunc_extern prog 191 _ (ReflectliteType.relation "AssignableTo" ReflectliteType.assignableTo) func191 krz krz krz krz;have f:=@run_callFunc_extern prog 103 _ (ReflectliteValue.method (ReflectliteValue.valueError "reflectlite.Value.Elem" 0) ReflectliteValue.elem) func103 krz krz krz krz
 have l:=@run_callFunc_extern prog 104 _ ReflectliteValue.set func104 krz krz krz krz;have s:=Azu;have J:=A2s;have m:=Azw;have M:=A2t;have K:=A2v;have i:=Agq;have j:=Azs;have G:=Aj8;have q:=@run_callFunc_extern prog 194 _ (ReflectliteType.relation "Implements" ReflectliteType.implements_) func194 krz krz krz krz;have A:=A2u;have B:=Azp;have D:((w.alloc (.cells #[.pointer (some t)] 215)).alloc (.cells #[.pointer (some ⟨3,215,none⟩), .pointer (some ⟨w.heap.size,0,none⟩), .int .u64 150] 110)).cell? ⟨0,0,none⟩=some (.iface 135 (.agg #[.pointer (some ⟨3,85,none⟩)])):=Bc _ (Bc _ hg);have C:=Ah3;have L:=Ah4;have z:=Anc;have u:=Azx ⟨w.heap.size,0,none⟩ t ((w.alloc (.cells #[.pointer (some t)] 215)).alloc (.cells #[.pointer (some ⟨3,215,none⟩), .pointer (some ⟨w.heap.size,0,none⟩), .int .u64 150] 110)) (Bc _ spz);have y:=Azy ⟨w.heap.size,0,none⟩ t (((w.alloc (.cells #[.pointer (some t)] 215)).alloc (.cells #[.pointer (some ⟨3,215,none⟩), .pointer (some ⟨w.heap.size,0,none⟩), .int .u64 150] 110)).alloc (.cells #[.pointer (some ⟨3,215,none⟩), .pointer (some ⟨w.heap.size,0,none⟩), .int .u64 150] 110)) (Bc _ (Bc _ spz));have H:=A4q t ⟨w.heap.size+1+1+1,0,none⟩ k old ((((w.alloc (.cells #[.pointer (some t)] 215)).alloc (.cells #[.pointer (some ⟨3,215,none⟩), .pointer (some ⟨w.heap.size,0,none⟩), .int .u64 150] 110)).alloc (.cells #[.pointer (some ⟨3,215,none⟩), .pointer (some ⟨w.heap.size,0,none⟩), .int .u64 150] 110)).alloc (.cells #[.int .i64 k] 121)) (by rw[World.cell?_alloc_at _ _ _ _ spz];rfl) (Bc _ (Bc _ (Bc _ (Bc _ a)))) (F7 _ (Bc _ (Bc _ (Bc _ a))) (F7 _ (Bc _ (Bc _ a)) (F7 _ (Bc _ a) (F7 _ a c))))
 go_enter func48,ntmps48
 go_wp2
 refine wp_loop_rounds 1 ?_;rw[rounds_succ]
 go_wp2
 go_ret;exact⟨rfl,_,blA,rfl⟩
open Go.Sort Go.BigFrame
def En (w:World):Prop:=w.cell? ⟨0,0,none⟩=some (.iface 135 (.agg #[.pointer (some ⟨3,85,none⟩)]))
theorem En.below {w w':World}(h:En w)(a:Below w.heap.size w w'):En w':=(a.cell (Ec h)).trans h
theorem A36 (k:Int)(t:Addr)(old:Value)(w:World)(a:w.cell? t=some old)(c:w.frozen? t=false):
  Calls prog 48 #[.iface 121 (.int .i64 k), .iface 87 (.pointer (some t))] w λe d=>e=.returned (.bool true)/\∃b,Below w.heap.size w b/\d=b.setCell t (.iface 121 (.int .i64 k)):=by
 have B:=@run_callFunc_extern prog 79 _ (λargs=>ReflectliteValue.unpack (args.getD 0 (.tuple #[]))) func79 krz krz krz krz;have A:=@run_callFunc_extern prog 80 _ (ReflectliteValue.methodAny (ReflectliteValue.valueError "reflectlite.Value.Type" 0) (λt _ _ _=>ReflectliteType.toType t)) func80 krz krz krz krz;have q:=@run_callFunc_extern prog 81 _ (ReflectliteValue.method (ReflectliteValue.valueError "reflectlite.Value.IsNil" 0) ReflectliteValue.isNil) func81 krz krz krz krz;have u:=@run_callFunc_extern prog 178 _ (ReflectliteType.abiMethod λt=>do pure (.int .u8 (<-Rtype.kind t))) func178 krz krz krz krz;have E:=@run_callFunc_extern prog 193 _ (ReflectliteType.method ReflectliteType.elem) func193 krz krz krz krz;have o:=@run_callFunc_extern prog 102 _ ReflectliteType.typeOf func102 krz krz krz krz;have g:=@run_callFunc_extern prog 191 _ (ReflectliteType.relation "AssignableTo" ReflectliteType.assignableTo) func191 krz krz krz krz;have f:=@run_callFunc_extern prog 103 _ (ReflectliteValue.method (ReflectliteValue.valueError "reflectlite.Value.Elem" 0) ReflectliteValue.elem) func103 krz krz krz krz
 have l:=@run_callFunc_extern prog 104 _ ReflectliteValue.set func104 krz krz krz krz;have r:=Aj7;have F:=Apc;have m:=Akb;have I:=Apd;have G:=Ape;have i:=Agq;have j:=Azr;have C:=Aj8;have z:=Ah3;have H:=Ah4;have y:=Anc;have s:=Akc ⟨w.heap.size,0,none⟩ t ((w.alloc (.cells #[.pointer (some t)] 87)).alloc (.cells #[.pointer (some ⟨3,87,none⟩), .pointer (some ⟨w.heap.size,0,none⟩), .int .u64 150] 110)) (Bc _ spz);have x:=Akd ⟨w.heap.size,0,none⟩ t (((w.alloc (.cells #[.pointer (some t)] 87)).alloc (.cells #[.pointer (some ⟨3,87,none⟩), .pointer (some ⟨w.heap.size,0,none⟩), .int .u64 150] 110)).alloc (.cells #[.pointer (some ⟨3,87,none⟩), .pointer (some ⟨w.heap.size,0,none⟩), .int .u64 150] 110)) (Bc _ (Bc _ spz));have D:=A2q t ⟨w.heap.size+1+1+1,0,none⟩ k old ((((w.alloc (.cells #[.pointer (some t)] 87)).alloc (.cells #[.pointer (some ⟨3,87,none⟩), .pointer (some ⟨w.heap.size,0,none⟩), .int .u64 150] 110)).alloc (.cells #[.pointer (some ⟨3,87,none⟩), .pointer (some ⟨w.heap.size,0,none⟩), .int .u64 150] 110)).alloc (.cells #[.int .i64 k] 121)) (by rw[World.cell?_alloc_at _ _ _ _ spz];rfl) (Bc _ (Bc _ (Bc _ (Bc _ a)))) (F7 _ (Bc _ (Bc _ (Bc _ a))) (F7 _ (Bc _ (Bc _ a)) (F7 _ (Bc _ a) (F7 _ a c))));go_enter func48,ntmps48
 go_wp2
 refine wp_loop_rounds 1 ?_;rw[rounds_succ]
 go_wp2
 go_ret;exact⟨rfl,_,blA,rfl⟩
theorem A34 (u v:Value)(t:Addr)(old:Value)(w:World)(a:w.cell? t=some old)(c:w.frozen? t=false):
  Calls prog 48 #[.iface 124 (.agg #[u,v]), .iface 87 (.pointer (some t))] w λe d=>e=.returned (.bool true)/\∃b,Below w.heap.size w b/\d=b.setCell t (.iface 124 (.agg #[u,v])):=by
 have B:=@run_callFunc_extern prog 79 _ (λargs=>ReflectliteValue.unpack (args.getD 0 (.tuple #[]))) func79 krz krz krz krz;have A:=@run_callFunc_extern prog 80 _ (ReflectliteValue.methodAny (ReflectliteValue.valueError "reflectlite.Value.Type" 0) (λt _ _ _=>ReflectliteType.toType t)) func80 krz krz krz krz;have o:=@run_callFunc_extern prog 81 _ (ReflectliteValue.method (ReflectliteValue.valueError "reflectlite.Value.IsNil" 0) ReflectliteValue.isNil) func81 krz krz krz krz;have s:=@run_callFunc_extern prog 178 _ (ReflectliteType.abiMethod λt=>do pure (.int .u8 (<-Rtype.kind t))) func178 krz krz krz krz;have E:=@run_callFunc_extern prog 193 _ (ReflectliteType.method ReflectliteType.elem) func193 krz krz krz krz;have m:=@run_callFunc_extern prog 102 _ ReflectliteType.typeOf func102 krz krz krz krz;have g:=@run_callFunc_extern prog 191 _ (ReflectliteType.relation "AssignableTo" ReflectliteType.assignableTo) func191 krz krz krz krz;have f:=@run_callFunc_extern prog 103 _ (ReflectliteValue.method (ReflectliteValue.valueError "reflectlite.Value.Elem" 0) ReflectliteValue.elem) func103 krz krz krz krz
 have k:=@run_callFunc_extern prog 104 _ ReflectliteValue.set func104 krz krz krz krz;have q:=Aj7;have F:=Apc;have l:=Akb;have I:=Apd;have G:=Ape;have i:=Aqz;have j:=Azq;have C:=Avt;have z:=Ah3;have H:=Ah4;have y:=Anc;have r:=Akc ⟨w.heap.size,0,none⟩ t ((w.alloc (.cells #[.pointer (some t)] 87)).alloc (.cells #[.pointer (some ⟨3,87,none⟩), .pointer (some ⟨w.heap.size,0,none⟩), .int .u64 150] 110)) (Bc _ spz);have x:=Akd ⟨w.heap.size,0,none⟩ t (((w.alloc (.cells #[.pointer (some t)] 87)).alloc (.cells #[.pointer (some ⟨3,87,none⟩), .pointer (some ⟨w.heap.size,0,none⟩), .int .u64 150] 110)).alloc (.cells #[.pointer (some ⟨3,87,none⟩), .pointer (some ⟨w.heap.size,0,none⟩), .int .u64 150] 110)) (Bc _ (Bc _ spz));have D:=A2p t ⟨w.heap.size+1+1+1,0,none⟩ u v old ((((w.alloc (.cells #[.pointer (some t)] 87)).alloc (.cells #[.pointer (some ⟨3,87,none⟩), .pointer (some ⟨w.heap.size,0,none⟩), .int .u64 150] 110)).alloc (.cells #[.pointer (some ⟨3,87,none⟩), .pointer (some ⟨w.heap.size,0,none⟩), .int .u64 150] 110)).alloc (.cells #[u,v] 124)) (by simp[go_sem,Addr.add]) (by simp[go_sem,Addr.add]) (Bc _ (Bc _ (Bc _ (Bc _ a)))) (F7 _ (Bc _ (Bc _ (Bc _ a))) (F7 _ (Bc _ (Bc _ a)) (F7 _ (Bc _ a) (F7 _ a c))));go_enter func48,ntmps48
 go_wp2
 refine wp_loop_rounds 1 ?_;rw[rounds_succ]
 go_wp2
 go_ret;exact⟨rfl,_,blA,rfl⟩
theorem A0k (k:Int)(w:World):Calls prog 186 #[.int .i64 k] w λe a=>e=.returned (.agg #[.int .i64 k, .int .i64 0])/\Below w.heap.size w a:=by
 go_enter func186,ntmps186
 go_wp2
 refine bodyPost_ret (v:=.agg #[.int .i64 k, .int .i64 0]) (by simp[results,results186,go_sem]) rfl ⟨rfl,blA⟩
theorem A0j (k:Int)(j:Nat)(w:World)(hg:En w):Calls prog 189 #[.agg #[.int .i64 j, .iface 121 (.int .i64 k)]] w λe d=>e=.returned (.agg #[.int .i64 k, .int .i64 j])/\Below w.heap.size w d:=by
 have f:=hid (λW (h:Below w.heap.size w W)=>hg.below h);clear hg;go_enter func189,ntmps189
 go_wp2_with (go_at_call 48;refine(A35 k ⟨w.heap.size+1+1,0,none⟩ (.int .i64 0) _ (f _ blA) (by simp[go_sem]) (by simp[go_sem])).mono ?_;rintro e q ⟨rfl,c,b,rfl⟩;have o:c.cell? ⟨w.heap.size,0,none⟩=some (.int .i64 j):=(by rw[b.cell (p:=⟨w.heap.size,0,none⟩) yAd];simp[go_sem]);have i:c.cell? ⟨w.heap.size+1,0,none⟩=some (.int .i64 0):=(clA b);have g:c.cell? ⟨w.heap.size+1,1,none⟩=some (.int .i64 0):=(clA b);have m:c.frozen? ⟨w.heap.size+1,0,none⟩=false:=(frA b);have r:c.frozen? ⟨w.heap.size+1,1,none⟩=false:=(frA b);have l:c.cell? ⟨w.heap.size+1+1,0,none⟩=some (.int .i64 0):=(clA b))
 refine bodyPost_ret (v:=.agg #[.int .i64 k, .int .i64 j]) (by simp[results,results189,go_sem,i,g]) rfl ⟨rfl,blA⟩
theorem Af5 (l:List Stil.Arm)(k:Nat):¬0<(D9 l k).1->D9 l k=(0,0):=by
 induction l generalizing k with
 | nil=>intro _;rfl
 | cons x r b=>
  intro h;rw[D9] at h ⊢;split
  ·rename_i a;rw[if_pos a] at h;exact absurd a h
  ·rename_i a;rw[if_neg a] at h;exact b _ h
theorem Avy (v:Value)(w:World):(Go.method 329 121 v "loop.example/stilway/impl.fault").run prog w=.ok (186,v) w:=krz
theorem Avx (u v:Value)(w:World):(Go.method 329 124 (.agg #[u,v]) "loop.example/stilway/impl.fault").run prog w=.ok (189, .agg #[u,v]) w:=krz
theorem An2 (l:List Stil.Arm)(I:Value)(w:World)(hr:Em w)(hg:En w)(U:Ea w I l)(hl:l.length<=1048576)(P:Bv l<=1000000000)(V:∀x∈l,Cm x):
  Calls prog 29 #[I] w λe g=>e=.returned (.agg #[.int .i64 (Bf l).1, .int .i64 (Bf l).2])/\Below w.heap.size w g:=by
 have d:=hid (λW t=>Arx l I W (hr.below t) (U.below t) hl P V);have X:=hid (λW (h:Below w.heap.size w W)=>hg.below h);have A:=hid (Af5 l 0);have j:Hid (Bf l=if 40<l.length\/400<Bv l then(1,0) else D9 l 0):=rfl;obtain⟨a,cap,rfl,_⟩:=U;have mB:=Avy;have mR:=Avx;obtain⟨s,T⟩:∃s,s=l.length:=⟨_,rfl⟩
 obtain⟨z,S⟩:∃z,z=Bv l:=⟨_,rfl⟩
 obtain⟨Q,N⟩:∃Q,Q=D9 l 0:=⟨_,rfl⟩
 obtain⟨R,M⟩:∃R,R=Bf l:=⟨_,rfl⟩
 rw[<-T] at d j hl ⊢;rw[<-S] at d j;rw[<-N] at d j A;rw[<-M] at j ⊢;clear T S N M hr hg V P;by_cases h1:40<s\/400<z
 ·have B:Hid (R=(1,0)):=by show _=_;rw[j.out,if_pos h1]
  rw[A77 h1] at d;have u:Hid (∀W,Below w.heap.size w W->Calls prog 49 #[.slice a s cap] W λe g=>e=.returned (.iface 121 (.int .i64 1))/\Below W.heap.size W g):=d;clear d j h1 A;go_enter func29,ntmps29
  go_wp2_with (first | (go_at_call 49;refine(u _ blA).mono ?_;rintro e c ⟨rfl,b⟩;have o:c.cell? ⟨w.heap.size+1,0,none⟩=some .nilIface:=(clA b);have J:c.frozen? ⟨w.heap.size+1,0,none⟩=false:=(frA b);have r:c.cell? ⟨w.heap.size,0,none⟩=some (.int .i64 0):=(by rw[b.cell (p:=⟨w.heap.size,0,none⟩) yAd];simp[go_sem]);have F:c.frozen? ⟨w.heap.size,0,none⟩=false:=(by rw[b.frozen (p:=⟨w.heap.size,0,none⟩) yAd];simp[go_sem]);have k:c.cell? ⟨w.heap.size,1,none⟩=some (.int .i64 0):=(by rw[b.cell (p:=⟨w.heap.size,1,none⟩) yAd];simp[go_sem]);have q1:c.frozen? ⟨w.heap.size,1,none⟩=false:=(by rw[b.frozen (p:=⟨w.heap.size,1,none⟩) yAd];simp[go_sem])) | (go_at_call 48;refine(A36 1 ⟨w.heap.size+1,0,none⟩ .nilIface _ o J).mono ?_;rintro e O ⟨rfl,w4,f,rfl⟩;have Y:=(f.cell (Ec o)).trans o;have q:=(f.cell (Ec r)).trans r;have H:=(f.frozen (Ec r)).trans F;have m:=(f.cell (Ec k)).trans k;have L:=(f.frozen (Ec k)).trans q1) | (go_at_call 186;refine(A0k _ _).mono ?_;rintro e E ⟨rfl,i⟩;have C:=(i.cell (p:=⟨w.heap.size,0,none⟩) (A51 (Ec q) (J9 _ _ _))).trans ((Bq omz).trans q);have Z:E.frozen? ⟨w.heap.size,0,none⟩=false:=(i.frozen (p:=⟨w.heap.size,0,none⟩) (A51 (Ec q) (J9 _ _ _))).trans (by rw[World.frozen?_setCell];exact H);have D:=(i.cell (p:=⟨w.heap.size,1,none⟩) (A51 (Ec m) (J9 _ _ _))).trans ((Bq omz).trans m);have g1:E.frozen? ⟨w.heap.size,1,none⟩=false:=(i.frozen (p:=⟨w.heap.size,1,none⟩) (A51 (Ec m) (J9 _ _ _))).trans (by rw[World.frozen?_setCell];exact L)))
  refine bodyPost_ret (v:=.agg #[.int .i64 1, .int .i64 0]) (by simp[results,results29,go_sem,C,D]) rfl ⟨by rw[B.out];rfl,blA⟩
 ·rw[A7y h1] at d
  have K:Hid (R=Q):=by show _=_;rw[j.out,if_neg h1]
  clear j h1;by_cases y:0<Q.1
  ·have B:=hid K.out
   have u:Hid (∀W,Below w.heap.size w W->Calls prog 49 #[.slice a s cap] W λe g=>e=.returned (.iface 124 (.agg #[.int .i64 Q.2, .iface 121 (.int .i64 Q.1)]))/\Below W.heap.size W g):=λW t=>(d W t).mono λe g ⟨G,hb⟩=>⟨by rw[G];unfold lookOf;simp[y],hb⟩
   clear d y A;go_enter func29,ntmps29
   go_wp2_with (first | (go_at_call 49;refine(u _ blA).mono ?_;rintro e c ⟨rfl,b⟩;have o:c.cell? ⟨w.heap.size+1,0,none⟩=some .nilIface:=(clA b);have J:c.frozen? ⟨w.heap.size+1,0,none⟩=false:=(frA b);have r:c.cell? ⟨w.heap.size,0,none⟩=some (.int .i64 0):=(by rw[b.cell (p:=⟨w.heap.size,0,none⟩) yAd];simp[go_sem]);have F:c.frozen? ⟨w.heap.size,0,none⟩=false:=(by rw[b.frozen (p:=⟨w.heap.size,0,none⟩) yAd];simp[go_sem]);have k:c.cell? ⟨w.heap.size,1,none⟩=some (.int .i64 0):=(by rw[b.cell (p:=⟨w.heap.size,1,none⟩) yAd];simp[go_sem]);have q1:c.frozen? ⟨w.heap.size,1,none⟩=false:=(by rw[b.frozen (p:=⟨w.heap.size,1,none⟩) yAd];simp[go_sem])) | (go_at_call 48;refine(A34 _ _ ⟨w.heap.size+1,0,none⟩ .nilIface _ o J).mono ?_;rintro e O ⟨rfl,w4,f,rfl⟩;have Y:=(f.cell (Ec o)).trans o;have q:=(f.cell (Ec r)).trans r;have H:=(f.frozen (Ec r)).trans F;have m:=(f.cell (Ec k)).trans k;have L:=(f.frozen (Ec k)).trans q1) | (go_at_call 189;refine(A0j _ _ _ (X _ blA)).mono ?_;rintro e E ⟨rfl,i⟩;have C:=(i.cell (p:=⟨w.heap.size,0,none⟩) (A51 (Ec q) (J9 _ _ _))).trans ((Bq omz).trans q);have Z:E.frozen? ⟨w.heap.size,0,none⟩=false:=(i.frozen (p:=⟨w.heap.size,0,none⟩) (A51 (Ec q) (J9 _ _ _))).trans (by rw[World.frozen?_setCell];exact H);have D:=(i.cell (p:=⟨w.heap.size,1,none⟩) (A51 (Ec m) (J9 _ _ _))).trans ((Bq omz).trans m);have g1:E.frozen? ⟨w.heap.size,1,none⟩=false:=(i.frozen (p:=⟨w.heap.size,1,none⟩) (A51 (Ec m) (J9 _ _ _))).trans (by rw[World.frozen?_setCell];exact L)))
   refine bodyPost_ret (v:=.agg #[.int .i64 Q.1, .int .i64 Q.2]) (by simp[results,results29,go_sem,C,D]) rfl ⟨by rw[B.out],blA⟩
  ·have B:Hid (R=(0,0)):=by show _=_;rw[K.out];exact A y
   have u:Hid (∀W,Below w.heap.size w W->Calls prog 49 #[.slice a s cap] W λe g=>e=.returned .nilIface/\Below W.heap.size W g):=λW t=>(d W t).mono λe g ⟨G,hb⟩=>⟨by rw[G];unfold lookOf;simp[y],hb⟩
   clear d y A K;go_enter func29,ntmps29
   go_wp2_with (first | (go_at_call 49;refine(u _ blA).mono ?_;rintro e c ⟨rfl,b⟩;have C:c.cell? ⟨w.heap.size,0,none⟩=some (.int .i64 0):=(by rw[b.cell (p:=⟨w.heap.size,0,none⟩) yAd];simp[go_sem]);have F:c.frozen? ⟨w.heap.size,0,none⟩=false:=(by rw[b.frozen (p:=⟨w.heap.size,0,none⟩) yAd];simp[go_sem]);have D:c.cell? ⟨w.heap.size,1,none⟩=some (.int .i64 0):=(by rw[b.cell (p:=⟨w.heap.size,1,none⟩) yAd];simp[go_sem]);have q1:c.frozen? ⟨w.heap.size,1,none⟩=false:=(by rw[b.frozen (p:=⟨w.heap.size,1,none⟩) yAd];simp[go_sem])) | (go_at_call 48;refine(as_nil _ _).mono ?_;rintro e O ⟨rfl,rfl⟩))
   refine bodyPost_ret (v:=.agg #[.int .i64 0, .int .i64 0]) (by simp[results,results29,go_sem,C,D]) rfl ⟨by rw[B.out];rfl,blA⟩
end Go.Proofs.YtnpfcnolmkanfaaGreatDoor
