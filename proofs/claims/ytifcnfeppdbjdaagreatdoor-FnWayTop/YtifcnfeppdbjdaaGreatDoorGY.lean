import Derived.Stop.Asserts
import Derived.Test.YtifcnfeppdbjdaaGreatDoorGX
set_option maxHeartbeats 4000000
set_option maxRecDepth 100000
namespace Go.Proofs.YtifcnfeppdbjdaaGreatDoor
open Tryz Stil Go.RowKit Go.Extern.Stop Go.Stop Go.Extern
variable {W:World}{v:Value}
theorem as_nil (t:Value)(w:World):Calls prog 75 #[.nilIface,t] w λe a=>e=.returned (.bool false)/\a=w:=by
 go_enter func75,ntmps75
 go_wp2
 go_ret;exact⟨rfl,rfl⟩
theorem XY (t:Addr)(w:World):(ReflectliteValue.unpack (.iface 111 (.pointer (some t)))).run prog w=.ok (.agg #[.pointer (some (AK 4 111)),AH w.heap.size, .int .u64 150]) (w.alloc (.cells #[.pointer (some t)] 111)):=AX
theorem Ys (a:Addr)(w:World):(ReflectliteValue.methodAny (ReflectliteValue.valueError "reflectlite.Value.Type" 0) (λt _ _ _=>ReflectliteType.toType t) #[.agg #[.pointer (some (AK 4 111)), .pointer (some a), .int .u64 150]]).run prog w=.ok (.iface 160 (.agg #[.pointer (some (AK 4 111))])) w:=AX
theorem YB (w:World):((ReflectliteType.abiMethod λt=>(λa:Nat=>Value.int IntKind.u8 (a:Int))<$>Rtype.kind t) #[.pointer (some (AK 4 111))]).run prog w=.ok (.int .u8 22) w:=AX
theorem ZA (w:World):((ReflectliteType.abiMethod λt=>(λa:Nat=>Value.int IntKind.u8 (a:Int))<$>Rtype.kind t) #[.pointer (some (AK 4 106))]).run prog w=.ok (.int .u8 20) w:=AX
theorem ZF (w:World):(ReflectliteType.method ReflectliteType.elem #[.agg #[.pointer (some (AK 4 111))]]).run prog w=.ok (.iface 160 (.agg #[.pointer (some (AK 4 106))])) w:=AX
theorem WT (v:Value)(w:World):(ReflectliteType.typeOf #[.iface 144 v]).run prog w=.ok (.iface 160 (.agg #[.pointer (some (AK 4 144))])) w:=AX
theorem wx (v:Value)(w:World):(ReflectliteType.typeOf #[.iface 147 v]).run prog w=.ok (.iface 160 (.agg #[.pointer (some (AK 4 147))])) w:=AX
theorem gd (w:World):(ReflectliteType.relation "AssignableTo" ReflectliteType.assignableTo #[.agg #[.pointer (some (AK 4 144))], .iface 160 (.agg #[.pointer (some (AK 4 106))])]).run prog w=.ok (.bool true) w:=AX
theorem gb (w:World):(ReflectliteType.relation "AssignableTo" ReflectliteType.assignableTo #[.agg #[.pointer (some (AK 4 147))], .iface 160 (.agg #[.pointer (some (AK 4 106))])]).run prog w=.ok (.bool true) w:=AX
theorem gh (w:World):(ReflectliteType.relation "AssignableTo" ReflectliteType.assignableTo #[.agg #[.pointer (some (AK 4 144))], .iface 160 (.agg #[.pointer (some (AK 4 144))])]).run prog w=.ok (.bool true) w:=AX
theorem XZ (k:Int)(w:World):(ReflectliteValue.unpack (.iface 144 (AB k))).run prog w=.ok (.agg #[.pointer (some (AK 4 144)),AH w.heap.size, .int .u64 130]) (w.alloc (.cells #[AB k] 144)):=AX
theorem Ax4 (a b:Value)(w:World):(ReflectliteValue.unpack (.iface 147 (.agg #[a,b]))).run prog w=.ok (.agg #[.pointer (some (AK 4 147)),AH w.heap.size, .int .u64 153]) (w.alloc (.cells #[a,b] 147)):=AX
theorem WU (a:Addr)(w:World):(ReflectliteValue.parts (.agg #[.pointer (some (AK 4 111)), .pointer (some a), .int .u64 150])).run prog w=.ok (some (111,a,150)) w:=AX
theorem YC (a p:Addr)(W:World)(b:W.cell? a=some (.pointer (some p))):
  (ReflectliteValue.method (ReflectliteValue.valueError "reflectlite.Value.IsNil" 0) ReflectliteValue.isNil #[.agg #[.pointer (some (AK 4 111)), .pointer (some a), .int .u64 150]]).run prog W=.ok (.bool false) W:=by
 change Sem.run _ (ReflectliteValue.parts (.agg #[.pointer (some (AK 4 111)), .pointer (some a), .int .u64 150])>>=_) _=_;simp only[Sem.run_bind,WU,Result.andThen];simp[ReflectliteValue.isNil,loadVar,isAgg,underlying,underlying111,b,Result.andThen]
theorem wy (w:World):(Rtype.elem? 111).run prog w=.ok (some 106) w:=AX
theorem my (p:Addr)(w:World):(ReflectliteValue.mk 106 p ReflectliteValue.flagAddr).run prog w=.ok (.agg #[.pointer (some (AK 4 106)), .pointer (some p), .int .u64 404]) w:=AX
theorem XK (a p:Addr)(W:World)(b:W.cell? a=some (.pointer (some p))):
  (ReflectliteValue.method (ReflectliteValue.valueError "reflectlite.Value.Elem" 0) ReflectliteValue.elem #[.agg #[.pointer (some (AK 4 111)), .pointer (some a), .int .u64 150]]).run prog W
   =.ok (.agg #[.pointer (some (AK 4 106)), .pointer (some p), .int .u64 404]) W:=by
 change Sem.run _ (ReflectliteValue.parts (.agg #[.pointer (some (AK 4 111)), .pointer (some a), .int .u64 150])>>=_) _=_;simp only[Sem.run_bind,WU,Result.andThen];simp[ReflectliteValue.elem,loadVar,isAgg,underlying,underlying111,b,Result.andThen,wy,my]
theorem Xs (a:Addr)(w:World):(ReflectliteValue.parts (.agg #[.pointer (some (AK 4 106)), .pointer (some a), .int .u64 404])).run prog w=.ok (some (106,a,404)) w:=AX
theorem YA (a:Addr)(w:World):(ReflectliteValue.parts (.agg #[.pointer (some (AK 4 144)), .pointer (some a), .int .u64 130])).run prog w=.ok (some (144,a,130)) w:=AX
theorem Ax5 (a:Addr)(w:World):(ReflectliteValue.parts (.agg #[.pointer (some (AK 4 147)), .pointer (some a), .int .u64 153])).run prog w=.ok (some (147,a,153)) w:=AX
theorem uf (w:World):(Rtype.directlyAssignable 106 144).run prog w=.ok false w:=AX
theorem ud (w:World):(Rtype.directlyAssignable 106 147).run prog w=.ok false w:=AX
theorem Ax7 (w:World):(Rtype.implements 106 144).run prog w=.ok true w:=AX
theorem Ax6 (w:World):(Rtype.implements 106 147).run prog w=.ok true w:=AX
theorem nU (w:World):(Rtype.kind 144).run prog w=.ok 2 w:=AX
theorem nS (w:World):(Rtype.kind 147).run prog w=.ok 25 w:=AX
theorem jl (a b:Addr)(k:Int)(old:Value)(W:World)(e:W.cell? b=some (AB k))(c:W.cell? a=some old)(d:W.frozen? a=false):
  (ReflectliteValue.set #[.agg #[.pointer (some (AK 4 106)), .pointer (some a), .int .u64 404], .agg #[.pointer (some (AK 4 144)), .pointer (some b), .int .u64 130]]).run prog W
   =.ok (.tuple #[]) (W.setCell a (.iface 144 (AB k))):=by
 change Sem.run _ (ReflectliteValue.parts (.agg #[.pointer (some (AK 4 106)), .pointer (some a), .int .u64 404])>>=λp=>ReflectliteValue.parts (.agg #[.pointer (some (AK 4 144)), .pointer (some b), .int .u64 130])>>=_) _=_;simp only[Sem.run_bind,Xs,YA,Result.andThen];simp[ReflectliteValue.flagAddr,loadVar,isAgg,underlying,underlying144,e,Result.andThen,uf,Ax7,nU,storeVar,Value.cells,storeCells,Addr.add];rw[run_store prog W a _ _ Ao];simp[c,d]
theorem jf (a b:Addr)(u v old:Value)(W:World)(i:W.cell? (b.add 0)=some u)(d:W.cell? (b.add 1)=some v)(f:W.cell? a=some old)(g:W.frozen? a=false):
  (ReflectliteValue.set #[.agg #[.pointer (some (AK 4 106)), .pointer (some a), .int .u64 404], .agg #[.pointer (some (AK 4 147)), .pointer (some b), .int .u64 153]]).run prog W
   =.ok (.tuple #[]) (W.setCell a (.iface 147 (.agg #[u,v]))):=by
 have e:(loadCells b 2).run prog W=.ok #[u,v] W:=run_loadCells_list W b [u,v] (λj x c=>by
  match j,c with
  | 0,c=>cases c;exact i
  | 1,c=>cases c;exact d)
 change Sem.run _ (ReflectliteValue.parts (.agg #[.pointer (some (AK 4 106)), .pointer (some a), .int .u64 404])>>=λp=>ReflectliteValue.parts (.agg #[.pointer (some (AK 4 147)), .pointer (some b), .int .u64 153])>>=_) _=_;simp only[Sem.run_bind,Xs,Ax5,Result.andThen];simp[ReflectliteValue.flagAddr,loadVar,isAgg,underlying,underlying147,e,Result.andThen,ud,Ax6,nS,storeVar,Value.cells,storeCells,Addr.add];rw[run_store prog W a _ _ Ao];simp[f,g]
theorem PT (h:Value)(w:World):(Go.method 355 160 (.agg #[h]) "Kind").run prog w=.ok (213,h) w:=AX
theorem PU (h:Value)(w:World):(Go.method 355 160 (.agg #[h]) "Elem").run prog w=.ok (228, .agg #[h]) w:=AX
theorem gR (h:Value)(w:World):(Go.method 355 160 (.agg #[h]) "Implements").run prog w=.ok (229, .agg #[h]) w:=AX
theorem QU (h:Value)(w:World):(Go.method 355 160 (.agg #[h]) "AssignableTo").run prog w=.ok (226, .agg #[h]) w:=AX
theorem Es {t:Addr}(h:W.cell? t=some v):t.block<W.heap.size:=by
 rcases EZ t.block W.heap.size with a | a
 ·exact a
 ·simp[World.cell?,M1 a] at h
theorem A8 {t:Addr}(ob:Obj)(h:W.cell? t=some v):(W.alloc ob).cell? t=some v:=((Aa W ob).cell (Es h)).trans h
theorem Gy {t:Addr}(ob:Obj)(h:W.cell? t=some v)(a:W.frozen? t=false):(W.alloc ob).frozen? t=false:=((Aa W ob).frozen (Es h)).trans a
theorem gi (t:Addr)(w:World):(ReflectliteValue.unpack (.iface 241 (.pointer (some t)))).run prog w=.ok (.agg #[.pointer (some (AK 4 241)),AH w.heap.size, .int .u64 150]) (w.alloc (.cells #[.pointer (some t)] 241)):=AX
theorem js (a:Addr)(w:World):(ReflectliteValue.methodAny (ReflectliteValue.valueError "reflectlite.Value.Type" 0) (λt _ _ _=>ReflectliteType.toType t) #[.agg #[.pointer (some (AK 4 241)), .pointer (some a), .int .u64 150]]).run prog w=.ok (.iface 160 (.agg #[.pointer (some (AK 4 241))])) w:=AX
theorem gl (w:World):((ReflectliteType.abiMethod λt=>(λa:Nat=>Value.int IntKind.u8 (a:Int))<$>Rtype.kind t) #[.pointer (some (AK 4 241))]).run prog w=.ok (.int .u8 22) w:=AX
theorem kh (w:World):((ReflectliteType.abiMethod λt=>(λa:Nat=>Value.int IntKind.u8 (a:Int))<$>Rtype.kind t) #[.pointer (some (AK 4 144))]).run prog w=.ok (.int .u8 2) w:=AX
theorem kj (w:World):(ReflectliteType.method ReflectliteType.elem #[.agg #[.pointer (some (AK 4 241))]]).run prog w=.ok (.iface 160 (.agg #[.pointer (some (AK 4 144))])) w:=AX
theorem ki (w:World):(ReflectliteType.relation "Implements" ReflectliteType.implements_ #[.agg #[.pointer (some (AK 4 144))], .iface 160 (.agg #[.pointer (some (AK 4 109))])]).run prog w=.ok (.bool true) w:=AX
theorem XL (a:Addr)(w:World):(ReflectliteValue.parts (.agg #[.pointer (some (AK 4 241)), .pointer (some a), .int .u64 150])).run prog w=.ok (some (241,a,150)) w:=AX
theorem gj (a:Addr)(w:World):(ReflectliteValue.parts (.agg #[.pointer (some (AK 4 144)), .pointer (some a), .int .u64 386])).run prog w=.ok (some (144,a,386)) w:=AX
theorem Aya (w:World):(Rtype.elem? 241).run prog w=.ok (some 144) w:=AX
theorem nW (p:Addr)(w:World):(ReflectliteValue.mk 144 p ReflectliteValue.flagAddr).run prog w=.ok (.agg #[.pointer (some (AK 4 144)), .pointer (some p), .int .u64 386]) w:=AX
theorem Ayb (w:World):(Rtype.directlyAssignable 144 144).run prog w=.ok true w:=AX
theorem gn (a p:Addr)(W:World)(b:W.cell? a=some (.pointer (some p))):
  (ReflectliteValue.method (ReflectliteValue.valueError "reflectlite.Value.IsNil" 0) ReflectliteValue.isNil #[.agg #[.pointer (some (AK 4 241)), .pointer (some a), .int .u64 150]]).run prog W=.ok (.bool false) W:=by
 change Sem.run _ (ReflectliteValue.parts (.agg #[.pointer (some (AK 4 241)), .pointer (some a), .int .u64 150])>>=_) _=_;simp only[Sem.run_bind,XL,Result.andThen];simp[ReflectliteValue.isNil,loadVar,isAgg,underlying,underlying241,b,Result.andThen]
theorem gq (a p:Addr)(W:World)(b:W.cell? a=some (.pointer (some p))):
  (ReflectliteValue.method (ReflectliteValue.valueError "reflectlite.Value.Elem" 0) ReflectliteValue.elem #[.agg #[.pointer (some (AK 4 241)), .pointer (some a), .int .u64 150]]).run prog W
   =.ok (.agg #[.pointer (some (AK 4 144)), .pointer (some p), .int .u64 386]) W:=by
 change Sem.run _ (ReflectliteValue.parts (.agg #[.pointer (some (AK 4 241)), .pointer (some a), .int .u64 150])>>=_) _=_;simp only[Sem.run_bind,XL,Result.andThen];simp[ReflectliteValue.elem,loadVar,isAgg,underlying,underlying241,b,Result.andThen,Aya,nW]
theorem mz (a b:Addr)(k:Int)(old:Value)(W:World)(e:W.cell? b=some (AB k))(c:W.cell? a=some old)(d:W.frozen? a=false):
  (ReflectliteValue.set #[.agg #[.pointer (some (AK 4 144)), .pointer (some a), .int .u64 386], .agg #[.pointer (some (AK 4 144)), .pointer (some b), .int .u64 130]]).run prog W
   =.ok (.tuple #[]) (W.setCell a (AB k)):=by
 change Sem.run _ (ReflectliteValue.parts (.agg #[.pointer (some (AK 4 144)), .pointer (some a), .int .u64 386])>>=λp=>ReflectliteValue.parts (.agg #[.pointer (some (AK 4 144)), .pointer (some b), .int .u64 130])>>=_) _=_;simp only[Sem.run_bind,gj,YA,Result.andThen];simp[ReflectliteValue.flagAddr,loadVar,isAgg,underlying,underlying144,e,Result.andThen,Ayb,storeVar,Value.cells,storeCells,Addr.add];rw[run_store prog W a _ _ Ao];simp[c,d]
theorem mK (k:Int)(t:Addr)(old:Value)(w:World)(hg:w.cell? (AK 0 0)=some (.iface 160 (.agg #[.pointer (some (AK 4 109))])))(a:w.cell? t=some old)(c:w.frozen? t=false):
  Calls prog 75 #[.iface 144 (AB k), .iface 241 (.pointer (some t))] w λd e=>d=.returned (.bool true)/\∃b,AO w b/\e=b.setCell t (AB k):=by
 have j:=@run_callFunc_extern prog 112 _ (λargs=>ReflectliteValue.unpack (args.getD 0 (.tuple #[]))) func112 AX AX AX AX;have J:=@run_callFunc_extern prog 113 _ (ReflectliteValue.methodAny (ReflectliteValue.valueError "reflectlite.Value.Type" 0) (λt _ _ _=>ReflectliteType.toType t)) func113 AX AX AX AX;have F:=@run_callFunc_extern prog 114 _ (ReflectliteValue.method (ReflectliteValue.valueError "reflectlite.Value.IsNil" 0) ReflectliteValue.isNil) func114 AX AX AX AX;have I:=@run_callFunc_extern prog 213 _ (ReflectliteType.abiMethod λt=>do pure (.int .u8 (<-Rtype.kind t))) func213 AX AX AX AX;have i:=@run_callFunc_extern prog 228 _ (ReflectliteType.method ReflectliteType.elem) func228 AX AX AX AX;have G:=@run_callFunc_extern prog 136 _ ReflectliteType.typeOf func136 AX AX AX AX;have y:=@run_callFunc_extern prog 226 _ (ReflectliteType.relation "AssignableTo" ReflectliteType.assignableTo) func226 AX AX AX AX;have f:=@run_callFunc_extern prog 137 _ (ReflectliteValue.method (ReflectliteValue.valueError "reflectlite.Value.Elem" 0) ReflectliteValue.elem) func137 AX AX AX AX
 have o:=@run_callFunc_extern prog 138 _ ReflectliteValue.set func138 AX AX AX AX;have D:=gi;have K:=js;have L:=gl;have m:=kh;have l:=kj;have B:=WT;have q:=gh;have z:=XZ;have M:=@run_callFunc_extern prog 229 _ (ReflectliteType.relation "Implements" ReflectliteType.implements_) func229 AX AX AX AX;have A:=ki;have C:=gR;have H:((w.alloc (.cells #[.pointer (some t)] 241)).alloc (.cells #[.pointer (some (AK 4 241)),AH w.heap.size, .int .u64 150] 133)).cell? (AK 0 0)=some (.iface 160 (.agg #[.pointer (some (AK 4 109))])):=A8 _ (A8 _ hg);have E:=PT;have u:=PU;have r:=QU;have g:=gn (AL w 0) t ((w.alloc (.cells #[.pointer (some t)] 241)).alloc (.cells #[.pointer (some (AK 4 241)),AH w.heap.size, .int .u64 150] 133)) (A8 _ AU);have x:=gq (AL w 0) t (((w.alloc (.cells #[.pointer (some t)] 241)).alloc (.cells #[.pointer (some (AK 4 241)),AH w.heap.size, .int .u64 150] 133)).alloc (.cells #[.pointer (some (AK 4 241)),AH w.heap.size, .int .u64 150] 133)) (A8 _ (A8 _ AU));have s:=mz t (AK (w.heap.size+1+1+1) 0) k old ((((w.alloc (.cells #[.pointer (some t)] 241)).alloc (.cells #[.pointer (some (AK 4 241)),AH w.heap.size, .int .u64 150] 133)).alloc (.cells #[.pointer (some (AK 4 241)),AH w.heap.size, .int .u64 150] 133)).alloc (.cells #[AB k] 144)) (by rw[World.cell?_alloc_at _ _ _ _ AU];rfl) (A8 _ (A8 _ (A8 _ (A8 _ a)))) (Gy _ (A8 _ (A8 _ (A8 _ a))) (Gy _ (A8 _ (A8 _ a)) (Gy _ (A8 _ a) (Gy _ a c))))
 go_enter func75,ntmps75
 go_wp2
 refine wp_loop_rounds 1 ?_;rw[rounds_succ]
 go_wp2
 go_ret;exact⟨rfl,_,AW,rfl⟩
open Go.Sort Go.BigFrame
def Fh (w:World):Prop:=w.cell? ⟨0,0,none⟩=some (.iface 160 (.agg #[.pointer (some ⟨4,109,none⟩)]))
theorem Fh.below {w w':World}(h:Fh w)(a:AO w w'):Fh w':=(a.cell (Es h)).trans h
theorem mL (k:Int)(t:Addr)(old:Value)(w:World)(a:w.cell? t=some old)(c:w.frozen? t=false):
  Calls prog 75 #[.iface 144 (AB k), .iface 111 (.pointer (some t))] w λd e=>d=.returned (.bool true)/\∃b,AO w b/\e=b.setCell t (.iface 144 (AB k)):=by
 have j:=@run_callFunc_extern prog 112 _ (λargs=>ReflectliteValue.unpack (args.getD 0 (.tuple #[]))) func112 AX AX AX AX;have G:=@run_callFunc_extern prog 113 _ (ReflectliteValue.methodAny (ReflectliteValue.valueError "reflectlite.Value.Type" 0) (λt _ _ _=>ReflectliteType.toType t)) func113 AX AX AX AX;have D:=@run_callFunc_extern prog 114 _ (ReflectliteValue.method (ReflectliteValue.valueError "reflectlite.Value.IsNil" 0) ReflectliteValue.isNil) func114 AX AX AX AX;have F:=@run_callFunc_extern prog 213 _ (ReflectliteType.abiMethod λt=>do pure (.int .u8 (<-Rtype.kind t))) func213 AX AX AX AX;have i:=@run_callFunc_extern prog 228 _ (ReflectliteType.method ReflectliteType.elem) func228 AX AX AX AX;have E:=@run_callFunc_extern prog 136 _ ReflectliteType.typeOf func136 AX AX AX AX;have y:=@run_callFunc_extern prog 226 _ (ReflectliteType.relation "AssignableTo" ReflectliteType.assignableTo) func226 AX AX AX AX;have f:=@run_callFunc_extern prog 137 _ (ReflectliteValue.method (ReflectliteValue.valueError "reflectlite.Value.Elem" 0) ReflectliteValue.elem) func137 AX AX AX AX
 have o:=@run_callFunc_extern prog 138 _ ReflectliteValue.set func138 AX AX AX AX;have B:=XY;have H:=Ys;have I:=YB;have m:=ZA;have l:=ZF;have A:=WT;have q:=gd;have z:=XZ;have C:=PT;have u:=PU;have r:=QU;have g:=YC (AL w 0) t ((w.alloc (.cells #[.pointer (some t)] 111)).alloc (.cells #[.pointer (some (AK 4 111)),AH w.heap.size, .int .u64 150] 133)) (A8 _ AU);have x:=XK (AL w 0) t (((w.alloc (.cells #[.pointer (some t)] 111)).alloc (.cells #[.pointer (some (AK 4 111)),AH w.heap.size, .int .u64 150] 133)).alloc (.cells #[.pointer (some (AK 4 111)),AH w.heap.size, .int .u64 150] 133)) (A8 _ (A8 _ AU));have s:=jl t (AK (w.heap.size+1+1+1) 0) k old ((((w.alloc (.cells #[.pointer (some t)] 111)).alloc (.cells #[.pointer (some (AK 4 111)),AH w.heap.size, .int .u64 150] 133)).alloc (.cells #[.pointer (some (AK 4 111)),AH w.heap.size, .int .u64 150] 133)).alloc (.cells #[AB k] 144)) (by rw[World.cell?_alloc_at _ _ _ _ AU];rfl) (A8 _ (A8 _ (A8 _ (A8 _ a)))) (Gy _ (A8 _ (A8 _ (A8 _ a))) (Gy _ (A8 _ (A8 _ a)) (Gy _ (A8 _ a) (Gy _ a c))));go_enter func75,ntmps75
 go_wp2
 refine wp_loop_rounds 1 ?_;rw[rounds_succ]
 go_wp2
 go_ret;exact⟨rfl,_,AW,rfl⟩
theorem mI (u v:Value)(t:Addr)(old:Value)(w:World)(a:w.cell? t=some old)(c:w.frozen? t=false):
  Calls prog 75 #[.iface 147 (.agg #[u,v]), .iface 111 (.pointer (some t))] w λd e=>d=.returned (.bool true)/\∃b,AO w b/\e=b.setCell t (.iface 147 (.agg #[u,v])):=by
 have j:=@run_callFunc_extern prog 112 _ (λargs=>ReflectliteValue.unpack (args.getD 0 (.tuple #[]))) func112 AX AX AX AX;have G:=@run_callFunc_extern prog 113 _ (ReflectliteValue.methodAny (ReflectliteValue.valueError "reflectlite.Value.Type" 0) (λt _ _ _=>ReflectliteType.toType t)) func113 AX AX AX AX;have D:=@run_callFunc_extern prog 114 _ (ReflectliteValue.method (ReflectliteValue.valueError "reflectlite.Value.IsNil" 0) ReflectliteValue.isNil) func114 AX AX AX AX;have F:=@run_callFunc_extern prog 213 _ (ReflectliteType.abiMethod λt=>do pure (.int .u8 (<-Rtype.kind t))) func213 AX AX AX AX;have i:=@run_callFunc_extern prog 228 _ (ReflectliteType.method ReflectliteType.elem) func228 AX AX AX AX;have E:=@run_callFunc_extern prog 136 _ ReflectliteType.typeOf func136 AX AX AX AX;have y:=@run_callFunc_extern prog 226 _ (ReflectliteType.relation "AssignableTo" ReflectliteType.assignableTo) func226 AX AX AX AX;have f:=@run_callFunc_extern prog 137 _ (ReflectliteValue.method (ReflectliteValue.valueError "reflectlite.Value.Elem" 0) ReflectliteValue.elem) func137 AX AX AX AX
 have m:=@run_callFunc_extern prog 138 _ ReflectliteValue.set func138 AX AX AX AX;have B:=XY;have H:=Ys;have I:=YB;have l:=ZA;have k:=ZF;have A:=wx;have o:=gb;have z:=Ax4;have C:=PT;have s:=PU;have q:=QU;have g:=YC (AL w 0) t ((w.alloc (.cells #[.pointer (some t)] 111)).alloc (.cells #[.pointer (some (AK 4 111)),AH w.heap.size, .int .u64 150] 133)) (A8 _ AU);have x:=XK (AL w 0) t (((w.alloc (.cells #[.pointer (some t)] 111)).alloc (.cells #[.pointer (some (AK 4 111)),AH w.heap.size, .int .u64 150] 133)).alloc (.cells #[.pointer (some (AK 4 111)),AH w.heap.size, .int .u64 150] 133)) (A8 _ (A8 _ AU));have r:=jf t (AK (w.heap.size+1+1+1) 0) u v old ((((w.alloc (.cells #[.pointer (some t)] 111)).alloc (.cells #[.pointer (some (AK 4 111)),AH w.heap.size, .int .u64 150] 133)).alloc (.cells #[.pointer (some (AK 4 111)),AH w.heap.size, .int .u64 150] 133)).alloc (.cells #[u,v] 147)) (by simp[go_sem,Addr.add]) (by simp[go_sem,Addr.add]) (A8 _ (A8 _ (A8 _ (A8 _ a)))) (Gy _ (A8 _ (A8 _ (A8 _ a))) (Gy _ (A8 _ (A8 _ a)) (Gy _ (A8 _ a) (Gy _ a c))));go_enter func75,ntmps75
 go_wp2
 refine wp_loop_rounds 1 ?_;rw[rounds_succ]
 go_wp2
 go_ret;exact⟨rfl,_,AW,rfl⟩
theorem gA (k:Int)(w:World):Calls prog 221 #[AB k] w (AN w (.agg #[AB k,AB 0])):=by
 go_enter func221,ntmps221
 go_wp2
 refine bodyPost_ret (v:=.agg #[AB k,AB 0]) (by simp[results,results221,go_sem]) rfl ⟨rfl,AW⟩
theorem f9 (k:Int)(j:Nat)(w:World)(hg:Fh w):Calls prog 224 #[.agg #[AB j, .iface 144 (AB k)]] w λe i=>e=.returned (.agg #[AB k,AB j])/\Below w.heap.size w i:=by
 have g:=AV (λW (h:Below w.heap.size w W)=>hg.below h);clear hg;go_enter func224,ntmps224
 go_wp2_with (go_at_call 75;refine(mK k ⟨w.heap.size+1+1,0,none⟩ (AB 0) _ (g _ AW) (by simp[go_sem]) (by simp[go_sem])).mono ?_;rintro e r ⟨rfl,b,c,rfl⟩;have q:b.cell? ⟨w.heap.size,0,none⟩=some (AB j):=(by rw[c.cell (p:=⟨w.heap.size,0,none⟩) Ax];simp[go_sem]);have d:b.cell? ⟨w.heap.size+1,0,none⟩=some (AB 0):=(A3 c);have f:b.cell? ⟨w.heap.size+1,1,none⟩=some (AB 0):=(A3 c);have m:b.frozen? ⟨w.heap.size+1,0,none⟩=false:=(A5 c);have o:b.frozen? ⟨w.heap.size+1,1,none⟩=false:=(A5 c);have l:b.cell? ⟨w.heap.size+1+1,0,none⟩=some (AB 0):=(A3 c))
 refine bodyPost_ret (v:=.agg #[AB k,AB j]) (by simp[results,results224,go_sem,d,f]) rfl ⟨rfl,AW⟩
theorem pM (l:List Stil.B8)(k:Nat):¬0<(Ep l k).1->Ep l k=(0,0):=by
 induction l generalizing k with
 | nil=>intro _;rfl
 | cons x r b=>
  intro h;rw[Ep] at h ⊢;split
  ·rename_i a;rw[if_pos a] at h;exact absurd a h
  ·rename_i a;rw[if_neg a] at h;exact b _ h
theorem Ax9 (v:Value)(w:World):(Go.method 355 144 v "loop.example/stilway/impl.fault").run prog w=.ok (221,v) w:=AX
theorem Ax8 (u v:Value)(w:World):(Go.method 355 147 (.agg #[u,v]) "loop.example/stilway/impl.fault").run prog w=.ok (224, .agg #[u,v]) w:=AX
theorem vb (l:List Stil.B8)(G:Value)(w:World)(hr:Et w)(hg:Fh w)(M:Fe w G l)(hl:l.length<=1048576)(S:Bz l<=1000000000)(U:∀x∈l,Dh x):
  Calls prog 43 #[G] w (AN w (.agg #[AB (Aw l).1,AB (Aw l).2])):=by
 have d:=AV (λW s=>yD l G W (hr.below s) (M.below s) hl S U);have HG:=AV (λW (h:AO w W)=>hg.below h);have B:=AV (pM l 0);have j:Hid (Aw l=if 40<l.length\/400<Bz l then(1,0) else Ep l 0):=rfl;obtain⟨a,cap,rfl,_⟩:=M;have mB:=Ax9;have mR:=Ax8;obtain⟨t,P⟩:=AA l.length
 obtain⟨z,V⟩:=AA (Bz l)
 obtain⟨Q,N⟩:=AA (Ep l 0)
 obtain⟨R,T⟩:=AA (Aw l)
 rw[<-P] at d j hl ⊢;rw[<-V] at d j;rw[<-N] at d j B;rw[<-T] at j ⊢;clear P V N T hr hg U S;by_cases h1:40<t\/400<z
 ·have C:Hid (R=(1,0)):=by show _=_;rw[j.out,if_pos h1]
  rw[JH h1] at d;have E:Hid (∀W,AO w W->Calls prog 76 #[AE a t cap] W (AN W (.iface 144 (AB 1)))):=d;clear d j h1 B;go_enter func43,ntmps43
  go_wp2_with (first | (go_at_call 76;refine(E _ AW).mono ?_;rintro e b ⟨rfl,c⟩;have m:b.cell? (AK (w.heap.size+1) 0)=some .nilIface:=(A3 c);have K:b.frozen? (AK (w.heap.size+1) 0)=false:=(A5 c);have o:b.cell? (AL w 0)=some (AB 0):=(by rw[c.cell (p:=(AL w 0)) Ax];simp[go_sem]);have F:b.frozen? (AL w 0)=false:=(by rw[c.frozen (p:=(AL w 0)) Ax];simp[go_sem]);have r:b.cell? (AL w 1)=some (AB 0):=(by rw[c.cell (p:=(AL w 1)) Ax];simp[go_sem]);have q1:b.frozen? (AL w 1)=false:=(by rw[c.frozen (p:=(AL w 1)) Ax];simp[go_sem])) | (go_at_call 75;refine(mL 1 (AK (w.heap.size+1) 0) .nilIface _ m K).mono ?_;rintro e O ⟨rfl,Y,f,rfl⟩;have Z:=(f.cell (Es m)).trans m;have k:=(f.cell (Es o)).trans o;have I:=(f.frozen (Es o)).trans F;have q:=(f.cell (Es r)).trans r;have H:=(f.frozen (Es r)).trans q1) | (go_at_call 221;refine(gA _ _).mono ?_;rintro e u ⟨rfl,g⟩;have D:=(g.cell (p:=(AL w 0)) (CB (Es k) (I7 _ _ _))).trans ((Bj AQ).trans k);have X:u.frozen? (AL w 0)=false:=(g.frozen (p:=(AL w 0)) (CB (Es k) (I7 _ _ _))).trans (by rw[World.frozen?_setCell];exact I);have A:=(g.cell (p:=(AL w 1)) (CB (Es q) (I7 _ _ _))).trans ((Bj AQ).trans q);have g1:u.frozen? (AL w 1)=false:=(g.frozen (p:=(AL w 1)) (CB (Es q) (I7 _ _ _))).trans (by rw[World.frozen?_setCell];exact H)))
  refine bodyPost_ret (v:=.agg #[AB 1,AB 0]) (by simp[results,results43,go_sem,D,A]) rfl ⟨by rw[C.out];rfl,AW⟩
 ·rw[FW h1] at d
  have J:Hid (R=Q):=by show _=_;rw[j.out,if_neg h1]
  clear j h1;by_cases y:0<Q.1
  ·have C:=AV J.out
   have E:Hid (∀W,AO w W->Calls prog 76 #[AE a t cap] W (AN W (.iface 147 (.agg #[AB Q.2, .iface 144 (AB Q.1)])))):=λW s=>(d W s).mono λe i ⟨L,hb⟩=>⟨by rw[L];unfold lookOf;simp[y],hb⟩
   clear d y B;go_enter func43,ntmps43
   go_wp2_with (first | (go_at_call 76;refine(E _ AW).mono ?_;rintro e b ⟨rfl,c⟩;have m:b.cell? (AK (w.heap.size+1) 0)=some .nilIface:=(A3 c);have K:b.frozen? (AK (w.heap.size+1) 0)=false:=(A5 c);have o:b.cell? (AL w 0)=some (AB 0):=(by rw[c.cell (p:=(AL w 0)) Ax];simp[go_sem]);have F:b.frozen? (AL w 0)=false:=(by rw[c.frozen (p:=(AL w 0)) Ax];simp[go_sem]);have r:b.cell? (AL w 1)=some (AB 0):=(by rw[c.cell (p:=(AL w 1)) Ax];simp[go_sem]);have q1:b.frozen? (AL w 1)=false:=(by rw[c.frozen (p:=(AL w 1)) Ax];simp[go_sem])) | (go_at_call 75;refine(mI _ _ (AK (w.heap.size+1) 0) .nilIface _ m K).mono ?_;rintro e O ⟨rfl,Y,f,rfl⟩;have Z:=(f.cell (Es m)).trans m;have k:=(f.cell (Es o)).trans o;have I:=(f.frozen (Es o)).trans F;have q:=(f.cell (Es r)).trans r;have H:=(f.frozen (Es r)).trans q1) | (go_at_call 224;refine(f9 _ _ _ (HG _ AW)).mono ?_;rintro e u ⟨rfl,g⟩;have D:=(g.cell (p:=(AL w 0)) (CB (Es k) (I7 _ _ _))).trans ((Bj AQ).trans k);have X:u.frozen? (AL w 0)=false:=(g.frozen (p:=(AL w 0)) (CB (Es k) (I7 _ _ _))).trans (by rw[World.frozen?_setCell];exact I);have A:=(g.cell (p:=(AL w 1)) (CB (Es q) (I7 _ _ _))).trans ((Bj AQ).trans q);have g1:u.frozen? (AL w 1)=false:=(g.frozen (p:=(AL w 1)) (CB (Es q) (I7 _ _ _))).trans (by rw[World.frozen?_setCell];exact H)))
   refine bodyPost_ret (v:=.agg #[AB Q.1,AB Q.2]) (by simp[results,results43,go_sem,D,A]) rfl ⟨by rw[C.out],AW⟩
  ·have C:Hid (R=(0,0)):=by show _=_;rw[J.out];exact B y
   have E:Hid (∀W,AO w W->Calls prog 76 #[AE a t cap] W (AN W .nilIface)):=λW s=>(d W s).mono λe i ⟨L,hb⟩=>⟨by rw[L];unfold lookOf;simp[y],hb⟩
   clear d y B J;go_enter func43,ntmps43
   go_wp2_with (first | (go_at_call 76;refine(E _ AW).mono ?_;rintro e b ⟨rfl,c⟩;have D:b.cell? (AL w 0)=some (AB 0):=(by rw[c.cell (p:=(AL w 0)) Ax];simp[go_sem]);have F:b.frozen? (AL w 0)=false:=(by rw[c.frozen (p:=(AL w 0)) Ax];simp[go_sem]);have A:b.cell? (AL w 1)=some (AB 0):=(by rw[c.cell (p:=(AL w 1)) Ax];simp[go_sem]);have q1:b.frozen? (AL w 1)=false:=(by rw[c.frozen (p:=(AL w 1)) Ax];simp[go_sem])) | (go_at_call 75;refine(as_nil _ _).mono ?_;rintro e O ⟨rfl,rfl⟩))
   refine bodyPost_ret (v:=.agg #[AB 0,AB 0]) (by simp[results,results43,go_sem,D,A]) rfl ⟨by rw[C.out];rfl,AW⟩
