import Derived.LaidEql
import Derived.Stop.Asserts
import Derived.RowKitTokens
import Derived.Test.YtbfljjcnbbmoaaaGreatDoorGX
set_option maxHeartbeats 4000000
set_option maxRecDepth 100000
namespace Go.Proofs.YtbfljjcnbbmoaaaGreatDoor
open Stil
open Go.RowKit Go.Extern.Stop Go.Stop Go.Extern
variable {W:World}{v:Value}
theorem as_nil (t:Value)(w:World):Calls Tryz.prog 82 #[.nilIface,t] w λe w'=>e=.returned (.bool false)/\w'=w:=by
 go_enter Tryz.func82,Tryz.ntmps82
 go_wp2
 go_ret;exact⟨rfl,rfl⟩
theorem Aio (t:Addr)(w:World):(ReflectliteValue.unpack (.iface 115 (.pointer (some t)))).run Tryz.prog w=.ok (.agg #[.pointer (some ⟨3,115,none⟩), .pointer (some ⟨w.heap.size,0,none⟩), .int .u64 150]) (w.alloc (.cells #[.pointer (some t)] 115)):=krz
theorem Ank (a:Addr)(w:World):(ReflectliteValue.methodAny (ReflectliteValue.valueError "reflectlite.Value.Type" 0) (λt _ _ _=>ReflectliteType.toType t) #[.agg #[.pointer (some ⟨3,115,none⟩), .pointer (some a), .int .u64 150]]).run Tryz.prog w=.ok (.iface 156 (.agg #[.pointer (some ⟨3,115,none⟩)])) w:=krz
theorem Ais (w:World):((ReflectliteType.abiMethod λt=>(λa:Nat=>Value.int IntKind.u8 (a:Int))<$>Rtype.kind t) #[.pointer (some ⟨3,115,none⟩)]).run Tryz.prog w=.ok (.int .u8 22) w:=krz
theorem Anl (w:World):((ReflectliteType.abiMethod λt=>(λa:Nat=>Value.int IntKind.u8 (a:Int))<$>Rtype.kind t) #[.pointer (some ⟨3,110,none⟩)]).run Tryz.prog w=.ok (.int .u8 20) w:=krz
theorem Anm (w:World):(ReflectliteType.method ReflectliteType.elem #[.agg #[.pointer (some ⟨3,115,none⟩)]]).run Tryz.prog w=.ok (.iface 156 (.agg #[.pointer (some ⟨3,110,none⟩)])) w:=krz
theorem Afm (v:Value)(w:World):(ReflectliteType.typeOf #[.iface 146 v]).run Tryz.prog w=.ok (.iface 156 (.agg #[.pointer (some ⟨3,146,none⟩)])) w:=krz
theorem Apd (v:Value)(w:World):(ReflectliteType.typeOf #[.iface 149 v]).run Tryz.prog w=.ok (.iface 156 (.agg #[.pointer (some ⟨3,149,none⟩)])) w:=krz
theorem Axs (w:World):(ReflectliteType.relation "AssignableTo" ReflectliteType.assignableTo #[.agg #[.pointer (some ⟨3,146,none⟩)], .iface 156 (.agg #[.pointer (some ⟨3,110,none⟩)])]).run Tryz.prog w=.ok (.bool true) w:=krz
theorem Axr (w:World):(ReflectliteType.relation "AssignableTo" ReflectliteType.assignableTo #[.agg #[.pointer (some ⟨3,149,none⟩)], .iface 156 (.agg #[.pointer (some ⟨3,110,none⟩)])]).run Tryz.prog w=.ok (.bool true) w:=krz
theorem Axt (w:World):(ReflectliteType.relation "AssignableTo" ReflectliteType.assignableTo #[.agg #[.pointer (some ⟨3,146,none⟩)], .iface 156 (.agg #[.pointer (some ⟨3,146,none⟩)])]).run Tryz.prog w=.ok (.bool true) w:=krz
theorem Aip (k:Int)(w:World):(ReflectliteValue.unpack (.iface 146 (.int .i64 k))).run Tryz.prog w=.ok (.agg #[.pointer (some ⟨3,146,none⟩), .pointer (some ⟨w.heap.size,0,none⟩), .int .u64 130]) (w.alloc (.cells #[.int .i64 k] 146)):=krz
theorem At4 (a b:Value)(w:World):(ReflectliteValue.unpack (.iface 149 (.agg #[a,b]))).run Tryz.prog w=.ok (.agg #[.pointer (some ⟨3,149,none⟩), .pointer (some ⟨w.heap.size,0,none⟩), .int .u64 153]) (w.alloc (.cells #[a,b] 149)):=krz
theorem Afn (a:Addr)(w:World):(ReflectliteValue.parts (.agg #[.pointer (some ⟨3,115,none⟩), .pointer (some a), .int .u64 150])).run Tryz.prog w=.ok (some (115,a,150)) w:=krz
theorem Ait (a p:Addr)(W:World)(ha:W.cell? a=some (.pointer (some p))):
  (ReflectliteValue.method (ReflectliteValue.valueError "reflectlite.Value.IsNil" 0) ReflectliteValue.isNil #[.agg #[.pointer (some ⟨3,115,none⟩), .pointer (some a), .int .u64 150]]).run Tryz.prog W=.ok (.bool false) W:=by
 change Sem.run _ (ReflectliteValue.parts (.agg #[.pointer (some ⟨3,115,none⟩), .pointer (some a), .int .u64 150])>>=_) _=_;simp only[Sem.run_bind,Afn,Result.andThen];simp[ReflectliteValue.isNil,loadVar,isAgg,underlying,Tryz.underlying115,ha,Result.andThen]
theorem Ape (w:World):(Rtype.elem? 115).run Tryz.prog w=.ok (some 110) w:=krz
theorem A2k (p:Addr)(w:World):(ReflectliteValue.mk 110 p ReflectliteValue.flagAddr).run Tryz.prog w=.ok (.agg #[.pointer (some ⟨3,110,none⟩), .pointer (some p), .int .u64 404]) w:=krz
theorem Aiu (a p:Addr)(W:World)(ha:W.cell? a=some (.pointer (some p))):
  (ReflectliteValue.method (ReflectliteValue.valueError "reflectlite.Value.Elem" 0) ReflectliteValue.elem #[.agg #[.pointer (some ⟨3,115,none⟩), .pointer (some a), .int .u64 150]]).run Tryz.prog W
   =.ok (.agg #[.pointer (some ⟨3,110,none⟩), .pointer (some p), .int .u64 404]) W:=by
 change Sem.run _ (ReflectliteValue.parts (.agg #[.pointer (some ⟨3,115,none⟩), .pointer (some a), .int .u64 150])>>=_) _=_;simp only[Sem.run_bind,Afn,Result.andThen];simp[ReflectliteValue.elem,loadVar,isAgg,underlying,Tryz.underlying115,ha,Result.andThen,Ape,A2k]
theorem Aiq (a:Addr)(w:World):(ReflectliteValue.parts (.agg #[.pointer (some ⟨3,110,none⟩), .pointer (some a), .int .u64 404])).run Tryz.prog w=.ok (some (110,a,404)) w:=krz
theorem Air (a:Addr)(w:World):(ReflectliteValue.parts (.agg #[.pointer (some ⟨3,146,none⟩), .pointer (some a), .int .u64 130])).run Tryz.prog w=.ok (some (146,a,130)) w:=krz
theorem At5 (a:Addr)(w:World):(ReflectliteValue.parts (.agg #[.pointer (some ⟨3,149,none⟩), .pointer (some a), .int .u64 153])).run Tryz.prog w=.ok (some (149,a,153)) w:=krz
theorem Ali (w:World):(Rtype.directlyAssignable 110 146).run Tryz.prog w=.ok false w:=krz
theorem Alh (w:World):(Rtype.directlyAssignable 110 149).run Tryz.prog w=.ok false w:=krz
theorem At7 (w:World):(Rtype.implements 110 146).run Tryz.prog w=.ok true w:=krz
theorem At6 (w:World):(Rtype.implements 110 149).run Tryz.prog w=.ok true w:=krz
theorem A3i (w:World):(Rtype.kind 146).run Tryz.prog w=.ok 2 w:=krz
theorem A3h (w:World):(Rtype.kind 149).run Tryz.prog w=.ok 25 w:=krz
theorem A0m (ta b:Addr)(k:Int)(old:Value)(W:World)(hb:W.cell? b=some (.int .i64 k))(ht:W.cell? ta=some old)(hf:W.frozen? ta=false):
  (ReflectliteValue.set #[.agg #[.pointer (some ⟨3,110,none⟩), .pointer (some ta), .int .u64 404], .agg #[.pointer (some ⟨3,146,none⟩), .pointer (some b), .int .u64 130]]).run Tryz.prog W
   =.ok (.tuple #[]) (W.setCell ta (.iface 146 (.int .i64 k))):=by
 change Sem.run _ (ReflectliteValue.parts (.agg #[.pointer (some ⟨3,110,none⟩), .pointer (some ta), .int .u64 404])>>=λp=>ReflectliteValue.parts (.agg #[.pointer (some ⟨3,146,none⟩), .pointer (some b), .int .u64 130])>>=_) _=_;simp only[Sem.run_bind,Aiq,Air,Result.andThen];simp[ReflectliteValue.flagAddr,loadVar,isAgg,underlying,Tryz.underlying146,hb,Result.andThen,Ali,At7,A3i,storeVar,Value.cells,storeCells,Addr.add];rw[run_store Tryz.prog W ta _ _ rrz];simp[ht,hf]
theorem A0l (ta b:Addr)(u v old:Value)(W:World)(hb0:W.cell? (b.add 0)=some u)(hb1:W.cell? (b.add 1)=some v)(ht:W.cell? ta=some old)(hf:W.frozen? ta=false):
  (ReflectliteValue.set #[.agg #[.pointer (some ⟨3,110,none⟩), .pointer (some ta), .int .u64 404], .agg #[.pointer (some ⟨3,149,none⟩), .pointer (some b), .int .u64 153]]).run Tryz.prog W
   =.ok (.tuple #[]) (W.setCell ta (.iface 149 (.agg #[u,v]))):=by
 have hl:(loadCells b 2).run Tryz.prog W=.ok #[u,v] W:=run_loadCells_list W b [u,v] (λj x hx=>by
  match j,hx with
  | 0,hx=>cases hx;exact hb0
  | 1,hx=>cases hx;exact hb1)
 change Sem.run _ (ReflectliteValue.parts (.agg #[.pointer (some ⟨3,110,none⟩), .pointer (some ta), .int .u64 404])>>=λp=>ReflectliteValue.parts (.agg #[.pointer (some ⟨3,149,none⟩), .pointer (some b), .int .u64 153])>>=_) _=_;simp only[Sem.run_bind,Aiq,At5,Result.andThen];simp[ReflectliteValue.flagAddr,loadVar,isAgg,underlying,Tryz.underlying149,hl,Result.andThen,Alh,At6,A3h,storeVar,Value.cells,storeCells,Addr.add];rw[run_store Tryz.prog W ta _ _ rrz];simp[ht,hf]
theorem Agr (h:Value)(w:World):(Go.method 348 156 (.agg #[h]) "Kind").run Tryz.prog w=.ok (198,h) w:=krz
theorem Ags (h:Value)(w:World):(Go.method 348 156 (.agg #[h]) "Elem").run Tryz.prog w=.ok (212, .agg #[h]) w:=krz
theorem Axq (h:Value)(w:World):(Go.method 348 156 (.agg #[h]) "Implements").run Tryz.prog w=.ok (213, .agg #[h]) w:=krz
theorem Alg (h:Value)(w:World):(Go.method 348 156 (.agg #[h]) "AssignableTo").run Tryz.prog w=.ok (210, .agg #[h]) w:=krz
theorem Ee {t:Addr}(h:W.cell? t=some v):t.block<W.heap.size:=by
 rcases Nat.lt_or_ge t.block W.heap.size with h' | h'
 ·exact h'
 ·simp[World.cell?,Array.getElem?_eq_none h'] at h
theorem Bf {t:Addr}(ob:Obj)(h:W.cell? t=some v):(W.alloc ob).cell? t=some v:=((Aa W ob).cell (Ee h)).trans h
theorem Fv {t:Addr}(ob:Obj)(h:W.cell? t=some v)(hf:W.frozen? t=false):(W.alloc ob).frozen? t=false:=((Aa W ob).frozen (Ee h)).trans hf
theorem Axu (t:Addr)(w:World):(ReflectliteValue.unpack (.iface 235 (.pointer (some t)))).run Tryz.prog w=.ok (.agg #[.pointer (some ⟨3,235,none⟩), .pointer (some ⟨w.heap.size,0,none⟩), .int .u64 150]) (w.alloc (.cells #[.pointer (some t)] 235)):=krz
theorem A0n (a:Addr)(w:World):(ReflectliteValue.methodAny (ReflectliteValue.valueError "reflectlite.Value.Type" 0) (λt _ _ _=>ReflectliteType.toType t) #[.agg #[.pointer (some ⟨3,235,none⟩), .pointer (some a), .int .u64 150]]).run Tryz.prog w=.ok (.iface 156 (.agg #[.pointer (some ⟨3,235,none⟩)])) w:=krz
theorem Axw (w:World):((ReflectliteType.abiMethod λt=>(λa:Nat=>Value.int IntKind.u8 (a:Int))<$>Rtype.kind t) #[.pointer (some ⟨3,235,none⟩)]).run Tryz.prog w=.ok (.int .u8 22) w:=krz
theorem A0o (w:World):((ReflectliteType.abiMethod λt=>(λa:Nat=>Value.int IntKind.u8 (a:Int))<$>Rtype.kind t) #[.pointer (some ⟨3,146,none⟩)]).run Tryz.prog w=.ok (.int .u8 2) w:=krz
theorem A0q (w:World):(ReflectliteType.method ReflectliteType.elem #[.agg #[.pointer (some ⟨3,235,none⟩)]]).run Tryz.prog w=.ok (.iface 156 (.agg #[.pointer (some ⟨3,146,none⟩)])) w:=krz
theorem A0p (w:World):(ReflectliteType.relation "Implements" ReflectliteType.implements_ #[.agg #[.pointer (some ⟨3,146,none⟩)], .iface 156 (.agg #[.pointer (some ⟨3,113,none⟩)])]).run Tryz.prog w=.ok (.bool true) w:=krz
theorem Aiv (a:Addr)(w:World):(ReflectliteValue.parts (.agg #[.pointer (some ⟨3,235,none⟩), .pointer (some a), .int .u64 150])).run Tryz.prog w=.ok (some (235,a,150)) w:=krz
theorem Axv (a:Addr)(w:World):(ReflectliteValue.parts (.agg #[.pointer (some ⟨3,146,none⟩), .pointer (some a), .int .u64 386])).run Tryz.prog w=.ok (some (146,a,386)) w:=krz
theorem Aua (w:World):(Rtype.elem? 235).run Tryz.prog w=.ok (some 146) w:=krz
theorem A3j (p:Addr)(w:World):(ReflectliteValue.mk 146 p ReflectliteValue.flagAddr).run Tryz.prog w=.ok (.agg #[.pointer (some ⟨3,146,none⟩), .pointer (some p), .int .u64 386]) w:=krz
theorem Aub (w:World):(Rtype.directlyAssignable 146 146).run Tryz.prog w=.ok true w:=krz
theorem Axx (a p:Addr)(W:World)(ha:W.cell? a=some (.pointer (some p))):
  (ReflectliteValue.method (ReflectliteValue.valueError "reflectlite.Value.IsNil" 0) ReflectliteValue.isNil #[.agg #[.pointer (some ⟨3,235,none⟩), .pointer (some a), .int .u64 150]]).run Tryz.prog W=.ok (.bool false) W:=by
 change Sem.run _ (ReflectliteValue.parts (.agg #[.pointer (some ⟨3,235,none⟩), .pointer (some a), .int .u64 150])>>=_) _=_;simp only[Sem.run_bind,Aiv,Result.andThen];simp[ReflectliteValue.isNil,loadVar,isAgg,underlying,Tryz.underlying235,ha,Result.andThen]
theorem Axy (a p:Addr)(W:World)(ha:W.cell? a=some (.pointer (some p))):
  (ReflectliteValue.method (ReflectliteValue.valueError "reflectlite.Value.Elem" 0) ReflectliteValue.elem #[.agg #[.pointer (some ⟨3,235,none⟩), .pointer (some a), .int .u64 150]]).run Tryz.prog W
   =.ok (.agg #[.pointer (some ⟨3,146,none⟩), .pointer (some p), .int .u64 386]) W:=by
 change Sem.run _ (ReflectliteValue.parts (.agg #[.pointer (some ⟨3,235,none⟩), .pointer (some a), .int .u64 150])>>=_) _=_;simp only[Sem.run_bind,Aiv,Result.andThen];simp[ReflectliteValue.elem,loadVar,isAgg,underlying,Tryz.underlying235,ha,Result.andThen,Aua,A3j]
theorem A2l (ta b:Addr)(k:Int)(old:Value)(W:World)(hb:W.cell? b=some (.int .i64 k))(ht:W.cell? ta=some old)(hf:W.frozen? ta=false):
  (ReflectliteValue.set #[.agg #[.pointer (some ⟨3,146,none⟩), .pointer (some ta), .int .u64 386], .agg #[.pointer (some ⟨3,146,none⟩), .pointer (some b), .int .u64 130]]).run Tryz.prog W
   =.ok (.tuple #[]) (W.setCell ta (.int .i64 k)):=by
 change Sem.run _ (ReflectliteValue.parts (.agg #[.pointer (some ⟨3,146,none⟩), .pointer (some ta), .int .u64 386])>>=λp=>ReflectliteValue.parts (.agg #[.pointer (some ⟨3,146,none⟩), .pointer (some b), .int .u64 130])>>=_) _=_;simp only[Sem.run_bind,Axv,Air,Result.andThen];simp[ReflectliteValue.flagAddr,loadVar,isAgg,underlying,Tryz.underlying146,hb,Result.andThen,Aub,storeVar,Value.cells,storeCells,Addr.add];rw[run_store Tryz.prog W ta _ _ rrz];simp[ht,hf]
theorem A11 (k:Int)(t:Addr)(old:Value)(w:World)(hg:w.cell? ⟨0,0,none⟩=some (.iface 156 (.agg #[.pointer (some ⟨3,113,none⟩)])))(ht0:w.cell? t=some old)(hf0:w.frozen? t=false):
  Calls Tryz.prog 82 #[.iface 146 (.int .i64 k), .iface 235 (.pointer (some t))] w λev w'=>ev=.returned (.bool true)/\∃w4,Below w.heap.size w w4/\w'=w4.setCell t (.int .i64 k):=by
 have h6:=@run_callFunc_extern Tryz.prog 109 _ (λargs=>ReflectliteValue.unpack (args.getD 0 (.tuple #[]))) Tryz.func109 krz krz krz krz;have h7:=@run_callFunc_extern Tryz.prog 110 _ (ReflectliteValue.methodAny (ReflectliteValue.valueError "reflectlite.Value.Type" 0) (λt _ _ _=>ReflectliteType.toType t)) Tryz.func110 krz krz krz krz;have h8:=@run_callFunc_extern Tryz.prog 111 _ (ReflectliteValue.method (ReflectliteValue.valueError "reflectlite.Value.IsNil" 0) ReflectliteValue.isNil) Tryz.func111 krz krz krz krz;have h27:=@run_callFunc_extern Tryz.prog 198 _ (ReflectliteType.abiMethod λt=>do pure (.int .u8 (<-Rtype.kind t))) Tryz.func198 krz krz krz krz;have h37:=@run_callFunc_extern Tryz.prog 212 _ (ReflectliteType.method ReflectliteType.elem) Tryz.func212 krz krz krz krz;have h10:=@run_callFunc_extern Tryz.prog 124 _ ReflectliteType.typeOf Tryz.func124 krz krz krz krz;have h35:=@run_callFunc_extern Tryz.prog 210 _ (ReflectliteType.relation "AssignableTo" ReflectliteType.assignableTo) Tryz.func210 krz krz krz krz;have h11:=@run_callFunc_extern Tryz.prog 125 _ (ReflectliteValue.method (ReflectliteValue.valueError "reflectlite.Value.Elem" 0) ReflectliteValue.elem) Tryz.func125 krz krz krz krz
 have h12:=@run_callFunc_extern Tryz.prog 126 _ ReflectliteValue.set Tryz.func126 krz krz krz krz;have f6:=Axu;have f7:=A0n;have k1:=Axw;have k2:=A0o;have e1:=A0q;have tO:=Afm;have aB:=Axt;have vB:=Aip;have h38:=@run_callFunc_extern Tryz.prog 213 _ (ReflectliteType.relation "Implements" ReflectliteType.implements_) Tryz.func213 krz krz krz krz;have i1:=A0p;have mI:=Axq;have hg2:((w.alloc (.cells #[.pointer (some t)] 235)).alloc (.cells #[.pointer (some ⟨3,235,none⟩), .pointer (some ⟨w.heap.size,0,none⟩), .int .u64 150] 136)).cell? ⟨0,0,none⟩=some (.iface 156 (.agg #[.pointer (some ⟨3,113,none⟩)])):=Bf _ (Bf _ hg);have mK:=Agr;have mE:=Ags;have mA:=Alg;have n8:=Axx ⟨w.heap.size,0,none⟩ t ((w.alloc (.cells #[.pointer (some t)] 235)).alloc (.cells #[.pointer (some ⟨3,235,none⟩), .pointer (some ⟨w.heap.size,0,none⟩), .int .u64 150] 136)) (Bf _ spz);have el:=Axy ⟨w.heap.size,0,none⟩ t (((w.alloc (.cells #[.pointer (some t)] 235)).alloc (.cells #[.pointer (some ⟨3,235,none⟩), .pointer (some ⟨w.heap.size,0,none⟩), .int .u64 150] 136)).alloc (.cells #[.pointer (some ⟨3,235,none⟩), .pointer (some ⟨w.heap.size,0,none⟩), .int .u64 150] 136)) (Bf _ (Bf _ spz));have st:=A2l t ⟨w.heap.size+1+1+1,0,none⟩ k old ((((w.alloc (.cells #[.pointer (some t)] 235)).alloc (.cells #[.pointer (some ⟨3,235,none⟩), .pointer (some ⟨w.heap.size,0,none⟩), .int .u64 150] 136)).alloc (.cells #[.pointer (some ⟨3,235,none⟩), .pointer (some ⟨w.heap.size,0,none⟩), .int .u64 150] 136)).alloc (.cells #[.int .i64 k] 146)) (by rw[World.cell?_alloc_at _ _ _ _ spz];rfl) (Bf _ (Bf _ (Bf _ (Bf _ ht0)))) (Fv _ (Bf _ (Bf _ (Bf _ ht0))) (Fv _ (Bf _ (Bf _ ht0)) (Fv _ (Bf _ ht0) (Fv _ ht0 hf0))))
 go_enter Tryz.func82,Tryz.ntmps82
 go_wp2
 refine wp_loop_rounds 1 ?_;rw[rounds_succ]
 go_wp2
 go_ret;exact⟨rfl,_,blA,rfl⟩
open Go.RowKit Go.Sort Go.BigFrame
def Et (w:World):Prop:=w.cell? ⟨0,0,none⟩=some (.iface 156 (.agg #[.pointer (some ⟨3,113,none⟩)]))
theorem Et.below {w w':World}(h:Et w)(hb:Below w.heap.size w w'):Et w':=(hb.cell (Ee h)).trans h
theorem A12 (k:Int)(t:Addr)(old:Value)(w:World)(ht0:w.cell? t=some old)(hf0:w.frozen? t=false):
  Calls Tryz.prog 82 #[.iface 146 (.int .i64 k), .iface 115 (.pointer (some t))] w λev w'=>ev=.returned (.bool true)/\∃w4,Below w.heap.size w w4/\w'=w4.setCell t (.iface 146 (.int .i64 k)):=by
 have h6:=@run_callFunc_extern Tryz.prog 109 _ (λargs=>ReflectliteValue.unpack (args.getD 0 (.tuple #[]))) Tryz.func109 krz krz krz krz;have h7:=@run_callFunc_extern Tryz.prog 110 _ (ReflectliteValue.methodAny (ReflectliteValue.valueError "reflectlite.Value.Type" 0) (λt _ _ _=>ReflectliteType.toType t)) Tryz.func110 krz krz krz krz;have h8:=@run_callFunc_extern Tryz.prog 111 _ (ReflectliteValue.method (ReflectliteValue.valueError "reflectlite.Value.IsNil" 0) ReflectliteValue.isNil) Tryz.func111 krz krz krz krz;have h27:=@run_callFunc_extern Tryz.prog 198 _ (ReflectliteType.abiMethod λt=>do pure (.int .u8 (<-Rtype.kind t))) Tryz.func198 krz krz krz krz;have h37:=@run_callFunc_extern Tryz.prog 212 _ (ReflectliteType.method ReflectliteType.elem) Tryz.func212 krz krz krz krz;have h10:=@run_callFunc_extern Tryz.prog 124 _ ReflectliteType.typeOf Tryz.func124 krz krz krz krz;have h35:=@run_callFunc_extern Tryz.prog 210 _ (ReflectliteType.relation "AssignableTo" ReflectliteType.assignableTo) Tryz.func210 krz krz krz krz;have h11:=@run_callFunc_extern Tryz.prog 125 _ (ReflectliteValue.method (ReflectliteValue.valueError "reflectlite.Value.Elem" 0) ReflectliteValue.elem) Tryz.func125 krz krz krz krz
 have h12:=@run_callFunc_extern Tryz.prog 126 _ ReflectliteValue.set Tryz.func126 krz krz krz krz;have f6:=Aio;have f7:=Ank;have k1:=Ais;have k2:=Anl;have e1:=Anm;have tO:=Afm;have aB:=Axs;have vB:=Aip;have mK:=Agr;have mE:=Ags;have mA:=Alg;have n8:=Ait ⟨w.heap.size,0,none⟩ t ((w.alloc (.cells #[.pointer (some t)] 115)).alloc (.cells #[.pointer (some ⟨3,115,none⟩), .pointer (some ⟨w.heap.size,0,none⟩), .int .u64 150] 136)) (Bf _ spz);have el:=Aiu ⟨w.heap.size,0,none⟩ t (((w.alloc (.cells #[.pointer (some t)] 115)).alloc (.cells #[.pointer (some ⟨3,115,none⟩), .pointer (some ⟨w.heap.size,0,none⟩), .int .u64 150] 136)).alloc (.cells #[.pointer (some ⟨3,115,none⟩), .pointer (some ⟨w.heap.size,0,none⟩), .int .u64 150] 136)) (Bf _ (Bf _ spz));have st:=A0m t ⟨w.heap.size+1+1+1,0,none⟩ k old ((((w.alloc (.cells #[.pointer (some t)] 115)).alloc (.cells #[.pointer (some ⟨3,115,none⟩), .pointer (some ⟨w.heap.size,0,none⟩), .int .u64 150] 136)).alloc (.cells #[.pointer (some ⟨3,115,none⟩), .pointer (some ⟨w.heap.size,0,none⟩), .int .u64 150] 136)).alloc (.cells #[.int .i64 k] 146)) (by rw[World.cell?_alloc_at _ _ _ _ spz];rfl) (Bf _ (Bf _ (Bf _ (Bf _ ht0)))) (Fv _ (Bf _ (Bf _ (Bf _ ht0))) (Fv _ (Bf _ (Bf _ ht0)) (Fv _ (Bf _ ht0) (Fv _ ht0 hf0))));go_enter Tryz.func82,Tryz.ntmps82
 go_wp2
 refine wp_loop_rounds 1 ?_;rw[rounds_succ]
 go_wp2
 go_ret;exact⟨rfl,_,blA,rfl⟩
theorem A10 (u v:Value)(t:Addr)(old:Value)(w:World)(ht0:w.cell? t=some old)(hf0:w.frozen? t=false):
  Calls Tryz.prog 82 #[.iface 149 (.agg #[u,v]), .iface 115 (.pointer (some t))] w λev w'=>ev=.returned (.bool true)/\∃w4,Below w.heap.size w w4/\w'=w4.setCell t (.iface 149 (.agg #[u,v])):=by
 have h6:=@run_callFunc_extern Tryz.prog 109 _ (λargs=>ReflectliteValue.unpack (args.getD 0 (.tuple #[]))) Tryz.func109 krz krz krz krz;have h7:=@run_callFunc_extern Tryz.prog 110 _ (ReflectliteValue.methodAny (ReflectliteValue.valueError "reflectlite.Value.Type" 0) (λt _ _ _=>ReflectliteType.toType t)) Tryz.func110 krz krz krz krz;have h8:=@run_callFunc_extern Tryz.prog 111 _ (ReflectliteValue.method (ReflectliteValue.valueError "reflectlite.Value.IsNil" 0) ReflectliteValue.isNil) Tryz.func111 krz krz krz krz;have h27:=@run_callFunc_extern Tryz.prog 198 _ (ReflectliteType.abiMethod λt=>do pure (.int .u8 (<-Rtype.kind t))) Tryz.func198 krz krz krz krz;have h37:=@run_callFunc_extern Tryz.prog 212 _ (ReflectliteType.method ReflectliteType.elem) Tryz.func212 krz krz krz krz;have h10:=@run_callFunc_extern Tryz.prog 124 _ ReflectliteType.typeOf Tryz.func124 krz krz krz krz;have h35:=@run_callFunc_extern Tryz.prog 210 _ (ReflectliteType.relation "AssignableTo" ReflectliteType.assignableTo) Tryz.func210 krz krz krz krz;have h11:=@run_callFunc_extern Tryz.prog 125 _ (ReflectliteValue.method (ReflectliteValue.valueError "reflectlite.Value.Elem" 0) ReflectliteValue.elem) Tryz.func125 krz krz krz krz
 have h12:=@run_callFunc_extern Tryz.prog 126 _ ReflectliteValue.set Tryz.func126 krz krz krz krz;have f6:=Aio;have f7:=Ank;have k1:=Ais;have k2:=Anl;have e1:=Anm;have tO:=Apd;have aB:=Axr;have vB:=At4;have mK:=Agr;have mE:=Ags;have mA:=Alg;have n8:=Ait ⟨w.heap.size,0,none⟩ t ((w.alloc (.cells #[.pointer (some t)] 115)).alloc (.cells #[.pointer (some ⟨3,115,none⟩), .pointer (some ⟨w.heap.size,0,none⟩), .int .u64 150] 136)) (Bf _ spz);have el:=Aiu ⟨w.heap.size,0,none⟩ t (((w.alloc (.cells #[.pointer (some t)] 115)).alloc (.cells #[.pointer (some ⟨3,115,none⟩), .pointer (some ⟨w.heap.size,0,none⟩), .int .u64 150] 136)).alloc (.cells #[.pointer (some ⟨3,115,none⟩), .pointer (some ⟨w.heap.size,0,none⟩), .int .u64 150] 136)) (Bf _ (Bf _ spz));have st:=A0l t ⟨w.heap.size+1+1+1,0,none⟩ u v old ((((w.alloc (.cells #[.pointer (some t)] 115)).alloc (.cells #[.pointer (some ⟨3,115,none⟩), .pointer (some ⟨w.heap.size,0,none⟩), .int .u64 150] 136)).alloc (.cells #[.pointer (some ⟨3,115,none⟩), .pointer (some ⟨w.heap.size,0,none⟩), .int .u64 150] 136)).alloc (.cells #[u,v] 149)) (by simp[go_sem,Addr.add]) (by simp[go_sem,Addr.add]) (Bf _ (Bf _ (Bf _ (Bf _ ht0)))) (Fv _ (Bf _ (Bf _ (Bf _ ht0))) (Fv _ (Bf _ (Bf _ ht0)) (Fv _ (Bf _ ht0) (Fv _ ht0 hf0))));go_enter Tryz.func82,Tryz.ntmps82
 go_wp2
 refine wp_loop_rounds 1 ?_;rw[rounds_succ]
 go_wp2
 go_ret;exact⟨rfl,_,blA,rfl⟩
theorem Ayp (k:Int)(w:World):Calls Tryz.prog 205 #[.int .i64 k] w λe w'=>e=.returned (.agg #[.int .i64 k, .int .i64 0])/\Below w.heap.size w w':=by
 go_enter Tryz.func205,Tryz.ntmps205
 go_wp2
 refine bodyPost_ret (v:=.agg #[.int .i64 k, .int .i64 0]) (by simp[results,Tryz.results205,go_sem]) rfl ⟨rfl,blA⟩
theorem Ayo (k:Int)(j:Nat)(w:World)(hg:Et w):Calls Tryz.prog 208 #[.agg #[.int .i64 j, .iface 146 (.int .i64 k)]] w λe w'=>e=.returned (.agg #[.int .i64 k, .int .i64 j])/\Below w.heap.size w w':=by
 have HG:=hid (λW (h:Below w.heap.size w W)=>hg.below h);clear hg;go_enter Tryz.func208,Tryz.ntmps208
 go_wp2_with (go_at_call 82;refine(A11 k ⟨w.heap.size+1+1,0,none⟩ (.int .i64 0) _ (HG _ blA) (by simp[go_sem]) (by simp[go_sem])).mono ?_;rintro e w1 ⟨rfl,w4,hb4,rfl⟩;have c0:w4.cell? ⟨w.heap.size,0,none⟩=some (.int .i64 j):=(by rw[hb4.cell (p:=⟨w.heap.size,0,none⟩) (by simp;omega)];simp[go_sem]);have c1:w4.cell? ⟨w.heap.size+1,0,none⟩=some (.int .i64 0):=(clA hb4);have c2:w4.cell? ⟨w.heap.size+1,1,none⟩=some (.int .i64 0):=(clA hb4);have f1:w4.frozen? ⟨w.heap.size+1,0,none⟩=false:=(frA hb4);have f2:w4.frozen? ⟨w.heap.size+1,1,none⟩=false:=(frA hb4);have c3:w4.cell? ⟨w.heap.size+1+1,0,none⟩=some (.int .i64 0):=(clA hb4))
 refine bodyPost_ret (v:=.agg #[.int .i64 k, .int .i64 j]) (by simp[results,Tryz.results208,go_sem,c1,c2]) rfl ⟨rfl,blA⟩
theorem Ae5 (l:List Stil.Arm)(k:Nat):¬0<(Ed l k).1->Ed l k=(0,0):=by
 induction l generalizing k with
 | nil=>intro _;rfl
 | cons x r ih=>
  intro h;rw[Ed] at h ⊢;split
  ·rename_i hx;rw[if_pos hx] at h;exact absurd hx h
  ·rename_i hx;rw[if_neg hx] at h;exact ih _ h
theorem At9 (v:Value)(w:World):(Go.method 348 146 v "loop.example/stilway/impl.fault").run Tryz.prog w=.ok (205,v) w:=krz
theorem At8 (u v:Value)(w:World):(Go.method 348 149 (.agg #[u,v]) "loop.example/stilway/impl.fault").run Tryz.prog w=.ok (208, .agg #[u,v]) w:=krz
theorem Amb (l:List Stil.Arm)(kv:Value)(w:World)(hr:Es w)(hg:Et w)(hkv:Dj w kv l)(hl:l.length<=1048576)(hsz:Ce l<=1000000000)(hft:∀x∈l,Ci x):
  Calls Tryz.prog 55 #[kv] w λe w'=>e=.returned (.agg #[.int .i64 (Bo l).1, .int .i64 (Bo l).2])/\Below w.heap.size w w':=by
 have HL:=hid (λW hW=>Aqf l kv W (hr.below hW) (hkv.below hW) hl hsz hft);have HG:=hid (λW (h:Below w.heap.size w W)=>hg.below h);have HF:=hid (Ae5 l 0);have HT:Hid (Bo l=if 40<l.length\/400<Ce l then(1,0) else Ed l 0):=rfl;obtain⟨a,cap,rfl,_⟩:=hkv;have mB:=At9;have mR:=At8;obtain⟨ln,hln⟩:∃ln,ln=l.length:=⟨_,rfl⟩
 obtain⟨z,hz⟩:∃z,z=Ce l:=⟨_,rfl⟩
 obtain⟨Q,hQ⟩:∃Q,Q=Ed l 0:=⟨_,rfl⟩
 obtain⟨R,hR⟩:∃R,R=Bo l:=⟨_,rfl⟩
 rw[<-hln] at HL HT hl ⊢;rw[<-hz] at HL HT;rw[<-hQ] at HL HT HF;rw[<-hR] at HT ⊢;clear hln hz hQ hR hr hg hft hsz;by_cases h1:40<ln\/400<z
 ·have HX:Hid (R=(1,0)):=by show _=_;rw[HT.out,if_pos h1]
  rw[decide_eq_true h1] at HL;have iy:Hid (∀W,Below w.heap.size w W->Calls Tryz.prog 83 #[.slice a ln cap] W λe w'=>e=.returned (.iface 146 (.int .i64 1))/\Below W.heap.size W w'):=HL;clear HL HT h1 HF;go_enter Tryz.func55,Tryz.ntmps55
  go_wp2_with (first | (go_at_call 83;refine(iy _ blA).mono ?_;rintro e w1 ⟨rfl,hb1⟩;have c1:w1.cell? ⟨w.heap.size+1,0,none⟩=some .nilIface:=(clA hb1);have f1:w1.frozen? ⟨w.heap.size+1,0,none⟩=false:=(frA hb1);have r0:w1.cell? ⟨w.heap.size,0,none⟩=some (.int .i64 0):=(by rw[hb1.cell (p:=⟨w.heap.size,0,none⟩) (by simp;omega)];simp[go_sem]);have q0:w1.frozen? ⟨w.heap.size,0,none⟩=false:=(by rw[hb1.frozen (p:=⟨w.heap.size,0,none⟩) (by simp;omega)];simp[go_sem]);have r1:w1.cell? ⟨w.heap.size,1,none⟩=some (.int .i64 0):=(by rw[hb1.cell (p:=⟨w.heap.size,1,none⟩) (by simp;omega)];simp[go_sem]);have q1:w1.frozen? ⟨w.heap.size,1,none⟩=false:=(by rw[hb1.frozen (p:=⟨w.heap.size,1,none⟩) (by simp;omega)];simp[go_sem])) | (go_at_call 82;refine(A12 1 ⟨w.heap.size+1,0,none⟩ .nilIface _ c1 f1).mono ?_;rintro e w2 ⟨rfl,w4,hb4,rfl⟩;have c4:=(hb4.cell (Ee c1)).trans c1;have s0:=(hb4.cell (Ee r0)).trans r0;have p0:=(hb4.frozen (Ee r0)).trans q0;have s1:=(hb4.cell (Ee r1)).trans r1;have p1:=(hb4.frozen (Ee r1)).trans q1) | (go_at_call 205;refine(Ayp _ _).mono ?_;rintro e w5 ⟨rfl,hb5⟩;have t0:=(hb5.cell (p:=⟨w.heap.size,0,none⟩) (A37 (Ee s0) (F9 _ _ _))).trans ((Ba omz).trans s0);have g0:w5.frozen? ⟨w.heap.size,0,none⟩=false:=(hb5.frozen (p:=⟨w.heap.size,0,none⟩) (A37 (Ee s0) (F9 _ _ _))).trans (by rw[World.frozen?_setCell];exact p0);have t1:=(hb5.cell (p:=⟨w.heap.size,1,none⟩) (A37 (Ee s1) (F9 _ _ _))).trans ((Ba omz).trans s1);have g1:w5.frozen? ⟨w.heap.size,1,none⟩=false:=(hb5.frozen (p:=⟨w.heap.size,1,none⟩) (A37 (Ee s1) (F9 _ _ _))).trans (by rw[World.frozen?_setCell];exact p1)))
  refine bodyPost_ret (v:=.agg #[.int .i64 1, .int .i64 0]) (by simp[results,Tryz.results55,go_sem,t0,t1]) rfl ⟨by rw[HX.out];rfl,blA⟩
 ·rw[decide_eq_false h1] at HL
  have HT2:Hid (R=Q):=by show _=_;rw[HT.out,if_neg h1]
  clear HT h1;by_cases hq:0<Q.1
  ·have HX:=hid HT2.out
   have iy:Hid (∀W,Below w.heap.size w W->Calls Tryz.prog 83 #[.slice a ln cap] W λe w'=>e=.returned (.iface 149 (.agg #[.int .i64 Q.2, .iface 146 (.int .i64 Q.1)]))/\Below W.heap.size W w'):=λW hW=>(HL W hW).mono λe w' ⟨he,hb⟩=>⟨by rw[he];unfold lookOf;simp[hq],hb⟩
   clear HL hq HF;go_enter Tryz.func55,Tryz.ntmps55
   go_wp2_with (first | (go_at_call 83;refine(iy _ blA).mono ?_;rintro e w1 ⟨rfl,hb1⟩;have c1:w1.cell? ⟨w.heap.size+1,0,none⟩=some .nilIface:=(clA hb1);have f1:w1.frozen? ⟨w.heap.size+1,0,none⟩=false:=(frA hb1);have r0:w1.cell? ⟨w.heap.size,0,none⟩=some (.int .i64 0):=(by rw[hb1.cell (p:=⟨w.heap.size,0,none⟩) (by simp;omega)];simp[go_sem]);have q0:w1.frozen? ⟨w.heap.size,0,none⟩=false:=(by rw[hb1.frozen (p:=⟨w.heap.size,0,none⟩) (by simp;omega)];simp[go_sem]);have r1:w1.cell? ⟨w.heap.size,1,none⟩=some (.int .i64 0):=(by rw[hb1.cell (p:=⟨w.heap.size,1,none⟩) (by simp;omega)];simp[go_sem]);have q1:w1.frozen? ⟨w.heap.size,1,none⟩=false:=(by rw[hb1.frozen (p:=⟨w.heap.size,1,none⟩) (by simp;omega)];simp[go_sem])) | (go_at_call 82;refine(A10 _ _ ⟨w.heap.size+1,0,none⟩ .nilIface _ c1 f1).mono ?_;rintro e w2 ⟨rfl,w4,hb4,rfl⟩;have c4:=(hb4.cell (Ee c1)).trans c1;have s0:=(hb4.cell (Ee r0)).trans r0;have p0:=(hb4.frozen (Ee r0)).trans q0;have s1:=(hb4.cell (Ee r1)).trans r1;have p1:=(hb4.frozen (Ee r1)).trans q1) | (go_at_call 208;refine(Ayo _ _ _ (HG _ blA)).mono ?_;rintro e w5 ⟨rfl,hb5⟩;have t0:=(hb5.cell (p:=⟨w.heap.size,0,none⟩) (A37 (Ee s0) (F9 _ _ _))).trans ((Ba omz).trans s0);have g0:w5.frozen? ⟨w.heap.size,0,none⟩=false:=(hb5.frozen (p:=⟨w.heap.size,0,none⟩) (A37 (Ee s0) (F9 _ _ _))).trans (by rw[World.frozen?_setCell];exact p0);have t1:=(hb5.cell (p:=⟨w.heap.size,1,none⟩) (A37 (Ee s1) (F9 _ _ _))).trans ((Ba omz).trans s1);have g1:w5.frozen? ⟨w.heap.size,1,none⟩=false:=(hb5.frozen (p:=⟨w.heap.size,1,none⟩) (A37 (Ee s1) (F9 _ _ _))).trans (by rw[World.frozen?_setCell];exact p1)))
   refine bodyPost_ret (v:=.agg #[.int .i64 Q.1, .int .i64 Q.2]) (by simp[results,Tryz.results55,go_sem,t0,t1]) rfl ⟨by rw[HX.out],blA⟩
  ·have HX:Hid (R=(0,0)):=by show _=_;rw[HT2.out];exact HF hq
   have iy:Hid (∀W,Below w.heap.size w W->Calls Tryz.prog 83 #[.slice a ln cap] W λe w'=>e=.returned .nilIface/\Below W.heap.size W w'):=λW hW=>(HL W hW).mono λe w' ⟨he,hb⟩=>⟨by rw[he];unfold lookOf;simp[hq],hb⟩
   clear HL hq HF HT2;go_enter Tryz.func55,Tryz.ntmps55
   go_wp2_with (first | (go_at_call 83;refine(iy _ blA).mono ?_;rintro e w1 ⟨rfl,hb1⟩;have t0:w1.cell? ⟨w.heap.size,0,none⟩=some (.int .i64 0):=(by rw[hb1.cell (p:=⟨w.heap.size,0,none⟩) (by simp;omega)];simp[go_sem]);have q0:w1.frozen? ⟨w.heap.size,0,none⟩=false:=(by rw[hb1.frozen (p:=⟨w.heap.size,0,none⟩) (by simp;omega)];simp[go_sem]);have t1:w1.cell? ⟨w.heap.size,1,none⟩=some (.int .i64 0):=(by rw[hb1.cell (p:=⟨w.heap.size,1,none⟩) (by simp;omega)];simp[go_sem]);have q1:w1.frozen? ⟨w.heap.size,1,none⟩=false:=(by rw[hb1.frozen (p:=⟨w.heap.size,1,none⟩) (by simp;omega)];simp[go_sem])) | (go_at_call 82;refine(as_nil _ _).mono ?_;rintro e w2 ⟨rfl,rfl⟩))
   refine bodyPost_ret (v:=.agg #[.int .i64 0, .int .i64 0]) (by simp[results,Tryz.results55,go_sem,t0,t1]) rfl ⟨by rw[HX.out];rfl,blA⟩
end Go.Proofs.YtbfljjcnbbmoaaaGreatDoor
