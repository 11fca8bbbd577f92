import Derived.Stop.Asserts
import Derived.Test.YtmnnkedjoecehaaGreatDoorGX
set_option linter.defProp false
set_option maxHeartbeats 4000000
set_option maxRecDepth 100000
namespace Go.Proofs.YtmnnkedjoecehaaGreatDoor
open Tryz Stil Go.RowKit Go.Extern.Stop Go.Stop Go.Extern
theorem as_nil (t:Value)(w:World):Calls prog 52 #[.nilIface,t] w λe a=>e=.returned (.bool false)/\a=w:=by
 go_enter func52,ntmps52
 go_wp2
 go_ret;exact⟨rfl,rfl⟩
abbrev tpv (t:Nat):Value:=.pointer (some ⟨4,t,none⟩)
abbrev tyv (t:Nat):Value:=.iface 151 (.agg #[tpv t])
abbrev rfv (t:Nat)(a:Addr)(f:Int):Value:=.agg #[tpv t, .pointer (some a), .int .u64 f]
structure AsT (pt et:Nat)(ef kd:Int):Prop where
 v1:∀(t:Addr) (w:World),(ReflectliteValue.unpack (.iface pt (.pointer (some t)))).run prog w=.ok (rfv pt ⟨w.heap.size,0,none⟩ 150) (w.alloc (.cells #[.pointer (some t)] pt))
 v2:∀(a:Addr) (w:World),(ReflectliteValue.methodAny (ReflectliteValue.valueError "reflectlite.Value.Type" 0) (λt _ _ _=>ReflectliteType.toType t) #[rfv pt a 150]).run prog w=.ok (tyv pt) w
 k1:∀w:World,((ReflectliteType.abiMethod λt=>(λa:Nat=>Value.int IntKind.u8 (a:Int))<$>Rtype.kind t) #[tpv pt]).run prog w=.ok (.int .u8 22) w
 k2:∀w:World,((ReflectliteType.abiMethod λt=>(λa:Nat=>Value.int IntKind.u8 (a:Int))<$>Rtype.kind t) #[tpv et]).run prog w=.ok (.int .u8 kd) w
 e1:∀w:World,(ReflectliteType.method ReflectliteType.elem #[.agg #[tpv pt]]).run prog w=.ok (tyv et) w
 pp:∀(a:Addr) (w:World),(ReflectliteValue.parts (rfv pt a 150)).run prog w=.ok (some (pt,a,150)) w
 un:prog.underlying pt=some (.pointer et)
 eo:∀w:World,(Rtype.elem? pt).run prog w=.ok (some et) w
 mq:∀(p:Addr) (w:World),(ReflectliteValue.mk et p ReflectliteValue.flagAddr).run prog w=.ok (rfv et p ef) w
structure AsS (et st:Nat)(sv:Value)(cs:Array Value)(sf:Int):Prop where
 tO:∀w:World,(ReflectliteType.typeOf #[.iface st sv]).run prog w=.ok (tyv st) w
 aB:∀w:World,(ReflectliteType.relation "AssignableTo" ReflectliteType.assignableTo #[.agg #[tpv st],tyv et]).run prog w=.ok (.bool true) w
 vB:∀w:World,(ReflectliteValue.unpack (.iface st sv)).run prog w=.ok (rfv st ⟨w.heap.size,0,none⟩ sf) (w.alloc (.cells cs st))
def AsW (et st:Nat)(ef sf:Int)(cs:Array Value)(out:Value):Prop:=∀(W:World) (a:Addr) (old:Value),(W.alloc (.cells cs st)).cell? a=some old->(W.alloc (.cells cs st)).frozen? a=false->(ReflectliteValue.set #[rfv et a ef,rfv st ⟨W.heap.size,0,none⟩ sf]).run prog (W.alloc (.cells cs st))=.ok (.tuple #[]) ((W.alloc (.cells cs st)).setCell a out)
section
variable {pt et st:Nat}{ef sf kd:Int}{sv out:Value}{cs:Array Value}
def AsT.isNil (T:AsT pt et ef kd)(a p:Addr)(W:World)(b:W.cell? a=some (.pointer (some p))):(ReflectliteValue.method (ReflectliteValue.valueError "reflectlite.Value.IsNil" 0) ReflectliteValue.isNil #[rfv pt a 150]).run prog W=.ok (.bool false) W:=by
 change Sem.run _ (ReflectliteValue.parts (rfv pt a 150)>>=_) _=_;simp only[Sem.run_bind,T.pp,Result.andThen];simp[ReflectliteValue.isNil,loadVar,isAgg,underlying,T.un,b,Result.andThen]
theorem AsT.elem (T:AsT pt et ef kd)(a p:Addr)(W:World)(b:W.cell? a=some (.pointer (some p))):(ReflectliteValue.method (ReflectliteValue.valueError "reflectlite.Value.Elem" 0) ReflectliteValue.elem #[rfv pt a 150]).run prog W=.ok (rfv et p ef) W:=by
 change Sem.run _ (ReflectliteValue.parts (rfv pt a 150)>>=_) _=_;simp only[Sem.run_bind,T.pp,Result.andThen];simp[ReflectliteValue.elem,loadVar,isAgg,underlying,T.un,b,Result.andThen,T.eo,T.mq]
end
variable {W:World}{v:Value}
def ZV (h:Value)(w:World):(Go.method 354 151 (.agg #[h]) "Kind").run prog w=.ok (210,h) w:=AX
def ZW (h:Value)(w:World):(Go.method 354 151 (.agg #[h]) "Elem").run prog w=.ok (225, .agg #[h]) w:=AX
def hU (h:Value)(w:World):(Go.method 354 151 (.agg #[h]) "Implements").run prog w=.ok (226, .agg #[h]) w:=AX
def eT (h:Value)(w:World):(Go.method 354 151 (.agg #[h]) "AssignableTo").run prog w=.ok (223, .agg #[h]) w:=AX
theorem Eu {t:Addr}(h:W.cell? t=some v):t.block<W.heap.size:=by
 rcases E4 t.block W.heap.size with a | a
 ·exact a
 ·simp[World.cell?,M7 a] at h
def Dv {t:Addr}(ob:Obj)(h:W.cell? t=some v):(W.alloc ob).cell? t=some v:=((Aa W ob).cell (Eu h)).trans h
theorem Jm {t:Addr}(ob:Obj)(h:W.cell? t=some v)(a:W.frozen? t=false):(W.alloc ob).frozen? t=false:=((Aa W ob).frozen (Eu h)).trans a
section
variable {pt et st:Nat}{ef sf kd:Int}{sv out:Value}{cs:Array Value}
theorem SD (T:AsT pt et ef 20)(S:AsS et st sv cs sf)(U:AsW et st ef sf cs out)(t:Addr)(old:Value)(w:World)(a:w.cell? t=some old)(e:w.frozen? t=false):
  Calls prog 52 #[.iface st sv, .iface pt (.pointer (some t))] w λd c=>d=.returned (.bool true)/\∃b,AO w b/\c=b.setCell t out:=by
 have f:=@run_callFunc_extern prog 82 _ (λargs=>ReflectliteValue.unpack (args.getD 0 (.tuple #[]))) func82 AX AX AX AX;have A:=@run_callFunc_extern prog 83 _ (ReflectliteValue.methodAny (ReflectliteValue.valueError "reflectlite.Value.Type" 0) (λt _ _ _=>ReflectliteType.toType t)) func83 AX AX AX AX;have x:=@run_callFunc_extern prog 84 _ (ReflectliteValue.method (ReflectliteValue.valueError "reflectlite.Value.IsNil" 0) ReflectliteValue.isNil) func84 AX AX AX AX;have y:=@run_callFunc_extern prog 210 _ (ReflectliteType.abiMethod λt=>do pure (.int .u8 (<-Rtype.kind t))) func210 AX AX AX AX;have q:=@run_callFunc_extern prog 225 _ (ReflectliteType.method ReflectliteType.elem) func225 AX AX AX AX;have B:=@run_callFunc_extern prog 120 _ (ReflectliteType.typeOf) func120 AX AX AX AX;have u:=@run_callFunc_extern prog 223 _ (ReflectliteType.relation "AssignableTo" ReflectliteType.assignableTo) func223 AX AX AX AX;have m:=@run_callFunc_extern prog 121 _ (ReflectliteValue.method (ReflectliteValue.valueError "reflectlite.Value.Elem" 0) ReflectliteValue.elem) func121 AX AX AX AX
 have l:=@run_callFunc_extern prog 122 _ (ReflectliteValue.set) func122 AX AX AX AX;have z:=T.v1;have s:=T.v2;have F:=T.k1;have g:=T.k2;have D:=T.e1;have k:=S.tO;have j:=S.aB;have i:=S.vB;have E:=ZV;have G:=ZW;have o:=eT;have C:=T.isNil (AL w 0) t ((w.alloc (.cells #[.pointer (some t)] pt)).alloc (.cells #[tpv pt,AH w.heap.size, .int .u64 150] 119)) (Dv _ AU);have r:=T.elem (AL w 0) t (((w.alloc (.cells #[.pointer (some t)] pt)).alloc (.cells #[tpv pt,AH w.heap.size, .int .u64 150] 119)).alloc (.cells #[tpv pt,AH w.heap.size, .int .u64 150] 119)) (Dv _ (Dv _ AU));have st:=U (((w.alloc (.cells #[.pointer (some t)] pt)).alloc (.cells #[tpv pt,AH w.heap.size, .int .u64 150] 119)).alloc (.cells #[tpv pt,AH w.heap.size, .int .u64 150] 119)) t old (Dv _ (Dv _ (Dv _ (Dv _ a)))) (Jm _ (Dv _ (Dv _ (Dv _ a))) (Jm _ (Dv _ (Dv _ a)) (Jm _ (Dv _ a) (Jm _ a e))));simp only[World.size_alloc] at st;go_enter func52,ntmps52
 go_wp2
 refine wp_loop_rounds 1 ?_;rw[rounds_succ]
 go_wp2
 go_ret;exact⟨rfl,_,AW,rfl⟩
theorem mL (T:AsT pt et ef kd)(S:AsS et st sv cs sf)(U:AsW et st ef sf cs out)(d:(kd==20)=false)(G:∀w:World,(ReflectliteType.relation "Implements" ReflectliteType.implements_ #[.agg #[tpv et],tyv 87]).run prog w=.ok (.bool true) w)(t:Addr)(old:Value)(w:World)(hg:w.cell? (AK 0 0)=some (tyv 87))(a:w.cell? t=some old)(f:w.frozen? t=false):
  Calls prog 52 #[.iface st sv, .iface pt (.pointer (some t))] w λe c=>e=.returned (.bool true)/\∃b,AO w b/\c=b.setCell t out:=by
 have g:=@run_callFunc_extern prog 226 _ (ReflectliteType.relation "Implements" ReflectliteType.implements_) func226 AX AX AX AX;have l:=hU;have E:((w.alloc (.cells #[.pointer (some t)] pt)).alloc (.cells #[tpv pt,AH w.heap.size, .int .u64 150] 119)).cell? (AK 0 0)=some (tyv 87):=Dv _ (Dv _ hg);have u:(kd !=20)=true:=by simp[bne,d]
 have i:=@run_callFunc_extern prog 82 _ (λargs=>ReflectliteValue.unpack (args.getD 0 (.tuple #[]))) func82 AX AX AX AX;have F:=@run_callFunc_extern prog 83 _ (ReflectliteValue.methodAny (ReflectliteValue.valueError "reflectlite.Value.Type" 0) (λt _ _ _=>ReflectliteType.toType t)) func83 AX AX AX AX;have B:=@run_callFunc_extern prog 84 _ (ReflectliteValue.method (ReflectliteValue.valueError "reflectlite.Value.IsNil" 0) ReflectliteValue.isNil) func84 AX AX AX AX;have C:=@run_callFunc_extern prog 210 _ (ReflectliteType.abiMethod λt=>do pure (.int .u8 (<-Rtype.kind t))) func210 AX AX AX AX;have x:=@run_callFunc_extern prog 225 _ (ReflectliteType.method ReflectliteType.elem) func225 AX AX AX AX;have H:=@run_callFunc_extern prog 120 _ (ReflectliteType.typeOf) func120 AX AX AX AX;have A:=@run_callFunc_extern prog 223 _ (ReflectliteType.relation "AssignableTo" ReflectliteType.assignableTo) func223 AX AX AX AX;have r:=@run_callFunc_extern prog 121 _ (ReflectliteValue.method (ReflectliteValue.valueError "reflectlite.Value.Elem" 0) ReflectliteValue.elem) func121 AX AX AX AX
 have q:=@run_callFunc_extern prog 122 _ (ReflectliteValue.set) func122 AX AX AX AX;have D:=T.v1;have z:=T.v2;have L:=T.k1;have j:=T.k2;have J:=T.e1;have o:=S.tO;have m:=S.aB;have k:=S.vB;have K:=ZV;have M:=ZW;have s:=eT;have I:=T.isNil (AL w 0) t ((w.alloc (.cells #[.pointer (some t)] pt)).alloc (.cells #[tpv pt,AH w.heap.size, .int .u64 150] 119)) (Dv _ AU);have y:=T.elem (AL w 0) t (((w.alloc (.cells #[.pointer (some t)] pt)).alloc (.cells #[tpv pt,AH w.heap.size, .int .u64 150] 119)).alloc (.cells #[tpv pt,AH w.heap.size, .int .u64 150] 119)) (Dv _ (Dv _ AU));have st:=U (((w.alloc (.cells #[.pointer (some t)] pt)).alloc (.cells #[tpv pt,AH w.heap.size, .int .u64 150] 119)).alloc (.cells #[tpv pt,AH w.heap.size, .int .u64 150] 119)) t old (Dv _ (Dv _ (Dv _ (Dv _ a)))) (Jm _ (Dv _ (Dv _ (Dv _ a))) (Jm _ (Dv _ (Dv _ a)) (Jm _ (Dv _ a) (Jm _ a f))));simp only[World.size_alloc] at st;go_enter func52,ntmps52
 go_wp2
 refine wp_loop_rounds 1 ?_;rw[rounds_succ]
 go_wp2
 go_ret;exact⟨rfl,_,AW,rfl⟩
end
def m6:AsT 240 130 386 2:=⟨λ_ _=>by kernel_rfl,λ_ _=>by kernel_rfl,λ_=>by kernel_rfl,λ_=>by kernel_rfl,λ_=>by kernel_rfl,λ_ _=>by kernel_rfl,underlying240,λ_=>by kernel_rfl,λ_ _=>by kernel_rfl⟩
theorem kA (k:Int):AsW 130 130 386 130 #[AB k] (AB k):=by
 intro W a old b f;have g:(W.alloc (.cells #[AB k] 130)).cell? (AL W 0)=some (AB k):=AU
 have c:∀w:World,(Rtype.directlyAssignable 130 130).run prog w=.ok true w:=λ_=>by kernel_rfl
 have d:∀w:World,(ReflectliteValue.parts (rfv 130 a 386)).run prog w=.ok (some (130,a,386)) w:=λ_=>by kernel_rfl
 have e:∀w:World,(ReflectliteValue.parts (rfv 130 (AL W 0) 130)).run prog w=.ok (some (130,(AL W 0),130)) w:=λ_=>by kernel_rfl
 change Sem.run _ (ReflectliteValue.parts (rfv 130 a 386)>>=λp=>ReflectliteValue.parts (rfv 130 (AL W 0) 130)>>=_) _=_;simp only[Sem.run_bind,d,e,Result.andThen];simp[ReflectliteValue.flagAddr,loadVar,isAgg,underlying,underlying130,g,Result.andThen,c,storeVar,Value.cells,storeCells,Addr.add];rw[run_store prog _ a _ _ Ab];simp[b,f]
def mN (k:Int)(t:Addr)(old:Value)(w:World)(hg:w.cell? (AK 0 0)=some (.iface 151 (.agg #[.pointer (some (AK 4 87))])))(c:w.cell? t=some old)(b:w.frozen? t=false):
  Calls prog 52 #[.iface 130 (AB k), .iface 240 (.pointer (some t))] w λe d=>e=.returned (.bool true)/\∃a,AO w a/\d=a.setCell t (AB k):=mL m6 ⟨λ_=>by kernel_rfl,λ_=>by kernel_rfl,λ_=>by kernel_rfl⟩ (kA k) AY (λ_=>by kernel_rfl) t old w hg c b
open Go.Sort Go.BigFrame
def Ff (w:World):Prop:=w.cell? ⟨0,0,none⟩=some (.iface 151 (.agg #[.pointer (some ⟨4,87,none⟩)]))
def Ff.below {w w':World}(h:Ff w)(a:AO w w'):Ff w':=(a.cell (Eu h)).trans h
def ZH:AsT 89 84 404 20:=⟨λ_ _=>by kernel_rfl,λ_ _=>by kernel_rfl,λ_=>by kernel_rfl,λ_=>by kernel_rfl,λ_=>by kernel_rfl,λ_ _=>by kernel_rfl,underlying89,λ_=>by kernel_rfl,λ_ _=>by kernel_rfl⟩
theorem my (k:Int):AsW 84 130 404 130 #[AB k] (.iface 130 (AB k)):=by
 intro W a old b f;have i:(W.alloc (.cells #[AB k] 130)).cell? (AL W 0)=some (AB k):=AU
 have c:∀w:World,(Rtype.directlyAssignable 84 130).run prog w=.ok false w:=λ_=>by kernel_rfl
 have g:∀w:World,(Rtype.implements 84 130).run prog w=.ok true w:=λ_=>by kernel_rfl
 have j:∀w:World,(Rtype.kind 130).run prog w=.ok 2 w:=λ_=>by kernel_rfl
 have d:∀w:World,(ReflectliteValue.parts (rfv 84 a 404)).run prog w=.ok (some (84,a,404)) w:=λ_=>by kernel_rfl
 have e:∀w:World,(ReflectliteValue.parts (rfv 130 (AL W 0) 130)).run prog w=.ok (some (130,(AL W 0),130)) w:=λ_=>by kernel_rfl
 change Sem.run _ (ReflectliteValue.parts (rfv 84 a 404)>>=λp=>ReflectliteValue.parts (rfv 130 (AL W 0) 130)>>=_) _=_;simp only[Sem.run_bind,d,e,Result.andThen];simp[ReflectliteValue.flagAddr,loadVar,isAgg,underlying,underlying130,i,Result.andThen,c,g,j,storeVar,Value.cells,storeCells,Addr.add];rw[run_store prog _ a _ _ Ab];simp[b,f]
theorem j9 (u v:Value):AsW 84 133 404 153 #[u,v] (.iface 133 (.agg #[u,v])):=by
 intro W a old b f;have i:(loadCells (AL W 0) 2).run prog (W.alloc (.cells #[u,v] 133))=.ok #[u,v] (W.alloc (.cells #[u,v] 133)):=run_loadCells_list _ _ [u,v] (Il W [u,v] _ _ rfl);have c:∀w:World,(Rtype.directlyAssignable 84 133).run prog w=.ok false w:=λ_=>by kernel_rfl
 have g:∀w:World,(Rtype.implements 84 133).run prog w=.ok true w:=λ_=>by kernel_rfl
 have j:∀w:World,(Rtype.kind 133).run prog w=.ok 25 w:=λ_=>by kernel_rfl
 have d:∀w:World,(ReflectliteValue.parts (rfv 84 a 404)).run prog w=.ok (some (84,a,404)) w:=λ_=>by kernel_rfl
 have e:∀w:World,(ReflectliteValue.parts (rfv 133 (AL W 0) 153)).run prog w=.ok (some (133,(AL W 0),153)) w:=λ_=>by kernel_rfl
 change Sem.run _ (ReflectliteValue.parts (rfv 84 a 404)>>=λp=>ReflectliteValue.parts (rfv 133 (AL W 0) 153)>>=_) _=_;simp only[Sem.run_bind,d,e,Result.andThen];simp[ReflectliteValue.flagAddr,loadVar,isAgg,underlying,underlying133,i,Result.andThen,c,g,j,storeVar,Value.cells,storeCells,Addr.add];rw[run_store prog _ a _ _ Ab];simp[b,f]
def mS (k:Int)(t:Addr)(old:Value)(w:World)(c:w.cell? t=some old)(b:w.frozen? t=false):
  Calls prog 52 #[.iface 130 (AB k), .iface 89 (.pointer (some t))] w λe d=>e=.returned (.bool true)/\∃a,AO w a/\d=a.setCell t (.iface 130 (AB k)):=SD ZH ⟨λ_=>by kernel_rfl,λ_=>by kernel_rfl,λ_=>by kernel_rfl⟩ (my k) t old w c b
def mK (u v:Value)(t:Addr)(old:Value)(w:World)(c:w.cell? t=some old)(b:w.frozen? t=false):
  Calls prog 52 #[.iface 133 (.agg #[u,v]), .iface 89 (.pointer (some t))] w λe d=>e=.returned (.bool true)/\∃a,AO w a/\d=a.setCell t (.iface 133 (.agg #[u,v])):=SD ZH ⟨λ_=>by kernel_rfl,λ_=>by kernel_rfl,λ_=>by kernel_rfl⟩ (j9 u v) t old w c b
theorem i4 (k:Int)(w:World):Calls prog 218 #[AB k] w (AN w (.agg #[AB k,AB 0])):=by
 go_enter func218,ntmps218
 go_wp2
 refine bodyPost_ret (v:=.agg #[AB k,AB 0]) (by simp[results,results218,go_sem]) rfl ⟨rfl,AW⟩
theorem i3 (k:Int)(j:Nat)(w:World)(hg:Ff w):Calls prog 221 #[.agg #[.int .i64 j, .iface 130 (.int .i64 k)]] w λe g=>e=.returned (.agg #[.int .i64 k, .int .i64 j])/\Below w.heap.size w g:=by
 have i:=AV (λW (h:Below w.heap.size w W)=>hg.below h);clear hg;go_enter func221,ntmps221
 go_wp2_with (go_at_call 52;refine(mN k ⟨w.heap.size+1+1,0,none⟩ (.int .i64 0) _ (i _ AW) (by simp[go_sem]) (by simp[go_sem])).mono ?_;rintro e r ⟨rfl,b,c,rfl⟩;have o:b.cell? ⟨w.heap.size,0,none⟩=some (.int .i64 j):=(by rw[c.cell (p:=⟨w.heap.size,0,none⟩) Ax];simp[go_sem]);have d:b.cell? ⟨w.heap.size+1,0,none⟩=some (.int .i64 0):=(A0 c);have f:b.cell? ⟨w.heap.size+1,1,none⟩=some (.int .i64 0):=(A0 c);have q:b.frozen? ⟨w.heap.size+1,0,none⟩=false:=(A5 c);have l:b.frozen? ⟨w.heap.size+1,1,none⟩=false:=(A5 c);have m:b.cell? ⟨w.heap.size+1+1,0,none⟩=some (.int .i64 0):=(A0 c))
 refine bodyPost_ret (v:=.agg #[.int .i64 k, .int .i64 j]) (by simp[results,results221,go_sem,d,f]) rfl ⟨rfl,AW⟩
theorem qN (l:List Stil.B9)(k:Nat):¬0<(Dx l k).1->Dx l k=(0,0):=by
 induction l generalizing k with
 | nil=>intro _;rfl
 | cons x r b=>
  intro h;rw[Dx] at h ⊢;split
  ·rename_i a;rw[if_pos a] at h;exact absurd a h
  ·rename_i a;rw[if_neg a] at h;exact b _ h
def Ayl (v:Value)(w:World):(Go.method 354 130 v "loop.example/stilway/impl.fault").run prog w=.ok (218,v) w:=AX
def Ayk (u v:Value)(w:World):(Go.method 354 133 (.agg #[u,v]) "loop.example/stilway/impl.fault").run prog w=.ok (221, .agg #[u,v]) w:=AX
theorem va (l:List Stil.B9)(G:Value)(w:World)(hr:Ep w)(hg:Ff w)(O:E8 w G l)(hl:l.length<=1048576)(N:Aw l<=1000000000)(S:∀x∈l,Dh x):
  Calls prog 26 #[G] w (AN w (.agg #[AB (Ah l).1,AB (Ah l).2])):=by
 have d:=AV (λW s=>Avc l G W (hr.below s) (O.below s) hl N S);have Z:=AV (λW (h:AO w W)=>hg.below h);have E:=AV (qN l 0);have j:Hid (Ah l=if 40<l.length\/400<Aw l then(1,0) else Dx l 0):=rfl;obtain⟨a,cap,rfl,_⟩:=O;have mB:=Ayl;have mR:=Ayk;obtain⟨t,T⟩:=AA l.length
 obtain⟨z,U⟩:=AA (Aw l)
 obtain⟨Q,P⟩:=AA (Dx l 0)
 obtain⟨R,M⟩:=AA (Ah l)
 rw[<-T] at d j hl ⊢;rw[<-U] at d j;rw[<-P] at d j E;rw[<-M] at j ⊢;clear T U P M hr hg S N;by_cases h1:40<t\/400<z
 ·have A:Hid (R=(1,0)):=by show _=_;rw[j.out,if_pos h1]
  rw[JP h1] at d;have C:Hid (∀W,AO w W->Calls prog 53 #[AE a t cap] W (AN W (.iface 130 (AB 1)))):=d;clear d j h1 E;go_enter func26,ntmps26
  go_wp2_with (first | (go_at_call 53;refine(C _ AW).mono ?_;rintro e b ⟨rfl,c⟩;have r:b.cell? (AK (w.heap.size+1) 0)=some .nilIface:=(A0 c);have L:b.frozen? (AK (w.heap.size+1) 0)=false:=(A5 c);have o:b.cell? (AL w 0)=some (AB 0):=(by rw[c.cell (p:=(AL w 0)) Ax];simp[go_sem]);have F:b.frozen? (AL w 0)=false:=(by rw[c.frozen (p:=(AL w 0)) Ax];simp[go_sem]);have k:b.cell? (AL w 1)=some (AB 0):=(by rw[c.cell (p:=(AL w 1)) Ax];simp[go_sem]);have q1:b.frozen? (AL w 1)=false:=(by rw[c.frozen (p:=(AL w 1)) Ax];simp[go_sem])) | (go_at_call 52;refine(mS 1 (AK (w.heap.size+1) 0) .nilIface _ r L).mono ?_;rintro e V ⟨rfl,X,f,rfl⟩;have c4:=(f.cell (Eu r)).trans r;have m:=(f.cell (Eu o)).trans o;have I:=(f.frozen (Eu o)).trans F;have q:=(f.cell (Eu k)).trans k;have J:=(f.frozen (Eu k)).trans q1) | (go_at_call 218;refine(i4 _ _).mono ?_;rintro e D ⟨rfl,i⟩;have B:=(i.cell (p:=(AL w 0)) (CB (Eu m) (Iz _ _ _))).trans ((Bl AQ).trans m);have Y:D.frozen? (AL w 0)=false:=(i.frozen (p:=(AL w 0)) (CB (Eu m) (Iz _ _ _))).trans (by rw[World.frozen?_setCell];exact I);have u:=(i.cell (p:=(AL w 1)) (CB (Eu q) (Iz _ _ _))).trans ((Bl AQ).trans q);have g1:D.frozen? (AL w 1)=false:=(i.frozen (p:=(AL w 1)) (CB (Eu q) (Iz _ _ _))).trans (by rw[World.frozen?_setCell];exact J)))
  refine bodyPost_ret (v:=.agg #[AB 1,AB 0]) (by simp[results,results26,go_sem,B,u]) rfl ⟨by rw[A.out];rfl,AW⟩
 ·rw[Fo h1] at d
  have K:Hid (R=Q):=by show _=_;rw[j.out,if_neg h1]
  clear j h1;by_cases y:0<Q.1
  ·have A:=AV K.out
   have C:Hid (∀W,AO w W->Calls prog 53 #[AE a t cap] W (AN W (.iface 133 (.agg #[AB Q.2, .iface 130 (AB Q.1)])))):=λW s=>(d W s).mono λe g ⟨H,hb⟩=>⟨by rw[H];unfold lookOf;simp[y],hb⟩
   clear d y E;go_enter func26,ntmps26
   go_wp2_with (first | (go_at_call 53;refine(C _ AW).mono ?_;rintro e b ⟨rfl,c⟩;have r:b.cell? (AK (w.heap.size+1) 0)=some .nilIface:=(A0 c);have L:b.frozen? (AK (w.heap.size+1) 0)=false:=(A5 c);have o:b.cell? (AL w 0)=some (AB 0):=(by rw[c.cell (p:=(AL w 0)) Ax];simp[go_sem]);have F:b.frozen? (AL w 0)=false:=(by rw[c.frozen (p:=(AL w 0)) Ax];simp[go_sem]);have k:b.cell? (AL w 1)=some (AB 0):=(by rw[c.cell (p:=(AL w 1)) Ax];simp[go_sem]);have q1:b.frozen? (AL w 1)=false:=(by rw[c.frozen (p:=(AL w 1)) Ax];simp[go_sem])) | (go_at_call 52;refine(mK _ _ (AK (w.heap.size+1) 0) .nilIface _ r L).mono ?_;rintro e V ⟨rfl,X,f,rfl⟩;have c4:=(f.cell (Eu r)).trans r;have m:=(f.cell (Eu o)).trans o;have I:=(f.frozen (Eu o)).trans F;have q:=(f.cell (Eu k)).trans k;have J:=(f.frozen (Eu k)).trans q1) | (go_at_call 221;refine(i3 _ _ _ (Z _ AW)).mono ?_;rintro e D ⟨rfl,i⟩;have B:=(i.cell (p:=(AL w 0)) (CB (Eu m) (Iz _ _ _))).trans ((Bl AQ).trans m);have Y:D.frozen? (AL w 0)=false:=(i.frozen (p:=(AL w 0)) (CB (Eu m) (Iz _ _ _))).trans (by rw[World.frozen?_setCell];exact I);have u:=(i.cell (p:=(AL w 1)) (CB (Eu q) (Iz _ _ _))).trans ((Bl AQ).trans q);have g1:D.frozen? (AL w 1)=false:=(i.frozen (p:=(AL w 1)) (CB (Eu q) (Iz _ _ _))).trans (by rw[World.frozen?_setCell];exact J)))
   refine bodyPost_ret (v:=.agg #[AB Q.1,AB Q.2]) (by simp[results,results26,go_sem,B,u]) rfl ⟨by rw[A.out],AW⟩
  ·have A:Hid (R=(0,0)):=by show _=_;rw[K.out];exact E y
   have C:Hid (∀W,AO w W->Calls prog 53 #[AE a t cap] W (AN W .nilIface)):=λW s=>(d W s).mono λe g ⟨H,hb⟩=>⟨by rw[H];unfold lookOf;simp[y],hb⟩
   clear d y E K;go_enter func26,ntmps26
   go_wp2_with (first | (go_at_call 53;refine(C _ AW).mono ?_;rintro e b ⟨rfl,c⟩;have B:b.cell? (AL w 0)=some (AB 0):=(by rw[c.cell (p:=(AL w 0)) Ax];simp[go_sem]);have F:b.frozen? (AL w 0)=false:=(by rw[c.frozen (p:=(AL w 0)) Ax];simp[go_sem]);have u:b.cell? (AL w 1)=some (AB 0):=(by rw[c.cell (p:=(AL w 1)) Ax];simp[go_sem]);have q1:b.frozen? (AL w 1)=false:=(by rw[c.frozen (p:=(AL w 1)) Ax];simp[go_sem])) | (go_at_call 52;refine(as_nil _ _).mono ?_;rintro e V ⟨rfl,rfl⟩))
   refine bodyPost_ret (v:=.agg #[AB 0,AB 0]) (by simp[results,results26,go_sem,B,u]) rfl ⟨by rw[A.out];rfl,AW⟩
