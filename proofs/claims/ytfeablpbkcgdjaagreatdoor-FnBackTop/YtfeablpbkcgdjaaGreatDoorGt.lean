import Derived.Stop.Asserts
import Derived.Test.YtfeablpbkcgdjaaGreatDoorGX
import Derived.Test.YtfeablpbkcgdjaaGreatDoorK15
import Derived.Test.YtfeablpbkcgdjaaGreatDoorW14a
set_option linter.defProp false
set_option maxHeartbeats 20000000
set_option maxRecDepth 100000
namespace Go.Proofs.YtfeablpbkcgdjaaGreatDoor
open Tryz Stil Go.RowKit Go.Extern.Stop Go.Stop Go.Extern
theorem as_nil (t:Value)(w:World):Calls prog 63 #[.nilIface,t] w λe w'=>e=.returned (.bool false)/\w'=w:=by
 go_enter func63,ntmps63
 go_wp2
 go_ret;exact⟨rfl,rfl⟩
abbrev tpv (t:Nat):Value:=.pointer (some ⟨4,t,none⟩)
abbrev tyv (t:Nat):Value:=.iface 176 (.agg #[tpv t])
abbrev rfv (t:Nat)(a:Addr)(f:Int):Value:=.agg #[tpv t, .pointer (some a), .int .u64 f]
structure AsT (pt et:Nat)(ef kd:Int):Prop where
 v1:∀(t:Addr) (w:World),(ReflectliteValue.unpack (.iface pt (.pointer (some t)))).run prog w=.ok (rfv pt ⟨w.heap.size,0,none⟩ 150) (w.alloc (.cells #[.pointer (some t)] pt))
 v2:∀(a:Addr) (w:World),(ReflectliteValue.methodAny (ReflectliteValue.valueError "reflectlite.Value.Type" 0) (λt _ _ _=>ReflectliteType.toType t) #[rfv pt a 150]).run prog w=.ok (tyv pt) w
 k1:∀w:World,((ReflectliteType.abiMethod λt=>(λa:Nat=>Value.int IntKind.u8 (a:Int))<$>Rtype.kind t) #[tpv pt]).run prog w=.ok (.int .u8 22) w
 k2:∀w:World,((ReflectliteType.abiMethod λt=>(λa:Nat=>Value.int IntKind.u8 (a:Int))<$>Rtype.kind t) #[tpv et]).run prog w=.ok (.int .u8 kd) w
 e1:∀w:World,(ReflectliteType.method ReflectliteType.elem #[.agg #[tpv pt]]).run prog w=.ok (tyv et) w
 pp:∀(a:Addr) (w:World),(ReflectliteValue.parts (rfv pt a 150)).run prog w=.ok (some (pt,a,150)) w
 un:prog.underlying pt=some (.pointer et)
 eo:∀w:World,(Rtype.elem? pt).run prog w=.ok (some et) w
 mq:∀(p:Addr) (w:World),(ReflectliteValue.mk et p ReflectliteValue.flagAddr).run prog w=.ok (rfv et p ef) w
structure AsS (et st:Nat)(sv:Value)(cs:Array Value)(sf:Int):Prop where
 tO:∀w:World,(ReflectliteType.typeOf #[.iface st sv]).run prog w=.ok (tyv st) w
 aB:∀w:World,(ReflectliteType.relation "AssignableTo" ReflectliteType.assignableTo #[.agg #[tpv st],tyv et]).run prog w=.ok (.bool true) w
 vB:∀w:World,(ReflectliteValue.unpack (.iface st sv)).run prog w=.ok (rfv st ⟨w.heap.size,0,none⟩ sf) (w.alloc (.cells cs st))
def AsW (et st:Nat)(ef sf:Int)(cs:Array Value)(out:Value):Prop:=∀(W:World) (a:Addr) (old:Value),(W.alloc (.cells cs st)).cell? a=some old->(W.alloc (.cells cs st)).frozen? a=false->(ReflectliteValue.set #[rfv et a ef,rfv st ⟨W.heap.size,0,none⟩ sf]).run prog (W.alloc (.cells cs st))=.ok (.tuple #[]) ((W.alloc (.cells cs st)).setCell a out)
section
variable {pt et st:Nat}{ef sf kd:Int}{sv out:Value}{cs:Array Value}
def AsT.isNil (T:AsT pt et ef kd)(a p:Addr)(W:World)(e:W.cell? a=some (.pointer (some p))):(ReflectliteValue.method (ReflectliteValue.valueError "reflectlite.Value.IsNil" 0) ReflectliteValue.isNil #[rfv pt a 150]).run prog W=.ok (.bool false) W:=by
 change Sem.run _ (ReflectliteValue.parts (rfv pt a 150)>>=_) _=_;simp only[Sem.run_bind,T.pp,Result.andThen];simp[ReflectliteValue.isNil,loadVar,isAgg,underlying,T.un,e,Result.andThen]
theorem AsT.elem (T:AsT pt et ef kd)(a p:Addr)(W:World)(e:W.cell? a=some (.pointer (some p))):(ReflectliteValue.method (ReflectliteValue.valueError "reflectlite.Value.Elem" 0) ReflectliteValue.elem #[rfv pt a 150]).run prog W=.ok (rfv et p ef) W:=by
 change Sem.run _ (ReflectliteValue.parts (rfv pt a 150)>>=_) _=_;simp only[Sem.run_bind,T.pp,Result.andThen];simp[ReflectliteValue.elem,loadVar,isAgg,underlying,T.un,e,Result.andThen,T.eo,T.mq]
end
variable {W:World}{v:Value}
def oa (h:Value)(w:World):(Go.method 379 176 (.agg #[h]) "Kind").run prog w=.ok (228,h) w:=AY
def oc (h:Value)(w:World):(Go.method 379 176 (.agg #[h]) "Elem").run prog w=.ok (245, .agg #[h]) w:=AY
def YT (h:Value)(w:World):(Go.method 379 176 (.agg #[h]) "Implements").run prog w=.ok (246, .agg #[h]) w:=AY
def uG (h:Value)(w:World):(Go.method 379 176 (.agg #[h]) "AssignableTo").run prog w=.ok (243, .agg #[h]) w:=AY
theorem Ee {t:Addr}(h:W.cell? t=some v):t.block<W.heap.size:=by
 rcases EV t.block W.heap.size with a | a
 .exact a
 .simp[World.cell?,LK a] at h
def Di {t:Addr}(ob:Obj)(h:W.cell? t=some v):(W.alloc ob).cell? t=some v:=((Aa W ob).cell (Ee h)).trans h
theorem Ii {t:Addr}(ob:Obj)(h:W.cell? t=some v)(a:W.frozen? t=false):(W.alloc ob).frozen? t=false:=((Aa W ob).frozen (Ee h)).trans a
section
variable {pt et st:Nat}{ef sf kd:Int}{sv out:Value}{cs:Array Value}
theorem zca {p:Prop}(h:p:=by
 have h6:=@run_callFunc_extern prog 95 _ (λargs=>ReflectliteValue.unpack (args.getD 0 (.tuple #[]))) func95 AY AY AY AY;have h7:=@run_callFunc_extern prog 96 _ (ReflectliteValue.methodAny (ReflectliteValue.valueError "reflectlite.Value.Type" 0) (λt _ _ _=>ReflectliteType.toType t)) func96 AY AY AY AY;have h8:=@run_callFunc_extern prog 97 _ (ReflectliteValue.method (ReflectliteValue.valueError "reflectlite.Value.IsNil" 0) ReflectliteValue.isNil) func97 AY AY AY AY;have h27:=@run_callFunc_extern prog 228 _ (ReflectliteType.abiMethod λt=>do pure (.int .u8 (<-Rtype.kind t))) func228 AY AY AY AY;have h37:=@run_callFunc_extern prog 245 _ (ReflectliteType.method ReflectliteType.elem) func245 AY AY AY AY;have h10:=@run_callFunc_extern prog 128 _ (ReflectliteType.typeOf) func128 AY AY AY AY;have h35:=@run_callFunc_extern prog 243 _ (ReflectliteType.relation "AssignableTo" ReflectliteType.assignableTo) func243 AY AY AY AY;have h11:=@run_callFunc_extern prog 129 _ (ReflectliteValue.method (ReflectliteValue.valueError "reflectlite.Value.Elem" 0) ReflectliteValue.elem) func129 AY AY AY AY
 have h12:=@run_callFunc_extern prog 130 _ (ReflectliteValue.set) func130 AY AY AY AY;have f6:=T.v1;have f7:=T.v2;have k1:=T.k1;have k2:=T.k2;have e1:=T.e1;have tO:=S.tO;have aB:=S.aB;have vB:=S.vB;have mK:=oa;have mE:=oc;have mA:=uG;have n8:=T.isNil ⟨w.heap.size,0,none⟩ t ((w.alloc (.cells #[.pointer (some t)] pt)).alloc (.cells #[tpv pt, .pointer (some ⟨w.heap.size,0,none⟩), .int .u64 150] 133)) (Di _ AW);have el:=T.elem ⟨w.heap.size,0,none⟩ t (((w.alloc (.cells #[.pointer (some t)] pt)).alloc (.cells #[tpv pt, .pointer (some ⟨w.heap.size,0,none⟩), .int .u64 150] 133)).alloc (.cells #[tpv pt, .pointer (some ⟨w.heap.size,0,none⟩), .int .u64 150] 133)) (Di _ (Di _ AW));have st:=U (((w.alloc (.cells #[.pointer (some t)] pt)).alloc (.cells #[tpv pt, .pointer (some ⟨w.heap.size,0,none⟩), .int .u64 150] 133)).alloc (.cells #[tpv pt, .pointer (some ⟨w.heap.size,0,none⟩), .int .u64 150] 133)) t old (Di _ (Di _ (Di _ (Di _ ht0)))) (Ii _ (Di _ (Di _ (Di _ ht0))) (Ii _ (Di _ (Di _ ht0)) (Ii _ (Di _ ht0) (Ii _ ht0 hf0))));simp only[World.size_alloc] at st;go_enter func63,ntmps63
 go_wp2
 refine wp_loop_rounds 1 ?_;rw[rounds_succ]
 go_wp2
 go_ret;exact⟨rfl,_,AX,rfl⟩):p:=h
def YA (T:AsT pt et ef 20)(S:AsS et st sv cs sf)(U:AsW et st ef sf cs out)(t:Addr)(old:Value)(w:World)(ht0:w.cell? t=some old)(hf0:w.frozen? t=false):
  Calls prog 63 #[.iface st sv, .iface pt (.pointer (some t))] w λe w'=>e=.returned (.bool true)/\∃a,Below w.heap.size w a/\w'=a.setCell t out:=by
 exact zca
theorem eB (T:AsT pt et ef kd)(S:AsS et st sv cs sf)(U:AsW et st ef sf cs out)(e:(kd==20)=false)(o:∀w:World,(ReflectliteType.relation "Implements" ReflectliteType.implements_ #[.agg #[tpv et],tyv 44]).run prog w=.ok (.bool true) w)(t:Addr)(old:Value)(w:World)(hg:w.cell? ⟨0,0,none⟩=some (tyv 44))(ht0:w.cell? t=some old)(hf0:w.frozen? t=false):
  Calls prog 63 #[.iface st sv, .iface pt (.pointer (some t))] w λf w'=>f=.returned (.bool true)/\∃a,Below w.heap.size w a/\w'=a.setCell t out:=by
 have l:=@run_callFunc_extern prog 246 _ (ReflectliteType.relation "Implements" ReflectliteType.implements_) func246 AY AY AY AY;have j:=YT;have m:((w.alloc (.cells #[.pointer (some t)] pt)).alloc (.cells #[tpv pt, .pointer (some ⟨w.heap.size,0,none⟩), .int .u64 150] 133)).cell? ⟨0,0,none⟩=some (tyv 44):=Di _ (Di _ hg);have k:(kd !=20)=true:=by simp[bne,e]
 exact zca
end
def dc:AsT 265 144 386 2:=⟨λ_ _=>by kernel_rfl,λ_ _=>by kernel_rfl,λ_=>by kernel_rfl,λ_=>by kernel_rfl,λ_=>by kernel_rfl,λ_ _=>by kernel_rfl,underlying265,λ_=>by kernel_rfl,λ_ _=>by kernel_rfl⟩
theorem cH (k:Int):AsW 144 144 386 130 #[.int .i64 k] (.int .i64 k):=by
 intro W a old l e;have j:(W.alloc (.cells #[.int .i64 k] 144)).cell? ⟨W.heap.size,0,none⟩=some (.int .i64 k):=AW
 have f:∀w:World,(Rtype.directlyAssignable 144 144).run prog w=.ok true w:=λ_=>by kernel_rfl
 have m:∀w:World,(ReflectliteValue.parts (rfv 144 a 386)).run prog w=.ok (some (144,a,386)) w:=λ_=>by kernel_rfl
 have n:∀w:World,(ReflectliteValue.parts (rfv 144 ⟨W.heap.size,0,none⟩ 130)).run prog w=.ok (some (144,⟨W.heap.size,0,none⟩,130)) w:=λ_=>by kernel_rfl
 change Sem.run _ (ReflectliteValue.parts (rfv 144 a 386)>>=λp=>ReflectliteValue.parts (rfv 144 ⟨W.heap.size,0,none⟩ 130)>>=_) _=_;simp only[Sem.run_bind,m,n,Result.andThen];simp[ReflectliteValue.flagAddr,loadVar,isAgg,underlying,underlying144,j,Result.andThen,f,storeVar,Value.cells,storeCells,Addr.add];rw[run_store prog _ a _ _ A0];simp[l,e]
def eC (k:Int)(t:Addr)(old:Value)(w:World)(hg:w.cell? ⟨0,0,none⟩=some (.iface 176 (.agg #[.pointer (some ⟨4,44,none⟩)])))(j:w.cell? t=some old)(f:w.frozen? t=false):
  Calls prog 63 #[.iface 144 (.int .i64 k), .iface 265 (.pointer (some t))] w λe w'=>e=.returned (.bool true)/\∃a,Below w.heap.size w a/\w'=a.setCell t (.int .i64 k):=eB dc ⟨λ_=>by kernel_rfl,λ_=>by kernel_rfl,λ_=>by kernel_rfl⟩ (cH k) AZ (λ_=>by kernel_rfl) t old w hg j f
open Go.Sort Go.BigFrame
def En (w:World):Prop:=w.cell? ⟨0,0,none⟩=some (.iface 176 (.agg #[.pointer (some ⟨4,44,none⟩)]))
def En.below {w w':World}(h:En w)(a:Below w.heap.size w w'):En w':=(a.cell (Ee h)).trans h
def WL:AsT 108 105 404 20:=⟨λ_ _=>by kernel_rfl,λ_ _=>by kernel_rfl,λ_=>by kernel_rfl,λ_=>by kernel_rfl,λ_=>by kernel_rfl,λ_ _=>by kernel_rfl,underlying108,λ_=>by kernel_rfl,λ_ _=>by kernel_rfl⟩
theorem da (k:Int):AsW 105 144 404 130 #[.int .i64 k] (.iface 144 (.int .i64 k)):=by
 intro W a old m e;have j:(W.alloc (.cells #[.int .i64 k] 144)).cell? ⟨W.heap.size,0,none⟩=some (.int .i64 k):=AW
 have f:∀w:World,(Rtype.directlyAssignable 105 144).run prog w=.ok false w:=λ_=>by kernel_rfl
 have l:∀w:World,(Rtype.implements 105 144).run prog w=.ok true w:=λ_=>by kernel_rfl
 have o:∀w:World,(Rtype.kind 144).run prog w=.ok 2 w:=λ_=>by kernel_rfl
 have n:∀w:World,(ReflectliteValue.parts (rfv 105 a 404)).run prog w=.ok (some (105,a,404)) w:=λ_=>by kernel_rfl
 have t:∀w:World,(ReflectliteValue.parts (rfv 144 ⟨W.heap.size,0,none⟩ 130)).run prog w=.ok (some (144,⟨W.heap.size,0,none⟩,130)) w:=λ_=>by kernel_rfl
 change Sem.run _ (ReflectliteValue.parts (rfv 105 a 404)>>=λp=>ReflectliteValue.parts (rfv 144 ⟨W.heap.size,0,none⟩ 130)>>=_) _=_;simp only[Sem.run_bind,n,t,Result.andThen];simp[ReflectliteValue.flagAddr,loadVar,isAgg,underlying,underlying144,j,Result.andThen,f,l,o,storeVar,Value.cells,storeCells,Addr.add];rw[run_store prog _ a _ _ A0];simp[m,e]
theorem cG (u v:Value):AsW 105 147 404 153 #[u,v] (.iface 147 (.agg #[u,v])):=by
 intro W a old l e;have j:(loadCells ⟨W.heap.size,0,none⟩ 2).run prog (W.alloc (.cells #[u,v] 147))=.ok #[u,v] (W.alloc (.cells #[u,v] 147)):=run_loadCells_list _ _ [u,v] (Xf W [u,v] _ _ rfl);have f:∀w:World,(Rtype.directlyAssignable 105 147).run prog w=.ok false w:=λ_=>by kernel_rfl
 have k:∀w:World,(Rtype.implements 105 147).run prog w=.ok true w:=λ_=>by kernel_rfl
 have n:∀w:World,(Rtype.kind 147).run prog w=.ok 25 w:=λ_=>by kernel_rfl
 have m:∀w:World,(ReflectliteValue.parts (rfv 105 a 404)).run prog w=.ok (some (105,a,404)) w:=λ_=>by kernel_rfl
 have o:∀w:World,(ReflectliteValue.parts (rfv 147 ⟨W.heap.size,0,none⟩ 153)).run prog w=.ok (some (147,⟨W.heap.size,0,none⟩,153)) w:=λ_=>by kernel_rfl
 change Sem.run _ (ReflectliteValue.parts (rfv 105 a 404)>>=λp=>ReflectliteValue.parts (rfv 147 ⟨W.heap.size,0,none⟩ 153)>>=_) _=_;simp only[Sem.run_bind,m,o,Result.andThen];simp[ReflectliteValue.flagAddr,loadVar,isAgg,underlying,underlying147,j,Result.andThen,f,k,n,storeVar,Value.cells,storeCells,Addr.add];rw[run_store prog _ a _ _ A0];simp[l,e]
def eD (k:Int)(t:Addr)(old:Value)(w:World)(h:w.cell? t=some old)(f:w.frozen? t=false):
  Calls prog 63 #[.iface 144 (.int .i64 k), .iface 108 (.pointer (some t))] w λe w'=>e=.returned (.bool true)/\∃a,Below w.heap.size w a/\w'=a.setCell t (.iface 144 (.int .i64 k)):=YA WL ⟨λ_=>by kernel_rfl,λ_=>by kernel_rfl,λ_=>by kernel_rfl⟩ (da k) t old w h f
def eA (u v:Value)(t:Addr)(old:Value)(w:World)(h:w.cell? t=some old)(f:w.frozen? t=false):
  Calls prog 63 #[.iface 147 (.agg #[u,v]), .iface 108 (.pointer (some t))] w λe w'=>e=.returned (.bool true)/\∃a,Below w.heap.size w a/\w'=a.setCell t (.iface 147 (.agg #[u,v])):=YA WL ⟨λ_=>by kernel_rfl,λ_=>by kernel_rfl,λ_=>by kernel_rfl⟩ (cG u v) t old w h f
theorem ZP (k:Int)(w:World):Calls prog 237 #[.int .i64 k] w λe w'=>e=.returned (.agg #[.int .i64 k, .int .i64 0])/\Below w.heap.size w w':=by
 go_enter func237,ntmps237
 go_wp2
 refine bodyPost_ret (v:=.agg #[.int .i64 k, .int .i64 0]) (by simp[results,results237,go_sem]) rfl ⟨rfl,AX⟩
theorem ZO (k:Int)(j:Nat)(w:World)(hg:En w):Calls prog 240 #[.agg #[.int .i64 j, .iface 144 (.int .i64 k)]] w λe w'=>e=.returned (.agg #[.int .i64 k, .int .i64 j])/\Below w.heap.size w w':=by
 have o:=Ab (λW (h:Below w.heap.size w W)=>hg.below h);clear hg;go_enter func240,ntmps240
 go_wp2_with (go_at_call 63;refine(eC k ⟨w.heap.size+1+1,0,none⟩ (.int .i64 0) _ (o _ AX) (by simp[go_sem]) (by simp[go_sem])).mono ?_;rintro e x ⟨rfl,l,f,rfl⟩;have B:l.cell? ⟨w.heap.size,0,none⟩=some (.int .i64 j):=(by rw[f.cell (p:=⟨w.heap.size,0,none⟩) Ax];simp[go_sem]);have m:l.cell? ⟨w.heap.size+1,0,none⟩=some (.int .i64 0):=(A3 f);have t:l.cell? ⟨w.heap.size+1,1,none⟩=some (.int .i64 0):=(A3 f);have A:l.frozen? ⟨w.heap.size+1,0,none⟩=false:=(A4 f);have y:l.frozen? ⟨w.heap.size+1,1,none⟩=false:=(A4 f);have z:l.cell? ⟨w.heap.size+1+1,0,none⟩=some (.int .i64 0):=(A3 f))
 refine bodyPost_ret (v:=.agg #[.int .i64 k, .int .i64 j]) (by simp[results,results240,go_sem,m,t]) rfl ⟨rfl,AX⟩
theorem gl (l:List Stil.B5)(k:Nat):¬0<(Ec l k).1->Ec l k=(0,0):=by
 induction l generalizing k with
 | nil=>intro _;rfl
 | cons x r e=>
  intro h;rw[Ec] at h ⊢;split
  .rename_i a;rw[if_pos a] at h;exact absurd a h
  .rename_i a;rw[if_neg a] at h;exact e _ h
def uL (v:Value)(w:World):(Go.method 379 144 v "loop.example/stilway/impl.fault").run prog w=.ok (237,v) w:=AY
def uI (u v:Value)(w:World):(Go.method 379 147 (.agg #[u,v]) "loop.example/stilway/impl.fault").run prog w=.ok (240, .agg #[u,v]) w:=AY
theorem nB (l:List Stil.B5)(S:Value)(w:World)(hr:Ed w)(hg:En w)(ac:Dc w S l)(hl:l.length<=1048576)(aa:Bc l<=1000000000)(ab:∀x∈l,Ba x):
  Calls prog 35 #[S] w λe w'=>e=.returned (.agg #[.int .i64 (Am l).1, .int .i64 (Am l).2])/\Below w.heap.size w w':=by
 have m:=Ab (λW F=>rS l S W (hr.below F) (ac.below F) hl aa ab);have HG:=Ab (λW (h:Below w.heap.size w W)=>hg.below h);have M:=Ab (gl l 0);have t:Hid (Am l=if 40<l.length\/400<Bc l then(1,0) else Ec l 0):=rfl;obtain⟨a,cap,rfl,_⟩:=ac;have mB:=uL;have mR:=uI;obtain⟨E,Z⟩:∃E,E=l.length:=⟨_,rfl⟩
 obtain⟨z,hz⟩:∃z,z=Bc l:=⟨_,rfl⟩
 obtain⟨Q,hQ⟩:∃Q,Q=Ec l 0:=⟨_,rfl⟩
 obtain⟨R,hR⟩:∃R,R=Am l:=⟨_,rfl⟩
 rw[<-Z] at m t hl ⊢;rw[<-hz] at m t;rw[<-hQ] at m t M;rw[<-hR] at t ⊢;clear Z hz hQ hR hr hg ab aa;by_cases h1:40<E\/400<z
 .have J:Hid (R=(1,0)):=by show _=_;rw[t.out,if_pos h1]
  rw[EN h1] at m;have K:Hid (∀W,Below w.heap.size w W->Calls prog 64 #[.slice a E cap] W λe w'=>e=.returned (.iface 144 (.int .i64 1))/\Below W.heap.size W w'):=m;clear m t h1 M;go_enter func35,ntmps35
  go_wp2_with (first | (go_at_call 64;refine(K _ AX).mono ?_;rintro e j ⟨rfl,f⟩;have C:j.cell? ⟨w.heap.size+1,0,none⟩=some .nilIface:=(A3 f);have T:j.frozen? ⟨w.heap.size+1,0,none⟩=false:=(A4 f);have y:j.cell? ⟨w.heap.size,0,none⟩=some (.int .i64 0):=(by rw[f.cell (p:=⟨w.heap.size,0,none⟩) Ax];simp[go_sem]);have O:j.frozen? ⟨w.heap.size,0,none⟩=false:=(by rw[f.frozen (p:=⟨w.heap.size,0,none⟩) Ax];simp[go_sem]);have D:j.cell? ⟨w.heap.size,1,none⟩=some (.int .i64 0):=(by rw[f.cell (p:=⟨w.heap.size,1,none⟩) Ax];simp[go_sem]);have q1:j.frozen? ⟨w.heap.size,1,none⟩=false:=(by rw[f.frozen (p:=⟨w.heap.size,1,none⟩) Ax];simp[go_sem])) | (go_at_call 63;refine(eD 1 ⟨w.heap.size+1,0,none⟩ .nilIface _ C T).mono ?_;rintro e w2 ⟨rfl,w4,k,rfl⟩;have c4:=(k.cell (Ee C)).trans C;have B:=(k.cell (Ee y)).trans y;have U:=(k.frozen (Ee y)).trans O;have A:=(k.cell (Ee D)).trans D;have X:=(k.frozen (Ee D)).trans q1) | (go_at_call 237;refine(ZP _ _).mono ?_;rintro e I ⟨rfl,o⟩;have N:=(o.cell (p:=⟨w.heap.size,0,none⟩) (B8 (Ee B) (Jm _ _ _))).trans ((Dz AU).trans B);have g0:I.frozen? ⟨w.heap.size,0,none⟩=false:=(o.frozen (p:=⟨w.heap.size,0,none⟩) (B8 (Ee B) (Jm _ _ _))).trans (by rw[World.frozen?_setCell];exact U);have G:=(o.cell (p:=⟨w.heap.size,1,none⟩) (B8 (Ee A) (Jm _ _ _))).trans ((Dz AU).trans A);have g1:I.frozen? ⟨w.heap.size,1,none⟩=false:=(o.frozen (p:=⟨w.heap.size,1,none⟩) (B8 (Ee A) (Jm _ _ _))).trans (by rw[World.frozen?_setCell];exact X)))
  refine bodyPost_ret (v:=.agg #[.int .i64 1, .int .i64 0]) (by simp[results,results35,go_sem,N,G]) rfl ⟨by rw[J.out];rfl,AX⟩
 .rw[FO h1] at m
  have Y:Hid (R=Q):=by show _=_;rw[t.out,if_neg h1]
  clear t h1;by_cases H:0<Q.1
  .have J:=Ab Y.out
   have K:Hid (∀W,Below w.heap.size w W->Calls prog 64 #[.slice a E cap] W λe w'=>e=.returned (.iface 147 (.agg #[.int .i64 Q.2, .iface 144 (.int .i64 Q.1)]))/\Below W.heap.size W w'):=λW F=>(m W F).mono λe w' ⟨V,hb⟩=>⟨by rw[V];unfold lookOf;simp[H],hb⟩
   clear m H M;go_enter func35,ntmps35
   go_wp2_with (first | (go_at_call 64;refine(K _ AX).mono ?_;rintro e j ⟨rfl,f⟩;have C:j.cell? ⟨w.heap.size+1,0,none⟩=some .nilIface:=(A3 f);have T:j.frozen? ⟨w.heap.size+1,0,none⟩=false:=(A4 f);have y:j.cell? ⟨w.heap.size,0,none⟩=some (.int .i64 0):=(by rw[f.cell (p:=⟨w.heap.size,0,none⟩) Ax];simp[go_sem]);have O:j.frozen? ⟨w.heap.size,0,none⟩=false:=(by rw[f.frozen (p:=⟨w.heap.size,0,none⟩) Ax];simp[go_sem]);have D:j.cell? ⟨w.heap.size,1,none⟩=some (.int .i64 0):=(by rw[f.cell (p:=⟨w.heap.size,1,none⟩) Ax];simp[go_sem]);have q1:j.frozen? ⟨w.heap.size,1,none⟩=false:=(by rw[f.frozen (p:=⟨w.heap.size,1,none⟩) Ax];simp[go_sem])) | (go_at_call 63;refine(eA _ _ ⟨w.heap.size+1,0,none⟩ .nilIface _ C T).mono ?_;rintro e w2 ⟨rfl,w4,k,rfl⟩;have c4:=(k.cell (Ee C)).trans C;have B:=(k.cell (Ee y)).trans y;have U:=(k.frozen (Ee y)).trans O;have A:=(k.cell (Ee D)).trans D;have X:=(k.frozen (Ee D)).trans q1) | (go_at_call 240;refine(ZO _ _ _ (HG _ AX)).mono ?_;rintro e I ⟨rfl,o⟩;have N:=(o.cell (p:=⟨w.heap.size,0,none⟩) (B8 (Ee B) (Jm _ _ _))).trans ((Dz AU).trans B);have g0:I.frozen? ⟨w.heap.size,0,none⟩=false:=(o.frozen (p:=⟨w.heap.size,0,none⟩) (B8 (Ee B) (Jm _ _ _))).trans (by rw[World.frozen?_setCell];exact U);have G:=(o.cell (p:=⟨w.heap.size,1,none⟩) (B8 (Ee A) (Jm _ _ _))).trans ((Dz AU).trans A);have g1:I.frozen? ⟨w.heap.size,1,none⟩=false:=(o.frozen (p:=⟨w.heap.size,1,none⟩) (B8 (Ee A) (Jm _ _ _))).trans (by rw[World.frozen?_setCell];exact X)))
   refine bodyPost_ret (v:=.agg #[.int .i64 Q.1, .int .i64 Q.2]) (by simp[results,results35,go_sem,N,G]) rfl ⟨by rw[J.out],AX⟩
  .have J:Hid (R=(0,0)):=by show _=_;rw[Y.out];exact M H
   have K:Hid (∀W,Below w.heap.size w W->Calls prog 64 #[.slice a E cap] W λe w'=>e=.returned .nilIface/\Below W.heap.size W w'):=λW F=>(m W F).mono λe w' ⟨V,hb⟩=>⟨by rw[V];unfold lookOf;simp[H],hb⟩
   clear m H M Y;go_enter func35,ntmps35
   go_wp2_with (first | (go_at_call 64;refine(K _ AX).mono ?_;rintro e j ⟨rfl,f⟩;have N:j.cell? ⟨w.heap.size,0,none⟩=some (.int .i64 0):=(by rw[f.cell (p:=⟨w.heap.size,0,none⟩) Ax];simp[go_sem]);have O:j.frozen? ⟨w.heap.size,0,none⟩=false:=(by rw[f.frozen (p:=⟨w.heap.size,0,none⟩) Ax];simp[go_sem]);have G:j.cell? ⟨w.heap.size,1,none⟩=some (.int .i64 0):=(by rw[f.cell (p:=⟨w.heap.size,1,none⟩) Ax];simp[go_sem]);have q1:j.frozen? ⟨w.heap.size,1,none⟩=false:=(by rw[f.frozen (p:=⟨w.heap.size,1,none⟩) Ax];simp[go_sem])) | (go_at_call 63;refine(as_nil _ _).mono ?_;rintro e w2 ⟨rfl,rfl⟩))
   refine bodyPost_ret (v:=.agg #[.int .i64 0, .int .i64 0]) (by simp[results,results35,go_sem,N,G]) rfl ⟨by rw[J.out];rfl,AX⟩
theorem Xx (l:List Stil.B5)(a:Value)(w:World)(hr:Ed w)(hg:En w)(o:Dc w a l)(hl:l.length<=1048576)(y:Bc l<=1000000000)(m:∀x∈l,Ba x):
  Calls prog 13 #[a] w λe w'=>e=.returned (.bool (decide ((Am l).1=0)))/\Below w.heap.size w w':=by
 have j:=Ab (λW h=>nB l a W (hr.below h) (hg.below h) (o.below h) hl y m);have t:Hid ((Am l).1=0->(Am l).2=0):=λh=>(Jk h).1
 obtain⟨D,A,rfl,z⟩:=o;obtain⟨c,f⟩:∃c,c=(Am l).1:=⟨_,rfl⟩
 obtain⟨r,k⟩:∃r,r=(Am l).2:=⟨_,rfl⟩
 rw[<-f,<-k] at j t;rw[<-f];clear z f k hr hg m;go_enter func13,ntmps13
 go_wp2_with (go_at_call 35;refine(j _ AX).mono ?_;rintro e E ⟨rfl,B⟩)
 all_goals go_ret
 all_goals refine⟨Ad ?_,AX⟩
 all_goals (have F:=t.out;by_cases C:c=0<;>simp_all)
section
variable {L g P:Nat}{w:World}{bs:List Nat}{ts:List Ia}{i op:Int}{v u c d:Value}{p q r s b:Nat}
def StL.netOf (h:StL L g P w bs ((4,s,[.int .i64 i, .int .i64 op,v,u])::ts)):∃r,r<s/\Sm i/\Sm op/\StL L g P w bs ((14,r,[u])::(13,0,[v])::ts):=by
 obtain⟨S,t,k,j,a⟩:=h;obtain⟨r,m,f,n,l,o⟩:=ClT.nt (a (4,s,[.int .i64 i, .int .i64 op,v,u]) (.head _));exact⟨r,o,m,f,S,t,k,j,List.forall_mem_cons.2 ⟨l.cl,List.forall_mem_cons.2 ⟨n.cl,λx e=>a x (.tail _ e)⟩⟩⟩
def StL.mk {us:List Ia}{y:Ia}(h:StL L g P w bs us)(a:∀S,(∀x∈us,ClT S x.1 x.2.1 x.2.2)->ClT S y.1 y.2.1 y.2.2)(e:∀x∈ts,x∈us):StL L g P w bs (y::ts):=(h.add a).sub (λ_ h=>h) (List.forall_mem_cons.2 ⟨.head _,λx f=>.tail _ (e x f)⟩)
def StL.mkNet {us:List Ia}(h:StL L g P w bs us)(hu:(14,r,[u])∈us)(a:(13,0,[v])∈us)(e:∀x∈ts,x∈us)(hi:Sm i)(j:Sm op)(f:r<s):StL L g P w bs ((4,s,[.int .i64 i, .int .i64 op,v,u])::ts):=h.mk (y:=(4,s,_)) (λ_S hS=>ClT.mkN hi j (ClT.sl (k:=3) (hS _ a)) (ClT.sl (k:=4) (hS _ hu)) f) e
def StL.elOf (h:StL L g P w bs ((2,q,[.int .i64 op,v])::ts)):Sm op/\StL L g P w bs ((13,0,[v])::ts):=by
 obtain⟨S,m,k,j,a⟩:=h;obtain⟨l,f⟩:=ClT.el (a (2,q,[.int .i64 op,v]) (.head _));exact⟨l,S,m,k,j,List.forall_mem_cons.2 ⟨f.cl,λx e=>a x (.tail _ e)⟩⟩
def StL.nils {k:Nat}(h:StL L g P w bs ts):StL L g P w bs ((k+10,0,[.slice none 0 0])::ts):=h.add (y:=(k+10,0,_)) λ_ _=>SlT.nil.cl
def StL.tl {x:Ia}(h:StL L g P w bs (x::ts)):StL L g P w bs ts:=h.sub (λ_ h=>h) λ_ h=>.tail _ h
theorem StL.net4 {s:Nat}{c:List Value}(h:StL L g P w bs ((4,s,c)::ts)):∃i op a n k l f e,c=[.int .i64 i, .int .i64 op, .slice a n k, .slice l f e]:=by
 obtain⟨S,_,_,_,m⟩:=h;rcases m (4,s,c) (.head _) with⟨h,_⟩ | ⟨h,_⟩ | ⟨_,i,op,v,r,u,rfl,_,_,⟨a,n,k,rfl,_⟩,⟨l,f,e,rfl,_⟩,_⟩ | ⟨h,_⟩ | ⟨j,u,h,_⟩
 .cases h
 .cases h
 .exact⟨i,op,a,n,k,l,f,e,rfl⟩
 .cases h
 .replace h:4=j+10:=h
  omega
end
variable {v1 v2 v3 v4 v5:Value}{w':World}
theorem ir (s:Nat):∀(g P:Nat) (w:World) (bs:List Nat) (ts:List Ia) (k op:Int) (I:Option Addr) (G H:Nat) (N:Option Addr) (D J:Nat),St g P w bs ((4,s,[.int .i64 k, .int .i64 op, .slice I G H, .slice N D J])::ts)->P+10*s+60<=100000000->
  Calls prog 94 #[.pointer (some ⟨g,0,none⟩), .agg #[.int .i64 k, .int .i64 op, .slice I G H, .slice N D J]] w (NtL 50001 g (P+10*s+60) (s+20) w bs ts):=by
 induction s using Nat.strongRecOn with
 | ind s ih=>
  intro g P w bs ts k op I G H N D J h hP;have hg:=Tf h.rd;have au:∀b∈(w.heap.size+1)::w.heap.size::bs,b<w.heap.size+2:=λb hb=>by
   simp only[C2] at hb;rcases hb with rfl | rfl | hb
   .omega
   .omega
   .have:=(h.lt hb).2;omega
  obtain⟨r,aM,hk,ai,h⟩:=h.netOf;have IH:=DU ih;have az:∀(W:World) (ar r':Nat) (us:List Ia) (k op:Int) (v u:Value),StL 50001 g ar W ((w.heap.size+1)::w.heap.size::bs) us->(14,r',[u])∈us->(13,0,[v])∈us->(∀x∈ts,x∈us)->ar<=P+10*s+60->r'<s+20->Sm k->Sm op->StL 50001 g (P+10*s+60) W bs ((4,s+20,[.int .i64 k, .int .i64 op,v,u])::ts):=λW ar r' us k op v u h h1 h2 h3 hQ hr hk ho=>(h.drop.drop.mkNet h1 h2 h3 hk ho hr).mono hQ
  have HF:=DU az;have ay:=(h.box (.cells #[.int .i64 k, .int .i64 op, .slice I G H, .slice N D J] 54)).box (.cells #[.int .i64 0, .int .i64 0, .slice none 0 0, .slice none 0 0] 54);have hS:St g P ((w.alloc (.cells #[.int .i64 k, .int .i64 op, .slice I G H, .slice N D J] 54)).alloc (.cells #[.int .i64 0, .int .i64 0, .slice none 0 0, .slice none 0 0] 54)) ((w.heap.size+1)::w.heap.size::bs) ((14,r,[.slice N D J])::(13,0,[.slice I G H])::ts):=by rw[World.size_alloc] at ay;exact ay
  clear h ih az ay;go_enter func94,ntmps94;go_upto_region 1 with fail
  go_cut [15] (λc wq=>∃b:Bool,c=.bool b/\(b=true->0<D)/\EP wq w.heap.size k op (.slice I G H) (.slice N D J)/\EP wq (w.heap.size+1) 0 0 (.slice none 0 0) (.slice none 0 0)/\St g (P+1) wq ((w.heap.size+1)::w.heap.size::bs) ((14,r,[.slice N D J])::(13,0,[.slice I G H])::ts)/\w.grownBy wq (some g))
  case first=>
   by_cases aA:0<D
   .go_wp2_with (go_at_call_of 33 (Value.int IntKind.i64 3);refine(Fe g _ _ _ ((hS).rd) AU AU AU).mono ?_;rintro e wa ⟨x,rfl,aj,al,ad,t⟩;have hS:=(hS).go ad t;obtain⟨aa,Y,U,q1,R,Z,p2,X,S⟩:CW wa w.heap.size (.int .i64 k) (.int .i64 op) (.slice I G H) (.slice N D J):=qb4;obtain⟨ab,C,T,A,O,B,p6,z,Q⟩:E9 wa ((w.heap.size+1)):=FG;have n:=Bl (show w.grownBy _ (some g) from Av) t;clear ad t)
    go_meet;exact⟨decide (0<x),rfl,λ_=>aA,BP,BP,hS,n⟩
   .have aL:decide (0<(D:Int))=false:=by rw[ES];omega
    go_wp2
    go_meet;exact⟨false,rfl,λh=>BM,BP,BP,hS.mono AU,Av⟩
  case rest=>
   clear hS;obtain⟨b,rfl,ao,l,f,hS,n⟩:=hcut;obtain⟨aa,Y,q1,Z,X,U,R,p2,S⟩:=id l;obtain⟨ab,C,A,B,z,T,O,p6,Q⟩:=id f;cases b with
   | true=>
    have aA:0<D:=ao rfl;clear ao;go_upto_region 3 with(at_builtin;refine Bd rfl rfl (StL.copy _ kd4 hS (.head _) AZ) rfl rfl ?_;rintro v' w3 ⟨css,m,cc,rfl,rfl,htt,V,hS,K,aB,gV⟩;clear Y q1 Z X C A B z U R p2 S T O p6 Q)
    replace l:=l.grownO K AW;replace f:=f.grownO K AW;replace n:=Ih n K (λj e=>by cases e);clear K;go_upto_region 4 with(go_at_call_of 33 (css.length:Nat);refine(Fe g _ _ _ hS.rd AU AU AU).mono ?_;rintro e w4 ⟨x,rfl,aj,al,jV,bD⟩;obtain⟨j,rfl⟩:=FN aj;have hj:j<css.length:=AU;clear aj al)
    replace hS:=hS.go jV bD;replace V:=Cf V bD AU;replace l:=l.grownO bD Ax;replace f:=f.grownO bD Ax;replace n:=Bl n bD;clear jV bD;have ag:=LU hS V AZ hj;have aG:css[j].1<=tot css:=KN (CG hj);replace hS:=hS.kid hj;obtain⟨i4,o4,e1,m1,d1,e2,m2,d2,he⟩:=hS.net4;have aF:=DU (λ(x:Nat × List Value) (F:x.1<=css[j].1+20)=>Lo (x:=x) hj F);rw[he] at ag hS;have HI:=DU (IH css[j].1 AU g _ w4 _ _ _ _ _ _ _ _ _ _ hS AU);obtain⟨ak,hX⟩:∃ak,ak=css[j].1:=⟨_,rfl⟩
    rw[<-hX] at HI aF aG hS;obtain⟨r0,r1,r2,r3⟩:w4.cell? ⟨m,j*4,none⟩=some (.int .i64 i4)/\w4.cell? ⟨m,j*4+1,none⟩=some (.int .i64 o4)/\w4.cell? ⟨m,j*4+2,none⟩=some (.slice e1 m1 d1)/\w4.cell? ⟨m,j*4+3,none⟩=some (.slice e2 m2 d2):=⟨ag 0 _ rfl,ag 1 _ rfl,ag 2 _ rfl,ag 3 _ rfl⟩
    have aW:m<w4.heap.size:=(hS.lt (.head _)).2;clear ag he hX IH;go_upto_region 5 with(go_at_call 94;refine HI.mono ?_;rintro e E ⟨i5,o5,f1,k1,l1,f2,k2,l2,rfl,ap,ac⟩;have ah:=Cf V ac AU;obtain⟨s0,s1,s2,s3,t0,t1,t2,t3⟩:=(⟨ah.frozenAt (j*4),ah.frozenAt (j*4+1),ah.frozenAt (j*4+2),ah.frozenAt (j*4+3),(Df ac aW AU).trans r0,(Df ac aW AU).trans r1,(Df ac aW AU).trans r2,(Df ac aW AU).trans r3⟩:E.frozen? ⟨m,j*4,none⟩=false/\E.frozen? ⟨m,j*4+1,none⟩=false/\E.frozen? ⟨m,j*4+2,none⟩=false/\E.frozen? ⟨m,j*4+3,none⟩=false/\E.cell? ⟨m,j*4,none⟩=_/\E.cell? ⟨m,j*4+1,none⟩=_/\E.cell? ⟨m,j*4+2,none⟩=_/\E.cell? ⟨m,j*4+3,none⟩=_);clear r0 r1 r2 r3)
    obtain⟨W,hW⟩:∃W,W=EF E m (j*4) [.int .i64 i5, .int .i64 o5, .slice f1 k1 l1, .slice f2 k2 l2]:=⟨_,rfl⟩
    have an:E.grownBy W (some m):=by rw[hW];exact Uh _ _ _
    have ae:=ap.put (k:=4) (x:=(ak+20,[.int .i64 i5, .int .i64 o5, .slice f1 k1 l1, .slice f2 k2 l2])) (css:=css) (o:=j*4) (i:=j) (.head _);have ax:=OT (x:=(ak+20,[.int .i64 i5, .int .i64 o5, .slice f1 k1 l1, .slice f2 k2 l2])) ap.tl ah AZ hj rfl;rw[<-hW] at ae ax;have uP:((((E.setCell ⟨m,j*4,none⟩ (.int .i64 i5)).setCell ⟨m,j*4+1,none⟩ (.int .i64 o5)).setCell ⟨m,j*4+2,none⟩ (.slice f1 k1 l1)).setCell ⟨m,j*4+3,none⟩ (.slice f2 k2 l2))=W:=hW.symm;rw[uP];have hI:=StL.ice (s:=r+20) (bs:=(w.heap.size+1)::w.heap.size::bs) ae (v:=.slice (some ⟨m,0,none⟩) css.length cc) ax (λb hb=>by have:=au b hb;omega) (by have:=aF (ak+20,[.int .i64 i5, .int .i64 o5, .slice f1 k1 l1, .slice f2 k2 l2]) (B7 _);omega) (by rw[Gk];omega);obtain⟨aa,Y,q1,Z,X,U,R,p2,S⟩:=(l.grownO ac Ax).grownO an Ax;obtain⟨ab,C,A,B,z,T,O,p6,Q⟩:=(f.grownO ac Ax).grownO an Ax;have af:w.grownBy W (some g):=Ih (Bl n ac) an (λj e=>by cases e;omega);clear hW uP ax ae an ac ah V ap hS s0 s1 s2 s3 t0 t1 t2 t3 HI aF l f n
    go_wp2
    refine bodyPost_ret (by simp[results,results94,go_sem,C,A,B,z];rfl) rfl ?_;exact⟨_,_,_,_,_,_,_,_,rfl,HF _ _ (r+20) _ _ _ _ _ ((hI.set (.tail _ (.head _))).set4 (.head _)) AW AW (λx F=>by simp[F]) AU AU hk ai,Av⟩
   | false=>
    clear ao IH l f;go_upto_region 9 with(go_at_call_of 33 (Value.int IntKind.i64 6);refine(Fe g _ _ _ ((hS).rd) AU AU AU).mono ?_;rintro e w2 ⟨x,rfl,aj,al,ad,t⟩;have hS:=(hS).go ad t;obtain⟨aa,Y,U,q1,R,Z,p2,X,S⟩:CW w2 w.heap.size (.int .i64 k) (.int .i64 op) (.slice I G H) (.slice N D J):=qb4;obtain⟨ab,C,T,A,O,B,p6,z,Q⟩:E9 w2 ((w.heap.size+1)):=FG;have n:=Bl (show w.grownBy _ (some g) from Av) t;clear ad t)
    have F:x=0\/x=1\/x=2\/x=3\/x=4\/x=5:=AU
    clear aj al;have l:EP w2 w.heap.size k op (.slice I G H) (.slice N D J):=⟨aa,Y,q1,Z,X,U,R,p2,S⟩
    have f:EP w2 (w.heap.size+1) 0 0 (.slice none 0 0) (.slice none 0 0):=⟨ab,C,A,B,z,T,O,p6,Q⟩
    rcases F with rfl | rfl | rfl | rfl | rfl | rfl
    .clear l f
     go_wp2_with (go_at_call_of 57 (7:Nat);refine(Zr g _ _ _ [-1,0,1,2,3,4,5] _ ((hS.alloc _).rd) AU (Dh (by simp[F5,go_sem])) AW BQ AW AW).mono ?_;rintro e w4 ⟨y,rfl,hy,ad,t⟩;have hS:=(hS.alloc _).go ad t;obtain⟨aa,Y,U,q1,R,Z,p2,X,S⟩:CW w4 w.heap.size (.int .i64 k) (.int .i64 op) (.slice I G H) (.slice N D J):=qb4;obtain⟨ab,C,T,A,O,B,p6,z,Q⟩:E9 w4 ((w.heap.size+1)):=FG;have n:=Bl (show w.grownBy _ (some g) from Av) t;clear ad t)
     have aE:Sm y:=by simp only[C2,EJ,EK] at hy;omega
     refine bodyPost_ret (by simp[results,results94,go_sem,C,A,B,z];rfl) rfl ?_;exact⟨_,_,_,_,_,_,_,_,rfl,HF _ _ r _ _ _ _ _ (((hS.more1 (M:=50001) AZ).set (.tail _ (.head _))).set4 (.head _)) AW AW (λx F=>by simp[F]) AU AU aE ai,Av⟩
    .go_wp2_with (first | (go_at_call 61;refine(Hy g _ _ hS.rd AU).mono ?_;rintro e E ho;obtain⟨aP,ea,en,ec,rfl,hS,t⟩:=hS.el ho AZ;replace V:=Cf V t AU;replace l:=l.grownO t Ax;replace f:=f.grownO t Ax;replace n:=Bl n t;obtain⟨aa,Y,q1,Z,X,U,R,p2,S⟩:=id l;obtain⟨ab,C,A,B,z,T,O,p6,Q⟩:=id f) | (at_builtin;refine Bd rfl rfl (StL.push (v:=.slice (some ⟨m,0,none⟩) css.length cc) (bs:=(w.heap.size+1)::w.heap.size::bs) (css:=css) _ kd4 (hS.contact (i:=1) AZ) V yBe AU) rfl rfl ?_;rintro v' w6 ⟨hown6,ae,aC,-⟩;obtain⟨iI,gZ,rfl,-⟩:=G8 hown6;replace l:=l.grownO aC BW;replace f:=f.grownO aC BW;replace n:=Ih n aC (λj e=>by have:=(V.lt _ e).1;omega);obtain⟨aa,Y,q1,Z,X,U,R,p2,S⟩:=id l;obtain⟨ab,C,A,B,z,T,O,p6,Q⟩:=id f) | (at_builtin;refine Bd rfl rfl (StL.copy _ kd4 hS (.head _) AZ) rfl rfl ?_;rintro v' w3 ⟨css,m,cc,rfl,rfl,htt,V,hS,K,aB,gV⟩;replace l:=l.grownO K AW;replace f:=f.grownO K AW;replace n:=Ih n K (λj e=>by cases e);clear K;obtain⟨aa,Y,q1,Z,X,U,R,p2,S⟩:=id l;obtain⟨ab,C,A,B,z,T,O,p6,Q⟩:=id f))
     refine bodyPost_ret (by simp[results,results94,go_sem,C,A,B,z];rfl) rfl ?_;have hI:=(ae.more1 (M:=50001) AZ).ice (s:=r+1) (bs:=(w.heap.size+1)::w.heap.size::bs) (css:=css++[(1,[.int .i64 1, .int .i64 aP, .slice ea en ec, .slice none 0 0])]) BX (λb hb=>by have:=au b hb;omega) yAh Ax;exact⟨_,_,_,_,_,_,_,_,rfl,HF _ _ (r+1) _ _ _ _ _ ((hI.set (.tail _ (.head _))).set4 (.head _)) AW AW (λx F=>by simp[F]) AU AU hk ai,Av⟩
    .clear l f
     go_wp2
     refine bodyPost_ret (by simp[results,results94,go_sem,C,A,B,z];rfl) rfl ?_;exact⟨_,_,_,_,_,_,_,_,rfl,HF _ _ 0 _ _ _ _ _ ((((hS.more1 (M:=50001) AZ).nils (k:=4)).set (.tail _ (.head _))).set4 (.head _)) AW AW (λx F=>by simp[F]) AU AU hk ai,Av⟩
    .clear l f
     go_wp2_with (go_at_call 58;refine(Ql g _ _ (hS).rd AU).mono ?_;rintro e E ho;obtain⟨aP,ea,en,ec,rfl,hS,t⟩:=(hS).el ho AZ;obtain⟨aa,Y,U,q1,R,Z,p2,X,S⟩:CW E w.heap.size (.int .i64 k) (.int .i64 op) (.slice I G H) (.slice N D J):=qb4;obtain⟨ab,C,T,A,O,B,p6,z,Q⟩:E9 E ((w.heap.size+1)):=FG;have n:=Bl (show w.grownBy _ (some g) from Av) t;clear ho t)
     obtain⟨aw,hS⟩:=hS.elOf;refine bodyPost_ret (by simp[results,results94,go_sem,C,A,B,z];rfl) rfl ?_;exact⟨_,_,_,_,_,_,_,_,rfl,HF _ _ r _ _ _ _ _ ((((hS.more1 (M:=50001) AZ).set (.tail _ (.head _))).set (.tail _ (.head _))).set4 (.head _)) AW AW (λx F=>by simp[F]) AU AU hk aw,Av⟩
    .clear l f
     obtain⟨ds,aD,aK,aH⟩:=hS.devs (v:=.slice I G H) λaI hS=>ClT.sl (k:=3) (hS (13,0,[.slice I G H]) (.tail _ (.head _)))
     have aJ:=DU aD;clear aD
     go_wp2_with (go_at_call 93;refine(VF g _ op _ ds _ hS.rd AU ai aJ aK aH).mono ?_;rintro e E ho;obtain⟨aP,ea,en,ec,rfl,hS,t⟩:=(hS.more1 (M:=50001) AZ).el ho AU;obtain⟨aa,Y,U,q1,R,Z,p2,X,S⟩:CW E w.heap.size (.int .i64 k) (.int .i64 op) (.slice I G H) (.slice N D J):=qb4;obtain⟨ab,C,T,A,O,B,p6,z,Q⟩:E9 E ((w.heap.size+1)):=FG;replace n:=Bl n t)
     obtain⟨aw,hS⟩:=hS.elOf;refine bodyPost_ret (by simp[results,results94,go_sem,C,A,B,z];rfl) rfl ?_;exact⟨_,_,_,_,_,_,_,_,rfl,HF _ _ r _ _ _ _ _ (((hS.set (.tail _ (.head _))).set (.tail _ (.head _))).set4 (.head _)) AW AW (λx F=>by simp[F]) AU AU hk aw,Av⟩
    .go_wp2_with (first | (at_builtin;refine Bd rfl rfl (StL.push (v:=.slice (some ⟨m,0,none⟩) css.length cc) (bs:=(w.heap.size+1)::w.heap.size::bs) (css:=css) _ kd4 (hS.add (y:=(4,1,[.int .i64 0, .int .i64 0, .slice none 0 0, .slice none 0 0])) λaI _=>ClT.mkN AZ AZ SlT.nil (SlT.nil (s:=0)) AZ) V yBe AU) rfl rfl ?_;rintro v' w6 ⟨hown6,ae,aC,-⟩;obtain⟨iI,gZ,rfl,-⟩:=G8 hown6;replace l:=l.grownO aC BW;replace f:=f.grownO aC BW;replace n:=Ih n aC (λj e=>by have:=(V.lt _ e).1;omega);obtain⟨aa,Y,q1,Z,X,U,R,p2,S⟩:=id l;obtain⟨ab,C,A,B,z,T,O,p6,Q⟩:=id f) | (at_builtin;refine Bd rfl rfl (StL.copy _ kd4 hS (.head _) AZ) rfl rfl ?_;rintro v' w3 ⟨css,m,cc,rfl,rfl,htt,V,hS,K,aB,gV⟩;replace l:=l.grownO K AW;replace f:=f.grownO K AW;replace n:=Ih n K (λj e=>by cases e);clear K;obtain⟨aa,Y,q1,Z,X,U,R,p2,S⟩:=id l;obtain⟨ab,C,A,B,z,T,O,p6,Q⟩:=id f))
     refine bodyPost_ret (by simp[results,results94,go_sem,C,A,B,z];rfl) rfl ?_;have hI:=(ae.more1 (M:=50001) AZ).ice (s:=r+1) (bs:=(w.heap.size+1)::w.heap.size::bs) (css:=css++[(1,[.int .i64 0, .int .i64 0, .slice none 0 0, .slice none 0 0])]) BX (λb hb=>by have:=au b hb;omega) yAh Ax;exact⟨_,_,_,_,_,_,_,_,rfl,HF _ _ (r+1) _ _ _ _ _ ((hI.set (.tail _ (.head _))).set4 (.head _)) AW AW (λx F=>by simp[F]) AU AU hk ai,Av⟩
def B6 (w:World)(b:Nat)(v0 v1 v2 v3 v4 v5:Value):Prop:=b<w.heap.size/\(w.cell? ⟨b,0,none⟩=some v0/\w.cell? ⟨b,1,none⟩=some v1/\w.cell? ⟨b,2,none⟩=some v2/\w.cell? ⟨b,3,none⟩=some v3/\w.cell? ⟨b,4,none⟩=some v4/\w.cell? ⟨b,5,none⟩=some v5)/\∀o,o<6->w.frozen? ⟨b,o,none⟩=false
theorem B6.below {w:World}{n b:Nat}{v0:Value}(h:B6 w b v0 v1 v2 v3 v4 v5)(a:Below n w w')(e:b<n):B6 w' b v0 v1 v2 v3 v4 v5:=by
 obtain⟨x,⟨y,t,k,j,l,m⟩,f⟩:=h;refine⟨B8 x a.size,⟨(a.cell (p:=⟨b,0,none⟩) e).trans y,(a.cell (p:=⟨b,1,none⟩) e).trans t,(a.cell (p:=⟨b,2,none⟩) e).trans k,(a.cell (p:=⟨b,3,none⟩) e).trans j,(a.cell (p:=⟨b,4,none⟩) e).trans l,(a.cell (p:=⟨b,5,none⟩) e).trans m⟩,λo z=>(a.frozen (p:=⟨b,o,none⟩) e).trans (f o z)⟩
def B6.at {w:World}{b:Nat}{v0:Value}(h:B6 w b v0 v1 v2 v3 v4 v5)(a:Below w.heap.size w w'):B6 w' b v0 v1 v2 v3 v4 v5:=h.below a h.1
def B6.grown {w:World}{b:Nat}{r:Option Nat}{v0:Value}(h:B6 w b v0 v1 v2 v3 v4 v5)(hg:w.grownBy w' r)(e:r≠some b):B6 w' b v0 v1 v2 v3 v4 v5:=by
 obtain⟨a,⟨t,n,k,j,l,m⟩,f⟩:=h;exact⟨B8 a hg.size,⟨(Fj hg a e).trans t,(Fj hg a e).trans n,(Fj hg a e).trans k,(Fj hg a e).trans j,(Fj hg a e).trans l,(Fj hg a e).trans m⟩,λo x=>(Kr hg a e).trans (f o x)⟩
def B6.setO {w:World}{b c o:Nat}{v0:Value}(h:B6 w b v0 v1 v2 v3 v4 v5)(a:b≠c)(u:Value):B6 (w.setCell ⟨c,o,none⟩ u) b v0 v1 v2 v3 v4 v5:=by
 obtain⟨n,⟨t,m,j,e,k,l⟩,f⟩:=h;exact⟨B8 n (Jm _ _ _),⟨(Dz a).trans t,(Dz a).trans m,(Dz a).trans j,(Dz a).trans e,(Dz a).trans k,(Dz a).trans l⟩,λo x=>PL.trans (f o x)⟩
def B6.set4 {w:World}{b:Nat}{v0:Value}(h:B6 w b v0 v1 v2 v3 v4 v5)(u:Value):B6 (w.setCell ⟨b,4,none⟩ u) b v0 v1 v2 v3 u v5:=by
 obtain⟨m,⟨n,l,e,a,j,k⟩,f⟩:=h;exact⟨B8 m (Jm _ _ _),⟨(Eg AU).trans n,(Eg AU).trans l,(Eg AU).trans e,(Eg AU).trans a,Fp j,(Eg AU).trans k⟩,λo t=>PL.trans (f o t)⟩
def B6.set5 {w:World}{b:Nat}{v0:Value}(h:B6 w b v0 v1 v2 v3 v4 v5)(u:Value):B6 (w.setCell ⟨b,5,none⟩ u) b v0 v1 v2 v3 v4 u:=by
 obtain⟨m,⟨n,l,e,a,j,k⟩,f⟩:=h;exact⟨B8 m (Jm _ _ _),⟨(Eg AU).trans n,(Eg AU).trans l,(Eg AU).trans e,(Eg AU).trans a,(Eg AU).trans j,Fp k⟩,λo t=>PL.trans (f o t)⟩
theorem B6.new (w:World)(v0 v1 v2 v3 v4 v5:Value)(t:TypeId):B6 (w.alloc (.cells #[v0,v1,v2,v3,v4,v5] t)) w.heap.size v0 v1 v2 v3 v4 v5:=by
 refine⟨AW,⟨?_,?_,?_,?_,?_,?_⟩,λo _=>?_⟩<;>simp[go_sem]
