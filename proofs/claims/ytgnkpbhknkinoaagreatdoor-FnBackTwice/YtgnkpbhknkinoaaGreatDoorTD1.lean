import Derived.Stop.Asserts
import Derived.Test.YtgnkpbhknkinoaaGreatDoorGX
import Derived.Test.YtgnkpbhknkinoaaGreatDoorNT2
import Derived.Test.YtgnkpbhknkinoaaGreatDoorM51
import Derived.Test.YtgnkpbhknkinoaaGreatDoorW14a
import Derived.Test.YtgnkpbhknkinoaaGreatDoorGy
set_option linter.defProp false
set_option maxHeartbeats 4000000
set_option maxRecDepth 100000
namespace Go.Proofs.YtgnkpbhknkinoaaGreatDoor
open Tryz Stil Go.RowKit Go.Extern.Stop Go.Stop Go.Extern
def as_nil(t:AW)(w:AU):Calls prog 94 #[.nilIface,t] w λe a=>e=.returned (.bool false)/\a=w:=by go_enter func94,ntmps94;go_wp2;go_ret;exact⟨rfl,rfl⟩
abbrev tpv(t:Nat):Value:=.pointer (some ⟨4,t,none⟩)
abbrev tyv(t:Nat):Value:=.iface 194 (.agg #[tpv t])
abbrev rfv(t:Nat)(a:Ab)(f:Int):AW:=.agg #[tpv t,.pointer (some a),.int .u64 f]
structure AsT(pt et:Nat)(ef kd:Int):Prop where
 v1:∀(t:Addr)(w:World),(ReflectliteValue.unpack (.iface pt (.pointer (some t)))).run prog w=.ok (rfv pt ⟨w.heap.size,0,none⟩ 150) (w.alloc (.cells #[.pointer (some t)] pt))
 v2:∀(a:Addr)(w:World),(ReflectliteValue.methodAny (ReflectliteValue.valueError "reflectlite.Value.Type" 0) (λt _ _ _=>ReflectliteType.toType t) #[rfv pt a 150]).run prog w=.ok (tyv pt) w
 k1:∀w:World,((ReflectliteType.abiMethod λt=>(λa:Nat=>Value.int IntKind.u8 (a:Int))<$>Rtype.kind t) #[tpv pt]).run prog w=.ok (.int .u8 22) w
 k2:∀w:World,((ReflectliteType.abiMethod λt=>(λa:Nat=>Value.int IntKind.u8 (a:Int))<$>Rtype.kind t) #[tpv et]).run prog w=.ok (.int .u8 kd) w
 e1:∀w:World,(ReflectliteType.method ReflectliteType.elem #[.agg #[tpv pt]]).run prog w=.ok (tyv et) w
 pp:∀(a:Addr)(w:World),(ReflectliteValue.parts (rfv pt a 150)).run prog w=.ok (some (pt,a,150)) w
 un:prog.underlying pt=some (.pointer et)
 eo:∀w:World,(Rtype.elem? pt).run prog w=.ok (some et) w
 mq:∀(p:Addr)(w:World),(ReflectliteValue.mk et p ReflectliteValue.flagAddr).run prog w=.ok (rfv et p ef) w
structure AsS(et st:Nat)(sv:Value)(cs:Array Value)(sf:Int):Prop where
 tO:∀w:World,(ReflectliteType.typeOf #[.iface st sv]).run prog w=.ok (tyv st) w
 aB:∀w:World,(ReflectliteType.relation "AssignableTo" ReflectliteType.assignableTo #[.agg #[tpv st],tyv et]).run prog w=.ok (.bool true) w
 vB:∀w:World,(ReflectliteValue.unpack (.iface st sv)).run prog w=.ok (rfv st ⟨w.heap.size,0,none⟩ sf) (w.alloc (.cells cs st))
def AsW(et st:Nat)(ef sf:Int)(cs:Array Value)(out:Value):Prop:=∀(W:World)(a:Addr)(old:Value),(W.alloc (.cells cs st)).cell? a=some old->(W.alloc (.cells cs st)).frozen? a=false->(ReflectliteValue.set #[rfv et a ef,rfv st ⟨W.heap.size,0,none⟩ sf]).run prog (W.alloc (.cells cs st))=.ok (.tuple #[]) ((W.alloc (.cells cs st)).setCell a out)
section
variable {pt et st:Nat}{ef sf kd:Int}{sv out:Value}{cs:Array Value}
def AsT.isNil(T:AsT pt et ef kd)(a p:Ab)(W:AU)(c:W.cell? a=some (.pointer (some p))):(ReflectliteValue.method (ReflectliteValue.valueError "reflectlite.Value.IsNil" 0) ReflectliteValue.isNil #[rfv pt a 150]).run prog W=.ok (.bool false) W:=by change Sem.run _ (ReflectliteValue.parts (rfv pt a 150)>>=_) _=_;simp only[Sem.run_bind,T.pp,Result.andThen];simp[ReflectliteValue.isNil,loadVar,isAgg,underlying,T.un,c,Result.andThen]
def AsT.elem(T:AsT pt et ef kd)(a p:Ab)(W:AU)(c:W.cell? a=some (.pointer (some p))):(ReflectliteValue.method (ReflectliteValue.valueError "reflectlite.Value.Elem" 0) ReflectliteValue.elem #[rfv pt a 150]).run prog W=.ok (rfv et p ef) W:=by change Sem.run _ (ReflectliteValue.parts (rfv pt a 150)>>=_) _=_;simp only[Sem.run_bind,T.pp,Result.andThen];simp[ReflectliteValue.elem,loadVar,isAgg,underlying,T.un,c,Result.andThen,T.eo,T.mq]
end
variable {W:AU}{v:AW}
def xj(h:AW)(w:AU):(Go.method 392 194 (.agg #[h]) "Kind").run prog w=.ok (245,h) w:=BW
def xl(h:AW)(w:AU):(Go.method 392 194 (.agg #[h]) "Elem").run prog w=.ok (262,.agg #[h]) w:=BW
def jL(h:Value)(w:World):(Go.method 392 194 (.agg #[h]) "Implements").run prog w=.ok (263,.agg #[h]) w:=BW
def Ax4(h:AW)(w:AU):(Go.method 392 194 (.agg #[h]) "AssignableTo").run prog w=.ok (260,.agg #[h]) w:=BW
theorem Eo{t:Ab}(h:W.cell? t=some v):t.block<W.heap.size:=by
 rcases GI t.block W.z with a|a
 .exact a
 simp[World.cell?,PC a]at h
def Dt{t:Addr}(ob:Obj)(h:W.cell? t=some v):(W.alloc ob).cell? t=some v:=((Aa W ob).cell (Eo h)).trans h
def Jf{t:Ab}(ob:Obj)(h:W.cell? t=some v)(a:W.frozen? t=false):(W.alloc ob).frozen? t=false:=((Aa W ob).frozen (Eo h)).tr a
section
variable {pt et st:Nat}{ef sf kd:Int}{sv out:AW}{cs:Array AW}
theorem zca{p:Prop}(h:p:=by have h6:=@run_callFunc_extern prog 122 _ (λargs=>ReflectliteValue.unpack (args.getD 0 (.tuple #[]))) func122 BW BW BW BW;have h7:=@run_callFunc_extern prog 123 _ (ReflectliteValue.methodAny (ReflectliteValue.valueError "reflectlite.Value.Type" 0) (λt _ _ _=>ReflectliteType.toType t)) func123 BW BW BW BW;have h8:=@run_callFunc_extern prog 124 _ (ReflectliteValue.method (ReflectliteValue.valueError "reflectlite.Value.IsNil" 0) ReflectliteValue.isNil) func124 BW BW BW BW;have h27:=@run_callFunc_extern prog 245 _ (ReflectliteType.abiMethod λt=>do pure (.int .u8 (<-Rtype.kind t))) func245 BW BW BW BW;have h37:=@run_callFunc_extern prog 262 _ (ReflectliteType.method ReflectliteType.elem) func262 BW BW BW BW;have h10:=@run_callFunc_extern prog 156 _ (ReflectliteType.typeOf) func156 BW BW BW BW;have h35:=@run_callFunc_extern prog 260 _ (ReflectliteType.relation "AssignableTo" ReflectliteType.assignableTo) func260 BW BW BW BW;have h11:=@run_callFunc_extern prog 157 _ (ReflectliteValue.method (ReflectliteValue.valueError "reflectlite.Value.Elem" 0) ReflectliteValue.elem) func157 BW BW BW BW;have h12:=@run_callFunc_extern prog 158 _ (ReflectliteValue.set) func158 BW BW BW BW;have f6:=T.v1;have f7:=T.v2;have k1:=T.k1;have k2:=T.k2;have e1:=T.e1;have tO:=S.tO;have aB:=S.aB;have vB:=S.vB;have mK:=xj;have mE:=xl;have mA:=Ax4;have n8:=T.isNil ⟨w.heap.size,0,none⟩ t ((w.alloc (.cells #[.pointer (some t)] pt)).alloc (.cells #[tpv pt,.pointer (some ⟨w.heap.size,0,none⟩),.int .u64 150] 165)) (Dt _ BU);have el:=T.elem ⟨w.heap.size,0,none⟩ t (((w.alloc (.cells #[.pointer (some t)] pt)).alloc (.cells #[tpv pt,.pointer (some ⟨w.heap.size,0,none⟩),.int .u64 150] 165)).alloc (.cells #[tpv pt,.pointer (some ⟨w.heap.size,0,none⟩),.int .u64 150] 165)) (Dt _ (Dt _ BU));have st:=U (((w.alloc (.cells #[.pointer (some t)] pt)).alloc (.cells #[tpv pt,.pointer (some ⟨w.heap.size,0,none⟩),.int .u64 150] 165)).alloc (.cells #[tpv pt,.pointer (some ⟨w.heap.size,0,none⟩),.int .u64 150] 165)) t old (Dt _ (Dt _ (Dt _ (Dt _ ht0)))) (Jf _ (Dt _ (Dt _ (Dt _ ht0))) (Jf _ (Dt _ (Dt _ ht0)) (Jf _ (Dt _ ht0) (Jf _ ht0 hf0))));simp only[World.size_alloc]at st;go_enter func94,ntmps94;go_wp2;refine wp_loop_rounds 1 ?_;rw[rounds_succ];go_wp2;go_ret;exact⟨rfl,_,BV,rfl⟩):p:=h
def TS(T:AsT pt et ef 20)(S:AsS et st sv cs sf)(U:AsW et st ef sf cs out)(t:Addr)(old:Value)(w:World)(ht0:w.cell? t=some old)(hf0:w.frozen? t=false):
  Calls prog 94 #[.iface st sv,.iface pt (.pointer (some t))] w λd c=>d=.returned (.bool true)/\∃a,Below w.heap.size w a/\c=a.setCell t out:=by exact zca
theorem nh(T:AsT pt et ef kd)(S:AsS et st sv cs sf)(U:AsW et st ef sf cs out)(e:(kd==20)=false)(l:∀w:World,(ReflectliteType.relation "Implements" ReflectliteType.implements_ #[.agg #[tpv et],tyv 39]).run prog w=.ok (.bool true) w)(t:Addr)(old:Value)(w:World)(hg:w.cell? ⟨0,0,none⟩=some (tyv 39))(ht0:w.cell? t=some old)(hf0:w.frozen? t=false):
  Calls prog 94 #[.iface st sv,.iface pt (.pointer (some t))] w λc d=>c=.returned (.bool true)/\∃a,Below w.heap.size w a/\d=a.setCell t out:=by
 have j:=@run_callFunc_extern prog 263 _ (ReflectliteType.relation "Implements" ReflectliteType.implements_) func263 BW BW BW BW;have o:=jL;have r:((w.alloc (.cells #[.pointer (some t)] pt)).alloc (.cells #[tpv pt,.pointer (some ⟨w.heap.size,0,none⟩),.int .u64 150] 165)).cell? ⟨0,0,none⟩=some (tyv 39):=Dt _ (Dt _ hg);have f:(kd !=20)=true:=by simp[bne,e]
 exact zca
end
variable {g:Nat}{v:Value}
def oY:AsT 278 176 386 2:=⟨λ_ _=>by kernel_rfl,λ_ _=>by kernel_rfl,λ_=>by kernel_rfl,λ_=>by kernel_rfl,λ_=>by kernel_rfl,λ_ _=>by kernel_rfl,underlying278,λ_=>by kernel_rfl,λ_ _=>by kernel_rfl⟩
theorem lW(k:Int):AsW 176 176 386 130 #[AB k] (AB k):=by
 intro W a old j e;have l:(W.alloc (.cells #[AB k] 176)).c (AL W 0)=some (AB k):=BU;have d:∀w:AU,(Rtype.directlyAssignable 176 176).run prog w=.ok true w:=λ_=>by kernel_rfl
 have c:∀w:AU,(ReflectliteValue.parts (rfv 176 a 386)).run prog w=.ok (some (176,a,386)) w:=λ_=>by kernel_rfl
 have f:∀w:AU,(ReflectliteValue.parts (rfv 176 (AL W 0) 130)).run prog w=.ok (some (176,(AL W 0),130)) w:=λ_=>by kernel_rfl
 change Sem.run _ (ReflectliteValue.parts (rfv 176 a 386)>>=λp=>ReflectliteValue.parts (rfv 176 (AL W 0) 130)>>=_) _=_;simp only[Sem.run_bind,c,f,Result.andThen];simp[ReflectliteValue.flagAddr,loadVar,isAgg,underlying,underlying176,l,Result.andThen,d,storeVar,Value.cells,storeCells,Addr.add];rw[run_store prog _ a _ _ Bn];simp[j,e]
def nj(k:Int)(t:Ab)(old:AW)(w:AU)(hg:w.cell? (AK 0 0)=some (.iface 194 (.agg #[.pointer (some (AK 4 39))])))(e:w.cell? t=some old)(c:w.frozen? t=false):
  Calls prog 94 #[.iface 176 (AB k),.iface 278 (.pointer (some t))] w λf d=>f=.returned (.bool true)/\∃a,AO w a/\d=a.setCell t (AB k):=nh oY ⟨λ_=>by kernel_rfl,λ_=>by kernel_rfl,λ_=>by kernel_rfl⟩ (lW k) BZ (λ_=>by kernel_rfl) t old w hg e c
open Go.Sort Go.BigFrame
def Es(w:AU):Prop:=w.cell? (AK 0 0)=some (.iface 194 (.agg #[.pointer (some (AK 4 39))]))
def Es.below{w w':AU}(h:Es w)(a:AO w w'):Es w':=(a.cell (Eo h)).tr h
def cz:AsT 135 132 404 20:=⟨λ_ _=>by kernel_rfl,λ_ _=>by kernel_rfl,λ_=>by kernel_rfl,λ_=>by kernel_rfl,λ_=>by kernel_rfl,λ_ _=>by kernel_rfl,underlying135,λ_=>by kernel_rfl,λ_ _=>by kernel_rfl⟩
theorem oO(k:Int):AsW 132 176 404 130 #[AB k] (.iface 176 (AB k)):=by
 intro W a old o j;have r:(W.alloc (.cells #[AB k] 176)).c (AL W 0)=some (AB k):=BU;have f:∀w:AU,(Rtype.directlyAssignable 132 176).run prog w=.ok false w:=λ_=>by kernel_rfl
 have d:∀w:AU,(Rtype.implements 132 176).run prog w=.ok true w:=λ_=>by kernel_rfl
 have c:∀w:AU,(Rtype.kind 176).run prog w=.ok 2 w:=λ_=>by kernel_rfl
 have e:∀w:AU,(ReflectliteValue.parts (rfv 132 a 404)).run prog w=.ok (some (132,a,404)) w:=λ_=>by kernel_rfl
 have l:∀w:AU,(ReflectliteValue.parts (rfv 176 (AL W 0) 130)).run prog w=.ok (some (176,(AL W 0),130)) w:=λ_=>by kernel_rfl
 change Sem.run _ (ReflectliteValue.parts (rfv 132 a 404)>>=λp=>ReflectliteValue.parts (rfv 176 (AL W 0) 130)>>=_) _=_;simp only[Sem.run_bind,e,l,Result.andThen];simp[ReflectliteValue.flagAddr,loadVar,isAgg,underlying,underlying176,r,Result.andThen,f,d,c,storeVar,Value.cells,storeCells,Addr.add];rw[run_store prog _ a _ _ Bn];simp[o,j]
theorem lU(u v:AW):AsW 132 179 404 153 #[u,v] (.iface 179 (.agg #[u,v])):=by
 intro W a old o j;have r:(loadCells (AL W 0) 2).run prog (W.alloc (.cells #[u,v] 179))=.ok #[u,v] (W.alloc (.cells #[u,v] 179)):=run_loadCells_list _ _ [u,v] (Vy W [u,v] _ _ rfl);have f:∀w:AU,(Rtype.directlyAssignable 132 179).run prog w=.ok false w:=λ_=>by kernel_rfl
 have d:∀w:AU,(Rtype.implements 132 179).run prog w=.ok true w:=λ_=>by kernel_rfl
 have c:∀w:AU,(Rtype.kind 179).run prog w=.ok 25 w:=λ_=>by kernel_rfl
 have e:∀w:AU,(ReflectliteValue.parts (rfv 132 a 404)).run prog w=.ok (some (132,a,404)) w:=λ_=>by kernel_rfl
 have l:∀w:AU,(ReflectliteValue.parts (rfv 179 (AL W 0) 153)).run prog w=.ok (some (179,(AL W 0),153)) w:=λ_=>by kernel_rfl
 change Sem.run _ (ReflectliteValue.parts (rfv 132 a 404)>>=λp=>ReflectliteValue.parts (rfv 179 (AL W 0) 153)>>=_) _=_;simp only[Sem.run_bind,e,l,Result.andThen];simp[ReflectliteValue.flagAddr,loadVar,isAgg,underlying,underlying179,r,Result.andThen,f,d,c,storeVar,Value.cells,storeCells,Addr.add];rw[run_store prog _ a _ _ Bn];simp[o,j]
def nm(k:Int)(t:Ab)(old:AW)(w:AU)(e:w.cell? t=some old)(c:w.frozen? t=false):
  Calls prog 94 #[.iface 176 (AB k),.iface 135 (.pointer (some t))] w λf d=>f=.returned (.bool true)/\∃a,AO w a/\d=a.setCell t (.iface 176 (AB k)):=TS cz ⟨λ_=>by kernel_rfl,λ_=>by kernel_rfl,λ_=>by kernel_rfl⟩ (oO k) t old w e c
def nf(u v:AW)(t:Ab)(old:AW)(w:AU)(e:w.cell? t=some old)(c:w.frozen? t=false):
  Calls prog 94 #[.iface 179 (.agg #[u,v]),.iface 135 (.pointer (some t))] w λf d=>f=.returned (.bool true)/\∃a,AO w a/\d=a.setCell t (.iface 179 (.agg #[u,v])):=TS cz ⟨λ_=>by kernel_rfl,λ_=>by kernel_rfl,λ_=>by kernel_rfl⟩ (lU u v) t old w e c
theorem kq(k:Int)(w:AU):Calls prog 255 #[AB k] w (AN w (.agg #[AB k,AB 0])):=by go_enter func255,ntmps255;go_wp2;refine BH (v:=.agg #[AB k,AB 0]) (by simp[results,results255,go_sem]) rfl ⟨rfl,BV⟩
theorem ko(k:Int)(j:Nat)(w:AU)(hg:Es w):Calls prog 258 #[.agg #[.int .i64 j,.iface 176 (.int .i64 k)]] w λe l=>e=.returned (.agg #[.int .i64 k,.int .i64 j])/\Below w.heap.size w l:=by have o:=BX (λW(h:Below w.heap.size w W)=>hg.below h);clear hg;go_enter func258,ntmps258;go_wp2_with(go_at_call 94;refine(nj k ⟨w.heap.size+1+1,0,none⟩ (.int .i64 0) _ (o _ BV) AP AP).mo ?_;rintro e t⟨rfl,c,d,rfl⟩;have x:c.cell? ⟨w.heap.size,0,none⟩=some (.int .i64 j):=(by rw[d.cell (p:=⟨w.heap.size,0,none⟩) Bw];simp[go_sem]);have r:c.cell? ⟨w.heap.size+1,0,none⟩=some (.int .i64 0):=(B0 d);have f:c.cell? ⟨w.heap.size+1,1,none⟩=some (.int .i64 0):=(B0 d);have s:c.f ⟨w.heap.size+1,0,none⟩=false:=(B1 d);have y:c.f ⟨w.heap.size+1,1,none⟩=false:=(B1 d);have z:c.cell? ⟨w.heap.size+1+1,0,none⟩=some (.int .i64 0):=(B0 d));refine BH (v:=.agg #[.int .i64 k,.int .i64 j]) (by simp[results,results258,go_sem,r,f]) rfl ⟨rfl,BV⟩
theorem rZ(l:List Stil.DJ)(k:Nat):¬0<(Ej l k).1->Ej l k=(0,0):=by induction l generalizing k with|nil=>intro _;rfl|cons x r c=>intro h;rw[Ej]at h⊢;split;{rename_i a;rw[BR a]at h;exact absurd a h};rename_i a;rw[BQ a]at h;exact c _ h
def Ax6(v:AW)(w:AU):(Go.method 392 176 v "loop.example/stilway/impl.fault").run prog w=.ok (255,v) w:=BW
def Ax5(u v:AW)(w:AU):(Go.method 392 179 (.agg #[u,v]) "loop.example/stilway/impl.fault").run prog w=.ok (258,.agg #[u,v]) w:=BW
theorem wC(l:List Stil.DJ)(X:AW)(w:AU)(hr:Ee w)(hg:Es w)(ad:Dx w X l)(hl:l.length<=1048576)(aa:Au l<=1000000000)(ab:∀x∈l,Bh x):
  Calls prog 56 #[X] w (AN w (.agg #[AB (Ap l).1,AB (Ap l).2])):=by
 have j:=BX (λW F=>Auu l X W (hr.below F) (ad.below F) hl aa ab);have HG:=BX (λW(h:AO w W)=>hg.below h);have K:=BX (rZ l 0);have s:Hid (Ap l=if 40<l.length\/400<Au l then(1,0) else Ej l 0):=rfl;obtain⟨a,cap,rfl,_⟩:=ad;have mB:=Ax6;have mR:=Ax5;have⟨E,ac⟩:=AA l.length;have⟨z,hz⟩:=AA (Au l);have⟨Q,Y⟩:=AA (Ej l 0);have⟨R,Z⟩:=AA (Ap l);rw[<-ac]at j s hl⊢;rw[<-hz]at j s;rw[<-Y]at j s K;rw[<-Z]at s⊢;clear ac hz Y Z hr hg ab aa;by_cases h1:40<E\/400<z
 .have J:Hid (R=(1,0)):=by show _=_;rw[s.out,BR h1]
  rw[FX h1]at j;have M:Hid (∀W,AO w W->Calls prog 95 #[AE a E cap] W (AN W (.iface 176 (AB 1)))):=j;clear j s h1 K;go_enter func56,ntmps56;go_wp2_with(first|(go_at_call 95;refine(M _ BV).mo ?_;rintro e c⟨rfl,d⟩;have D:c.cell? (AK (w.heap.size+1) 0)=some .nilIface:=(B0 d);have U:c.frozen? (AK (w.heap.size+1) 0)=false:=(B1 d);have y:c.cell? (AL w 0)=some (AB 0):=xAu;have N:c.frozen? (AL w 0)=false:=xAr;have A:c.cell? (AL w 1)=some (AB 0):=xAv;have q1:c.frozen? (AL w 1)=false:=xAs)|(go_at_call 94;refine(nm 1 (AK (w.heap.size+1) 0) .nilIface _ D U).mo ?_;rintro e w2⟨rfl,w4,f,rfl⟩;have c4:=(f.cell (Eo D)).tr D;have C:=(f.cell (Eo y)).tr y;have T:=(f.frozen (Eo y)).tr N;have t:=(f.cell (Eo A)).tr A;have V:=(f.frozen (Eo A)).tr q1)|(go_at_call 255;refine(kq _ _).mo ?_;rintro e L⟨rfl,r⟩;have G:=(r.cell (p:=(AL w 0)) (DL (Eo C) (Jh _ _ _))).tr ((Ea BS).tr C);have g0:L.frozen? (AL w 0)=false:=(r.frozen (p:=(AL w 0)) (DL (Eo C) (Jh _ _ _))).tr xAo;have H:=(r.cell (p:=(AL w 1)) (DL (Eo t) (Jh _ _ _))).tr ((Ea BS).tr t);have g1:L.frozen? (AL w 1)=false:=(r.frozen (p:=(AL w 1)) (DL (Eo t) (Jh _ _ _))).tr xAo));refine BH (v:=.agg #[AB 1,AB 0]) xBh rfl ⟨by rw[J.out];rfl,BV⟩
 rw[FM h1]at j;have S:Hid (R=Q):=by show _=_;rw[s.out,BQ h1]
 clear s h1;by_cases I:0<Q.1
 .have J:=BX S.out;have M:Hid (∀W,AO w W->Calls prog 95 #[AE a E cap] W (AN W (.iface 179 (.agg #[AB Q.2,.iface 176 (AB Q.1)])))):=λW F=>(j W F).mo λe o⟨O,hb⟩=>⟨by rw[O];unfold lookOf;simp[I],hb⟩;clear j I K;go_enter func56,ntmps56;go_wp2_with(first|(go_at_call 95;refine(M _ BV).mo ?_;rintro e c⟨rfl,d⟩;have D:c.cell? (AK (w.heap.size+1) 0)=some .nilIface:=(B0 d);have U:c.frozen? (AK (w.heap.size+1) 0)=false:=(B1 d);have y:c.cell? (AL w 0)=some (AB 0):=xAu;have N:c.frozen? (AL w 0)=false:=xAr;have A:c.cell? (AL w 1)=some (AB 0):=xAv;have q1:c.frozen? (AL w 1)=false:=xAs)|(go_at_call 94;refine(nf _ _ (AK (w.heap.size+1) 0) .nilIface _ D U).mo ?_;rintro e w2⟨rfl,w4,f,rfl⟩;have c4:=(f.cell (Eo D)).tr D;have C:=(f.cell (Eo y)).tr y;have T:=(f.frozen (Eo y)).tr N;have t:=(f.cell (Eo A)).tr A;have V:=(f.frozen (Eo A)).tr q1)|(go_at_call 258;refine(ko _ _ _ (HG _ BV)).mo ?_;rintro e L⟨rfl,r⟩;have G:=(r.cell (p:=(AL w 0)) (DL (Eo C) (Jh _ _ _))).tr ((Ea BS).tr C);have g0:L.frozen? (AL w 0)=false:=(r.frozen (p:=(AL w 0)) (DL (Eo C) (Jh _ _ _))).tr xAo;have H:=(r.cell (p:=(AL w 1)) (DL (Eo t) (Jh _ _ _))).tr ((Ea BS).tr t);have g1:L.frozen? (AL w 1)=false:=(r.frozen (p:=(AL w 1)) (DL (Eo t) (Jh _ _ _))).tr xAo));refine BH (v:=.agg #[AB Q.1,AB Q.2]) xBh rfl ⟨by rw[J.out],BV⟩
 have J:Hid (R=(0,0)):=by show _=_;rw[S.out];exact K I
 have M:Hid (∀W,AO w W->Calls prog 95 #[AE a E cap] W (AN W .nilIface)):=λW F=>(j W F).mo λe o⟨O,hb⟩=>⟨by rw[O];unfold lookOf;simp[I],hb⟩;clear j I K S;go_enter func56,ntmps56;go_wp2_with(first|(go_at_call 95;refine(M _ BV).mo ?_;rintro e c⟨rfl,d⟩;have G:c.cell? (AL w 0)=some (AB 0):=xAu;have N:c.frozen? (AL w 0)=false:=xAr;have H:c.cell? (AL w 1)=some (AB 0):=xAv;have q1:c.frozen? (AL w 1)=false:=xAs)|(go_at_call 94;refine(as_nil _ _).mo ?_;rintro e w2⟨rfl,rfl⟩));refine BH (v:=.agg #[AB 0,AB 0]) xBh rfl ⟨by rw[J.out];rfl,BV⟩
def MO(F:FuncId)(x:Stil.DI)(L:List Stil.Aw):Prop:=∀(a d:AW)(w:AU)(bs:List Nat)(c:Ao),Sv w bs c->Ar w a x.O.args->Fe w d x.K->Calls prog F #[.agg #[AB x.kind,AB x.O.op,a,d]] w (GQ Ol 3 77 L w bs c)
def UL(k:Int)(x:Stil.DI)(L:List Stil.Aw):Prop:=∀(a d:AW)(w:AU)(bs:List Nat)(c:Ao),Sv w bs c->Ar w a x.O.args->Fe w d x.K->Calls prog 107 #[AB k,.agg #[AB x.kind,AB x.O.op,a,d]] w (GQ Ol 3 77 L w bs c)
def zRa{p:Prop}(h:p:=by go_wp2_with(go_at_call 54;refine(HC _ BV _ _ hS).mo ?_;rintro e w1⟨a1,c1,rfl,hS,hb1⟩);go_ret;exact tw hS BV):p:=h
theorem eW(k:Int)(d:k=2\/k=3)(x:Stil.DI)(E:x.O.args.length<=1048576)(G:(Cf x).length<=900000)(s:x.kind≠1->MO 78 x (Cf x)):UL k x (Dp k x):=by
 intro o z w bs T h f l;have HC:=Af (λW(h:AO w W)cs j hs=>X5 x.O E o W cs j hs (f.below h));have hS:=h.alloc (.cells #[AB x.kind,AB x.O.op,o,z] 56);by_cases a:x.kind=1
 .rw[Je k x a];rw[a]at hS⊢;obtain⟨K,C,rfl,-⟩:=f;obtain⟨A,J,rfl,-⟩:=l;clear a s h;rcases d with rfl|rfl;all_goals go_enter func107,ntmps107;exact zRa
 rw[Ie k x a];have t:=Af (λW(h:AO w W)cs j hs=>s a o z W cs j hs (f.below h) (l.below h));have R:(x.kind==1)=false:=xAq;have⟨L,y⟩:=AA (Cf x);rw[<-y]at t G⊢;obtain⟨K,C,rfl,-⟩:=f;obtain⟨A,J,rfl,-⟩:=l;clear s h y HC;rcases d with rfl|rfl;all_goals go_enter func107,ntmps107;go_wp2_with(first|(go_at_call 78;refine(t _ BV _ _ hS).mo ?_;rintro e w1⟨a1,c1,S,rfl,c,hS,hb1⟩;have r:AO w w1:=BV;replace c:=Joins.ownsRow_le (base':=w.z) c BU)|(at_builtin;go_loud (refine Bi rfl rfl (M5 _ hS c r.size BS) rfl rfl ?_;rintro O Q⟨I,H,D,rfl,F,M,N⟩)));go_ret;exact⟨I,H,D,BU,F,M,r.grown N r.size (λk d=>(c.lt _ d).1)⟩
def zg0 {p:Prop}(h:p:=by
 obtain rfl:j=m:=by omega
 have hL:=HL.out;rw[FB (by rw[<-pX.out];exact DK _)] at hL;have HL2:=Af hL;obtain⟨_,q0,p0,q1,p1,q2,p2,q3,p3⟩:=hb0;clear HL hL;go_wp2;go_ret;rw[<-HL2.out];exact⟨ra,rc,xs,rfl,Joins.ownsRow_le hown (JJ _),hS,hB⟩):p:=h
def zJa {p:Prop}(h:p:=by
 rcases hpt with⟨h,_⟩|⟨_,h,_⟩|⟨_,_,x,h,_⟩
 .exact absurd h h1
 .intro h0;rw[h0]at h;simp at h
 intro h0;rw[h0] at h;cases h):p:=h
def zMa{p:Prop}(h:p:=by refine⟨⟨j+1,L++M,a3,c3,zs,HJ.out,by go_num,aF.symm,hl2,by rw[DT],hb0,hown3,hS3,hB3⟩,?_⟩;have hj3:=HJ.out;clear HJ;simp[intOf];omega):p:=h
theorem UF(n:Stil.DI):Stil.shp n->Cj n->Ac n<=1000->MO 78 n (Cf n):=by
 induction n using Gs with
 |h k e kids Q=>
  intro F aa hs T nv w bs ts h t s;simp only at t s;have A:=l8 F;simp only at A;have hpt:=ZR F;have C:=SJ _ F;have z:=(Hg _ _ _).1 aa;rw[Dk]at hs C;simp only at hs C;have H:∀x∈kids,Ac x<=1000:=λx hx=>by have:Ac x<=Stil.sizes kids:=Ey Ac kids x hx;omega
  have aj:kids.length<=1000:=by have:=F5 kids;omega
  have hS:=h.alloc (.cells #[AB k,AB e.op,T,nv] 56);by_cases h1:k=1;{subst h1;rw[Lt];have HC:=Af (λW(h:AO w W)cs N hs=>X5 e z.2.1.2.1 T W cs N hs (t.below h));obtain⟨R,Z,rfl,-⟩:=t;obtain⟨s1,E,rfl,-⟩:=s;clear Q H A hpt aa z C F hs h;go_enter func78,ntmps78;exact zRa}
  .have ar:kids≠[]:=by
    exact zJa
   obtain⟨x,r,rfl⟩:=PE ar;have fJ:=Af (λW(h:AO w W)=>s.below h);obtain⟨R,Z,rfl,-⟩:=t;obtain⟨s1,E,rfl,G⟩:=s;obtain⟨b,o,rfl,ap,l⟩:=G 0 BU;simp only[II,GZ,IL]at l;have⟨J,K,fP,gJ,Y,S,dY,fA⟩:=l.open;have I:=Af (λW(h:AO w W)cs N hs=>Q x BU (A x BU) (z.2.2.2 x BU) (H x BU) fP gJ W cs N hs (dY.below h) (fA.below h));have U:∀y∈x::r,(Cf y).length<=900000:=λy f=>by have:=SJ y (A y f);have:=H y f;omega
   have af:=U x BU;obtain⟨s2,n2,rfl,-⟩:=dY;obtain⟨s3,n3,rfl,-⟩:=fA;by_cases h4:k=4
   .subst h4
    obtain rfl:r=[]:=by
     rcases hpt with⟨h,_⟩|⟨h,_,_⟩|⟨_,_,aB,h,_⟩
     .omega
     .omega
     .simp only[List.cons.injEq]at h;exact h.2
    rw[Lu];have⟨X,O⟩:=AA (Cf x)
    rw[<-O]at I af⊢;simp only[DO,DU,ED];clear G l Q H F A hpt hs fJ aa z C U O h;go_enter func78,ntmps78
    go_wp2_with(first|(go_at_call 78;refine(I _ BV _ _ hS).mono ?_;rintro e w1⟨a1,c1,xs,rfl,hown,hS,hb1⟩;have ae:AO w w1:=BV;replace hown:=Joins.ownsRow_le (base':=w.heap.size) hown BU)|(at_builtin;go_loud (refine Bi rfl rfl (M5 _ hS hown ae.size BS) rfl rfl ?_;rintro v2 w2⟨a2,c2,zs,rfl,ab,ao,al⟩)))
    go_ret;exact⟨a2,c2,zs,BU,ab,ao,ae.grown al ae.size (λk hk=>(hown.lt _ hk).1)⟩
   .have fC:k=2\/k=3:=by
     rcases hpt with⟨h,_⟩|⟨h,_,_⟩|⟨h,_⟩<;>omega
    have HY:=Af (λy(f:y∈r)=>eW k fC y ((D8 (z.2.2.2 y (DY _ f))).2.1.2.1) (U y (DY _ f)) λ_=>Q y (DY _ f) (A y (DY _ f)) (z.2.2.2 y (DY _ f)) (H y (DY _ f)));have aE:(k==1)=false:=xAq
    have xY:(k==4)=false:=xAq
    have ac:=Jd (k:=k) e x r h1 h4;have dU:Hid (∀j,(Cf x++((r.take j).map (Dp k)).flatten).length<=900000):=by
     intro j;rw[ac]at C;have h2:((r.take j).map (Dp k)).flatten.length<=(r.map (Dp k)).flatten.length:=by
      conv=>rhs;rw[<-KC j r,D2,FY,DT]
      omega
     rw[DT]at C⊢;omega
    rw[ac];have⟨X,O⟩:=AA (Cf x)
    rw[<-O]at I dU⊢;simp only[DO]at hS⊢;have⟨m,hm⟩:=AA r.length
    have pX:=Af hm;rw[<-hm]at hS⊢;have aA:m<=999:=by simp only[DO]at aj;omega
    clear G l Q H hm F A hpt hs aa z C U ac af O h;have az:(0:Int)<(m:Int)+1:=BS
    have hA:=hS;clear hS;go_enter func78,ntmps78
    go_wp2_with(go_at_call 78;refine(I _ BV _ _ hA).mono ?_;rintro e w1⟨a1,c1,xs,rfl,hown,hS,hb1⟩;obtain⟨an,q0,p0,q1,p1,q2,p2,q3,p3⟩:Da w1 w.heap.size (AB k) (AB e.op) (AE R e.args.length Z) (AE (some (AK b o)) (m+1) E):=qB4)
    have dQ:RowKit.Below w.heap.size w w1:=BV;have hb0:Da w1 w.heap.size (AB k) (AB e.op) (AE R e.args.length Z) (AE (some (AK b o)) (m+1) E):=qN4;replace hown:=Joins.ownsRow_le (base':=w.heap.size+1) hown BU;clear q0 q1 q2 q3 p0 p1 p2 p3 an hb1 J K Y S I hA;go_loopw [3,4] (λd i wr=>∃(j:Nat)(L:List Stil.Aw)(ra:Option Ab)(rc:Nat)(xs:List AW),j<=m/\i=AB ((j:Int)+1)/\Hid (L=X++((r.take j).map (Dp k)).flatten)/\L.length<=900000/\d=AE ra L.length rc/\Da wr w.heap.size (AB k) (AB e.op) (AE R e.args.length Z) (AE (some (AK b o)) (m+1) E)/\wr.ownsRow (w.heap.size+1) 77 3 (AE ra L.length rc) L.length xs/\Sv wr (ob (AE ra L.length rc)++bs) ((Cc L,xs)::ts)/\AO w wr) (λ_ i _=>m+1 - (intOf i).toNat)
    case atStart=>exact⟨0,X,a1,c1,xs,BS,rfl,by show _=_;simp,by simpa using dU 0,rfl,hb0,hown,hS,dQ⟩
    case round=>
     clear hb0 hown hS dQ;obtain⟨j,L,ra,rc,xs,hj,rfl,HL,gU,rfl,hb0,hown,hS,hB⟩:=hrel;by_cases ai:j<m
     .have ag:j<r.length:=by have:=pX.out;omega
      have⟨pa,pc,ah,G⟩:=fJ wr hB;simp only[DO,BN,true_and]at ah;obtain⟨rfl,-,rfl⟩:=ah;have⟨b2,o2,yE,aI,l⟩:=G (j+1) yBe;simp only[E9,Addr.mk.injEq,Hh]at yE;obtain⟨rfl,rfl⟩:=yE;simp only[MX]at l;have⟨J,K,T,nv,Y,S,t,s⟩:=l.open;have HI:=Af (λW(h:AO wr W)cs N hs=>HY r[j] (DW ag) T nv W cs N hs (t.below h) (s.below h));have aF:Hid (X++((r.take (j+1)).map (Dp k)).flatten=L++Dp k r[j]):=by
       show _=_
       rw[HL.out,ER ag,D2,FY];simp
      have hl2:=dU (j+1);rw[aF.out]at hl2;have⟨M,hM⟩:=AA (Dp k r[j])
      rw[<-hM]at HI aF hl2;have⟨y,f⟩:=AA (r[j])
      rw[<-f]at HI J K t s;obtain⟨u0,m0,rfl,-⟩:=t;obtain⟨u1,m1,rfl,-⟩:=s;have ax:(0:Int)<=(j:Int)+1:=BS
      have aC:(j:Int)+1<(m:Int)+1:=BS
      have aG:((j:Int)+1).toNat=j+1:=BS
      have ak:L.length+M.length<=2000000:=by rw[DT]at hl2;omega
      have iL:Hid (∀V:AU,(∀c,c<=w.heap.size->V.heap[c]?=wr.heap[c]?)->(V.cell? (AL w 0)=some (AB k)/\V.cell? (AL w 3)=some (AE (some (AK b o)) (m+1) E)/\V.cell? (AK b (o+(j+1)*4))=some (AB y.kind)/\V.cell? (AK b (o+(j+1)*4+1))=some (AB y.O.op)/\V.cell? (AK b (o+(j+1)*4+2))=some (AE u0 y.O.args.length m0)/\V.cell? (AK b (o+(j+1)*4+3))=some (AE u1 y.K.length m1))):=λV hV=>by
       have⟨_,q0,_,_,_,_,_,q3,_⟩:=id hb0;have e1:=hV b (EL ap);have e0:=hV _ (DK _);exact⟨(BE (a:=(AL w 0)) e0).trans q0,(BE (a:=(AL w 3)) e0).trans q3,(BE (a:=(AK b _)) e1).trans J,(BE (a:=(AK b _)) e1).trans K,(BE (a:=(AK b _)) e1).trans Y,(BE (a:=(AK b _)) e1).trans S⟩
      have⟨g0,g1,g2,g3,g4,g5⟩:=iL wr (λ_ _=>rfl);have HJ:=BX ai;have hz:=hb0.1;clear f hM l G HL J K Y S dU fJ HY aI;go_upto_region 10 with fail
      go_region_held3 (λW'=>(W'.cell? (AL w 0)=some (AB k)/\W'.cell? (AL w 3)=some (AE (some (AK b o)) (m+1) E)/\W'.cell? (AK b (o+(j+1)*4))=some (AB y.kind)/\W'.cell? (AK b (o+(j+1)*4+1))=some (AB y.O.op)/\W'.cell? (AK b (o+(j+1)*4+2))=some (AE u0 y.O.args.length m0)/\W'.cell? (AK b (o+(j+1)*4+3))=some (AE u1 y.K.length m1))) (first|with_reducible assumption|with_reducible exact⟨Dj.trans g0,Dj.trans g1,Dj.trans g2,Dj.trans g3,Dj.trans g4,Dj.trans g5⟩|skip) (first|(refine Gf rfl rfl (Vz _ hS hown ab CW ak) rfl rfl ?_;rintro v3 w3⟨a3,c3,zs,rfl,hown3,hS3,ad⟩;have aw:=iL.out w3 (λc hc=>(ad.block c CW (λe=>by have:=(hown.lt _ e.symm).1;omega)).trans (D.block c CW));replace hb0:=(hb0.bel D).gr ad (λe=>by have:=(hown.lt _ e).1;omega);have hB3:=(Bd hB D).grown ad CW (λk hk=>by have:=(hown.lt _ hk).1;omega))|(go_simp;go_at_call 107;refine(HI.out _ ((BP _ _).drew) _ _ hS.drew).mono ?_;rintro e w2⟨a2,c2,ys,rfl,ab,hS,au⟩;have D:AO wr w2:=((BP wr.heap.size wr).drew).trans au;have aD:=D.size;have ay:=iL.out w2 (λc hc=>D.block c CW);replace hown:=ownsRow_below hown D))
      all_goals
       go_wp2
       exact zMa
     .exact zg0
def upTo(g:Nat):List Nat:=List.range (g+1)
def Jp{b:Nat}:b∈upTo g↔b<=g:=by unfold upTo;rw[List.mem_range];omega
def PY:g∈upTo g:=Jp.2 (DK _)
def PL{n:Nat}(h:g<n):∀b∈upTo g,b<n:=λ_ a=>Nat.lt_of_le_of_lt (Jp.1 a) h
theorem KV{b:Nat}:b∈ob v↔v.ownBlock=some b:=by
 unfold ob;cases v.b with
 |none=>simp|some c=>simp[eq_comm]
theorem gi{P Q:Nat->Prop}{w:AU}{ds:List Stil.DN}(h:Jg Q w v ds)(l:∀b,Q b->P b):SlC P w (H9 ds) v:=by
 obtain⟨a,cap,rfl,⟨c,d⟩,f⟩:=h;refine⟨a,cap,BU,by simpa using c,d,λt=>?_⟩;have⟨b,o,e,x,s,_⟩:=f 0 (by cases ds;exact absurd rfl t;simp);refine⟨b,o,Dh ds,e,l b x,s,Q6 ds,λj u r=>?_⟩
 have:=VQ (b:=b) (o:=o) (λi hi=>by
  have⟨y,z,c,_,_,d⟩:=f i hi;rw[e]at c;cases c
  exact d) j u r
 rwa [KR]at this
def Sv.devsNew{Q:Nat->Prop}{w:AU}{bs:List Nat}{ts:Ao}{ds:List Stil.DN}(h:Sv w bs ts)(hd:Jg Q w v ds)(a:∀b,Q b->b∉bs):Sv w bs (([sl (H9 ds)],[v])::ts):=⟨h.1,BA.2 ⟨Iz.2 (gi hd a),h.2⟩⟩
def GR(q g P n k B:Nat)(bs:List Nat)(W:AU)(v:AW)(hs:Ao):Prop:=∃(l:List Stil.Aw)(a:List AW),W.ownsRow B 77 3 v l.length a/\Sv W (ob v++bs) ((Cc l,a)::hs)/\(∀i∈l,Rf i/\i.O.args.length<=q)/\(k<=l.length/\l.length<=n)/\Ku W g P
section
variable {u:AW}
variable {q g P P' n n' m k k' B:Nat}{bs:List Nat}{w W W':AU}{v:AW}{hs ks:Ao}{es fs:List Stil.Aw}{cs ds:List AW}{i:Stil.Aw}{b:Nat}
def GR.rd(h:GR q g P n k B bs W v hs):Ku W g P:=let ⟨_,_,_,_,_,_,e⟩:=h;e
def GR.lo(h:GR q g P n k B bs W v hs):∀c,v.ownBlock=some c->B<=c/\c<W.heap.size:=let ⟨_,_,a,_⟩:=h;λc d=>a.lt c d
theorem GR.grown(h:GR q g P n k B bs W v hs)(p:g<B)(j:g∈bs)(hg:W.grownBy W' (some g))(hr:Ku W' g P'):GR q g P' n k B bs W' v hs:=by
 obtain⟨l,f,a,b,c,d,_⟩:=h
 exact⟨l,f,a.kept hg (by
  cases o:v.ownBlock with
  |none=>exact .inl rfl
  | some q=>exact .inr λe=>by cases e;have:=(a.lt _ o).1;omega),b.grow hg (λq e=>by cases e;exact EM _ j),c,d,hr⟩
def GR.form(h:GR q g P n k B bs W v hs):∃a c,∃m:Nat,v=.slice a m c:=by obtain⟨l,d,e,_⟩:=h;obtain⟨a,c,rfl,-⟩:=Js e;exact⟨_,_,_,rfl⟩
theorem GR.drew(h:GR q g P n k B bs W v hs):GR q g P n k B bs W.drew v hs:=by obtain⟨l,f,a,b,c,d,e⟩:=h;exact⟨l,f,a.drew,b.drew,c,d,OE e⟩
theorem GR.later(h:GR q g P n k B bs W v hs)(h1:P<=P')(j:n<=n')(o:k'<=k):GR q g P' n' k' B bs W v hs:=by obtain⟨l,f,a,b,c,d,e⟩:=h;exact⟨l,f,a,b,c,BS,Il e h1⟩
def GR.set{o:Nat}(h:GR q g P n k B bs W v hs)(j:b∈bs)(h1:b<B)(p:g<b):GR q g P n k B bs (W.setCell (AK b o) u) v hs:=by obtain⟨l,f,a,s,c,d,e⟩:=h;exact⟨l,f,ownsRow_setCell_below a h1 _,s.set (EM _ j),c,d,KP e p _⟩
theorem GR.der(h:GR q g P n k B bs W v hs)(f:∀l d,Sv W (ob v++bs) ((Cc l,d)::hs)->Sv W (ob v++bs) ((Cc l,d)::ks)):GR q g P n k B bs W v ks:=by obtain⟨l,d,a,b,c⟩:=h;exact⟨l,d,a,f l d b,c⟩
def GR.sub(h:GR q g P n k B bs W v hs)(f:∀x∈ks,x∈hs):GR q g P n k B bs W v ks:=h.der λ_ _ s=>s.sub (λ_ h=>h) (BA.2 ⟨.head _,λx a=>.tail _ (f x a)⟩)
def GR.cat(h:GR q g P n k B bs W v hs)(h1:(Cc es,cs)∈hs)(a:(Cc fs,ds)∈hs):GR q g P n k B bs W v ((Cc (es++fs),cs++ds)::hs):=h.der λ_ _ s=>by
 have:=s.cat (Ax h1) (Ax a)
 rw[<-D2]at this;exact this.sub (λ_ h=>h) (BA.2 ⟨.tail _ Av,BA.2 ⟨.head _,λx c=>.tail _ (Ax c)⟩⟩)
theorem GR.code(h:GR q g P n k B bs W v hs)(c:Int):GR q g P n k B bs W v ((Cc [F6 c],[.int .i64 c,.int .i64 0,.slice none 0 0])::hs):=h.der λ_ _ s=>(s.snil.mkI (i:=c) (op:=0) (ds:=[]) (.head _)).sub (λ_ h=>h) (List.forall_mem_cons.2 ⟨.tail _ (.tail _ (.head _)),List.forall_mem_cons.2 ⟨.head _,λ_x a=>.tail _ (.tail _ (.tail _ a))⟩⟩)
theorem GR.dev{Q:Nat->Prop}(h:GR q g P n k B bs W v hs)(hd:Jg Q W u i.O.args)(c:∀b,Q b->b∉ob v++bs):GR q g P n k B bs W v ((Cc [i],[AB i.code,AB i.O.op,u])::hs):=h.der λ_ _ s=>((s.devsNew hd c).mkI (i:=i.code) (op:=i.O.op) (ds:=i.O.args) Av).sub (λ_ h=>h) (BA.2 ⟨.tail _ (Ax Av),BA.2 ⟨.head _,λ_x a=>.tail _ (Ax (Ax a))⟩⟩)
theorem GR.put(y:AZ)(h:GR q g P n k B bs W v hs)(O:g<B)(J:B<=W.heap.size)(A:(Cc es,cs)∈hs)(I:∀i∈es,Rf i/\i.O.args.length<=q)(N:n+m<=1000000)(e:es.length=m):
  ∃t d,(Builtin.append_ #[23,23] y #[v,AE (some (AL W 0)) m m]).run prog (W.alloc (.cells cs.toArray 77))=.ok t d/\GR q g P (n+m) (k+m) B bs d t hs/\W.grownBy d v.ownBlock:=by subst e;obtain⟨l,K,z,C,H,Q,F⟩:=h;obtain⟨t,d,G,a,c,rfl,o,s,r,-⟩:=Sv.appM (f:=Ol) (L:=l) (M:=es) (u:=AE (some (AL W 0)) es.length es.length) y kdI (C.alloc (.cells cs.toArray 77)) Av (Ax A) (λ_=>rfl) ⟨_,_,by rw[DZ],.inr ⟨_,0,rfl,BU,λj u D=>by have:=Vy W cs 77 _ rfl j u D;rwa [KR]at this⟩⟩ (z.alloc _) yBd BS;exact⟨_,d,G,⟨l++es,_,o,s.sub (λ_ h=>h) (BA.2 ⟨.head _,λx E=>.tail _ (Ax E)⟩),λi hi=>(BI.1 hi).elim (H i) (I i),xCn,Qo (Gg F _) r (λk e=>by have:=(z.lt k e).1;omega)⟩,Io (grown_below (Aa _ _) _) r⟩
theorem GR.ice(h:GR q g P n k B bs W v hs)(j:∀b∈bs,b<B):∃(l:List Stil.Aw)(a:Option Ab)(c:Nat),v=AE a l.length c/\Sv W bs [([sl (Cc l)],[AE a l.length c])]/\(∀i∈l,Rf i/\i.O.args.length<=q)/\(k<=l.length/\l.length<=n)/\l.length<=c:=by obtain⟨l,s,d,e,r,p,_⟩:=h;obtain⟨a,c,rfl,o⟩:=Js d;exact⟨l,a,c,rfl,(e.ice Av xAz j).sub (λ_ h=>h) (λx f=>by cases BB.1 f;exact .head _),r,p,o⟩
def GS(q g P n:Nat)(w W:AU)(v:AW)(hs:Ao):Prop:=GR q g P n 0 w.heap.size (upTo g) W v hs/\w.grownBy W (some g)
theorem GS.new(h:Ku w g P):GS q g P 0 w (w.alloc (.cells #[] 77)) (AE (some (AL w 0)) 0 0) []:=by have a:=World.ownsRow_lit (base:=w.z) (e:=77) (size:=3) w #[] 0 BS CH rfl;exact⟨⟨[],[],xCk,(Sv.box (bs:=upTo g) (ts:=[]) ⟨PL (Jb h),λx c=>by cases c⟩ _).nil,λ_ h=>CQ,⟨DK _,DK _⟩,Gg h _⟩,grown_below (Aa _ _) _⟩
def GS.rd(h:GS q g P n w W v hs):Ku W g P:=h.1.rd
def GS.grown(h:GS q g P n w W v hs)(a:g<w.heap.size)(hg:W.grownBy W' (some g))(hr:Ku W' g P'):GS q g P' n w W' v hs:=⟨h.1.grown a PY hg hr,Io h.2 hg⟩
def GS.below(h:GS q g P n w W v hs)(c:g<w.heap.size)(a:AO W W'):GS q g P n w W' v hs:=h.grown c (grown_below a _) (Qo h.rd (grown_below a none) BU)
def GS.later(h:GS q g P n w W v hs)(h1:P<=P')(a:n<=m):GS q g P' m w W v hs:=⟨h.1.later h1 a (DK _),h.2⟩
def GS.sub(h:GS q g P n w W v hs)(k:∀x∈ks,x∈hs):GS q g P n w W v ks:=⟨h.1.sub k,h.2⟩
def GS.cat(h:GS q g P n w W v hs)(h1:(Cc es,cs)∈hs)(a:(Cc fs,ds)∈hs):GS q g P n w W v ((Cc (es++fs),cs++ds)::hs):=⟨h.1.cat h1 a,h.2⟩
def GS.code(h:GS q g P n w W v hs)(c:Int):GS q g P n w W v ((Cc [F6 c],[.int .i64 c,.int .i64 0,.slice none 0 0])::hs):=⟨h.1.code c,h.2⟩
theorem GS.hold{Q:Nat->Prop}{a:Option Ab}{c:Nat}(h:GS q g P n w W v hs)(_y:g<w.heap.size)(hd:Jg Q W (AE a i.O.args.length c) i.O.args)(e:∀b,Q b->b∉ob v++(upTo g)):GS q g P n w (W.alloc (.cells #[AB i.code,AB i.O.op,AE a i.O.args.length c] 77)) v (([sl (Cc [i])],[AE (some (AL W 0)) 1 1])::hs):=by obtain⟨⟨l,o,d,p,f,s,t⟩,j⟩:=h;exact⟨⟨l,o,d.alloc _,(((p.devsNew hd e).mkI (i:=i.code) (op:=i.O.op) (ds:=i.O.args) Av).lit (l:=[Ol i]) Av #[AB i.code,AB i.O.op,AE a i.O.args.l c] _ rfl rfl).sub (λ_ h=>h) (BA.2 ⟨.tail _ (Ax (Ax Av)),BA.2 ⟨.head _,λx r=>.tail _ (Ax (Ax (Ax r)))⟩⟩),f,s,Gg t _⟩,Io j (grown_below (Aa _ _) _)⟩
theorem GS.held(h:GS q g P n w W v hs)(o:([sl (Cc [i])],[AE (some (AK b 0)) 1 1])∈hs):b<W.heap.size/\∃(a:Option Ab)(c:Nat),W.cell? (AK b 0)=some (AB i.code)/\W.cell? (AK b 1)=some (AB i.O.op)/\W.cell? (AK b 2)=some (AE a i.O.args.length c)/\GS q g P n w W v ((Cc [i],[AB i.code,AB i.O.op,AE a i.O.args.length c])::hs):=by obtain⟨⟨l,A,t,e,z⟩,j⟩:=h;have⟨E,F,r,_,_,d⟩:=Iz.1 (e.2 _ (Ax o));cases r;have⟨_,_,D,y,_,C,f,d⟩:=d BU;cases y;obtain⟨u,rfl,hu⟩:=Qk.1 (O8.O.1 f);obtain⟨a,c,rfl,_⟩:=hu.slice;simp only[DZ]at d f;exact⟨C,a,c,d 0 _ rfl,d 1 _ rfl,d 2 _ rfl,⟨l,A,t,⟨e.1,BA.2 ⟨e.2 _ Av,BA.2 ⟨f,λx s=>e.2 x (Ax s)⟩⟩⟩,z⟩,j⟩
def GS.put(e:AZ)(h:GS q g P n w W v hs)(s:g<w.heap.size)(j:(Cc es,cs)∈hs)(t:∀i∈es,Rf i/\i.O.args.length<=q)(o:n+m<=1000000)(p:es.length=m):
  ∃a d,(Builtin.append_ #[23,23] e #[v,AE (some (AL W 0)) m m]).run prog (W.alloc (.cells cs.toArray 77))=.ok a d/\GS q g P (n+m) w d a hs:=by have⟨a,d,r,f,l⟩:=h.1.put e s h.2.size j t o p;exact⟨a,d,r,⟨f.later (DK _) (DK _) (EI _),h.2.andThen l (λc x=>.inl (h.1.lo c x).1)⟩⟩
end
def KX(q:Nat)(e:Ending)(w w':AU)(g P n:Nat):Prop:=∃(l:List Stil.Aw)(a:Option Ab)(c:Nat),e=.returned (AE a l.length c)/\Sv w' (upTo g) [([sl (Cc l)],[AE a l.length c])]/\(∀i∈l,Rf i/\i.O.args.length<=q)/\l.length<=n/\l.length<=c/\Ku w' g P/\Below g w w'
def GS.out{q g P n:Nat}{w W:AU}{v:AW}{hs:Ao}(h:GS q g P n w W v hs)(f:g<w.heap.size):KX q (.returned v) w W g P n:=by obtain⟨l,a,c,rfl,d,e,o,j⟩:=h.1.ice (PL f);exact⟨l,a,c,rfl,d,e,o.2,j,h.rd,U8 h.2 BS⟩
def Qu{c:Int}(h:1<=c/\c<=11):Rf (F6 c)/\(F6 c).O.args.length<=3:=⟨⟨by simp only[F6];omega,xCq,λ_ h=>CQ,xCq⟩,xCq⟩
