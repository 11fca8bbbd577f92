import Derived.Test.YtgnkpbhknkinoaaGreatDoorGC
import Derived.Laws.EntriesVeiled
import Derived.Deep.WholeRow
import Derived.Laws.CopyOwn
import Derived.Shelf.Abstract
set_option linter.defProp false
set_option maxHeartbeats 4000000
set_option maxRecDepth 100000
namespace Go.Proofs.YtgnkpbhknkinoaaGreatDoor
open Tryz Go.RowKit Go.Sort Go.BigFrame
def OI:List (List UInt8 × Nat × List Nat × List Nat):=
  [([],0,[],[]),
   ([],206,[207],[]),
   ([47],206,[207],[]),
   ([43],206,[207,208],[]),
   ([45],206,[207,208],[]),
   ([60],209,[200,200],[201,201]),
   ([60,61],209,[200,200],[201,201]),
   ([61],209,[200,200],[201,201]),
   ([60,62],209,[200,200],[201,201]),
   ([62,61],209,[200,200],[201,201]),
   ([62],209,[200,200],[201,201]),
   ([],0,[],[]),
   ([],0,[],[]),
   ([],0,[],[]),
   ([],0,[],[]),
   ([],0,[],[]),
   ([],0,[],[]),
   ([],0,[],[]),
   ([],0,[],[]),
   ([],0,[],[]),
   ([],0,[],[]),
   ([111,117,116],210,[211],[]),
   ([115,101,116],210,[212],[]),
   ([114,101,115,101,116],210,[213],[]),
   ([112,117,108,115,101],210,[211,208],[]),
   ([115,116,101,112],210,[214],[]),
   ([116,105,109,101,114],210,[202,203],[]),
   ([104,111,108,100],210,[202,203],[]),
   ([108,97,116,101],210,[202,203],[]),
   ([99,111,117,110,116],210,[215,203],[]),
   ([109,111,118,101],210,[204,200],[205,201]),
   ([97,100,100],210,[204,200,200],[205,201,201]),
   ([115,117,98],210,[204,200,200],[205,201,201]),
   ([109,117,108],210,[204,200,200],[205,201,201]),
   ([100,105,118],210,[204,200,200],[205,201,201]),
   ([114,101,109],210,[204,200,200],[]),
   ([114,101,97,108],210,[205,200],[]),
   ([119,104,111,108,101],210,[204,201],[])]
def fnv(n:Nat):AW:=if n=0 then .nilFunc else .func (.func n) #[] #[]
def Qn(r:List UInt8 × Nat × List Nat × List Nat):List AW:=
  [.string ⟨r.1.toArray⟩,fnv r.2.1,fnv (r.2.2.1.getD 0 0),fnv (r.2.2.1.getD 1 0),fnv (r.2.2.1.getD 2 0),fnv (r.2.2.2.getD 0 0),fnv (r.2.2.2.getD 1 0),fnv (r.2.2.2.getD 2 0)]
def J8:List AW:=OI.flatMap Qn
def QG{P:AY}{g:Nat}{t:AZ}{vs tgt:List AW}{cur:Array AW}{w:AU}{α:Type}(f:Unit->World->Result α)(hvs:vs=tgt)(hg:w.heap[g]?=some (.cells cur t (0,0)))(hl:tgt.length=cur.size)(h1:tgt.all (·.oneCell')=true):
    ((storeCells (AK g 0) vs 0).run P w).andThen f=f () (w.setRow g tgt.toArray):=by subst hvs;rw[run_storeCells_from (P:=P) g t vs 0 cur w hg BS (λv b=>List.all_eq_true.1 h1 v b)];simp[Result.andThen]
def XE(w:AU)(o1 o2 o3 o4:Obj):((((w.alloc o1).alloc o2).alloc o3).alloc o4).heap[w.heap.size]?=some o1:=by show((((w.heap.push o1).push o2).push o3).push o4)[w.z]?=_;simp[Array.getElem?_push];rw[BQ BS,BQ BS]
def Ta(w:AU):
    Calls prog 198 #[] w (AN w (.agg J8.toArray)):=by
 go_enter func198,ntmps198;go_wp2;rw[QG (tgt:=J8) (cur:=Tryz.zeroCells240) (t:=240)];case hvs=>kernel_rfl
 case hl=>kernel_rfl
 case h1=>kernel_rfl
 case hg=>exact XE _ _ _ _ _
 have⟨W,b⟩:=AA ((((w.alloc (Obj.cells Tryz.zeroCells240 240)).alloc (Obj.cells #[.func (.func 200) #[] #[],.func (.func 200) #[] #[],.nilFunc,.func (.func 201) #[] #[],.func (.func 201) #[] #[],.nilFunc] 235)).alloc (Obj.cells #[.func (.func 202) #[] #[],.func (.func 203) #[] #[],.nilFunc,.nilFunc,.nilFunc,.nilFunc] 235)).alloc (Obj.cells #[.func (.func 204) #[] #[],.func (.func 200) #[] #[],.func (.func 200) #[] #[],.func (.func 205) #[] #[],.func (.func 201) #[] #[],.func (.func 201) #[] #[]] 235));have hg:W.heap[w.z]?=some (.cells Tryz.zeroCells240 240 (0,0)):=by rw[b];exact XE _ _ _ _ _
 have f:AO w W:=by rw[b];(repeat(first|exact BP _ _|assumption|refine Bz ?_ _|refine Pq ?_ _|refine Tz ?_|refine I9 ?_ _ _|refine V3 (DK _) ?_ _|refine Bd ?_ CB))
 rw[<-b];clear b;have c:(loadVar 240 (AL w 0)).run prog (W.setRow w.z J8.toArray)=.ok (.agg J8.toArray) (W.setRow w.z J8.toArray):=
   run_loadVar_row _ _ _ 240 _ (0,0) _ (setRow_heap _ _ _ _ _ _ hg) underlying240 rfl BW
 have d:AO w (W.setRow w.z J8.toArray):=below_setRow f (DK _) _;generalize W.setRow w.z J8.toArray=V at c d⊢;rw[Oper.upon_skip];go_wp2;refine BH (v:=.agg J8.toArray) (by simp[results,results198,Act.put,asAddr,c]) rfl ⟨rfl,d⟩
open Stil
variable {a:Nat}{op:Int}
def i6:J8.length=304:=BW
theorem UQ:∀(l:List (List UInt8 × Nat × List Nat × List Nat))(m j:Nat),j<8->(l.flatMap Qn)[m*8+j]?=(l[m]?).bind (λr=>(Qn r)[j]?)
 |[],m,j,_=>by simp
 |r::l,m,j,b=>by
  rw[List.flatMap_cons];cases m with
  |zero=>rw[LL (by simp[Qn];omega)];simp
  |succ k=>
   rw[I0 (by simp[Qn];omega)];have:=UQ l k j b
   rw[show(k+1)*8+j - (Qn r).length=k*8+j from by simp[Qn];omega];simpa using this
def rowOf(op:Int):List UInt8 × Nat × List Nat × List Nat:=if 0<=op/\op<38 then OI.getD op.toNat ([],0,[],[]) else([],0,[],[])
theorem Ax3(W:AU)(t:AZ)(m j:Nat)(d:m<38)(c:j<8):(W.alloc (.cells J8.toArray t)).cell? (AL W (m*8+j))=(Qn (rowOf m))[j]?:=by
 have b:(W.alloc (.cells J8.toArray t)).cell? (AL W (m*8+j))=J8[m*8+j]?:=by rw[cell_of_row _ _ _ _ _ _ (heap_alloc_last W _)];simp
 have e:OI.l=38:=BW;rw[b,J8,UQ _ _ _ c,rowOf,BR BS];simp[E7 (show m<OI.l by omega)]
def Pe(n:Nat)(P:AY)(w:AU)(a:Ab)(m:Mode):(store a (fnv n) m).run P w=stored P w a (fnv n) m:=run_store P w a _ m (by unfold fnv;split<;>rfl)
def LA(r:List UInt8 × Nat × List Nat × List Nat):AW:=.agg #[.string ⟨r.1.toArray⟩,fnv r.2.1,fnv (r.2.2.1.getD 0 0),fnv (r.2.2.1.getD 1 0),fnv (r.2.2.1.getD 2 0),fnv (r.2.2.2.getD 0 0),fnv (r.2.2.2.getD 1 0),fnv (r.2.2.2.getD 2 0)]
theorem nH(op:Int)(w:AU):
  Calls prog 196 #[AB op] w (AN w (LA (rowOf op))):=by
 have X:=i6;by_cases h:0<=op/\op<38
 .obtain⟨m,rfl⟩:=G4 h.1;have K:m<38:=BS;have V:=Pe;have⟨r,G⟩:=AA (rowOf (m:Int));have⟨s,g⟩:=AA r.1;obtain⟨d,f⟩:∃n,n=r.2.1:=⟨_,rfl⟩;obtain⟨D,h1⟩:∃n,n=r.2.2.1.getD 0 0:=⟨_,rfl⟩;obtain⟨y,o⟩:∃n,n=r.2.2.1.getD 1 0:=⟨_,rfl⟩;obtain⟨z,A⟩:∃n,n=r.2.2.1.getD 2 0:=⟨_,rfl⟩;obtain⟨q,E⟩:∃n,n=r.2.2.2.getD 0 0:=⟨_,rfl⟩;obtain⟨B,x⟩:∃n,n=r.2.2.2.getD 1 0:=⟨_,rfl⟩;obtain⟨u,l⟩:∃n,n=r.2.2.2.getD 2 0:=⟨_,rfl⟩;have F:LA r=.agg #[.string ⟨s.toArray⟩,fnv d,fnv D,fnv y,fnv z,fnv q,fnv B,fnv u]:=by rw[LA,g,f,h1,o,A,E,x,l]
  have H:Qn r=[.string ⟨s.toArray⟩,fnv d,fnv D,fnv y,fnv z,fnv q,fnv B,fnv u]:=by rw[Qn,g,f,h1,o,A,E,x,l]
  have b:=λW t j(L:j<8)=>Ax3 W t m j K L;rw[<-G]at b⊢;rw[H]at b;rw[F];have Q:=λW t=>b W t 0 BS;have U:=λW t=>b W t 1 BS;have P:=λW t=>b W t 2 BS;have T:=λW t=>b W t 3 BS;have O:=λW t=>b W t 4 BS;have I:=λW t=>b W t 5 BS;have J:=λW t=>b W t 6 BS;have R:=λW t=>b W t 7 BS;simp only[TD,TF,IL]at Q U P T O I J R;clear b;clear H F g f h1 o A E x l G h;go_enter func196,ntmps196;go_wp2_with(go_at_call 198;refine(Ta _).mo ?_;rintro e k⟨rfl,c⟩;have⟨b,S⟩:=F8 c;have C:=Lo c);rw[QG (tgt:=J8) (cur:=Tryz.zeroCells240) (t:=240)];case hvs=>rfl
  case hl=>kernel_rfl
  case h1=>kernel_rfl
  case hg=>exact heap_alloc_last _ _
  rw[World.setRow_alloc_new,Oper.upon_skip];go_wp2;have i:AO w k:=Bt;refine BH (v:=.agg #[.string ⟨s.toArray⟩,fnv d,fnv D,fnv y,fnv z,fnv q,fnv B,fnv u]) (by simp[results,results196,go_sem,b,C]) rfl ⟨rfl,?_⟩;refine Bz ?_ _;iterate 8 refine V3 (DK _) ?_ _
  exact i
 have N:rowOf op=([],0,[],[]):=by unfold rowOf;rw[BQ h]
 rw[N];go_enter func196,ntmps196;go_wp2_with(go_at_call 198;refine(Ta _).mo ?_;rintro e k⟨rfl,c⟩;have⟨b,S⟩:=F8 c;have C:=Lo c);rw[QG (tgt:=J8) (cur:=Tryz.zeroCells240) (t:=240)];case hvs=>rfl
 case hl=>kernel_rfl
 case h1=>kernel_rfl
 case hg=>exact heap_alloc_last _ _
 rw[World.setRow_alloc_new,Oper.upon_skip];have i:AO w k:=Bt;go_wp2;all_goals refine BH (v:=.agg #[.string ⟨#[]⟩,.nilFunc,.nilFunc,.nilFunc,.nilFunc,.nilFunc,.nilFunc,.nilFunc]) (by simp[results,results196,go_sem,b,C]) rfl ⟨rfl,?_⟩
 all_goals
  refine Bz ?_ _;iterate 8 refine V3 (DK _) ?_ _
  exact i
def Ui(l:List Nat):AW:=.agg #[fnv (l.getD 0 0),fnv (l.getD 1 0),fnv (l.getD 2 0)]
def OQ(w:AU):Sem.run prog (binOp BinOp.neq 232 .nilFunc .nilFunc) w=.ok (.bool false) w:=BW
def M8(a:Nat)(w:AU):Sem.run prog (binOp BinOp.neq 232 (.func (.func a) #[] #[]) .nilFunc) w=.ok (.bool true) w:=BW
def KI{n:Nat}(h:n≠0):fnv n=.func (.func n) #[] #[]:=by unfold fnv;rw[BQ h]
def eM:fnv 0=.nilFunc:=rfl
theorem Azp(w:AU):
  Calls prog 199 #[.agg #[.nilFunc,.nilFunc,.nilFunc]] w (AN w (AB 0)):=by have c:=OQ;have d:=M8;go_enter func199,ntmps199;go_wp2;refine wp_loop_rounds 1 ?_;rw[rounds_succ];go_wp2;go_ret;exact⟨rfl,Bt⟩
theorem Azo(a:Nat)(w:AU):
  Calls prog 199 #[.agg #[.func (.func a) #[] #[],.nilFunc,.nilFunc]] w (AN w (AB 1)):=by have c:=OQ;have d:=M8;go_enter func199,ntmps199;go_wp2;refine wp_loop_rounds 2 ?_;rw[rounds_succ];go_wp2;rw[rounds_succ];go_wp2;go_ret;exact⟨rfl,Bt⟩
theorem Azn(a b:Nat)(w:AU):
  Calls prog 199 #[.agg #[.func (.func a) #[] #[],.func (.func b) #[] #[],.nilFunc]] w (AN w (AB 2)):=by have d:=OQ;have f:=M8;go_enter func199,ntmps199;go_wp2;refine wp_loop_rounds 3 ?_;rw[rounds_succ];go_wp2;rw[rounds_succ];go_wp2;rw[rounds_succ];go_wp2;go_ret;exact⟨rfl,Bt⟩
theorem Azm(a b c:Nat)(w:AU):
  Calls prog 199 #[.agg #[.func (.func a) #[] #[],.func (.func b) #[] #[],.func (.func c) #[] #[]]] w (AN w (AB 3)):=by have f:=OQ;have g:=M8;go_enter func199,ntmps199;go_wp2;refine wp_loop_rounds 4 ?_;rw[rounds_succ];go_wp2;rw[rounds_succ];go_wp2;rw[rounds_succ];go_wp2;rw[rounds_succ];go_wp2;go_ret;exact⟨rfl,Bt⟩
theorem ct(l:List Nat)(w:AU)(hl:l.length<=3)(d:∀x∈l,x≠0):
  Calls prog 199 #[Ui l] w (AN w (AB l.length)):=by match l,hl,d with|[],_,_=>exact Azp w|[a],_,d=>simp only[Ui,List.getD,TD,TF,List.getElem?_nil,Option.getD,KI (d a BU),eM];exact Azo a w|[a,b],_,d=>simp only[Ui,List.getD,TD,TF,List.getElem?_nil,Option.getD,KI (d a BU),KI (d b BU),eM];exact Azn a b w|[a,b,c],_,d=>simp only[Ui,List.getD,TD,TF,Option.getD,KI (d a BU),KI (d b BU),KI (d c BU)];exact Azm a b c w|_::_::_::_::_,hl,_=>simp at hl
def Ja(n:Nat)(p:Stil.DN->Bool):Prop:=(∀args w,(callFunc n args).run prog w=.ok (.enter n args) w)/\∀(d:Stil.DN)(w:AU),Ee w->d.fits->Calls prog n #[.agg #[AB d.kind,AB d.n,AB d.p]] w (AN w (.bool (p d)))
def Pg:List (Stil.DN->Bool)->List Stil.DN->Bool
 |[],[]=>true
 |p::b,d::c=>p d && Pg b c
 |_,_=>false
def Tf(ps:List (Stil.DN->Bool))(ds:List Stil.DN):Bool:=!ds.isEmpty && Pg ps ds
theorem YT:∀(c:List (Stil.DN->Bool))(b:List Stil.DN),b.length≠c.length->Pg c b=false
 |[],[],h=>absurd rfl h
 |[],_::_,_=>rfl
 |_::_,[],_=>rfl
 |p::c,d::b,h=>by
  have:=YT c b C5
  simp[Pg,this]
theorem WZ:∀(b:List (Stil.DN->Bool))(c:List Stil.DN)(k:Nat)(e:k<b.length)(f:k<c.length),Pg (b.drop k) (c.drop k)=(b[k] c[k] && Pg (b.drop (k+1)) (c.drop (k+1)))
 |p::b,d::c,0,_,_=>rfl
 |p::b,d::c,k+1,e,f=>by
  have:=WZ b c k (by simpa using e) xCb
  simpa using this
theorem Auv(l:List Nat)(ps:List (Stil.DN->Bool))(a:Option Ab)(cap:Nat)(ds:List Stil.DN)(w:AU)(hr:Ee w)(hl:l.length=ps.length)(hd:ds.length=ps.length)(h3:l.length<=3)(u:∀i(h1:i<l.length)(h2:i<ps.length),l[i]≠0/\Ja l[i] ps[i])(h0:0<ds.length)
  (S:∀i(h:i<ds.length),∃b o,a=some (AK b o)/\b<w.heap.size/\J3 w b (o+i*3) ds[i]) (L:∀x∈ds,x.fits):
  Calls prog 197 #[Ui l,AE a ds.length cap] w (AN w (.bool (Pg ps ds))):=by
 have ae:=Pe;obtain⟨t,z⟩:∃f,f=l.getD 0 0:=⟨_,rfl⟩;obtain⟨s,C⟩:∃f,f=l.getD 1 0:=⟨_,rfl⟩;obtain⟨v,I⟩:∃f,f=l.getD 2 0:=⟨_,rfl⟩;have G:Hid (Ui l=.agg #[fnv t,fnv s,fnv v]):=by show _=_;rw[Ui,z,C,I]
 have HP:Hid (∀W,Calls prog 199 #[.agg #[fnv t,fnv s,fnv v]] W (AN W (AB ds.length))):=by
  intro W
  have:=ct l W h3 (λx m=>by
   obtain⟨i,hi,rfl⟩:=List.getElem_of_mem m
   exact(u i hi BS).1)
  rw[G.out]at this;rw[hd,<-hl];exact this
 have HC:Hid (∀k(h:k<ds.length),(w.alloc (.cells #[fnv t,fnv s,fnv v] 234)).cell? (AL w k)=some (.func (.func (l.getD k 0)) #[] #[])):=by
  intro k O;have ad:l.getD k 0≠0:=by have g:k<l.length:=BS;have:=(u k g BS).1;simpa[List.getD,E7 g]using this
  rw[<-KI ad];have aa:k=0\/k=1\/k=2:=BS;rcases aa with rfl|rfl|rfl<;>simp[go_sem,z,C,I]
 have HF:Hid (∀k(h:k<ds.length)(h2:k<ps.length),Ja (l.getD k 0) ps[k]):=by intro k O aj;have g:k<l.length:=BS;have:=(u k g BS).2;simpa[List.getD,E7 g]using this
 have HA:=BX S;have K:=BX (λW(h:AO w W)=>hr.below h);have xh:=BX L;have ai:ds.length<=3:=BS;have HL:=BX hd;have af:¬ds=[]:=by intro h;rw[h]at h0;simp at h0
 rw[G.out];clear z C I hl hd h3 u S hr G L;go_enter func197,ntmps197;go_wp2_with(go_at_call 199;refine(HP _).mo ?_;rintro e w1⟨rfl,c⟩;have⟨hc,ac⟩:=F8 c;have hz:=Lo c);go_loopw [19] (λi wr=>∃k:Nat,k<=ds.length/\i=AB k/\Pg ps ds=Pg (ps.drop k) (ds.drop k)/\Below (w.heap.size+1) (w.alloc (.cells #[fnv t,fnv s,fnv v] 234)) wr) (λi _=>ds.length - (intOf i).toNat);case atStart=>exact⟨0,BS,rfl,rfl,by simpa using c⟩
 case round=>
  clear c hc ac hz;obtain⟨k,O,rfl,P,c⟩:=hrel;have q:=BX P;clear P;have Y:=(Aa _ _).tr (c.mo BS);have ak:w.heap.size<wr.heap.size:=xAi;by_cases d:k<ds.length;{obtain⟨b,o,rfl,X,R⟩:=HA k d;have J:k<ps.length:=(by have:=HL.out;omega);have j:=HF k d J;have E:=xh ds[k] (DW d);have r:=BX (WZ ps ds k J d);have⟨x0,x1,x2⟩:=R.below Y X;have ah:=DL X Y.size;have y:wr.cell? (AL w k)=some (.func (.func (l.getD k 0)) #[] #[]):=(by rw[c.cell (p:=(AL w k)) BU];exact HC k d);have⟨p,F⟩:=AA (ps[k]);have⟨x,m⟩:=AA (ds[k]);have⟨n,H⟩:=AA (l.getD k 0);(rw[<-m]at x0 x1 x2 E;rw[<-F,<-m]at r;rw[<-H]at y;rw[<-H,<-F]at j;obtain⟨ag,j⟩:=j;have M:=BX j;have Q:=BX E;clear H m F R j E;have U:(wr.alloc (.cells #[AB x.kind,AB x.n,AB x.p] 111)).cell? (AL w k)=some (.func (.func n) #[] #[]):=by rwa[World.cell?_alloc_some _ _ _ (by rw[y];rfl)]);have q1:(wr.alloc (.cells #[AB x.kind,AB x.n,AB x.p] 111)).cell? (AL wr 0)=some (AB x.kind):=AP;have T:(wr.alloc (.cells #[AB x.kind,AB x.n,AB x.p] 111)).cell? (AL wr 1)=some (AB x.n):=AP;have V:(wr.alloc (.cells #[AB x.kind,AB x.n,AB x.p] 111)).cell? (AL wr 2)=some (AB x.p):=AP;have r0:=cell_regrown U;have r1:=cell_regrown q1;have r2:=cell_regrown T;have r3:=cell_regrown V;clear U q1 T V;cases N:p x;{go_wp2;(refine wp_region_quiet_below BW BW ?_;repeat(go_big_quiet_step ((exact Calls.regrown_of (M _ _ (K _ Bt) Q.out)))));refine wpQuiet_nil ?_;intro _ D;obtain⟨⟨Z,osq⟩,A⟩:=D;subst A;go_wp2;go_ret;exact⟨Ad (by rw[q.out,r.out,N];rfl),Bt⟩};have ab:Hid (Pg ps ds=Pg (ps.drop (k+1)) (ds.drop (k+1))):=(by show _=_;rw[q.out,r.out,N];rfl);clear r q;go_wp2;(refine wp_region_quiet_below BW BW ?_;repeat(go_big_quiet_step ((exact Calls.regrown_of (M _ _ (K _ Bt) Q.out)))));refine wpQuiet_nil ?_;intro _ D;obtain⟨⟨Z,osq⟩,A⟩:=D;subst A;go_wp2;refine⟨⟨k+1,BS,by go_num,ab.out,?_⟩,EX⟩;exact(c.alloc BS _).tr ((below_regrown _ Z osq).mo Bw)}
  .have HE:Hid (Pg ps ds=true):=by
    show _=_
    have:=HL.out
    rw[q.out,IJ BS,IJ BS];rfl
   go_wp2
   go_ret;exact⟨Ad HE.symm,Bt⟩
theorem fO(l:List Nat)(ps:List (Stil.DN->Bool))(v:AW)(ds:List Stil.DN)(w:AU)(hr:Ee w)(hl:l.length=ps.length)(j:l.length<=3)(d:∀i(z:i<l.length)(u:i<ps.length),l[i]≠0/\Ja l[i] ps[i])
  (c:Ar w v ds) (g:∀x∈ds,x.fits) (D:ds.length<=9223372036854775807):
  Calls prog 197 #[Ui l,v] w (AN w (.bool (Tf ps ds))):=by
 obtain⟨a,cap,rfl,c⟩:=c;by_cases f:ds=[]
 .subst f;have q:=Pe;have b:Hid (Tf ps []=false):=rfl;unfold Ui;clear d c g hr;go_enter func197,ntmps197;go_wp2;go_ret;exact⟨Ad b.symm,Bt⟩
 have o:=List.length_pos_iff.2 f;by_cases hd:ds.length=ps.length
 .have b:Tf ps ds=Pg ps ds:=by
   have:ds.isEmpty=false:=xCb
   rw[Tf,this];rfl
  rw[b];exact Auv l ps a cap ds w hr hl hd j d o c g
 have b:Hid (Tf ps ds=false):=by show _=_;rw[Tf,YT ps ds hd,Bool.and_false]
 have q:=Pe
 have m:=BX (λW=>ct l W j (λx s=>by
  obtain⟨i,hi,rfl⟩:=List.getElem_of_mem s
  exact(d i hi BS).1))
 have B:((ds.length:Int) !=(l.length:Int))=true:=xBz;clear d c g hr hd hl;unfold Ui at m⊢;go_enter func197,ntmps197;go_wp2_with(go_at_call 199;refine(m _).mo ?_;rintro e t⟨rfl,k⟩;have⟨A,y⟩:=F8 k;have C:=Lo k);go_ret;exact⟨Ad b.symm,Bt⟩
def i7(c x1 x2 x3 x4 x5 x6 b:AW)(w:AU):(Instr.field 237 (.agg #[c,x1,x2,x3,x4,x5,x6,b]) 2).run prog w=.ok (.agg #[x2,x3,x4,x5,x6,b]) w:=BW
def lx(x2 x3 x4 x5 x6 b:AW)(w:AU):(Instr.index 235 (.agg #[x2,x3,x4,x5,x6,b]) (AB 0)).run prog w=.ok (.agg #[x2,x3,x4]) w:=BW
def lp(x2 x3 x4 x5 x6 b:AW)(w:AU):(Instr.index 235 (.agg #[x2,x3,x4,x5,x6,b]) (AB 1)).run prog w=.ok (.agg #[x5,x6,b]) w:=BW
def IY(l:List Nat)(ps:List (Stil.DN->Bool)):Prop:=l.length=ps.length/\l.length<=3/\∀i(b:i<l.length)(c:i<ps.length),l[i]≠0/\Ja l[i] ps[i]
theorem T0(op:Int)(q C:List (Stil.DN->Bool))(v:AW)(ds:List Stil.DN)(w:AU)(hr:Ee w)(h0:IY (rowOf op).2.2.1 q)(h1:IY (rowOf op).2.2.2 C)
  (U:Ar w v ds) (V:∀x∈ds,x.fits) (X:ds.length<=9223372036854775807):
  Calls prog 192 #[.agg #[AB op,v]] w (AN w (.bool (Tf q ds || Tf C ds))):=by
 have⟨r,l⟩:=AA (rowOf op);rw[<-l]at h0 h1;have E:Hid (∀W,Calls prog 196 #[AB op] W (AN W (LA r))):=by intro W;rw[l];exact nH op W
 have A:=BX (λW(h:AO w W)=>U.below h);have R:=BX (λW(h:AO w W)=>hr.below h);have f:=BX (λW h=>fO _ _ v ds W (R W h) h0.1 h0.2.1 h0.2.2 (A W h) V X);have g:=BX (λW h=>fO _ _ v ds W (R W h) h1.1 h1.2.1 h1.2.2 (A W h) V X);obtain⟨a,cap,rfl,_⟩:=U;have⟨s,G⟩:=AA r.1;obtain⟨Z,K⟩:∃n,n=r.2.1:=⟨_,rfl⟩;obtain⟨T,t⟩:∃n,n=r.2.2.1.getD 0 0:=⟨_,rfl⟩;obtain⟨N,o⟩:∃n,n=r.2.2.1.getD 1 0:=⟨_,rfl⟩;obtain⟨Q,i⟩:∃n,n=r.2.2.1.getD 2 0:=⟨_,rfl⟩;obtain⟨L,y⟩:∃n,n=r.2.2.2.getD 0 0:=⟨_,rfl⟩;obtain⟨S,j⟩:∃n,n=r.2.2.2.getD 1 0:=⟨_,rfl⟩;obtain⟨M,u⟩:∃n,n=r.2.2.2.getD 2 0:=⟨_,rfl⟩;have O:Ui r.2.2.1=.agg #[fnv T,fnv N,fnv Q]:=by rw[Ui,t,o,i]
 have Y:Ui r.2.2.2=.agg #[fnv L,fnv S,fnv M]:=by rw[Ui,y,j,u]
 have H:LA r=.agg #[.string ⟨s.toArray⟩,fnv Z,fnv T,fnv N,fnv Q,fnv L,fnv S,fnv M]:=by rw[LA,G,K,t,o,i,y,j,u]
 rw[O]at f;rw[Y]at g;rw[H]at E;clear h0 h1 hr l G K t o i y j u O Y H A;have ab:=Pe;have aa:=i7;have ae:=lx;have ad:=lp;generalize Tf q ds=t0 at f⊢;generalize Tf C ds=t1 at g⊢;go_enter func192,ntmps192;go_wp2_with(go_at_call 196;refine(E _).mo ?_;rintro e w1⟨rfl,B⟩;have⟨hc,ac⟩:=F8 B;have z:=Lo B;have d:=Ub B);cases t0
 .cases t1;{refine wp_loop_rounds 3 ?_;rw[rounds_succ];go_wp2_with(go_at_call 197;refine(f _ (Bz d _)).mo ?_;rintro e P⟨rfl,b⟩;have⟨F,I⟩:=F8 b;have J:=DL z (DR BU b.size);have c:=Bd (Bz d _) b);rw[rounds_succ];go_wp2_with(go_at_call 197;refine(g _ (Bz c _)).mo ?_;rintro e w3⟨rfl,m⟩;have D:=Bd (Bz c _) m);rw[rounds_succ];go_wp2;go_ret;exact⟨rfl,D⟩};refine wp_loop_rounds 2 ?_;rw[rounds_succ];go_wp2_with(go_at_call 197;refine(f _ (Bz d _)).mo ?_;rintro e P⟨rfl,b⟩;have⟨F,I⟩:=F8 b;have J:=DL z (DR BU b.size);have c:=Bd (Bz d _) b);rw[rounds_succ];go_wp2_with(go_at_call 197;refine(g _ (Bz c _)).mo ?_;rintro e w3⟨rfl,m⟩;have D:=Bd (Bz c _) m);go_ret;exact⟨rfl,D⟩
 refine wp_loop_rounds 1 ?_;rw[rounds_succ];go_wp2_with(go_at_call 197;refine(f _ (Bz d _)).mo ?_;rintro e P⟨rfl,b⟩;have⟨F,I⟩:=F8 b;have J:=DL z (DR BU b.size);have c:=Bd (Bz d _) b);go_ret;exact⟨rfl,c⟩
def pl(l:List Int)(d:Stil.DN):Bool:=d.ok && decide (d.kind∈l)
def dZ(d:Stil.DN):Bool:=d.ok && decide (d.kind∈([11]:List Int)) && decide (0<=d.n)
def US:Ja 208 (pl [5]):=⟨enters_of func208 BW rfl,λd w c b=>pK d w c b.2.1.1 b.2.1.2⟩
def pB:Ja 214 (pl [4]):=⟨enters_of func214 BW rfl,λd w c b=>pE d w c b.2.1.1 b.2.1.2⟩
def pA:Ja 202 (pl [7]):=⟨enters_of func202 BW rfl,λd w c b=>pD d w c b.2.1.1 b.2.1.2⟩
def Baa:Ja 215 (pl [8]):=⟨enters_of func215 BW rfl,λd w c b=>pN d w c b.2.1.1 b.2.1.2⟩
def NE:Ja 204 (pl [9]):=⟨enters_of func204 BW rfl,λd w c b=>pL d w c b.2.1.1 b.2.1.2⟩
def PZ:Ja 205 (pl [10]):=⟨enters_of func205 BW rfl,λd w c b=>pH d w c b.2.1.1 b.2.1.2⟩
def UR:Ja 211 (pl [2,3]):=⟨enters_of func211 BW rfl,λd w c b=>oz d w c b.2.1.1 b.2.1.2⟩
def oq:Ja 212 (pl [2,3,4]):=⟨enters_of func212 BW rfl,λd w c b=>nM d w c b.2.1.1 b.2.1.2⟩
def g8:Ja 213 (pl [2,3,4,7,8]):=⟨enters_of func213 BW rfl,λd w c b=>Azu d w c b.2.1.1 b.2.1.2⟩
def ZY:Ja 203 dZ:=⟨enters_of func203 BW rfl,λd w c b=>Au4 d w c b.2.1.1 b.2.1.2⟩
def TX:Ja 207 Stil.DN.isBit:=⟨enters_of func207 BW rfl,λd w c b=>Au8 d.kind d.n d.p w c b.2.1.1 b.2.1.2⟩
def Um:Ja 200 Stil.DN.isWhole:=⟨enters_of func200 BW rfl,λd w c b=>tI d.kind d.n d.p w c b.2.1.1 b.2.1.2⟩
def K7:Ja 201 Stil.DN.isReal:=⟨enters_of func201 BW rfl,λd w c b=>wh d.kind d.n d.p w c b.2.1.1 b.2.1.2⟩
def IA:IY [] []:=⟨rfl,BU,λi h=>absurd h BU⟩
theorem LS {p:Stil.DN->Bool}(c:a≠0)(h:Ja a p):IY [a] [p]:=⟨rfl,BU,λi b d=>by
 have:i=0:=by simp at b;omega
 subst this;exact⟨c,h⟩⟩
theorem IU {b:Nat}{p q:Stil.DN->Bool}(e:a≠0)(h:Ja a p)(d:b≠0)(k:Ja b q):IY [a,b] [p,q]:=⟨rfl,BU,λi c f=>by
 have:i=0\/i=1:=by simp at c;omega
 rcases this with rfl|rfl
 .exact⟨e,h⟩
 .exact⟨d,k⟩⟩
theorem PX {b c:Nat}{p q r:Stil.DN->Bool}(f:a≠0)(h:Ja a p)(e:b≠0)(k:Ja b q)(g:c≠0)(m:Ja c r):IY [a,b,c] [p,q,r]:=⟨rfl,BU,λi d j=>by
 have:i=0\/i=1\/i=2:=by simp at d;omega
 rcases this with rfl|rfl|rfl
 .exact⟨f,h⟩
 .exact⟨e,k⟩
 .exact⟨g,m⟩⟩
def CV{p:Prop}(h:p:=by(rcases ds with _|⟨a,_|⟨b,_|⟨c,_|⟨d,r⟩⟩⟩⟩<;>simp[Tf,Pg,Dc,F7,Stil.arity,Gk,Oe,pl,dZ,Stil.DN.kindIs,N8,Stil.DN.ok,Stil.DN.isBit,Stil.DN.isWhole,Stil.DN.isReal]<;>try first|omega|grind)):p:=h
theorem uA(op:Int)(h1:1<=op)(e:op<=10):∃p q,IY (rowOf op).2.2.1 p/\IY (rowOf op).2.2.2 q/\∀ds,(Tf p ds || Tf q ds)=Dc op ds:=by have h:op=1\/op=2\/op=3\/op=4\/op=5\/op=6\/op=7\/op=8\/op=9\/op=10:=BS;rcases h with rfl|rfl|rfl|rfl|rfl|rfl|rfl|rfl|rfl|rfl;all_goals first|exact⟨_,_,LS BZ TX,IA,λds=>CV⟩|exact⟨_,_,IU BZ TX BZ US,IA,λds=>CV⟩|exact⟨_,_,IU BZ Um BZ Um,IU BZ K7 BZ K7,λds=>CV⟩
theorem gP(op:Int)(h1:21<=op)(e:op<=37):∃p q,IY (rowOf op).2.2.1 p/\IY (rowOf op).2.2.2 q/\∀ds,(Tf p ds || Tf q ds)=F7 op ds:=by have h:op=21\/op=22\/op=23\/op=24\/op=25\/op=26\/op=27\/op=28\/op=29\/op=30\/op=31\/op=32\/op=33\/op=34\/op=35\/op=36\/op=37:=BS;rcases h with rfl|rfl|rfl|rfl|rfl|rfl|rfl|rfl|rfl|rfl|rfl|rfl|rfl|rfl|rfl|rfl|rfl;all_goals first|exact⟨_,_,LS BZ UR,IA,λds=>CV⟩|exact⟨_,_,LS BZ oq,IA,λds=>CV⟩|exact⟨_,_,LS BZ g8,IA,λds=>CV⟩|exact⟨_,_,IU BZ UR BZ US,IA,λds=>CV⟩|exact⟨_,_,LS BZ pB,IA,λds=>CV⟩|exact⟨_,_,IU BZ pA BZ ZY,IA,λds=>CV⟩|exact⟨_,_,IU BZ Baa BZ ZY,IA,λds=>CV⟩|exact⟨_,_,IU BZ NE BZ Um,IU BZ PZ BZ K7,λds=>CV⟩|exact⟨_,_,PX BZ NE BZ Um BZ Um,PX BZ PZ BZ K7 BZ K7,λds=>CV⟩|exact⟨_,_,PX BZ NE BZ Um BZ Um,IA,λds=>CV⟩|exact⟨_,_,IU BZ PZ BZ Um,IA,λds=>CV⟩|exact⟨_,_,IU BZ NE BZ K7,IA,λds=>CV⟩
def zva {p:Prop}(h:p:=by
 go_enter func193,ntmps193;go_wp2;all_goals go_ret
 all_goals exact⟨Ad DC,rfl⟩):p:=h
theorem VM(op:Int)(w:AU):
  Calls prog 193 #[AB op] w λe d=>e=.returned (.bool (decide (1<=op/\op<=10)))/\d=w:=by
 by_cases c:1<=op
 .by_cases b:op<=10;{have f:decide (op<=10)=true:=(by simpa using b);exact zva};have f:decide (op<=10)=false:=by simpa using b
  exact zva
 have g:decide (1<=op)=false:=by simpa using c
 exact zva
def Aug{ds:List Stil.DN}(h:¬(1<=op/\op<=10)):Dc op ds=false:=by unfold Dc;rw[BR BS]
theorem XA(op:Int)(v:AW)(ds:List Stil.DN)(w:AU)(hr:Ee w)(c:Ar w v ds)(l:∀d∈ds,d.fits)(hl:ds.length<=9223372036854775807):
  Calls prog 184 #[.agg #[AB op,v]] w (AN w (.bool (Dc op ds))):=by
 by_cases h:1<=op/\op<=10
 .have⟨_,_,g,q1,f⟩:=uA op h.1 h.2;have m:Hid (∀W,AO w W->Calls prog 192 #[.agg #[AB op,v]] W (AN W (.bool (Dc op ds)))):=by intro W i;rw[<-f];exact T0 op _ _ v ds W (hr.below i) g q1 (c.below i) l hl
  obtain⟨a,cap,rfl,_⟩:=c;have hd:decide (1<=op/\op<=10)=true:=C5;clear g q1 f hr h;go_enter func184,ntmps184;go_wp2_with(first|(go_at_call 193;refine(VM _ _).mo ?_;rw[hd];rintro e j⟨rfl,rfl⟩)|(go_at_call 192;refine(m _ (Aa _ _)).mo ?_;rintro e o⟨rfl,n⟩));go_ret;exact⟨rfl,Ub n⟩
 have k:Hid (Dc op ds=false):=Aug h;obtain⟨a,cap,rfl,_⟩:=c;have hd:decide (1<=op/\op<=10)=false:=C5;clear hr h;go_enter func184,ntmps184;go_wp2_with(go_at_call 193;refine(VM _ _).mo ?_;rw[hd];rintro e j⟨rfl,rfl⟩);go_ret;exact⟨Ad k.symm,Aa _ _⟩
def zwa {p:Prop}(h:p:=by
 go_enter func191,ntmps191;go_wp2;all_goals go_ret
 all_goals exact⟨Ad DC,rfl⟩):p:=h
theorem X1(op:Int)(w:AU):
  Calls prog 191 #[AB op] w λe d=>e=.returned (.bool (decide (21<=op/\op<=37)))/\d=w:=by
 by_cases c:21<=op
 .by_cases b:op<=37;{have f:decide (op<=37)=true:=(by simpa using b);exact zwa};have f:decide (op<=37)=false:=by simpa using b
  exact zwa
 have g:decide (21<=op)=false:=by simpa using c
 exact zwa
def mo{ds:List Stil.DN}(h:¬(21<=op/\op<=37)):F7 op ds=false:=by unfold F7;rw[BR BS]
theorem ZI(op:Int)(v:AW)(ds:List Stil.DN)(w:AU)(hr:Ee w)(c:Ar w v ds)(l:∀d∈ds,d.fits)(hl:ds.length<=9223372036854775807):
  Calls prog 180 #[.agg #[AB op,v]] w (AN w (.bool (F7 op ds))):=by
 by_cases h:21<=op/\op<=37
 .have⟨_,_,g,q1,f⟩:=gP op h.1 h.2;have m:Hid (∀W,AO w W->Calls prog 192 #[.agg #[AB op,v]] W (AN W (.bool (F7 op ds)))):=by intro W i;rw[<-f];exact T0 op _ _ v ds W (hr.below i) g q1 (c.below i) l hl
  obtain⟨a,cap,rfl,_⟩:=c;have hd:decide (21<=op/\op<=37)=true:=C5;clear g q1 f hr h;go_enter func180,ntmps180;go_wp2_with(first|(go_at_call 191;refine(X1 _ _).mo ?_;rw[hd];rintro e j⟨rfl,rfl⟩)|(go_at_call 192;refine(m _ (Aa _ _)).mo ?_;rintro e o⟨rfl,n⟩));go_ret;exact⟨rfl,Ub n⟩
 have k:Hid (F7 op ds=false):=mo h;obtain⟨a,cap,rfl,_⟩:=c;have hd:decide (21<=op/\op<=37)=false:=C5;clear hr h;go_enter func180,ntmps180;go_wp2_with(go_at_call 191;refine(X1 _ _).mo ?_;rw[hd];rintro e j⟨rfl,rfl⟩);go_ret;exact⟨Ad k.symm,Aa _ _⟩
