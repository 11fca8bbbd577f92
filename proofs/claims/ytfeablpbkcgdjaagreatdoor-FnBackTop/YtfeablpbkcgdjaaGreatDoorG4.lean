import Derived.Laws.EntriesVeiled
import Derived.Deep.WholeRow
import Derived.Laws.CopyOwn
import Derived.Test.YtfeablpbkcgdjaaGreatDoorGU
import Derived.Test.YtfeablpbkcgdjaaGreatDoorD9
set_option linter.defProp false
set_option maxHeartbeats 4000000
set_option maxRecDepth 100000
namespace Go.Proofs.YtfeablpbkcgdjaaGreatDoor
open Tryz Go.RowKit Go.Sort Go.BigFrame
def Ly:List (List UInt8 × Nat × List Nat × List Nat):=
  [([],0,[],[]),
   ([],189,[190],[]),
   ([47],189,[190],[]),
   ([43],189,[190,191],[]),
   ([45],189,[190,191],[]),
   ([60],192,[183,183],[184,184]),
   ([60,61],192,[183,183],[184,184]),
   ([61],192,[183,183],[184,184]),
   ([60,62],192,[183,183],[184,184]),
   ([62,61],192,[183,183],[184,184]),
   ([62],192,[183,183],[184,184]),
   ([],0,[],[]),
   ([],0,[],[]),
   ([],0,[],[]),
   ([],0,[],[]),
   ([],0,[],[]),
   ([],0,[],[]),
   ([],0,[],[]),
   ([],0,[],[]),
   ([],0,[],[]),
   ([],0,[],[]),
   ([111,117,116],193,[194],[]),
   ([115,101,116],193,[195],[]),
   ([114,101,115,101,116],193,[196],[]),
   ([112,117,108,115,101],193,[194,191],[]),
   ([115,116,101,112],193,[197],[]),
   ([116,105,109,101,114],193,[185,186],[]),
   ([104,111,108,100],193,[185,186],[]),
   ([108,97,116,101],193,[185,186],[]),
   ([99,111,117,110,116],193,[198,186],[]),
   ([109,111,118,101],193,[187,183],[188,184]),
   ([97,100,100],193,[187,183,183],[188,184,184]),
   ([115,117,98],193,[187,183,183],[188,184,184]),
   ([109,117,108],193,[187,183,183],[188,184,184]),
   ([100,105,118],193,[187,183,183],[188,184,184]),
   ([114,101,109],193,[187,183,183],[]),
   ([114,101,97,108],193,[188,183],[]),
   ([119,104,111,108,101],193,[187,184],[])]
def fnv (n:Nat):Value:=if n=0 then .nilFunc else .func (.func n) #[] #[]
def O8 (r:List UInt8 × Nat × List Nat × List Nat):List Value:=
  [.string ⟨r.1.toArray⟩,fnv r.2.1,fnv (r.2.2.1.getD 0 0),fnv (r.2.2.1.getD 1 0),fnv (r.2.2.1.getD 2 0),fnv (r.2.2.2.getD 0 0),fnv (r.2.2.2.getD 1 0),fnv (r.2.2.2.getD 2 0)]
def Ja:List Value:=Ly.flatMap O8
theorem M1 {P:Program}{g:Nat}{t:TypeId}{vs tgt:List Value}{cur:Array Value}{w:World}{α:Type}(f:Unit->World->Result α)(hvs:vs=tgt)(hg:w.heap[g]?=some (.cells cur t (0,0)))(hl:tgt.length=cur.size)(h1:tgt.all (·.oneCell')=true):
    ((storeCells ⟨g,0,none⟩ vs 0).run P w).andThen f=f () (w.setRow g tgt.toArray):=by
  subst hvs;rw[run_storeCells_from (P:=P) g t vs 0 cur w hg AU (λv b=>List.all_eq_true.1 h1 v b)];simp[Result.andThen]
def TD (w:World)(o1 o2 o3 o4:Obj):((((w.alloc o1).alloc o2).alloc o3).alloc o4).heap[w.heap.size]?=some o1:=by
  show((((w.heap.push o1).push o2).push o3).push o4)[w.heap.size]?=_
  simp[Array.getElem?_push];rw[if_neg AU,if_neg AU]
theorem QE (w:World):
    Calls prog 181 #[] w λe w'=>e=.returned (.agg Ja.toArray)/\Below w.heap.size w w':=by
  go_enter func181,ntmps181
  go_wp2
  rw[M1 (tgt:=Ja) (cur:=Tryz.zeroCells225) (t:=225)]
  case hvs=>kernel_rfl
  case hl=>kernel_rfl
  case h1=>kernel_rfl
  case hg=>exact TD _ _ _ _ _
  obtain⟨W,b⟩:∃W,W=(((w.alloc (Obj.cells Tryz.zeroCells225 225)).alloc (Obj.cells #[.func (.func 183) #[] #[], .func (.func 183) #[] #[], .nilFunc, .func (.func 184) #[] #[], .func (.func 184) #[] #[], .nilFunc] 219)).alloc (Obj.cells #[.func (.func 185) #[] #[], .func (.func 186) #[] #[], .nilFunc, .nilFunc, .nilFunc, .nilFunc] 219)).alloc (Obj.cells #[.func (.func 187) #[] #[], .func (.func 183) #[] #[], .func (.func 183) #[] #[], .func (.func 188) #[] #[], .func (.func 184) #[] #[], .func (.func 184) #[] #[]] 219):=⟨_,rfl⟩
  have hg:W.heap[w.heap.size]?=some (.cells Tryz.zeroCells225 225 (0,0)):=by rw[b];exact TD _ _ _ _ _
  have f:Below w.heap.size w W:=by rw[b];(repeat (first | exact Below.refl _ _ | assumption | refine Ce ?_ _ | refine Ny ?_ _ | refine Rh ?_ | refine H9 ?_ _ _ | refine Uu (B7 _) ?_ _ | refine Au ?_ BA))
  rw[<-b];clear b;have c:(loadVar 225 ⟨w.heap.size,0,none⟩).run prog (W.setRow w.heap.size Ja.toArray)=.ok (.agg Ja.toArray) (W.setRow w.heap.size Ja.toArray):=
    run_loadVar_row _ _ _ 225 _ (0,0) _ (setRow_heap _ _ _ _ _ _ hg) underlying225 rfl AY
  have d:Below w.heap.size w (W.setRow w.heap.size Ja.toArray):=below_setRow f (B7 _) _;generalize W.setRow w.heap.size Ja.toArray=V at c d ⊢;rw[Oper.upon_skip]
  go_wp2
  refine bodyPost_ret (v:=.agg Ja.toArray) (by simp[results,results181,Act.put,asAddr,c]) rfl ⟨rfl,d⟩
open Stil
variable {a o:Nat}{op:Int}{v:Value}{w':World}
def yd:Ja.length=304:=AY
theorem QU:∀(l:List (List UInt8 × Nat × List Nat × List Nat)) (m j:Nat),j<8->(l.flatMap O8)[m*8+j]?=(l[m]?).bind (λr=>(O8 r)[j]?)
 | [],m,j,_=>by simp
 | r::l,m,j,b=>by
  rw[List.flatMap_cons];cases m with
  | zero=>rw[JE (by simp[O8];omega)];simp
  | succ k=>
   rw[KA (by simp[O8];omega)];have:=QU l k j b
   rw[show(k+1)*8+j - (O8 r).length=k*8+j from by simp[O8];omega];simpa using this
def rowOf (op:Int):List UInt8 × Nat × List Nat × List Nat:=if 0<=op/\op<38 then Ly.getD op.toNat ([],0,[],[]) else([],0,[],[])
theorem uE (W:World)(t:TypeId)(m j:Nat)(d:m<38)(b:j<8):(W.alloc (.cells Ja.toArray t)).cell? ⟨W.heap.size,m*8+j,none⟩=(O8 (rowOf m))[j]?:=by
 have c:(W.alloc (.cells Ja.toArray t)).cell? ⟨W.heap.size,m*8+j,none⟩=Ja[m*8+j]?:=by
  rw[cell_of_row _ _ _ _ _ _ (heap_alloc_last W _)];simp
 have e:Ly.length=38:=AY
 rw[c,Ja,QU _ _ _ b,rowOf,if_pos AU];simp[D1 (show m<Ly.length by omega)]
def Nq (n:Nat)(P:Program)(w:World)(a:Addr)(m:Mode):(store a (fnv n) m).run P w=stored P w a (fnv n) m:=run_store P w a _ m (by unfold fnv;split<;>rfl)
def JL (r:List UInt8 × Nat × List Nat × List Nat):Value:=.agg #[.string ⟨r.1.toArray⟩,fnv r.2.1,fnv (r.2.2.1.getD 0 0),fnv (r.2.2.1.getD 1 0),fnv (r.2.2.1.getD 2 0),fnv (r.2.2.2.getD 0 0),fnv (r.2.2.2.getD 1 0),fnv (r.2.2.2.getD 2 0)]
theorem cq (op:Int)(w:World):
  Calls prog 179 #[.int .i64 op] w λe w'=>e=.returned (JL (rowOf op))/\Below w.heap.size w w':=by
 have V:=yd;by_cases h:0<=op/\op<38
 .obtain⟨m,rfl⟩:=FN h.1
  have K:m<38:=AU
  have X:=Nq;obtain⟨r,G⟩:∃r,r=rowOf (m:Int):=⟨_,rfl⟩
  obtain⟨s,i⟩:∃s,s=r.1:=⟨_,rfl⟩
  obtain⟨u,B⟩:∃n,n=r.2.1:=⟨_,rfl⟩
  obtain⟨k,h1⟩:∃n,n=r.2.2.1.getD 0 0:=⟨_,rfl⟩
  obtain⟨C,x⟩:∃n,n=r.2.2.1.getD 1 0:=⟨_,rfl⟩
  obtain⟨l,d⟩:∃n,n=r.2.2.1.getD 2 0:=⟨_,rfl⟩
  obtain⟨q,f⟩:∃n,n=r.2.2.2.getD 0 0:=⟨_,rfl⟩
  obtain⟨g,y⟩:∃n,n=r.2.2.2.getD 1 0:=⟨_,rfl⟩
  obtain⟨D,A⟩:∃n,n=r.2.2.2.getD 2 0:=⟨_,rfl⟩
  have H:JL r=.agg #[.string ⟨s.toArray⟩,fnv u,fnv k,fnv C,fnv l,fnv q,fnv g,fnv D]:=by rw[JL,i,B,h1,x,d,f,y,A]
  have I:O8 r=[.string ⟨s.toArray⟩,fnv u,fnv k,fnv C,fnv l,fnv q,fnv g,fnv D]:=by rw[O8,i,B,h1,x,d,f,y,A]
  have b:=λW t j (Q:j<8)=>uE W t m j K Q
  rw[<-G] at b ⊢;rw[I] at b;rw[H];have N:=λW t=>b W t 0 AU
  have P:=λW t=>b W t 1 AU
  have L:=λW t=>b W t 2 AU
  have R:=λW t=>b W t 3 AU
  have S:=λW t=>b W t 4 AU
  have T:=λW t=>b W t 5 AU
  have J:=λW t=>b W t 6 AU
  have M:=λW t=>b W t 7 AU
  simp only[MW,MX,GI] at N P L R S T J M;clear b;clear I H i B h1 x d f y A G h;go_enter func179,ntmps179
  go_wp2_with (go_at_call 181;refine(QE _).mono ?_;rintro e z ⟨rfl,c⟩;obtain⟨b,O⟩:=Ff c;have E:=KC c)
  rw[M1 (tgt:=Ja) (cur:=Tryz.zeroCells225) (t:=225)]
  case hvs=>rfl
  case hl=>kernel_rfl
  case h1=>kernel_rfl
  case hg=>exact heap_alloc_last _ _
  rw[World.setRow_alloc_new,Oper.upon_skip]
  go_wp2
  have F:Below w.heap.size w z:=A2;refine bodyPost_ret (v:=.agg #[.string ⟨s.toArray⟩,fnv u,fnv k,fnv C,fnv l,fnv q,fnv g,fnv D]) (by simp[results,results179,go_sem,b,E]) rfl ⟨rfl,?_⟩;refine Ce ?_ _;iterate 8 refine Uu (B7 _) ?_ _
  exact F
 .have U:rowOf op=([],0,[],[]):=by unfold rowOf;rw[if_neg h]
  rw[U];go_enter func179,ntmps179
  go_wp2_with (go_at_call 181;refine(QE _).mono ?_;rintro e z ⟨rfl,c⟩;obtain⟨b,O⟩:=Ff c;have E:=KC c)
  rw[M1 (tgt:=Ja) (cur:=Tryz.zeroCells225) (t:=225)]
  case hvs=>rfl
  case hl=>kernel_rfl
  case h1=>kernel_rfl
  case hg=>exact heap_alloc_last _ _
  rw[World.setRow_alloc_new,Oper.upon_skip];have F:Below w.heap.size w z:=A2
  go_wp2
  all_goals refine bodyPost_ret (v:=.agg #[.string ⟨#[]⟩, .nilFunc, .nilFunc, .nilFunc, .nilFunc, .nilFunc, .nilFunc, .nilFunc]) (by simp[results,results179,go_sem,b,E]) rfl ⟨rfl,?_⟩
  all_goals
   refine Ce ?_ _;iterate 8 refine Uu (B7 _) ?_ _
   exact F
def Rt (l:List Nat):Value:=.agg #[fnv (l.getD 0 0),fnv (l.getD 1 0),fnv (l.getD 2 0)]
def MG (w:World):Sem.run prog (binOp BinOp.neq 216 .nilFunc .nilFunc) w=.ok (.bool false) w:=AY
def K7 (a:Nat)(w:World):Sem.run prog (binOp BinOp.neq 216 (.func (.func a) #[] #[]) .nilFunc) w=.ok (.bool true) w:=AY
def Y1 {n:Nat}(h:n≠0):fnv n=.func (.func n) #[] #[]:=by unfold fnv;rw[if_neg h]
def WQ:fnv 0=.nilFunc:=rfl
theorem vx (w:World):
  Calls prog 182 #[.agg #[.nilFunc, .nilFunc, .nilFunc]] w λe w'=>e=.returned (.int .i64 0)/\Below w.heap.size w w':=by
 have c:=MG;have b:=K7;go_enter func182,ntmps182
 go_wp2
 refine wp_loop_rounds 1 ?_;rw[rounds_succ]
 go_wp2
 go_ret;exact⟨rfl,A2⟩
theorem vv (a:Nat)(w:World):
  Calls prog 182 #[.agg #[.func (.func a) #[] #[], .nilFunc, .nilFunc]] w λe w'=>e=.returned (.int .i64 1)/\Below w.heap.size w w':=by
 have c:=MG;have b:=K7;go_enter func182,ntmps182
 go_wp2
 refine wp_loop_rounds 2 ?_;rw[rounds_succ]
 go_wp2
 rw[rounds_succ]
 go_wp2
 go_ret;exact⟨rfl,A2⟩
theorem vu (a b:Nat)(w:World):
  Calls prog 182 #[.agg #[.func (.func a) #[] #[], .func (.func b) #[] #[], .nilFunc]] w λe w'=>e=.returned (.int .i64 2)/\Below w.heap.size w w':=by
 have d:=MG;have c:=K7;go_enter func182,ntmps182
 go_wp2
 refine wp_loop_rounds 3 ?_;rw[rounds_succ]
 go_wp2
 rw[rounds_succ]
 go_wp2
 rw[rounds_succ]
 go_wp2
 go_ret;exact⟨rfl,A2⟩
theorem vr (a b c:Nat)(w:World):
  Calls prog 182 #[.agg #[.func (.func a) #[] #[], .func (.func b) #[] #[], .func (.func c) #[] #[]]] w λe w'=>e=.returned (.int .i64 3)/\Below w.heap.size w w':=by
 have f:=MG;have d:=K7;go_enter func182,ntmps182
 go_wp2
 refine wp_loop_rounds 4 ?_;rw[rounds_succ]
 go_wp2
 rw[rounds_succ]
 go_wp2
 rw[rounds_succ]
 go_wp2
 rw[rounds_succ]
 go_wp2
 go_ret;exact⟨rfl,A2⟩
theorem W8 (l:List Nat)(w:World)(hl:l.length<=3)(d:∀x∈l,x≠0):
  Calls prog 182 #[Rt l] w λe w'=>e=.returned (.int .i64 l.length)/\Below w.heap.size w w':=by
 match l,hl,d with
 | [],_,_=>exact vx w
 | [a],_,d=>simp only[Rt,List.getD,MW,MX,List.getElem?_nil,Option.getD,Y1 (d a AW),WQ];exact vv a w
 | [a,b],_,d=>simp only[Rt,List.getD,MW,MX,List.getElem?_nil,Option.getD,Y1 (d a AW),Y1 (d b AW),WQ];exact vu a b w
 | [a,b,c],_,d=>simp only[Rt,List.getD,MW,MX,Option.getD,Y1 (d a AW),Y1 (d b AW),Y1 (d c AW)];exact vr a b c w
 | _::_::_::_::_,hl,_=>simp at hl
def Ib (n:Nat)(p:Stil.B9->Bool):Prop:=(∀args w,(callFunc n args).run prog w=.ok (.enter n args) w)/\∀(d:Stil.B9) (w:World),Ed w->d.fits->Calls prog n #[.agg #[.int .i64 d.kind, .int .i64 d.n, .int .i64 d.p]] w λe w'=>e=.returned (.bool (p d))/\Below w.heap.size w w'
def Nr:List (Stil.B9->Bool)->List Stil.B9->Bool
 | [],[]=>true
 | p::c,d::b=>p d && Nr c b
 | _,_=>false
def Qy (ps:List (Stil.B9->Bool))(ds:List Stil.B9):Bool:=!ds.isEmpty && Nr ps ds
theorem UM:∀(c:List (Stil.B9->Bool)) (b:List Stil.B9),b.length≠c.length->Nr c b=false
 | [],[],h=>absurd rfl h
 | [],_::_,_=>rfl
 | _::_,[],_=>rfl
 | p::c,d::b,h=>by
  have:=UM c b Br
  simp[Nr,this]
theorem SQ:∀(c:List (Stil.B9->Bool)) (b:List Stil.B9) (k:Nat) (f:k<c.length) (e:k<b.length),Nr (c.drop k) (b.drop k)=(c[k] b[k] && Nr (c.drop (k+1)) (b.drop (k+1)))
 | p::c,d::b,0,_,_=>rfl
 | p::c,d::b,k+1,f,e=>by
  have:=SQ c b k (by simpa using f) (by simpa using e)
  simpa using this
theorem rT (l:List Nat)(ps:List (Stil.B9->Bool))(a:Option Addr)(cap:Nat)(ds:List Stil.B9)(w:World)(hr:Ed w)(hl:l.length=ps.length)(hd:ds.length=ps.length)(P:l.length<=3)(q:∀i (h1:i<l.length) (h2:i<ps.length),l[i]≠0/\Ib l[i] ps[i])(h0:0<ds.length)
  (N:∀i (h:i<ds.length),∃b o,a=some ⟨b,o,none⟩/\b<w.heap.size/\Iz w b (o+i*3) ds[i]) (Z:∀x∈ds,x.fits):
  Calls prog 180 #[Rt l, .slice a ds.length cap] w λe w'=>e=.returned (.bool (Nr ps ds))/\Below w.heap.size w w':=by
 have al:=Nq;obtain⟨u,E⟩:∃f,f=l.getD 0 0:=⟨_,rfl⟩
 obtain⟨s,F⟩:∃f,f=l.getD 1 0:=⟨_,rfl⟩
 obtain⟨y,D⟩:∃f,f=l.getD 2 0:=⟨_,rfl⟩
 have B:Hid (Rt l=.agg #[fnv u,fnv s,fnv y]):=by show _=_;rw[Rt,E,F,D]
 have HP:Hid (∀W,Calls prog 182 #[.agg #[fnv u,fnv s,fnv y]] W λe w'=>e=.returned (.int .i64 ds.length)/\Below W.heap.size W w'):=by
  intro W
  have:=W8 l W P (λx g=>by
   obtain⟨i,hi,rfl⟩:=List.getElem_of_mem g
   exact(q i hi AU).1)
  rw[B.out] at this;rw[hd,<-hl];exact this
 have HC:Hid (∀k (h:k<ds.length),(w.alloc (.cells #[fnv u,fnv s,fnv y] 218)).cell? ⟨w.heap.size,k,none⟩=some (.func (.func (l.getD k 0)) #[] #[])):=by
  intro k L;have af:l.getD k 0≠0:=by
   have m:k<l.length:=AU
   have:=(q k m AU).1
   simpa[List.getD,D1 m] using this
  rw[<-Y1 af];have ad:k=0\/k=1\/k=2:=AU
  rcases ad with rfl | rfl | rfl<;>simp[go_sem,E,F,D]
 have HF:Hid (∀k (h:k<ds.length) (h2:k<ps.length),Ib (l.getD k 0) ps[k]):=by
  intro k L aj;have m:k<l.length:=AU
  have:=(q k m AU).2
  simpa[List.getD,D1 m] using this
 have HA:=Ab N;have X:=Ab (λW (h:Below w.heap.size w W)=>hr.below h);have eu:=Ab Z;have ag:ds.length<=3:=AU
 have M:=Ab hd;have ak:¬ds=[]:=by intro h;rw[h] at h0;simp at h0
 rw[B.out];clear E F D hl hd P q N hr B Z;go_enter func180,ntmps180
 go_wp2_with (go_at_call 182;refine(HP _).mono ?_;rintro e w1 ⟨rfl,c⟩;obtain⟨hc,ac⟩:=Ff c;have hz:=KC c)
 go_loopw [19] (λi wr=>∃k:Nat,k<=ds.length/\i=.int .i64 k/\Nr ps ds=Nr (ps.drop k) (ds.drop k)/\Below (w.heap.size+1) (w.alloc (.cells #[fnv u,fnv s,fnv y] 218)) wr) (λi _=>ds.length - (intOf i).toNat)
 case atStart=>exact⟨0,AU,rfl,rfl,by simpa using c⟩
 case round=>
  clear c hc ac hz;obtain⟨k,L,rfl,T,c⟩:=hrel;have r:=Ab T;clear T;have ab:=(Aa _ _).trans (c.mono AU);have ah:w.heap.size<wr.heap.size:=by have:=c.size;simp at this;omega
  by_cases j:k<ds.length
  .obtain⟨b,o,rfl,S,J⟩:=HA k j
   have Q:k<ps.length:=by have:=M.out;omega
   have d:=HF k j Q;have H:=eu ds[k] (CG j);have t:=Ab (SQ ps ds k Q j);obtain⟨x0,x1,x2⟩:=J.below ab S;have yx:=B8 S ab.size;have C:wr.cell? ⟨w.heap.size,k,none⟩=some (.func (.func (l.getD k 0)) #[] #[]):=by
    rw[c.cell (p:=⟨w.heap.size,k,none⟩) AW];exact HC k j
   obtain⟨p,z⟩:∃p,p=ps[k]:=⟨_,rfl⟩
   obtain⟨x,g⟩:∃x,x=ds[k]:=⟨_,rfl⟩
   obtain⟨n,A⟩:∃n,n=l.getD k 0:=⟨_,rfl⟩
   rw[<-g] at x0 x1 x2 H;rw[<-z,<-g] at t;rw[<-A] at C;rw[<-A,<-z] at d;obtain⟨ai,d⟩:=d;have O:=Ab d;have K:=Ab H;clear A g z J d H;have U:(wr.alloc (.cells #[.int .i64 x.kind, .int .i64 x.n, .int .i64 x.p] 92)).cell? ⟨w.heap.size,k,none⟩=some (.func (.func n) #[] #[]):=by rw[World.cell?_alloc_some _ _ _ (by rw[C];rfl)];exact C
   have q1:(wr.alloc (.cells #[.int .i64 x.kind, .int .i64 x.n, .int .i64 x.p] 92)).cell? ⟨wr.heap.size,0,none⟩=some (.int .i64 x.kind):=by simp[go_sem]
   have V:(wr.alloc (.cells #[.int .i64 x.kind, .int .i64 x.n, .int .i64 x.p] 92)).cell? ⟨wr.heap.size,1,none⟩=some (.int .i64 x.n):=by simp[go_sem]
   have R:(wr.alloc (.cells #[.int .i64 x.kind, .int .i64 x.n, .int .i64 x.p] 92)).cell? ⟨wr.heap.size,2,none⟩=some (.int .i64 x.p):=by simp[go_sem]
   have r0:=cell_regrown U;have r1:=cell_regrown q1;have r2:=cell_regrown V;have r3:=cell_regrown R;clear U q1 V R;cases aa:p x
   .go_wp2
    refine wp_region_quiet_below AY AY ?_;repeat (go_big_quiet_step ((exact Calls.regrown_of (O _ _ (X _ A2) K.out))))
    refine wpQuiet_nil ?_;intro _ G;obtain⟨⟨Y,osq⟩,I⟩:=G;subst I
    go_wp2
    go_ret;exact⟨Ad (by rw[r.out,t.out,aa];rfl),A2⟩
   .have ae:Hid (Nr ps ds=Nr (ps.drop (k+1)) (ds.drop (k+1))):=by show _=_;rw[r.out,t.out,aa];rfl
    clear t r
    go_wp2
    refine wp_region_quiet_below AY AY ?_;repeat (go_big_quiet_step ((exact Calls.regrown_of (O _ _ (X _ A2) K.out))))
    refine wpQuiet_nil ?_;intro _ G;obtain⟨⟨Y,osq⟩,I⟩:=G;subst I
    go_wp2
    refine⟨⟨k+1,AU,by go_num,ae.out,?_⟩,by simp[intOf];omega⟩;exact(c.alloc AU _).trans ((below_regrown _ Y osq).mono Ax)
  .have HE:Hid (Nr ps ds=true):=by
    show _=_
    have:=M.out
    rw[r.out,GH AU,GH AU];rfl
   go_wp2
   go_ret;exact⟨Ad HE.symm,A2⟩
theorem XQ (l:List Nat)(ps:List (Stil.B9->Bool))(v:Value)(ds:List Stil.B9)(w:World)(hr:Ed w)(hl:l.length=ps.length)(k:l.length<=3)(d:∀i (C:i<l.length) (y:i<ps.length),l[i]≠0/\Ib l[i] ps[i])
  (c:Ak w v ds) (g:∀x∈ds,x.fits) (t:ds.length<=9223372036854775807):
  Calls prog 180 #[Rt l,v] w λe w'=>e=.returned (.bool (Qy ps ds))/\Below w.heap.size w w':=by
 obtain⟨a,cap,rfl,c⟩:=c;by_cases f:ds=[]
 .subst f
  have r:=Nq;have b:Hid (Qy ps []=false):=rfl;unfold Rt;clear d c g hr;go_enter func180,ntmps180
  go_wp2
  go_ret;exact⟨Ad b.symm,A2⟩
 .have s:=List.length_pos_iff.2 f
  by_cases hd:ds.length=ps.length
  .have b:Qy ps ds=Nr ps ds:=by
    have:ds.isEmpty=false:=by simpa using f
    rw[Qy,this];rfl
   rw[b];exact rT l ps a cap ds w hr hl hd k d s c g
  .have b:Hid (Qy ps ds=false):=by show _=_;rw[Qy,UM ps ds hd,Bool.and_false]
   have r:=Nq
   have m:=Ab (λW=>W8 l W k (λx q=>by
    obtain⟨i,hi,rfl⟩:=List.getElem_of_mem q
    exact(d i hi AU).1))
   have u:((ds.length:Int) !=(l.length:Int))=true:=by rw[bne_iff_ne];omega
   clear d c g hr hd hl;unfold Rt at m ⊢;go_enter func180,ntmps180
   go_wp2_with (go_at_call 182;refine(m _).mono ?_;rintro e z ⟨rfl,j⟩;obtain⟨A,B⟩:=Ff j;have D:=KC j)
   go_ret;exact⟨Ad b.symm,A2⟩
def ye (c x1 x2 x3 x4 x5 x6 b:Value)(w:World):(Instr.field 221 (.agg #[c,x1,x2,x3,x4,x5,x6,b]) 2).run prog w=.ok (.agg #[x2,x3,x4,x5,x6,b]) w:=AY
def Z3 (x2 x3 x4 x5 x6 b:Value)(w:World):(Instr.index 219 (.agg #[x2,x3,x4,x5,x6,b]) (.int .i64 0)).run prog w=.ok (.agg #[x2,x3,x4]) w:=AY
def cJ (x2 x3 x4 x5 x6 b:Value)(w:World):(Instr.index 219 (.agg #[x2,x3,x4,x5,x6,b]) (.int .i64 1)).run prog w=.ok (.agg #[x5,x6,b]) w:=AY
def GO (l:List Nat)(ps:List (Stil.B9->Bool)):Prop:=l.length=ps.length/\l.length<=3/\∀i (c:i<l.length) (b:i<ps.length),l[i]≠0/\Ib l[i] ps[i]
theorem QF (op:Int)(u A:List (Stil.B9->Bool))(v:Value)(ds:List Stil.B9)(w:World)(hr:Ed w)(h0:GO (rowOf op).2.2.1 u)(h1:GO (rowOf op).2.2.2 A)
  (Y:Ak w v ds) (R:∀x∈ds,x.fits) (E:ds.length<=9223372036854775807):
  Calls prog 174 #[.agg #[.int .i64 op,v]] w λe w'=>e=.returned (.bool (Qy u ds || Qy A ds))/\Below w.heap.size w w':=by
 obtain⟨r,j⟩:∃r,r=rowOf op:=⟨_,rfl⟩
 rw[<-j] at h0 h1;have O:Hid (∀W,Calls prog 179 #[.int .i64 op] W λe w'=>e=.returned (JL r)/\Below W.heap.size W w'):=by intro W;rw[j];exact cq op W
 have m:=Ab (λW (h:Below w.heap.size w W)=>Y.below h);have M:=Ab (λW (h:Below w.heap.size w W)=>hr.below h);have f:=Ab (λW h=>XQ _ _ v ds W (M W h) h0.1 h0.2.1 h0.2.2 (m W h) R E);have g:=Ab (λW h=>XQ _ _ v ds W (M W h) h1.1 h1.2.1 h1.2.2 (m W h) R E);obtain⟨a,cap,rfl,_⟩:=Y;obtain⟨s,I⟩:∃s,s=r.1:=⟨_,rfl⟩
 obtain⟨Z,G⟩:∃n,n=r.2.1:=⟨_,rfl⟩
 obtain⟨J,z⟩:∃n,n=r.2.2.1.getD 0 0:=⟨_,rfl⟩
 obtain⟨T,l⟩:∃n,n=r.2.2.1.getD 1 0:=⟨_,rfl⟩
 obtain⟨K,B⟩:∃n,n=r.2.2.1.getD 2 0:=⟨_,rfl⟩
 obtain⟨L,t⟩:∃n,n=r.2.2.2.getD 0 0:=⟨_,rfl⟩
 obtain⟨H,k⟩:∃n,n=r.2.2.2.getD 1 0:=⟨_,rfl⟩
 obtain⟨U,q⟩:∃n,n=r.2.2.2.getD 2 0:=⟨_,rfl⟩
 have X:Rt r.2.2.1=.agg #[fnv J,fnv T,fnv K]:=by rw[Rt,z,l,B]
 have N:Rt r.2.2.2=.agg #[fnv L,fnv H,fnv U]:=by rw[Rt,t,k,q]
 have V:JL r=.agg #[.string ⟨s.toArray⟩,fnv Z,fnv J,fnv T,fnv K,fnv L,fnv H,fnv U]:=by rw[JL,I,G,z,l,B,t,k,q]
 rw[X] at f;rw[N] at g;rw[V] at O;clear h0 h1 hr j I G z l B t k q X N V m;have ab:=Nq;have ae:=ye;have aa:=Z3;have ad:=cJ;generalize Qy u ds=t0 at f ⊢;generalize Qy A ds=t1 at g ⊢;go_enter func174,ntmps174
 go_wp2_with (go_at_call 179;refine(O _).mono ?_;rintro e w1 ⟨rfl,i⟩;obtain⟨hc,ac⟩:=Ff i;have D:=KC i;have d:=Ri i)
 cases t0
 .cases t1
  .refine wp_loop_rounds 3 ?_
   rw[rounds_succ]
   go_wp2_with (go_at_call 180;refine(f _ (Ce d _)).mono ?_;rintro e S ⟨rfl,b⟩;obtain⟨P,F⟩:=Ff b;have Q:=B8 D (CB AW b.size);have c:=Au (Ce d _) b)
   rw[rounds_succ]
   go_wp2_with (go_at_call 180;refine(g _ (Ce c _)).mono ?_;rintro e w3 ⟨rfl,y⟩;have C:=Au (Ce c _) y)
   rw[rounds_succ]
   go_wp2
   go_ret;exact⟨rfl,C⟩
  .refine wp_loop_rounds 2 ?_
   rw[rounds_succ]
   go_wp2_with (go_at_call 180;refine(f _ (Ce d _)).mono ?_;rintro e S ⟨rfl,b⟩;obtain⟨P,F⟩:=Ff b;have Q:=B8 D (CB AW b.size);have c:=Au (Ce d _) b)
   rw[rounds_succ]
   go_wp2_with (go_at_call 180;refine(g _ (Ce c _)).mono ?_;rintro e w3 ⟨rfl,y⟩;have C:=Au (Ce c _) y)
   go_ret;exact⟨rfl,C⟩
 .refine wp_loop_rounds 1 ?_
  rw[rounds_succ]
  go_wp2_with (go_at_call 180;refine(f _ (Ce d _)).mono ?_;rintro e S ⟨rfl,b⟩;obtain⟨P,F⟩:=Ff b;have Q:=B8 D (CB AW b.size);have c:=Au (Ce d _) b)
  go_ret;exact⟨rfl,c⟩
def pl (l:List Int)(d:Stil.B9):Bool:=d.ok && decide (d.kind∈l)
def WZ (d:Stil.B9):Bool:=d.ok && decide (d.kind∈([11]:List Int)) && decide (0<=d.n)
def QX:Ib 191 (pl [5]):=⟨enters_of func191 AY rfl,λd w c b=>eJ d w c b.2.1.1 b.2.1.2⟩
def e9:Ib 197 (pl [4]):=⟨enters_of func197 AY rfl,λd w c b=>eF d w c b.2.1.1 b.2.1.2⟩
def e8:Ib 185 (pl [7]):=⟨enters_of func185 AY rfl,λd w c b=>eE d w c b.2.1.1 b.2.1.2⟩
def fD:Ib 198 (pl [8]):=⟨enters_of func198 AY rfl,λd w c b=>eL d w c b.2.1.1 b.2.1.2⟩
def LF:Ib 187 (pl [9]):=⟨enters_of func187 AY rfl,λd w c b=>eK d w c b.2.1.1 b.2.1.2⟩
def MQ:Ib 188 (pl [10]):=⟨enters_of func188 AY rfl,λd w c b=>eI d w c b.2.1.1 b.2.1.2⟩
def QN:Ib 194 (pl [2,3]):=⟨enters_of func194 AY rfl,λd w c b=>eV d w c b.2.1.1 b.2.1.2⟩
def dr:Ib 195 (pl [2,3,4]):=⟨enters_of func195 AY rfl,λd w c b=>ct d w c b.2.1.1 b.2.1.2⟩
def YZ:Ib 196 (pl [2,3,4,7,8]):=⟨enters_of func196 AY rfl,λd w c b=>wA d w c b.2.1.1 b.2.1.2⟩
def VU:Ib 186 WZ:=⟨enters_of func186 AY rfl,λd w c b=>sL d w c b.2.1.1 b.2.1.2⟩
def QC:Ib 190 Stil.B9.isBit:=⟨enters_of func190 AY rfl,λd w c b=>qz d.kind d.n d.p w c b.2.1.1 b.2.1.2⟩
def Rx:Ib 183 Stil.B9.isWhole:=⟨enters_of func183 AY rfl,λd w c b=>j7 d.kind d.n d.p w c b.2.1.1 b.2.1.2⟩
def JH:Ib 184 Stil.B9.isReal:=⟨enters_of func184 AY rfl,λd w c b=>mh d.kind d.n d.p w c b.2.1.1 b.2.1.2⟩
def FV:GO [] []:=⟨rfl,AW,λi h=>absurd h AW⟩
theorem JS {p:Stil.B9->Bool}(b:a≠0)(h:Ib a p):GO [a] [p]:=⟨rfl,AW,λi c d=>by
 have:i=0:=by simp at c;omega
 subst this;exact⟨b,h⟩⟩
theorem GQ {b:Nat}{p q:Stil.B9->Bool}(d:a≠0)(h:Ib a p)(c:b≠0)(k:Ib b q):GO [a,b] [p,q]:=⟨rfl,AW,λi e f=>by
 have:i=0\/i=1:=by simp at e;omega
 rcases this with rfl | rfl
 .exact⟨d,h⟩
 .exact⟨c,k⟩⟩
theorem MP {b c:Nat}{p q r:Stil.B9->Bool}(e:a≠0)(h:Ib a p)(d:b≠0)(k:Ib b q)(f:c≠0)(m:Ib c r):GO [a,b,c] [p,q,r]:=⟨rfl,AW,λi g j=>by
 have:i=0\/i=1\/i=2:=by simp at g;omega
 rcases this with rfl | rfl | rfl
 .exact⟨e,h⟩
 .exact⟨d,k⟩
 .exact⟨f,m⟩⟩
def BO {p:Prop}(h:p:=by(rcases ds with _ | ⟨a,_ | ⟨b,_ | ⟨c,_ | ⟨d,r⟩⟩⟩⟩<;>simp[Qy,Nr,Dl,Fz,Stil.arity,FC,Lr,pl,WZ,Stil.B9.kindIs,Lh,Stil.B9.ok,Stil.B9.isBit,Stil.B9.isWhole,Stil.B9.isReal]<;>try first | omega | grind)):p:=h
theorem ko (op:Int)(h1:1<=op)(e:op<=10):∃p q,GO (rowOf op).2.2.1 p/\GO (rowOf op).2.2.2 q/\∀ds,(Qy p ds || Qy q ds)=Dl op ds:=by
 have h:op=1\/op=2\/op=3\/op=4\/op=5\/op=6\/op=7\/op=8\/op=9\/op=10:=AU
 rcases h with rfl | rfl | rfl | rfl | rfl | rfl | rfl | rfl | rfl | rfl
 all_goals first
  | exact⟨_,_,JS AZ QC,FV,λds=>BO⟩
  | exact⟨_,_,GQ AZ QC AZ QX,FV,λds=>BO⟩
  | exact⟨_,_,GQ AZ Rx AZ Rx,GQ AZ JH AZ JH,λds=>BO⟩
theorem xo (op:Int)(h1:21<=op)(e:op<=37):∃p q,GO (rowOf op).2.2.1 p/\GO (rowOf op).2.2.2 q/\∀ds,(Qy p ds || Qy q ds)=Fz op ds:=by
 have h:op=21\/op=22\/op=23\/op=24\/op=25\/op=26\/op=27\/op=28\/op=29\/op=30\/op=31\/op=32\/op=33\/op=34\/op=35\/op=36\/op=37:=AU
 rcases h with rfl | rfl | rfl | rfl | rfl | rfl | rfl | rfl | rfl | rfl | rfl | rfl | rfl | rfl | rfl | rfl | rfl
 all_goals first
  | exact⟨_,_,JS AZ QN,FV,λds=>BO⟩
  | exact⟨_,_,JS AZ dr,FV,λds=>BO⟩
  | exact⟨_,_,JS AZ YZ,FV,λds=>BO⟩
  | exact⟨_,_,GQ AZ QN AZ QX,FV,λds=>BO⟩
  | exact⟨_,_,JS AZ e9,FV,λds=>BO⟩
  | exact⟨_,_,GQ AZ e8 AZ VU,FV,λds=>BO⟩
  | exact⟨_,_,GQ AZ fD AZ VU,FV,λds=>BO⟩
  | exact⟨_,_,GQ AZ LF AZ Rx,GQ AZ MQ AZ JH,λds=>BO⟩
  | exact⟨_,_,MP AZ LF AZ Rx AZ Rx,MP AZ MQ AZ JH AZ JH,λds=>BO⟩
  | exact⟨_,_,MP AZ LF AZ Rx AZ Rx,FV,λds=>BO⟩
  | exact⟨_,_,GQ AZ MQ AZ Rx,FV,λds=>BO⟩
  | exact⟨_,_,GQ AZ LF AZ JH,FV,λds=>BO⟩
def zra {p:Prop}(h:p:=by
 go_enter func178,ntmps178
 go_wp2
 all_goals go_ret
 all_goals exact⟨Ad yDe,rfl⟩):p:=h
theorem Z9 (op:Int)(w:World):
  Calls prog 178 #[.int .i64 op] w λe w'=>e=.returned (.bool (decide (1<=op/\op<=10)))/\w'=w:=by
 by_cases c:1<=op
 .by_cases b:op<=10
  .have d:decide (op<=10)=true:=by simpa using b
   exact zra
  .have d:decide (op<=10)=false:=by simpa using b
   exact zra
 .have f:decide (1<=op)=false:=by simpa using c
  exact zra
def pD {ds:List Stil.B9}(h:¬(1<=op/\op<=10)):Dl op ds=false:=by unfold Dl;rw[if_pos AU]
theorem S8 (op:Int)(v:Value)(ds:List Stil.B9)(w:World)(hr:Ed w)(b:Ak w v ds)(l:∀d∈ds,d.fits)(hl:ds.length<=9223372036854775807):
  Calls prog 172 #[.agg #[.int .i64 op,v]] w λe w'=>e=.returned (.bool (Dl op ds))/\Below w.heap.size w w':=by
 by_cases h:1<=op/\op<=10
 .obtain⟨_,_,g,q1,c⟩:=ko op h.1 h.2
  have m:Hid (∀W,Below w.heap.size w W->Calls prog 174 #[.agg #[.int .i64 op,v]] W λe w'=>e=.returned (.bool (Dl op ds))/\Below W.heap.size W w'):=by
   intro W f;rw[<-c];exact QF op _ _ v ds W (hr.below f) g q1 (b.below f) l hl
  obtain⟨a,cap,rfl,_⟩:=b;have hd:decide (1<=op/\op<=10)=true:=by simpa using h
  clear g q1 c hr h;go_enter func172,ntmps172
  go_wp2_with (first | (go_at_call 178;refine(Z9 _ _).mono ?_;rw[hd];rintro e k ⟨rfl,rfl⟩) | (go_at_call 174;refine(m _ (Aa _ _)).mono ?_;rintro e n ⟨rfl,i⟩))
  go_ret;exact⟨rfl,Ri i⟩
 .have j:Hid (Dl op ds=false):=pD h
  obtain⟨a,cap,rfl,_⟩:=b;have hd:decide (1<=op/\op<=10)=false:=by simpa using h
  clear hr h;go_enter func172,ntmps172
  go_wp2_with (go_at_call 178;refine(Z9 _ _).mono ?_;rw[hd];rintro e k ⟨rfl,rfl⟩)
  go_ret;exact⟨Ad j.symm,Aa _ _⟩
def zsa {p:Prop}(h:p:=by
 go_enter func173,ntmps173
 go_wp2
 all_goals go_ret
 all_goals exact⟨Ad yDe,rfl⟩):p:=h
theorem TU (op:Int)(w:World):
  Calls prog 173 #[.int .i64 op] w λe w'=>e=.returned (.bool (decide (21<=op/\op<=37)))/\w'=w:=by
 by_cases c:21<=op
 .by_cases b:op<=37
  .have d:decide (op<=37)=true:=by simpa using b
   exact zsa
  .have d:decide (op<=37)=false:=by simpa using b
   exact zsa
 .have f:decide (21<=op)=false:=by simpa using c
  exact zsa
def cQ {ds:List Stil.B9}(h:¬(21<=op/\op<=37)):Fz op ds=false:=by unfold Fz;rw[if_pos AU]
theorem VB (op:Int)(v:Value)(ds:List Stil.B9)(w:World)(hr:Ed w)(b:Ak w v ds)(l:∀d∈ds,d.fits)(hl:ds.length<=9223372036854775807):
  Calls prog 160 #[.agg #[.int .i64 op,v]] w λe w'=>e=.returned (.bool (Fz op ds))/\Below w.heap.size w w':=by
 by_cases h:21<=op/\op<=37
 .obtain⟨_,_,g,q1,c⟩:=xo op h.1 h.2
  have m:Hid (∀W,Below w.heap.size w W->Calls prog 174 #[.agg #[.int .i64 op,v]] W λe w'=>e=.returned (.bool (Fz op ds))/\Below W.heap.size W w'):=by
   intro W f;rw[<-c];exact QF op _ _ v ds W (hr.below f) g q1 (b.below f) l hl
  obtain⟨a,cap,rfl,_⟩:=b;have hd:decide (21<=op/\op<=37)=true:=by simpa using h
  clear g q1 c hr h;go_enter func160,ntmps160
  go_wp2_with (first | (go_at_call 173;refine(TU _ _).mono ?_;rw[hd];rintro e k ⟨rfl,rfl⟩) | (go_at_call 174;refine(m _ (Aa _ _)).mono ?_;rintro e n ⟨rfl,i⟩))
  go_ret;exact⟨rfl,Ri i⟩
 .have j:Hid (Fz op ds=false):=cQ h
  obtain⟨a,cap,rfl,_⟩:=b;have hd:decide (21<=op/\op<=37)=false:=by simpa using h
  clear hr h;go_enter func160,ntmps160
  go_wp2_with (go_at_call 173;refine(TU _ _).mono ?_;rw[hd];rintro e k ⟨rfl,rfl⟩)
  go_ret;exact⟨Ad j.symm,Aa _ _⟩
def Kz (P:Nat->Prop)(w w':World):Prop:=w.heap.size<=w'.heap.size/\∀b o,P b->b<w.heap.size->w'.cell? ⟨b,o,none⟩=w.cell? ⟨b,o,none⟩
theorem Kz.of_below {P:Nat->Prop}{w:World}(h:Below w.heap.size w w'):Kz P w w':=⟨h.size,λb o _ c=>h.cell (p:=⟨b,o,none⟩) c⟩
def E4 (a:Option Addr)(n cap:Nat):Prop:=n<=cap/\(a=none->cap=0)
def Qh (P:Nat->Prop)(w:World)(v:Value)(ds:List Stil.B9):Prop:=∃a cap,v=.slice a ds.length cap/\E4 a ds.length cap/\∀i (h:i<ds.length),∃b o,a=some ⟨b,o,none⟩/\P b/\b<w.heap.size/\Iz w b (o+i*3) ds[i]
def Iz.keepIn {P:Nat->Prop}{w:World}{b:Nat}{d:Stil.B9}(h:Iz w b o d)(e:Kz P w w')(hl:P b)(c:b<w.heap.size):Iz w' b o d:=by
 obtain⟨i,g,f⟩:=h;exact⟨by rw[e.2 _ _ hl c];exact i,by rw[e.2 _ _ hl c];exact g,by rw[e.2 _ _ hl c];exact f⟩
theorem Qh.keep {P:Nat->Prop}{w:World}{ds:List Stil.B9}(h:Qh P w v ds)(e:Kz P w w'):Qh P w' v ds:=by
 obtain⟨a,cap,j,k,f⟩:=h;refine⟨a,cap,j,k,λi hi=>?_⟩;obtain⟨b,o,g,d,c,hd⟩:=f i hi;exact⟨b,o,g,d,B8 c e.1,hd.keepIn e d c⟩
theorem Qh.mono {P Q:Nat->Prop}{w:World}{ds:List Stil.B9}(h:Qh Q w v ds)(hl:∀b,b<w.heap.size->Q b->P b):Qh P w v ds:=by
 obtain⟨a,cap,j,e,d⟩:=h;refine⟨a,cap,j,e,λi hi=>?_⟩;obtain⟨b,o,f,g,c,hd⟩:=d i hi;exact⟨b,o,f,hl _ c g,c,hd⟩
abbrev Qh.mo:=@Qh.mono
theorem Qh.at {P:Nat->Prop}{w:World}{ds:List Stil.B9}(h:Qh P w v ds):Ak w v ds:=by
 obtain⟨a,cap,f,j,d⟩:=h;refine⟨a,cap,f,λi hi=>?_⟩;obtain⟨b,o,e,g,c,hd⟩:=d i hi;exact⟨b,o,e,c,hd⟩
def Qd (P:Nat->Prop)(w:World):Nat->Nat->Stil.B1->Prop
 | b,o,⟨k,e,kids⟩=>w.cell? ⟨b,o,none⟩=some (.int .i64 k)/\w.cell? ⟨b,o+1,none⟩=some (.int .i64 e.op)/\
   (∃d,w.cell? ⟨b,o+2,none⟩=some d/\Qh P w d e.args)/\
   ∃a cap,w.cell? ⟨b,o+3,none⟩=some (.slice a kids.length cap)/\E4 a kids.length cap/\∀i (h:i<kids.length),∃c f,a=some ⟨c,f,none⟩/\P c/\c<w.heap.size/\
    (have:=IW (CG h);Qd P w c (f+i*4) kids[i])
def LX (P:Nat->Prop)(w:World)(b o:Nat)(k:Int)(e:Stil.Elem)(kids:List Stil.B1):Qd P w b o ⟨k,e,kids⟩=(w.cell? ⟨b,o,none⟩=some (.int .i64 k)/\w.cell? ⟨b,o+1,none⟩=some (.int .i64 e.op)/\
   (∃d,w.cell? ⟨b,o+2,none⟩=some d/\Qh P w d e.args)/\
   ∃a cap,w.cell? ⟨b,o+3,none⟩=some (.slice a kids.length cap)/\E4 a kids.length cap/\∀i (h:i<kids.length),∃c f,a=some ⟨c,f,none⟩/\P c/\c<w.heap.size/\Qd P w c (f+i*4) kids[i]):=by rw[Qd]
def Yo (P:Nat->Prop)(w:World)(v:Value)(ns:List Stil.B1):Prop:=∃a cap,v=.slice a ns.length cap/\E4 a ns.length cap/\∀i (h:i<ns.length),∃b o,a=some ⟨b,o,none⟩/\P b/\b<w.heap.size/\Qd P w b (o+i*4) ns[i]
theorem LR (P:Nat->Prop)(w:World)(b o:Nat)(n:Stil.B1):Qd P w b o n↔(w.cell? ⟨b,o,none⟩=some (.int .i64 n.kind)/\w.cell? ⟨b,o+1,none⟩=some (.int .i64 n.one.op)/\
   (∃l,w.cell? ⟨b,o+2,none⟩=some l/\Qh P w l n.one.args)/\∃j,w.cell? ⟨b,o+3,none⟩=some j/\Yo P w j n.kids):=by
 obtain⟨k,e,kids⟩:=n;rw[LX];constructor
 .rintro⟨g,h,c,a,cap,d,f,i⟩;exact⟨g,h,c,_,d,a,cap,rfl,f,i⟩
 .rintro⟨g,h,c,_,d,a,cap,rfl,f,i⟩;exact⟨g,h,c,a,cap,d,f,i⟩
def zi0 {p:Prop}(h:p:=by
 obtain⟨b',o',ha,hlo,hl',hn⟩:=h6 i hi
 exact⟨b',o',ha,hlo,B8 hl' hk.1,ih _ (CG hi) b' _ hn hlo hl'⟩):p:=h
theorem Qd.keep {P:Nat->Prop}{w:World}(hk:Kz P w w'):∀(n:Stil.B1) (b o:Nat),Qd P w b o n->P b->b<w.heap.size->Qd P w' b o n:=by
 intro n;induction n using Fv with
 | h k e kids ih=>
  intro b o h d c;rw[LX] at h ⊢;obtain⟨r,m,⟨l,f,g⟩,a,cap,q,j,h6⟩:=h;refine⟨?_,?_,⟨l,?_,g.keep hk⟩,a,cap,?_,j,λi hi=>?_⟩
  .rw[hk.2 _ _ d c];exact r
  .rw[hk.2 _ _ d c];exact m
  .rw[hk.2 _ _ d c];exact f
  .rw[hk.2 _ _ d c];exact q
  .exact zi0
theorem Yo.keep {P:Nat->Prop}{w:World}{ns:List Stil.B1}(h:Yo P w v ns)(e:Kz P w w'):Yo P w' v ns:=by
 obtain⟨a,cap,j,k,f⟩:=h;refine⟨a,cap,j,k,λi hi=>?_⟩;obtain⟨b,o,g,d,c,hd⟩:=f i hi;exact⟨b,o,g,d,B8 c e.1,Qd.keep e _ _ _ hd d c⟩
theorem Qd.mono {P Q:Nat->Prop}{w:World}(hl:∀b,b<w.heap.size->Q b->P b):∀(n:Stil.B1) (b o:Nat),Qd Q w b o n->Qd P w b o n:=by
 intro n;induction n using Fv with
 | h k e kids y=>
  intro b o h;rw[LX] at h ⊢;obtain⟨x,s,⟨m,g,j⟩,a,cap,t,l,u⟩:=h;refine⟨x,s,⟨m,g,j.mono hl⟩,a,cap,t,l,λi hi=>?_⟩;obtain⟨c,r,q,p,d,f⟩:=u i hi;exact⟨c,r,q,hl _ d p,d,y _ (CG hi) c _ f⟩
abbrev Qd.mo:=@Qd.mono
theorem Qd.at {P:Nat->Prop}{w:World}:∀(n:Stil.B1) (b o:Nat),Qd P w b o n->N9 w b o n:=by
 intro n;induction n using Fv with
 | h k e kids u=>
  intro b o h;rw[LX] at h;rw[LY];obtain⟨t,q,⟨j,f,g⟩,a,cap,r,x,s⟩:=h;refine⟨t,q,⟨j,f,g.at⟩,a,cap,r,λi hi=>?_⟩;obtain⟨c,m,l,y,p,d⟩:=s i hi;exact⟨c,m,l,p,u _ (CG hi) c _ d⟩
theorem Yo.at {P:Nat->Prop}{w:World}{ns:List Stil.B1}(h:Yo P w v ns):Eo w v ns:=by
 obtain⟨a,cap,f,j,d⟩:=h;refine⟨a,cap,f,λi hi=>?_⟩;obtain⟨b,o,e,g,c,hd⟩:=d i hi;exact⟨b,o,e,c,Qd.at _ _ _ hd⟩
def MJ (P:Nat->Prop)(w:World)(b o:Nat)(e:Stil.Elem):Prop:=w.cell? ⟨b,o,none⟩=some (.int .i64 e.op)/\∃c,w.cell? ⟨b,o+1,none⟩=some c/\Qh P w c e.args
def N7 (P:Nat->Prop)(w:World)(v:Value)(es:List Stil.Elem):Prop:=∃a cap,v=.slice a es.length cap/\E4 a es.length cap/\∀i (h:i<es.length),∃b o,a=some ⟨b,o,none⟩/\P b/\b<w.heap.size/\MJ P w b (o+i*2) es[i]
def MJ.keep {P:Nat->Prop}{w:World}{b:Nat}{e:Stil.Elem}(h:MJ P w b o e)(c:Kz P w w')(hl:P b)(d:b<w.heap.size):MJ P w' b o e:=by
 obtain⟨j,f,i,g⟩:=h;exact⟨by rw[c.2 _ _ hl d];exact j,f,by rw[c.2 _ _ hl d];exact i,g.keep c⟩
theorem N7.keep {P:Nat->Prop}{w:World}{es:List Stil.Elem}(h:N7 P w v es)(e:Kz P w w'):N7 P w' v es:=by
 obtain⟨a,cap,j,k,f⟩:=h;refine⟨a,cap,j,k,λi hi=>?_⟩;obtain⟨b,o,g,d,c,hd⟩:=f i hi;exact⟨b,o,g,d,B8 c e.1,hd.keep e d c⟩
theorem N7.mono {P Q:Nat->Prop}{w:World}{es:List Stil.Elem}(h:N7 Q w v es)(hl:∀b,b<w.heap.size->Q b->P b):N7 P w v es:=by
 obtain⟨a,cap,n,f,e⟩:=h;refine⟨a,cap,n,f,λi hi=>?_⟩;obtain⟨b,o,k,l,c,g,j,m,d⟩:=e i hi;exact⟨b,o,k,hl _ c l,c,g,j,m,d.mono hl⟩
abbrev N7.mo:=@N7.mono
theorem N7.at {P:Nat->Prop}{w:World}{es:List Stil.Elem}(h:N7 P w v es):F6 w v es:=by
 obtain⟨a,cap,l,m,e⟩:=h;refine⟨a,cap,l,λi hi=>?_⟩;obtain⟨b,o,j,n,c,f,g,k,d⟩:=e i hi;exact⟨b,o,j,c,f,g,k,d.at⟩
def U0 (P:Nat->Prop)(w:World):Nat->Nat->Stil.B5->Prop
 | b,o,⟨n,f,kids⟩=>Qd P w b o n/\(∃d,w.cell? ⟨b,o+4,none⟩=some d/\N7 P w d f)/\
   ∃a cap,w.cell? ⟨b,o+5,none⟩=some (.slice a kids.length cap)/\E4 a kids.length cap/\∀i (h:i<kids.length),∃c e,a=some ⟨c,e,none⟩/\P c/\c<w.heap.size/\
    (have:=IW (CG h);U0 P w c (e+i*6) kids[i])
def LZ (P:Nat->Prop)(w:World)(b o:Nat)(n:Stil.B1)(e:List Stil.Elem)(kids:List Stil.B5):U0 P w b o ⟨n,e,kids⟩=(Qd P w b o n/\(∃f,w.cell? ⟨b,o+4,none⟩=some f/\N7 P w f e)/\
   ∃a cap,w.cell? ⟨b,o+5,none⟩=some (.slice a kids.length cap)/\E4 a kids.length cap/\∀i (h:i<kids.length),∃c d,a=some ⟨c,d,none⟩/\P c/\c<w.heap.size/\U0 P w c (d+i*6) kids[i]):=by rw[U0]
def Qi (P:Nat->Prop)(w:World)(v:Value)(l:List Stil.B5):Prop:=∃a cap,v=.slice a l.length cap/\E4 a l.length cap/\∀i (h:i<l.length),∃b o,a=some ⟨b,o,none⟩/\P b/\b<w.heap.size/\U0 P w b (o+i*6) l[i]
theorem V2 (P:Nat->Prop)(w:World)(b o:Nat)(n:Stil.B5):U0 P w b o n↔(Qd P w b o n.net/\(∃j,w.cell? ⟨b,o+4,none⟩=some j/\N7 P w j n.coils)/\∃i,w.cell? ⟨b,o+5,none⟩=some i/\Qi P w i n.kids):=by
 obtain⟨k,e,kids⟩:=n;rw[LZ];constructor
 .rintro⟨g,c,a,cap,d,f,h⟩;exact⟨g,c,_,d,a,cap,rfl,f,h⟩
 .rintro⟨g,c,_,d,a,cap,rfl,f,h⟩;exact⟨g,c,a,cap,d,f,h⟩
theorem U0.keep {P:Nat->Prop}{w:World}(hk:Kz P w w'):∀(n:Stil.B5) (b o:Nat),U0 P w b o n->P b->b<w.heap.size->U0 P w' b o n:=by
 intro n;induction n using Fb with
 | h n m kids ih=>
  intro b o h d c;rw[LZ] at h ⊢;obtain⟨l,⟨k,e,f⟩,a,cap,j,g,h6⟩:=h;refine⟨Qd.keep hk _ _ _ l d c,⟨k,?_,f.keep hk⟩,a,cap,?_,g,λi hi=>?_⟩
  .rw[hk.2 _ _ d c];exact e
  .rw[hk.2 _ _ d c];exact j
  .exact zi0
theorem Qi.keep {P:Nat->Prop}{w:World}{ns:List Stil.B5}(h:Qi P w v ns)(e:Kz P w w'):Qi P w' v ns:=by
 obtain⟨a,cap,j,k,f⟩:=h;refine⟨a,cap,j,k,λi hi=>?_⟩;obtain⟨b,o,g,d,c,hd⟩:=f i hi;exact⟨b,o,g,d,B8 c e.1,U0.keep e _ _ _ hd d c⟩
theorem U0.mono {P Q:Nat->Prop}{w:World}(hl:∀b,b<w.heap.size->Q b->P b):∀(n:Stil.B5) (b o:Nat),U0 Q w b o n->U0 P w b o n:=by
 intro n;induction n using Fb with
 | h n u kids t=>
  intro b o h;rw[LZ] at h ⊢;obtain⟨s,⟨r,f,g⟩,a,cap,p,j,q⟩:=h;refine⟨Qd.mono hl _ _ _ s,⟨r,f,g.mono hl⟩,a,cap,p,j,λi hi=>?_⟩;obtain⟨c,m,l,k,d,e⟩:=q i hi;exact⟨c,m,l,hl _ d k,d,t _ (CG hi) c _ e⟩
abbrev U0.mo:=@U0.mono
theorem Qi.mono {P Q:Nat->Prop}{w:World}{ns:List Stil.B5}(h:Qi Q w v ns)(hl:∀b,b<w.heap.size->Q b->P b):Qi P w v ns:=by
 obtain⟨a,cap,j,e,d⟩:=h;refine⟨a,cap,j,e,λi hi=>?_⟩;obtain⟨b,o,f,g,c,hd⟩:=d i hi;exact⟨b,o,f,hl _ c g,c,U0.mono hl _ _ _ hd⟩
abbrev Qi.mo:=@Qi.mono
theorem U0.at {P:Nat->Prop}{w:World}:∀(n:Stil.B5) (b o:Nat),U0 P w b o n->P5 w b o n:=by
 intro n;induction n using Fb with
 | h n u kids r=>
  intro b o h;rw[LZ] at h;rw[Ln];obtain⟨q,⟨p,e,f⟩,a,cap,l,s,m⟩:=h;refine⟨Qd.at _ _ _ q,⟨p,e,f.at⟩,a,cap,l,λi hi=>?_⟩;obtain⟨c,j,g,t,k,d⟩:=m i hi;exact⟨c,j,g,k,r _ (CG hi) c _ d⟩
theorem Qi.at {P:Nat->Prop}{w:World}{ns:List Stil.B5}(h:Qi P w v ns):Dc w v ns:=by
 obtain⟨a,cap,f,j,d⟩:=h;refine⟨a,cap,f,λi hi=>?_⟩;obtain⟨b,o,e,g,c,hd⟩:=d i hi;exact⟨b,o,e,c,U0.at _ _ _ hd⟩
