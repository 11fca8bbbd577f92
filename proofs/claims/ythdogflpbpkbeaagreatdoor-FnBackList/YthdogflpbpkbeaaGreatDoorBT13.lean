import Derived.Test.YthdogflpbpkbeaaGreatDoorGP
import Derived.Test.YthdogflpbpkbeaaGreatDoorZ9
import Derived.Test.YthdogflpbpkbeaaGreatDoorG3
import Derived.Test.YthdogflpbpkbeaaGreatDoorBT12
set_option maxHeartbeats 4000000
set_option maxRecDepth 100000
namespace Go.Proofs.YthdogflpbpkbeaaGreatDoor
open Tryz Go.ChangeShapes Go.WideShapes Go.ChangeAt Go.RowKit
theorem T8:prog.globalNamed "loop.example/stilway/impl.listWords" =some 1:=BW
theorem zU:(prog.globals[1]?).map (·.type)=some 242:=BW
theorem tB{W:AU}{l:List (String × DataW Unit)}(h:laidMet prog l W)(G:("loop.example/stilway/impl.listWords",DataW.agg (Stil.listWords.map λx=>DataW.lit (Lit.string x)))∈l):Hr W:=by
 obtain⟨U,A,_,_⟩:=h;have⟨g,t,X,fuel,p,E,F,M,N⟩:=TA A G;obtain rfl:=E1 (T8.symm.tr E);obtain rfl:=E1 (zU.symm.tr F);have I:=λj=>World.var?_cell T8 M j;have⟨xs,m,_,S,V,A,Q⟩:=DataW.trod_array underlying242 N;have J:(Stil.listWords.map λx=>DataW.lit (H:=Unit) (Lit.string x))=xs.map (·.1):=DataW.agg.inj (gb S).1;have o:∀k:Nat,k<12->W.cell? (AK 1 k)=some (.string ⟨(Stil.listWords.getD k []).toArray⟩):=by
  intro k D;have C:k<xs.l:=BS;have z:=Q k D;rw[T9,FA C,Nat.mul_one]at z;have⟨s,K,O,_⟩:=DataW.trod_string underlying9 z;have f:k<Stil.listWords.l:=D;have e:xs[k].1=.lit (.string (Stil.listWords.getD k [])):=by have:=congrArg (λl=>l[k]?) J;simp only[PD,FA C,MZ]at this;rw[FA f]at this;rw[<-E1 this,List.getD,FA f];rfl
  rw[O]at e;simp only[DataW.lit.injEq,Lit.string.injEq]at e;have T:s=⟨(Stil.listWords.getD k []).toArray⟩:=fK (by rw[e]);rw[I,<-T];have:=congrArg (λl=>l[0]?) K;simpa[Bdj,Bdk]using this
 exact⟨lt_of_cell (o 0 BS),o⟩
open Go.Sort Go.BigFrame
section
variable {L g P:Nat}{w:AU}{bs:Γ}{ts:List Nk}{i op:Int}{v u c d:AW}{p q r s b:Nat}
theorem StL.mk{us:List Nk}{y:Nk}(h:StL L g P w bs us)(j:∀S,(∀x∈us,ClT S x.1 x.2.1 x.2.2)->ClT S y.1 y.2.1 y.2.2)(f:∀x∈ts,x∈us):StL L g P w bs (y::ts):=(h.add j).sub (λ_ h=>h) (BA.2 ⟨.head _,λx e=>.tail _ (f x e)⟩)
end
open Stil
section
variable {a:Δ}{k n:Nat}
variable {L g P:Nat}{w:AU}{bs:Γ}{ts:List Nk}{i op:Int}{v u c d:AW}{p q r s b:Nat}
theorem StL.coiled {us:List Nk}(h:StL L g P w bs us)(o:(4,p,[AB i,AB op,v,u])∈us)(m:(12,q,[c])∈us)(A:∀x∈ts,x∈us)(C:p+q<s):StL L g P w bs ((6,s,[AB i,AB op,v,u,c,AG])::ts):=h.mk (y:=(6,s,_)) (λS hS=>by
 have⟨t,j,l,z,f,e⟩:=ClT.nt (hS _ o);replace e:t<p:=e
 exact ClT.mkA j l z f (ClT.sl (k:=2) (hS _ m)) (SlT.nil (s:=0)) (show t+q+0+1<s by omega)) A
theorem StL.cut {c m:Nat}(h:StL L g P w bs ((k+10,s,[AE a n c])::ts))(e:m<=n):StL L g P w bs ((k+10,s,[AE a m c])::ts):=h.mk (y:=(k+10,s,_)) (λS hS=>by
 have⟨F,D,E,A,f,l,j,t⟩:=ClT.sl (hS (k+10,s,[AE a n c]) Av);cases A
 exact SlT.cl ⟨a,m,c,rfl,DU e f,DU e l,j,λh=>let ⟨b,o,C,r,x,y,z⟩:=t (DO h e);⟨b,o,C,r,x,DU e y,z⟩⟩) (λ_ h=>.tail _ h)
theorem StL.cap{c:Nat}(h:StL L g P w bs ((k+10,s,[AE a n c])::ts)):n<=c:=by obtain⟨S,_,_,_,e⟩:=h;have⟨o,l,m,j,f,_⟩:=ClT.sl (e (k+10,s,[AE a n c]) Av);cases j;exact f
end
variable {a:Act}{c n p:Nat}
def LaL(L g P N:Nat)(w:AU)(bs:Γ)(ts:List Nk)(e:Ending)(w':AU):Prop:=∃a n c,e=.returned (AE a n c)/\StL L g P w' bs ((16,N,[AE a n c])::ts)/\w.grownBy w' (some g)
def lenV:AW->Nat
 |.slice _ n _=>n
 |_=>0
def LaT(w f:AU)(v:AW)(g Q k:Nat)(bs:Γ)(ts:List Nk):Prop:=∃e:G1,e.length=k/\f.ownsRow w.heap.size 66 6 v e.length (flat e)/\tot e<=e.length*800/\St g Q f (ob v++bs) (rowT 6 e++ts)/\w.grownBy f (some g)
theorem xX(g P:Nat)(w:AU)(bs:Γ)(ts:List Nk)(h:St g P w bs ts)(hP:P<=1000000):
  Calls prog 20 #[AH g] w (LaL 50000 g (P+200000) 4000 w bs ts):=by
 have hg:=Je h.rd;have K:∀b∈bs,b<w.heap.size:=λb hb=>(h.lt hb).2;have t:(w.alloc (.cells #[] 66)).ownsRow w.heap.size 66 6 (AE (some (AL w 0)) 0 0) 0 []:=by have:=World.ownsRow_lit (base:=w.heap.size) (e:=66) (size:=6) w #[] 0 BS CH rfl;simpa using this
 have hS:=h.box (.cells #[] 66);clear h;go_enter func20,ntmps20;go_upto_region 3 with(go_at_call_of 15 (Value.int IntKind.i64 24);refine(E8 g _ _ _ hS.rd BS BS BS).mo ?_;rintro e wa⟨x,rfl,ap,ah,A,f⟩;have V:=f.size;rw[BG]at V;replace hS:=hS.go A f;replace t:=Gn t f BS;have z:=E5 (show w.grownBy _ (some g) from B0) f;clear A f);by_cases D:x=0
 .subst D;go_wp2_with(first|(go_at_call_of 44 (6:Nat);refine(X3 g _ _ _ [9,15,16,17,18,30] _ (hS.alloc _).rd BS (Dh xAf) BU CY BU BU).mo ?_;rintro e O⟨x,rfl,D,A,f⟩;simp only[EN,FK,FM]at D;obtain⟨m,rfl⟩:∃m:Nat,x=m:=⟨x.toNat,BS⟩;replace hS:=(hS.alloc _).go A f;have H:=f.size;rw[BG]at H;replace t:=Gn (t.alloc _) f BS;have z:=E5 (show w.grownBy _ (some g) from B0) f;clear A f)|(go_at_call 52;refine(Aub m g _ _ _ _ BS hS BS).mo ?_;rintro e wd⟨Q,X,M,N,I,Y,T,Z,rfl,hS,f⟩;have af:=f.size;replace t:=Gn t f BS;have z:=E5 (show w.grownBy _ (some g) from B0) f;clear f)|(go_at_call 43;refine(Qp g _ _ hS.rd BS).mo ?_;rintro e we ho;obtain⟨op,a,n,c,rfl,hS,f⟩:=hS.el ho BX;have az:=f.size;replace t:=Gn t f BS;have z:=E5 (show w.grownBy _ (some g) from B0) f;clear ho f)|(at_builtin;refine Bj rfl rfl (StL.push (v:=(AE (some (AL w 0)) 0 0)) (css:=[]) (bs:=bs) (ts:=ts) _ kd6 ((hS.lit1 (n:=we.heap.size) #[AB op,AE a n c] 60 BX rfl rfl).coiled (p:=700) (q:=1) (s:=702) BU BU (λx D=>.tail _ (Ax D)) BX) (t.alloc _) yBb BU) rfl (by rw[BG];rfl) ?_;rintro v' w6⟨C,F,E,-⟩;obtain⟨oL,oJ,rfl,-⟩:=Oh C));go_ret;exact⟨_,_,_,rfl,((F.ice (s:=702) C K (by simp[tot]) BU).mo BS).grew BX,Zo (Px z _) E (λk G=>(t.lt _ G).1)⟩
 by_cases ah:x=1
 .subst ah;go_wp2_with(first|(go_at_call_of 44 (5:Nat);refine(X3 g _ _ _ [5,7,8,9,12] _ (hS.alloc _).rd BS (Dh xAf) BU CY BU BU).mo ?_;rintro e O⟨x,rfl,D,A,f⟩;simp only[EN,FK,FM]at D;obtain⟨m,rfl⟩:∃m:Nat,x=m:=⟨x.toNat,BS⟩;replace hS:=(hS.alloc _).go A f;have H:=f.size;rw[BG]at H;replace t:=Gn (t.alloc _) f BS;have z:=E5 (show w.grownBy _ (some g) from B0) f;clear A f)|(go_at_call 53;refine(Auc m g _ _ _ _ BS hS BS).mo ?_;rintro e wd⟨Q,X,M,N,I,Y,T,Z,a3,n3,c3,a4,n4,c4,rfl,hS,f⟩;have af:=f.size;replace t:=Gn t f BS;have z:=E5 (show w.grownBy _ (some g) from B0) f;clear f)|(at_builtin;refine Bj rfl rfl (StL.push (v:=(AE (some (AL w 0)) 0 0)) (css:=[]) (bs:=bs) (ts:=ts) _ kd6 hS t BS BU) rfl rfl ?_;rintro v' w6⟨C,F,E,-⟩;obtain⟨oL,oJ,rfl,-⟩:=Oh C));go_ret;exact⟨_,_,_,rfl,((F.ice (s:=200) C K (by simp[tot]) BU).mo BS).grew BX,Zo z E (λk G=>(t.lt _ G).1)⟩
 by_cases aj:x=2
 .subst aj;go_wp2;go_ret;exact⟨_,_,_,rfl,((StL.ice (v:=(AE (some (AL w 0)) 0 0)) (css:=[]) (ts:=ts) (s:=0) hS t K (DN _) BU).mo BS).grew BX,z⟩
 go_wp2_with (go_at_call_of 15 (Value.int IntKind.i64 4);refine(E8 g _ _ _ hS.rd BS BS BS).mo ?_;rintro e O⟨y,rfl,al,aC,A,f⟩;have H:=f.size;replace hS:=hS.go A f;replace t:=Gn t f BS;have z:=E5 (show w.grownBy _ (some g) from B0) f;clear A f);have⟨y2,ao⟩:=Hh al;subst ao;have ag:LaT w O (AE (some (AL w 0)) 0 0) g (P+100+0*40000) 0 bs ts:=⟨[],rfl,t,DN _,hS.mo BS,z⟩;have ai:w.heap.size<=O.heap.size:=BS;clear t hS z V H;have uF:KF 3=40000:=rfl;have an:LZ 3=800:=rfl;go_loopw [3,4] (λo i wr=>∃j k:Nat,k+j=1+y2/\i=AB j/\w.heap.size<=wr.heap.size/\LaT w wr o g (P+100+k*40000) k bs ts) (λ_ i _=>(intOf i).toNat);case atStart=>exact⟨1+y2,0,BS,by go_num,ai,ag⟩
 case round=>
  clear ag ai;obtain⟨j,k,aB,rfl,aH,css,rfl,t,ad,hS,z⟩:=hrel;obtain⟨a0,c0,rfl,-⟩:=Oh t;by_cases aG:0<j;{have wP:=Lx (lA 2 2 true g _ wr _ _ BS rfl hS (by show _+KF 3<=_;omega));simp only[Nat.reduceAdd,uF,an]at wP;go_wp2_with(first|(go_at_call 54;refine wP.mo ?_;rintro e wd⟨Q,X,M,N,I,Y,T,Z,a3,n3,c3,a4,n4,c4,rfl,hS,f⟩;have af:=f.size;have t:=Gn t f BS;have z:=E5 z f;clear f)|(at_builtin;refine Bj rfl rfl (StL.push (v:=(AE a0 css.length c0)) (css:=css) (bs:=bs) (ts:=ts) _ kd6 hS t BS BS) rfl rfl ?_;rintro v' w6⟨C,F,E,-⟩;obtain⟨oL,oJ,rfl,-⟩:=Oh C));have fM:=E.size;refine⟨⟨j - 1,css.length+1,BS,by go_num,BS,css++[(800,[AB Q,AB X,AE M N I,AE Y T Z,AE a3 n3 c3,AE a4 n4 c4])],BU,by rwa[DV],?_,F.mo BS,Zo z E (λk G=>(t.lt _ G).1)⟩,xAb⟩;simp only[tot,D4,KE,DV,DZ,FI,FO,M1,DT,DW]at ad⊢;omega};have ay:¬(0:Int)<j:=by omega
  have ab:∃a n c,Value.slice a0 css.length c0=AE a n c/\St g (P+170000) wr bs ((16,4000,[AE a n c])::ts)/\w.grownBy wr (some g):=⟨_,_,_,rfl,((hS.ice (s:=4000) t K BS BS).mo BS),z⟩;clear t hS z ad;go_wp2;go_loopw [3] (λo wq=>∃a n c,o=AE a n c/\St g (P+170000) wq bs ((16,4000,[AE a n c])::ts)/\w.grownBy wq (some g)) (λo _=>lenV o);case atStart=>exact ab
  case round=>clear ab;obtain⟨M,N,I,rfl,hS,z⟩:=hrel;have aD:=hS.cap (k:=6);have⟨l,a',c',hv,ae,aa,ar,hts⟩:=hS.arms BX Av;cases hv;have U:=Lx (YX l _ wr ae BS aa);have⟨S,ac⟩:=AA (Aw l);rw[<-ac]at U hts;clear ae aa ac;by_cases ax:l.length=0;{have V:decide (0<(l.length:Int))=false:=(by rw[FU];omega);go_wp2;go_ret;exact⟨_,_,_,rfl,hS.mo BS,z⟩};have au:0<(l.length:Int):=(by omega);have av:(0:Int)<=(l.length:Int) - 1:=BS;have aw:(l.length:Int) - 1<=I:=BS;have aE:((l.length:Int) - 1).toNat=l.length - 1:=BS;by_cases aA:400<S;{have ak:(400:Int)<S:=(by omega);go_wp2_with(go_at_call 55;refine U.mo ?_;rintro e w5⟨rfl,J⟩);refine⟨⟨_,l.length - 1,_,rfl,(hS.bel J).cut (k:=6) BS,E5 z (grown_below J _)⟩,?_⟩;show l.length - 1<l.length;omega};have ak:¬(400:Int)<S:=(by omega);go_wp2_with(go_at_call 55;refine U.mo ?_;rintro e w5⟨rfl,J⟩);go_ret;exact⟨_,_,_,rfl,(hS.bel J).mo BS,E5 z (grown_below J _)⟩
theorem etG:prog.globalNamed "errors.errorType" =some 0:=BW
theorem Bbc:(prog.cutTypes.find? (·.1== "internal/reflectlite.rtype")).map (·.2)=some 174:=BW
theorem Bat:((List.range prog.types.size).filter λt=>prog.rowNamed t [101,114,114,111,114])=[49]:=BW
theorem x7{W:AU}(h:handlesMet prog [("errors.errorType",DataW.iface "internal/reflectlite.rtype" (.agg [.ptr (.lit (.string [101,114,114,111,114]))]))] W):Ew W:=by have⟨name,u,z,l,m,C,x,e⟩:=h _ (BB.2 rfl);have A:=(E1 l).symm;subst A;obtain rfl:=E1 (Bbc.symm.tr m);have f:z∈(List.range prog.types.size).filter λt=>prog.rowNamed t [101,114,114,111,114]:=List.mem_filter.2 ⟨List.mem_range.2 C,x⟩;rw[Bat]at f;obtain rfl:=BB.1 f;have j:typeHandle prog 49=.pointer (some (AK 4 49)):=BW;rw[j]at e;have o:=World.var?_cell etG e 0;unfold Ew;simpa using o
open Go.Shelf
theorem Auq{α:Type}{P:AY}{g:Operand}{ps:Array Tmp}{assign body:Code}{Q:Exit->Act->World->Prop}{w:AU}{gf:Nat}{lb:δ}
  (hg:a.eval g=.func (.func gf) #[] lb) (eg:∀args w,(callFunc gf args).run P w=.ok (.enter gf args) w) (enc:α->Value) (ab:ps.size=1)
  (I:List α->World->Prop) (S:List α->Prop) (aa:List α->α->World->World->Prop) (Kp:AU->World->Prop)
  (h0:∀W,W.heap.size=w.heap.size+2->AO w W->I [] W)
  (hseq:∀(J:List α->World->Prop) (W:AU),W.heap.size=w.heap.size+2->AO w W->J [] W->(∀pre A,J pre A->I pre A)->
   (∀pre x A f,J pre A->A.grownBy f (some W.heap.size)->aa pre x A f->YieldAt Fence.wide (n - 1 - 1) P (w.heap.size+1) #[enc x] f λe W'=>e=.returned (.bool true)/\J (pre++[x]) W'/\Kp f W')->
   CallsIn Fence.wide (n - 1) P gf (#[.func (.yield (w.heap.size+1)) #[] #[]]++lb) W λe W'=>(∃v,e=.returned v)/\∃o A,S o/\J o A/\A.grownBy W' (some W.heap.size))
  (jU:∀pre x A f (T:Loop),I pre A->w.heap.size+1<A.heap.size->A.grownBy f (some (w.heap.size+2))->aa pre x A f->(∃r,f.heap[w.heap.size+1]?=some (.loop r))->f.heap[w.heap.size]?=some (.deferred (some []))->
   assign.wpIn (Fence.wide.inRound (w.heap.size+1)) (n - 1 - 1) P (Exit.then (λan C=>C.heap[w.heap.size+1]?=f.heap[w.heap.size+1]?/\
    body.wpIn (Fence.wide.inRound (w.heap.size+1)) (n - 1 - 1) P (λe _ W'=>e=.normal/\W'.heap[w.heap.size+1]?=(C.putObj (w.heap.size+1) (.loop T)).heap[w.heap.size+1]?/\W'.heap[w.heap.size]?=some (.deferred (some []))/\∀O,I (pre++[x]) (W'.putObj (w.heap.size+1) (.loop O))/\Kp f (W'.putObj (w.heap.size+1) (.loop O))) an (C.putObj (w.heap.size+1) (.loop T))) (λ_ _ _=>False))
    {tmps:=(ps.zip #[enc x]).foldl (λt (p,v)=>t.setIfInBounds p v) a.tmps,defers:=[]} f)
  (hdone:∀o A W W',S o->I o A->A.grownBy W (some (w.heap.size+2))->(∃r,W'=W.putObj (w.heap.size+1) (.loop r))->W'.heap[w.heap.size]?=some (.deferred (some []))->Q .normal {a with defers:={target:=.collected w.heap.size,args:=#[]}::a.defers} W'):
  (Code.rangeFunc g ps assign body).wpIn Fence.wide n P Q a w:=by
 refine wpIn_rangeFunc λfn ac=>?_;obtain⟨R,m⟩:∃R:LoopState->Option Code->Loop,R=λst pe=>{state:=st,pending:=pe,fn:=fn,tmps:=a.tmps,params:=ps,assign:=assign,body:=body,defers:=w.heap.size}:=⟨_,rfl⟩;have⟨j,D⟩:=AA ((w.alloc (.deferred (some []))).alloc (.loop (R .ready none)));have F:j.heap.size=w.heap.size+2:=by rw[D];simp
 have V:AO w j:=by rw[D];exact(Aa _ _).trans ((Aa _ _).mono BU)
 have al:j.heap[w.heap.size+1]?=some (.loop (R .ready none)):=by have h:=World.alloc_heap_new (w.alloc (.deferred (some []))) (.loop (R .ready none));rw[BG]at h;rwa[D]
 have ae:j.heap[w.heap.size]?=some (.deferred (some [])):=by have h:=(Aa (w.alloc (.deferred (some []))) (.loop (R .ready none))).block w.heap.size BU;rw[D];exact h.trans (World.alloc_heap_new w _)
 refine⟨w.heap.size+1,[{target:=.collected w.heap.size,args:=#[]}],j,{target:=.fn (.func gf) lb,args:=#[.func (.yield (w.heap.size+1)) #[] #[]]},j,gf,#[.func (.yield (w.heap.size+1)) #[] #[]]++lb,j,?_,?_,λ_ _=>trivial,?_,(λh=>by cases h),?_⟩
 .rw[D,m];exact run_enterLoop_outer _ _ _ _ _
 .simp only[resolve,hg];simp[go_sem]
 .simp[invoke,go_sem,eg]
 refine(hseq (λpre W=>I pre W/\W.heap[w.heap.size+1]?=some (.loop (R .ready none))/\W.heap[w.heap.size]?=some (.deferred (some []))) j F V ⟨h0 j F V,al,ae⟩ (λ_ _ h=>h.1) ?_).mono ?_
 .rintro pre x A f⟨hi,E,hd⟩ l ah;rw[F]at l;have G:w.heap.size+1<A.heap.size:=(BF.1 E).1;have M:f.heap[w.heap.size+1]?=some (.loop (R .ready none)):=(Xf l G BS).trans E;have aj:f.heap[w.heap.size]?=some (.deferred (some [])):=(Xf l BS BS).trans hd;have Y:=run_yield (P:=P) (args:=#[enc x]) M (by rw[m];exact ab.symm);rw[m]at Y;refine⟨fn,_,assign,body,Y,roundIn_of_wpIn ac ?_⟩;refine wpIn_mono (jU pre x A f {R .ready none with state:=.busy} hi G l ah ⟨_,M⟩ aj) ?_;rintro e a2 C z;cases e with
  |normal=>obtain⟨N,ag⟩:=z;rw[M]at N;have jV:w.heap.size+1<C.heap.size:=(BF.1 N).1;refine⟨_,run_beginRound N (by rw[m]),wpIn_mono ag ?_⟩;rintro e3 a3 X⟨rfl,af,ai,Z⟩;have U:X.heap[w.heap.size+1]?=some (.loop {R .ready none with state:=.busy}):=af.trans (World.putObj_heap_same jV);have H:=run_endRound (P:=P) none U;have ao:w.heap.size+1<X.heap.size:=(BF.1 U).1;refine⟨_,_,H,rfl,⟨(Z _).1,?_,?_⟩,(Z _).2⟩;{rw[m];exact World.putObj_heap_same ao};exact(World.putObj_heap_other BS).trans ai
  |ret=>exact z.elim|exit id=>exact z.elim|goto t=>exact z.elim|panic ch=>exact z.elim|outgrown=>exact z.elim
 rintro e K⟨⟨v,rfl⟩,o,A,hS,⟨hi,E,hd⟩,l⟩;rw[F]at l;have G:w.heap.size+1<A.heap.size:=(BF.1 E).1;have ak:K.heap[w.heap.size+1]?=some (.loop (R .ready none)):=(Xf l G BS).trans E;have ad:K.heap[w.heap.size]?=some (.deferred (some [])):=(Xf l BS BS).trans hd;have H:=run_endLoop (P:=P) ak (by rw[m];simp);rw[m]at H;exact⟨none,_,H,hdone o A K _ hS hi l ⟨_,rfl⟩ ((World.putObj_heap_other BS).trans ad)⟩
theorem At7{F:Fence}{ops:Array Oper}{o:Oper}{w:AU}{K:Act->World->Prop}{Q:Exit->Act->World->Prop}{E:Prop}{t:AZ}{v u:AW}{Post:AW->World->Prop}{s x:Operand}(hg:o.guard=none)(h:o.op=.call {callee:=.builtin .append,args:=#[s,x],argTypes:=#[t,t]})
  (hr:∃e f,(Builtin.append_ #[t,t] o.type #[v,u]).run prog w=.ok e f/\Post e f) (l:a.eval s=v) (hx:a.eval x=u) (m:∀e f,Post e f->K (a.put o.dst e) f):
  if Region.wanted o (yielded ops a.tmps)=true then Oper.wpIn F n prog o a w K Q else E:=by obtain⟨e,f,hr,z⟩:=hr;rw[BR xBx];unfold Oper.wpIn;refine⟨by simp[Oper.about,h,resolve,Target.leads,Sem.run_pure],?_⟩;rw[Oper.semAt_plain F _ _ (by rw[h];intro c j;cases j)];simp[execOp,h,resolve,invoke,builtin,l,hx,hr,Result.andThen];exact m e f z
theorem YS(b:Nat):∀(l:Θ)(w:AU)(o:Nat),w.grownBy (E9 w b o l) (some b)
 |[],w,_=>World.grownBy.refl w _
 |x::l,w,o=>(Ho w b o x).trans (YS b l _ (o+1))
theorem uv{w:AU}{b o:Nat}(h:b≠c)(x y:AW):(w.setCell (AK b o) x).setCell (AK c p) y=(w.setCell (AK c p) y).setCell (AK b o) x:=by
 unfold World.setCell;congr 1;apply Array.ext_getElem?;intro i;simp only[JP];by_cases e:b=i<;>by_cases f:c=i<;>simp[e,f]
 omega
theorem cD{b:Nat}(h:b≠c)(v:AW):∀(l:Θ)(w:AU)(o:Nat),E9 (w.setCell (AK c p) v) b o l=(E9 w b o l).setCell (AK c p) v
 |[],_,_=>rfl
 |x::l,w,o=>by rw[E9,E9,uv (Ne.symm h),cD h v l]
structure Rg(w:AU)(R B n:Nat)(L:List Stil.DL)(a:Option Ab)(c:Nat)(xs:List AW)(W:AU):Prop where
 c0:W.cell? (AK R 0)=some (AE a n c)
 f0:W.frozen? (AK R 0)=false
 row:W.ownsRow B 66 6 (AE a n c) n xs
 len:n=L.length
 bel:AO w W
section
variable {r:Option Nat}
variable {w W W' WB:AU}{R B n c:Nat}{bs:List Nat}{L:List Stil.DL}{y:Stil.DL}{a:Option Ab}{xs yc:List AW}
theorem Ug{n:Nat}(h:Below n w W)(hg:W.grownBy W' r)(f:n<=W.heap.size)(hr:∀q,r=some q->n<=q):Below n w W':=
 h.tr ⟨hg.os,hg.tape,hg.output,hg.size,λk j=>hg.block k (DO j f) λe=>by have:=hr k e.symm;omega⟩
theorem Rg.grown(h:Rg w R B n L a c xs W)(hg:W.grownBy W' r)(f:r≠some R)(hr:∀q,r=some q->w.heap.size<=q/\(Value.slice a n c).ownBlock≠some q):Rg w R B n L a c xs W':=
 have j:=Bd h.c0
 ⟨(Gt hg j f).tr h.c0,(Ns hg j f).tr h.f0,h.row.kept hg (by
  cases m:(Value.slice a n c).ownBlock with
  |none=>exact .inl rfl
  | some q=>exact .inr λe=>(hr q e.symm).2 m),h.len,Ug h.bel hg h.bel.size λq l=>(hr q l).1⟩
theorem lD(ty:AZ)(z:Rg w R B n L a c xs WB)(hS:Sv WB (ob (AE a n c)++bs) [([J9 y],yc),(I8 L,xs)])(hy:yc.length=6)(ac:R∈bs)(aj:R<B)(ad:w.heap.size<=R)(hB:B<=WB.heap.size)(hn:n<=1000):
  ∃T t,(Builtin.append_ #[25,25] ty #[AE a n c,AE (some (AL WB 0)) 1 1]).run prog ((WB.alloc (.cells #[AB 0,AB 0,AG,AG,AG,AG] 66)).drew)=.ok T t/\∃g A,T=AE (some (AK g 0)) (n+1) A/\g≠R/\(t.cell? (AK R 0)=some (AE a n c)/\t.frozen? (AK R 0)=false)/\(∀j u,(#[AB 0,AB 0,AG,AG,AG,AG]:δ).toList[j]?=some u->t.cell? (AK g (n*6+j))=some u/\t.frozen? (AK g (n*6+j))=false)/\
   ∀D,(D=(E9 t g (n*6) yc).setCell (AK R 0) (AE (some (AK g 0)) (n+1) A)\/D=E9 (t.setCell (AK R 0) (AE (some (AK g 0)) (n+1) A)) g (n*6) yc)->
    Rg w R B (n+1) (L++[y]) (some (AK g 0)) A (xs++yc) D/\Sv D (ob (AE (some (AK g 0)) (n+1) A)++bs) [(I8 (L++[y]),xs++yc)]/\(∀k,k<B->k≠R->D.heap[k]?=WB.heap[k]?)/\Below R WB D:=by
 have Q:=z.len;have S:=λq C=>(z.row.lt q C).1;have K:=Bd z.c0;obtain⟨T,t,V,a6,A,rfl,J,Z,G,-⟩:=Sv.pushM (w:=WB.drew) (f:=J9) (x:=⟨⟨0,⟨0,[]⟩,[]⟩,[],[]⟩) (L:=L) (xs:=xs) (c:=(#[AB 0,AB 0,AG,AG,AG,AG]:δ).toList) (B:=B) ty kd6 (hS.drew.snil.mkA (i:=0) (op:=0) (ds:=[]) (ns:=[]) (es:=[]) (ms:=[]) Av Av Av Av) (Ax (Ax (Ax Av))) Av Un (by rw[<-Q];exact z.row) hB BS;have e:(L++[(⟨⟨0,⟨0,[]⟩,[]⟩,[],[]⟩:Stil.DL)]).length=n+1:=by rw[Q];simp
 rw[e]at J Z;have E:WB.grownBy t (Value.slice a n c).ownBlock:=⟨G.os,G.tape,G.output,G.size,G.block⟩;have I:(Value.slice a n c).ownBlock≠some R:=λe=>by have:=S _ e;omega
 rcases J.2 with⟨_,h0⟩|⟨g,cc,cur,hv,ak,hh,ag,_⟩
 .omega
 cases hv;refine⟨_,t,by rwa[e]at V,g,A,rfl,BS,⟨(Gt E K I).trans z.c0,(Ns E K I).trans z.f0⟩,λj u hj=>⟨?_,by simp[World.frozen?,hh]⟩,λD af=>?_⟩
 .have hx:=z.row.1;have ah:j<6:=(BO.1 hj).1;rwa[J.cellAt _ BS,IG BS,hx,Nat.add_sub_cancel_left]
 obtain rfl:D=(E9 t g (n*6) yc).setCell (AK R 0) (AE (some (AK g 0)) (n+1) A):=af.elim id λh=>h.trans (cD BS _ _ _ _);have F:=YS g yc t (n*6);have aa:=Ho (E9 t g (n*6) yc) R 0 (AE (some (AK g 0)) (n+1) A);have O:t.cell? (AK R 0)=some (AE a n c):=(Gt E K I).trans z.c0;have N:(some g:ε)≠some R:=λe=>by injection e with e;omega
 have ae:(E9 t g (n*6) yc).cell? (AK R 0)=some (AE a n c):=(Gt F (Bd O) N).trans O;have M:Below R WB t:=Ug (BP _ _) E BS λq C=>by have:=S q C;omega
 have U:Below R WB (E9 t g (n*6) yc):=Ug M F (by have:=M.size;omega) λq C=>by cases C;omega
 have ab:Below R WB ((E9 t g (n*6) yc).setCell (AK R 0) (AE (some (AK g 0)) (n+1) A)):=Ug U aa (by have:=U.size;omega) λq C=>by cases C;omega
 have hcut:Zg (xs++(#[AB 0,AB 0,AG,AG,AG,AG]:δ).toList) (n*6) yc=xs++yc:=by have H:=Y1 xs (#[AB 0,AB 0,AG,AG,AG,AG]:δ).toList yc 0;rw[IV,z.row.1]at H;rw[H];have Y:=RJ yc (#[AB 0,AB 0,AG,AG,AG,AG]:δ).toList [] (by rw[hy];rfl);rw[EZ,EZ]at Y;rw[Y]
 have X:=N6 yc t (n*6) _ J;rw[hcut]at X;refine⟨⟨Ff ae,Me.trans ((Ns F (Bd O) N).trans ((Ns E K I).trans z.f0)),Dk X N,by rw[Q];simp,z.bel.trans (ab.mono ad)⟩,?_,λk hk ai=>?_,ab⟩
 .have H:=((Z.grow F (λq C=>by cases C;exact KA _ Av)).set (b:=R) (o:=0) (x:=AE (some (AK g 0)) (n+1) A) (EP _ ac)).cat (l:=I8 L) (xs:=xs) (m:=[J9 y]) (ys:=yc) BU BU;rw[show I8 (L++[y])=I8 L++[J9 y] by simp];exact H.sub (λ_ h=>h) B8
 rw[aa.block k (by have:=U.size;omega) (λe=>by injection e with e;omega),F.block k (by have:=M.size;omega) (λe=>by injection e with e;omega)];exact E.block k BS λe=>by have:=S k e.symm;omega
end
