import Derived.Test.YthdogflpbpkbeaaGreatDoorCE3b
import Derived.Test.YthdogflpbpkbeaaGreatDoorW14a
set_option maxRecDepth 100000
set_option maxHeartbeats 4000000
namespace Go.Proofs.YthdogflpbpkbeaaGreatDoor
open Tryz Go.RowKit Go.Sort Go.BigFrame Go.Conc Go.Co
section
open Stil
variable {Low c:Nat}
theorem Ir{τ:Type}{P:AY}{ok:τ->(Nat->Prop)->World->Goroutine->Prop}{f:FuncId}{F:Func}{a:Code}{args:δ}{x:τ}{O:Φ}{w:AU}{Post:AW->τ->(Nat->Prop)->World->Prop}
  (b:P.funcs[f]?=some F) (e:(F.name== "runtime.NumGoroutine")=false) (d:F.body=some a) (h:WpK ok f a (dP P F Post) {tmps:=args++Array.replicate (F.ntmps - args.size) AQ,defers:=[]} x O w):La P ok f args x O w Post:=⟨F,a,b,e,d,h⟩
def v0(c:Int):AW:=.agg #[AB c,AB 0,AG]
theorem zma{p:Prop}(h:p:=by rw[el,DZ,FI,EA,ED];clear el;simp only[v0,Gh];refine Ir func185 Br rfl ?_;simp only[ntmps185,D1,DT,DW,Nat.reduceAdd,Nat.reduceSub,EV,EW,EY,EX,ED,EA];refine kW ?_;exact⟨rfl,_,hres _,rfl,rfl,rfl⟩):p:=h
theorem qU(n i:Nat)(hi:i<n)(o:n<=1000000)(vs:Θ)(O:Φ)(w:AU):
  La prog (okS prog Low c) 185 #[.chan (some c),AB i,AB n] ((En n i).map (λx=>v0 x.code)++vs) O w λ_ l O' w'=>l=vs/\O'=O/\w'=w:=by
 have hres:=resultsC_none (P:=prog) (fn:=Tryz.f185) rfl;by_cases a:n=1
 .have j:((n:Int)==1)=true:=by simp[a]
  have el:En n i=[]:=by simp[En,a]
  rw[el,FI,ED];clear el;refine Ir func185 Br rfl ?_;simp only[ntmps185,D1,DT,DW,Nat.reduceAdd,Nat.reduceSub,EV,EW,EY,EX,ED,EA];refine kW ?_;exact⟨rfl,_,hres _,rfl,rfl,rfl⟩
 have j:((n:Int)==1)=false:=xAh;by_cases b:i=0
 .have g:((i:Int)==0)=true:=by simp[b]
  have el:En n i=[Gh 7]:=by simp[En,a,b]
  exact zma
 have g:((i:Int)==0)=false:=xAh;have q:IntKind.i64.wrap ((n:Int) - 1)=(n:Int) - 1:=xAe;by_cases d:i+1=n
 .have m:((i:Int)==(n:Int) - 1)=true:=by rw[E4];omega
  have el:En n i=[Gh 9]:=by simp[En,a,b,d]
  exact zma
 have m:((i:Int)==(n:Int) - 1)=false:=xAh;have el:En n i=[Gh 8]:=by simp[En,a,b,d]
 exact zma
end
variable {Low c:Nat}
theorem gB(n:Nat):((n:Int)==0)=(n==0):=by rw[FB,E4,E4];omega
theorem jm(op:Int)(a:Δ)(d cap:Nat)(_h:d<=1048576)(w₀:AU)(vs:Θ)(O:Φ)(w:AU)(hF:Held Low w₀ O w):
  La prog (okS prog Low c) 165 #[.agg #[AB op,AE a d cap]] vs O w λv s O' w'=>v=.bool (op==0 && d==0)/\s=vs/\D2 Low O O' w w'/\Held Low w₀ O' w':=by
 have m:=resultsC_tmp (P:=prog) (fn:=Tryz.f165) rfl;by_cases n:op=0
 .subst n;refine Ir func165 Br rfl ?_;simp only[ntmps165,D1,DT,DW,Nat.reduceAdd,Nat.reduceSub,EV,EW,EY,EX,ED,EA];refine Lm (Bh _ _ _) ?_
  (refine Gv (Bh _ _ _) ?_;simp only[D1,DT,DW,Nat.reduceAdd,EF,List.range,List.range.loop]);refine kB hF #[AB 0,AE a d cap] 60 λO1 W1 u j l r q g=>?_;try walk_nrm
  have _Y:=cs2 g;refine kW ?_;clear _Y;exact⟨rfl,_,m _,by simp[gB],rfl,j,l⟩
 have h1:(op==0)=false:=by rwa[DX]
 refine Ir func165 Br rfl ?_;simp only[ntmps165,D1,DT,DW,Nat.reduceAdd,Nat.reduceSub,EV,EW,EY,EX,ED,EA];refine Lm (Bh _ _ _) ?_
 (refine Gv (Bh _ _ _) ?_;simp only[D1,DT,DW,Nat.reduceAdd,EF,List.range,List.range.loop]);refine kB hF #[AB op,AE a d cap] 60 λO1 W1 u j l r q g=>?_;try walk_nrm
 have _Y:=cs2 g;refine kW ?_;clear _Y;exact⟨rfl,_,m _,by simp[h1],rfl,j,l⟩
theorem nF(k op:Int)(j:Δ)(d m:Nat)(r:Δ)(l y:Nat)(R:d<=1048576)(_hlk:l<=1048576)(w₀:AU)(vs:Θ)(O:Φ)(w:AU)(hF:Held Low w₀ O w):
  La prog (okS prog Low c) 124 #[.agg #[AB k,AB op,AE j d m,AE r l y]] vs O w
   λv D O' w'=>v=.bool ((k==0 && (op==0 && d==0)) && l==0)/\D=vs/\D2 Low O O' w w'/\Held Low w₀ O' w':=by
 have C:=resultsC_tmp (P:=prog) (fn:=Tryz.f124) rfl;by_cases J:k=0
 .subst J;have A:Hid (∀O W,Held Low w₀ O W->La prog (okS prog Low c) 165 #[.agg #[AB op,AE j d m]] vs O W λv D O' w'=>v=.bool (op==0 && d==0)/\D=vs/\D2 Low O O' W w'/\Held Low w₀ O' w'):=λO W h=>jm op j d m R w₀ vs O W h;have⟨E,I⟩:=AA ((op==0 && d==0));rw[<-I]at A⊢;clear I;refine Ir func124 Br rfl ?_;simp only[ntmps124,D1,DT,DW,Nat.reduceAdd,Nat.reduceSub,EV,EW,EY,EX,ED,EA];refine Lm (Bh _ _ _) ?_
  (refine Gv (Bh _ _ _) ?_;simp only[D1,DT,DW,Nat.reduceAdd,EF,List.range,List.range.loop]);refine kB hF #[AB 0,AB op,AE j d m,AE r l y] 63 λO1 W1 L s u q M g=>?_;try walk_nrm
  have _Y:=cs4 g;refine kW ?_;clear _Y;cases E with
  |false=>(refine Ht (Bh _ _ _) rfl Br rfl (A _ _ u) CN ?_;rintro _ _ F H⟨rfl,rfl,n,B⟩;try walk_nrm);refine kW ?_;exact⟨rfl,_,C _,BU,rfl,s.tr n,B⟩
  |true=>(refine Ht (Bh _ _ _) rfl Br rfl (A _ _ u) CN ?_;rintro _ _ F H⟨rfl,rfl,n,B⟩;try walk_nrm);replace g:Hid (∀W,Keep Low F H W->∀k,W.c (AK L k)=(#[AB 0,AB op,AE j d m,AE r l y]:δ)[k]?):=λW N k=>(N.ext.cell (.inl (n.own _ q)) k).tr ((n.cell (.inl q) k).tr (g _ (Keep.refl _ _ _) k));replace q:=n.own _ q;have _Y:=cs4 g;refine kW ?_;clear _Y;exact⟨rfl,_,C _,by simp[gB],rfl,s.tr n,B⟩
 have h1:(k==0)=false:=by rwa[DX]
 refine Ir func124 Br rfl ?_;simp only[ntmps124,D1,DT,DW,Nat.reduceAdd,Nat.reduceSub,EV,EW,EY,EX,ED,EA];refine Lm (Bh _ _ _) ?_
 (refine Gv (Bh _ _ _) ?_;simp only[D1,DT,DW,Nat.reduceAdd,EF,List.range,List.range.loop]);refine kB hF #[AB k,AB op,AE j d m,AE r l y] 63 λO1 W1 L s u q M g=>?_;try walk_nrm
 have _Y:=cs4 g;refine kW ?_;clear _Y;exact⟨rfl,_,C _,by simp[h1],rfl,s,u⟩
open Stil
theorem Au0{w₀:AU}{e:AZ}{s n:Nat}{v:AW}{xs:Θ}(h:w₀.ownsRow 0 e s v n xs):∃a cap,v=AE a n cap/\F4 a n cap/\∀j u,xs[j]?=some u->∃b,a=some (AK b 0)/\v.ownBlock=some b/\w₀.cell? (AK b j)=some u:=by
 have i:=h.2;rcases i with⟨hv,f⟩|⟨g,cap,cur,hv,l,_,k,_⟩
 .refine⟨none,0,by rw[hv,f],⟨BS,λ_=>rfl⟩,λj u hu=>?_⟩;have d:=h.1;rw[f,G0]at d;rw[BL.1 d]at hu;simp at hu
 refine⟨_,cap,hv,⟨k,λe=>by cases e⟩,λj u hu=>⟨g,rfl,yFd,?_⟩⟩;have:=h.cells (g:=g) yFd j u hu;rwa [add_plain]at this
def VJ(Low:Nat)(O:Φ)(w:AU)(a:Δ)(ts:List Rn):Prop:=∀i(h:i<ts.length),∃b o,a=some (AK b o)/\(O b\/b<Low)/\Wj w b (o+i*4) ts[i]
section
variable {Low:Nat}{w₀ w w':AU}{O O':Nat -> Prop}
theorem Wj.ext{b o:Nat}{t:Rn}(h:Wj w b o t)(k:D2 Low O O' w w')(a:O b\/b<Low):Wj w' b o t:=
 ⟨(k.cell a _).tr h.1,(k.cell a _).tr h.2.1,(k.cell a _).tr h.2.2.1,(k.cell a _).tr h.2.2.2⟩
theorem Wj.held{b o:Nat}{t:Rn}(h:Wj w₀ b o t)(k:Held Low w₀ O w)(a:b<Low):Wj w b o t:=
 ⟨(k.down a _).tr h.1,(k.down a _).tr h.2.1,(k.down a _).tr h.2.2.1,(k.down a _).tr h.2.2.2⟩
theorem NOk.devs{m:Rn}(h:NOk Low w₀ m):∃a cap,m.av=.slice a m.ds.length cap:=let ⟨a,cap,e,_⟩:=(LF.1 h).1;⟨a,cap,e⟩
theorem NOk.K{m:Rn}(h:NOk Low w₀ m):∃(a:Δ)(cap:Nat),m.kv=AE a m.K.length cap/\F4 a m.K.length cap/\(∀t∈m.K,NOk Low w₀ t)/\
  ∀i(h:i<m.K.length),∃b o,a=some (AK b o)/\b<Low/\Wj w₀ b (o+i*4) m.K[i]:=let ⟨_,⟨a,cap,e,f,g⟩,d⟩:=LF.1 h;⟨a,cap,e,f,d,g⟩
end
variable {Low c:Nat}
theorem nG(w₀:AU)(t:Rn)(U:NOk Low w₀ t)(ah:t.ds.length<=1048576)(ad:t.K.length<=1048576):∃F:List Rn,F.map Rn.N=Bv t.N/\(∀x∈F,NOk Low w₀ x)/\∀g O w,Held Low w₀ O w->
  La prog (okS prog Low c) 160 #[.agg #[AB t.kind,AB t.op,t.av,t.kv]] g O w λv L O' w'=>L=g/\(∃a cap,v=AE a F.length cap/\VJ Low O' w' a F)/\D2 Low O O' w w'/\Held Low w₀ O' w':=by
 have⟨q,s,M⟩:=U.devs;have⟨l,m,I,af,ag,ab⟩:=U.K;have H:=t.Ne;obtain⟨n,rfl⟩:=AA t;rw[M,I];have vY:Hid (Aj n.N=((n.kind==0 && (n.op==0 && n.ds.length==0)) && n.K.length==0)):=by show _=_;rw[H];unfold Aj;simp only[Bool.and_assoc,Db]
 have D:Hid (Bv n.N=if Aj n.N then [] else if n.kind=2 then n.K.map Rn.N else [n.N]):=by show _=_;unfold Bv;rw[H]
 clear H af
 have y:Hid (∀g O W,Held Low w₀ O W->La prog (okS prog Low c) 124 #[.agg #[AB n.kind,AB n.op,AE q n.ds.length s,AE l n.K.length m]] g O W
   λv L O' w'=>v=.bool (Aj n.N)/\L=g/\D2 Low O O' W w'/\Held Low w₀ O' w'):=λg O W h=>by rw[vY.out];exact nF _ _ _ _ _ _ _ _ ah ad w₀ g O W h
 have⟨S,Z⟩:=AA (Aj n.N);rw[<-Z]at y D;have ai:=BZ M;have ac:=BZ I;clear Z vY M I;have J:=resultsC_tmp (P:=prog) (fn:=Tryz.f160) rfl;cases S with
 |true=>
  refine⟨[],by rw[D.out];rfl,BU,λg O w hF=>?_⟩;refine Ir func160 Br rfl ?_;simp only[ntmps160,D1,DT,DW,Nat.reduceAdd,Nat.reduceSub,EV,EW,EY,EX,ED,EA];refine Lm (Bh _ _ _) ?_
  (refine Gv (Bh _ _ _) ?_;simp only[D1,DT,DW,Nat.reduceAdd,EF,List.range,List.range.loop]);refine kB hF #[AB n.kind,AB n.op,AE q n.ds.length s,AE l n.K.length m] 63 λO1 W1 b1 B A r aa d=>?_;try walk_nrm
  have _Y:=cs4 d;refine kW ?_;clear _Y
  (refine Ht (Bh _ _ _) rfl Br rfl (y _ _ _ A) CN ?_;rintro _ _ O2 Y⟨rfl,rfl,j,u⟩;try walk_nrm);refine kW ?_;exact⟨rfl,_,J _,rfl,⟨none,0,rfl,λi hi=>by simp at hi⟩,B.tr j,u⟩
 |false=>
  by_cases h2:n.kind=2
  .refine⟨n.K,by rw[D.out];simp[h2],ag,λg O w hF=>?_⟩;rw[h2]at y⊢;refine Ir func160 Br rfl ?_;simp only[ntmps160,D1,DT,DW,Nat.reduceAdd,Nat.reduceSub,EV,EW,EY,EX,ED,EA];refine Lm (Bh _ _ _) ?_
   (refine Gv (Bh _ _ _) ?_;simp only[D1,DT,DW,Nat.reduceAdd,EF,List.range,List.range.loop]);refine kB hF #[AB 2,AB n.op,AE q n.ds.length s,AE l n.K.length m] 63 λO1 W1 b1 B A r aa d=>?_;(try walk_nrm);have _Y:=cs4 d;refine kW ?_;clear _Y
   (refine Ht (Bh _ _ _) rfl Br rfl (y _ _ _ A) CN ?_;rintro _ _ O2 Y⟨rfl,rfl,j,u⟩;try walk_nrm);replace d:=JH d j r;replace r:=j.own _ r;have _Y:=cs4 d;refine kW ?_;clear _Y;refine⟨rfl,_,J _,rfl,⟨l,m,rfl,λi hi=>?_⟩,B.tr j,u⟩;have⟨b,o,ha,hb,hc⟩:=ab i hi;exact⟨b,o,ha,.inr hb,hc.held u hb⟩
  refine⟨[n],by rw[D.out];simp[h2],λx hx=>by rwa[BB.1 hx],λg O w hF=>?_⟩;have aj:(n.kind==2)=false:=xAr;clear ab;refine Ir func160 Br rfl ?_;simp only[ntmps160,D1,DT,DW,Nat.reduceAdd,Nat.reduceSub,EV,EW,EY,EX,ED,EA];refine Lm (Bh _ _ _) ?_
  (refine Gv (Bh _ _ _) ?_;simp only[D1,DT,DW,Nat.reduceAdd,EF,List.range,List.range.loop]);refine kB hF #[AB n.kind,AB n.op,AE q n.ds.length s,AE l n.K.length m] 63 λO1 W1 b1 B A r aa d=>?_;try walk_nrm
  have _Y:=cs4 d;refine kW ?_;clear _Y
  (refine Ht (Bh _ _ _) rfl Br rfl (y _ _ _ A) CN ?_;rintro _ _ O2 Y⟨rfl,rfl,j,u⟩;try walk_nrm);replace d:=JH d j r;replace r:=j.own _ r;have _Y:=cs4 d;refine kW ?_;clear _Y;refine N9 (Bh _ _ _) rfl Br ?_ ?_;{intro _;simp[go_sem];done};intro w₁ hR K hK;go_simp;refine hK _ _ ?_;clear hK K;have⟨O3,eO,V,R,N,X,C⟩:=boxed u hR #[AB n.kind,AB n.op,AE q n.ds.length s,AE l n.K.length m] 63;rw[<-eO];clear eO
  revert V R N X C
  generalize w₁.alloc (.cells #[AB n.kind,AB n.op,AE q n.ds.length s,AE l n.K.length m] 63)=W3;generalize w₁.heap.size=b3;intro V R N X C;have E:=BZ C;clear C hR w₁;try walk_nrm
  refine kW ?_;refine⟨rfl,_,J _,rfl,⟨some (AK b3 0),1,rfl,λi hi=>?_⟩,(B.tr j).tr V,R⟩;have ae:i=0:=by simp at hi;exact hi
  subst ae;refine⟨b3,0,rfl,.inl N,E _ (Keep.refl _ _ _) 0,E _ (Keep.refl _ _ _) 1,?_,?_⟩;{rw[show([n]:List Rn)[0].av=_ from ai.out];exact E _ (Keep.refl _ _ _) 2};rw[show([n]:List Rn)[0].kv=_ from ac.out];exact E _ (Keep.refl _ _ _) 3
variable {Low c:Nat}
def J0(Low c:Nat)(w₀:AU)(t:Rn)(vs:List MI):Prop:=∀rest O w,Held Low w₀ O w->
 La prog (okS prog Low c) 161 #[.chan (some c),.agg #[AB t.kind,AB t.op,t.av,t.kv]] (vs.map MI.val++rest) O w λ_ a O' w'=>a=rest/\D2 Low O O' w w'/\Held Low w₀ O' w'
def Hv(k:Int)(t:Rn)(vs:List MI):List MI:=if t.kind=1 then [⟨k,⟨t.op,t.ds,t.av⟩⟩] else vs++[mi0 (k+2)]
theorem zu0{p:Prop}(h:p:=by refine kW ?_;exact⟨_,_,rfl,by first | rfl | trivial,by first | rfl | trivial,by first | rfl | trivial⟩):p:=h
theorem VA(w₀:AU)(k:Int)(hk:k=2\/k=3)(ts:List Rn)(f:Rn->List MI)(hts:∀t∈ts,NOk Low w₀ t)(hB:∀t∈ts,t.kind≠1->J0 Low c w₀ t (f t))(hl:ts.length<=1048576)(rest:Θ)(O:Φ)(w:AU)(hF:Held Low w₀ O w)(a:Δ)(cap:Nat)(hr:VJ Low O w a ts):
  La prog (okS prog Low c) 184 #[.chan (some c),.int .i64 k,.slice a ts.length cap] ((ts.map λt=>(Hv k t (f t)).map MI.val).flatten++rest) O w λ_ F O' w'=>F=rest/\D2 Low O O' w w'/\Held Low w₀ O' w':=by
 have ay:=resultsC_none (P:=prog) (fn:=Tryz.f184) rfl;refine Ir func184 Br rfl ?_;simp only[ntmps184,D1,DT,DW,Nat.reduceAdd,Nat.reduceSub,EV,EW,EY,EX,ED,EA];refine kW ?_;refine oC (λR F O' w'=>∃U X,R=⟨#[.chan (some c),.int .i64 k,.slice a ts.length cap,undef,undef,undef,.int .i64 k,.int .i64 (k+2),undef,undef,U,X,undef,undef,undef,undef,undef,undef,undef,undef,undef,undef,undef,undef,undef,undef,undef,undef,undef,undef,undef,undef,undef],[]⟩/\F=(ts.map λt=>(Hv k t (f t)).map MI.val).flatten++rest/\O=O'/\w=w') ?_ ?_
 .rcases hk with rfl|rfl;{exact zu0};exact zu0
 rintro _ _ _ _⟨U,X,rfl,rfl,rfl,rfl⟩;refine kW ?_
 refine Yz (Bh _ _ _) (λn R F O' w'=>∃(j:Nat) (u9 ae aj gU gQ kU al ah ao ak af ax an ag ai au aw ab ac:AW),j<=ts.length/\n=ts.length - j/\R=⟨#[.chan (some c), .int .i64 k, .slice a ts.length cap,undef,undef,undef, .int .i64 k, .int .i64 (k+2),undef,u9,U,X, .slice a ts.length cap, .int .i64 ts.length, .int .i64 j,ae,aj,gU,gQ,kU,al,ah,ao,ak,af,ax,an,ag,ai,au,aw,ab,ac],[]⟩/\
  F=((ts.drop j).map λt=>(Hv k t (f t)).map MI.val).flatten++rest/\D2 Low O O' w w'/\Held Low w₀ O' w') ts.length ⟨0,undef,undef,undef,undef,undef,undef,undef,undef,undef,undef,undef,undef,undef,undef,undef,undef,undef,undef,undef,EH _,rfl,rfl,rfl,D2.refl _ _ _,hF⟩ ?_
 rintro n _ _ O1 W1⟨j,u9,ae,aj,gU,gQ,kU,al,ah,ao,ak,af,ax,an,ag,ai,au,aw,ab,ac,hj,rfl,rfl,rfl,A,Q⟩;dsimp only;by_cases V:j<ts.length
 .have aB:(j:Int)<(ts.length:Int):=by omega
  obtain⟨b,o,rfl,N,y⟩:=hr j V;have S:=DY V;have ar:=GL V;have H:=hts _ S;have L:=hB _ S;rw[ar]
  revert y H L
  generalize ts[j]=t;intro y H L;have⟨q,s,ad⟩:=H.devs;have⟨r,u,aa,_⟩:=H.K;clear H;obtain⟨n,op,v,av,kv,kids⟩:=t;dsimp only at ad aa L;subst ad aa;replace y:=y.ext A N;have T:=N.imp (A.own b) id;have iG:=BZ (λW(Y:Keep Low O1 W1 W)=>y.ext Y.ext T);clear y ar S hr hB hts;have _Y:=iG.out;have _B:=T;simp only[Wj]at _Y;refine kW ?_;clear _Y _B;refine N9 (Bh _ _ _) rfl Br ?_ ?_;{intro _;simp[go_sem];done};intro g hR K hK;go_simp;refine hK _ _ ?_;clear hK K;have⟨O2,eO,l,m,i,J,D,B⟩:=MQ Q hR #[.int .i64 0,.int .i64 0,.slice none 0 0,.slice none 0 0] 63;rw[<-eO];clear eO
  revert l m i J D B
  generalize g.alloc (.cells #[.int .i64 0,.int .i64 0,.slice none 0 0,.slice none 0 0] 63)=W2;generalize g.heap.size=b2;intro l m i J D B;replace l:=A.trans l;replace D :=λx hx=>D x (A.own x hx);clear hR g;try walk_nrm
  refine Yf (Bh _ _ _) b2 i rfl Br ?_ ?_
  .intro g hR e he;have d:=(hR.mine _ i).trans B;have y0:g.cell? ⟨b2,0,none⟩=some (.int .i64 0):=cell_of_heap d 0;have z0:=frozen_of_heap d 0;have y1:g.cell? ⟨b2,1,none⟩=some (.int .i64 0):=cell_of_heap d 1;have z1:=frozen_of_heap d 1;have y2:g.cell? ⟨b2,2,none⟩=some (.slice none 0 0):=cell_of_heap d 2;have Z:=frozen_of_heap d 2;have y3:g.cell? ⟨b2,3,none⟩=some (.slice none 0 0):=cell_of_heap d 3;have z3:=frozen_of_heap d 3;clear d;simp[go_sem,events_store_slice,storedEv, *]at he
   (first|(subst he;exact⟨_,_,rfl,.inl i⟩)|(rcases he with rfl|rfl<;>exact⟨_,_,rfl,.inl i⟩)|(rcases he with rfl|rfl|rfl|rfl<;>exact⟨_,_,rfl,.inl i⟩)|(rcases he with rfl|rfl|rfl|rfl|rfl|rfl<;>exact⟨_,_,rfl,.inl i⟩))
  intro g hR K hK;have d:=(hR.mine _ i).trans B;have y0:g.cell? ⟨b2,0,none⟩=some (.int .i64 0):=cell_of_heap d 0;have z0:=frozen_of_heap d 0;have y1:g.cell? ⟨b2,1,none⟩=some (.int .i64 0):=cell_of_heap d 1;have z1:=frozen_of_heap d 1;have y2:g.cell? ⟨b2,2,none⟩=some (.slice none 0 0):=cell_of_heap d 2;have Z:=frozen_of_heap d 2;have y3:g.cell? ⟨b2,3,none⟩=some (.slice none 0 0):=cell_of_heap d 3;have z3:=frozen_of_heap d 3;clear d;go_simp;try(unfold stored;go_simp)
  have d:=(hR.mine _ i).trans B;have M:FQ b2 g ((((g.setCell ⟨b2,0,none⟩ (.int .i64 n)).setCell ⟨b2,1,none⟩ (.int .i64 op)).setCell ⟨b2,2,none⟩ (.slice q v.length s)).setCell ⟨b2,3,none⟩ (.slice r kids.length u)):=(((((FQ.refl _ _).set 0 (.int .i64 n)).set 1 (.int .i64 op)).set 2 (.slice q v.length s)).set 3 (.slice r kids.length u));have I:((((g.setCell ⟨b2,0,none⟩ (.int .i64 n)).setCell ⟨b2,1,none⟩ (.int .i64 op)).setCell ⟨b2,2,none⟩ (.slice q v.length s)).setCell ⟨b2,3,none⟩ (.slice r kids.length u)).heap[b2]?=some (.cells #[.int .i64 n,.int .i64 op,.slice q v.length s,.slice r kids.length u] 63):=(heap_setCell (heap_setCell (heap_setCell (heap_setCell d 0 (.int .i64 n)) 1 (.int .i64 op)) 2 (.slice q v.length s)) 3 (.slice r kids.length u));refine hK _ _ M ?_;clear hK K d y0 z0 y1 z1 y2 Z y3 z3 B;replace l:=(l.rely hR).put M J D;replace m:=(m.rely hR).put M J
  revert l m I
  clear M hR;generalize ((((g.setCell ⟨b2,0,none⟩ (.int .i64 n)).setCell ⟨b2,1,none⟩ (.int .i64 op)).setCell ⟨b2,2,none⟩ (.slice q v.length s)).setCell ⟨b2,3,none⟩ (.slice r kids.length u))=W2;intro I l m;have ap:Hid (∀W,Keep Low O2 W2 W->∀E,W.cell? ⟨b2,E,none⟩=(#[.int .i64 n,.int .i64 op,.slice q v.length s,.slice r kids.length u]:δ)[E]?):=λW Y E=>(Y.ext.cell (.inl i) E).trans (cell_of_heap I E);clear I;try walk_nrm
  have oQ:IntKind.i64.wrap ((j:Int)+1)=((j+1:Nat):Int):=xAe;clear T A Q N iG;by_cases C:n=1;{have e1:(n==1)=true:=(by rwa[E4]);rw[ER,Hv,BR C,DZ,FI,MI.val,EA,ED,EA];have _Y:=cs4 ap;refine kW ?_;clear _Y;exact⟨ts.length - (j+1),BS,j+1,_,_,_,_,_,_,_,_,_,_,_,_,_,_,_,_,_,_,_,BS,rfl,rfl,rfl,l,m⟩};have e1:(n==1)=false:=by rwa[DX]
  have lH:=L C;rw[ER,Hv,BQ C,D4,DZ,FI,EJ,EJ,EA,ED];have _Y:=cs4 ap;refine kW ?_;clear _Y
  (refine Ht (Bh _ _ _) rfl Br rfl (lH _ _ _ m) CN ?_;rintro _ _ O3 W3⟨rfl,iC,az⟩;try walk_nrm);simp only[MI.val,mi0];refine kW ?_;exact⟨ts.length - (j+1),BS,j+1,_,_,_,_,_,_,_,_,_,_,_,_,_,_,_,_,_,_,_,BS,rfl,rfl,rfl,l.trans iC,az⟩
 have aA:¬(j:Int)<(ts.length:Int):=by omega
 have hd:ts.drop j=[]:=gd BS;rw[hd];refine kW ?_;exact⟨rfl,_,ay _,rfl,A,Q⟩
