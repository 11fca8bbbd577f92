import Derived.Test.YtgnkpbhknkinoaaGreatDoorCE3b
import Derived.Test.YtgnkpbhknkinoaaGreatDoorW14a
set_option linter.defProp false
set_option maxRecDepth 100000
set_option maxHeartbeats 4000000
namespace Go.Proofs.YtgnkpbhknkinoaaGreatDoor
open Tryz Go.RowKit Go.Sort Go.BigFrame Go.Conc Go.Co
section
open Stil
variable {Low c:Nat}
def Ij{τ:Type}{P:AY}{ok:τ->(Nat->Prop)->World->Goroutine->Prop}{f:FuncId}{F:Func}{b:Code}{args:Array AW}{x:τ}{O:Nat->Prop}{w:AU}{Post:AW->τ->(Nat->Prop)->World->Prop}
  (g:P.funcs[f]?=some F) (e:(F.name== "runtime.NumGoroutine")=false) (d:F.body=some b) (h:WpK ok f b (cA P F Post) {tmps:=args++Array.replicate (F.ntmps - args.size) AQ,defers:=[]} x O w):Ky P ok f args x O w Post:=⟨F,b,g,e,d,h⟩
def v0(c:Int):AW:=.agg #[AB c,AB 0,AG]
def zma{p:Prop}(h:p:=by rw[el,DX,FD,D4,EB];clear el;simp only[v0,F6];refine Ij func171 Bn rfl ?_;simp only[ntmps171,Db,DO,DU,Nat.reduceAdd,Nat.reduceSub,ES,ET,EV,EU,EB,D4];refine kW ?_;exact⟨rfl,_,hres _,rfl,rfl,rfl⟩):p:=h
theorem oD(n i:Nat)(hi:i<n)(y:n<=1000000)(vs:List AW)(O:Nat->Prop)(w:AU):
  Ky prog (okS prog Low c) 171 #[.chan (some c),AB i,AB n] ((Eh n i).map (λx=>v0 x.code)++vs) O w λ_ r O' w'=>r=vs/\O'=O/\w'=w:=by
 have hres:=resultsC_none (P:=prog) (fn:=Tryz.f171) rfl;by_cases b:n=1
 .have q:((n:Int)==1)=true:=by simp[b]
  have el:Eh n i=[]:=by simp[Eh,b]
  rw[el,FD,EB];clear el;refine Ij func171 Bn rfl ?_;simp only[ntmps171,Db,DO,DU,Nat.reduceAdd,Nat.reduceSub,ES,ET,EV,EU,EB,D4];refine kW ?_;exact⟨rfl,_,hres _,rfl,rfl,rfl⟩
 have q:((n:Int)==1)=false:=xAf;by_cases d:i=0
 .have s:((i:Int)==0)=true:=by simp[d]
  have el:Eh n i=[F6 7]:=by simp[Eh,b,d]
  exact zma
 have s:((i:Int)==0)=false:=xAf;have u:IntKind.i64.wrap ((n:Int) - 1)=(n:Int) - 1:=xAe;by_cases g:i+1=n
 .have m:((i:Int)==(n:Int) - 1)=true:=by rw[E0];omega
  have el:Eh n i=[F6 9]:=by simp[Eh,b,d,g]
  exact zma
 have m:((i:Int)==(n:Int) - 1)=false:=xAf;have el:Eh n i=[F6 8]:=by simp[Eh,b,d,g]
 exact zma
end
variable {Low c:Nat}
def UT(n:Nat):((n:Int)==0)=(n==0):=by rw[E6,E0,E0];omega
theorem fc(op:Int)(a:Option Ab)(d cap:Nat)(_h:d<=1048576)(w₀:AU)(vs:List AW)(O:Nat->Prop)(w:AU)(hF:Held Low w₀ O w):
  Ky prog (okS prog Low c) 164 #[.agg #[AB op,AE a d cap]] vs O w λv y O' w'=>v=.bool (op==0 && d==0)/\y=vs/\Dm Low O O' w w'/\Held Low w₀ O' w':=by
 have q:=resultsC_tmp (P:=prog) (fn:=Tryz.f164) rfl;by_cases r:op=0
 .subst r;refine Ij func164 Bn rfl ?_;simp only[ntmps164,Db,DO,DU,Nat.reduceAdd,Nat.reduceSub,ES,ET,EV,EU,EB,D4];refine Lj (Bg _ _ _) ?_
  (refine Gq (Bg _ _ _) ?_;simp only[Db,DO,DU,Nat.reduceAdd,ED,List.range,List.range.loop]);refine kB hF #[AB 0,AE a d cap] 53 λO1 W1 s m g u A n=>?_;try walk_nrm
  have _Y:=cs2 n;refine kW ?_;clear _Y;exact⟨rfl,_,q _,by simp[UT],rfl,m,g⟩
 have h1:(op==0)=false:=by rwa[DV]
 refine Ij func164 Bn rfl ?_;simp only[ntmps164,Db,DO,DU,Nat.reduceAdd,Nat.reduceSub,ES,ET,EV,EU,EB,D4];refine Lj (Bg _ _ _) ?_
 (refine Gq (Bg _ _ _) ?_;simp only[Db,DO,DU,Nat.reduceAdd,ED,List.range,List.range.loop]);refine kB hF #[AB op,AE a d cap] 53 λO1 W1 s m g u A n=>?_;try walk_nrm
 have _Y:=cs2 n;refine kW ?_;clear _Y;exact⟨rfl,_,q _,by simp[h1],rfl,m,g⟩
theorem kr(k op:Int)(n:Option Ab)(d g:Nat)(B:Option Ab)(q A:Nat)(U:d<=1048576)(_hlk:q<=1048576)(w₀:AU)(vs:List AW)(O:Nat->Prop)(w:AU)(hF:Held Low w₀ O w):
  Ky prog (okS prog Low c) 131 #[.agg #[AB k,AB op,AE n d g,AE B q A]] vs O w
   λv E O' w'=>v=.bool ((k==0 && (op==0 && d==0)) && q==0)/\E=vs/\Dm Low O O' w w'/\Held Low w₀ O' w':=by
 have D:=resultsC_tmp (P:=prog) (fn:=Tryz.f131) rfl;by_cases I:k=0
 .subst I;have F:Hid (∀O W,Held Low w₀ O W->Ky prog (okS prog Low c) 164 #[.agg #[AB op,AE n d g]] vs O W λv E O' w'=>v=.bool (op==0 && d==0)/\E=vs/\Dm Low O O' W w'/\Held Low w₀ O' w'):=λO W h=>fc op n d g U w₀ vs O W h;have⟨H,L⟩:=AA ((op==0 && d==0));rw[<-L]at F⊢;clear L;refine Ij func131 Bn rfl ?_;simp only[ntmps131,Db,DO,DU,Nat.reduceAdd,Nat.reduceSub,ES,ET,EV,EU,EB,D4];refine Lj (Bg _ _ _) ?_
  (refine Gq (Bg _ _ _) ?_;simp only[Db,DO,DU,Nat.reduceAdd,ED,List.range,List.range.loop]);refine kB hF #[AB 0,AB op,AE n d g,AE B q A] 56 λO1 W1 N y u s R r=>?_;try walk_nrm
  have _Y:=cs4 r;refine kW ?_;clear _Y;cases H with
  |false=>(refine Hf (Bg _ _ _) rfl Bn rfl (F _ _ u) CM ?_;rintro _ _ M J⟨rfl,rfl,m,C⟩;try walk_nrm);refine kW ?_;exact⟨rfl,_,D _,BU,rfl,y.tr m,C⟩
  |true=>(refine Hf (Bg _ _ _) rfl Bn rfl (F _ _ u) CM ?_;rintro _ _ M J⟨rfl,rfl,m,C⟩;try walk_nrm);replace r:Hid (∀W,Keep Low M J W->∀k,W.c (AK N k)=(#[AB 0,AB op,AE n d g,AE B q A]:Array AW)[k]?):=λW V k=>(V.ext.cell (.inl (m.own _ s)) k).tr ((m.cell (.inl s) k).tr (r _ (Keep.refl _ _ _) k));replace s:=m.own _ s;have _Y:=cs4 r;refine kW ?_;clear _Y;exact⟨rfl,_,D _,by simp[UT],rfl,y.tr m,C⟩
 have h1:(k==0)=false:=by rwa[DV]
 refine Ij func131 Bn rfl ?_;simp only[ntmps131,Db,DO,DU,Nat.reduceAdd,Nat.reduceSub,ES,ET,EV,EU,EB,D4];refine Lj (Bg _ _ _) ?_
 (refine Gq (Bg _ _ _) ?_;simp only[Db,DO,DU,Nat.reduceAdd,ED,List.range,List.range.loop]);refine kB hF #[AB k,AB op,AE n d g,AE B q A] 56 λO1 W1 N y u s R r=>?_;try walk_nrm
 have _Y:=cs4 r;refine kW ?_;clear _Y;exact⟨rfl,_,D _,by simp[h1],rfl,y,u⟩
open Stil
theorem Aub{w₀:AU}{e:AZ}{s n:Nat}{v:AW}{xs:List AW}(h:w₀.ownsRow 0 e s v n xs):∃a cap,v=AE a n cap/\Fo a n cap/\∀j u,xs[j]?=some u->∃b,a=some (AK b 0)/\v.ownBlock=some b/\w₀.cell? (AK b j)=some u:=by
 have m:=h.2;rcases m with⟨hv,d⟩|⟨g,cap,cur,hv,q,_,k,_⟩
 .refine⟨none,0,by rw[hv,d],⟨BS,λ_=>rfl⟩,λj u hu=>?_⟩;have f:=h.1;rw[d,GZ]at f;rw[BL.1 f]at hu;simp at hu
 refine⟨_,cap,hv,⟨k,λe=>by cases e⟩,λj u hu=>⟨g,rfl,yFc,?_⟩⟩;have:=h.cells (g:=g) yFc j u hu;rwa [add_plain]at this
def VB(Low:Nat)(O:Nat->Prop)(w:AU)(a:Option Ab)(ts:List Rj):Prop:=∀i(h:i<ts.length),∃b o,a=some (AK b o)/\(O b\/b<Low)/\We w b (o+i*4) ts[i]
section
variable {Low:Nat}{w₀ w w':AU}{O O':Nat -> Prop}
def We.ext{b o:Nat}{t:Rj}(h:We w b o t)(k:Dm Low O O' w w')(d:O b\/b<Low):We w' b o t:=
 ⟨(k.cell d _).tr h.1,(k.cell d _).tr h.2.1,(k.cell d _).tr h.2.2.1,(k.cell d _).tr h.2.2.2⟩
def We.held{b o:Nat}{t:Rj}(h:We w₀ b o t)(k:Held Low w₀ O w)(d:b<Low):We w b o t:=
 ⟨(k.down d _).tr h.1,(k.down d _).tr h.2.1,(k.down d _).tr h.2.2.1,(k.down d _).tr h.2.2.2⟩
def NOk.devs{m:Rj}(h:NOk Low w₀ m):∃a cap,m.av=.slice a m.ds.length cap:=let ⟨a,cap,e,_⟩:=(K8.1 h).1;⟨a,cap,e⟩
theorem NOk.K{m:Rj}(h:NOk Low w₀ m):∃(a:Option Ab)(cap:Nat),m.kv=AE a m.K.length cap/\Fo a m.K.length cap/\(∀t∈m.K,NOk Low w₀ t)/\
  ∀i(h:i<m.K.length),∃b o,a=some (AK b o)/\b<Low/\We w₀ b (o+i*4) m.K[i]:=let ⟨_,⟨a,cap,d,e,g⟩,f⟩:=K8.1 h;⟨a,cap,d,e,f,g⟩
end
variable {Low c:Nat}
theorem kt(w₀:World)(t:Rj)(Y:NOk Low w₀ t)(ah:t.ds.length<=1048576)(ag:t.K.length<=1048576):∃I:List Rj,I.map Rj.N=Bq t.N/\(∀x∈I,NOk Low w₀ x)/\∀g O w,Held Low w₀ O w->
  Ky prog (okS prog Low c) 137 #[.agg #[.int .i64 t.kind,.int .i64 t.op,t.av,t.kv]] g O w λv L O' w'=>L=g/\(∃a cap,v=.slice a I.length cap/\VB Low O' w' a I)/\Dm Low O O' w w'/\Held Low w₀ O' w':=by
 obtain⟨s,u,N⟩:=Y.devs;obtain⟨r,q,R,ai,aj,aa⟩:=Y.K;have V:=t.Ne;obtain⟨n,rfl⟩:∃n,n=t:=⟨_,rfl⟩;rw[N,R];have vN:Hid (Ai n.N=((n.kind==0 && (n.op==0 && n.ds.length==0)) && n.K.length==0)):=by show _=_;rw[V];unfold Ai;simp only[Bool.and_assoc,DZ]
 have E:Hid (Bq n.N=if Ai n.N then [] else if n.kind=2 then n.K.map Rj.N else [n.N]):=by show _=_;unfold Bq;rw[V]
 clear V ai
 have B:Hid (∀g O W,Held Low w₀ O W->Ky prog (okS prog Low c) 131 #[.agg #[.int .i64 n.kind, .int .i64 n.op, .slice s n.ds.length u, .slice r n.K.length q]] g O W
   λv L O' w'=>v=.bool (Ai n.N)/\L=g/\Dm Low O O' W w'/\Held Low w₀ O' w'):=λg O W h=>by rw[vN.out];exact kr _ _ _ _ _ _ _ _ ah ag w₀ g O W h
 obtain⟨Z,ad⟩:∃Z,Z=Ai n.N:=⟨_,rfl⟩;rw[<-ad]at B E;have ae:Hid (n.av=.slice s n.ds.length u):=N;have ak:Hid (n.kv=.slice r n.K.length q):=R;clear ad vN N R;have J:=resultsC_tmp (P:=prog) (fn:=Tryz.f137) rfl;cases Z with
 |true=>
  refine⟨[],by rw[E.out];rfl,BU,λg O w hF=>?_⟩;refine Ij func137 Bn rfl ?_;simp only[ntmps137,Db,DO,DU,Nat.reduceAdd,Nat.reduceSub,ES,ET,EV,EU,EB,D4];refine Lj (Bg _ _ _) ?_
  (refine Gq (Bg _ _ _) ?_;simp only[Db,DO,DU,Nat.reduceAdd,ED,List.range,List.range.loop]);refine kB hF #[.int .i64 n.kind,.int .i64 n.op,.slice s n.ds.length u,.slice r n.K.length q] 56 λO1 W1 b1 C D y ac d=>?_;try walk_nrm
  have _Y:=cs4 d;refine kW ?_;clear _Y
  (refine Hf (Bg _ _ _) rfl Bn rfl (B _ _ _ D) CM ?_;rintro _ _ O2 W2⟨rfl,rfl,m,A⟩;try walk_nrm);refine kW ?_;exact⟨rfl,_,J _,rfl,⟨none,0,rfl,λi hi=>by simp at hi⟩,C.trans m,A⟩
 |false=>
  by_cases h2:n.kind=2
  .refine⟨n.K,by rw[E.out];simp[h2],aj,λg O w hF=>?_⟩;rw[h2]at B⊢;refine Ij func137 Bn rfl ?_;simp only[ntmps137,Db,DO,DU,Nat.reduceAdd,Nat.reduceSub,ES,ET,EV,EU,EB,D4];refine Lj (Bg _ _ _) ?_
   (refine Gq (Bg _ _ _) ?_;simp only[Db,DO,DU,Nat.reduceAdd,ED,List.range,List.range.loop]);refine kB hF #[.int .i64 2,.int .i64 n.op,.slice s n.ds.length u,.slice r n.K.length q] 56 λO1 W1 b1 C D y ac d=>?_;(try walk_nrm);have _Y:=cs4 d;refine kW ?_;clear _Y
   (refine Hf (Bg _ _ _) rfl Bn rfl (B _ _ _ D) CM ?_;rintro _ _ O2 W2⟨rfl,rfl,m,A⟩;try walk_nrm);replace d:=JF d m y;replace y:=m.own _ y;have _Y:=cs4 d;refine kW ?_;clear _Y;refine⟨rfl,_,J _,rfl,⟨r,q,rfl,λi hi=>?_⟩,C.trans m,A⟩;obtain⟨b,o,ha,hb,hc⟩:=aa i hi;exact⟨b,o,ha,.inr hb,hc.held A hb⟩
  refine⟨[n],by rw[E.out];simp[h2],λx hx=>by rw[List.mem_singleton.1 hx];exact Y,λg O w hF=>?_⟩;have al:(n.kind==2)=false:=by rw[DV];exact h2
  clear aa;refine Ij func137 Bn rfl ?_;simp only[ntmps137,Db,DO,DU,Nat.reduceAdd,Nat.reduceSub,ES,ET,EV,EU,EB,D4];refine Lj (Bg _ _ _) ?_
  (refine Gq (Bg _ _ _) ?_;simp only[Db,DO,DU,Nat.reduceAdd,ED,List.range,List.range.loop]);refine kB hF #[.int .i64 n.kind,.int .i64 n.op,.slice s n.ds.length u,.slice r n.K.length q] 56 λO1 W1 b1 C D y ac d=>?_;try walk_nrm
  have _Y:=cs4 d;refine kW ?_;clear _Y
  (refine Hf (Bg _ _ _) rfl Bn rfl (B _ _ _ D) CM ?_;rintro _ _ O2 W2⟨rfl,rfl,m,A⟩;try walk_nrm);replace d:=JF d m y;replace y:=m.own _ y;have _Y:=cs4 d;refine kW ?_;clear _Y;refine Nz (Bg _ _ _) rfl Bn ?_ ?_;{intro _;simp[go_sem];done};intro w₁ hR K hK;go_simp;refine hK _ _ ?_;clear hK K;obtain⟨O3,eO,M,X,U,ab,F⟩:=boxed A hR #[.int .i64 n.kind,.int .i64 n.op,.slice s n.ds.length u,.slice r n.K.length q] 56;rw[<-eO];clear eO
  revert M X U ab F
  generalize w₁.alloc (.cells #[.int .i64 n.kind,.int .i64 n.op,.slice s n.ds.length u,.slice r n.K.length q] 56)=W3;generalize w₁.heap.size=b3;intro M X U ab F;have H:Hid (∀W,Keep Low O3 W3 W->∀ii,W.cell? ⟨b3,ii,none⟩=(#[.int .i64 n.kind,.int .i64 n.op,.slice s n.ds.length u,.slice r n.K.length q]:Array Value)[ii]?):=F;clear F hR w₁;try walk_nrm
  refine kW ?_;refine⟨rfl,_,J _,rfl,⟨some ⟨b3,0,none⟩,1,rfl,λi hi=>?_⟩,(C.trans m).trans M,X⟩;have af:i=0:=by simp at hi;exact hi
  subst af;refine⟨b3,0,rfl,.inl U,H _ (Keep.refl _ _ _) 0,H _ (Keep.refl _ _ _) 1,?_,?_⟩;{rw[show([n]:List Rj)[0].av=_ from ae.out];exact H _ (Keep.refl _ _ _) 2};rw[show([n]:List Rj)[0].kv=_ from ak.out];exact H _ (Keep.refl _ _ _) 3
variable {Low c:Nat}
def JW(Low c:Nat)(w₀:AU)(t:Rj)(vs:List MI):Prop:=∀rest O w,Held Low w₀ O w->
 Ky prog (okS prog Low c) 138 #[.chan (some c),.agg #[AB t.kind,AB t.op,t.av,t.kv]] (vs.map MI.val++rest) O w λ_ b O' w'=>b=rest/\Dm Low O O' w w'/\Held Low w₀ O' w'
def Hi(k:Int)(t:Rj)(vs:List MI):List MI:=if t.kind=1 then [⟨k,⟨t.op,t.ds,t.av⟩⟩] else vs++[mi0 (k+2)]
def zt0{p:Prop}(h:p:=by refine kW ?_;exact⟨_,_,rfl,by first | rfl | trivial,by first | rfl | trivial,by first | rfl | trivial⟩):p:=h
theorem UG(w₀:AU)(k:Int)(hk:k=2\/k=3)(ts:List Rj)(f:Rj->List MI)(hts:∀t∈ts,NOk Low w₀ t)(hB:∀t∈ts,t.kind≠1->JW Low c w₀ t (f t))(hl:ts.length<=1048576)(rest:List AW)(O:Nat->Prop)(w:AU)(hF:Held Low w₀ O w)(a:Option Ab)(cap:Nat)(hr:VB Low O w a ts):
  Ky prog (okS prog Low c) 170 #[.chan (some c),.int .i64 k,.slice a ts.length cap] ((ts.map λt=>(Hi k t (f t)).map MI.val).flatten++rest) O w λ_ F O' w'=>F=rest/\Dm Low O O' w w'/\Held Low w₀ O' w':=by
 have aB:=resultsC_none (P:=prog) (fn:=Tryz.f170) rfl;refine Ij func170 Bn rfl ?_;simp only[ntmps170,Db,DO,DU,Nat.reduceAdd,Nat.reduceSub,ES,ET,EV,EU,EB,D4];refine kW ?_;refine lj (λX F O' w'=>∃Z aa,X=⟨#[.chan (some c),.int .i64 k,.slice a ts.length cap,undef,undef,undef,.int .i64 k,.int .i64 (k+2),undef,undef,Z,aa,undef,undef,undef,undef,undef,undef,undef,undef,undef,undef,undef,undef,undef,undef,undef,undef,undef,undef,undef,undef,undef],[]⟩/\F=(ts.map λt=>(Hi k t (f t)).map MI.val).flatten++rest/\O=O'/\w=w') ?_ ?_
 .rcases hk with rfl|rfl;{exact zt0};exact zt0
 rintro _ _ _ _⟨Z,aa,rfl,rfl,rfl,rfl⟩;refine kW ?_
 refine Yr (Bg _ _ _) (λn X F O' w'=>∃(j:Nat) (u9 aw ai gB fZ kP al ak an ad ax ao az ar ac ap aj ae ah:AW),j<=ts.length/\n=ts.length - j/\X=⟨#[.chan (some c), .int .i64 k, .slice a ts.length cap,undef,undef,undef, .int .i64 k, .int .i64 (k+2),undef,u9,Z,aa, .slice a ts.length cap, .int .i64 ts.length, .int .i64 j,aw,ai,gB,fZ,kP,al,ak,an,ad,ax,ao,az,ar,ac,ap,aj,ae,ah],[]⟩/\
  F=((ts.drop j).map λt=>(Hi k t (f t)).map MI.val).flatten++rest/\Dm Low O O' w w'/\Held Low w₀ O' w') ts.length ⟨0,undef,undef,undef,undef,undef,undef,undef,undef,undef,undef,undef,undef,undef,undef,undef,undef,undef,undef,undef,EI _,rfl,rfl,rfl,Dm.refl _ _ _,hF⟩ ?_
 rintro n _ _ O1 W1⟨j,u9,aw,ai,gB,fZ,kP,al,ak,an,ad,ax,ao,az,ar,ac,ap,aj,ae,ah,hj,rfl,rfl,rfl,C,ab⟩;dsimp only;by_cases U:j<ts.length
 .have aD:(j:Int)<(ts.length:Int):=by omega
  obtain⟨b,o,rfl,hb,D⟩:=hr j U;have V:=DW U;have ay:=GH U;have L:=hts _ V;have T:=hB _ V;rw[ay]
  revert D L T
  generalize ts[j]=t;intro D L T;have⟨y,A,af⟩:=L.devs;have⟨B,u,ag,_⟩:=L.K;clear L;obtain⟨n,op,s,av,kv,kids⟩:=t;dsimp only at af ag T;subst af ag;replace D:=D.ext C hb;have Y:=hb.imp (C.own b) id;have gZ:=BX (λW(hW:Keep Low O1 W1 W)=>D.ext hW.ext Y);clear D ay V hr hB hts;have _Y:=gZ.out;have _B:=Y;simp only[We]at _Y;refine kW ?_;clear _Y _B;refine Nz (Bg _ _ _) rfl Bn ?_ ?_;{intro _;simp[go_sem];done};intro g hR K hK;go_simp;refine hK _ _ ?_;clear hK K;have⟨O2,eO,q,r,m,R,H,E⟩:=MN ab hR #[.int .i64 0,.int .i64 0,.slice none 0 0,.slice none 0 0] 56;rw[<-eO];clear eO
  revert q r m R H E
  generalize g.alloc (.cells #[.int .i64 0,.int .i64 0,.slice none 0 0,.slice none 0 0] 56)=W2;generalize g.heap.size=b2;intro q r m R H E;replace q:=C.trans q;replace H :=λx hx=>H x (C.own x hx);clear hR g;try walk_nrm
  refine X9 (Bg _ _ _) b2 m rfl Bn ?_ ?_
  .intro g hR e he;have d:=(hR.mine _ m).trans E;have y0:g.cell? ⟨b2,0,none⟩=some (.int .i64 0):=cell_of_heap d 0;have z0:=frozen_of_heap d 0;have y1:g.cell? ⟨b2,1,none⟩=some (.int .i64 0):=cell_of_heap d 1;have z1:=frozen_of_heap d 1;have y2:g.cell? ⟨b2,2,none⟩=some (.slice none 0 0):=cell_of_heap d 2;have z2:=frozen_of_heap d 2;have y3:g.cell? ⟨b2,3,none⟩=some (.slice none 0 0):=cell_of_heap d 3;have z3:=frozen_of_heap d 3;clear d;simp[go_sem,events_store_slice,storedEv, *]at he
   (first|(subst he;exact⟨_,_,rfl,.inl m⟩)|(rcases he with rfl|rfl<;>exact⟨_,_,rfl,.inl m⟩)|(rcases he with rfl|rfl|rfl|rfl<;>exact⟨_,_,rfl,.inl m⟩)|(rcases he with rfl|rfl|rfl|rfl|rfl|rfl<;>exact⟨_,_,rfl,.inl m⟩))
  intro g hR K hK;have d:=(hR.mine _ m).trans E;have y0:g.cell? ⟨b2,0,none⟩=some (.int .i64 0):=cell_of_heap d 0;have z0:=frozen_of_heap d 0;have y1:g.cell? ⟨b2,1,none⟩=some (.int .i64 0):=cell_of_heap d 1;have z1:=frozen_of_heap d 1;have y2:g.cell? ⟨b2,2,none⟩=some (.slice none 0 0):=cell_of_heap d 2;have z2:=frozen_of_heap d 2;have y3:g.cell? ⟨b2,3,none⟩=some (.slice none 0 0):=cell_of_heap d 3;have z3:=frozen_of_heap d 3;clear d;go_simp;try(unfold stored;go_simp)
  have d:=(hR.mine _ m).trans E;have N:FO b2 g ((((g.setCell ⟨b2,0,none⟩ (.int .i64 n)).setCell ⟨b2,1,none⟩ (.int .i64 op)).setCell ⟨b2,2,none⟩ (.slice y s.length A)).setCell ⟨b2,3,none⟩ (.slice B kids.length u)):=(((((FO.refl _ _).set 0 (.int .i64 n)).set 1 (.int .i64 op)).set 2 (.slice y s.length A)).set 3 (.slice B kids.length u));have M:((((g.setCell ⟨b2,0,none⟩ (.int .i64 n)).setCell ⟨b2,1,none⟩ (.int .i64 op)).setCell ⟨b2,2,none⟩ (.slice y s.length A)).setCell ⟨b2,3,none⟩ (.slice B kids.length u)).heap[b2]?=some (.cells #[.int .i64 n,.int .i64 op,.slice y s.length A,.slice B kids.length u] 56):=(heap_setCell (heap_setCell (heap_setCell (heap_setCell d 0 (.int .i64 n)) 1 (.int .i64 op)) 2 (.slice y s.length A)) 3 (.slice B kids.length u));refine hK _ _ N ?_;clear hK K d y0 z0 y1 z1 y2 z2 y3 z3 E;replace q:=(q.rely hR).put N R H;replace r:=(r.rely hR).put N R
  revert q r M
  clear N hR;generalize ((((g.setCell ⟨b2,0,none⟩ (.int .i64 n)).setCell ⟨b2,1,none⟩ (.int .i64 op)).setCell ⟨b2,2,none⟩ (.slice y s.length A)).setCell ⟨b2,3,none⟩ (.slice B kids.length u))=W2;intro M q r;have au:Hid (∀W,Keep Low O2 W2 W->∀J,W.cell? ⟨b2,J,none⟩=(#[.int .i64 n,.int .i64 op,.slice y s.length A,.slice B kids.length u]:Array AW)[J]?):=λW hW J=>(hW.ext.cell (.inl m) J).trans (cell_of_heap M J);clear M;try walk_nrm
  have oG:IntKind.i64.wrap ((j:Int)+1)=((j+1:Nat):Int):=xAe;clear Y C ab hb gZ;by_cases I:n=1;{have e1:(n==1)=true:=(by rwa[E0]);rw[EN,Hi,BR I,DX,FD,MI.val,D4,EB,D4];have _Y:=cs4 au;refine kW ?_;clear _Y;exact⟨ts.length - (j+1),BS,j+1,_,_,_,_,_,_,_,_,_,_,_,_,_,_,_,_,_,_,_,BS,rfl,rfl,rfl,q,r⟩};have e1:(n==1)=false:=by rwa[DV]
  have lD:=T I;rw[EN,Hi,BQ I,D2,DX,FD,EG,EG,D4,EB];have _Y:=cs4 au;refine kW ?_;clear _Y
  (refine Hf (Bg _ _ _) rfl Bn rfl (lD _ _ _ r) CM ?_;rintro _ _ O3 W3⟨rfl,gV,aA⟩;try walk_nrm);simp only[MI.val,mi0];refine kW ?_;exact⟨ts.length - (j+1),BS,j+1,_,_,_,_,_,_,_,_,_,_,_,_,_,_,_,_,_,_,_,BS,rfl,rfl,rfl,q.trans gV,aA⟩
 have aC:¬(j:Int)<(ts.length:Int):=by omega
 have hd:ts.drop j=[]:=fY BS;rw[hd];refine kW ?_;exact⟨rfl,_,aB _,rfl,C,ab⟩
end Go.Proofs.YtgnkpbhknkinoaaGreatDoor
namespace Go.Co
open Go.Conc
section
variable {a:Act}{fuel i j:Nat}{l:Array Bool}{o oi:Oper}{v:AW}
variable {τ:Type}{P:AY}{main:Bool}{Low:Nat}{pre:τ -> AU -> Prop}{ok:τ -> (Nat -> Prop) -> AU -> AX -> Prop}{fn:FuncId}{Q:Xi τ}{x:τ}{O:Nat -> Prop}
variable {ops:Array Oper}{md:Region.Mode}{S:AU -> Prop}{last:Nat}
def OpK(P:AY)(Low:Nat)(pre:τ->World->Prop)(fn:FuncId)(ops:Array Oper)(x:τ)(O:Nat->Prop)(i:Nat)(K:Act->World->Prop)(a:Act)(w:AU):Prop:=
 match ops[i]? with
 |none=>False
 |some o=>if Region.wanted o (yielded ops a.tmps) then ∀b,Keep Low O w b->pre x b->uponK o a (λd w'=>(F4 Low O b w' (listed P fn a o b)/\grown O b w'=O)/\K d w') ((execOp a.eval o).run P b) else K (a.put o.dst AQ) w
theorem eI{w:AU}{K e:Act->World->Prop}(h:∀a w,K a w->e a w)(b:OpK P Low pre fn ops x O i K a w):OpK P Low pre fn ops x O i e a w:=by
 unfold OpK at*;split
 .simp_all
 rename_i o k;simp only[k]at b;split
 .rename_i d;simp only[d,if_true]at b;exact λg f m=>uponK_mono (λn w' z=>⟨z.1,h _ _ z.2⟩) (b g f m)
 rename_i d;simp only[d]at b;exact h _ _ b
theorem vo(T:OkL P main Low pre ok){rest:List Nat}{w:AU}(h:OpK P Low pre fn ops x O i (λe w'=>Va ok fn ops rest Q e x O w') a w):Va ok fn ops (i::rest) Q a x O w:=by
 unfold OpK at h;split at h
 .exact h.elim
 rename_i o d;split at h
 .rename_i b;refine Ya T d b λk g m K f=>uponK_mono (λe w' z=>?_) (h k g m);exact f _ _ ⟨z.1.1,by rw[z.1.2];exact z.2⟩
 rename_i b;exact Wx T d (by simpa using b) h
def Rt(P:AY)(Low:Nat)(fn:FuncId)(ops:Array Oper)(S:AU->Prop)(O:Nat->Prop)(o:Oper)(v:AW)(a:Act):Prop:=
 (Region.wanted o (yielded ops a.tmps)=true/\∀w,S w->(execOp a.eval o).run P w=.ok (.value v) w/\F4 Low O w w (listed P fn a o w))\/(Region.wanted o (yielded ops a.tmps)=false/\v=AQ)
theorem Rt.of_same{b:Act}(f:Rt P Low fn ops S O o v a)(e:execOp b.eval o=execOp a.eval o)(d:Region.wanted o (yielded ops b.tmps)=Region.wanted o (yielded ops a.tmps)):Rt P Low fn ops S O o v b:=by unfold Rt listed at*;rwa[e,d]
variable (P Low pre ok fn ops md S last Q x O)
def GX:Nat->Array Bool->Act->World->Prop
 |0,listed,a,w=>Region.ready md ops listed=[last]/\Va ok fn ops [last] Q a x O w
 |fuel+1,listed,a,w=>last∉Region.ready md ops listed/\Region.ready md ops listed≠[]/\∀i∈Region.ready md ops listed,OpK P Low pre fn ops x O i (λb w'=>S w'/\GX fuel (listed.setIfInBounds i true) b w') a w
variable {P Low pre ok fn ops md S last Q x O}
theorem GX.rely(T:OkL P main Low pre ok)(e:∀u v,S u->Keep Low O u v->S v):
  ∀(fuel:Nat)(listed:Array Bool)(a:Act)(w d:AU),GX P Low pre ok fn Q x O ops md S last fuel listed a w->Keep Low O w d->GX P Low pre ok fn Q x O ops md S last fuel listed a d
 |0,_,_,_,_,h,r=>⟨h.1,h.2.rely T r⟩
 | fuel+1,listed,a,w,d,h,r=>⟨h.1,h.2.1,λi hi=>by
   have:=h.2.2 i hi
   unfold OpK at*;split
   .simp_all
   .rename_i o f
    simp only[f]at this;split
    .rename_i b;simp only[b,if_true]at this;exact λg k=>this g (r.tr k)
    .rename_i b;simp only[b] at this;exact⟨e _ _ this.1 r,GX.rely T e fuel _ _ _ _ this.2 r⟩⟩
theorem Awf(T:OkL P main Low pre ok):∀(fuel t:Nat)(listed:Array Bool)(a:Act)(w:AU),GX P Low pre ok fn Q x O ops md S last fuel listed a w->
  Va ok fn ops (Region.linearise.go md ops (fuel+1) t listed []) Q a x O w:=by
 intro fuel;induction fuel with
 |zero=>
  intro t listed a w h;simp only[Region.linearise.go]
  change Va ok fn ops (match (Region.ready md ops listed)[t % (Region.ready md ops listed).l]? with
   |some i=>Region.linearise.go md ops 0 (t / (Region.ready md ops listed).l) (listed.setIfInBounds i true) [i]
   | none=>[].reverse) Q a x O w
  rw[h.1];simp[Nat.mod_one,Region.linearise.go];exact h.2
 |succ fuel k=>
  intro t listed a w h;obtain⟨_,m,g⟩:=h;rw[Region.linearise.go]
  change Va ok fn ops (match (Region.ready md ops listed)[t % (Region.ready md ops listed).l]? with
   |some i=>Region.linearise.go md ops (fuel+1) (t / (Region.ready md ops listed).l) (listed.setIfInBounds i true) [i]
   | none=>[].reverse) Q a x O w
  cases hi:(Region.ready md ops listed)[t % (Region.ready md ops listed).l]? with
  |none=>
   exfalso;apply m;cases e:Region.ready md ops listed with
   |nil=>rfl|cons y b=>rw[e]at hi;have d:t % (y::b).l<(y::b).l:=Nat.mod_lt _ BU;simp at hi;simp at d;omega
  |some i=>simp only[];rw[linearise_go_acc,List.reverse_singleton,List.singleton_append];exact vo T (eI (λf w' z=>k _ _ f w' z.2) (g i (LK hi)))
theorem Rt.opK(e:∀u v,S u->Keep Low O u v->S v)(hi:ops[i]?=some o)(m:Rt P Low fn ops S O o v a){K:Act->World->Prop}(k:∀a u v,K a u->Keep Low O u v->K a v){w:AU}(hS:S w)(h:K (a.put o.dst v) w):
  OpK P Low pre fn ops x O i K a w:=by
 unfold OpK;simp only[hi];rcases m with⟨d,g⟩|⟨d,rfl⟩
 .simp only[d,if_true];intro f b _;rw[(g f (e _ _ hS b)).1];exact⟨⟨(g f (e _ _ hS b)).2,Jw _ _⟩,k _ _ _ h b⟩
 simp only[d,EZ,EH];exact h
theorem gu{d:Oper}(t:ops[j]?=some d)(A:oi.apart ops d=true)(D:∀g b,oi.op≠.select g b)(C:∀g b,d.op≠.select g b){K:Act->World->Prop}{w:AU}
  (e:Rt P Low fn ops S O oi v a) (h:OpK P Low pre fn ops x O j K (a.put oi.dst v) w):OpK P Low pre fn ops x O j (λp w'=>Rt P Low fn ops S O oi v p/\K (p.put oi.dst v) w') a w:=by
 have⟨q,f,s⟩:=Oper.apart_spec A;have keep:∀(a:Act),Rt P Low fn ops S O oi v a->∀u,Rt P Low fn ops S O oi v (a.put d.dst u):=λa e u=>e.of_same (execOp_put oi D a d.dst u s) (wanted_put oi a d.dst u s);unfold OpK at*;simp only[t] at*;rw[wanted_put d a oi.dst v q]at h;split
 .rename_i k;simp only[k,if_true]at h;intro m B y;have h:=h m B y;unfold listed at*;rw[execOp_put d C a oi.dst v q]at h;generalize (execOp a.eval d).run P m=r at*;cases r with
  |ok n w'=>
   (cases n<;>simp only[uponK]at h⊢);case value u=>exact⟨h.1,keep a e u,by rw[<-Act.put_comm a v u f];exact h.2⟩
   case skip=>exact⟨h.1,keep a e _,by rw[<-Act.put_comm a v AQ f];exact h.2⟩
  |halt z w'=>simp only[uponK]at h
 rename_i k;simp only[k]at h;exact⟨keep a e _,by rwa[<-Act.put_comm a v AQ f]⟩
def Yp(md:Region.Mode)(ops:Array Oper)(l:Array Bool):Prop:=∀j o,ops[j]?=some o->l.getD j false=true->∀e∈o.after,Region.binds md e=true->l.getD e.on false=true
def sT(h:j<l.size):(l.setIfInBounds j true).getD j false=true:=by simp[h]
def Zi{k:Nat}(h:j≠k)(d:Bool):(l.setIfInBounds j true).getD k d=l.getD k d:=getD_set_ne d h
theorem Yp.set(h:Yp md ops l)(n:j∈Region.ready md ops l):Yp md ops (l.setIfInBounds j true):=by
 intro k o p g e d m;have key:l.getD e.on false=true:=by by_cases f:j=k;{subst f;have⟨_,y,q,s⟩:=mem_ready.1 n;rw[p]at q;cases q;exact s e d m};rw[Zi f]at g;exact h k o p g e d m
 by_cases r:j=e.on
 .have t:j<l.size:=by
   have u:=(mem_ready.1 n).1;rcases GI j l.size with b|b
   .exact b
   .simp[PC b]at u
  rw[<-r];exact sT t
 rw[Zi r];exact key
def OL(md:Region.Mode)(ops:Array Oper)(l:Array Bool):Bool:=(List.range ops.size).all λj=>!(l.getD j false) || ((ops[j]?).all λo=>o.after.toList.all λe=>!(Region.binds md e) || l.getD e.on false)
theorem XP:OL md ops l=true↔Yp md ops l:=by
 unfold OL Yp;rw[List.all_eq_true];constructor
 .intro h j o b g e d f;have k:=(BF.1 b).1;have:=h j (List.mem_range.2 k);rw[g,b]at this;simp only[MY,Bool.false_or,Option.all_some,List.all_eq_true]at this;have:=this e (Array.mem_toList_iff.2 d);rw[f]at this;simpa using this
 intro h j m;cases g:l.getD j false with
 |false=>rfl
 |true=>
  simp only[MY,Bool.false_or];cases b:ops[j]? with
  |none=>rfl
  |some o=>
   simp only[Option.all_some,List.all_eq_true];intro e d;cases f:Region.binds md e with
   |false=>rfl|true=>rw[h j o b g e (Array.mem_toList_iff.1 d) f];rfl
theorem Awg(T:OkL P main Low pre ok)(s:∀u v,S u->Keep Low O u v->S v)(hi:ops[i]?=some oi)(K:∀(j:Nat)(o:Oper)p b,ops[j]?=some o->o.op≠.select p b):
  ∀(fuel:Nat)(listed:Array Bool)(a:Act)(w:AU),(∀l:Array Bool,l.size=listed.size->Yp md ops l->l.getD i true=false->last∉Region.ready md ops l)->Yp md ops listed->
   (∀j m,ops[j]?=some m->j≠i->listed.getD j true=false->(∀e∈m.after,Region.binds md e=true->e.on≠i)->oi.apart ops m=true)->
   i∈Region.ready md ops listed->Rt P Low fn ops S O oi v a->S w->
   GX P Low pre ok fn Q x O ops md S last fuel (listed.setIfInBounds i true) (a.put oi.dst v) w->GX P Low pre ok fn Q x O ops md S last (fuel+1) listed a w:=by
 have E:∀fuel listed,∀a u v,(S u/\GX P Low pre ok fn Q x O ops md S last fuel listed a u)->Keep Low O u v->(S v/\GX P Low pre ok fn Q x O ops md S last fuel listed a v):=
  λfuel listed a u v h r=>⟨s _ _ h.1 r,GX.rely T s fuel listed a u v h.2 r⟩
 intro fuel;induction fuel with
 |zero=>intro listed a w q t _ d y hS H;have G:=q listed rfl t (mem_ready.1 d).1;refine⟨G,λh=>(by rw[h]at d;cases d),λj g=>?_⟩;by_cases f:j=i;{subst f;exact y.opK s hi (E _ _) hS ⟨hS,H⟩};have:=ready_mono g f;rw[H.1]at this;rw[BB.1 this]at g;exact absurd g G
 |succ fuel ih=>
  intro listed a w q t F d y hS H;refine⟨q listed rfl t (mem_ready.1 d).1,λh=>(by rw[h]at d;cases d),λj g=>?_⟩;by_cases f:j=i;{subst f;exact y.opK s hi (E _ _) hS ⟨hS,H⟩};have n:=H.2.2 j (ready_mono g f);have⟨I,m,A,Y⟩:=mem_ready.1 g;have aa:∀e∈m.after,Region.binds md e=true->e.on≠i:=λe L hb M=>by have n:=Y e L hb;have C:=(mem_ready.1 d).1;rw[M]at n;rcases GI i listed.size with B|B;{simp[B]at C n;rw[C]at n;cases n};simp[PC B]at n
  have U:=gu A (F j m A f I aa) (λp b=>K i oi p b hi) (λp b=>K j m p b A) y n;have Z:∀k ok,ops[k]?=some ok->k≠i->(listed.setIfInBounds j true).getD k true=false->(∀e∈ok.after,Region.binds md e=true->e.on≠i)->oi.apart ops ok=true:=λk ok V W J N=>by refine F k ok V W ?_ N;by_cases D:j=k;{subst D;exact I};rwa[getD_set_ne true D]at J
  refine eI (λX w' z=>⟨z.2.1,ih (listed.setIfInBounds j true) X w' (λl R=>q l (by rw[R];simp)) (t.set g) Z (ready_mono d (Ne.symm f)) z.1 z.2.1 ?_⟩) U;rw[Array.setIfInBounds_comm _ _ f];exact z.2.2
def allB:Nat->List (Array Bool)
 |0=>[#[]]
 |n+1=>(allB n).flatMap λl=>[l.push false,l.push true]
theorem ck:∀(n:Nat)(l:Array Bool),l.size=n->l∈allB n
 |0,l,h=>by simp[allB];exact Array.size_eq_zero_iff.1 h
 |n+1,l,h=>by
  simp only[allB,List.mem_flatMap];refine⟨l.pop,ck n _ (by simp[h]),?_⟩;have f:l.size≠0:=BS
  have e:l=l.pop.push (l[l.size - 1]'BS):=by
   apply Array.ext
   .simp;omega
   .intro i d g
    by_cases hi:i<l.size - 1
    .rw[Array.getElem_push_lt yEf];simp
    .have:i=l.size - 1:=by omega
     subst this;rw[Array.getElem_push];simp
  cases b:l[l.size - 1]'BS with
  |false=>rw[b]at e;rw[e];simp
  |true=>rw[b]at e;rw[e];simp
def waits(md:Region.Mode)(ops:Array Oper)(last i n:Nat):Bool:=(allB n).all λl=>!(OL md ops l) || (l.getD i true || !(Region.ready md ops l).contains last)
def yb{n:Nat}(h:waits md ops last i n=true):∀l:Array Bool,l.size=n->Yp md ops l->l.getD i true=false->last∉Region.ready md ops l:=by intro l f e d b;have:=List.all_eq_true.1 h l (ck n l f);rw[d,XP.2 e]at this;simp at this;exact this b
theorem V7(T:OkL P main Low pre ok)(b:∀u v,S u->Keep Low O u v->S v){listed:Array Bool}{w:AU}(hi:ops[i]?=some oi)
  (hl:waits md ops last i listed.size=true) (g:OL md ops listed=true) (e:Region.noSelect ops=true) (d:Region.free md ops listed i=true) (hr:(Region.ready md ops listed).contains i=true) (f:Rt P Low fn ops S O oi v a) (hS:S w)
  (h:GX P Low pre ok fn Q x O ops md S last fuel (listed.setIfInBounds i true) (a.put oi.dst v) w):GX P Low pre ok fn Q x O ops md S last (fuel+1) listed a w:=
 Awg T b hi (Region.noSelect_spec e) fuel listed a w (yb hl) (XP.1 g) (Region.free_spec hi d) (by simpa using hr) f hS h
theorem qD(T:OkL P main Low pre ok){f:Nat}{w:AU}(S:AU->Prop)(last:Nat)(q:P.follows .mixedOrders=true)(n:ops.size=fuel+1)
  (h:∀d,Keep Low O w d->GX P Low pre ok fn Q x O ops .any S last fuel (Array.replicate ops.size false) a {d with drawn:=d.drawn+1}):WpK ok fn (.region f ops true) Q a x O w:=by intro b k t r s g;refine T.own rfl λd m _=>⟨_,_,_,stepG_region_draw,rfl,⟨λ_ _ _=>rfl,DK _,rfl,rfl,rfl,BU⟩,?_⟩;have e:grown O d {d with drawn:=d.drawn+1}=O:=Jw O d;rw[e];have:=Awf T fuel (d.tape d.drawn (.order b.fn f)) (Array.replicate ops.size false) a _ (h d m) b k t r s g;simp only[Region.schedule,q,Bool.true_or,if_true];simp only[Region.linearise,n]at this⊢;exact this
end
def sZ{P:AY}{w:AU}{es:Array Event}(t:AZ)(h:P.underlying t=some (.slice (P.elem t)))(a:Option Ab)(m r:Nat)(h1:(1:Int)<=(m:Int)+1):
  (Instr.sliceAt t (AE a (m+1) r) (some (AB 1)) none none).events P w es=es:=by simp only[Instr.sliceAt,Instr.slice,Instr.sliceBounds,Instr.sliceBound,asIntOf];simp[run_underlying h,h1]
