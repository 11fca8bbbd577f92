import Derived.Test.YtfeablpbkcgdjaaGreatDoorCE3b
import Derived.Test.YtfeablpbkcgdjaaGreatDoorW14a
set_option maxRecDepth 100000
set_option maxHeartbeats 4000000
namespace Go.Proofs.YtfeablpbkcgdjaaGreatDoor
open Tryz Go.RowKit Go.Sort Go.BigFrame Go.Conc Go.Co
section
open Stil
variable {Low c:Nat}
theorem Hf {τ:Type}{P:Program}{ok:τ->(Nat->Prop)->World->Goroutine->Prop}{f:FuncId}{F:Func}{a:Code}{args:Array Value}{x:τ}{O:Nat->Prop}{w:World}{Post:Value->τ->(Nat->Prop)->World->Prop}
  (d:P.funcs[f]?=some F) (e:(F.name== "runtime.NumGoroutine")=false) (b:F.body=some a) (h:WpK ok f a (V1 P F Post) {tmps:=args++Array.replicate (F.ntmps - args.size) undef,defers:=[]} x O w):Jg P ok f args x O w Post:=⟨F,a,d,e,b,h⟩
def v0 (c:Int):Value:=.agg #[.int .i64 c, .int .i64 0, .slice none 0 0]
theorem zka {p:Prop}(h:p:=by
 rw[el,CN,EB,CY,C3];clear el;simp only[v0,Hg];refine Hf func143 A0 rfl ?_;simp only[ntmps143,CS,CC,CM,Nat.reduceAdd,Nat.reduceSub,DF,DG,DJ,DI,C3,CY];refine kW ?_;exact⟨rfl,_,hres _,rfl,rfl,rfl⟩):p:=h
theorem ep (n i:Nat)(hi:i<n)(q:n<=1000000)(vs:List Value)(O:Nat->Prop)(w:World):
  Jg prog (okS prog Low c) 143 #[.chan (some c), .int .i64 i, .int .i64 n] ((Eb n i).map (λx=>v0 x.code)++vs) O w λ_ j O' w'=>j=vs/\O'=O/\w'=w:=by
 have hres:=resultsC_none (P:=prog) (fn:=Tryz.f143) rfl;by_cases a:n=1
 .have m:((n:Int)==1)=true:=by simp[a]
  have el:Eb n i=[]:=by simp[Eb,a]
  rw[el,EB,C3];clear el;refine Hf func143 A0 rfl ?_;simp only[ntmps143,CS,CC,CM,Nat.reduceAdd,Nat.reduceSub,DF,DG,DJ,DI,C3,CY];refine kW ?_;exact⟨rfl,_,hres _,rfl,rfl,rfl⟩
 have m:((n:Int)==1)=false:=by rw[CJ];omega
 by_cases b:i=0
 .have g:((i:Int)==0)=true:=by simp[b]
  have el:Eb n i=[Hg 7]:=by simp[Eb,a,b]
  exact zka
 have g:((i:Int)==0)=false:=by rw[CJ];omega
 have o:IntKind.i64.wrap ((n:Int) - 1)=(n:Int) - 1:=by rw[IntKind.wrap_i64];omega
 by_cases d:i+1=n
 .have l:((i:Int)==(n:Int) - 1)=true:=by rw[D3];omega
  have el:Eb n i=[Hg 9]:=by simp[Eb,a,b,d]
  exact zka
 have l:((i:Int)==(n:Int) - 1)=false:=by rw[CJ];omega
 have el:Eb n i=[Hg 8]:=by simp[Eb,a,b,d]
 exact zka
end
variable {Low c:Nat}
theorem QY (n:Nat):((n:Int)==0)=(n==0):=by rw[Db,D3,D3];omega
theorem xw (op:Int)(a:Option Addr)(d cap:Nat)(_h:d<=1048576)(w₀:World)(vs:List Value)(O:Nat->Prop)(w:World)(hF:Held Low w₀ O w):
  Jg prog (okS prog Low c) 136 #[.agg #[.int .i64 op, .slice a d cap]] vs O w λv s O' w'=>v=.bool (op==0 && d==0)/\s=vs/\CV Low O O' w w'/\Held Low w₀ O' w':=by
 have m:=resultsC_tmp (P:=prog) (fn:=Tryz.f136) rfl;by_cases n:op=0
 .subst n
  refine Hf func136 A0 rfl ?_;simp only[ntmps136,CS,CC,CM,Nat.reduceAdd,Nat.reduceSub,DF,DG,DJ,DI,C3,CY];refine Jl (Aw _ _ _) ?_
  (refine Fq (Aw _ _ _) ?_;simp only[CS,CC,CM,Nat.reduceAdd,Cd,List.range,List.range.loop])
  refine kB hF #[.int .i64 0, .slice a d cap] 51 λO1 W1 r j g u q l=>?_
  try walk_nrm
  have _Y:=cs2 l;refine kW ?_;clear _Y;exact⟨rfl,_,m _,by simp[QY],rfl,j,g⟩
 .have h1:(op==0)=false:=by rw[CJ];exact n
  refine Hf func136 A0 rfl ?_;simp only[ntmps136,CS,CC,CM,Nat.reduceAdd,Nat.reduceSub,DF,DG,DJ,DI,C3,CY];refine Jl (Aw _ _ _) ?_
  (refine Fq (Aw _ _ _) ?_;simp only[CS,CC,CM,Nat.reduceAdd,Cd,List.range,List.range.loop])
  refine kB hF #[.int .i64 op, .slice a d cap] 51 λO1 W1 r j g u q l=>?_
  try walk_nrm
  have _Y:=cs2 l;refine kW ?_;clear _Y;exact⟨rfl,_,m _,by simp[h1],rfl,j,g⟩
theorem Zs (k op:Int)(m:Option Addr)(d g:Nat)(u:Option Addr)(l y:Nat)(N:d<=1048576)(_hlk:l<=1048576)(w₀:World)(vs:List Value)(O:Nat->Prop)(w:World)(hF:Held Low w₀ O w):
  Jg prog (okS prog Low c) 105 #[.agg #[.int .i64 k, .int .i64 op, .slice m d g, .slice u l y]] vs O w
   λv E O' w'=>v=.bool ((k==0 && (op==0 && d==0)) && l==0)/\E=vs/\CV Low O O' w w'/\Held Low w₀ O' w':=by
 have B:=resultsC_tmp (P:=prog) (fn:=Tryz.f105) rfl;by_cases J:k=0
 .subst J
  have C:Hid (∀O W,Held Low w₀ O W->Jg prog (okS prog Low c) 136 #[.agg #[.int .i64 op, .slice m d g]] vs O W λv E O' w'=>v=.bool (op==0 && d==0)/\E=vs/\CV Low O O' W w'/\Held Low w₀ O' w'):=λO W h=>xw op m d g N w₀ vs O W h
  obtain⟨A,F⟩:∃A,A=(op==0 && d==0):=⟨_,rfl⟩
  rw[<-F] at C ⊢;clear F;refine Hf func105 A0 rfl ?_;simp only[ntmps105,CS,CC,CM,Nat.reduceAdd,Nat.reduceSub,DF,DG,DJ,DI,C3,CY];refine Jl (Aw _ _ _) ?_
  (refine Fq (Aw _ _ _) ?_;simp only[CS,CC,CM,Nat.reduceAdd,Cd,List.range,List.range.loop])
  refine kB hF #[.int .i64 0, .int .i64 op, .slice m d g, .slice u l y] 54 λO1 W1 L s r q M j=>?_
  try walk_nrm
  have _Y:=cs4 j;refine kW ?_;clear _Y;cases A with
  | false=>
   (refine Gm (Aw _ _ _) rfl A0 rfl (C _ _ r) BJ ?_;rintro _ _ I H ⟨rfl,rfl,n,D⟩;try walk_nrm)
   refine kW ?_;exact⟨rfl,_,B _,AW,rfl,s.trans n,D⟩
  | true=>
   (refine Gm (Aw _ _ _) rfl A0 rfl (C _ _ r) BJ ?_;rintro _ _ I H ⟨rfl,rfl,n,D⟩;try walk_nrm)
   replace j:Hid (∀W,Keep Low I H W->∀k,W.cell? ⟨L,k,none⟩=(#[.int .i64 0, .int .i64 op, .slice m d g, .slice u l y]:Array Value)[k]?):=λW R k=>(R.ext.cell (.inl (n.own _ q)) k).trans ((n.cell (.inl q) k).trans (j _ (Keep.refl _ _ _) k))
   replace q:=n.own _ q;have _Y:=cs4 j;refine kW ?_;clear _Y;exact⟨rfl,_,B _,by simp[QY],rfl,s.trans n,D⟩
 .have h1:(k==0)=false:=by rw[CJ];exact J
  refine Hf func105 A0 rfl ?_;simp only[ntmps105,CS,CC,CM,Nat.reduceAdd,Nat.reduceSub,DF,DG,DJ,DI,C3,CY];refine Jl (Aw _ _ _) ?_
  (refine Fq (Aw _ _ _) ?_;simp only[CS,CC,CM,Nat.reduceAdd,Cd,List.range,List.range.loop])
  refine kB hF #[.int .i64 k, .int .i64 op, .slice m d g, .slice u l y] 54 λO1 W1 L s r q M j=>?_
  try walk_nrm
  have _Y:=cs4 j;refine kW ?_;clear _Y;exact⟨rfl,_,B _,by simp[h1],rfl,s,r⟩
open Stil
theorem qq {w₀:World}{e:TypeId}{s n:Nat}{v:Value}{xs:List Value}(h:w₀.ownsRow 0 e s v n xs):∃a cap,v=.slice a n cap/\E4 a n cap/\∀j u,xs[j]?=some u->∃b,a=some ⟨b,0,none⟩/\v.ownBlock=some b/\w₀.cell? ⟨b,j,none⟩=some u:=by
 have k:=h.2;rcases k with⟨hv,d⟩ | ⟨g,cap,cur,hv,l,_,i,_⟩
 .refine⟨none,0,by rw[hv,d],⟨AU,λ_=>rfl⟩,λj u hu=>?_⟩
  have f:=h.1;rw[d,ER] at f;rw[List.length_eq_zero_iff.1 f] at hu;simp at hu
 .refine⟨_,cap,hv,⟨i,λe=>by cases e⟩,λj u hu=>⟨g,rfl,by rw[hv];rfl,?_⟩⟩
  have:=h.cells (g:=g) yEi j u hu
  rwa [add_plain] at this
def QW (Low:Nat)(O:Nat->Prop)(w:World)(a:Option Addr)(ts:List P6):Prop:=∀i (h:i<ts.length),∃b o,a=some ⟨b,o,none⟩/\(O b\/b<Low)/\Uz w b (o+i*4) ts[i]
section
variable {Low:Nat}{w₀ w w':World}{O O':Nat -> Prop}
theorem Uz.ext {b o:Nat}{t:P6}(h:Uz w b o t)(k:CV Low O O' w w')(a:O b\/b<Low):Uz w' b o t:=
 ⟨(k.cell a _).trans h.1,(k.cell a _).trans h.2.1,(k.cell a _).trans h.2.2.1,(k.cell a _).trans h.2.2.2⟩
theorem Uz.held {b o:Nat}{t:P6}(h:Uz w₀ b o t)(k:Held Low w₀ O w)(a:b<Low):Uz w b o t:=
 ⟨(k.down a _).trans h.1,(k.down a _).trans h.2.1,(k.down a _).trans h.2.2.1,(k.down a _).trans h.2.2.2⟩
theorem NOk.devs {m:P6}(h:NOk Low w₀ m):∃a cap,m.av=.slice a m.ds.length cap:=let ⟨a,cap,e,_⟩:=(JK.1 h).1;⟨a,cap,e⟩
theorem NOk.kids {m:P6}(h:NOk Low w₀ m):∃(a:Option Addr) (cap:Nat),m.kv=.slice a m.kids.length cap/\E4 a m.kids.length cap/\(∀t∈m.kids,NOk Low w₀ t)/\
  ∀i (h:i<m.kids.length),∃b o,a=some ⟨b,o,none⟩/\b<Low/\Uz w₀ b (o+i*4) m.kids[i]:=let ⟨_,⟨a,cap,g,f,d⟩,e⟩:=JK.1 h;⟨a,cap,g,f,e,d⟩
end
variable {Low c:Nat}
theorem Z0 (w₀:World)(t:P6)(S:NOk Low w₀ t)(ad:t.ds.length<=1048576)(aj:t.kids.length<=1048576):∃C:List P6,C.map P6.net=Bh t.net/\(∀x∈C,NOk Low w₀ x)/\∀g O w,Held Low w₀ O w->
  Jg prog (okS prog Low c) 111 #[.agg #[.int .i64 t.kind, .int .i64 t.op,t.av,t.kv]] g O w λv U O' w'=>U=g/\(∃a cap,v=.slice a C.length cap/\QW Low O' w' a C)/\CV Low O O' w w'/\Held Low w₀ O' w':=by
 obtain⟨s,r,V⟩:=S.devs;obtain⟨j,l,R,ah,ag,ac⟩:=S.kids;have J:=t.net_eq;obtain⟨n,rfl⟩:∃n,n=t:=⟨_,rfl⟩
 rw[V,R];have Z:Hid (Ai n.net=((n.kind==0 && (n.op==0 && n.ds.length==0)) && n.kids.length==0)):=by
  show _=_
  rw[J];unfold Ai;simp only[Bool.and_assoc,CP]
 have F:Hid (Bh n.net=if Ai n.net then [] else if n.kind=2 then n.kids.map P6.net else [n.net]):=by
  show _=_
  unfold Bh;rw[J]
 clear J ah
 have B:Hid (∀g O W,Held Low w₀ O W->Jg prog (okS prog Low c) 105 #[.agg #[.int .i64 n.kind, .int .i64 n.op, .slice s n.ds.length r, .slice j n.kids.length l]] g O W
   λv U O' w'=>v=.bool (Ai n.net)/\U=g/\CV Low O O' W w'/\Held Low w₀ O' w'):=λg O W h=>by rw[Z.out];exact Zs _ _ _ _ _ _ _ _ ad aj w₀ g O W h
 obtain⟨H,aa⟩:∃H,H=Ai n.net:=⟨_,rfl⟩
 rw[<-aa] at B F;have ai:Hid (n.av=.slice s n.ds.length r):=V;have ae:Hid (n.kv=.slice j n.kids.length l):=R;clear aa Z V R;have M:=resultsC_tmp (P:=prog) (fn:=Tryz.f111) rfl;cases H with
 | true=>
  refine⟨[],by rw[F.out];rfl,AW,λg O w hF=>?_⟩;refine Hf func111 A0 rfl ?_;simp only[ntmps111,CS,CC,CM,Nat.reduceAdd,Nat.reduceSub,DF,DG,DJ,DI,C3,CY];refine Jl (Aw _ _ _) ?_
  (refine Fq (Aw _ _ _) ?_;simp only[CS,CC,CM,Nat.reduceAdd,Cd,List.range,List.range.loop])
  refine kB hF #[.int .i64 n.kind, .int .i64 n.op, .slice s n.ds.length r, .slice j n.kids.length l] 54 λO1 W1 b1 y A q ab d=>?_
  try walk_nrm
  have _Y:=cs4 d;refine kW ?_;clear _Y
  (refine Gm (Aw _ _ _) rfl A0 rfl (B _ _ _ A) BJ ?_;rintro _ _ O2 W2 ⟨rfl,rfl,m,u⟩;try walk_nrm)
  refine kW ?_;exact⟨rfl,_,M _,rfl,⟨none,0,rfl,λi hi=>by simp at hi⟩,y.trans m,u⟩
 | false=>
  by_cases h2:n.kind=2
  .refine⟨n.kids,by rw[F.out];simp[h2],ag,λg O w hF=>?_⟩
   rw[h2] at B ⊢;refine Hf func111 A0 rfl ?_;simp only[ntmps111,CS,CC,CM,Nat.reduceAdd,Nat.reduceSub,DF,DG,DJ,DI,C3,CY];refine Jl (Aw _ _ _) ?_
   (refine Fq (Aw _ _ _) ?_;simp only[CS,CC,CM,Nat.reduceAdd,Cd,List.range,List.range.loop])
   refine kB hF #[.int .i64 2, .int .i64 n.op, .slice s n.ds.length r, .slice j n.kids.length l] 54 λO1 W1 b1 y A q ab d=>?_
   try walk_nrm
   have _Y:=cs4 d;refine kW ?_;clear _Y
   (refine Gm (Aw _ _ _) rfl A0 rfl (B _ _ _ A) BJ ?_;rintro _ _ O2 W2 ⟨rfl,rfl,m,u⟩;try walk_nrm)
   replace d:=G1 d m q;replace q:=m.own _ q;have _Y:=cs4 d;refine kW ?_;clear _Y;refine⟨rfl,_,M _,rfl,⟨j,l,rfl,λi hi=>?_⟩,y.trans m,u⟩;obtain⟨b,o,ha,X,hc⟩:=ac i hi;exact⟨b,o,ha, .inr X,hc.held u X⟩
  .refine⟨[n],by rw[F.out];simp[h2],λx hx=>by rw[List.mem_singleton.1 hx];exact S,λg O w hF=>?_⟩
   have ak:(n.kind==2)=false:=by rw[CJ];exact h2
   clear ac;refine Hf func111 A0 rfl ?_;simp only[ntmps111,CS,CC,CM,Nat.reduceAdd,Nat.reduceSub,DF,DG,DJ,DI,C3,CY];refine Jl (Aw _ _ _) ?_
   (refine Fq (Aw _ _ _) ?_;simp only[CS,CC,CM,Nat.reduceAdd,Cd,List.range,List.range.loop])
   refine kB hF #[.int .i64 n.kind, .int .i64 n.op, .slice s n.ds.length r, .slice j n.kids.length l] 54 λO1 W1 b1 y A q ab d=>?_
   try walk_nrm
   have _Y:=cs4 d;refine kW ?_;clear _Y
   (refine Gm (Aw _ _ _) rfl A0 rfl (B _ _ _ A) BJ ?_;rintro _ _ O2 W2 ⟨rfl,rfl,m,u⟩;try walk_nrm)
   replace d:=G1 d m q;replace q:=m.own _ q;have _Y:=cs4 d;refine kW ?_;clear _Y;refine Ld (Aw _ _ _) rfl A0 ?_ ?_
   .intro _;simp[go_sem];done
   intro w₁ hR K hK;go_simp;refine hK _ _ ?_;clear hK K;obtain⟨O3,eO,L,I,N,Y,D⟩:=boxed u hR #[.int .i64 n.kind, .int .i64 n.op, .slice s n.ds.length r, .slice j n.kids.length l] 54;rw[<-eO];clear eO
   revert L I N Y D
   generalize w₁.alloc (.cells #[.int .i64 n.kind, .int .i64 n.op, .slice s n.ds.length r, .slice j n.kids.length l] 54)=W3;generalize w₁.heap.size=b3;intro L I N Y D;have E:Hid (∀W,Keep Low O3 W3 W->∀ii,W.cell? ⟨b3,ii,none⟩=(#[.int .i64 n.kind, .int .i64 n.op, .slice s n.ds.length r, .slice j n.kids.length l]:Array Value)[ii]?):=D;clear D hR w₁;try walk_nrm
   refine kW ?_;refine⟨rfl,_,M _,rfl,⟨some ⟨b3,0,none⟩,1,rfl,λi hi=>?_⟩,(y.trans m).trans L,I⟩;have af:i=0:=by simp at hi;exact hi
   subst af;refine⟨b3,0,rfl, .inl N,E _ (Keep.refl _ _ _) 0,E _ (Keep.refl _ _ _) 1,?_,?_⟩
   .rw[show([n]:List P6)[0].av=_ from ai.out];exact E _ (Keep.refl _ _ _) 2
   .rw[show([n]:List P6)[0].kv=_ from ae.out];exact E _ (Keep.refl _ _ _) 3
variable {Low c:Nat}
def II (Low c:Nat)(w₀:World)(t:P6)(vs:List MI):Prop:=∀rest O w,Held Low w₀ O w->
 Jg prog (okS prog Low c) 112 #[.chan (some c), .agg #[.int .i64 t.kind, .int .i64 t.op,t.av,t.kv]] (vs.map MI.val++rest) O w λ_ a O' w'=>a=rest/\CV Low O O' w w'/\Held Low w₀ O' w'
def FT (k:Int)(t:P6)(vs:List MI):List MI:=if t.kind=1 then [⟨k,⟨t.op,t.ds,t.av⟩⟩] else vs++[mi0 (k+2)]
theorem zj0 {p:Prop}(h:p:=by
 refine kW ?_
 exact⟨_,_,rfl,by first | rfl | trivial,by first | rfl | trivial,by first | rfl | trivial⟩):p:=h
theorem QG (w₀:World)(k:Int)(hk:k=2\/k=3)(ts:List P6)(f:P6->List MI)(hts:∀t∈ts,NOk Low w₀ t)(hB:∀t∈ts,t.kind≠1->II Low c w₀ t (f t))(hl:ts.length<=1048576)(rest:List Value)(O:Nat->Prop)(w:World)(hF:Held Low w₀ O w)(a:Option Addr)(cap:Nat)(hr:QW Low O w a ts):
  Jg prog (okS prog Low c) 142 #[.chan (some c), .int .i64 k, .slice a ts.length cap] ((ts.map λt=>(FT k t (f t)).map MI.val).flatten++rest) O w λ_ H O' w'=>H=rest/\CV Low O O' w w'/\Held Low w₀ O' w':=by
 have az:=resultsC_none (P:=prog) (fn:=Tryz.f142) rfl;refine Hf func142 A0 rfl ?_;simp only[ntmps142,CS,CC,CM,Nat.reduceAdd,Nat.reduceSub,DF,DG,DJ,DI,C3,CY];refine kW ?_;refine cI (λU H O' w'=>∃Y T,U=⟨#[.chan (some c), .int .i64 k, .slice a ts.length cap,undef,undef,undef, .int .i64 k, .int .i64 (k+2),undef,undef,Y,T,undef,undef,undef,undef,undef,undef,undef,undef,undef,undef,undef,undef,undef,undef,undef,undef,undef,undef,undef,undef,undef],[]⟩/\H=(ts.map λt=>(FT k t (f t)).map MI.val).flatten++rest/\O=O'/\w=w') ?_ ?_
 .rcases hk with rfl | rfl
  .exact zj0
  .exact zj0
 rintro _ _ _ _ ⟨Y,T,rfl,rfl,rfl,rfl⟩;refine kW ?_
 refine Xp (Aw _ _ _) (λn U H O' w'=>∃(j:Nat) (Z ad aa eY eX jJ ai aj ag al ak au ac ae ar ah an ab ao:Value),j<=ts.length/\n=ts.length - j/\U=⟨#[.chan (some c), .int .i64 k, .slice a ts.length cap,undef,undef,undef, .int .i64 k, .int .i64 (k+2),undef,Z,Y,T, .slice a ts.length cap, .int .i64 ts.length, .int .i64 j,ad,aa,eY,eX,jJ,ai,aj,ag,al,ak,au,ac,ae,ar,ah,an,ab,ao],[]⟩/\
  H=((ts.drop j).map λt=>(FT k t (f t)).map MI.val).flatten++rest/\CV Low O O' w w'/\Held Low w₀ O' w') ts.length ⟨0,undef,undef,undef,undef,undef,undef,undef,undef,undef,undef,undef,undef,undef,undef,undef,undef,undef,undef,undef,DK _,rfl,rfl,rfl,CV.refl _ _ _,hF⟩ ?_
 rintro n _ _ O1 W1 ⟨j,Z,ad,aa,eY,eX,jJ,ai,aj,ag,al,ak,au,ac,ae,ar,ah,an,ab,ao,hj,rfl,rfl,rfl,A,V⟩;dsimp only;by_cases S:j<ts.length
 .have aB:(j:Int)<(ts.length:Int):=by omega
  obtain⟨b,o,rfl,R,y⟩:=hr j S;have X:=CG S;have af:=FZ S;have D:=hts _ X;have M:=hB _ X;rw[af]
  revert y D M
  generalize ts[j]=t;intro y D M;obtain⟨s,v,ax⟩:=D.devs;obtain⟨q,r,aw,_⟩:=D.kids;clear D;obtain⟨n,op,u,av,kv,kids⟩:=t;dsimp only at ax aw M;subst ax aw;replace y:=y.ext A R;have N:=R.imp (A.own b) id;have eH:=Ab (λW (Q:Keep Low O1 W1 W)=>y.ext Q.ext N);clear y af X hr hB hts;have _Y:=eH.out;have _B:=N;simp only[Uz] at _Y;refine kW ?_;clear _Y _B;refine Ld (Aw _ _ _) rfl A0 ?_ ?_
  .intro _;simp[go_sem];done
  intro g hR K hK;go_simp;refine hK _ _ ?_;clear hK K;obtain⟨O2,eO,l,m,i,L,C,B⟩:=KV V hR #[.int .i64 0, .int .i64 0, .slice none 0 0, .slice none 0 0] 54;rw[<-eO];clear eO
  revert l m i L C B
  generalize g.alloc (.cells #[.int .i64 0, .int .i64 0, .slice none 0 0, .slice none 0 0] 54)=W2;generalize g.heap.size=b2;intro l m i L C B;replace l:=A.trans l;replace C :=λx hx=>C x (A.own x hx)
  clear hR g;try walk_nrm
  refine Wx (Aw _ _ _) b2 i rfl A0 ?_ ?_
  .intro g hR e he
   have d:=(hR.mine _ i).trans B;have y0:g.cell? ⟨b2,0,none⟩=some (.int .i64 0):=cell_of_heap d 0;have z0:=frozen_of_heap d 0;have y1:g.cell? ⟨b2,1,none⟩=some (.int .i64 0):=cell_of_heap d 1;have z1:=frozen_of_heap d 1;have y2:g.cell? ⟨b2,2,none⟩=some (.slice none 0 0):=cell_of_heap d 2;have z2:=frozen_of_heap d 2;have y3:g.cell? ⟨b2,3,none⟩=some (.slice none 0 0):=cell_of_heap d 3;have z3:=frozen_of_heap d 3;clear d;simp[go_sem,events_store_slice,storedEv, *] at he
   (first | (subst he;exact⟨_,_,rfl, .inl i⟩) | (rcases he with rfl | rfl<;>exact⟨_,_,rfl, .inl i⟩) | (rcases he with rfl | rfl | rfl | rfl<;>exact⟨_,_,rfl, .inl i⟩) | (rcases he with rfl | rfl | rfl | rfl | rfl | rfl<;>exact⟨_,_,rfl, .inl i⟩))
  intro g hR K hK;have d:=(hR.mine _ i).trans B;have y0:g.cell? ⟨b2,0,none⟩=some (.int .i64 0):=cell_of_heap d 0;have z0:=frozen_of_heap d 0;have y1:g.cell? ⟨b2,1,none⟩=some (.int .i64 0):=cell_of_heap d 1;have z1:=frozen_of_heap d 1;have y2:g.cell? ⟨b2,2,none⟩=some (.slice none 0 0):=cell_of_heap d 2;have z2:=frozen_of_heap d 2;have y3:g.cell? ⟨b2,3,none⟩=some (.slice none 0 0):=cell_of_heap d 3;have z3:=frozen_of_heap d 3;clear d;go_simp;try (unfold stored;go_simp)
  have d:=(hR.mine _ i).trans B;have J:EH b2 g ((((g.setCell ⟨b2,0,none⟩ (.int .i64 n)).setCell ⟨b2,1,none⟩ (.int .i64 op)).setCell ⟨b2,2,none⟩ (.slice s u.length v)).setCell ⟨b2,3,none⟩ (.slice q kids.length r)):=(((((EH.refl _ _).set 0 (.int .i64 n)).set 1 (.int .i64 op)).set 2 (.slice s u.length v)).set 3 (.slice q kids.length r))
  have I:((((g.setCell ⟨b2,0,none⟩ (.int .i64 n)).setCell ⟨b2,1,none⟩ (.int .i64 op)).setCell ⟨b2,2,none⟩ (.slice s u.length v)).setCell ⟨b2,3,none⟩ (.slice q kids.length r)).heap[b2]?=some (.cells #[.int .i64 n, .int .i64 op, .slice s u.length v, .slice q kids.length r] 54):=(heap_setCell (heap_setCell (heap_setCell (heap_setCell d 0 (.int .i64 n)) 1 (.int .i64 op)) 2 (.slice s u.length v)) 3 (.slice q kids.length r))
  refine hK _ _ J ?_;clear hK K d y0 z0 y1 z1 y2 z2 y3 z3 B;replace l:=(l.rely hR).put J L C;replace m:=(m.rely hR).put J L
  revert l m I
  clear J hR;generalize ((((g.setCell ⟨b2,0,none⟩ (.int .i64 n)).setCell ⟨b2,1,none⟩ (.int .i64 op)).setCell ⟨b2,2,none⟩ (.slice s u.length v)).setCell ⟨b2,3,none⟩ (.slice q kids.length r))=W2;intro I l m;have ap:Hid (∀W,Keep Low O2 W2 W->∀E,W.cell? ⟨b2,E,none⟩=(#[.int .i64 n, .int .i64 op, .slice s u.length v, .slice q kids.length r]:Array Value)[E]?):=λW Q E=>(Q.ext.cell (.inl i) E).trans (cell_of_heap I E)
  clear I;try walk_nrm
  have wX:IntKind.i64.wrap ((j:Int)+1)=((j+1:Nat):Int):=by rw[IntKind.wrap_i64];omega
  clear N A V R eH;by_cases F:n=1
  .have e1:(n==1)=true:=by rw[D3];exact F
   rw[DV,FT,if_pos F,CN,EB,MI.val,CY,C3,CY];have _Y:=cs4 ap;refine kW ?_;clear _Y;exact⟨ts.length - (j+1),AU,j+1,_,_,_,_,_,_,_,_,_,_,_,_,_,_,_,_,_,_,_,AU,rfl,rfl,rfl,l,m⟩
  .have e1:(n==1)=false:=by rw[CJ];exact F
   have jG:=M F;rw[DV,FT,if_neg F,CX,CN,EB,C6,C6,CY,C3];have _Y:=cs4 ap;refine kW ?_;clear _Y
   (refine Gm (Aw _ _ _) rfl A0 rfl (jG _ _ _ m) BJ ?_;rintro _ _ O3 W3 ⟨rfl,dZ,ay⟩;try walk_nrm)
   simp only[MI.val,mi0];refine kW ?_;exact⟨ts.length - (j+1),AU,j+1,_,_,_,_,_,_,_,_,_,_,_,_,_,_,_,_,_,_,_,AU,rfl,rfl,rfl,l.trans dZ,ay⟩
 .have aA:¬(j:Int)<(ts.length:Int):=by omega
  have hd:ts.drop j=[]:=RG AU;rw[hd];refine kW ?_;exact⟨rfl,_,az _,rfl,A,V⟩
