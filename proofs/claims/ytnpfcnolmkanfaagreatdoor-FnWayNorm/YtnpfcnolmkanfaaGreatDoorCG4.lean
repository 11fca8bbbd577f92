import Derived.Test.YtnpfcnolmkanfaaGreatDoorCE3b
import Derived.Test.YtnpfcnolmkanfaaGreatDoorM57
import Derived.Test.YtnpfcnolmkanfaaGreatDoorCI3
import Derived.Test.YtnpfcnolmkanfaaGreatDoorCE6
import Derived.Test.YtnpfcnolmkanfaaGreatDoorG4
import Derived.Test.YtnpfcnolmkanfaaGreatDoorGy
namespace Go.Proofs.YtnpfcnolmkanfaaGreatDoor
open Tryz
open Stil
open Go.RowKit Go.Sort Go.BigFrame Go.Conc Go.Co
variable {Low c : Nat}
theorem Hu {τ:Type}{P:Program}{ok:τ->(Nat->Prop)->World->Goroutine->Prop}{f:FuncId}{F:Func}{a:Code}{args:Array Value}{x:τ}{O:Nat->Prop}{w:World}{Post:Value->τ->(Nat->Prop)->World->Prop}
  (b:P.funcs[f]?=some F) (e:(F.name== "runtime.NumGoroutine")=false) (d:F.body=some a) (h:WpK ok f a (Al4 P F Post) {tmps:=args++Array.replicate (F.ntmps - args.size) undef,defers:=[]} x O w):Lc P ok f args x O w Post:=⟨F,a,b,e,d,h⟩
def v0 (c:Int):Value:=.agg #[.int .i64 c, .int .i64 0, .slice none 0 0]
set_option maxRecDepth 100000 in
set_option maxHeartbeats 1000000 in
theorem A48 (n i:Nat)(hi:i<n)(r:n<=1000000)(vs:List Value)(O:Nat->Prop)(w:World):
  Lc prog (okS prog Low c) 92 #[.chan (some c), .int .i64 i, .int .i64 n] ((Ia n i).map (λx=>v0 x.code)++vs) O w λ_ q O' w'=>q=vs/\O'=O/\w'=w:=by
 have d:=resultsC_none (P:=prog) (fn:=Tryz.f92) rfl;by_cases b:n=1
 ·have o:((n:Int)==1)=true:=by simp[b]
  have a:Ia n i=[]:=by simp[Ia,b]
  rw[a,A66,A6t];clear a;refine Hu func92 rrz rfl ?_;simp only[ntmps92,A55,A53,A54,Nat.reduceAdd,Nat.reduceSub,A6v,A6w,A61,A6y,A6t,A6s];refine kW ?_;exact⟨rfl,_,d _,rfl,rfl,rfl⟩
 have o:((n:Int)==1)=false:=by rw[A64];omega
 by_cases g:i=0
 ·have m:((i:Int)==0)=true:=by simp[g]
  have a:Ia n i=[Tz 7]:=by simp[Ia,b,g]
  rw[a,A6k,A66,A6s,A6t];clear a;simp only[v0,Tz];refine Hu func92 rrz rfl ?_;simp only[ntmps92,A55,A53,A54,Nat.reduceAdd,Nat.reduceSub,A6v,A6w,A61,A6y,A6t,A6s];refine kW ?_;exact⟨rfl,_,d _,rfl,rfl,rfl⟩
 have m:((i:Int)==0)=false:=by rw[A64];omega
 have s:IntKind.i64.wrap ((n:Int) - 1)=(n:Int) - 1:=by rw[IntKind.wrap_i64];omega
 by_cases j:i+1=n
 ·have l:((i:Int)==(n:Int) - 1)=true:=by rw[A8h];omega
  have a:Ia n i=[Tz 9]:=by simp[Ia,b,g,j]
  rw[a,A6k,A66,A6s,A6t];clear a;simp only[v0,Tz];refine Hu func92 rrz rfl ?_;simp only[ntmps92,A55,A53,A54,Nat.reduceAdd,Nat.reduceSub,A6v,A6w,A61,A6y,A6t,A6s];refine kW ?_;exact⟨rfl,_,d _,rfl,rfl,rfl⟩
 have l:((i:Int)==(n:Int) - 1)=false:=by rw[A64];omega
 have a:Ia n i=[Tz 8]:=by simp[Ia,b,g,j]
 rw[a,A6k,A66,A6s,A6t];clear a;simp only[v0,Tz];refine Hu func92 rrz rfl ?_;simp only[ntmps92,A55,A53,A54,Nat.reduceAdd,Nat.reduceSub,A6v,A6w,A61,A6y,A6t,A6s];refine kW ?_;exact⟨rfl,_,d _,rfl,rfl,rfl⟩
end Go.Proofs.YtnpfcnolmkanfaaGreatDoor
set_option maxHeartbeats 4000000
set_option maxRecDepth 100000
namespace Go.Proofs.YtnpfcnolmkanfaaGreatDoor
open Tryz
open Go.RowKit Go.Sort Go.BigFrame Go.Conc Go.Co
variable {Low c : Nat}
theorem A5u (n:Nat):((n:Int)==0)=(n==0):=by rw[A7e,A8h,A8h];omega
theorem Ayl (op:Int)(a:Option Addr)(d cap:Nat)(_h:d<=1048576)(w₀:World)(vs:List Value)(O:Nat->Prop)(w:World)(hF:Held Low w₀ O w):
  Lc prog (okS prog Low c) 95 #[.agg #[.int .i64 op, .slice a d cap]] vs O w λv u O' w'=>v=.bool (op==0 && d==0)/\u=vs/\Ext Low O O' w w'/\Held Low w₀ O' w':=by
 have n:=resultsC_tmp (P:=prog) (fn:=Tryz.f95) rfl;by_cases m:op=0
 ·subst m
  refine Hu func95 rrz rfl ?_;simp only[ntmps95,A55,A53,A54,Nat.reduceAdd,Nat.reduceSub,A6v,A6w,A61,A6y,A6t,A6s];refine Jz (Bd _ _ _) ?_
  (refine Fa (Bd _ _ _) ?_;simp only[A55,A53,A54,Nat.reduceAdd,A6b,List.range,List.range.loop])
  refine kB hF #[.int .i64 0, .slice a d cap] 40 λO1 W1 q l j r s g=>?_
  try walk_nrm
  have _Y:=cs2 g;refine kW ?_;clear _Y;exact⟨rfl,_,n _,by simp[A5u],rfl,l,j⟩
 ·have h1:(op==0)=false:=by rw[A64];exact m
  refine Hu func95 rrz rfl ?_;simp only[ntmps95,A55,A53,A54,Nat.reduceAdd,Nat.reduceSub,A6v,A6w,A61,A6y,A6t,A6s];refine Jz (Bd _ _ _) ?_
  (refine Fa (Bd _ _ _) ?_;simp only[A55,A53,A54,Nat.reduceAdd,A6b,List.range,List.range.loop])
  refine kB hF #[.int .i64 op, .slice a d cap] 40 λO1 W1 q l j r s g=>?_
  try walk_nrm
  have _Y:=cs2 g;refine kW ?_;clear _Y;exact⟨rfl,_,n _,by simp[h1],rfl,l,j⟩
theorem A05 (k op:Int)(g:Option Addr)(d n:Nat)(u:Option Addr)(m s:Nat)(R:d<=1048576)(_hlk:m<=1048576)(w₀:World)(vs:List Value)(O:Nat->Prop)(w:World)(hF:Held Low w₀ O w):
  Lc prog (okS prog Low c) 69 #[.agg #[.int .i64 k, .int .i64 op, .slice g d n, .slice u m s]] vs O w
   λv B O' w'=>v=.bool ((k==0 && (op==0 && d==0)) && m==0)/\B=vs/\Ext Low O O' w w'/\Held Low w₀ O' w':=by
 have E:=resultsC_tmp (P:=prog) (fn:=Tryz.f69) rfl;by_cases F:k=0
 ·subst F
  have D:Hid (∀O W,Held Low w₀ O W->Lc prog (okS prog Low c) 95 #[.agg #[.int .i64 op, .slice g d n]] vs O W λv B O' w'=>v=.bool (op==0 && d==0)/\B=vs/\Ext Low O O' W w'/\Held Low w₀ O' w'):=λO W h=>Ayl op g d n R w₀ vs O W h
  obtain⟨C,I⟩:∃C,C=(op==0 && d==0):=⟨_,rfl⟩
  rw[<-I] at D ⊢;clear I;refine Hu func69 rrz rfl ?_;simp only[ntmps69,A55,A53,A54,Nat.reduceAdd,Nat.reduceSub,A6v,A6w,A61,A6y,A6t,A6s];refine Jz (Bd _ _ _) ?_
  (refine Fa (Bd _ _ _) ?_;simp only[A55,A53,A54,Nat.reduceAdd,A6b,List.range,List.range.loop])
  refine kB hF #[.int .i64 0, .int .i64 op, .slice g d n, .slice u m s] 43 λO1 W1 J y r q M l=>?_
  try walk_nrm
  have _Y:=cs4 l;refine kW ?_;clear _Y;cases C with
  | false=>
   (refine Gt (Bd _ _ _) rfl rrz rfl (D _ _ r) yBc ?_;rintro _ _ L H ⟨rfl,rfl,j,A⟩;try walk_nrm)
   refine kW ?_;exact⟨rfl,_,E _,spz,rfl,y.trans j,A⟩
  | true=>
   (refine Gt (Bd _ _ _) rfl rrz rfl (D _ _ r) yBc ?_;rintro _ _ L H ⟨rfl,rfl,j,A⟩;try walk_nrm)
   replace l:Hid (∀W,Keep Low L H W->∀k,W.cell? ⟨J,k,none⟩=(#[.int .i64 0, .int .i64 op, .slice g d n, .slice u m s]:Array Value)[k]?):=λW N k=>(N.ext.cell (.inl (j.own _ q)) k).trans ((j.cell (.inl q) k).trans (l _ (Keep.refl _ _ _) k))
   replace q:=j.own _ q;have _Y:=cs4 l;refine kW ?_;clear _Y;exact⟨rfl,_,E _,by simp[A5u],rfl,y.trans j,A⟩
 ·have h1:(k==0)=false:=by rw[A64];exact F
  refine Hu func69 rrz rfl ?_;simp only[ntmps69,A55,A53,A54,Nat.reduceAdd,Nat.reduceSub,A6v,A6w,A61,A6y,A6t,A6s];refine Jz (Bd _ _ _) ?_
  (refine Fa (Bd _ _ _) ?_;simp only[A55,A53,A54,Nat.reduceAdd,A6b,List.range,List.range.loop])
  refine kB hF #[.int .i64 k, .int .i64 op, .slice g d n, .slice u m s] 43 λO1 W1 J y r q M l=>?_
  try walk_nrm
  have _Y:=cs4 l;refine kW ?_;clear _Y;exact⟨rfl,_,E _,by simp[h1],rfl,y,r⟩
open Stil
theorem Q9 {w₀:World}{e:TypeId}{s n:Nat}{v:Value}{xs:List Value}(h:w₀.ownsRow 0 e s v n xs):∃a cap,v=.slice a n cap/\Yo a n cap/\∀j u,xs[j]?=some u->∃b,a=some ⟨b,0,none⟩/\v.ownBlock=some b/\w₀.cell? ⟨b,j,none⟩=some u:=by
 have k:=h.2;rcases k with⟨hv,f⟩ | ⟨g,cap,cur,hv,l,_,i,_⟩
 ·refine⟨none,0,by rw[hv,f],⟨omz,λ_=>rfl⟩,λj u hu=>?_⟩
  have d:=h.1;rw[f,A8a] at d;rw[List.length_eq_zero_iff.1 d] at hu;simp at hu
 ·refine⟨_,cap,hv,⟨i,λe=>by cases e⟩,λj u hu=>⟨g,rfl,by rw[hv];rfl,?_⟩⟩
  have:=h.cells (g:=g) yEc j u hu
  rwa [add_plain] at this
def NOk (Low:Nat)(w₀:World)(m:Aq):Prop:=MOk w₀ 0 m/\∀x∈m.vals,∀k,x.ownBlock=some k->k<Low
def Wn (w:World)(b o:Nat)(t:Aq):Prop:=w.cell? ⟨b,o,none⟩=some (.int .i64 t.kind)/\w.cell? ⟨b,o+1,none⟩=some (.int .i64 t.op)/\w.cell? ⟨b,o+2,none⟩=some t.av/\w.cell? ⟨b,o+3,none⟩=some t.kv
def A5b (Low:Nat)(O:Nat->Prop)(w:World)(a:Option Addr)(d:List Aq):Prop:=∀i (h:i<d.length),∃b o,a=some ⟨b,o,none⟩/\(O b\/b<Low)/\Wn w b (o+i*4) d[i]
section
variable {Low : Nat}{w₀ w w' : World}{O O' : Nat -> Prop}
theorem Wn.ext {b o:Nat}{t:Aq}(h:Wn w b o t)(k:Ext Low O O' w w')(a:O b\/b<Low):Wn w' b o t:=
 ⟨(k.cell a _).trans h.1,(k.cell a _).trans h.2.1,(k.cell a _).trans h.2.2.1,(k.cell a _).trans h.2.2.2⟩
theorem Wn.held {b o:Nat}{t:Aq}(h:Wn w₀ b o t)(k:Held Low w₀ O w)(a:b<Low):Wn w b o t:=
 ⟨(k.down a _).trans h.1,(k.down a _).trans h.2.1,(k.down a _).trans h.2.2.1,(k.down a _).trans h.2.2.2⟩
theorem NOk.devs {m:Aq}(h:NOk Low w₀ m):∃a cap,m.av=.slice a m.ds.length cap:=by
 obtain⟨a,cap,e,_⟩:=Q9 ((Jb _ _ _).1 h.1).1;exact⟨a,cap,e⟩
theorem NOk.kids {m:Aq}(h:NOk Low w₀ m):∃(a:Option Addr) (cap:Nat),m.kv=.slice a m.kids.length cap/\Yo a m.kids.length cap/\(∀t∈m.kids,NOk Low w₀ t)/\
  ∀i (h:i<m.kids.length),∃b o,a=some ⟨b,o,none⟩/\b<Low/\Wn w₀ b (o+i*4) m.kids[i]:=by
 obtain⟨_,f,C⟩:=(Jb _ _ _).1 h.1;obtain⟨a,cap,e,z,d⟩:=Q9 f;refine⟨a,cap,e,z,λt l=>⟨C t l,λx q k f=>h.2 x ?_ k f⟩,λi hi=>?_⟩
 ·rw[Aq.vals_eq]
  exact A56 _ (A56 _ (P5.2 ⟨t,l,q⟩))
 ·obtain⟨s,u,D,r⟩:=Nv m.kids i hi
  obtain⟨b,g,A,B⟩:=d _ _ s;obtain⟨G,n,_,E⟩:=d _ _ u;obtain⟨H,p,_,v⟩:=d _ _ D;obtain⟨F,j,_,y⟩:=d _ _ r;rw[g] at n p j;cases n;cases p;cases j;refine⟨b,0,g,h.2 m.kv (by rw[Aq.vals_eq];simp) b A,?_⟩;unfold Wn;rw[A6b];exact⟨B,E,v,y⟩
end
variable {Low c : Nat}
set_option maxRecDepth 100000 in
set_option maxHeartbeats 2000000 in
theorem A06 (w₀:World)(t:Aq)(M:NOk Low w₀ t)(ah:t.ds.length<=1048576)(ai:t.kids.length<=1048576):∃A:List Aq,A.map Aq.net=Eh t.net/\(∀x∈A,NOk Low w₀ x)/\(Fp A).Sublist t.vals/\∀g O w,Held Low w₀ O w->
  Lc prog (okS prog Low c) 88 #[.agg #[.int .i64 t.kind, .int .i64 t.op,t.av,t.kv]] g O w λv S O' w'=>S=g/\(∃a cap,v=.slice a A.length cap/\A5b Low O' w' a A)/\Ext Low O O' w w'/\Held Low w₀ O' w':=by
 obtain⟨r,u,U⟩:=M.devs;obtain⟨m,q,N,aj,af,Z⟩:=M.kids;have bW:=t.vals_eq;have H:=t.net_eq;obtain⟨n,rfl⟩:∃n,n=t:=⟨_,rfl⟩
 rw[U,N];have wW:Hid (Ar n.net=((n.kind==0 && (n.op==0 && n.ds.length==0)) && n.kids.length==0)):=by
  show _=_
  rw[H];unfold Ar;simp only[Bool.and_assoc,A6i]
 have D:Hid (Eh n.net=if Ar n.net then [] else if n.kind=2 then n.kids.map Aq.net else [n.net]):=by
  show _=_
  unfold Eh;rw[H]
 clear H aj
 have B:Hid (∀g O W,Held Low w₀ O W->Lc prog (okS prog Low c) 69 #[.agg #[.int .i64 n.kind, .int .i64 n.op, .slice r n.ds.length u, .slice m n.kids.length q]] g O W
   λv S O' w'=>v=.bool (Ar n.net)/\S=g/\Ext Low O O' W w'/\Held Low w₀ O' w'):=λg O W h=>by rw[wW.out];exact A05 _ _ _ _ _ _ _ _ ah ai w₀ g O W h
 obtain⟨L,ab⟩:∃L,L=Ar n.net:=⟨_,rfl⟩
 rw[<-ab] at B D;have ag:=hid U;have ac:=hid N;have fC:=hid bW;clear ab wW U N bW;have V:=resultsC_tmp (P:=prog) (fn:=Tryz.f88) rfl;cases L with
 | true=>
  refine⟨[],by rw[D.out];rfl,spz,List.nil_sublist _,λg O w hF=>?_⟩;refine Hu func88 rrz rfl ?_;simp only[ntmps88,A55,A53,A54,Nat.reduceAdd,Nat.reduceSub,A6v,A6w,A61,A6y,A6t,A6s];refine Jz (Bd _ _ _) ?_
  (refine Fa (Bd _ _ _) ?_;simp only[A55,A53,A54,Nat.reduceAdd,A6b,List.range,List.range.loop])
  refine kB hF #[.int .i64 n.kind, .int .i64 n.op, .slice r n.ds.length u, .slice m n.kids.length q] 43 λO1 W1 X C y l Y d=>?_
  try walk_nrm
  have _Y:=cs4 d;refine kW ?_;clear _Y
  (refine Gt (Bd _ _ _) rfl rrz rfl (B _ _ _ y) yBc ?_;rintro _ _ O2 W2 ⟨rfl,rfl,j,s⟩;try walk_nrm)
  refine kW ?_;exact⟨rfl,_,V _,rfl,⟨none,0,rfl,λi hi=>by simp at hi⟩,C.trans j,s⟩
 | false=>
  by_cases h2:n.kind=2
  ·refine⟨n.kids,by rw[D.out];simp[h2],af,by rw[fC.out];exact((A7m _).cons _).cons _,λg O w hF=>?_⟩
   rw[h2] at B ⊢;refine Hu func88 rrz rfl ?_;simp only[ntmps88,A55,A53,A54,Nat.reduceAdd,Nat.reduceSub,A6v,A6w,A61,A6y,A6t,A6s];refine Jz (Bd _ _ _) ?_
   (refine Fa (Bd _ _ _) ?_;simp only[A55,A53,A54,Nat.reduceAdd,A6b,List.range,List.range.loop])
   refine kB hF #[.int .i64 2, .int .i64 n.op, .slice r n.ds.length u, .slice m n.kids.length q] 43 λO1 W1 X C y l Y d=>?_
   try walk_nrm
   have _Y:=cs4 d;refine kW ?_;clear _Y
   (refine Gt (Bd _ _ _) rfl rrz rfl (B _ _ _ y) yBc ?_;rintro _ _ O2 W2 ⟨rfl,rfl,j,s⟩;try walk_nrm)
   replace d:=Aid d j l;replace l:=j.own _ l;have _Y:=cs4 d;refine kW ?_;clear _Y;refine⟨rfl,_,V _,rfl,⟨m,q,rfl,λi hi=>?_⟩,C.trans j,s⟩;obtain⟨b,o,ha,hb,hc⟩:=Z i hi;exact⟨b,o,ha, .inr hb,hc.held s hb⟩
  ·refine⟨[n],by rw[D.out];simp[h2],λx hx=>by rw[List.mem_singleton.1 hx];exact M,by rw[Kt];exact A7m _,λg O w hF=>?_⟩
   have ak:(n.kind==2)=false:=by rw[A64];exact h2
   clear Z;refine Hu func88 rrz rfl ?_;simp only[ntmps88,A55,A53,A54,Nat.reduceAdd,Nat.reduceSub,A6v,A6w,A61,A6y,A6t,A6s];refine Jz (Bd _ _ _) ?_
   (refine Fa (Bd _ _ _) ?_;simp only[A55,A53,A54,Nat.reduceAdd,A6b,List.range,List.range.loop])
   refine kB hF #[.int .i64 n.kind, .int .i64 n.op, .slice r n.ds.length u, .slice m n.kids.length q] 43 λO1 W1 X C y l Y d=>?_
   try walk_nrm
   have _Y:=cs4 d;refine kW ?_;clear _Y
   (refine Gt (Bd _ _ _) rfl rrz rfl (B _ _ _ y) yBc ?_;rintro _ _ O2 W2 ⟨rfl,rfl,j,s⟩;try walk_nrm)
   replace d:=Aid d j l;replace l:=j.own _ l;have _Y:=cs4 d;refine kW ?_;clear _Y;refine Md (Bd _ _ _) rfl rrz ?_ ?_
   ·intro _;simp[go_sem];done
   intro w₁ hR K hK;go_simp;refine hK _ _ ?_;clear hK K;obtain⟨O3,eO,R,J,I,aa,E⟩:=boxed s hR #[.int .i64 n.kind, .int .i64 n.op, .slice r n.ds.length u, .slice m n.kids.length q] 43;rw[<-eO];clear eO
   revert R J I aa E
   generalize w₁.alloc (.cells #[.int .i64 n.kind, .int .i64 n.op, .slice r n.ds.length u, .slice m n.kids.length q] 43)=W3;generalize w₁.heap.size=b3;intro R J I aa E;have F:=hid E;clear E hR w₁;try walk_nrm
   refine kW ?_;refine⟨rfl,_,V _,rfl,⟨some ⟨b3,0,none⟩,1,rfl,λi hi=>?_⟩,(C.trans j).trans R,J⟩;have ae:i=0:=by simp at hi;exact hi
   subst ae;refine⟨b3,0,rfl, .inl I,F _ (Keep.refl _ _ _) 0,F _ (Keep.refl _ _ _) 1,?_,?_⟩
   ·rw[show([n]:List Aq)[0].av=_ from ag.out];exact F _ (Keep.refl _ _ _) 2
   ·rw[show([n]:List Aq)[0].kv=_ from ac.out];exact F _ (Keep.refl _ _ _) 3
variable {Low c : Nat}
def Afk (Low c:Nat)(w₀:World)(t:Aq)(vs:List MI):Prop:=∀rest O w,Held Low w₀ O w->
 Lc prog (okS prog Low c) 63 #[.chan (some c), .agg #[.int .i64 t.kind, .int .i64 t.op,t.av,t.kv]] (vs.map MI.val++rest) O w λ_ a O' w'=>a=rest/\Ext Low O O' w w'/\Held Low w₀ O' w'
def Adm (k:Int)(t:Aq)(vs:List MI):List MI:=if t.kind=1 then [⟨k,⟨t.op,t.ds,t.av⟩⟩] else vs++[mi0 (k+2)]
theorem zx0 {p:Prop}(h:p:=by
 refine kW ?_
 exact⟨_,_,rfl,by first | rfl | trivial,by first | rfl | trivial,by first | rfl | trivial⟩):p:=h
set_option maxRecDepth 100000 in
set_option maxHeartbeats 2000000 in
theorem A17 (w₀:World)(k:Int)(hk:k=2\/k=3)(d:List Aq)(f:Aq->List MI)(ak:∀t∈d,NOk Low w₀ t)(hB:∀t∈d,t.kind≠1->Afk Low c w₀ t (f t))(hl:d.length<=1048576)(rest:List Value)(O:Nat->Prop)(w:World)(hF:Held Low w₀ O w)(a:Option Addr)(cap:Nat)(hr:A5b Low O w a d):
  Lc prog (okS prog Low c) 91 #[.chan (some c), .int .i64 k, .slice a d.length cap] ((d.map λt=>(Adm k t (f t)).map MI.val).flatten++rest) O w λ_ E O' w'=>E=rest/\Ext Low O O' w w'/\Held Low w₀ O' w':=by
 have aB:=resultsC_none (P:=prog) (fn:=Tryz.f91) rfl;refine Hu func91 rrz rfl ?_;simp only[ntmps91,A55,A53,A54,Nat.reduceAdd,Nat.reduceSub,A6v,A6w,A61,A6y,A6t,A6s];refine kW ?_;refine A2e (λS E O' w'=>∃Y V,S=⟨#[.chan (some c), .int .i64 k, .slice a d.length cap,undef,undef,undef, .int .i64 k, .int .i64 (k+2),undef,undef,Y,V,undef,undef,undef,undef,undef,undef,undef,undef,undef,undef,undef,undef,undef,undef,undef,undef,undef,undef,undef,undef,undef],[]⟩/\E=(d.map λt=>(Adm k t (f t)).map MI.val).flatten++rest/\O=O'/\w=w') ?_ ?_
 ·rcases hk with rfl | rfl
  ·exact zx0
  ·exact zx0
 rintro _ _ _ _ ⟨Y,V,rfl,rfl,rfl,rfl⟩;refine kW ?_
 refine Xv (Bd _ _ _) (λn S E O' w'=>∃(j:Nat) (u9 az ag jW jV pU ae aa ab ac au ah an af aw ai ap al ar:Value),j<=d.length/\n=d.length - j/\S=⟨#[.chan (some c), .int .i64 k, .slice a d.length cap,undef,undef,undef, .int .i64 k, .int .i64 (k+2),undef,u9,Y,V, .slice a d.length cap, .int .i64 d.length, .int .i64 j,az,ag,jW,jV,pU,ae,aa,ab,ac,au,ah,an,af,aw,ai,ap,al,ar],[]⟩/\
  E=((d.drop j).map λt=>(Adm k t (f t)).map MI.val).flatten++rest/\Ext Low O O' w w'/\Held Low w₀ O' w') d.length ⟨0,undef,undef,undef,undef,undef,undef,undef,undef,undef,undef,undef,undef,undef,undef,undef,undef,undef,undef,undef,A7l _,rfl,rfl,rfl,Ext.refl _ _ _,hF⟩ ?_
 rintro n _ _ O1 W1 ⟨j,u9,az,ag,jW,jV,pU,ae,aa,ab,ac,au,ah,an,af,aw,ai,ap,al,ar,hj,rfl,rfl,rfl,C,T⟩;dsimp only;by_cases R:j<d.length
 ·have aD:(j:Int)<(d.length:Int):=by omega
  obtain⟨b,o,rfl,Z,A⟩:=hr j R;have X:=A59 R;have ao:=A7p R;have D:=ak _ X;have M:=hB _ X;rw[ao]
  revert A D M
  generalize d[j]=t;intro A D M;obtain⟨r,u,ay⟩:=D.devs;obtain⟨y,v,ax,_⟩:=D.kids;clear D;obtain⟨n,op,s,av,kv,kids⟩:=t;dsimp only at ay ax M;subst ay ax;replace A:=A.ext C Z;have U:=Z.imp (C.own b) id;have iG:=hid (λW (Q:Keep Low O1 W1 W)=>A.ext Q.ext U);clear A ao X hr hB ak;have _Y:=iG.out;have _B:=U;simp only[Wn] at _Y;refine kW ?_;clear _Y _B;refine Md (Bd _ _ _) rfl rrz ?_ ?_
  ·intro _;simp[go_sem];done
  intro i hR K hK;go_simp;refine hK _ _ ?_;clear hK K;obtain⟨O2,eO,m,q,l,J,H,B⟩:=Al3 T hR #[.int .i64 0, .int .i64 0, .slice none 0 0, .slice none 0 0] 43;rw[<-eO];clear eO
  revert m q l J H B
  generalize i.alloc (.cells #[.int .i64 0, .int .i64 0, .slice none 0 0, .slice none 0 0] 43)=W2;generalize i.heap.size=b2;intro m q l J H B;replace m:=C.trans m;replace H :=λx hx=>H x (C.own x hx)
  clear hR i;try walk_nrm
  refine Xa (Bd _ _ _) b2 l rfl rrz ?_ ?_
  ·intro i hR e he
   have g:=(hR.mine _ l).trans B;have y0:i.cell? ⟨b2,0,none⟩=some (.int .i64 0):=cell_of_heap g 0;have z0:=frozen_of_heap g 0;have y1:i.cell? ⟨b2,1,none⟩=some (.int .i64 0):=cell_of_heap g 1;have z1:=frozen_of_heap g 1;have y2:i.cell? ⟨b2,2,none⟩=some (.slice none 0 0):=cell_of_heap g 2;have z2:=frozen_of_heap g 2;have y3:i.cell? ⟨b2,3,none⟩=some (.slice none 0 0):=cell_of_heap g 3;have z3:=frozen_of_heap g 3;clear g;simp[go_sem,events_store_slice,storedEv, *] at he
   (first | (subst he;exact⟨_,_,rfl, .inl l⟩) | (rcases he with rfl | rfl<;>exact⟨_,_,rfl, .inl l⟩) | (rcases he with rfl | rfl | rfl | rfl<;>exact⟨_,_,rfl, .inl l⟩) | (rcases he with rfl | rfl | rfl | rfl | rfl | rfl<;>exact⟨_,_,rfl, .inl l⟩))
  intro i hR K hK;have g:=(hR.mine _ l).trans B;have y0:i.cell? ⟨b2,0,none⟩=some (.int .i64 0):=cell_of_heap g 0;have z0:=frozen_of_heap g 0;have y1:i.cell? ⟨b2,1,none⟩=some (.int .i64 0):=cell_of_heap g 1;have z1:=frozen_of_heap g 1;have y2:i.cell? ⟨b2,2,none⟩=some (.slice none 0 0):=cell_of_heap g 2;have z2:=frozen_of_heap g 2;have y3:i.cell? ⟨b2,3,none⟩=some (.slice none 0 0):=cell_of_heap g 3;have z3:=frozen_of_heap g 3;clear g;go_simp;try (unfold stored;go_simp)
  have g:=(hR.mine _ l).trans B;have N:Put b2 i ((((i.setCell ⟨b2,0,none⟩ (.int .i64 n)).setCell ⟨b2,1,none⟩ (.int .i64 op)).setCell ⟨b2,2,none⟩ (.slice r s.length u)).setCell ⟨b2,3,none⟩ (.slice y kids.length v)):=(((((Put.refl _ _).set 0 (.int .i64 n)).set 1 (.int .i64 op)).set 2 (.slice r s.length u)).set 3 (.slice y kids.length v))
  have L:((((i.setCell ⟨b2,0,none⟩ (.int .i64 n)).setCell ⟨b2,1,none⟩ (.int .i64 op)).setCell ⟨b2,2,none⟩ (.slice r s.length u)).setCell ⟨b2,3,none⟩ (.slice y kids.length v)).heap[b2]?=some (.cells #[.int .i64 n, .int .i64 op, .slice r s.length u, .slice y kids.length v] 43):=(heap_setCell (heap_setCell (heap_setCell (heap_setCell g 0 (.int .i64 n)) 1 (.int .i64 op)) 2 (.slice r s.length u)) 3 (.slice y kids.length v))
  refine hK _ _ N ?_;clear hK K g y0 z0 y1 z1 y2 z2 y3 z3 B;replace m:=(m.rely hR).put N J H;replace q:=(q.rely hR).put N J
  revert m q L
  clear N hR;generalize ((((i.setCell ⟨b2,0,none⟩ (.int .i64 n)).setCell ⟨b2,1,none⟩ (.int .i64 op)).setCell ⟨b2,2,none⟩ (.slice r s.length u)).setCell ⟨b2,3,none⟩ (.slice y kids.length v))=W2;intro L m q;have aj:Hid (∀W,Keep Low O2 W2 W->∀I,W.cell? ⟨b2,I,none⟩=(#[.int .i64 n, .int .i64 op, .slice r s.length u, .slice y kids.length v]:Array Value)[I]?):=λW Q I=>(Q.ext.cell (.inl l) I).trans (cell_of_heap L I)
  clear L;try walk_nrm
  have qj:IntKind.i64.wrap ((j:Int)+1)=((j+1:Nat):Int):=by rw[IntKind.wrap_i64];omega
  clear U C T Z iG;by_cases F:n=1
  ·have e1:(n==1)=true:=by rw[A8h];exact F
   rw[A7f,Adm,if_pos F,A6k,A66,MI.val,A6s,A6t,A6s];have _Y:=cs4 aj;refine kW ?_;clear _Y;exact⟨d.length - (j+1),omz,j+1,_,_,_,_,_,_,_,_,_,_,_,_,_,_,_,_,_,_,_,omz,rfl,rfl,rfl,m,q⟩
  ·have e1:(n==1)=false:=by rw[A64];exact F
   have mD:=M F;rw[A7f,Adm,if_neg F,A6g,A6k,A66,A6q,A6q,A6s,A6t];have _Y:=cs4 aj;refine kW ?_;clear _Y
   (refine Gt (Bd _ _ _) rfl rrz rfl (mD _ _ _ q) yBc ?_;rintro _ _ O3 W3 ⟨rfl,iE,aA⟩;try walk_nrm)
   simp only[MI.val,mi0];refine kW ?_;exact⟨d.length - (j+1),omz,j+1,_,_,_,_,_,_,_,_,_,_,_,_,_,_,_,_,_,_,_,omz,rfl,rfl,rfl,m.trans iE,aA⟩
 ·have aC:¬(j:Int)<(d.length:Int):=by omega
  have hd:d.drop j=[]:=A80 omz;rw[hd];refine kW ?_;exact⟨rfl,_,aB _,rfl,C,T⟩
end Go.Proofs.YtnpfcnolmkanfaaGreatDoor
