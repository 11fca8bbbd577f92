import Derived.Test.YtifcnfeppdbjdaaGreatDoorS30
import Derived.Test.YtifcnfeppdbjdaaGreatDoorCE6
namespace Go.Proofs.YtifcnfeppdbjdaaGreatDoor
open Tryz Stil Go.RowKit Go.Sort Go.BigFrame Go.Conc Go.Co
variable {Low c : Nat}
theorem Ir {τ:Type}{P:Program}{ok:τ->(Nat->Prop)->World->Goroutine->Prop}{f:FuncId}{F:Func}{a:Code}{args:Array Value}{x:τ}{O:Nat->Prop}{w:World}{Post:Value->τ->(Nat->Prop)->World->Prop}
  (b:P.funcs[f]?=some F) (e:(F.name== "runtime.NumGoroutine")=false) (d:F.body=some a) (h:WpK ok f a (YR P F Post) {tmps:=args++Array.replicate (F.ntmps - args.size) undef,defers:=[]} x O w):Nj P ok f args x O w Post:=⟨F,a,b,e,d,h⟩
def v0 (c:Int):Value:=.agg #[AB c,AB 0,AG]
set_option maxRecDepth 100000 in
set_option maxHeartbeats 1000000 in
theorem mU (n i:Nat)(hi:i<n)(r:n<=1000000)(vs:List Value)(O:Nat->Prop)(w:World):
  Nj prog (okS prog Low c) 119 #[.chan (some c),AB i,AB n] ((Ff n i).map (λx=>v0 x.code)++vs) O w λ_ q O' w'=>q=vs/\O'=O/\w'=w:=by
 have d:=resultsC_none (P:=prog) (fn:=Tryz.f119) rfl;by_cases b:n=1
 ·have l:((n:Int)==1)=true:=by simp[b]
  have a:Ff n i=[]:=by simp[Ff,b]
  rw[a,C3,C5];clear a;refine Ir func119 Ao rfl ?_;simp only[ntmps119,Cd,CH,CO,Nat.reduceAdd,Nat.reduceSub,DN,DO,DL,DR,C5,C4];refine kW ?_;exact⟨rfl,_,d _,rfl,rfl,rfl⟩
 have l:((n:Int)==1)=false:=by rw[CS];omega
 by_cases g:i=0
 ·have o:((i:Int)==0)=true:=by simp[g]
  have a:Ff n i=[I9 7]:=by simp[Ff,b,g]
  rw[a,CP,C3,C4,C5];clear a;simp only[v0,I9];refine Ir func119 Ao rfl ?_;simp only[ntmps119,Cd,CH,CO,Nat.reduceAdd,Nat.reduceSub,DN,DO,DL,DR,C5,C4];refine kW ?_;exact⟨rfl,_,d _,rfl,rfl,rfl⟩
 have o:((i:Int)==0)=false:=by rw[CS];omega
 have s:IntKind.i64.wrap ((n:Int) - 1)=(n:Int) - 1:=by rw[IntKind.wrap_i64];omega
 by_cases j:i+1=n
 ·have m:((i:Int)==(n:Int) - 1)=true:=by rw[EC];omega
  have a:Ff n i=[I9 9]:=by simp[Ff,b,g,j]
  rw[a,CP,C3,C4,C5];clear a;simp only[v0,I9];refine Ir func119 Ao rfl ?_;simp only[ntmps119,Cd,CH,CO,Nat.reduceAdd,Nat.reduceSub,DN,DO,DL,DR,C5,C4];refine kW ?_;exact⟨rfl,_,d _,rfl,rfl,rfl⟩
 have m:((i:Int)==(n:Int) - 1)=false:=by rw[CS];omega
 have a:Ff n i=[I9 8]:=by simp[Ff,b,g,j]
 rw[a,CP,C3,C4,C5];clear a;simp only[v0,I9];refine Ir func119 Ao rfl ?_;simp only[ntmps119,Cd,CH,CO,Nat.reduceAdd,Nat.reduceSub,DN,DO,DL,DR,C5,C4];refine kW ?_;exact⟨rfl,_,d _,rfl,rfl,rfl⟩
end Go.Proofs.YtifcnfeppdbjdaaGreatDoor
set_option maxHeartbeats 4000000
set_option maxRecDepth 100000
namespace Go.Proofs.YtifcnfeppdbjdaaGreatDoor
open Tryz Go.RowKit Go.Sort Go.BigFrame Go.Conc Go.Co
variable {Low c : Nat}
theorem S7 (n:Nat):((n:Int)==0)=(n==0):=by rw[DY,EC,EC];omega
theorem eV (op:Int)(a:Option Addr)(d cap:Nat)(_h:d<=1048576)(w₀:World)(vs:List Value)(O:Nat->Prop)(w:World)(hF:Held Low w₀ O w):
  Nj prog (okS prog Low c) 122 #[.agg #[AB op,AE a d cap]] vs O w λv u O' w'=>v=.bool (op==0 && d==0)/\u=vs/\C0 Low O O' w w'/\Held Low w₀ O' w':=by
 have m:=resultsC_tmp (P:=prog) (fn:=Tryz.f122) rfl;by_cases n:op=0
 ·subst n
  refine Ir func122 Ao rfl ?_;simp only[ntmps122,Cd,CH,CO,Nat.reduceAdd,Nat.reduceSub,DN,DO,DL,DR,C5,C4];refine Le (Ba _ _ _) ?_
  (refine Gp (Ba _ _ _) ?_;simp only[Cd,CH,CO,Nat.reduceAdd,CV,List.range,List.range.loop])
  refine kB hF #[AB 0,AE a d cap] 51 λO1 W1 r l j s q g=>?_
  try walk_nrm
  have _Y:=cs2 g;refine kW ?_;clear _Y;exact⟨rfl,_,m _,by simp[S7],rfl,l,j⟩
 ·have h1:(op==0)=false:=by rw[CS];exact n
  refine Ir func122 Ao rfl ?_;simp only[ntmps122,Cd,CH,CO,Nat.reduceAdd,Nat.reduceSub,DN,DO,DL,DR,C5,C4];refine Le (Ba _ _ _) ?_
  (refine Gp (Ba _ _ _) ?_;simp only[Cd,CH,CO,Nat.reduceAdd,CV,List.range,List.range.loop])
  refine kB hF #[AB op,AE a d cap] 51 λO1 W1 r l j s q g=>?_
  try walk_nrm
  have _Y:=cs2 g;refine kW ?_;clear _Y;exact⟨rfl,_,m _,by simp[h1],rfl,l,j⟩
theorem i1 (k op:Int)(g:Option Addr)(d j:Nat)(r:Option Addr)(n y:Nat)(N:d<=1048576)(_hlk:n<=1048576)(w₀:World)(vs:List Value)(O:Nat->Prop)(w:World)(hF:Held Low w₀ O w):
  Nj prog (okS prog Low c) 83 #[.agg #[AB k,AB op,AE g d j,AE r n y]] vs O w
   λv C O' w'=>v=.bool ((k==0 && (op==0 && d==0)) && n==0)/\C=vs/\C0 Low O O' w w'/\Held Low w₀ O' w':=by
 have D:=resultsC_tmp (P:=prog) (fn:=Tryz.f83) rfl;by_cases H:k=0
 ·subst H
  have E:Hid (∀O W,Held Low w₀ O W->Nj prog (okS prog Low c) 122 #[.agg #[AB op,AE g d j]] vs O W λv C O' w'=>v=.bool (op==0 && d==0)/\C=vs/\C0 Low O O' W w'/\Held Low w₀ O' w'):=λO W h=>eV op g d j N w₀ vs O W h
  obtain⟨B,I⟩:=AA ((op==0 && d==0))
  rw[<-I] at E ⊢;clear I;refine Ir func83 Ao rfl ?_;simp only[ntmps83,Cd,CH,CO,Nat.reduceAdd,Nat.reduceSub,DN,DO,DL,DR,C5,C4];refine Le (Ba _ _ _) ?_
  (refine Gp (Ba _ _ _) ?_;simp only[Cd,CH,CO,Nat.reduceAdd,CV,List.range,List.range.loop])
  refine kB hF #[AB 0,AB op,AE g d j,AE r n y] 59 λO1 W1 F u s q R m=>?_
  try walk_nrm
  have _Y:=cs4 m;refine kW ?_;clear _Y;cases B with
  | false=>
   (refine Hr (Ba _ _ _) rfl Ao rfl (E _ _ s) BM ?_;rintro _ _ L J ⟨rfl,rfl,l,A⟩;try walk_nrm)
   refine kW ?_;exact⟨rfl,_,D _,AU,rfl,u.trans l,A⟩
  | true=>
   (refine Hr (Ba _ _ _) rfl Ao rfl (E _ _ s) BM ?_;rintro _ _ L J ⟨rfl,rfl,l,A⟩;try walk_nrm)
   replace m:Hid (∀W,Keep Low L J W->∀k,W.cell? (AK F k)=(#[AB 0,AB op,AE g d j,AE r n y]:Array Value)[k]?):=λW M k=>(M.ext.cell (.inl (l.own _ q)) k).trans ((l.cell (.inl q) k).trans (m _ (Keep.refl _ _ _) k))
   replace q:=l.own _ q;have _Y:=cs4 m;refine kW ?_;clear _Y;exact⟨rfl,_,D _,by simp[S7],rfl,u.trans l,A⟩
 ·have h1:(k==0)=false:=by rw[CS];exact H
  refine Ir func83 Ao rfl ?_;simp only[ntmps83,Cd,CH,CO,Nat.reduceAdd,Nat.reduceSub,DN,DO,DL,DR,C5,C4];refine Le (Ba _ _ _) ?_
  (refine Gp (Ba _ _ _) ?_;simp only[Cd,CH,CO,Nat.reduceAdd,CV,List.range,List.range.loop])
  refine kB hF #[AB k,AB op,AE g d j,AE r n y] 59 λO1 W1 F u s q R m=>?_
  try walk_nrm
  have _Y:=cs4 m;refine kW ?_;clear _Y;exact⟨rfl,_,D _,by simp[h1],rfl,u,s⟩
open Stil
theorem Ti {w₀:World}{e:TypeId}{s n:Nat}{v:Value}{xs:List Value}(h:w₀.ownsRow 0 e s v n xs):∃a cap,v=AE a n cap/\Zr a n cap/\∀j u,xs[j]?=some u->∃b,a=some (AK b 0)/\v.ownBlock=some b/\w₀.cell? (AK b j)=some u:=by
 have k:=h.2;rcases k with⟨hv,d⟩ | ⟨g,cap,cur,hv,l,_,i,_⟩
 ·refine⟨none,0,by rw[hv,d],⟨AQ,λ_=>rfl⟩,λj u hu=>?_⟩
  have f:=h.1;rw[d,FG] at f;rw[List.length_eq_zero_iff.1 f] at hu;simp at hu
 ·refine⟨_,cap,hv,⟨i,λe=>by cases e⟩,λj u hu=>⟨g,rfl,by rw[hv];rfl,?_⟩⟩
  have:=h.cells (g:=g) yEi j u hu
  rwa [add_plain] at this
def NOk (Low:Nat)(w₀:World)(m:Ak):Prop:=MOk w₀ 0 m/\∀x∈m.vals,∀k,x.ownBlock=some k->k<Low
def X3 (w:World)(b o:Nat)(t:Ak):Prop:=w.cell? ⟨b,o,none⟩=some (AB t.kind)/\w.cell? ⟨b,o+1,none⟩=some (AB t.op)/\w.cell? ⟨b,o+2,none⟩=some t.av/\w.cell? ⟨b,o+3,none⟩=some t.kv
def SX (Low:Nat)(O:Nat->Prop)(w:World)(a:Option Addr)(d:List Ak):Prop:=∀i (h:i<d.length),∃b o,a=some ⟨b,o,none⟩/\(O b\/b<Low)/\X3 w b (o+i*4) d[i]
section
variable {Low : Nat}{w₀ w w' : World}{O O' : Nat -> Prop}
theorem X3.ext {b o:Nat}{t:Ak}(h:X3 w b o t)(k:C0 Low O O' w w')(a:O b\/b<Low):X3 w' b o t:=
 ⟨(k.cell a _).trans h.1,(k.cell a _).trans h.2.1,(k.cell a _).trans h.2.2.1,(k.cell a _).trans h.2.2.2⟩
theorem X3.held {b o:Nat}{t:Ak}(h:X3 w₀ b o t)(k:Held Low w₀ O w)(a:b<Low):X3 w b o t:=
 ⟨(k.down a _).trans h.1,(k.down a _).trans h.2.1,(k.down a _).trans h.2.2.1,(k.down a _).trans h.2.2.2⟩
theorem NOk.devs {m:Ak}(h:NOk Low w₀ m):∃a cap,m.av=.slice a m.ds.length cap:=by
 obtain⟨a,cap,e,_⟩:=Ti ((Jw _ _ _).1 h.1).1;exact⟨a,cap,e⟩
theorem NOk.kids {m:Ak}(h:NOk Low w₀ m):∃(a:Option Addr) (cap:Nat),m.kv=AE a m.kids.length cap/\Zr a m.kids.length cap/\(∀t∈m.kids,NOk Low w₀ t)/\
  ∀i (h:i<m.kids.length),∃b o,a=some (AK b o)/\b<Low/\X3 w₀ b (o+i*4) m.kids[i]:=by
 obtain⟨_,f,C⟩:=(Jw _ _ _).1 h.1;obtain⟨a,cap,e,u,d⟩:=Ti f;refine⟨a,cap,e,u,λt g=>⟨C t g,λx A k f=>h.2 x ?_ k f⟩,λi hi=>?_⟩
 ·rw[Ak.vals_eq]
  exact CQ _ (CQ _ (Q7.2 ⟨t,g,A⟩))
 ·obtain⟨r,D,y,B⟩:=O6 m.kids i hi
  obtain⟨b,j,E,z⟩:=d _ _ r;obtain⟨F,l,_,q⟩:=d _ _ D;obtain⟨G,p,_,v⟩:=d _ _ y;obtain⟨H,n,_,s⟩:=d _ _ B;rw[j] at l p n;cases l;cases p;cases n;refine⟨b,0,j,h.2 m.kv (by rw[Ak.vals_eq];simp) b E,?_⟩;unfold X3;rw[CV];exact⟨z,q,v,s⟩
end
variable {Low c : Nat}
set_option maxRecDepth 100000 in
set_option maxHeartbeats 2000000 in
theorem i3 (w₀:World)(t:Ak)(R:NOk Low w₀ t)(ae:t.ds.length<=1048576)(ak:t.kids.length<=1048576):∃B:List Ak,B.map Ak.net=Ci t.net/\(∀x∈B,NOk Low w₀ x)/\(Gv B).Sublist t.vals/\∀g O w,Held Low w₀ O w->
  Nj prog (okS prog Low c) 93 #[.agg #[AB t.kind,AB t.op,t.av,t.kv]] g O w λv L O' w'=>L=g/\(∃a cap,v=AE a B.length cap/\SX Low O' w' a B)/\C0 Low O O' w w'/\Held Low w₀ O' w':=by
 obtain⟨s,u,J⟩:=R.devs;obtain⟨m,q,M,ag,af,aa⟩:=R.kids;have X:=t.vals_eq;have V:=t.net_eq;obtain⟨n,rfl⟩:=AA t
 rw[J,M];have zD:Hid (Am n.net=((n.kind==0 && (n.op==0 && n.ds.length==0)) && n.kids.length==0)):=by
  show _=_
  rw[V];unfold Am;simp only[Bool.and_assoc,CW]
 have E:Hid (Ci n.net=if Am n.net then [] else if n.kind=2 then n.kids.map Ak.net else [n.net]):=by
  show _=_
  unfold Ci;rw[V]
 clear V ag
 have A:Hid (∀g O W,Held Low w₀ O W->Nj prog (okS prog Low c) 83 #[.agg #[AB n.kind,AB n.op,AE s n.ds.length u,AE m n.kids.length q]] g O W
   λv L O' w'=>v=.bool (Am n.net)/\L=g/\C0 Low O O' W w'/\Held Low w₀ O' w'):=λg O W h=>by rw[zD.out];exact i1 _ _ _ _ _ _ _ _ ae ak w₀ g O W h
 obtain⟨I,ac⟩:=AA (Am n.net)
 rw[<-ac] at A E;have ai:=AV J;have aj:=AV M;have fQ:=AV X;clear ac zD J M X;have N:=resultsC_tmp (P:=prog) (fn:=Tryz.f93) rfl;cases I with
 | true=>
  refine⟨[],by rw[E.out];rfl,AU,List.nil_sublist _,λg O w hF=>?_⟩;refine Ir func93 Ao rfl ?_;simp only[ntmps93,Cd,CH,CO,Nat.reduceAdd,Nat.reduceSub,DN,DO,DL,DR,C5,C4];refine Le (Ba _ _ _) ?_
  (refine Gp (Ba _ _ _) ?_;simp only[Cd,CH,CO,Nat.reduceAdd,CV,List.range,List.range.loop])
  refine kB hF #[AB n.kind,AB n.op,AE s n.ds.length u,AE m n.kids.length q] 59 λO1 W1 b1 C y l Y d=>?_
  try walk_nrm
  have _Y:=cs4 d;refine kW ?_;clear _Y
  (refine Hr (Ba _ _ _) rfl Ao rfl (A _ _ _ y) BM ?_;rintro _ _ O2 W2 ⟨rfl,rfl,j,r⟩;try walk_nrm)
  refine kW ?_;exact⟨rfl,_,N _,rfl,⟨none,0,rfl,λi hi=>by simp at hi⟩,C.trans j,r⟩
 | false=>
  by_cases h2:n.kind=2
  ·refine⟨n.kids,by rw[E.out];simp[h2],af,by rw[fQ.out];exact((Ek _).cons _).cons _,λg O w hF=>?_⟩
   rw[h2] at A ⊢;refine Ir func93 Ao rfl ?_;simp only[ntmps93,Cd,CH,CO,Nat.reduceAdd,Nat.reduceSub,DN,DO,DL,DR,C5,C4];refine Le (Ba _ _ _) ?_
   (refine Gp (Ba _ _ _) ?_;simp only[Cd,CH,CO,Nat.reduceAdd,CV,List.range,List.range.loop])
   refine kB hF #[AB 2,AB n.op,AE s n.ds.length u,AE m n.kids.length q] 59 λO1 W1 b1 C y l Y d=>?_
   try walk_nrm
   have _Y:=cs4 d;refine kW ?_;clear _Y
   (refine Hr (Ba _ _ _) rfl Ao rfl (A _ _ _ y) BM ?_;rintro _ _ O2 W2 ⟨rfl,rfl,j,r⟩;try walk_nrm)
   replace d:=Ge d j l;replace l:=j.own _ l;have _Y:=cs4 d;refine kW ?_;clear _Y;refine⟨rfl,_,N _,rfl,⟨m,q,rfl,λi hi=>?_⟩,C.trans j,r⟩;obtain⟨b,o,ha,Z,hc⟩:=aa i hi;exact⟨b,o,ha, .inr Z,hc.held r Z⟩
  ·refine⟨[n],by rw[E.out];simp[h2],λx hx=>by rw[List.mem_singleton.1 hx];exact R,by rw[Md];exact Ek _,λg O w hF=>?_⟩
   have al:(n.kind==2)=false:=by rw[CS];exact h2
   clear aa;refine Ir func93 Ao rfl ?_;simp only[ntmps93,Cd,CH,CO,Nat.reduceAdd,Nat.reduceSub,DN,DO,DL,DR,C5,C4];refine Le (Ba _ _ _) ?_
   (refine Gp (Ba _ _ _) ?_;simp only[Cd,CH,CO,Nat.reduceAdd,CV,List.range,List.range.loop])
   refine kB hF #[AB n.kind,AB n.op,AE s n.ds.length u,AE m n.kids.length q] 59 λO1 W1 b1 C y l Y d=>?_
   try walk_nrm
   have _Y:=cs4 d;refine kW ?_;clear _Y
   (refine Hr (Ba _ _ _) rfl Ao rfl (A _ _ _ y) BM ?_;rintro _ _ O2 W2 ⟨rfl,rfl,j,r⟩;try walk_nrm)
   replace d:=Ge d j l;replace l:=j.own _ l;have _Y:=cs4 d;refine kW ?_;clear _Y;refine Oa (Ba _ _ _) rfl Ao ?_ ?_
   ·intro _;simp[go_sem];done
   intro w₁ hR K hK;go_simp;refine hK _ _ ?_;clear hK K;obtain⟨O3,eO,S,U,H,ab,F⟩:=boxed r hR #[AB n.kind,AB n.op,AE s n.ds.length u,AE m n.kids.length q] 59;rw[<-eO];clear eO
   revert S U H ab F
   generalize w₁.alloc (.cells #[AB n.kind,AB n.op,AE s n.ds.length u,AE m n.kids.length q] 59)=W3;generalize w₁.heap.size=b3;intro S U H ab F;have D:=AV F;clear F hR w₁;try walk_nrm
   refine kW ?_;refine⟨rfl,_,N _,rfl,⟨some (AK b3 0),1,rfl,λi hi=>?_⟩,(C.trans j).trans S,U⟩;have ah:i=0:=by simp at hi;exact hi
   subst ah;refine⟨b3,0,rfl, .inl H,D _ (Keep.refl _ _ _) 0,D _ (Keep.refl _ _ _) 1,?_,?_⟩
   ·rw[show([n]:List Ak)[0].av=_ from ai.out];exact D _ (Keep.refl _ _ _) 2
   ·rw[show([n]:List Ak)[0].kv=_ from aj.out];exact D _ (Keep.refl _ _ _) 3
variable {Low c : Nat}
def JB (Low c:Nat)(w₀:World)(t:Ak)(vs:List MI):Prop:=∀rest O w,Held Low w₀ O w->
 Nj prog (okS prog Low c) 77 #[.chan (some c), .agg #[AB t.kind,AB t.op,t.av,t.kv]] (vs.map MI.val++rest) O w λ_ a O' w'=>a=rest/\C0 Low O O' w w'/\Held Low w₀ O' w'
def FR (k:Int)(t:Ak)(vs:List MI):List MI:=if t.kind=1 then [⟨k,⟨t.op,t.ds,t.av⟩⟩] else vs++[mi0 (k+2)]
theorem zw0 {p:Prop}(h:p:=by
 refine kW ?_
 exact⟨_,_,rfl,by first | rfl | trivial,by first | rfl | trivial,by first | rfl | trivial⟩):p:=h
set_option maxRecDepth 100000 in
set_option maxHeartbeats 2000000 in
theorem SQ (w₀:World)(k:Int)(hk:k=2\/k=3)(g:List Ak)(f:Ak->List MI)(hts:∀t∈g,NOk Low w₀ t)(hB:∀t∈g,t.kind≠1->JB Low c w₀ t (f t))(hl:g.length<=1048576)(rest:List Value)(O:Nat->Prop)(w:World)(hF:Held Low w₀ O w)(a:Option Addr)(cap:Nat)(hr:SX Low O w a g):
  Nj prog (okS prog Low c) 118 #[.chan (some c),AB k,AE a g.length cap] ((g.map λt=>(FR k t (f t)).map MI.val).flatten++rest) O w λ_ F O' w'=>F=rest/\C0 Low O O' w w'/\Held Low w₀ O' w':=by
 have aA:=resultsC_none (P:=prog) (fn:=Tryz.f118) rfl;refine Ir func118 Ao rfl ?_;simp only[ntmps118,Cd,CH,CO,Nat.reduceAdd,Nat.reduceSub,DN,DO,DL,DR,C5,C4];refine kW ?_;refine jt (λS F O' w'=>∃Z R,S=⟨#[.chan (some c),AB k,AE a g.length cap,undef,undef,undef,AB k,AB (k+2),undef,undef,Z,R,undef,undef,undef,undef,undef,undef,undef,undef,undef,undef,undef,undef,undef,undef,undef,undef,undef,undef,undef,undef,undef],[]⟩/\F=(g.map λt=>(FR k t (f t)).map MI.val).flatten++rest/\O=O'/\w=w') ?_ ?_
 ·rcases hk with rfl | rfl
  ·exact zw0
  ·exact zw0
 rintro _ _ _ _ ⟨Z,R,rfl,rfl,rfl,rfl⟩;refine kW ?_
 refine Y0 (Ba _ _ _) (λn S F O' w'=>∃(j:Nat) (u9 ah ao kY kU sD ay ab ak aw ar az ae af au ag ax al ac:Value),j<=g.length/\n=g.length - j/\S=⟨#[.chan (some c),AB k,AE a g.length cap,undef,undef,undef,AB k,AB (k+2),undef,u9,Z,R,AE a g.length cap,AB g.length,AB j,ah,ao,kY,kU,sD,ay,ab,ak,aw,ar,az,ae,af,au,ag,ax,al,ac],[]⟩/\
  F=((g.drop j).map λt=>(FR k t (f t)).map MI.val).flatten++rest/\C0 Low O O' w w'/\Held Low w₀ O' w') g.length ⟨0,undef,undef,undef,undef,undef,undef,undef,undef,undef,undef,undef,undef,undef,undef,undef,undef,undef,undef,undef,DI _,rfl,rfl,rfl,C0.refl _ _ _,hF⟩ ?_
 rintro n _ _ O1 W1 ⟨j,u9,ah,ao,kY,kU,sD,ay,ab,ak,aw,ar,az,ae,af,au,ag,ax,al,ac,hj,rfl,rfl,rfl,B,U⟩;dsimp only;by_cases V:j<g.length
 ·have aC:(j:Int)<(g.length:Int):=by omega
  obtain⟨b,o,rfl,Y,C⟩:=hr j V;have T:=CN V;have an:=GQ V;have I:=hts _ T;have N:=hB _ T;rw[an]
  revert C I N
  generalize g[j]=t;intro C I N;obtain⟨u,v,aa⟩:=I.devs;obtain⟨r,s,ap,_⟩:=I.kids;clear I;obtain⟨n,op,y,av,kv,kids⟩:=t;dsimp only at aa ap N;subst aa ap;replace C:=C.ext B Y;have X:=Y.imp (B.own b) id;have iY:=AV (λW (Q:Keep Low O1 W1 W)=>C.ext Q.ext X);clear C an T hr hB hts;have _Y:=iY.out;have _B:=X;simp only[X3] at _Y;refine kW ?_;clear _Y _B;refine Oa (Ba _ _ _) rfl Ao ?_ ?_
  ·intro _;simp[go_sem];done
  intro i hR K hK;go_simp;refine hK _ _ ?_;clear hK K;obtain⟨O2,eO,m,q,l,L,H,A⟩:=KU U hR #[AB 0,AB 0,AG,AG] 59;rw[<-eO];clear eO
  revert m q l L H A
  generalize i.alloc (.cells #[AB 0,AB 0,AG,AG] 59)=W2;generalize i.heap.size=b2;intro m q l L H A;replace m:=B.trans m;replace H :=λx hx=>H x (B.own x hx)
  clear hR i;try walk_nrm
  refine Yd (Ba _ _ _) b2 l rfl Ao ?_ ?_
  ·intro i hR e he
   have d:=(hR.mine _ l).trans A;have y0:i.cell? (AK b2 0)=some (AB 0):=cell_of_heap d 0;have z0:=frozen_of_heap d 0;have y1:i.cell? (AK b2 1)=some (AB 0):=cell_of_heap d 1;have z1:=frozen_of_heap d 1;have y2:i.cell? (AK b2 2)=some AG:=cell_of_heap d 2;have z2:=frozen_of_heap d 2;have y3:i.cell? (AK b2 3)=some AG:=cell_of_heap d 3;have z3:=frozen_of_heap d 3;clear d;simp[go_sem,events_store_slice,storedEv, *] at he
   (first | (subst he;exact⟨_,_,rfl, .inl l⟩) | (rcases he with rfl | rfl<;>exact⟨_,_,rfl, .inl l⟩) | (rcases he with rfl | rfl | rfl | rfl<;>exact⟨_,_,rfl, .inl l⟩) | (rcases he with rfl | rfl | rfl | rfl | rfl | rfl<;>exact⟨_,_,rfl, .inl l⟩))
  intro i hR K hK;have d:=(hR.mine _ l).trans A;have y0:i.cell? (AK b2 0)=some (AB 0):=cell_of_heap d 0;have z0:=frozen_of_heap d 0;have y1:i.cell? (AK b2 1)=some (AB 0):=cell_of_heap d 1;have z1:=frozen_of_heap d 1;have y2:i.cell? (AK b2 2)=some AG:=cell_of_heap d 2;have z2:=frozen_of_heap d 2;have y3:i.cell? (AK b2 3)=some AG:=cell_of_heap d 3;have z3:=frozen_of_heap d 3;clear d;go_simp;try (unfold stored;go_simp)
  have d:=(hR.mine _ l).trans A;have J:EJ b2 i ((((i.setCell (AK b2 0) (AB n)).setCell (AK b2 1) (AB op)).setCell (AK b2 2) (AE u y.length v)).setCell (AK b2 3) (AE r kids.length s)):=(((((EJ.refl _ _).set 0 (AB n)).set 1 (AB op)).set 2 (AE u y.length v)).set 3 (AE r kids.length s))
  have M:((((i.setCell (AK b2 0) (AB n)).setCell (AK b2 1) (AB op)).setCell (AK b2 2) (AE u y.length v)).setCell (AK b2 3) (AE r kids.length s)).heap[b2]?=some (.cells #[AB n,AB op,AE u y.length v,AE r kids.length s] 59):=(heap_setCell (heap_setCell (heap_setCell (heap_setCell d 0 (AB n)) 1 (AB op)) 2 (AE u y.length v)) 3 (AE r kids.length s))
  refine hK _ _ J ?_;clear hK K d y0 z0 y1 z1 y2 z2 y3 z3 A;replace m:=(m.rely hR).put J L H;replace q:=(q.rely hR).put J L
  revert m q M
  clear J hR;generalize ((((i.setCell (AK b2 0) (AB n)).setCell (AK b2 1) (AB op)).setCell (AK b2 2) (AE u y.length v)).setCell (AK b2 3) (AE r kids.length s))=W2;intro M m q;have aj:Hid (∀W,Keep Low O2 W2 W->∀E,W.cell? (AK b2 E)=(#[AB n,AB op,AE u y.length v,AE r kids.length s]:Array Value)[E]?):=λW Q E=>(Q.ext.cell (.inl l) E).trans (cell_of_heap M E)
  clear M;try walk_nrm
  have ai:IntKind.i64.wrap ((j:Int)+1)=((j+1:Nat):Int):=by rw[IntKind.wrap_i64];omega
  clear X B U Y iY;by_cases D:n=1
  ·have e1:(n==1)=true:=by rw[EC];exact D
   rw[EB,FR,if_pos D,CP,C3,MI.val,C4,C5,C4];have _Y:=cs4 aj;refine kW ?_;clear _Y;exact⟨g.length - (j+1),AQ,j+1,_,_,_,_,_,_,_,_,_,_,_,_,_,_,_,_,_,_,_,AQ,rfl,rfl,rfl,m,q⟩
  ·have e1:(n==1)=false:=by rw[CS];exact D
   have oG:=N D;rw[EB,FR,if_neg D,CU,CP,C3,EV,EV,C4,C5];have _Y:=cs4 aj;refine kW ?_;clear _Y
   (refine Hr (Ba _ _ _) rfl Ao rfl (oG _ _ _ q) BM ?_;rintro _ _ O3 W3 ⟨rfl,iV,aB⟩;try walk_nrm)
   simp only[MI.val,mi0];refine kW ?_;exact⟨g.length - (j+1),AQ,j+1,_,_,_,_,_,_,_,_,_,_,_,_,_,_,_,_,_,_,_,AQ,rfl,rfl,rfl,m.trans iV,aB⟩
 ·have aD:¬(j:Int)<(g.length:Int):=by omega
  have hd:g.drop j=[]:=RI AQ;rw[hd];refine kW ?_;exact⟨rfl,_,aA _,rfl,B,U⟩
