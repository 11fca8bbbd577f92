import Derived.Test.YthdogflpbpkbeaaGreatDoorCH1
import Derived.Test.YthdogflpbpkbeaaGreatDoorCG4
import Derived.Test.YthdogflpbpkbeaaGreatDoorW13
set_option linter.defProp false
set_option maxRecDepth 100000
set_option maxHeartbeats 8000000
namespace Go.Proofs.YthdogflpbpkbeaaGreatDoor
open Tryz Stil Go.RowKit Go.Sort Go.BigFrame Go.Conc Go.Co
variable {Low c:Nat}
def MIs(w₀:AU)(ms:List MI)(is:AP):Prop:=ms.map MI.inst=is/\∀x∈ms,Aq w₀ x.e.av x.e.ds
section
variable {w₀:AU}{ms ms':List MI}{is is':AP}
def MIs.append(h:MIs w₀ ms is)(d:MIs w₀ ms' is'):MIs w₀ (ms++ms') (is++is'):=⟨by rw[D4,h.1,d.1],λx e=>(BI.1 e).elim (h.2 x) (d.2 x)⟩
def MIs.nil:MIs w₀ [] []:=⟨rfl,BU⟩
theorem MIs.zero(k:Int):MIs w₀ [mi0 k] [Gh k]:=⟨rfl,λx d=>by rw[BB.1 d];exact⟨none,0,rfl,λi hi=>by cases hi⟩⟩
def MIs.snoc(h:MIs w₀ ms is)(k:Int):MIs w₀ (ms++[mi0 k]) (is++[Gh k]):=h.append (MIs.zero k)
def MIs.O(k:Int)(e:IC)(h:Aq w₀ e.av e.ds):MIs w₀ [⟨k,e⟩] [⟨k,e.elem⟩]:=⟨rfl,λx d=>by rwa[BB.1 d]⟩
end
variable {k:Int}{w₀:AU}
def IL:Stil.DK->Prop
 |⟨k,_,kids⟩=>(1<=k/\k<=4)/\(k≠1->kids≠[])/\∀p∈kids.map IL,p
def eI(k:Int)(e:Stil.Elem)(kids:Ξ):IL ⟨k,e,kids⟩↔(1<=k/\k<=4)/\(k≠1->kids≠[])/\∀x∈kids,IL x:=by rw[IL,Stil.all_map]
theorem oP{t:Rn}{vs:List MI}(g:NOk Low w₀ t)(h:t.kind≠1->MIs w₀ vs (Cf t.N)):MIs w₀ (Hv k t vs) (Dq k t.N):=by
 have f:t.N.kind=t.kind:=by rw[Rn.Ne]
 unfold Hv;by_cases d:t.kind=1
 .rw[BR d,Ji _ _ (f.tr d),Rn.Ne];exact MIs.O k ⟨t.op,t.ds,t.av⟩ (LF.1 g).1
 rw[BQ d,Il _ _ (λe=>d (f.symm.tr e))];exact(h d).snoc _
theorem Rr{f:Rn->List MI}:∀{d:List Rn},(∀t∈d,NOk Low w₀ t)->(∀t∈d,t.kind≠1->MIs w₀ (f t) (Cf t.N))->MIs w₀ (d.map λt=>Hv k t (f t)).flatten ((d.map Rn.N).map (Dq k)).flatten
 |[],_,_=>MIs.nil
 |t::d,e,g=>by
  rw[DZ,ER,DZ,DZ,ER];exact(oP (e t BU) (g t BU)).append (Rr (λx hx=>e x Cd) λx hx=>g x Cd)
def WS(ts:List Rn)(g:Rn->List MI):((ts.map g).flatten).map MI.val=(ts.map λt=>(g t).map MI.val).flatten:=by rw[List.map_flatten,IW];rfl
def iz{w:AU}{O:Φ}(h:Held Low w₀ O w)(d:Nat):Held Low w₀ O {w with drawn:=d}:=⟨h.still,h.low,h.up,h.os,h.out⟩
def lz{w w':AU}{O O':Φ}(h:D2 Low O O' w w')(d:Nat):D2 Low O O' w {w' with drawn:=d}:=⟨h.own,h.still,h.mine,h.size⟩
theorem UI(w₀:AU)(n:Rn):IL n.N->Ad n.N<=1000000->NOk Low w₀ n->∃B,MIs w₀ B (Cf n.N)/\J0 Low c w₀ n B:=by
 induction n using ez with
 |h k op A av kv kids ih=>
  intro M E X;rw[Rn.Ne]at M E⊢;dsimp only at M E⊢;have⟨⟨aH,aC⟩,ak,U⟩:=(eI _ _ _).1 M;rw[Dn]at E;simp only at E;have aj:∀x∈kids,Ad x.N<=1000000:=λx hx=>by have:Ad x.N<=Stil.sizes (kids.map Rn.N):=Fa Ad _ x.N (IF hx);omega
  have ai:kids.length<=999999:=by have:=Gg (kids.map Rn.N);rw[Db]at this;omega
  replace U:∀x∈kids,IL x.N:=λx hx=>U _ (IF hx);have⟨L,R,ap⟩:=X.devs;have⟨p1,l,an,ad,H,N⟩:=X.K;have ac:=(LF.1 X).1;dsimp only at ap an ad ac H N;subst ap an;have af:=resultsC_none (P:=prog) (fn:=Tryz.f161) rfl;by_cases h1:k=1
  .subst h1;refine⟨[⟨1,⟨op,A,AE L A.length R⟩⟩],?_,λrest O w hF=>?_⟩;{rw[L6];exact MIs.O 1 ⟨op,A,AE L A.length R⟩ ac};clear aj ai U M E X ih H N ac ak ad;rw[DZ,FI,MI.val,EA,ED];dsimp only;refine Ir func161 Br rfl ?_;simp only[ntmps161,D1,DT,DW,Nat.reduceAdd,Nat.reduceSub,EV,EW,EY,EX,ED,EA];refine Lm (Bh _ _ _) ?_
   (refine Gv (Bh _ _ _) ?_;simp only[D1,DT,DW,EF,List.range,List.range.loop]);refine kB hF #[AB 1,AB op,AE L A.length R,AE p1 kids.length l] 63 λO1 W1 r V C d ay q=>?_;(try walk_nrm);have _Y:=cs4 q;refine kW ?_;clear _Y;exact⟨rfl,_,af _,rfl,V,C⟩
  obtain⟨t,g,rfl⟩:=PL (λe=>ak h1 (by rw[e];rfl):kids≠[]);obtain⟨b,o,rfl,ao,ae⟩:=N 0 BU;rw[IQ,G0,IV]at ae;have aE:g.length+1<=l:=by have:=ad.1;simp only[DT]at this;exact this
  have aw:∀i(h:i<g.length),b<Low/\Wj w₀ b (o+4+i*4) g[i]:=λi hi=>by have⟨b',o',e',Y,aa⟩:=N (i+1) B1;cases e';rw[LQ]at aa;exact⟨Y,by rwa[show o+4+i*4=o+(i+1)*4 by omega]⟩
  have ah:∀y∈t::g,∃B,MIs w₀ B (Cf y.N)/\J0 Low c w₀ y B:=λy hy=>ih y hy (U _ hy) (aj _ hy) (H y hy);have⟨vt,Z,au⟩:=ah t BU;have aF:(k==1)=false:=xAr;have yE:=H t BU;have aD:g.length<=999999:=by simp only[DT]at ai;omega
  clear ih aj N U ai M ak E ad;have⟨pa,ra,ar⟩:=yE.devs;have⟨pk,rk,ax,_⟩:=yE.K;clear X;have jq:Hid (∀S,S≠1->S≠4->Cf ⟨S,⟨op,A⟩,(t::g).map Rn.N⟩=Cf t.N++((g.map Rn.N).map (Dq S)).flatten):=λS h1 h4=>by rw[DZ,Jh _ _ _ h1 h4]
  have vY:Hid (Cf ⟨4,⟨op,A⟩,(t::g).map Rn.N⟩=Cf t.N++[Gh 6]):=by show _=_;rw[DZ,L8]
  obtain⟨t1,tp,td,ta,tk,ts⟩:=t;dsimp only at ar ax;subst ar ax;by_cases h4:k=4
  .subst h4;refine⟨vt++[mi0 6],by rw[vY.out];exact Z.snoc 6,λrest O w hF=>?_⟩;clear Z vY jq;rw[D4,DZ,FI,EJ,EA,ED];dsimp only;simp only[DT];refine Ir func161 Br rfl ?_;simp only[ntmps161,D1,DT,DW,Nat.reduceAdd,Nat.reduceSub,EV,EW,EY,EX,ED,EA];refine Lm (Bh _ _ _) ?_
   (refine Gv (Bh _ _ _) ?_;simp only[D1,DT,DW,EF,List.range,List.range.loop]);refine kB hF #[AB 4,AB op,AE L A.length R,AE (some (AK b o)) (g.length+1) l] 63 λO1 W1 r V C d ay q=>?_;(try walk_nrm);have zu:=BZ (λW(I:Keep Low O1 W1 W)=>ae.held (C.rely I) ao);have _Y:=λW h=>And.intro (cs4 q W h) (zu W h);simp only[Wj]at _Y;refine kW ?_;clear _Y
   (refine Ht (Bh _ _ _) rfl Br rfl (au _ _ _ C) CN ?_;rintro _ _ O2 W2⟨rfl,D,al⟩;try walk_nrm);replace q:=JH q D d;replace d:=D.own _ d;simp only[MI.val,mi0];have _Y:=cs4 q;refine kW ?_;clear _Y;exact⟨rfl,_,af _,rfl,V.tr D,al⟩
  have fG:k=2\/k=3:=BS;have yK:(k==4)=false:=xAr;obtain⟨f,hf⟩:∃f:Rn->List MI,∀y∈g,MIs w₀ (f y) (Cf y.N)/\J0 Low c w₀ y (f y):=by
   classical
   refine⟨λy=>if h:∃B,MIs w₀ B (Cf y.N)/\J0 Low c w₀ y B then h.choose else [],λy hy=>?_⟩;have h:=ah y DJ;simp only[h,dite_true];exact h.choose_spec
  have ag:∀y∈g,NOk Low w₀ y:=λy hy=>H y DJ;refine⟨vt++(g.map λy=>Hv k y (f y)).flatten,?_,λrest O w hF=>?_⟩;{rw[jq.out k h1 h4];exact Z.append (Rr ag λy hy _=>(hf y hy).1)};clear Z vY jq;rw[D4,WS,EJ];dsimp only;simp only[DT];have HT:Hid (∀O W,Held Low w₀ O W->La prog (okS prog Low c) 184 #[.chan (some c),AB k,AE (if l=1 then some (AK b o) else some (AK b (o+4))) g.length (l - 1)] ((g.map λt=>(Hv k t (f t)).map MI.val).flatten++rest) O W λ_ x' O' w'=>x'=rest/\D2 Low O O' W w'/\Held Low w₀ O' w'):=λO W I=>by
   have:=VA (c:=c) w₀ k fG g f ag (λy hy _=>(hf y hy).2) BS rest O W I (if l=1 then some (AK b o) else some (AK b (o+4))) (l - 1) (λi hi=>by
    have⟨Y,aa⟩:=aw i hi;have az:¬l=1:=BS
    rw[BQ az]
    exact⟨b,o+4,rfl, .inr Y,aa.held I Y⟩)
   exact this
  clear hf ah aw ag H ac;generalize (g.map λt=>(Hv k t (f t)).map MI.val).flatten=tl at*;generalize g.length=m at*;refine Ir func161 Br rfl ?_;simp only[ntmps161,D1,DT,DW,Nat.reduceAdd,Nat.reduceSub,EV,EW,EY,EX,ED,EA];refine Lm (Bh _ _ _) ?_
  (refine Gv (Bh _ _ _) ?_;simp only[D1,DT,DW,EF,List.range,List.range.loop]);refine kB hF #[AB k,AB op,AE L A.length R,AE (some (AK b o)) (m+1) l] 63 λO1 W1 r V C d ay q=>?_;try walk_nrm
  have zu:=BZ (λW(I:Keep Low O1 W1 W)=>ae.held (C.rely I) ao);have _Y:=λW h=>And.intro (cs4 q W h) (zu W h);simp only[Wj]at _Y;refine kW ?_;clear _Y
  (refine Ht (Bh _ _ _) rfl Br rfl (au _ _ _ C) CN ?_;rintro _ _ O2 W2⟨rfl,D,al⟩;try walk_nrm);replace q:=JH q D d;replace d:=D.own _ d;have _Y:=cs4 q;refine kW ?_;clear _Y;have aA:(1:Int)<=(m:Int)+1:=BS;have aG:∀(W:AU)(es:Array Event),(Instr.sliceAt 61 (AE (some (AK b o)) (m+1) l) (some (AB 1)) none none).events prog W es=es:=λW es=>tK _ underlying61 _ _ _ aA;refine rj (Bh _ _ _) (λW=>W.c (AK r 0)=some (AB k)/\W.c (AK r 3)=some (AE (some (AK b o)) (m+1) l)) 6 BW rfl λw₁ hR=>?_;have J:∀ab v:AU,(ab.c (AK r 0)=some (AB k)/\ab.c (AK r 3)=some (AE (some (AK b o)) (m+1) l))->Keep Low O2 ab v->(v.c (AK r 0)=some (AB k)/\v.c (AK r 3)=some (AE (some (AK b o)) (m+1) l)):=λab v hu hk=>⟨(hk.ext.cell (.inl d) _).tr hu.1,(hk.ext.cell (.inl d) _).tr hu.2⟩;have F:({w₁ with drawn:=w₁.drawn+1}:AU).c (AK r 0)=some (AB k)/\({w₁ with drawn:=w₁.drawn+1}:AU).c (AK r 3)=some (AE (some (AK b o)) (m+1) l):=⟨q _ hR 0,q _ hR 3⟩;simp only[D1,DT,DW,Nat.reduceAdd,EF]
  (refine We (Bh _ _ _) J (i:=0) (v:=.chan (some c)) rfl CG CG CG CG CG (.inl ⟨Br,λW1 j=>⟨run_eq_of ?_,⟨λ_ _ _=>rfl,DN _,rfl,rfl,rfl,?_⟩⟩⟩) F ?_;(focus (intro K hK;obtain⟨s,u⟩:=j;go_simp;exact hK));(focus (rw[J4];intro e he;replace he:=mem_listed he;obtain⟨s,u⟩:=j;simp[go_sem, *]at he;try(refine Or.inl ?_;(first|(subst he;exact⟨_,_,rfl,.inl d⟩)|(rcases he with rfl|rfl<;>exact⟨_,_,rfl,.inl d⟩)|(rcases he with rfl|rfl|rfl|rfl<;>exact⟨_,_,rfl,.inl d⟩)|(rcases he with rfl|rfl|rfl|rfl|rfl|rfl<;>exact⟨_,_,rfl,.inl d⟩)))));try walk_nrm)
  (refine We (Bh _ _ _) J (i:=1) (v:=AH r) rfl CG CG CG CG CG (.inl ⟨Br,λW1 j=>⟨run_eq_of ?_,⟨λ_ _ _=>rfl,DN _,rfl,rfl,rfl,?_⟩⟩⟩) F ?_;(focus (intro K hK;obtain⟨s,u⟩:=j;go_simp;exact hK));(focus (rw[J4];intro e he;replace he:=mem_listed he;obtain⟨s,u⟩:=j;simp[go_sem, *]at he;try(refine Or.inl ?_;(first|(subst he;exact⟨_,_,rfl,.inl d⟩)|(rcases he with rfl|rfl<;>exact⟨_,_,rfl,.inl d⟩)|(rcases he with rfl|rfl|rfl|rfl<;>exact⟨_,_,rfl,.inl d⟩)|(rcases he with rfl|rfl|rfl|rfl|rfl|rfl<;>exact⟨_,_,rfl,.inl d⟩)))));try walk_nrm)
  (refine We (Bh _ _ _) J (i:=2) (v:=AB k) rfl CG CG CG CG CG (.inl ⟨Br,λW1 j=>⟨run_eq_of ?_,⟨λ_ _ _=>rfl,DN _,rfl,rfl,rfl,?_⟩⟩⟩) F ?_;(focus (intro K hK;obtain⟨s,u⟩:=j;go_simp;exact hK));(focus (rw[J4];intro e he;replace he:=mem_listed he;obtain⟨s,u⟩:=j;simp[go_sem, *]at he;try(refine Or.inl ?_;(first|(subst he;exact⟨_,_,rfl,.inl d⟩)|(rcases he with rfl|rfl<;>exact⟨_,_,rfl,.inl d⟩)|(rcases he with rfl|rfl|rfl|rfl<;>exact⟨_,_,rfl,.inl d⟩)|(rcases he with rfl|rfl|rfl|rfl|rfl|rfl<;>exact⟨_,_,rfl,.inl d⟩)))));try walk_nrm)
  (refine We (Bh _ _ _) J (i:=3) (v:=.pointer (some (AK r 3))) rfl CG CG CG CG CG (.inl ⟨Br,λW1 j=>⟨run_eq_of ?_,⟨λ_ _ _=>rfl,DN _,rfl,rfl,rfl,?_⟩⟩⟩) F ?_;(focus (intro K hK;obtain⟨s,u⟩:=j;go_simp;exact hK));(focus (rw[J4];intro e he;replace he:=mem_listed he;obtain⟨s,u⟩:=j;simp[go_sem, *]at he;try(refine Or.inl ?_;(first|(subst he;exact⟨_,_,rfl,.inl d⟩)|(rcases he with rfl|rfl<;>exact⟨_,_,rfl,.inl d⟩)|(rcases he with rfl|rfl|rfl|rfl<;>exact⟨_,_,rfl,.inl d⟩)|(rcases he with rfl|rfl|rfl|rfl|rfl|rfl<;>exact⟨_,_,rfl,.inl d⟩)))));try walk_nrm)
  (refine We (Bh _ _ _) J (i:=4) (v:=AE (some (AK b o)) (m+1) l) rfl CG CG CG CG CG (.inl ⟨Br,λW1 j=>⟨run_eq_of ?_,⟨λ_ _ _=>rfl,DN _,rfl,rfl,rfl,?_⟩⟩⟩) F ?_;(focus (intro K hK;obtain⟨s,u⟩:=j;go_simp;exact hK));(focus (rw[J4];intro e he;replace he:=mem_listed he;obtain⟨s,u⟩:=j;simp[go_sem, *]at he;try(refine Or.inl ?_;(first|(subst he;exact⟨_,_,rfl,.inl d⟩)|(rcases he with rfl|rfl<;>exact⟨_,_,rfl,.inl d⟩)|(rcases he with rfl|rfl|rfl|rfl<;>exact⟨_,_,rfl,.inl d⟩)|(rcases he with rfl|rfl|rfl|rfl|rfl|rfl<;>exact⟨_,_,rfl,.inl d⟩)))));try walk_nrm)
  (refine We (Bh _ _ _) J (i:=5) (v:=AE (if l=1 then some (AK b o) else some (AK b (o+4))) m (l - 1)) rfl CG CG CG CG CG (.inl ⟨Br,λW1 j=>⟨run_eq_of ?_,⟨λ_ _ _=>rfl,DN _,rfl,rfl,rfl,?_⟩⟩⟩) F ?_;(focus (intro K hK;obtain⟨s,u⟩:=j;go_simp;exact hK));(focus (rw[J4];intro e he;replace he:=mem_listed he;obtain⟨s,u⟩:=j;simp[go_sem, *]at he;try(refine Or.inl ?_;(first|(subst he;exact⟨_,_,rfl,.inl d⟩)|(rcases he with rfl|rfl<;>exact⟨_,_,rfl,.inl d⟩)|(rcases he with rfl|rfl|rfl|rfl<;>exact⟨_,_,rfl,.inl d⟩)|(rcases he with rfl|rfl|rfl|rfl|rfl|rfl<;>exact⟨_,_,rfl,.inl d⟩)))));try walk_nrm);refine⟨by first|kernel_rfl|rfl,?_⟩;have aB:=iz (al.rely hR) (w₁.drawn+1);have iC:=lz ((V.tr D).rely hR) (w₁.drawn+1)
  (refine Ht (Bh _ _ _) rfl Br rfl (HT _ _ aB) CN ?_;rintro _ _ O4 W4⟨rfl,fJ,lG⟩;try walk_nrm);refine kW ?_;exact⟨rfl,_,af _,rfl,iC.tr fJ,lG⟩
variable {Low c:Nat}
section
variable {w₀ w w':AU}{O O':Nat -> Prop}
def Xq.held{b o:Nat}{m:P9}(h:Xq w₀ b o m)(k:Held Low w₀ O w)(d:b<Low):Xq w b o m:=⟨h.1.held k d,(k.down d _).tr h.2.1,(k.down d _).tr h.2.2⟩
def VOk.N{m:P9}(h:VOk Low w₀ m):NOk Low w₀ m.N:=(OO.1 h).1
def VOk.C{m:P9}(h:VOk Low w₀ m):∃(a:Δ)(cap:Nat),m.cv=AE a m.C.length cap/\(∀e∈m.C,Aq w₀ e.av e.ds)/\
  ∀i(h:i<m.C.length),∃b o,a=some (AK b o)/\b<Low/\w₀.cell? (AK b (o+i*2))=some (AB m.C[i].op)/\w₀.cell? (AK b (o+i*2+1))=some m.C[i].av:=let ⟨_,⟨⟨a,cap,f,_,g⟩,d⟩,_⟩:=OO.1 h;⟨a,cap,f,d,g⟩
def VOk.K{m:P9}(h:VOk Low w₀ m):∃(a:Δ)(cap:Nat),m.kv=AE a m.K.length cap/\(∀t∈m.K,VOk Low w₀ t)/\
  ∀i(h:i<m.K.length),∃b o,a=some (AK b o)/\b<Low/\Xq w₀ b (o+i*6) m.K[i]:=let ⟨_,_,⟨a,cap,e,_,f⟩,d⟩:=OO.1 h;⟨a,cap,e,d,f⟩
end
variable {w₀:AU}
def MN(Low c:Nat)(w₀:AU)(t:Rn)(ms:List MI):Prop:=∀f O w,Held Low w₀ O w->
 La prog (okS prog Low c) 160 #[.agg #[AB t.kind,AB t.op,t.av,t.kv]] f O w λv g O' w'=>g=f/\
  (∀rest,La prog (okS prog Low c) 184 #[.chan (some c),AB 2,v] (ms.map MI.val++rest) O' w' λ_ h d e=>h=rest/\D2 Low O' d w' e/\Held Low w₀ d e)/\D2 Low O O' w w'/\Held Low w₀ O' w'
def MV(n:Stil.DK):Prop:=n.O.args.length<=1048576/\n.K.length<=1000000/\∀x∈Bv n,IL x/\Ad x<=1000000
theorem jn(w₀:AU)(t:Rn)(D:NOk Low w₀ t)(hg:MV t.N):∃ms,MIs w₀ ms (Bc t.N)/\MN Low c w₀ t ms:=by
 obtain⟨m,n,o⟩:=hg;rw[Rn.Ne]at m n;simp only[Db]at m n;have⟨j,e,hts,z⟩:=nG (c:=c) w₀ t D BS BS;have C:∀y∈j,∃g,MIs w₀ g (Cf y.N)/\J0 Low c w₀ y g:=λy d=>by
  have q:y.N∈Bv t.N:=by rw[<-e];exact IF d
  exact UI w₀ y (o _ q).1 (o _ q).2 (hts y d)
 obtain⟨f,l⟩:∃f:Rn->List MI,∀y∈j,MIs w₀ (f y) (Cf y.N)/\J0 Low c w₀ y (f y):=by
  classical
  refine⟨λy=>if h:∃g,MIs w₀ g (Cf y.N)/\J0 Low c w₀ y g then h.choose else [],λy d=>?_⟩;have h:=C y d;simp only[h,dite_true];exact h.choose_spec
 have E:j.length<=1000001:=by
  have u:j.length=(Bv t.N).length:=by rw[<-e,Db]
  rw[u];unfold Bv;rw[Rn.Ne];split;{simp};split;{simp only[Db];omega};simp
 refine⟨(j.map λy=>Hv 2 y (f y)).flatten,?_,λg O w hF=>(z g O w hF).mo ?_⟩
 .unfold Bc;rw[<-e];exact Rr hts λy d _=>(l y d).1
 rintro v F O' w'⟨B,⟨a,cap,rfl,s⟩,A,r⟩;refine⟨B,λrest=>?_,A,r⟩;rw[WS];exact VA w₀ 2 (.inl rfl) j f hts (λy d _=>(l y d).2) BS rest O' w' r a cap s
def LU(Low c:Nat)(w₀:AU)(t:P9)(vs:List MI):Prop:=∀rest O w,Held Low w₀ O w->
 La prog (okS prog Low c) 162 #[.chan (some c),.agg #[AB t.N.kind,AB t.N.op,t.N.av,t.N.kv,t.cv,t.kv]] (vs.map MI.val++rest) O w λ_ d O' w'=>d=rest/\D2 Low O O' w w'/\Held Low w₀ O' w'
def I0:Stil.DL->Prop
 |⟨_,cs,kids⟩=>cs.length<=1000000/\kids.length<=1000000/\(∀x∈kids,MV x.N)/\∀p∈kids.map I0,p
def eJ(n:Stil.DK)(cs:Ω)(kids:Ek):I0 ⟨n,cs,kids⟩↔cs.length<=1000000/\kids.length<=1000000/\(∀x∈kids,MV x.N)/\∀x∈kids,I0 x:=by rw[I0,Stil.all_map]
def Yi(n i:Nat):List MI:=(En n i).map λx=>mi0 x.code
def gh(n i:Nat):(Yi n i).map MI.val=(En n i).map λx=>v0 x.code:=by unfold Yi;rw[IW];rfl
def pj(n i:Nat):MIs w₀ (Yi n i) (En n i):=by
 unfold Yi En;repeat' split
 all_goals first|exact MIs.nil|exact MIs.zero _
def OQ(e:IC):MI:=⟨10,e⟩
theorem UG:∀{d:List IC},(∀e∈d,Aq w₀ e.av e.ds)->MIs w₀ (d.map OQ) (G9 (d.map IC.elem))
 |[],_=>MIs.nil
 |e::d,h=>(MIs.O 10 e (h e BU)).append (UG λx hx=>h x Cd)
theorem gA{n:Nat}{p:P9->List MI × List MI}:∀{l:List P9}(k:Nat),(∀x∈l,MIs w₀ (p x).1 (Bc x.N.N)/\MIs w₀ (p x).2 (Bz x.A))->
  MIs w₀ (l.mapIdx λi x=>Yi n (k+i)++((p x).1++(p x).2)).flatten ((l.map P9.A).mapIdx λi a=>H5 n (k+i) a).flatten
 |[],_,_=>MIs.nil
 |x::l,k,h=>by
  have⟨f,g⟩:=h x BU;have d:=gA (l:=l) (n:=n) (p:=p) (k+1) λy hy=>h y DJ
  rw[DZ,List.mapIdx_cons,List.mapIdx_cons,ER,ER];refine MIs.append ?_ ?_
  .have j:H5 n (k+0) x.A=En n (k+0)++(Bc x.N.N++Bz x.A):=by
    show En _ _++(Bc x.A.N++_)=_
    rw[P9.Ae]
   rw[j];exact(pj n (k+0)).append (f.append g)
  .have e:∀i,k+1+i=k+(i+1):=λi=>by omega
   have o:(λ(i:Nat)(x:P9)=>Yi n (k+1+i)++((p x).1++(p x).2))=λi x=>Yi n (k+(i+1))++((p x).1++(p x).2):=by funext i x;rw[e]
   have m:(λ(i:Nat)(a:Stil.DL)=>H5 n (k+1+i) a)=λi a=>H5 n (k+(i+1)) a:=by funext i a;rw[e]
   rwa[o,m]at d
end Go.Proofs.YthdogflpbpkbeaaGreatDoor
namespace Go.Co
open Stil Go.Conc
def kM{τ:Type}{ok:τ->(Nat->Prop)->World->Goroutine->Prop}{fn:FuncId}{Q:Xo τ}{a:Act}{x:τ}{O:Φ}{w:AU}{c:Code}{g:Nat}{N:Act->τ->(Nat->Prop)->World->Prop}(M:Act->τ->(Nat->Prop)->World->Prop)
  (h:WpK ok fn c (Nr g (Wu M Q)) a x O w) (j:∀f d O' w',M f d O' w'->N f d O' w'):WpK ok fn c (Nr g (Wu N Q)) a x O w:=
 h.mo λe f d O' w' q=>by
  cases e with
  |normal=>exact j _ _ _ _ q
  |exit l=>
   simp only[Nr]at q⊢;split
   .rename_i h;rw[BR h]at q;exact j _ _ _ _ q
   .rename_i h;rwa[BQ h]at q
  |_=>exact q
end Go.Co
namespace Go.Proofs.YthdogflpbpkbeaaGreatDoor
open Tryz Stil Go.RowKit Go.Sort Go.BigFrame Go.Conc Go.Co
variable {Low c:Nat}
theorem qS(w₀:World)(m:P9):I0 m.A->VOk Low w₀ m->∃vs,MIs w₀ vs (Bz m.A)/\LU Low c w₀ m vs:=by
 induction m using e8 with
 |h n cv cs kv g ih=>
  intro az ax;rw[P9.Ae]at az⊢;dsimp only at az⊢;obtain⟨bh,aR,aB,aD⟩:=(eJ _ _ _).1 az;rw[Db]at bh aR;replace aD:∀x∈g,I0 x.A:=λx u=>aD _ (IF u);replace aB:∀x∈g,MV x.N.N:=λx u=>by have:=aB _ (IF u);rw[P9.Ae]at this;exact this
  obtain⟨pa,ra,ag⟩:=ax.N.devs;obtain⟨pk,r1,al,_⟩:=ax.N.K;obtain⟨pc,rc,mQ,aA,aC⟩:=ax.C;obtain⟨pd,rd,au,aw,aF⟩:=ax.K;dsimp only at ag al mQ au aA aw aC aF;subst mQ au;have aU:∀x∈g,∃p:List MI × List MI,(MIs w₀ p.1 (Bc x.N.N)/\MIs w₀ p.2 (Bz x.A))/\MN Low c w₀ x.N p.1/\LU Low c w₀ x p.2:=λx u=>by obtain⟨ms,h1,h2⟩:=jn (c:=c) w₀ x.N (aw x u).N (aB x u);obtain⟨vs,h3,h4⟩:=ih x u (aD x u) (aw x u);exact⟨(ms,vs),⟨h1,h3⟩,h2,h4⟩
  obtain⟨p,C⟩:∃p:P9->List MI × List MI,∀x∈g,(MIs w₀ (p x).1 (Bc x.N.N)/\MIs w₀ (p x).2 (Bz x.A))/\MN Low c w₀ x.N (p x).1/\LU Low c w₀ x (p x).2:=by
   classical
   refine⟨λx=>if h:∃p:List MI × List MI,(MIs w₀ p.1 (Bc x.N.N)/\MIs w₀ p.2 (Bz x.A))/\MN Low c w₀ x.N p.1/\LU Low c w₀ x p.2 then h.choose else([],[]),λx u=>?_⟩;have h:=aU x u;simp only[h,dite_true];exact h.choose_spec
  clear aU ih;refine⟨cs.map OQ++(g.mapIdx λi x=>Yi g.length i++((p x).1++(p x).2)).flatten,?_,λrest Oo wo vS=>?_⟩;{rw[Wv];have h1:=UG aA;have h2:=gA (n:=g.length) (p:=p) (l:=g) 0 λx u=>(C x u).1;simp only[EF]at h2;rw[Db];exact h1.append h2};obtain⟨E,oZ⟩:∃E:List (List MI),E=g.mapIdx λi x=>Yi g.length i++((p x).1++(p x).2):=⟨_,rfl⟩;have aL:E.length=g.length:=by rw[oZ];simp
  have aZ:∀i(h:i<g.length),E.drop i=(Yi g.length i++((p g[i]).1++(p g[i]).2))::E.drop (i+1):=λi h=>by rw[GL BS];congr 1;subst oZ;rw[List.getElem_mapIdx]
  rw[<-oZ,D4,EJ];have HP:Hid (∀x∈g,MN Low c w₀ x.N (p x).1/\LU Low c w₀ x (p x).2):=λx u=>(C x u).2;have bp:Hid (∀i(h:i<g.length),E.drop i=(Yi g.length i++((p g[i]).1++(p g[i]).2))::E.drop (i+1)):=aZ;have ku:Hid (E.length=g.length):=aL;have fP:Hid (∀e∈cs,Aq w₀ e.av e.ds):=aA;clear oZ aZ aL C aB aD az ax aA;obtain⟨nk,no,nd,na,bv,vI⟩:=n;dsimp only at ag al;subst ag al;generalize vI.length=nl;obtain⟨ar,aH⟩:∃ar,ar=(E.flatten).map MI.val++rest:=⟨_,rfl⟩;rw[<-aH];have a9:Hid (ar=(E.flatten).map MI.val++rest):=aH;clear aH;have bk:=resultsC_none (P:=prog) (fn:=Tryz.f162) rfl;dsimp only;refine Ir func162 Br rfl ?_;simp only[ntmps162,D1,DT,DW,Nat.reduceAdd,Nat.reduceSub,EV,EW,EY,EX,ED,EA];refine Lm (Bh _ _ _) ?_
  (refine Gv (Bh _ _ _) ?_;simp only[D1,DT,DW,EF,List.range,List.range.loop]);refine kB vS #[.int .i64 nk,.int .i64 no,.slice pa nd.length ra,.slice pk nl r1,.slice pc cs.length rc,.slice pd g.length rd] 66 λO1 W1 b1 B y aT bz bM=>?_;try walk_nrm
  obtain⟨O,eO⟩:∃O,O=O1:=⟨_,rfl⟩;subst eO;obtain⟨w,ew⟩:∃w,w=W1:=⟨_,rfl⟩;subst ew;have _Y:=cs6 bM;refine kW ?_;clear _Y;have ao:Hid (∀O' w' W,D2 Low O O' w w'->Keep Low O' w' W->∀r,W.cell? ⟨b1,r,none⟩=(#[.int .i64 nk,.int .i64 no,.slice pa nd.length ra,.slice pk nl r1,.slice pc cs.length rc,.slice pd g.length rd]:Array Value)[r]?):=λO' w' W hE hK r=>(hK.ext.cell (.inl (hE.own _ aT)) r).trans ((hE.cell (.inl aT) r).trans (bM _ (Keep.refl _ _ _) r));clear bM;refine kM (λa' x' O' w'=>∃(u5 aj af ai ah ak gU gQ aG:Value),a'=⟨#[.chan (some c),.agg #[.int .i64 nk,.int .i64 no,.slice pa nd.length ra,.slice pk nl r1,.slice pc cs.length rc,.slice pd g.length rd],undef,.pointer (some ⟨b1,0,none⟩),undef,u5,undef,undef,.pointer (some ⟨b1,4,none⟩),.slice pc cs.length rc,.int .i64 cs.length,aG,aj,af,ai,ah,ak,gU,gQ,undef,undef,undef,undef,undef,undef,undef,undef,undef,undef,undef,undef,undef,undef,undef,undef,undef,undef,undef,undef,undef,undef,undef],[]⟩/\x'=ar/\D2 Low O O' w w'/\Held Low w₀ O' w') ?_ ?_
  .refine Yz (Bh _ _ _) (λn a' x' O' w'=>∃(j:Nat) (u5 aj af ai ah ak gU gQ:Value),j<=cs.length/\n=cs.length - j/\a'=⟨#[.chan (some c), .agg #[.int .i64 nk, .int .i64 no, .slice pa nd.length ra, .slice pk nl r1, .slice pc cs.length rc, .slice pd g.length rd],undef, .pointer (some ⟨b1,0,none⟩),undef,u5,undef,undef, .pointer (some ⟨b1,4,none⟩), .slice pc cs.length rc, .int .i64 cs.length, .int .i64 j,aj,af,ai,ah,ak,gU,gQ,undef,undef,undef,undef,undef,undef,undef,undef,undef,undef,undef,undef,undef,undef,undef,undef,undef,undef,undef,undef,undef,undef,undef],[]⟩/\
    x'=(cs.drop j).map (λe=>(OQ e).val)++ar/\D2 Low O O' w w'/\Held Low w₀ O' w') cs.length ⟨0,undef,undef,undef,undef,undef,undef,undef,undef,EH _,rfl,rfl,by rw[PN,IW];rfl,D2.refl _ _ _,y⟩ ?_
   rintro n _ _ O1 W1⟨j,u5,aj,af,ai,ah,ak,gU,gQ,hj,rfl,rfl,rfl,B,y⟩;dsimp only;by_cases ad:j<cs.length
   .have bj:(j:Int)<(cs.length:Int):=by omega
    obtain⟨b,o,rfl,hb,an,ap⟩:=aC j ad;have bc:cs.drop j=cs[j]::cs.drop (j+1):=GL ad;have aE:=fP _ (DY ad);rw[bc,DZ,EA]
    revert an ap aE
    generalize cs[j]=e;intro an ap aE;obtain⟨qe,se,aJ,-⟩:=aE;obtain⟨nX,rC,bu⟩:=e;dsimp only at aJ an ap;subst aJ;simp only[OQ,MI.val];have iG:Hid (∀W,Keep Low O1 W1 W->W.cell? ⟨b,o+j*2,none⟩=some (.int .i64 nX)/\W.cell? ⟨b,o+j*2+1,none⟩=some (.slice qe rC.length se)):=λW hW=>⟨((y.rely hW).down hb _).trans an,((y.rely hW).down hb _).trans ap⟩
    clear an ap bc aC;have _Y:=iG.out;refine kW ?_;clear _Y;refine N9 (Bh _ _ _) rfl Br ?_ ?_
    .intro _;simp[go_sem];done
    intro w₁ hR K hK;go_simp;refine hK _ _ ?_;clear hK K;obtain⟨O2,eO,s,A,q,ab,H,D⟩:=MQ y hR #[.int .i64 0,.slice none 0 0] 60;rw[<-eO];clear eO
    revert s A q ab H D
    generalize w₁.alloc (.cells #[.int .i64 0,.slice none 0 0] 60)=W2;generalize w₁.heap.size=b2;intro s A q ab H D;replace s:=B.trans s;replace H:∀x,O x->x≠b2:=λx u=>H x (B.own x u)
    clear hR w₁;try walk_nrm
    refine Yf (Bh _ _ _) b2 q rfl Br ?_ ?_
    .intro w₁ hR e he
     have d:=(hR.mine _ q).trans D;have y0:w₁.cell? ⟨b2,0,none⟩=some (.int .i64 0):=cell_of_heap d 0;have z0:w₁.frozen? ⟨b2,0,none⟩=false:=frozen_of_heap d 0;have y1:w₁.cell? ⟨b2,1,none⟩=some (.slice none 0 0):=cell_of_heap d 1;have z1:w₁.frozen? ⟨b2,1,none⟩=false:=frozen_of_heap d 1;clear d;simp[go_sem,events_store_slice,storedEv, *]at he
     (first|(subst he;exact⟨_,_,rfl,.inl q⟩)|(rcases he with rfl|rfl<;>exact⟨_,_,rfl,.inl q⟩)|(rcases he with rfl|rfl|rfl|rfl<;>exact⟨_,_,rfl,.inl q⟩)|(rcases he with rfl|rfl|rfl|rfl|rfl|rfl<;>exact⟨_,_,rfl,.inl q⟩))
    intro w₁ hR K hK;have d:=(hR.mine _ q).trans D;have y0:w₁.cell? ⟨b2,0,none⟩=some (.int .i64 0):=cell_of_heap d 0;have z0:w₁.frozen? ⟨b2,0,none⟩=false:=frozen_of_heap d 0;have y1:w₁.cell? ⟨b2,1,none⟩=some (.slice none 0 0):=cell_of_heap d 1;have z1:w₁.frozen? ⟨b2,1,none⟩=false:=frozen_of_heap d 1;clear d;go_simp;try(unfold stored;go_simp)
    have d:=(hR.mine _ q).trans D;have C:FQ b2 w₁ ((w₁.setCell ⟨b2,0,none⟩ (.int .i64 nX)).setCell ⟨b2,1,none⟩ (.slice qe rC.length se)):=(((FQ.refl _ _).set 0 (.int .i64 nX)).set 1 (.slice qe rC.length se))
    have aa:((w₁.setCell ⟨b2,0,none⟩ (.int .i64 nX)).setCell ⟨b2,1,none⟩ (.slice qe rC.length se)).heap[b2]?=some (.cells #[.int .i64 nX,.slice qe rC.length se] 60):=(heap_setCell (heap_setCell d 0 (.int .i64 nX)) 1 (.slice qe rC.length se))
    refine hK _ _ C ?_;clear hK K d y0 z0 y1 z1 D;replace s:=(s.rely hR).put C ab H;replace A:=(A.rely hR).put C ab
    revert s A aa
    clear C hR;generalize ((w₁.setCell ⟨b2,0,none⟩ (.int .i64 nX)).setCell ⟨b2,1,none⟩ (.slice qe rC.length se))=W2;intro aa s A;have ac:Hid (∀W,Keep Low O2 W2 W->∀r,W.cell? ⟨b2,r,none⟩=(#[.int .i64 nX,.slice qe rC.length se]:Array Value)[r]?):=λW hW r=>(hW.ext.cell (.inl q) r).trans (cell_of_heap aa r)
    clear aa;try walk_nrm
    have oQ:IntKind.i64.wrap ((j:Int)+1)=((j+1:Nat):Int):=yDb
    clear B y hb iG;have _Y:=cs2 ac;refine kW ?_;clear _Y;exact⟨cs.length - (j+1),BS,j+1,_,_,_,_,_,_,_,_,BS,rfl,rfl,rfl,s,A⟩
   .have bi:¬(j:Int)<(cs.length:Int):=by omega
    have hd:cs.drop j=[]:=gd BS;rw[hd];refine kW ?_;exact⟨_,_,_,_,_,_,_,_,_,rfl,by first|rfl|trivial,B,y⟩
  rintro _ _ O1 W1⟨u5,aj,af,ai,ah,ak,gU,gQ,aG,rfl,rfl,pY,zD⟩;dsimp only;replace B:=B.trans pY;clear y;have y:=zD;have a5:Hid (∀O' w' W,D2 Low O1 O' W1 w'->Keep Low O' w' W->∀r,W.cell? ⟨b1,r,none⟩=(#[.int .i64 nk,.int .i64 no,.slice pa nd.length ra,.slice pk nl r1,.slice pc cs.length rc,.slice pd g.length rd]:Array Value)[r]?):=λO' w' W hE hK r=>ao O' w' W (pY.trans hE) hK r;replace aT:=pY.own _ aT;clear ao pY zD aC bh;replace ao:=a5;clear a5;clear O w;obtain⟨O,eO⟩:∃O,O=O1:=⟨_,rfl⟩;subst eO;obtain⟨w,ew⟩:∃w,w=W1:=⟨_,rfl⟩;subst ew;have vT:=D2.refl Low O w;have _Y:=cs6 (λW h=>ao O w W vT h);refine kW ?_;clear _Y;clear vT;rw[a9.out];clear a9
  refine Yz (Bh _ _ _) (λn a' x' O' w'=>∃(j:Nat) (v6 v7 aV a2 aM aX aI bb bg a6 ba aQ aP bf a8 aW a7 aO aN aY aK:Value),j<=g.length/\n=g.length - j/\a'=⟨#[.chan (some c), .agg #[.int .i64 nk, .int .i64 no, .slice pa nd.length ra, .slice pk nl r1, .slice pc cs.length rc, .slice pd g.length rd],undef, .pointer (some ⟨b1,0,none⟩),undef,u5,v6,v7, .pointer (some ⟨b1,4,none⟩), .slice pc cs.length rc, .int .i64 cs.length,aG,aj,af,ai,ah,ak,gU,gQ, .pointer (some ⟨b1,5,none⟩), .slice pd g.length rd, .int .i64 g.length, .int .i64 j,aV,a2,aM,aX,aI,bb,bg,a6,ba,aQ,aP,bf,a8,aW,a7,aO,aN,aY,aK],[]⟩/\
   x'=((E.drop j).flatten).map MI.val++rest/\D2 Low O O' w w'/\Held Low w₀ O' w') g.length ⟨0,undef,undef,undef,undef,undef,undef,undef,undef,undef,undef,undef,undef,undef,undef,undef,undef,undef,undef,undef,undef,undef,EH _,rfl,rfl,by rw[PN],D2.refl _ _ _,y⟩ ?_
  have bn:=B;clear B y;rintro n _ _ O1 W1⟨j,v6,v7,aV,a2,aM,aX,aI,bb,bg,a6,ba,aQ,aP,bf,a8,aW,a7,aO,aN,aY,aK,hj,rfl,rfl,rfl,B,y⟩;dsimp only;by_cases ad:j<g.length
  .have bj:(j:Int)<(g.length:Int):=(by omega);obtain⟨b,o,rfl,hb,hc⟩:=aF j ad;have hm:g[j]∈g:=DY ad;have ae:=aw _ hm;obtain⟨je,ay⟩:=HP _ hm;rw[bp.out j ad,ER,D4,D4,D4,gh,EJ,EJ,EJ]
   revert hc ae je ay
   generalize g[j]=x;intro hc ae je ay;generalize (p x).1=ms1 at*;generalize (p x).2=ms2 at*;obtain⟨S,N,ag⟩:=ae.N.devs;obtain⟨V,M,al,_⟩:=ae.N.K;obtain⟨X,Y,mQ,_⟩:=ae.C;obtain⟨Z,sd,au,_⟩:=ae.K;clear ae;obtain⟨⟨U,J,F,xa,ni,I⟩,bs,R,br,L⟩:=x;dsimp only at ag al mQ au;subst ag al mQ au;have iG:Hid (∀W,Keep Low O1 W1 W->Xq W b (o+j*6) ⟨⟨U,J,F,.slice S F.length N,.slice V I.length M,I⟩,.slice X R.length Y,R,.slice Z L.length sd,L⟩):=λW hW=>hc.held (y.rely hW) hb;have iI:Hid (∀vs O w,Held Low w₀ O w->La prog (okS prog Low c) 160 #[.agg #[.int .i64 U,.int .i64 J,.slice S F.length N,.slice V I.length M]] vs O w λv x' O' w'=>x'=vs/\(∀rest,La prog (okS prog Low c) 184 #[.chan (some c),.int .i64 2,v] (ms1.map MI.val++rest) O' w' λ_ bm rD a3=>bm=rest/\D2 Low O' rD w' a3/\Held Low w₀ rD a3)/\D2 Low O O' w w'/\Held Low w₀ O' w'):=je;have bo:Hid (∀rest O w,Held Low w₀ O w->La prog (okS prog Low c) 162 #[.chan (some c),.agg #[.int .i64 U,.int .i64 J,.slice S F.length N,.slice V I.length M,.slice X R.length Y,.slice Z L.length sd]] (ms2.map MI.val++rest) O w λ_ x' O' w'=>x'=rest/\D2 Low O O' w w'/\Held Low w₀ O' w'):=ay;clear hc hm aF aw HP je ay;have vT:=B;have _Y:=iG.out;simp only[Xq,Wj]at _Y;refine kW ?_;clear _Y;refine N9 (Bh _ _ _) rfl Br ?_ ?_;{intro _;simp[go_sem];done};intro w₁ hR K hK;go_simp;refine hK _ _ ?_;clear hK K;obtain⟨O2,eO,s,A,q,ab,H,D⟩:=MQ y hR #[.int .i64 0,.int .i64 0,.slice none 0 0,.slice none 0 0,.slice none 0 0,.slice none 0 0] 66;rw[<-eO];clear eO
   revert s A q ab H D
   generalize w₁.alloc (.cells #[.int .i64 0,.int .i64 0,.slice none 0 0,.slice none 0 0,.slice none 0 0,.slice none 0 0] 66)=W2;generalize w₁.heap.size=b2;intro s A q ab H D;replace s:=B.trans s;replace H:∀x,O x->x≠b2:=λx u=>H x (B.own x u);clear hR w₁;try walk_nrm
   (refine Qd (Bh _ _ _) rfl Br ?_ ?_;(focus (intro _;first|(simp[go_sem];done)|(simp[go_sem, *];done)));intro _ K hK;go_simp;refine hK _ ?_;clear hK K;try walk_nrm);refine Yf (Bh _ _ _) b2 q rfl Br ?_ ?_
   .intro w₁ hR e he;have d:=(hR.mine _ q).trans D;have y0:w₁.cell? ⟨b2,0,none⟩=some (.int .i64 0):=cell_of_heap d 0;have z0:w₁.frozen? ⟨b2,0,none⟩=false:=frozen_of_heap d 0;have y1:w₁.cell? ⟨b2,1,none⟩=some (.int .i64 0):=cell_of_heap d 1;have z1:w₁.frozen? ⟨b2,1,none⟩=false:=frozen_of_heap d 1;have y2:w₁.cell? ⟨b2,2,none⟩=some (.slice none 0 0):=cell_of_heap d 2;have z2:w₁.frozen? ⟨b2,2,none⟩=false:=frozen_of_heap d 2;have y3:w₁.cell? ⟨b2,3,none⟩=some (.slice none 0 0):=cell_of_heap d 3;have z3:w₁.frozen? ⟨b2,3,none⟩=false:=frozen_of_heap d 3;have y4:w₁.cell? ⟨b2,4,none⟩=some (.slice none 0 0):=cell_of_heap d 4;have z4:w₁.frozen? ⟨b2,4,none⟩=false:=frozen_of_heap d 4;have y5:w₁.cell? ⟨b2,5,none⟩=some (.slice none 0 0):=cell_of_heap d 5;have z5:w₁.frozen? ⟨b2,5,none⟩=false:=frozen_of_heap d 5;clear d;simp[go_sem,events_store_slice,storedEv, *]at he
    (first|(subst he;exact⟨_,_,rfl,.inl q⟩)|(rcases he with rfl|rfl<;>exact⟨_,_,rfl,.inl q⟩)|(rcases he with rfl|rfl|rfl|rfl<;>exact⟨_,_,rfl,.inl q⟩)|(rcases he with rfl|rfl|rfl|rfl|rfl|rfl<;>exact⟨_,_,rfl,.inl q⟩))
   (intro w₁ hR K hK;have d:=(hR.mine _ q).trans D;have y0:w₁.cell? ⟨b2,0,none⟩=some (.int .i64 0):=cell_of_heap d 0;have z0:w₁.frozen? ⟨b2,0,none⟩=false:=frozen_of_heap d 0;have y1:w₁.cell? ⟨b2,1,none⟩=some (.int .i64 0):=cell_of_heap d 1;have z1:w₁.frozen? ⟨b2,1,none⟩=false:=frozen_of_heap d 1;have y2:w₁.cell? ⟨b2,2,none⟩=some (.slice none 0 0):=cell_of_heap d 2;have z2:w₁.frozen? ⟨b2,2,none⟩=false:=frozen_of_heap d 2;have y3:w₁.cell? ⟨b2,3,none⟩=some (.slice none 0 0):=cell_of_heap d 3;have z3:w₁.frozen? ⟨b2,3,none⟩=false:=frozen_of_heap d 3;have y4:w₁.cell? ⟨b2,4,none⟩=some (.slice none 0 0):=cell_of_heap d 4;have z4:w₁.frozen? ⟨b2,4,none⟩=false:=frozen_of_heap d 4;have y5:w₁.cell? ⟨b2,5,none⟩=some (.slice none 0 0):=cell_of_heap d 5;have z5:w₁.frozen? ⟨b2,5,none⟩=false:=frozen_of_heap d 5;clear d;go_simp;try(unfold stored;go_simp));have d:=(hR.mine _ q).trans D;have C:FQ b2 w₁ ((((((w₁.setCell ⟨b2,0,none⟩ (.int .i64 U)).setCell ⟨b2,1,none⟩ (.int .i64 J)).setCell ⟨b2,2,none⟩ (.slice S F.length N)).setCell ⟨b2,3,none⟩ (.slice V I.length M)).setCell ⟨b2,4,none⟩ (.slice X R.length Y)).setCell ⟨b2,5,none⟩ (.slice Z L.length sd)):=(((((((FQ.refl _ _).set 0 (.int .i64 U)).set 1 (.int .i64 J)).set 2 (.slice S F.length N)).set 3 (.slice V I.length M)).set 4 (.slice X R.length Y)).set 5 (.slice Z L.length sd));have aa:((((((w₁.setCell ⟨b2,0,none⟩ (.int .i64 U)).setCell ⟨b2,1,none⟩ (.int .i64 J)).setCell ⟨b2,2,none⟩ (.slice S F.length N)).setCell ⟨b2,3,none⟩ (.slice V I.length M)).setCell ⟨b2,4,none⟩ (.slice X R.length Y)).setCell ⟨b2,5,none⟩ (.slice Z L.length sd)).heap[b2]?=some (.cells #[.int .i64 U,.int .i64 J,.slice S F.length N,.slice V I.length M,.slice X R.length Y,.slice Z L.length sd] 66):=(heap_setCell (heap_setCell (heap_setCell (heap_setCell (heap_setCell (heap_setCell d 0 (.int .i64 U)) 1 (.int .i64 J)) 2 (.slice S F.length N)) 3 (.slice V I.length M)) 4 (.slice X R.length Y)) 5 (.slice Z L.length sd));refine hK _ _ C ?_;clear hK K d y0 z0 y1 z1 y2 z2 y3 z3 y4 z4 y5 z5 D;replace s:=(s.rely hR).put C ab H;replace A:=(A.rely hR).put C ab
   revert s A aa
   clear C hR;generalize ((((((w₁.setCell ⟨b2,0,none⟩ (.int .i64 U)).setCell ⟨b2,1,none⟩ (.int .i64 J)).setCell ⟨b2,2,none⟩ (.slice S F.length N)).setCell ⟨b2,3,none⟩ (.slice V I.length M)).setCell ⟨b2,4,none⟩ (.slice X R.length Y)).setCell ⟨b2,5,none⟩ (.slice Z L.length sd))=W2;intro aa s A;have ac:Hid (∀W,Keep Low O2 W2 W->∀r,W.cell? ⟨b2,r,none⟩=(#[.int .i64 U,.int .i64 J,.slice S F.length N,.slice V I.length M,.slice X R.length Y,.slice Z L.length sd]:Array Value)[r]?):=λW hW r=>(hW.ext.cell (.inl q) r).trans (cell_of_heap aa r);(clear aa;try walk_nrm);have oQ:IntKind.i64.wrap ((j:Int)+1)=((j+1:Nat):Int):=yDb;clear vT B y hb iG;have vT:=s;have _Y:=cs6 (λW h=>ao O2 W2 W vT h);have _B1:=s.own _ aT;refine kW ?_;clear _Y _B1
   (refine Ht (Bh _ _ _) rfl Br rfl (qU g.length j ad aR _ _ _) CN ?_;rintro _ _ O3 W3⟨rfl,rfl,rfl⟩;try walk_nrm);have _Y:=cs6 ac;refine kW ?_;clear _Y
   (refine Ht (Bh _ _ _) rfl Br rfl (iI _ _ _ A) CN ?_;rintro v3 _ O3 W3⟨rfl,aS,iC,bw⟩;try walk_nrm);replace ac:=JH ac iC q;replace q:=iC.own _ q
   (refine Ht (Bh _ _ _) rfl Br rfl (aS _) CN ?_;rintro _ _ O4 W4⟨rfl,fJ,lG⟩;try walk_nrm);clear aS;replace ac:=JH ac fJ q;replace q:=fJ.own _ q;have _Y:=cs6 ac;refine kW ?_;clear _Y
   (refine Ht (Bh _ _ _) rfl Br rfl (bo _ _ _ lG) CN ?_;rintro _ _ O5 W5⟨rfl,bq,lF⟩;try walk_nrm);refine kW ?_;exact⟨g.length - (j+1),BS,j+1,_,_,_,_,_,_,_,_,_,_,_,_,_,_,_,_,_,_,_,_,_,BS,rfl,rfl,rfl,((s.trans iC).trans fJ).trans bq,lF⟩
  have bi:¬(j:Int)<(g.length:Int):=by omega
  have hd:E.drop j=[]:=gd (by rw[ku.out];omega);rw[hd];refine kW ?_;exact⟨rfl,_,bk _,rfl,bn.trans B,y⟩
end Go.Proofs.YthdogflpbpkbeaaGreatDoor
namespace Go.Co
open Stil Go.Conc
section
variable {cs:List Frame}{k:List Item}{ops:Array Oper}
variable {τ:Type}{P:Program}{main:Bool}{Low:Nat}{pre:τ -> World -> Prop}{ok:τ -> (Nat -> Prop) -> World -> Goroutine -> Prop}{fn:FuncId}{a:Act}{x:τ}{O:Nat -> Prop}{w:World}
theorem MH(T:OkL P main Low pre ok){b:Frame}{c d:Code}(j:b.fn=fn)(l:b.kind≠.early)
  (h:WpK ok fn c (Wu (λg f O' w'=>ok f O' w' (G (b.at g (.code d::k)) cs)) (λ_ _ _ _ _=>False)) a x O w):ok x O w (G (b.at a (.code (.seq c d)::k)) cs):=by
 refine T.ctl rfl rfl (λ_=>stepG_seq) (h b (.code d::k) cs j l λe g f O' w' q=>?_);cases e with
 |normal=>exact q|_=>exact q.elim
def Au1(T:OkL P main Low pre ok){b:Frame}{d:Nat}(h:ok x O w (G (b.at a (.inRegion ops (List.range ops.size)::k)) cs)):ok x O w (G (b.at a (.code (.region d ops false)::k)) cs):=
 T.ctl rfl rfl (λ_=>stepG_region) h
theorem ki(T:OkL P main Low pre ok){b:Frame}{i:Nat}{rest:Γ}{o:Oper}{v:AW}(f:ops[i]?=some o)(g:Region.wanted o (yielded ops a.tmps)=true)(j:b.kind≠.early)
  (hr:∀d:AU,(execOp a.eval o).run P d=.ok (.value v) d) (e:∀d:AU,(execOp a.eval o).events P d #[]=#[]) (h:ok x O w (G (b.at (a.put o.dst v) (.inRegion ops rest::k)) cs)):ok x O w (G (b.at a (.inRegion ops (i::rest)::k)) cs):=by refine T.ctl rfl rfl (λd=>?_) h;rw[stepG_value f g j (hr d)];unfold listed;rw[e,seen_none]
end
end Go.Co
namespace Go.Proofs.YthdogflpbpkbeaaGreatDoor
open Tryz Stil Go.RowKit Go.Sort Go.BigFrame Go.Conc Go.Co
variable {Low c:Nat}
theorem qT(w₀:AU)(m:P9)(hg:I0 m.A)(F:IL m.N.N)(S:Ad m.N.N<=1000000)(d:VOk Low w₀ m):∃Y,MIs w₀ Y (Ed m.A)/\∀w O,Held Low w₀ O w->
  okS prog Low c (Y.map MI.val) O w (born prog (dcall 119 #[.chan (some c),.agg #[AB m.N.kind,AB m.N.op,m.N.av,m.N.kv,m.cv,m.kv]])):=by
 have⟨D,h1,n⟩:=UI (c:=c) w₀ m.N F S d.N;have⟨M,h2,r⟩:=qS (c:=c) w₀ m hg d;refine⟨D++(M++[mi0 11]),?_,λw O hF=>?_⟩
 .unfold Ed;rw[show m.A.N=m.N.N by rw[P9.Ae]];exact h1.append (h2.snoc 11)
 have⟨q,l,I⟩:=d.N.devs;have⟨A,C,H,_⟩:=d.N.K;have⟨N,U,X,_⟩:=d.C;have⟨E,J,R,_⟩:=d.K;clear h1 h2 d hg F S;obtain⟨⟨s,no,u,na,nv,j⟩,cv,cs,kv,L⟩:=m;dsimp only at I H X R n r⊢;subst I H X R;rw[D4,D4,DZ,FI,MI.val,mi0];refine kg func119 Br rfl ?_;have HB:=BZ n;have Z:=BZ r;clear n r;simp only[ntmps119,D1,DT,DW,Nat.reduceAdd,Nat.reduceSub,EV,EW,EY,EX,ED,EA];refine MH (Bh _ _ _) (fn:=119) rfl yEg ?_
 (refine Gv (Bh _ _ _) ?_;simp only[D1,DT,DW,EF,List.range,List.range.loop]);refine kB hF #[AB s,AB no,AE q u.l l,AE A j.l C,AE N cs.l U,AE E L.l J] 66 λO1 W1 b1 ae ab y ad g=>?_;try walk_nrm
 refine Qu (Bh _ _ _) ?_;simp only[Wu];refine MH (Bh _ _ _) (fn:=119) rfl yEg ?_;have _Y:=cs6 g;refine kW ?_;clear _Y
 (refine Ht (Bh _ _ _) rfl Br rfl (HB _ _ _ ab) CN ?_;rintro _ _ O2 W2⟨rfl,V,aa⟩;try walk_nrm);replace g:=JH g V y;replace y:=V.own _ y;refine Qu (Bh _ _ _) ?_;simp only[Wu];refine MH (Bh _ _ _) (fn:=119) rfl yEg ?_;have _Y:=cs6 g;refine kW ?_;clear _Y
 (refine Ht (Bh _ _ _) rfl Br rfl (Z _ _ _ aa) CN ?_;rintro _ _ O3 W3⟨rfl,iC,ac⟩;try walk_nrm);refine Qu (Bh _ _ _) ?_;simp only[Wu];refine MH (Bh _ _ _) (fn:=119) rfl yEg ?_;refine kW ?_;refine Au1 (Bh _ _ _) ?_;simp only[D1,DT,DW,Nat.reduceAdd,EF,List.range,List.range.loop];refine ki (Bh _ _ _) rfl Br yEg (v:=.chan (some c)) (λ_=>by go_simp) (λ_=>by simp[go_sem]) ?_;refine Aze rfl Br yEg rfl xCm BW ?_ (Ayx func119 rfl rfl);rfl
variable {Low:Nat}{Stop:AX -> AU -> Prop}
def VI(Low:Nat)(w₀:AU)(m:P9)(f:Nat->List MI):Prop:=∀c w O,Held Low w₀ O w->
 okS prog Low c ((f c).map MI.val) O w (born prog (dcall 119 #[.chan (some c),.agg #[AB m.N.kind,AB m.N.op,m.N.av,m.N.kv,m.cv,m.kv]]))
def take_snoc{α:Type}(l:List α)(j:Nat)(h:j<l.length):l.take (j+1)=l.take j++[l[j]]:=by rw[List.take_add_one,FA h];rfl
def Az5:(prog.info? 119).map (λi=>(i.zero,i.size,i.bytes))=some (some (.chan none),1,8):=BW
def rA(w:AU):Sem.run prog (Instr.makeChan 119 (AB 0)) w=.ok (.chan (some w.heap.size)) (w.alloc (.chan 0 #[] false 0 0 false)):=by have⟨f,hi,e,d,g⟩:=info_parts RU;exact run_makeChan underlying119 hi .i64 0 BS BS
def gx(w:AU):Sem.events prog (Instr.makeChan 119 (AB 0)) w #[]=#[]:=by have⟨f,hi,e,d,g⟩:=info_parts RU;exact events_makeChan underlying119 hi .i64 0 BS BS _
theorem qD(w₀:World)(ms:List P9)(f:P9->Nat->List MI)(a:Option Addr)(cap:Nat)(az:∀i(h:i<ms.length),∃b o,a=some ⟨b,o,none⟩/\b<Low/\Xq w₀ b (o+i*6) ms[i])(aO:∀m∈ms,VOk Low w₀ m)(aw:∀m∈ms,VI Low w₀ m (f m))(hl:ms.length<=1000)(Oo:Nat->Prop)(wo:World)(vS:Held Low w₀ Oo wo):
  La prog (okR prog Low Stop) 69 #[.slice a ms.length cap] [] Oo wo λv x' O' w'=>∃cs:List Nat,cs.length=ms.length/\x'=List.zipWith (λc m=>(c,(f m c).map MI.val,false)) cs ms/\
   w'.ownsRow Low 119 1 v ms.length (cs.map λc=>.chan (some c))/\(∀k,v.ownBlock=some k->O' k)/\Held Low w₀ O' w':=by
 have aQ:=resultsC_tmp (P:=prog) (fn:=Tryz.f69) rfl;have aS:=BZ aO;have aP:=BZ aw;have aU:=BZ az;clear aO aw az;refine Ir func69 Br rfl ?_;simp only[ntmps69,D1,DT,DW,Nat.reduceAdd,Nat.reduceSub,EV,EW,EY,EX,ED,EA];refine kV ?_
 refine Yz (Bo _ _ _) (λn a' x' O' w'=>∃(j:Nat) (cs:List Nat) (sv u5 u6 aG aM aD ar aA ay aH gU gQ kU aJ:Value),j<=ms.length/\n=ms.length - j/\a'=⟨#[.slice a ms.length cap,undef, .slice none 0 0,sv,undef,u5,u6, .slice a ms.length cap, .int .i64 ms.length, .int .i64 j,aG,aM,aD,ar,aA,ay,aH,gU,gQ,kU,aJ,undef],[]⟩/\
  cs.length=j/\x'=List.zipWith (λc m=>(c,(f m c).map MI.val,false)) cs (ms.take j)/\w'.ownsRow Low 119 1 sv j (cs.map λc=>.chan (some c))/\(∀k,sv.ownBlock=some k->O' k)/\Held Low w₀ O' w') ms.length
  ⟨0,[],.slice none 0 0,undef,undef,undef,undef,undef,undef,undef,undef,undef,undef,undef,undef,undef,EH _,rfl,rfl,rfl,rfl,World.ownsRow_nil _ _ _ _,(λk q=>by cases q),vS⟩ ?_
 rintro n _ _ O w⟨j,cs,sv,u5,u6,aG,aM,aD,ar,aA,ay,aH,gU,gQ,kU,aJ,hj,rfl,rfl,ak,rfl,hS,yZ,ae⟩;try dsimp only
 by_cases an:j<ms.length
 .have aZ:(j:Int)<(ms.length:Int):=by omega
  obtain⟨b,o,rfl,hb,hc⟩:=aU j an;have hm:=DY an;have Z:=aS _ hm;have ac:=aP _ hm;have lI:=BZ (take_snoc ms j an);have uJ:Hid ((ms.take j).length=j):=by show _=_;rw[FP];omega
  revert hc Z ac lI
  generalize ms[j]=x;intro hc Z ac lI;obtain⟨fx,al⟩:∃fx,fx=f x:=⟨_,rfl⟩;have lq:=BZ al;rw[<-al]at ac;clear al;obtain⟨N,H,av⟩:=Z.N.devs;obtain⟨T,E,aK,_⟩:=Z.N.K;obtain⟨A,B,mQ,_⟩:=Z.C;obtain⟨F,M,aN,_⟩:=Z.K;clear Z;obtain⟨⟨R,C,L,xa,ni,S⟩,aX,J,aW,D⟩:=x;dsimp only at av aK mQ aN;subst av aK mQ aN;have iG:=BZ (λW(hW:Keep Low O w W)=>hc.held (ae.rely hW) hb);have aR:Hid (∀c w O,Held Low w₀ O w->okS prog Low c ((fx c).map MI.val) O w (born prog (dcall 119 #[.chan (some c),.agg #[.int .i64 R,.int .i64 C,.slice N L.length H,.slice T S.length E,.slice A J.length B,.slice F D.length M]]))):=ac;clear hc hm ac;have ao:=D2.refl Low O w;have _Y:=iG.out;simp only[Xq,Wj]at _Y;refine kV ?_;clear _Y;refine N9 (Bo _ _ _) rfl Br ?_ ?_;{intro _;simp[go_sem];done};intro d hR K hK;go_simp;refine hK _ _ ?_;clear hK K;obtain⟨O2,U,s,X,r,ag,dB,ab⟩:=MQ ae hR #[.int .i64 0,.int .i64 0,.slice none 0 0,.slice none 0 0,.slice none 0 0,.slice none 0 0] 66;rw[<-U];clear U
  revert s X r ag dB ab
  generalize d.alloc (.cells #[.int .i64 0,.int .i64 0,.slice none 0 0,.slice none 0 0,.slice none 0 0,.slice none 0 0] 66)=W2;generalize d.heap.size=b2;intro s X r ag dB ab;replace s:=ao.trans s;replace dB :=λx hx=>dB x (ao.own x hx);clear hR d;try walk_nrm
  refine Yf (Bo _ _ _) b2 r rfl Br ?_ ?_
  .intro d hR e he;have l:=(hR.mine _ r).trans ab;have y0:d.cell? ⟨b2,0,none⟩=some (.int .i64 0):=cell_of_heap l 0;have z0:=frozen_of_heap l 0;have y1:d.cell? ⟨b2,1,none⟩=some (.int .i64 0):=cell_of_heap l 1;have z1:=frozen_of_heap l 1;have y2:d.cell? ⟨b2,2,none⟩=some (.slice none 0 0):=cell_of_heap l 2;have z2:=frozen_of_heap l 2;have y3:d.cell? ⟨b2,3,none⟩=some (.slice none 0 0):=cell_of_heap l 3;have z3:=frozen_of_heap l 3;have y4:d.cell? ⟨b2,4,none⟩=some (.slice none 0 0):=cell_of_heap l 4;have z4:=frozen_of_heap l 4;have y5:d.cell? ⟨b2,5,none⟩=some (.slice none 0 0):=cell_of_heap l 5;have z5:=frozen_of_heap l 5;clear l;simp[go_sem,events_store_slice,storedEv, *]at he
   (first|(subst he;exact⟨_,_,rfl,.inl r⟩)|(rcases he with rfl|rfl<;>exact⟨_,_,rfl,.inl r⟩)|(rcases he with rfl|rfl|rfl|rfl<;>exact⟨_,_,rfl,.inl r⟩)|(rcases he with rfl|rfl|rfl|rfl|rfl|rfl<;>exact⟨_,_,rfl,.inl r⟩))
  intro d hR K hK;have l:=(hR.mine _ r).trans ab;have y0:d.cell? ⟨b2,0,none⟩=some (.int .i64 0):=cell_of_heap l 0;have z0:=frozen_of_heap l 0;have y1:d.cell? ⟨b2,1,none⟩=some (.int .i64 0):=cell_of_heap l 1;have z1:=frozen_of_heap l 1;have y2:d.cell? ⟨b2,2,none⟩=some (.slice none 0 0):=cell_of_heap l 2;have z2:=frozen_of_heap l 2;have y3:d.cell? ⟨b2,3,none⟩=some (.slice none 0 0):=cell_of_heap l 3;have z3:=frozen_of_heap l 3;have y4:d.cell? ⟨b2,4,none⟩=some (.slice none 0 0):=cell_of_heap l 4;have z4:=frozen_of_heap l 4;have y5:d.cell? ⟨b2,5,none⟩=some (.slice none 0 0):=cell_of_heap l 5;have z5:=frozen_of_heap l 5;clear l;go_simp;try(unfold stored;go_simp)
  have l:=(hR.mine _ r).trans ab;have hp:FQ b2 d ((((((d.setCell ⟨b2,0,none⟩ (.int .i64 R)).setCell ⟨b2,1,none⟩ (.int .i64 C)).setCell ⟨b2,2,none⟩ (.slice N L.length H)).setCell ⟨b2,3,none⟩ (.slice T S.length E)).setCell ⟨b2,4,none⟩ (.slice A J.length B)).setCell ⟨b2,5,none⟩ (.slice F D.length M)):=(((((((FQ.refl _ _).set 0 (.int .i64 R)).set 1 (.int .i64 C)).set 2 (.slice N L.length H)).set 3 (.slice T S.length E)).set 4 (.slice A J.length B)).set 5 (.slice F D.length M));have af:((((((d.setCell ⟨b2,0,none⟩ (.int .i64 R)).setCell ⟨b2,1,none⟩ (.int .i64 C)).setCell ⟨b2,2,none⟩ (.slice N L.length H)).setCell ⟨b2,3,none⟩ (.slice T S.length E)).setCell ⟨b2,4,none⟩ (.slice A J.length B)).setCell ⟨b2,5,none⟩ (.slice F D.length M)).heap[b2]?=some (.cells #[.int .i64 R,.int .i64 C,.slice N L.length H,.slice T S.length E,.slice A J.length B,.slice F D.length M] 66):=(heap_setCell (heap_setCell (heap_setCell (heap_setCell (heap_setCell (heap_setCell l 0 (.int .i64 R)) 1 (.int .i64 C)) 2 (.slice N L.length H)) 3 (.slice T S.length E)) 4 (.slice A J.length B)) 5 (.slice F D.length M));refine hK _ _ hp ?_;clear hK K l y0 z0 y1 z1 y2 z2 y3 z3 y4 z4 y5 z5 ab;replace s:=(s.rely hR).put hp ag dB;replace X:=(X.rely hR).put hp ag
  revert s X af
  clear hp hR;generalize ((((((d.setCell ⟨b2,0,none⟩ (.int .i64 R)).setCell ⟨b2,1,none⟩ (.int .i64 C)).setCell ⟨b2,2,none⟩ (.slice N L.length H)).setCell ⟨b2,3,none⟩ (.slice T S.length E)).setCell ⟨b2,4,none⟩ (.slice A J.length B)).setCell ⟨b2,5,none⟩ (.slice F D.length M))=W2;intro af s X;have V:Hid (∀W,Keep Low O2 W2 W->∀u,W.cell? ⟨b2,u,none⟩=(#[.int .i64 R,.int .i64 C,.slice N L.length H,.slice T S.length E,.slice A J.length B,.slice F D.length M]:Array Value)[u]?):=λW hW u=>(hW.ext.cell (.inl r) u).trans (cell_of_heap af u);clear af;try walk_nrm
  have oQ:IntKind.i64.wrap ((j:Int)+1)=((j+1:Nat):Int):=yDb;replace hS:=s.row hS (λk q=>.inl (yZ k q));have aI:Hid (some b2≠sv.ownBlock):=λe=>dB b2 (yZ b2 e.symm) rfl;have pO:=λk q=>s.own _ (yZ k q);clear ao ae hb iG yZ s dB;repeat(first|(first|refine Lm (Bo _ _ _) ?_|refine Tm (Bo _ _ _) ?_|refine Wq (Bo _ _ _) ?_|refine Tj (Bo _ _ _) ?_|refine KJ (Bo _ _ _) ?_|refine Ws (Bo _ _ _) ?_|refine Qu (Bo _ _ _) ?_)|(simp only[Wu,Nr,if_true,EL,reduceIte,Nat.reduceEqDiff]))
  (refine Gv (Bo _ _ _) ?_;simp only[D1,DT,DW,Nat.reduceAdd,EF,List.range,List.range.loop]);refine N9 (Bo _ _ _) rfl Br ?_ ?_;{intro W1;simp[go_sem,gx];done};intro d hR K hK;have aV:=rA d;go_simp;refine hK _ _ ?_;clear hK K aV;obtain⟨O3,U,Y,ai,I,ap,ah,aa⟩:=PP X hR (.chan 0 #[] false 0 0 false);rw[<-U];clear U
  revert Y ai I ap ah aa
  generalize d.alloc (.chan 0 #[] false 0 0 false)=W3;generalize d.heap.size=b3;intro Y ai I ap ah aa;clear hR d;try walk_nrm
  replace V:=JH V Y r;replace r:=Y.own _ r;replace hS:=Y.row hS (λk q=>.inl (pO k q));have uS:Hid (some b3≠sv.ownBlock):=λe=>ah b3 (pO b3 e.symm) rfl;have uA:=λk q=>Y.own _ (pO k q);clear pO Y ah X
  (refine Qd (Bo _ _ _) rfl Br ?_ ?_;(focus (intro _;first|(simp[go_sem];done)|(simp[go_sem, *];done)));intro _ K hK;go_simp;refine hK _ ?_;clear hK K;try walk_nrm);repeat(first|(first|refine Lm (Bo _ _ _) ?_|refine Tm (Bo _ _ _) ?_|refine Wq (Bo _ _ _) ?_|refine Tj (Bo _ _ _) ?_|refine KJ (Bo _ _ _) ?_|refine Ws (Bo _ _ _) ?_|refine Qu (Bo _ _ _) ?_)|(simp only[Wu,Nr,if_true,EL,reduceIte,Nat.reduceEqDiff]))
  (refine Gv (Bo _ _ _) ?_;simp only[D1,DT,DW,Nat.reduceAdd,EF,List.range,List.range.loop])
  (refine Qd (Bo _ _ _) rfl Br ?_ ?_;(focus (intro _;first|(simp[go_sem];done)|(simp[go_sem, *];done)));intro _ K hK;go_simp;refine hK _ ?_;clear hK K;try walk_nrm)
  (refine Qd (Bo _ _ _) rfl Br ?_ ?_;(focus (intro _;first|(simp[go_sem];done)|(simp[go_sem, *];done)));intro _ K hK;go_simp;refine hK _ ?_;clear hK K;try walk_nrm);refine N9 (Bo _ _ _) rfl Br ?_ ?_;{intro W1;simp[go_sem];done};intro d hR K hK;go_simp;refine hK _ _ ?_;clear hK K;obtain⟨O4,U,Q,lG,ad,ax,uC,pX⟩:=PP ai hR (.cells #[.chan (some b3)] 119);rw[<-U];clear U
  revert Q lG ad ax uC pX
  generalize d.alloc (.cells #[.chan (some b3)] 119)=W4;generalize d.heap.size=b4;intro Q lG ad ax uC pX;clear hR d;try walk_nrm
  replace V:=JH V Q r;replace r:=Q.own _ r;replace hS:=Q.row hS (λk q=>.inl (uA k q));have yY:=λk q=>Q.own _ (uA k q);replace aa:=(Q.mine _ I).trans aa;replace I:=Q.own _ I;clear uA Q uC ai;obtain⟨i0,hi,aC,aF,aE⟩:=info_parts Az5;refine XC (Bo _ _ _) rfl Br (.tmp 14) (.tmp 16) 117 rfl 119 i0 (.chan none) 1 8 underlying117 hi aC aF aE rfl BX sv j _ CN hS yY b4 1 [.chan (some b3)] CN rfl ad ?_ ?_ ?_ ?_ lG ?_;{intro jj aT hu;rw[cell_of_heap pX];simpa using hu};{intro aT hu;rw[List.mem_singleton.1 hu];rfl};{simp only[maxLen];omega};{omega};clear hi aC aF aE i0;intro v5 W5 O5 aL pM _ uB aj y;try walk_nrm
  have au:Hid (∀W,Keep Low O5 W5 W->∀u,W.cell? ⟨b2,u,none⟩=(#[.int .i64 R,.int .i64 C,.slice N L.length H,.slice T S.length E,.slice A J.length B,.slice F D.length M]:Array Value)[u]?):=λW hW u=>(World.cell?_of_block (a:=⟨b2,u,none⟩) ((hW.mine _ (uB _ r)).trans (aj _ r aI.out))).trans (V _ (Keep.refl _ _ _) u);have aB:=(aj _ I uS.out).trans aa;replace I:=uB _ I;replace r:=uB _ r;clear V aj uB yY hS lG aa pX ad aI uS;have V:=au;clear au
  (refine Qd (Bo _ _ _) rfl Br ?_ ?_;(focus (intro _;first|(simp[go_sem];done)|(simp[go_sem, *];done)));intro _ K hK;go_simp;refine hK _ ?_;clear hK K;try walk_nrm);repeat(first|(first|refine Lm (Bo _ _ _) ?_|refine Tm (Bo _ _ _) ?_|refine Wq (Bo _ _ _) ?_|refine Tj (Bo _ _ _) ?_|refine KJ (Bo _ _ _) ?_|refine Ws (Bo _ _ _) ?_|refine Qu (Bo _ _ _) ?_)|(simp only[Wu]))
  (refine Gv (Bo _ _ _) ?_;simp only[D1,DT,DW,Nat.reduceAdd,EF,List.range,List.range.loop]);have _Y:=cs6 V;refine kV ?_;clear _Y;refine oq (c:=b3) (vs:=(fx b3).map MI.val) rfl Br ?_ ?_ I ⟨_,_,aB⟩ (aR b3 _ _ ⟨y.still,y.low,λ_ h=>h.elim,y.os,y.out⟩) ?_;{intro W1;go_simp;rfl};{intro W1;simp[go_sem]};try walk_nrm
  refine kV ?_;refine⟨ms.length - (j+1),BS,j+1,cs++[b3],v5,_,_,_,_,_,_,_,_,_,_,_,_,_,BS,rfl,rfl,by rw[DV,ak];rfl,?_,?_,λk q=>⟨pM k q,λe=>?_⟩,⟨y.still,y.low,λk q=>y.up k q.1,y.os,y.out⟩⟩;{rw[lI.out,List.zipWith_append (by rw[uJ.out,ak]),lq.out];rfl};{rw[D4];exact aL};subst e;rcases aL.2 with⟨hv,_⟩|⟨g,a2,cur,hv,_,hg,_⟩;{rw[hv]at q;cases q};rw[hv]at q;cases q;rw[aB]at hg;cases hg
 have aY:¬(j:Int)<(ms.length:Int):=by omega
 obtain rfl:j=ms.length:=BS;refine kV ?_;refine⟨rfl,_,aQ _,cs,ak,by rw[JO],hS,yZ,ae⟩
end Go.Proofs.YthdogflpbpkbeaaGreatDoor
namespace Go.Co
open Go.Conc
section
variable {τ:Type}{P:Program}{main:Bool}{Low:Nat}{pre:τ -> World -> Prop}{ok:τ -> (Nat -> Prop) -> World -> Goroutine -> Prop}{fn:FuncId}{a:Act}{x:τ}{O:Nat -> Prop}{w:World}{b:Frame}{k:List Item}{cs:List Frame}
theorem ov{ops:Array Oper}{todo:Γ}(g:b.fn=fn)(j:b.kind≠.early)(h:Vf ok fn ops todo (Wu (λf d O' w'=>ok d O' w' (G (b.at f k) cs)) (λ_ _ _ _ _=>False)) a x O w):ok x O w (G (b.at a (.inRegion ops todo::k)) cs):=by refine h b k cs g j λe f d O' w' q=>?_;cases e with|normal=>exact q|_=>exact q.elim
theorem kj{c:Code}(g:b.fn=fn)(j:b.kind≠.early)(h:WpK ok fn c (Wu (λf d O' w'=>ok d O' w' (G (b.at f k) cs)) (λ_ _ _ _ _=>False)) a x O w):ok x O w (G (b.at a (.code c::k)) cs):=by refine h b k cs g j λe f d O' w' q=>?_;cases e with|normal=>exact q|_=>exact q.elim
end
variable {c i:Nat}{cs:Γ}
def LSt(cs:Γ)(f:List (Θ))(i:Nat)(g:Θ)(L:List (Nat × Θ × Bool)):Prop:=
 (∀t,t<i->∀e,L[t]?=some e->e.2.2=true)/\L.length=cs.length/\(∀c,cs[i]?=some c->L[i]?=some (c,g,false))/\∀t c d,i<t->cs[t]?=some c->f[t]?=some d->L[t]?=some (c,d,false)
def LSt.begin(cs:Γ)(d:List (Θ))(hl:d.length=cs.length)(f:Θ)(hr:∀r,d[0]?=some r->r=f):LSt cs d 0 f (List.zipWith (λc g=>(c,g,false)) cs d):=by
 refine⟨λt l=>by omega,by simp[hl],λc e=>?_,λt c g _ e j=>?_⟩
 .rw[List.getElem?_zipWith,e];have h:0<d.length:=by have:=(BO.1 e).1;omega
  rw[FA h];simp only;rw[hr _ (FA h)]
 rw[List.getElem?_zipWith,e,j]
theorem LSt.recv{j:List (Θ)}{v:AW}{f:Θ}{L:List (Nat × Θ × Bool)}(h:LSt cs j i (v::f) L)(m:cs[i]?=some c):LSt cs j i f (L.set i (c,f,false)):=by
 have hi:i<L.length:=by rw[h.2.1];exact(BO.1 m).1
 refine⟨λt g e l=>h.1 t g e ?_,by rw[PI];exact h.2.1,λn d=>?_,λt n o g d q=>?_⟩
 .rwa[ES BS]at l
 .rw[m]at d;cases d;rw[Gk hi]
 rw[ES BS];exact h.2.2.2 t n o g d q
theorem LSt.done{d:List (Θ)}{L:List (Nat × Θ × Bool)}(h:LSt cs d i [] L)(o:cs[i]?=some c)(hl:d.length=cs.length)(m:Θ)(hr:∀r,d[i+1]?=some r->r=m):LSt cs d (i+1) m (L.set i (c,[],true)):=by
 have hi:i<L.length:=by rw[h.2.1];exact(BO.1 o).1
 refine⟨λt q e j=>?_,by rw[PI];exact h.2.1,λl f=>?_,λt l s q f g=>?_⟩
 .by_cases n:t=i;{subst n;rw[Gk hi]at j;cases j;rfl};rw[ES (λe=>n e.symm)]at j;exact h.1 t BS e j
 .rw[ES BS];have u:i+1<d.length:=by rw[hl];exact(BO.1 f).1
  have g:=FA u;have:=h.2.2.2 (i+1) l _ BS f g;rw[this,hr _ g]
 rw[ES BS];exact h.2.2.2 t l s BS f g
end Go.Co
namespace Go.Proofs.YthdogflpbpkbeaaGreatDoor
open Tryz Go.RowKit Go.Sort Go.BigFrame Go.Conc Go.Co
variable {Low:Nat}{Stop:AX -> AU -> Prop}
def Wh(f:P9->Nat->List MI)(cs:Γ)(ms:List P9):List (List MI):=List.zipWith (λc m=>f m c) cs ms
theorem eA(f:P9->Nat->List MI):∀(cs:Γ)(ms:List P9),List.zipWith (λc m=>(c,(f m c).map MI.val,false)) cs ms=List.zipWith (λc d=>(c,d,false)) cs ((Wh f cs ms).map (·.map MI.val))
 |[],_=>by simp[Wh]
 |c::cs,[]=>by simp[Wh]
 |c::cs,m::ms=>by
  have:=eA f cs ms
  simp only[Wh,gg,DZ]at this⊢;rw[this]
theorem qE(w₀:AU)(ms:List P9)(f:P9->Nat->List MI)(aa:Δ)(cap:Nat)(aT:∀i(h:i<ms.length),∃b o,aa=some (AK b o)/\b<Low/\Xq w₀ b (o+i*6) ms[i])(bg:∀m∈ms,VOk Low w₀ m)(aQ:∀m∈ms,VI Low w₀ m (f m))(hl:ms.length<=1000)
  (bb:∀cs:Γ,cs.length=ms.length->(Wh f cs ms).flatten.length<=1000000) (aN:∀m∈ms,∀c,∀x∈f m c,Aq w₀ x.e.av x.e.ds) (Oo:Φ) (wo:AU) (vS:Held Low w₀ Oo wo) (T:AW) (vV:List Frame)
  {c0 c1 blk tl:Code} {id:Nat} {ops:Array Oper} (aC:Tryz.f33.body=some (.seq c0 (.seq c1 (.seq (.seq (.region id ops false) blk) (.seq tl .ret)))))
  (aM:∀(y:Act) (w':AU) (v:AW) (cs:Γ),y.defers=[]->ResultsC prog Tryz.f33 y.tmps v->cs.length=ms.length->w'.ownsRow Low 73 3 v (Wh f cs ms).flatten.length (Pn (Wh f cs ms).flatten)->Held Low w₀ (λ_=>False) w'->
   Stop (G {(base 33).at y [.code .ret] with mode:=.returning} vV) w'):
  okR prog Low Stop [] Oo wo (G ((base 33).at ⟨#[T,AQ,AG,AG,AQ,AQ,AQ,T,.slice aa ms.length cap,AQ,AQ,AQ,AQ,AQ,AQ,AQ,AQ,AQ,AQ,AQ,AQ,AQ,AQ,AQ,AQ],[]⟩ [.inRegion ops [2,3,4],.code blk,.code (.seq tl .ret)]) vV):=by
 unfold Tryz.f33 at aC;dsimp only at aC;cases aC;have bh:=resultsC_tmp (P:=prog) (fn:=Tryz.f33) rfl
 have a7:Hid (∀(y:Act) (w':AU) (v:AW) (cs:Γ),y.defers=[]->ResultsC prog Tryz.f33 y.tmps v->cs.length=ms.length->w'.ownsRow Low 73 3 v (Wh f cs ms).flatten.length (Pn (Wh f cs ms).flatten)->Held Low w₀ (λ_=>False) w'->
   Stop (G {(base 33).at y [.code .ret] with mode:=.returning} vV) w'):=aM
 have ba:Hid (∀cs:Γ,cs.length=ms.length->(Wh f cs ms).flatten.length<=1000000):=bb;have aY:Hid (∀m∈ms,∀c,∀x∈f m c,Aq w₀ x.e.av x.e.ds):=aN;clear aM bb aN;have oD:=λO w h=>qD (Stop:=Stop) w₀ ms f aa cap aT bg aQ hl O w h
 have yj:Hid (∀O w,Held Low w₀ O w->La prog (okR prog Low Stop) 69 #[.slice aa ms.length cap] [] O w λv x' O' w'=>∃cs:Γ,cs.length=ms.length/\x'=List.zipWith (λc m=>(c,(f m c).map MI.val,false)) cs ms/\
   w'.ownsRow Low 119 1 v ms.length (cs.map λc=>.chan (some c))/\(∀k,v.ownBlock=some k->O' k)/\Held Low w₀ O' w'):=oD
 clear oD aT bg aQ;obtain⟨nv,aJ⟩:=AA (Value.slice aa ms.length cap);rw[<-aJ]at yj⊢;clear aJ;refine ov (fn:=33) rfl DI ?_
 (refine Ht (Bo _ _ _) rfl Br rfl (yj _ _ vS) CN ?_;rintro B _ O1 W1⟨cs,ad,rfl,A,E,I⟩;try walk_nrm);clear yj;obtain⟨a9,al,Y⟩:=VX A;rw[Y];refine kV ?_;rw[<-Y];clear Y a9 al;rw[eA];have lu:Hid (∀l∈Wh f cs ms,∀x∈l,Aq w₀ x.e.av x.e.ds):=by intro l bi x hx;obtain⟨i,hi,rfl⟩:=List.mem_iff_getElem.1 bi;simp only[Wh,List.getElem_zipWith]at hx;exact aY _ (DY _) _ x hx
 have bc:(Wh f cs ms).length=cs.length:=by simp[Wh,ad]
 have bv:=ba cs ad
 have dH:Hid (∀(y:Act) (w':AU) (v:AW),y.defers=[]->ResultsC prog Tryz.f33 y.tmps v->w'.ownsRow Low 73 3 v (Wh f cs ms).flatten.length (Pn (Wh f cs ms).flatten)->Held Low w₀ (λ_=>False) w'->
   Stop (G {(base 33).at y [.code .ret] with mode:=.returning} vV) w'):=λy w' v h1 h2 h3 h4=>a7 y w' v cs h1 h2 ad h3 h4
 clear a7 ba aY;generalize Wh f cs ms=bP at*;obtain⟨u,a8⟩:=AA ms.length;rw[<-a8]at A ad⊢;have bu:u<=1000:=BS;clear a8 hl;refine kj (fn:=33) rfl DI ?_;refine kV ?_;refine Yz (Bo _ _ _) (λn y x' O' w'=>∃(i:Nat)(r u5 u6 a2 aK aU aS aD gU gQ kU aF aB aG aj:AW),i<=u/\n=u - i/\y=⟨#[T,AQ,AG,r,AQ,u5,u6,T,nv,B,AB u,AB i,a2,aK,aU,aS,aD,gU,gQ,kU,aF,aB,aG,aj,AQ],[]⟩/\LSt cs (bP.map (·.map MI.val)) i (((bP[i]?).getD []).map MI.val) x'/\w'.ownsRow Low 73 3 r ((bP.take i).flatten).length (Pn ((bP.take i).flatten))/\(∀k,r.ownBlock=some k->O' k/\B.ownBlock≠some k)/\w'.ownsRow Low 119 1 B u (cs.map λc=>.chan (some c))/\(∀k,B.ownBlock=some k->O' k)/\Held Low w₀ O' w') u
  ⟨0,AG,AQ,AQ,AQ,AQ,AQ,AQ,AQ,AQ,AQ,AQ,AQ,AQ,AQ,AQ,EH _,rfl,rfl,LSt.begin _ _ (by rw[Db,bc]) _ (λah F=>?_),BJ _ _ _ _,(λk g=>by cases g),A,E,I⟩ ?_
 .rw[PD]at F;cases ac:bP[0]? with
  |none=>rw[ac]at F;cases F
  |some r0=>rw[ac]at F;cases F;rfl
 clear A E I O1 W1 vS;rintro n _ ar O w⟨i,r,u5,u6,a2,aK,aU,aS,aD,gU,gQ,kU,aF,aB,aG,aj,hi,rfl,rfl,q,D,N,A,E,I⟩;by_cases bw:i<u
 .have br:(i:Int)<(u:Int):=by omega
  have az:i<cs.length:=BS;have oK:i<bP.length:=BS;obtain⟨a9,al,Y,_,a3⟩:=Au0 (Joins.ownsRow_le A (EH _));obtain⟨b,bk,an,af⟩:=a3 i (.chan (some cs[i])) (by rw[PD,FA az];rfl);subst bk;clear a3;have X:cs[i]?=some cs[i]:=FA az;have ji:Hid (bP.take (i+1)=bP.take i++[bP[i]]):=take_snoc bP i oK;have bf:(bP[i]?).getD []=bP[i]:=by rw[FA oK];rfl
  rw[bf]at q;have xw:Hid (∀x∈bP[i],Aq w₀ x.e.av x.e.ds):=lu _ (DY oK);have dQ:Hid ((bP.take i).flatten.length+bP[i].length<=1000000):=by show _<=_;have h1:(bP.take (i+1)).flatten.length<=bP.flatten.length:=(by have:bP.flatten=(bP.take (i+1)).flatten++(bP.drop (i+1)).flatten:=(by rw[<-Ft,KC]);rw[this,DV];omega);rw[ji.out,Ft,DV]at h1;simp only[ER,M6,EZ]at h1;omega
  have eU:Hid (∀ah,(bP.map (·.map MI.val))[i+1]?=some ah->ah=((bP[i+1]?).getD []).map MI.val):=by
   intro ah F;rw[PD]at F;cases ac:bP[i+1]? with
   |none=>rw[ac]at F;cases F
   |some r0=>rw[ac]at F;cases F;rfl
  revert af q X ji xw dQ
  generalize bP[i]=l;generalize cs[i]=c;intro q af X ji xw dQ;have iG:Hid (∀W,Keep Low O w W->W.cell? (AK b i)=some (.chan (some c))):=λW hW=>(BE (a:=(AK b i)) (hW.mine _ (E b an))).tr af;have iq:=E b an;have x9:Hid (B=.slice (some (AK b 0)) u al):=Y;clear af bf az oK;rw[x9.out];have _Y:=iG.out;refine kV ?_;clear _Y;rw[<-x9.out];clear an x9 iq Y iG;have aL:Hid (IntKind.i64.wrap ((i:Int)+1)=((i+1:Nat):Int)):=by show _=_;rw[BK];omega
  refine Yz (Bo _ _ _) (λn y x' O' w'=>∃(k:Nat)(r v6 ay au aE ax aI ao ap:AW),k<=l.length/\n=l.length - k/\y=⟨#[T,AQ,AG,r,AQ,.chan (some c),v6,T,nv,B,AB u,AB i,.bool true,.pointer (some (AK b i)),.chan (some c),.chan (some c),ay,au,aE,ax,aI,ao,ap,aj,AQ],[]⟩/\LSt cs (bP.map (·.map MI.val)) i ((l.drop k).map MI.val) x'/\w'.ownsRow Low 73 3 r ((bP.take i).flatten++l.take k).length (Pn ((bP.take i).flatten++l.take k))/\(∀k,r.ownBlock=some k->O' k/\B.ownBlock≠some k)/\w'.ownsRow Low 119 1 B u (cs.map λc=>.chan (some c))/\(∀k,B.ownBlock=some k->O' k)/\Held Low w₀ O' w') l.length
   ⟨0,r,u6,aD,gU,gQ,kU,aF,aB,aG,EH _,rfl,rfl,by rw[PN];exact q,by rw[List.take_zero,EZ];exact D,N,A,E,I⟩ ?_
  clear q D N A E I O w r ar;rintro n _ ar O w⟨k,r,v6,ay,au,aE,ax,aI,ao,ap,g,rfl,rfl,q,D,N,A,E,I⟩;have ae:Hid (∀d:AU,(execOp (Act.eval ⟨#[T,AQ,AG,r,AQ,.chan (some c),v6,T,nv,B,AB u,AB i,.bool true,.pointer (some (AK b i)),.chan (some c),.chan (some c),ay,au,aE,ax,aI,ao,ap,aj,AQ],[]⟩) {dst:=some 16,op:=.recv 119 (.tmp 15) true,type:=0,pos:= "l7_way.go:13",after:=#[],guard:=none}).run prog d=.ok (.comm #[rcase c (.agg #[AB 0,AB 0,AG])] true (.recv true)) d):=by intro d;go_simp;rfl
  by_cases aA:k<l.length
  .have aW:l.drop k=l[k]::l.drop (k+1):=GL aA;have lI:Hid ((bP.take i).flatten++l.take (k+1)=((bP.take i).flatten++l.take k)++[l[k]]):=(by show _=_;rw[take_snoc l k aA,EJ]);have aw:=xw _ (DY aA);have rM:Hid (((bP.take i).flatten++l.take k).length+1<=1000000):=(by show _<=_;have h1:=dQ.out;rw[DV,FP];omega);rw[aW]at q;clear aW
   revert q lI aw
   generalize l[k]=m;intro q lI aw;obtain⟨R,L,aO,-⟩:=aw;obtain⟨Q,J,M,xa⟩:=m;dsimp only at aO;subst aO;rw[DZ]at q;have ab:=q.2.2.1 c X;repeat(first|(first|refine Lm (Bo _ _ _) ?_|refine Tm (Bo _ _ _) ?_|refine Wq (Bo _ _ _) ?_|refine Tj (Bo _ _ _) ?_|refine KJ (Bo _ _ _) ?_|refine Ws (Bo _ _ _) ?_|refine Qu (Bo _ _ _) ?_)|(simp only[Wu,Nr,if_true,EL,reduceIte,Nat.reduceEqDiff]))
   (refine Gv (Bo _ _ _) ?_;simp only[D1,DT,DW,Nat.reduceAdd,EF,List.range,List.range.loop]);(refine cQ (j:=i) (c:=c) (z:=.agg #[AB 0,AB 0,AG]) rfl Br ab ae (λd=>by simp[execOp]) ?_ (λh=>by cases h);intro v bp aX;obtain⟨rfl,rfl⟩:=List.cons.inj aX;clear aX ab ae;replace q:=q.recv X;simp only[MI.val];try walk_nrm);refine kV ?_;have aH:=D2.refl Low O w;refine N9 (Bo _ _ _) rfl Br ?_ ?_;{intro _;simp[go_sem];done};intro d hR K hK;go_simp;refine hK _ _ ?_;clear hK K;obtain⟨O2,eO,C,S,H,ai,U,Z⟩:=MQ I hR #[AB 0,AB 0,AG] 73;rw[<-eO];clear eO
   revert C S H ai U Z
   generalize d.alloc (.cells #[AB 0,AB 0,AG] 73)=W2;generalize d.heap.size=b2;intro C S H ai U Z;replace C:=aH.tr C;replace U:∀x,O x->x≠b2:=λx hx=>U x (aH.own x hx);(clear hR d;try walk_nrm);refine Yf (Bo _ _ _) b2 H rfl Br ?_ ?_
   .intro d hR e he;have s:=(hR.mine _ H).tr Z;have y0:d.cell? (AK b2 0)=some (AB 0):=cell_of_heap s 0;have z0:d.frozen? (AK b2 0)=false:=frozen_of_heap s 0;have y1:d.cell? (AK b2 1)=some (AB 0):=cell_of_heap s 1;have z1:d.frozen? (AK b2 1)=false:=frozen_of_heap s 1;have y2:d.cell? (AK b2 2)=some AG:=cell_of_heap s 2;have z2:d.frozen? (AK b2 2)=false:=frozen_of_heap s 2;clear s;simp[go_sem,events_store_slice,storedEv, *]at he
    (first|(subst he;exact⟨_,_,rfl,.inl H⟩)|(rcases he with rfl|rfl<;>exact⟨_,_,rfl,.inl H⟩)|(rcases he with rfl|rfl|rfl|rfl<;>exact⟨_,_,rfl,.inl H⟩)|(rcases he with rfl|rfl|rfl|rfl|rfl|rfl<;>exact⟨_,_,rfl,.inl H⟩))
   (intro d hR K hK;have s:=(hR.mine _ H).tr Z;have y0:d.cell? (AK b2 0)=some (AB 0):=cell_of_heap s 0;have z0:d.frozen? (AK b2 0)=false:=frozen_of_heap s 0;have y1:d.cell? (AK b2 1)=some (AB 0):=cell_of_heap s 1;have z1:d.frozen? (AK b2 1)=false:=frozen_of_heap s 1;have y2:d.cell? (AK b2 2)=some AG:=cell_of_heap s 2;have z2:d.frozen? (AK b2 2)=false:=frozen_of_heap s 2;clear s;go_simp;try(unfold stored;go_simp));have s:=(hR.mine _ H).tr Z;have hp:FQ b2 d (((d.setCell (AK b2 0) (AB Q)).setCell (AK b2 1) (AB J)).setCell (AK b2 2) (.slice R M.length L)):=((((FQ.refl _ _).set 0 (AB Q)).set 1 (AB J)).set 2 (.slice R M.length L));have ag:(((d.setCell (AK b2 0) (AB Q)).setCell (AK b2 1) (AB J)).setCell (AK b2 2) (.slice R M.length L)).heap[b2]?=some (.cells #[AB Q,AB J,.slice R M.length L] 73):=(heap_setCell (heap_setCell (heap_setCell s 0 (AB Q)) 1 (AB J)) 2 (.slice R M.length L));refine hK _ _ hp ?_;clear hK K s y0 z0 y1 z1 y2 z2 Z;replace C:=(C.rely hR).put hp ai U;replace S:=(S.rely hR).put hp ai
   revert C S ag
   clear hp hR;generalize (((d.setCell (AK b2 0) (AB Q)).setCell (AK b2 1) (AB J)).setCell (AK b2 2) (.slice R M.length L))=W2;intro ag C S;have bn:Hid (∀W,Keep Low O2 W2 W->∀ii,W.cell? (AK b2 ii)=(#[AB Q,AB J,.slice R M.length L]:δ)[ii]?):=λW hW ii=>(hW.ext.cell (.inl H) ii).tr (cell_of_heap ag ii);(clear ag;try walk_nrm);replace D:=C.row D (λk g=>.inl (N k g).1);replace A:=C.row A (λk g=>.inl (E k g));have jq:Hid (some b2≠r.ownBlock):=λe=>U b2 (N b2 e.symm).1 rfl;have jJ:∀k,r.ownBlock=some k->O2 k/\B.ownBlock≠some k:=λk g=>⟨C.own _ (N k g).1,(N k g).2⟩;have nS:∀k,B.ownBlock=some k->O2 k:=λk g=>C.own _ (E k g);clear aH I N E C U O w;have _Y:=cs3 bn;refine kV ?_;clear _Y;refine N9 (Bo _ _ _) rfl Br ?_ ?_;{intro W1;simp[go_sem];done};intro d hR K hK;go_simp;refine hK _ _ ?_;clear hK K;obtain⟨O4,eO,V,lG,ak,aR,uC,pX⟩:=PP S hR (.cells #[AB Q,AB J,.slice R M.length L] 73);rw[<-eO];clear eO
   revert V lG ak aR uC pX
   (generalize d.alloc (.cells #[AB Q,AB J,.slice R M.length L] 73)=W4;generalize d.heap.size=b4;intro V lG ak aR uC pX;clear hR d;try walk_nrm);replace D:=V.row D (λk g=>.inl (jJ k g).1);replace A:=V.row A (λk g=>.inl (nS k g));have qW:∀k,r.ownBlock=some k->O4 k:=λk g=>V.own _ (jJ k g).1;have kP:∀k,B.ownBlock=some k->O4 k:=λk g=>V.own _ (nS k g);obtain⟨i0,aZ,aV,a6,a5⟩:=info_parts RU;refine XC (Bo _ _ _) rfl Br (.tmp 19) (.tmp 21) 23 rfl 73 i0 (.agg #[AB 0,AB 0,AG]) 3 40 underlying23 aZ aV a6 a5 rfl BX r _ _ CN D qW b4 1 [AB Q,AB J,.slice R M.length L] CN rfl ak ?_ ?_ ?_ ?_ lG ?_;{intro jj bm hu;rw[cell_of_heap pX];simpa using hu};{intro bm hu;simp only[EN,FK,FM]at hu;rcases hu with rfl|rfl|rfl<;>rfl};{have:=rM.out;simp only[maxLen];omega};{have:=rM.out;omega};(clear aZ aV a6 a5 i0;intro v5 W5 O5 bo pM zB uB aP lF;try walk_nrm);have uy:W5.ownsRow Low 119 1 B u (cs.map λc=>.chan (some c)):=Ye A λk g=>aP k (kP k g) λe=>(jJ k e.symm).2 g;have yX:∀k,B.ownBlock=some k->O5 k:=λk g=>uB k (kP k g)
   have zC:∀k,v5.ownBlock=some k->O5 k/\B.ownBlock≠some k:=λk g=>⟨pM k g,λe=>by
    rcases zB k g with h|h
    .exact(jJ k h.symm).2 e
    .exact h (kP k e)⟩
   clear D A qW kP jJ nS aP uB pM zB lG S pX V uC;refine kV ?_;refine⟨l.length - (k+1),BS,k+1,v5,_,_,_,_,_,_,_,_,BS,rfl,rfl,q,?_,zC,uy,yX,lF⟩;rw[lI.out,vg,DV];exact bo
  obtain rfl:k=l.length:=by omega
  rw[List.drop_length,FI]at q;rw[JO]at D;have ab:=q.2.2.1 c X;repeat(first|(first|refine Lm (Bo _ _ _) ?_|refine Tm (Bo _ _ _) ?_|refine Wq (Bo _ _ _) ?_|refine Tj (Bo _ _ _) ?_|refine KJ (Bo _ _ _) ?_|refine Ws (Bo _ _ _) ?_|refine Qu (Bo _ _ _) ?_)|(simp only[Wu,Nr,if_true,EL,reduceIte,Nat.reduceEqDiff]))
  (refine Gv (Bo _ _ _) ?_;simp only[D1,DT,DW,Nat.reduceAdd,EF,List.range,List.range.loop]);refine cQ (j:=i) (c:=c) (z:=.agg #[AB 0,AB 0,AG]) rfl Br ab ae (λd=>by simp[execOp]) (λv bp h=>by cases h) ?_;intro _;clear ab ae;replace q:=q.done X (by rw[Db,bc]) _ eU.out;try walk_nrm
  have bs:=aL.out;clear aL;refine kV ?_;refine⟨u - (i+1),BS,i+1,r,_,_,_,_,_,_,_,_,_,_,_,_,_,_,BS,rfl,rfl,q,?_,N,A,E,I⟩;rw[ji.out,Ft];simp only[ER,M6,EZ];exact D
 have bq:¬(i:Int)<(u:Int):=by omega
 obtain rfl:i=u:=BS;have bj:∀e∈ar,e.2.2=true:=λe he=>by obtain⟨t,ht⟩:=List.mem_iff_getElem?.1 he;exact q.1 t (by have:=(BO.1 ht).1;rw[q.2.1,ad]at this;exact this) e ht
 rw[E0 BS]at D;refine kV ?_;refine MH (Bo _ _ _) (fn:=33) rfl DI ?_;refine kV ?_;refine(Bo _ _ _).ctl rfl (g':=_) ?_ (λ_=>stepG_ret') ?_
 .rfl
 refine kh rfl bj λd hK=>dH _ d r rfl (bh _) ?_ ?_
 .exact hK.ext.row D λk g=>.inl (N k g).1
 have:=I.rely hK;exact⟨this.still,this.low,λ_ h=>h.elim,this.os,this.out⟩
