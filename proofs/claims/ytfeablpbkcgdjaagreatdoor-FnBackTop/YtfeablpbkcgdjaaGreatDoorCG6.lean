import Derived.Test.YtfeablpbkcgdjaaGreatDoorCH1
import Derived.Test.YtfeablpbkcgdjaaGreatDoorCG4
set_option linter.defProp false
set_option maxRecDepth 100000
set_option maxHeartbeats 4000000
namespace Go.Proofs.YtfeablpbkcgdjaaGreatDoor
open Tryz Stil Go.RowKit Go.Sort Go.BigFrame Go.Conc Go.Co
variable {Low c:Nat}
def MIs (w₀:World)(ms:List MI)(is:List Stil.Dj):Prop:=ms.map MI.inst=is/\∀x∈ms,Ak w₀ x.e.av x.e.ds
section
variable {w₀:World}{ms ms':List MI}{is is':List Stil.Dj}
def MIs.append (h:MIs w₀ ms is)(a:MIs w₀ ms' is'):MIs w₀ (ms++ms') (is++is'):=⟨by rw[CX,h.1,a.1],λx b=>(List.mem_append.1 b).elim (h.2 x) (a.2 x)⟩
def MIs.nil:MIs w₀ [] []:=⟨rfl,AW⟩
theorem MIs.zero (k:Int):MIs w₀ [mi0 k] [Hg k]:=⟨rfl,λx a=>by rw[List.mem_singleton.1 a];exact⟨none,0,rfl,λi hi=>by cases hi⟩⟩
def MIs.snoc (h:MIs w₀ ms is)(k:Int):MIs w₀ (ms++[mi0 k]) (is++[Hg k]):=h.append (MIs.zero k)
def MIs.one (k:Int)(e:FR)(h:Ak w₀ e.av e.ds):MIs w₀ [⟨k,e⟩] [⟨k,e.elem⟩]:=⟨rfl,λx a=>by rw[List.mem_singleton.1 a];exact h⟩
end
variable {k:Int}{w₀:World}
def GF:Stil.B1->Prop
 | ⟨k,_,kids⟩=>(1<=k/\k<=4)/\(k≠1->kids≠[])/\∀p∈kids.map GF,p
def WM (k:Int)(e:Stil.Elem)(kids:List Stil.B1):GF ⟨k,e,kids⟩↔(1<=k/\k<=4)/\(k≠1->kids≠[])/\∀x∈kids,GF x:=by rw[GF,Stil.all_map]
theorem Z6 {t:P6}{vs:List MI}(d:NOk Low w₀ t)(h:t.kind≠1->MIs w₀ vs (C9 t.net)):MIs w₀ (FT k t vs) (D5 k t.net):=by
 have b:t.net.kind=t.kind:=by rw[P6.net_eq]
 unfold FT;by_cases a:t.kind=1
 .rw[if_pos a,Ju _ _ (b.trans a),P6.net_eq]
  exact MIs.one k ⟨t.op,t.ds,t.av⟩ (JK.1 d).1
 .rw[if_neg a,Ik _ _ (λe=>a (b.symm.trans e))]
  exact(h a).snoc _
theorem OH {f:P6->List MI}:∀{a:List P6},(∀t∈a,NOk Low w₀ t)->(∀t∈a,t.kind≠1->MIs w₀ (f t) (C9 t.net))->MIs w₀ (a.map λt=>FT k t (f t)).flatten ((a.map P6.net).map (D5 k)).flatten
 | [],_,_=>MIs.nil
 | t::a,d,b=>by
  rw[CN,DV,CN,CN,DV];exact(Z6 (d t AW) (b t AW)).append (OH (λx hx=>d x B0) λx hx=>b x B0)
def RR (ts:List P6)(g:P6->List MI):((ts.map g).flatten).map MI.val=(ts.map λt=>(g t).map MI.val).flatten:=by rw[List.map_flatten,FY];rfl
def wN {w:World}{O:Nat->Prop}(h:Held Low w₀ O w)(d:Nat):Held Low w₀ O {w with drawn:=d}:=⟨h.still,h.low,h.up,h.os,h.out⟩
def ZU {w w':World}{O O':Nat->Prop}(h:CV Low O O' w w')(d:Nat):CV Low O O' w {w' with drawn:=d}:=⟨h.own,h.still,h.mine,h.size⟩
theorem YE (w₀:World)(n:P6):GF n.net->Ac n.net<=1000000->NOk Low w₀ n->∃B,MIs w₀ B (C9 n.net)/\II Low c w₀ n B:=by
 induction n using Wt with
 | h k op A av kv kids ih=>
  intro R J X;rw[P6.net_eq] at R J ⊢;dsimp only at R J ⊢;obtain⟨⟨aG,aH⟩,af,U⟩:=(WM _ _ _).1 R;rw[Cj] at J;simp only at J;have ag:∀x∈kids,Ac x.net<=1000000:=λx hx=>by have:Ac x.net<=Stil.sizes (kids.map P6.net):=Em Ac _ x.net (E0 hx);omega
  have ai:kids.length<=999999:=by have:=He (kids.map P6.net);rw[CP] at this;omega
  replace U:∀x∈kids,GF x.net:=λx hx=>U _ (E0 hx)
  obtain⟨M,V,az⟩:=X.devs;obtain⟨p1,j,ay,ab,F,N⟩:=X.kids;have Y:=(JK.1 X).1;dsimp only at az ay ab Y F N;subst az ay;have an:=resultsC_none (P:=prog) (fn:=Tryz.f112) rfl;by_cases h1:k=1
  .subst h1
   refine⟨[⟨1,⟨op,A, .slice M A.length V⟩⟩],?_,λrest O w hF=>?_⟩
   .rw[Lu]
    exact MIs.one 1 ⟨op,A, .slice M A.length V⟩ Y
   clear ag ai U R J X ih F N Y af ab;rw[CN,EB,MI.val,CY,C3];dsimp only;refine Hf func112 A0 rfl ?_;simp only[ntmps112,CS,CC,CM,Nat.reduceAdd,Nat.reduceSub,DF,DG,DJ,DI,C3,CY];refine Jl (Aw _ _ _) ?_
   (refine Fq (Aw _ _ _) ?_;simp only[CS,CC,CM,Cd,List.range,List.range.loop])
   refine kB hF #[.int .i64 1, .int .i64 op, .slice M A.length V, .slice p1 kids.length j] 54 λO1 W1 r S D d ao q=>?_
   try walk_nrm
   have _Y:=cs4 q;refine kW ?_;clear _Y;exact⟨rfl,_,an _,rfl,S,D⟩
  obtain⟨t,l,rfl⟩:=LM (λe=>af h1 (by rw[e];rfl):kids≠[]);obtain⟨b,o,rfl,ar,ah⟩:=N 0 AW;rw[FM,ER,GI] at ah;have aF:l.length+1<=j:=by have:=ab.1;simp only[CC] at this;exact this
  have aw:∀i (h:i<l.length),b<Low/\Uz w₀ b (o+4+i*4) l[i]:=λi hi=>by
   obtain⟨b',o',e',aa,ae⟩:=N (i+1) Ax;cases e';rw[J0] at ae;exact⟨aa,by rw[show o+4+i*4=o+(i+1)*4 by omega];exact ae⟩
  have aj:∀y∈t::l,∃B,MIs w₀ B (C9 y.net)/\II Low c w₀ y B:=λy hy=>ih y hy (U _ hy) (ag _ hy) (F y hy)
  obtain⟨vt,ac,au⟩:=aj t AW;have aD:(k==1)=false:=by rw[CJ];exact h1
  have tH:=F t AW;have aE:l.length<=999999:=by simp only[CC] at ai;omega
  clear ih ag N U ai R af J ab;obtain⟨pa,ra,ax⟩:=tH.devs;obtain⟨pk,rk,ap,_⟩:=tH.kids;clear X;have xQ:Hid (∀L,L≠1->L≠4->C9 ⟨L,⟨op,A⟩,(t::l).map P6.net⟩=C9 t.net++((l.map P6.net).map (D5 L)).flatten):=λL h1 h4=>by rw[CN,Jr _ _ _ h1 h4]
  have qY:Hid (C9 ⟨4,⟨op,A⟩,(t::l).map P6.net⟩=C9 t.net++[Hg 6]):=by show _=_;rw[CN,L6]
  obtain⟨t1,tp,td,ta,tk,Z⟩:=t;dsimp only at ax ap;subst ax ap;by_cases h4:k=4
  .subst h4
   refine⟨vt++[mi0 6],by rw[qY.out];exact ac.snoc 6,λrest O w hF=>?_⟩;clear ac qY xQ;rw[CX,CN,EB,C6,CY,C3];dsimp only;simp only[CC];refine Hf func112 A0 rfl ?_;simp only[ntmps112,CS,CC,CM,Nat.reduceAdd,Nat.reduceSub,DF,DG,DJ,DI,C3,CY];refine Jl (Aw _ _ _) ?_
   (refine Fq (Aw _ _ _) ?_;simp only[CS,CC,CM,Cd,List.range,List.range.loop])
   refine kB hF #[.int .i64 4, .int .i64 op, .slice M A.length V, .slice (some ⟨b,o,none⟩) (l.length+1) j] 54 λO1 W1 r S D d ao q=>?_
   try walk_nrm
   have gq:Hid (∀W,Keep Low O1 W1 W->Uz W b o ⟨t1,tp,td, .slice pa td.length ra, .slice pk Z.length rk,Z⟩):=λW H=>ah.held (D.rely H) ar
   have _Y:=λW h=>And.intro (cs4 q W h) (gq W h)
   simp only[Uz] at _Y;refine kW ?_;clear _Y
   (refine Gm (Aw _ _ _) rfl A0 rfl (au _ _ _ D) BJ ?_;rintro _ _ O2 W2 ⟨rfl,C,ak⟩;try walk_nrm)
   replace q:=G1 q C d;replace d:=C.own _ d;simp only[MI.val,mi0];have _Y:=cs4 q;refine kW ?_;clear _Y;exact⟨rfl,_,an _,rfl,S.trans C,ak⟩
  have dJ:k=2\/k=3:=AU
  have uA:(k==4)=false:=by rw[CJ];exact h4
  obtain⟨f,hf⟩:∃f:P6->List MI,∀y∈l,MIs w₀ (f y) (C9 y.net)/\II Low c w₀ y (f y):=by
   classical
   refine⟨λy=>if h:∃B,MIs w₀ B (C9 y.net)/\II Low c w₀ y B then h.choose else [],λy hy=>?_⟩;have h:=aj y Bw;simp only[h,dite_true];exact h.choose_spec
  have al:∀y∈l,NOk Low w₀ y:=λy hy=>F y Bw
  refine⟨vt++(l.map λy=>FT k y (f y)).flatten,?_,λrest O w hF=>?_⟩
  .rw[xQ.out k h1 h4]
   exact ac.append (OH al λy hy _=>(hf y hy).1)
  clear ac qY xQ;rw[CX,RR,C6];dsimp only;simp only[CC];have HT:Hid (∀O W,Held Low w₀ O W->Jg prog (okS prog Low c) 142 #[.chan (some c), .int .i64 k, .slice (if j=1 then some ⟨b,o,none⟩ else some ⟨b,o+4,none⟩) l.length (j - 1)] ((l.map λt=>(FT k t (f t)).map MI.val).flatten++rest) O W λ_ x' O' w'=>x'=rest/\CV Low O O' W w'/\Held Low w₀ O' w'):=λO W H=>by
   have:=QG (c:=c) w₀ k dJ l f al (λy hy _=>(hf y hy).2) AU rest O W H (if j=1 then some ⟨b,o,none⟩ else some ⟨b,o+4,none⟩) (j - 1) (λi hi=>by
    obtain⟨aa,ae⟩:=aw i hi;have aA:¬j=1:=AU
    rw[if_neg aA]
    exact⟨b,o+4,rfl, .inr aa,ae.held H aa⟩)
   exact this
  clear hf aj aw al F Y;generalize (l.map λt=>(FT k t (f t)).map MI.val).flatten=tl at*;generalize l.length=m at*;refine Hf func112 A0 rfl ?_;simp only[ntmps112,CS,CC,CM,Nat.reduceAdd,Nat.reduceSub,DF,DG,DJ,DI,C3,CY];refine Jl (Aw _ _ _) ?_
  (refine Fq (Aw _ _ _) ?_;simp only[CS,CC,CM,Cd,List.range,List.range.loop])
  refine kB hF #[.int .i64 k, .int .i64 op, .slice M A.length V, .slice (some ⟨b,o,none⟩) (m+1) j] 54 λO1 W1 r S D d ao q=>?_
  try walk_nrm
  have gq:Hid (∀W,Keep Low O1 W1 W->Uz W b o ⟨t1,tp,td, .slice pa td.length ra, .slice pk Z.length rk,Z⟩):=λW H=>ah.held (D.rely H) ar
  have _Y:=λW h=>And.intro (cs4 q W h) (gq W h)
  simp only[Uz] at _Y;refine kW ?_;clear _Y
  (refine Gm (Aw _ _ _) rfl A0 rfl (au _ _ _ D) BJ ?_;rintro _ _ O2 W2 ⟨rfl,C,ak⟩;try walk_nrm)
  replace q:=G1 q C d;replace d:=C.own _ d;have _Y:=cs4 q;refine kW ?_;clear _Y;have aB:(1:Int)<=(m:Int)+1:=AU
  have aI:∀(W:World) (es:Array Event),(Instr.sliceAt 52 (.slice (some ⟨b,o,none⟩) (m+1) j) (some (.int .i64 1)) none none).events prog W es=es:=λW es=>jD _ underlying52 _ _ _ aB
  refine gR (Aw _ _ _) (λW=>W.cell? ⟨r,0,none⟩=some (.int .i64 k)/\W.cell? ⟨r,3,none⟩=some (.slice (some ⟨b,o,none⟩) (m+1) j)) 6 AY rfl λw₁ hR=>?_
  have I:∀ad v:World,(ad.cell? ⟨r,0,none⟩=some (.int .i64 k)/\ad.cell? ⟨r,3,none⟩=some (.slice (some ⟨b,o,none⟩) (m+1) j))->Keep Low O2 ad v->(v.cell? ⟨r,0,none⟩=some (.int .i64 k)/\v.cell? ⟨r,3,none⟩=some (.slice (some ⟨b,o,none⟩) (m+1) j)):=λad v hu hk=>⟨(hk.ext.cell (.inl d) _).trans hu.1,(hk.ext.cell (.inl d) _).trans hu.2⟩
  have E:({w₁ with drawn:=w₁.drawn+1}:World).cell? ⟨r,0,none⟩=some (.int .i64 k)/\({w₁ with drawn:=w₁.drawn+1}:World).cell? ⟨r,3,none⟩=some (.slice (some ⟨b,o,none⟩) (m+1) j):=⟨q _ hR 0,q _ hR 3⟩
  simp only[CS,CC,CM,Nat.reduceAdd,Cd]
  (refine Uw (Aw _ _ _) I (i:=0) (v:=.chan (some c)) rfl BE BE BE BE BE (.inl ⟨A0,λW1 g=>⟨run_eq_of ?_,⟨λ_ _ _=>rfl,B7 _,rfl,rfl,rfl,?_⟩⟩⟩) E ?_;(focus (intro K hK;obtain⟨u,s⟩:=g;go_simp;exact hK));(focus (rw[Iw];intro e he;replace he:=mem_listed he;obtain⟨u,s⟩:=g;simp[go_sem, *] at he;try (refine Or.inl ?_;(first | (subst he;exact⟨_,_,rfl, .inl d⟩) | (rcases he with rfl | rfl<;>exact⟨_,_,rfl, .inl d⟩) | (rcases he with rfl | rfl | rfl | rfl<;>exact⟨_,_,rfl, .inl d⟩) | (rcases he with rfl | rfl | rfl | rfl | rfl | rfl<;>exact⟨_,_,rfl, .inl d⟩)))));try walk_nrm)
  (refine Uw (Aw _ _ _) I (i:=1) (v:=.pointer (some ⟨r,0,none⟩)) rfl BE BE BE BE BE (.inl ⟨A0,λW1 g=>⟨run_eq_of ?_,⟨λ_ _ _=>rfl,B7 _,rfl,rfl,rfl,?_⟩⟩⟩) E ?_;(focus (intro K hK;obtain⟨u,s⟩:=g;go_simp;exact hK));(focus (rw[Iw];intro e he;replace he:=mem_listed he;obtain⟨u,s⟩:=g;simp[go_sem, *] at he;try (refine Or.inl ?_;(first | (subst he;exact⟨_,_,rfl, .inl d⟩) | (rcases he with rfl | rfl<;>exact⟨_,_,rfl, .inl d⟩) | (rcases he with rfl | rfl | rfl | rfl<;>exact⟨_,_,rfl, .inl d⟩) | (rcases he with rfl | rfl | rfl | rfl | rfl | rfl<;>exact⟨_,_,rfl, .inl d⟩)))));try walk_nrm)
  (refine Uw (Aw _ _ _) I (i:=2) (v:=.int .i64 k) rfl BE BE BE BE BE (.inl ⟨A0,λW1 g=>⟨run_eq_of ?_,⟨λ_ _ _=>rfl,B7 _,rfl,rfl,rfl,?_⟩⟩⟩) E ?_;(focus (intro K hK;obtain⟨u,s⟩:=g;go_simp;exact hK));(focus (rw[Iw];intro e he;replace he:=mem_listed he;obtain⟨u,s⟩:=g;simp[go_sem, *] at he;try (refine Or.inl ?_;(first | (subst he;exact⟨_,_,rfl, .inl d⟩) | (rcases he with rfl | rfl<;>exact⟨_,_,rfl, .inl d⟩) | (rcases he with rfl | rfl | rfl | rfl<;>exact⟨_,_,rfl, .inl d⟩) | (rcases he with rfl | rfl | rfl | rfl | rfl | rfl<;>exact⟨_,_,rfl, .inl d⟩)))));try walk_nrm)
  (refine Uw (Aw _ _ _) I (i:=3) (v:=.pointer (some ⟨r,3,none⟩)) rfl BE BE BE BE BE (.inl ⟨A0,λW1 g=>⟨run_eq_of ?_,⟨λ_ _ _=>rfl,B7 _,rfl,rfl,rfl,?_⟩⟩⟩) E ?_;(focus (intro K hK;obtain⟨u,s⟩:=g;go_simp;exact hK));(focus (rw[Iw];intro e he;replace he:=mem_listed he;obtain⟨u,s⟩:=g;simp[go_sem, *] at he;try (refine Or.inl ?_;(first | (subst he;exact⟨_,_,rfl, .inl d⟩) | (rcases he with rfl | rfl<;>exact⟨_,_,rfl, .inl d⟩) | (rcases he with rfl | rfl | rfl | rfl<;>exact⟨_,_,rfl, .inl d⟩) | (rcases he with rfl | rfl | rfl | rfl | rfl | rfl<;>exact⟨_,_,rfl, .inl d⟩)))));try walk_nrm)
  (refine Uw (Aw _ _ _) I (i:=4) (v:=.slice (some ⟨b,o,none⟩) (m+1) j) rfl BE BE BE BE BE (.inl ⟨A0,λW1 g=>⟨run_eq_of ?_,⟨λ_ _ _=>rfl,B7 _,rfl,rfl,rfl,?_⟩⟩⟩) E ?_;(focus (intro K hK;obtain⟨u,s⟩:=g;go_simp;exact hK));(focus (rw[Iw];intro e he;replace he:=mem_listed he;obtain⟨u,s⟩:=g;simp[go_sem, *] at he;try (refine Or.inl ?_;(first | (subst he;exact⟨_,_,rfl, .inl d⟩) | (rcases he with rfl | rfl<;>exact⟨_,_,rfl, .inl d⟩) | (rcases he with rfl | rfl | rfl | rfl<;>exact⟨_,_,rfl, .inl d⟩) | (rcases he with rfl | rfl | rfl | rfl | rfl | rfl<;>exact⟨_,_,rfl, .inl d⟩)))));try walk_nrm)
  (refine Uw (Aw _ _ _) I (i:=5) (v:=.slice (if j=1 then some ⟨b,o,none⟩ else some ⟨b,o+4,none⟩) m (j - 1)) rfl BE BE BE BE BE (.inl ⟨A0,λW1 g=>⟨run_eq_of ?_,⟨λ_ _ _=>rfl,B7 _,rfl,rfl,rfl,?_⟩⟩⟩) E ?_;(focus (intro K hK;obtain⟨u,s⟩:=g;go_simp;exact hK));(focus (rw[Iw];intro e he;replace he:=mem_listed he;obtain⟨u,s⟩:=g;simp[go_sem, *] at he;try (refine Or.inl ?_;(first | (subst he;exact⟨_,_,rfl, .inl d⟩) | (rcases he with rfl | rfl<;>exact⟨_,_,rfl, .inl d⟩) | (rcases he with rfl | rfl | rfl | rfl<;>exact⟨_,_,rfl, .inl d⟩) | (rcases he with rfl | rfl | rfl | rfl | rfl | rfl<;>exact⟨_,_,rfl, .inl d⟩)))));try walk_nrm)
  refine⟨by first | kernel_rfl | rfl,?_⟩;have aC:=wN (ak.rely hR) (w₁.drawn+1);have dZ:=ZU ((S.trans C).rely hR) (w₁.drawn+1)
  (refine Gm (Aw _ _ _) rfl A0 rfl (HT _ _ aC) BJ ?_;rintro _ _ O4 W4 ⟨rfl,dN,jF⟩;try walk_nrm)
  refine kW ?_;exact⟨rfl,_,an _,rfl,dZ.trans dN,jF⟩
variable {Low c:Nat}
section
variable {w₀ w w':World}{O O':Nat -> Prop}
def Vu.held {b o:Nat}{m:Oa}(h:Vu w₀ b o m)(k:Held Low w₀ O w)(a:b<Low):Vu w b o m:=⟨h.1.held k a,(k.down a _).trans h.2.1,(k.down a _).trans h.2.2⟩
def VOk.net {m:Oa}(h:VOk Low w₀ m):NOk Low w₀ m.net:=(MA.1 h).1
def VOk.coils {m:Oa}(h:VOk Low w₀ m):∃(a:Option Addr) (cap:Nat),m.cv=.slice a m.coils.length cap/\(∀e∈m.coils,Ak w₀ e.av e.ds)/\
  ∀i (h:i<m.coils.length),∃b o,a=some ⟨b,o,none⟩/\b<Low/\w₀.cell? ⟨b,o+i*2,none⟩=some (.int .i64 m.coils[i].op)/\w₀.cell? ⟨b,o+i*2+1,none⟩=some m.coils[i].av:=let ⟨_,⟨⟨a,cap,g,_,d⟩,f⟩,_⟩:=MA.1 h;⟨a,cap,g,f,d⟩
def VOk.kids {m:Oa}(h:VOk Low w₀ m):∃(a:Option Addr) (cap:Nat),m.kv=.slice a m.kids.length cap/\(∀t∈m.kids,VOk Low w₀ t)/\
  ∀i (h:i<m.kids.length),∃b o,a=some ⟨b,o,none⟩/\b<Low/\Vu w₀ b (o+i*6) m.kids[i]:=let ⟨_,_,⟨a,cap,f,_,d⟩,e⟩:=MA.1 h;⟨a,cap,f,e,d⟩
end
variable {w₀:World}
def KR (Low c:Nat)(w₀:World)(t:P6)(ms:List MI):Prop:=∀b O w,Held Low w₀ O w->
 Jg prog (okS prog Low c) 111 #[.agg #[.int .i64 t.kind, .int .i64 t.op,t.av,t.kv]] b O w λv f O' w'=>f=b/\
  (∀rest,Jg prog (okS prog Low c) 142 #[.chan (some c), .int .i64 2,v] (ms.map MI.val++rest) O' w' λ_ e d a=>e=rest/\CV Low O' d w' a/\Held Low w₀ d a)/\CV Low O O' w w'/\Held Low w₀ O' w'
def Kx (n:Stil.B1):Prop:=n.one.args.length<=1048576/\n.kids.length<=1000000/\∀x∈Bh n,GF x/\Ac x<=1000000
theorem x7 (w₀:World)(t:P6)(A:NOk Low w₀ t)(hg:Kx t.net):∃ms,MIs w₀ ms (Be t.net)/\KR Low c w₀ t ms:=by
 obtain⟨n,l,i⟩:=hg;rw[P6.net_eq] at n l;simp only[CP] at n l;obtain⟨g,e,hts,s⟩:=Z0 (c:=c) w₀ t A AU AU;have r:∀y∈g,∃d,MIs w₀ d (C9 y.net)/\II Low c w₀ y d:=λy b=>by
  have o:y.net∈Bh t.net:=by rw[<-e];exact E0 b
  exact YE w₀ y (i _ o).1 (i _ o).2 (hts y b)
 obtain⟨f,m⟩:∃f:P6->List MI,∀y∈g,MIs w₀ (f y) (C9 y.net)/\II Low c w₀ y (f y):=by
  classical
  refine⟨λy=>if h:∃d,MIs w₀ d (C9 y.net)/\II Low c w₀ y d then h.choose else [],λy b=>?_⟩;have h:=r y b;simp only[h,dite_true];exact h.choose_spec
 have B:g.length<=1000001:=by
  have z:g.length=(Bh t.net).length:=by rw[<-e,CP]
  rw[z];unfold Bh;rw[P6.net_eq];split
  .simp
  .split
   .simp only[CP];omega
   .simp
 refine⟨(g.map λy=>FT 2 y (f y)).flatten,?_,λd O w hF=>(s d O w hF).mono ?_⟩
 .unfold Be
  rw[<-e];exact OH hts λy b _=>(m y b).1
 .rintro v C O' w' ⟨x,⟨a,cap,rfl,u⟩,q,j⟩
  refine⟨x,λrest=>?_,q,j⟩;rw[RR];exact QG w₀ 2 (.inl rfl) g f hts (λy b _=>(m y b).2) AU rest O' w' j a cap u
def K0 (Low c:Nat)(w₀:World)(t:Oa)(vs:List MI):Prop:=∀rest O w,Held Low w₀ O w->
 Jg prog (okS prog Low c) 113 #[.chan (some c), .agg #[.int .i64 t.net.kind, .int .i64 t.net.op,t.net.av,t.net.kv,t.cv,t.kv]] (vs.map MI.val++rest) O w λ_ a O' w'=>a=rest/\CV Low O O' w w'/\Held Low w₀ O' w'
def GL:Stil.B5->Prop
 | ⟨_,a,kids⟩=>a.length<=1000000/\kids.length<=1000000/\(∀x∈kids,Kx x.net)/\∀p∈kids.map GL,p
def WN (n:Stil.B1)(cs:List Stil.Elem)(kids:List Stil.B5):GL ⟨n,cs,kids⟩↔cs.length<=1000000/\kids.length<=1000000/\(∀x∈kids,Kx x.net)/\∀x∈kids,GL x:=by rw[GL,Stil.all_map]
def Xb (n i:Nat):List MI:=(Eb n i).map λx=>mi0 x.code
def wv (n i:Nat):(Xb n i).map MI.val=(Eb n i).map λx=>v0 x.code:=by unfold Xb;rw[FY];rfl
def c8 (n i:Nat):MIs w₀ (Xb n i) (Eb n i):=by
 unfold Xb Eb;repeat' split
 all_goals first | exact MIs.nil | exact MIs.zero _
def MD (e:FR):MI:=⟨10,e⟩
theorem YC:∀{a:List FR},(∀e∈a,Ak w₀ e.av e.ds)->MIs w₀ (a.map MD) (Gj (a.map FR.elem))
 | [],_=>MIs.nil
 | e::a,h=>(MIs.one 10 e (h e AW)).append (YC λx hx=>h x B0)
theorem XV {n:Nat}{p:Oa->List MI × List MI}:∀{l:List Oa} (k:Nat),(∀x∈l,MIs w₀ (p x).1 (Be x.net.net)/\MIs w₀ (p x).2 (Bj x.arm))->
  MIs w₀ (l.mapIdx λi x=>Xb n (k+i)++((p x).1++(p x).2)).flatten ((l.map Oa.arm).mapIdx λi a=>Ho n (k+i) a).flatten
 | [],_,_=>MIs.nil
 | x::l,k,h=>by
  obtain⟨m,g⟩:=h x AW;have d:=XV (l:=l) (n:=n) (p:=p) (k+1) λy hy=>h y Bw
  rw[CN,List.mapIdx_cons,List.mapIdx_cons,DV,DV];refine MIs.append ?_ ?_
  .have e:Ho n (k+0) x.arm=Eb n (k+0)++(Be x.net.net++Bj x.arm):=by
    show Eb _ _++(Be x.arm.net++_)=_
    rw[Oa.arm_eq]
   rw[e];exact(c8 n (k+0)).append (m.append g)
  .have b:∀i,k+1+i=k+(i+1):=λi=>by omega
   have j:(λ(i:Nat) (x:Oa)=>Xb n (k+1+i)++((p x).1++(p x).2))=λi x=>Xb n (k+(i+1))++((p x).1++(p x).2):=by funext i x;rw[b]
   have f:(λ(i:Nat) (a:Stil.B5)=>Ho n (k+1+i) a)=λi a=>Ho n (k+(i+1)) a:=by funext i a;rw[b]
   rw[j,f] at d;exact d
