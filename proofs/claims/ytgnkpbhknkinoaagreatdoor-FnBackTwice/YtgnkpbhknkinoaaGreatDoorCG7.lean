import Derived.Test.YtgnkpbhknkinoaaGreatDoorCE7
set_option linter.defProp false
set_option maxRecDepth 100000
set_option maxHeartbeats 4000000
namespace Go.Proofs.YtgnkpbhknkinoaaGreatDoor
open Tryz Stil Go.RowKit Go.Sort Go.BigFrame Go.Conc Go.Co
variable {Low c:Nat}
def MIs(w₀:AU)(ms:List MI)(is:List Stil.Aw):Prop:=ms.map MI.inst=is/\∀x∈ms,Ar w₀ x.e.av x.e.ds
section
variable {w₀:AU}{ms ms':List MI}{is is':List Stil.Aw}
def MIs.append(h:MIs w₀ ms is)(a:MIs w₀ ms' is'):MIs w₀ (ms++ms') (is++is'):=⟨by rw[D2,h.1,a.1],λx b=>(BI.1 b).elim (h.2 x) (a.2 x)⟩
def MIs.nil:MIs w₀ [] []:=⟨rfl,BU⟩
theorem MIs.zero(k:Int):MIs w₀ [mi0 k] [F6 k]:=⟨rfl,λx a=>by rw[BB.1 a];exact⟨none,0,rfl,λi hi=>by cases hi⟩⟩
def MIs.snoc(h:MIs w₀ ms is)(k:Int):MIs w₀ (ms++[mi0 k]) (is++[F6 k]):=h.append (MIs.zero k)
def MIs.O(k:Int)(e:Hv)(h:Ar w₀ e.av e.ds):MIs w₀ [⟨k,e⟩] [⟨k,e.elem⟩]:=⟨rfl,λx a=>by rwa[BB.1 a]⟩
end
variable {k:Int}{w₀:AU}
def IG:Stil.DI->Prop
 |⟨k,_,kids⟩=>(1<=k/\k<=4)/\(k≠1->kids≠[])/\∀p∈kids.map IG,p
def eJ(k:Int)(e:Stil.Elem)(kids:List Stil.DI):IG ⟨k,e,kids⟩↔(1<=k/\k<=4)/\(k≠1->kids≠[])/\∀x∈kids,IG x:=by rw[IG,Stil.all_map]
theorem ly{t:Rj}{vs:List MI}(d:NOk Low w₀ t)(h:t.kind≠1->MIs w₀ vs (Cf t.N)):MIs w₀ (Hi k t vs) (Dp k t.N):=by
 have b:t.N.kind=t.kind:=by rw[Rj.Ne]
 unfold Hi;by_cases a:t.kind=1
 .rw[BR a,Je _ _ (b.tr a),Rj.Ne];exact MIs.O k ⟨t.op,t.ds,t.av⟩ (K8.1 d).1
 rw[BQ a,Ie _ _ (λe=>a (b.symm.tr e))];exact(h a).snoc _
theorem RX{f:Rj->List MI}:∀{a:List Rj},(∀t∈a,NOk Low w₀ t)->(∀t∈a,t.kind≠1->MIs w₀ (f t) (Cf t.N))->MIs w₀ (a.map λt=>Hi k t (f t)).flatten ((a.map Rj.N).map (Dp k)).flatten
 |[],_,_=>MIs.nil
 |t::a,b,d=>by
  rw[DX,EN,DX,DX,EN];exact(ly (b t BU) (d t BU)).append (RX (λx hx=>b x CZ) λx hx=>d x CZ)
def V0(ts:List Rj)(g:Rj->List MI):((ts.map g).flatten).map MI.val=(ts.map λt=>(g t).map MI.val).flatten:=by rw[List.map_flatten,IP];rfl
def Az3{w:AU}{O:Nat->Prop}(h:Held Low w₀ O w)(d:Nat):Held Low w₀ O {w with drawn:=d}:=⟨h.still,h.low,h.up,h.os,h.out⟩
def jf{w w':AU}{O O':Nat->Prop}(h:Dm Low O O' w w')(d:Nat):Dm Low O O' w {w' with drawn:=d}:=⟨h.own,h.still,h.mine,h.size⟩
theorem TJ(w₀:AU)(n:Rj):IG n.N->Ac n.N<=1000000->NOk Low w₀ n->∃B,MIs w₀ B (Cf n.N)/\JW Low c w₀ n B:=by
 induction n using cY with
 |h k op A av kv kids ih=>
  intro L F X;rw[Rj.Ne]at L F⊢;dsimp only at L F⊢;have⟨⟨aD,aC⟩,al,R⟩:=(eJ _ _ _).1 L;rw[Dk]at F;simp only at F;have aj:∀x∈kids,Ac x.N<=1000000:=λx hx=>by have:Ac x.N<=Stil.sizes (kids.map Rj.N):=Ey Ac _ x.N (IC hx);omega
  have ae:kids.length<=999999:=by have:=F5 (kids.map Rj.N);rw[DZ]at this;omega
  replace R:∀x∈kids,IG x.N:=λx hx=>R _ (IC hx);have⟨S,U,ao⟩:=X.devs;have⟨p1,j,ap,Z,I,M⟩:=X.K;have ad:=(K8.1 X).1;dsimp only at ao ap Z ad I M;subst ao ap;have ah:=resultsC_none (P:=prog) (fn:=Tryz.f138) rfl;by_cases h1:k=1
  .subst h1;refine⟨[⟨1,⟨op,A,AE S A.length U⟩⟩],?_,λrest O w hF=>?_⟩;{rw[Lt];exact MIs.O 1 ⟨op,A,AE S A.length U⟩ ad};clear aj ae R L F X ih I M ad al Z;rw[DX,FD,MI.val,D4,EB];dsimp only;refine Ij func138 Bn rfl ?_;simp only[ntmps138,Db,DO,DU,Nat.reduceAdd,Nat.reduceSub,ES,ET,EV,EU,EB,D4];refine Lj (Bg _ _ _) ?_
   (refine Gq (Bg _ _ _) ?_;simp only[Db,DO,DU,ED,List.range,List.range.loop]);refine kB hF #[AB 1,AB op,AE S A.length U,AE p1 kids.length j] 56 λO1 W1 r N D d au q=>?_;(try walk_nrm);have _Y:=cs4 q;refine kW ?_;clear _Y;exact⟨rfl,_,ah _,rfl,N,D⟩
  obtain⟨t,l,rfl⟩:=PE (λe=>al h1 (by rw[e];rfl):kids≠[]);obtain⟨b,o,rfl,aw,ag⟩:=M 0 BU;rw[II,GZ,IL]at ag;have aH:l.length+1<=j:=by have:=Z.1;simp only[DO]at this;exact this
  have ar:∀i(h:i<l.length),b<Low/\We w₀ b (o+4+i*4) l[i]:=λi hi=>by have⟨b',o',e',ac,aa⟩:=M (i+1) Bw;cases e';rw[MX]at aa;exact⟨ac,by rwa[show o+4+i*4=o+(i+1)*4 by omega]⟩
  have af:∀y∈t::l,∃B,MIs w₀ B (Cf y.N)/\JW Low c w₀ y B:=λy hy=>ih y hy (R _ hy) (aj _ hy) (I y hy);have⟨vt,Y,ay⟩:=af t BU;have aG:(k==1)=false:=xAq;have xP:=I t BU;have aE:l.length<=999999:=by simp only[DO]at ae;omega
  clear ih aj M R ae L al F Z;have⟨pa,ra,ax⟩:=xP.devs;have⟨pk,rk,an,_⟩:=xP.K;clear X;have iw:Hid (∀V,V≠1->V≠4->Cf ⟨V,⟨op,A⟩,(t::l).map Rj.N⟩=Cf t.N++((l.map Rj.N).map (Dp V)).flatten):=λV h1 h4=>by rw[DX,Jd _ _ _ h1 h4]
  have vN:Hid (Cf ⟨4,⟨op,A⟩,(t::l).map Rj.N⟩=Cf t.N++[F6 6]):=by show _=_;rw[DX,Lu]
  obtain⟨t1,tp,td,ta,tk,ts⟩:=t;dsimp only at ax an;subst ax an;by_cases h4:k=4
  .subst h4;refine⟨vt++[mi0 6],by rw[vN.out];exact Y.snoc 6,λrest O w hF=>?_⟩;clear Y vN iw;rw[D2,DX,FD,EG,D4,EB];dsimp only;simp only[DO];refine Ij func138 Bn rfl ?_;simp only[ntmps138,Db,DO,DU,Nat.reduceAdd,Nat.reduceSub,ES,ET,EV,EU,EB,D4];refine Lj (Bg _ _ _) ?_
   (refine Gq (Bg _ _ _) ?_;simp only[Db,DO,DU,ED,List.range,List.range.loop]);refine kB hF #[AB 4,AB op,AE S A.length U,AE (some (AK b o)) (l.length+1) j] 56 λO1 W1 r N D d au q=>?_;(try walk_nrm);have x9:=BX (λW(H:Keep Low O1 W1 W)=>ag.held (D.rely H) aw);have _Y:=λW h=>And.intro (cs4 q W h) (x9 W h);simp only[We]at _Y;refine kW ?_;clear _Y
   (refine Hf (Bg _ _ _) rfl Bn rfl (ay _ _ _ D) CM ?_;rintro _ _ O2 W2⟨rfl,C,ak⟩;try walk_nrm);replace q:=JF q C d;replace d:=C.own _ d;simp only[MI.val,mi0];have _Y:=cs4 q;refine kW ?_;clear _Y;exact⟨rfl,_,ah _,rfl,N.tr C,ak⟩
  have fC:k=2\/k=3:=BS;have xY:(k==4)=false:=xAq;obtain⟨f,hf⟩:∃f:Rj->List MI,∀y∈l,MIs w₀ (f y) (Cf y.N)/\JW Low c w₀ y (f y):=by
   classical
   refine⟨λy=>if h:∃B,MIs w₀ B (Cf y.N)/\JW Low c w₀ y B then h.choose else [],λy hy=>?_⟩;have h:=af y DG;simp only[h,dite_true];exact h.choose_spec
  have ai:∀y∈l,NOk Low w₀ y:=λy hy=>I y DG;refine⟨vt++(l.map λy=>Hi k y (f y)).flatten,?_,λrest O w hF=>?_⟩;{rw[iw.out k h1 h4];exact Y.append (RX ai λy hy _=>(hf y hy).1)};clear Y vN iw;rw[D2,V0,EG];dsimp only;simp only[DO];have HT:Hid (∀O W,Held Low w₀ O W->Ky prog (okS prog Low c) 170 #[.chan (some c),AB k,AE (if j=1 then some (AK b o) else some (AK b (o+4))) l.length (j - 1)] ((l.map λt=>(Hi k t (f t)).map MI.val).flatten++rest) O W λ_ x' O' w'=>x'=rest/\Dm Low O O' W w'/\Held Low w₀ O' w'):=λO W H=>by
   have:=UG (c:=c) w₀ k fC l f ai (λy hy _=>(hf y hy).2) BS rest O W H (if j=1 then some (AK b o) else some (AK b (o+4))) (j - 1) (λi hi=>by
    have⟨ac,aa⟩:=ar i hi;have aA:¬j=1:=BS
    rw[BQ aA]
    exact⟨b,o+4,rfl, .inr ac,aa.held H ac⟩)
   exact this
  clear hf af ar ai I ad;generalize (l.map λt=>(Hi k t (f t)).map MI.val).flatten=tl at*;generalize l.length=m at*;refine Ij func138 Bn rfl ?_;simp only[ntmps138,Db,DO,DU,Nat.reduceAdd,Nat.reduceSub,ES,ET,EV,EU,EB,D4];refine Lj (Bg _ _ _) ?_
  (refine Gq (Bg _ _ _) ?_;simp only[Db,DO,DU,ED,List.range,List.range.loop]);refine kB hF #[AB k,AB op,AE S A.length U,AE (some (AK b o)) (m+1) j] 56 λO1 W1 r N D d au q=>?_;try walk_nrm
  have x9:=BX (λW(H:Keep Low O1 W1 W)=>ag.held (D.rely H) aw);have _Y:=λW h=>And.intro (cs4 q W h) (x9 W h);simp only[We]at _Y;refine kW ?_;clear _Y
  (refine Hf (Bg _ _ _) rfl Bn rfl (ay _ _ _ D) CM ?_;rintro _ _ O2 W2⟨rfl,C,ak⟩;try walk_nrm);replace q:=JF q C d;replace d:=C.own _ d;have _Y:=cs4 q;refine kW ?_;clear _Y;have az:(1:Int)<=(m:Int)+1:=BS;have aF:∀(W:AU)(es:Array Event),(Instr.sliceAt 54 (AE (some (AK b o)) (m+1) j) (some (AB 1)) none none).events prog W es=es:=λW es=>sZ _ underlying54 _ _ _ az;refine qD (Bg _ _ _) (λW=>W.c (AK r 0)=some (AB k)/\W.c (AK r 3)=some (AE (some (AK b o)) (m+1) j)) 6 BW rfl λw₁ hR=>?_;have J:∀ab v:AU,(ab.c (AK r 0)=some (AB k)/\ab.c (AK r 3)=some (AE (some (AK b o)) (m+1) j))->Keep Low O2 ab v->(v.c (AK r 0)=some (AB k)/\v.c (AK r 3)=some (AE (some (AK b o)) (m+1) j)):=λab v hu hk=>⟨(hk.ext.cell (.inl d) _).tr hu.1,(hk.ext.cell (.inl d) _).tr hu.2⟩;have E:({w₁ with drawn:=w₁.drawn+1}:AU).c (AK r 0)=some (AB k)/\({w₁ with drawn:=w₁.drawn+1}:AU).c (AK r 3)=some (AE (some (AK b o)) (m+1) j):=⟨q _ hR 0,q _ hR 3⟩;simp only[Db,DO,DU,Nat.reduceAdd,ED]
  (refine V7 (Bg _ _ _) J (i:=0) (v:=.chan (some c)) rfl CG CG CG CG CG (.inl ⟨Bn,λW1 g=>⟨run_eq_of ?_,⟨λ_ _ _=>rfl,DK _,rfl,rfl,rfl,?_⟩⟩⟩) E ?_;(focus (intro K hK;obtain⟨s,u⟩:=g;go_simp;exact hK));(focus (rw[Jw];intro e he;replace he:=mem_listed he;obtain⟨s,u⟩:=g;simp[go_sem, *]at he;try(refine Or.inl ?_;(first|(subst he;exact⟨_,_,rfl,.inl d⟩)|(rcases he with rfl|rfl<;>exact⟨_,_,rfl,.inl d⟩)|(rcases he with rfl|rfl|rfl|rfl<;>exact⟨_,_,rfl,.inl d⟩)|(rcases he with rfl|rfl|rfl|rfl|rfl|rfl<;>exact⟨_,_,rfl,.inl d⟩)))));try walk_nrm)
  (refine V7 (Bg _ _ _) J (i:=1) (v:=AH r) rfl CG CG CG CG CG (.inl ⟨Bn,λW1 g=>⟨run_eq_of ?_,⟨λ_ _ _=>rfl,DK _,rfl,rfl,rfl,?_⟩⟩⟩) E ?_;(focus (intro K hK;obtain⟨s,u⟩:=g;go_simp;exact hK));(focus (rw[Jw];intro e he;replace he:=mem_listed he;obtain⟨s,u⟩:=g;simp[go_sem, *]at he;try(refine Or.inl ?_;(first|(subst he;exact⟨_,_,rfl,.inl d⟩)|(rcases he with rfl|rfl<;>exact⟨_,_,rfl,.inl d⟩)|(rcases he with rfl|rfl|rfl|rfl<;>exact⟨_,_,rfl,.inl d⟩)|(rcases he with rfl|rfl|rfl|rfl|rfl|rfl<;>exact⟨_,_,rfl,.inl d⟩)))));try walk_nrm)
  (refine V7 (Bg _ _ _) J (i:=2) (v:=AB k) rfl CG CG CG CG CG (.inl ⟨Bn,λW1 g=>⟨run_eq_of ?_,⟨λ_ _ _=>rfl,DK _,rfl,rfl,rfl,?_⟩⟩⟩) E ?_;(focus (intro K hK;obtain⟨s,u⟩:=g;go_simp;exact hK));(focus (rw[Jw];intro e he;replace he:=mem_listed he;obtain⟨s,u⟩:=g;simp[go_sem, *]at he;try(refine Or.inl ?_;(first|(subst he;exact⟨_,_,rfl,.inl d⟩)|(rcases he with rfl|rfl<;>exact⟨_,_,rfl,.inl d⟩)|(rcases he with rfl|rfl|rfl|rfl<;>exact⟨_,_,rfl,.inl d⟩)|(rcases he with rfl|rfl|rfl|rfl|rfl|rfl<;>exact⟨_,_,rfl,.inl d⟩)))));try walk_nrm)
  (refine V7 (Bg _ _ _) J (i:=3) (v:=.pointer (some (AK r 3))) rfl CG CG CG CG CG (.inl ⟨Bn,λW1 g=>⟨run_eq_of ?_,⟨λ_ _ _=>rfl,DK _,rfl,rfl,rfl,?_⟩⟩⟩) E ?_;(focus (intro K hK;obtain⟨s,u⟩:=g;go_simp;exact hK));(focus (rw[Jw];intro e he;replace he:=mem_listed he;obtain⟨s,u⟩:=g;simp[go_sem, *]at he;try(refine Or.inl ?_;(first|(subst he;exact⟨_,_,rfl,.inl d⟩)|(rcases he with rfl|rfl<;>exact⟨_,_,rfl,.inl d⟩)|(rcases he with rfl|rfl|rfl|rfl<;>exact⟨_,_,rfl,.inl d⟩)|(rcases he with rfl|rfl|rfl|rfl|rfl|rfl<;>exact⟨_,_,rfl,.inl d⟩)))));try walk_nrm)
  (refine V7 (Bg _ _ _) J (i:=4) (v:=AE (some (AK b o)) (m+1) j) rfl CG CG CG CG CG (.inl ⟨Bn,λW1 g=>⟨run_eq_of ?_,⟨λ_ _ _=>rfl,DK _,rfl,rfl,rfl,?_⟩⟩⟩) E ?_;(focus (intro K hK;obtain⟨s,u⟩:=g;go_simp;exact hK));(focus (rw[Jw];intro e he;replace he:=mem_listed he;obtain⟨s,u⟩:=g;simp[go_sem, *]at he;try(refine Or.inl ?_;(first|(subst he;exact⟨_,_,rfl,.inl d⟩)|(rcases he with rfl|rfl<;>exact⟨_,_,rfl,.inl d⟩)|(rcases he with rfl|rfl|rfl|rfl<;>exact⟨_,_,rfl,.inl d⟩)|(rcases he with rfl|rfl|rfl|rfl|rfl|rfl<;>exact⟨_,_,rfl,.inl d⟩)))));try walk_nrm)
  (refine V7 (Bg _ _ _) J (i:=5) (v:=AE (if j=1 then some (AK b o) else some (AK b (o+4))) m (j - 1)) rfl CG CG CG CG CG (.inl ⟨Bn,λW1 g=>⟨run_eq_of ?_,⟨λ_ _ _=>rfl,DK _,rfl,rfl,rfl,?_⟩⟩⟩) E ?_;(focus (intro K hK;obtain⟨s,u⟩:=g;go_simp;exact hK));(focus (rw[Jw];intro e he;replace he:=mem_listed he;obtain⟨s,u⟩:=g;simp[go_sem, *]at he;try(refine Or.inl ?_;(first|(subst he;exact⟨_,_,rfl,.inl d⟩)|(rcases he with rfl|rfl<;>exact⟨_,_,rfl,.inl d⟩)|(rcases he with rfl|rfl|rfl|rfl<;>exact⟨_,_,rfl,.inl d⟩)|(rcases he with rfl|rfl|rfl|rfl|rfl|rfl<;>exact⟨_,_,rfl,.inl d⟩)))));try walk_nrm);refine⟨by first|kernel_rfl|rfl,?_⟩;have aB:=Az3 (ak.rely hR) (w₁.drawn+1);have gV:=jf ((N.tr C).rely hR) (w₁.drawn+1)
  (refine Hf (Bg _ _ _) rfl Bn rfl (HT _ _ aB) CM ?_;rintro _ _ O4 W4⟨rfl,fE,lC⟩;try walk_nrm);refine kW ?_;exact⟨rfl,_,ah _,rfl,gV.tr fE,lC⟩
variable {Low c:Nat}
section
variable {w₀ w w':AU}{O O':Nat -> Prop}
def Xk.held{b o:Nat}{m:P6}(h:Xk w₀ b o m)(k:Held Low w₀ O w)(a:b<Low):Xk w b o m:=⟨h.1.held k a,(k.down a _).tr h.2.1,(k.down a _).tr h.2.2⟩
def VOk.N{m:P6}(h:VOk Low w₀ m):NOk Low w₀ m.N:=(OO.1 h).1
def VOk.C{m:P6}(h:VOk Low w₀ m):∃(a:Option Ab)(cap:Nat),m.cv=AE a m.C.length cap/\(∀e∈m.C,Ar w₀ e.av e.ds)/\
  ∀i(h:i<m.C.length),∃b o,a=some (AK b o)/\b<Low/\w₀.cell? (AK b (o+i*2))=some (AB m.C[i].op)/\w₀.cell? (AK b (o+i*2+1))=some m.C[i].av:=let ⟨_,⟨⟨a,cap,d,_,g⟩,f⟩,_⟩:=OO.1 h;⟨a,cap,d,f,g⟩
def VOk.K{m:P6}(h:VOk Low w₀ m):∃(a:Option Ab)(cap:Nat),m.kv=AE a m.K.length cap/\(∀t∈m.K,VOk Low w₀ t)/\
  ∀i(h:i<m.K.length),∃b o,a=some (AK b o)/\b<Low/\Xk w₀ b (o+i*6) m.K[i]:=let ⟨_,_,⟨a,cap,d,_,f⟩,e⟩:=OO.1 h;⟨a,cap,d,e,f⟩
end
variable {w₀:AU}
def MJ(Low c:Nat)(w₀:AU)(t:Rj)(ms:List MI):Prop:=∀a O w,Held Low w₀ O w->
 Ky prog (okS prog Low c) 137 #[.agg #[AB t.kind,AB t.op,t.av,t.kv]] a O w λv f O' w'=>f=a/\
  (∀rest,Ky prog (okS prog Low c) 170 #[.chan (some c),AB 2,v] (ms.map MI.val++rest) O' w' λ_ e b d=>e=rest/\Dm Low O' b w' d/\Held Low w₀ b d)/\Dm Low O O' w w'/\Held Low w₀ O' w'
def MQ(n:Stil.DI):Prop:=n.O.args.length<=1048576/\n.K.length<=1000000/\∀x∈Bq n,IG x/\Ac x<=1000000
theorem fe(w₀:AU)(t:Rj)(z:NOk Low w₀ t)(hg:MQ t.N):∃ms,MIs w₀ ms (A8 t.N)/\MJ Low c w₀ t ms:=by
 obtain⟨l,j,n⟩:=hg;rw[Rj.Ne]at l j;simp only[DZ]at l j;have⟨g,e,hts,s⟩:=kt (c:=c) w₀ t z BS BS;have u:∀y∈g,∃d,MIs w₀ d (Cf y.N)/\JW Low c w₀ y d:=λy b=>by
  have m:y.N∈Bq t.N:=by rw[<-e];exact IC b
  exact TJ w₀ y (n _ m).1 (n _ m).2 (hts y b)
 obtain⟨f,o⟩:∃f:Rj->List MI,∀y∈g,MIs w₀ (f y) (Cf y.N)/\JW Low c w₀ y (f y):=by
  classical
  refine⟨λy=>if h:∃d,MIs w₀ d (Cf y.N)/\JW Low c w₀ y d then h.choose else [],λy b=>?_⟩;have h:=u y b;simp only[h,dite_true];exact h.choose_spec
 have C:g.length<=1000001:=by
  have x:g.length=(Bq t.N).length:=by rw[<-e,DZ]
  rw[x];unfold Bq;rw[Rj.Ne];split;{simp};split;{simp only[DZ];omega};simp
 refine⟨(g.map λy=>Hi 2 y (f y)).flatten,?_,λd O w hF=>(s d O w hF).mo ?_⟩
 .unfold A8;rw[<-e];exact RX hts λy b _=>(o y b).1
 rintro v B O' w'⟨r,⟨a,cap,rfl,q⟩,A,i⟩;refine⟨r,λrest=>?_,A,i⟩;rw[V0];exact UG w₀ 2 (.inl rfl) g f hts (λy b _=>(o y b).2) BS rest O' w' i a cap q
def LN(Low c:Nat)(w₀:AU)(t:P6)(vs:List MI):Prop:=∀rest O w,Held Low w₀ O w->
 Ky prog (okS prog Low c) 139 #[.chan (some c),.agg #[AB t.N.kind,AB t.N.op,t.N.av,t.N.kv,t.cv,t.kv]] (vs.map MI.val++rest) O w λ_ a O' w'=>a=rest/\Dm Low O O' w w'/\Held Low w₀ O' w'
def Im:Stil.DJ->Prop
 |⟨_,a,kids⟩=>a.length<=1000000/\kids.length<=1000000/\(∀x∈kids,MQ x.N)/\∀p∈kids.map Im,p
def eK(n:Stil.DI)(cs:List Stil.Elem)(kids:List Stil.DJ):Im ⟨n,cs,kids⟩↔cs.length<=1000000/\kids.length<=1000000/\(∀x∈kids,MQ x.N)/\∀x∈kids,Im x:=by rw[Im,Stil.all_map]
def Yc(n i:Nat):List MI:=(Eh n i).map λx=>mi0 x.code
def Az9(n i:Nat):(Yc n i).map MI.val=(Eh n i).map λx=>v0 x.code:=by unfold Yc;rw[IP];rfl
def mH(n i:Nat):MIs w₀ (Yc n i) (Eh n i):=by
 unfold Yc Eh;repeat' split
 all_goals first|exact MIs.nil|exact MIs.zero _
def OW(e:Hv):MI:=⟨10,e⟩
theorem TP:∀{a:List Hv},(∀e∈a,Ar w₀ e.av e.ds)->MIs w₀ (a.map OW) (Gz (a.map Hv.elem))
 |[],_=>MIs.nil
 |e::a,h=>(MIs.O 10 e (h e BU)).append (TP λx hx=>h x CZ)
theorem ey{n:Nat}{p:P6->List MI × List MI}:∀{l:List P6}(k:Nat),(∀x∈l,MIs w₀ (p x).1 (A8 x.N.N)/\MIs w₀ (p x).2 (Bv x.A))->
  MIs w₀ (l.mapIdx λi x=>Yc n (k+i)++((p x).1++(p x).2)).flatten ((l.map P6.A).mapIdx λi a=>Ht n (k+i) a).flatten
 |[],_,_=>MIs.nil
 |x::l,k,h=>by
  have⟨e,f⟩:=h x BU;have d:=ey (l:=l) (n:=n) (p:=p) (k+1) λy hy=>h y DG
  rw[DX,List.mapIdx_cons,List.mapIdx_cons,EN,EN];refine MIs.append ?_ ?_
  .have m:Ht n (k+0) x.A=Eh n (k+0)++(A8 x.N.N++Bv x.A):=by
    show Eh _ _++(A8 x.A.N++_)=_
    rw[P6.Ae]
   rw[m];exact(mH n (k+0)).append (e.append f)
  .have b:∀i,k+1+i=k+(i+1):=λi=>by omega
   have g:(λ(i:Nat)(x:P6)=>Yc n (k+1+i)++((p x).1++(p x).2))=λi x=>Yc n (k+(i+1))++((p x).1++(p x).2):=by funext i x;rw[b]
   have j:(λ(i:Nat)(a:Stil.DJ)=>Ht n (k+1+i) a)=λi a=>Ht n (k+(i+1)) a:=by funext i a;rw[b]
   rwa[g,j]at d
end Go.Proofs.YtgnkpbhknkinoaaGreatDoor
namespace Go.Co
open Stil Go.Conc
def gW{τ:Type}{ok:τ->(Nat->Prop)->World->Goroutine->Prop}{fn:FuncId}{Q:Xi τ}{a:Act}{x:τ}{O:Nat->Prop}{w:AU}{c:Code}{f:Nat}{N:Act->τ->(Nat->Prop)->World->Prop}(M:Act->τ->(Nat->Prop)->World->Prop)
  (h:WpK ok fn c (Np f (Wp M Q)) a x O w) (g:∀d b O' w',M d b O' w'->N d b O' w'):WpK ok fn c (Np f (Wp N Q)) a x O w:=
 h.mo λe d b O' w' q=>by
  cases e with
  |normal=>exact g _ _ _ _ q
  |exit i=>
   simp only[Np]at q⊢;split
   .rename_i h;rw[BR h]at q;exact g _ _ _ _ q
   .rename_i h;rwa[BQ h]at q
  |_=>exact q
end Go.Co
namespace Go.Proofs.YtgnkpbhknkinoaaGreatDoor
open Tryz Stil Go.RowKit Go.Sort Go.BigFrame Go.Conc Go.Co
variable {Low c:Nat}
theorem nw(w₀:World)(m:P6):Im m.A->VOk Low w₀ m->∃vs,MIs w₀ vs (Bv m.A)/\LN Low c w₀ m vs:=by
 induction m using cq with
 |h n cv cs kv g ih=>
  intro ay aw;rw[P6.Ae]at ay⊢;dsimp only at ay⊢;obtain⟨bb,a7,aB,az⟩:=(eK _ _ _).1 ay;rw[DZ]at bb a7;replace az:∀x∈g,Im x.A:=λx u=>az _ (IC u);replace aB:∀x∈g,MQ x.N.N:=λx u=>by have:=aB _ (IC u);rw[P6.Ae]at this;exact this
  obtain⟨pa,ra,ak⟩:=aw.N.devs;obtain⟨pk,r1,ae,_⟩:=aw.N.K;obtain⟨pc,Z,mJ,aA,aC⟩:=aw.C;obtain⟨pd,rd,ao,ar,aD⟩:=aw.K;dsimp only at ak ae mJ ao aA ar aC aD;subst mJ ao;have aK:∀x∈g,∃p:List MI × List MI,(MIs w₀ p.1 (A8 x.N.N)/\MIs w₀ p.2 (Bv x.A))/\MJ Low c w₀ x.N p.1/\LN Low c w₀ x p.2:=λx u=>by obtain⟨ms,h1,h2⟩:=fe (c:=c) w₀ x.N (ar x u).N (aB x u);obtain⟨vs,h3,h4⟩:=ih x u (az x u) (ar x u);exact⟨(ms,vs),⟨h1,h3⟩,h2,h4⟩
  obtain⟨p,C⟩:∃p:P6->List MI × List MI,∀x∈g,(MIs w₀ (p x).1 (A8 x.N.N)/\MIs w₀ (p x).2 (Bv x.A))/\MJ Low c w₀ x.N (p x).1/\LN Low c w₀ x (p x).2:=by
   classical
   refine⟨λx=>if h:∃p:List MI × List MI,(MIs w₀ p.1 (A8 x.N.N)/\MIs w₀ p.2 (Bv x.A))/\MJ Low c w₀ x.N p.1/\LN Low c w₀ x p.2 then h.choose else([],[]),λx u=>?_⟩;have h:=aK x u;simp only[h,dite_true];exact h.choose_spec
  clear aK ih;refine⟨cs.map OW++(g.mapIdx λi x=>Yc g.length i++((p x).1++(p x).2)).flatten,?_,λrest Oo wo vG=>?_⟩;{rw[Wq];have h1:=TP aA;have h2:=ey (n:=g.length) (p:=p) (l:=g) 0 λx u=>(C x u).1;simp only[ED]at h2;rw[DZ];exact h1.append h2};obtain⟨E,oK⟩:∃E:List (List MI),E=g.mapIdx λi x=>Yc g.length i++((p x).1++(p x).2):=⟨_,rfl⟩;have aR:E.length=g.length:=by rw[oK];simp
  have bc:∀i(h:i<g.length),E.drop i=(Yc g.length i++((p g[i]).1++(p g[i]).2))::E.drop (i+1):=λi h=>by rw[GH BS];congr 1;subst oK;rw[List.getElem_mapIdx]
  rw[<-oK,D2,EG];have HP:Hid (∀x∈g,MJ Low c w₀ x.N (p x).1/\LN Low c w₀ x (p x).2):=λx u=>(C x u).2;have bi:Hid (∀i(h:i<g.length),E.drop i=(Yc g.length i++((p g[i]).1++(p g[i]).2))::E.drop (i+1)):=bc;have jd:Hid (E.length=g.length):=aR;have fH:Hid (∀e∈cs,Ar w₀ e.av e.ds):=aA;clear oK bc aR C aB az ay aw aA;obtain⟨nk,no,nd,na,bw,uU⟩:=n;dsimp only at ak ae;subst ak ae;generalize uU.length=nl;obtain⟨au,aG⟩:∃au,au=(E.flatten).map MI.val++rest:=⟨_,rfl⟩;rw[<-aG];have a6:Hid (au=(E.flatten).map MI.val++rest):=aG;clear aG;have bm:=resultsC_none (P:=prog) (fn:=Tryz.f139) rfl;dsimp only;refine Ij func139 Bn rfl ?_;simp only[ntmps139,Db,DO,DU,Nat.reduceAdd,Nat.reduceSub,ES,ET,EV,EU,EB,D4];refine Lj (Bg _ _ _) ?_
  (refine Gq (Bg _ _ _) ?_;simp only[Db,DO,DU,ED,List.range,List.range.loop]);refine kB vG #[.int .i64 nk,.int .i64 no,.slice pa nd.length ra,.slice pk nl r1,.slice pc cs.length Z,.slice pd g.length rd] 59 λO1 W1 b1 A y aO bq bF=>?_;try walk_nrm
  obtain⟨O,eO⟩:∃O,O=O1:=⟨_,rfl⟩;subst eO;obtain⟨w,ew⟩:∃w,w=W1:=⟨_,rfl⟩;subst ew;have _Y:=cs6 bF;refine kW ?_;clear _Y;have al:Hid (∀O' w' W,Dm Low O O' w w'->Keep Low O' w' W->∀r,W.cell? ⟨b1,r,none⟩=(#[.int .i64 nk,.int .i64 no,.slice pa nd.length ra,.slice pk nl r1,.slice pc cs.length Z,.slice pd g.length rd]:Array Value)[r]?):=λO' w' W hE hK r=>(hK.ext.cell (.inl (hE.own _ aO)) r).trans ((hE.cell (.inl aO) r).trans (bF _ (Keep.refl _ _ _) r));clear bF;refine gW (λa' X O' w'=>∃(u5 ai ah af aj ag gB fZ aE:Value),a'=⟨#[.chan (some c),.agg #[.int .i64 nk,.int .i64 no,.slice pa nd.length ra,.slice pk nl r1,.slice pc cs.length Z,.slice pd g.length rd],undef,.pointer (some ⟨b1,0,none⟩),undef,u5,undef,undef,.pointer (some ⟨b1,4,none⟩),.slice pc cs.length Z,.int .i64 cs.length,aE,ai,ah,af,aj,ag,gB,fZ,undef,undef,undef,undef,undef,undef,undef,undef,undef,undef,undef,undef,undef,undef,undef,undef,undef,undef,undef,undef,undef,undef,undef],[]⟩/\X=au/\Dm Low O O' w w'/\Held Low w₀ O' w') ?_ ?_
  .refine Yr (Bg _ _ _) (λn a' X O' w'=>∃(j:Nat) (u5 ai ah af aj ag gB fZ:Value),j<=cs.length/\n=cs.length - j/\a'=⟨#[.chan (some c), .agg #[.int .i64 nk, .int .i64 no, .slice pa nd.length ra, .slice pk nl r1, .slice pc cs.length Z, .slice pd g.length rd],undef, .pointer (some ⟨b1,0,none⟩),undef,u5,undef,undef, .pointer (some ⟨b1,4,none⟩), .slice pc cs.length Z, .int .i64 cs.length, .int .i64 j,ai,ah,af,aj,ag,gB,fZ,undef,undef,undef,undef,undef,undef,undef,undef,undef,undef,undef,undef,undef,undef,undef,undef,undef,undef,undef,undef,undef,undef,undef],[]⟩/\
    X=(cs.drop j).map (λe=>(OW e).val)++au/\Dm Low O O' w w'/\Held Low w₀ O' w') cs.length ⟨0,undef,undef,undef,undef,undef,undef,undef,undef,EI _,rfl,rfl,by rw[PG,IP];rfl,Dm.refl _ _ _,y⟩ ?_
   rintro n _ _ O1 W1⟨j,u5,ai,ah,af,aj,ag,gB,fZ,hj,rfl,rfl,rfl,A,y⟩;dsimp only;by_cases ab:j<cs.length
   .have bo:(j:Int)<(cs.length:Int):=by omega
    obtain⟨b,o,rfl,hb,an,ap⟩:=aC j ab;have a9:cs.drop j=cs[j]::cs.drop (j+1):=GH ab;have aF:=fH _ (DW ab);rw[a9,DX,D4]
    revert an ap aF
    generalize cs[j]=e;intro an ap aF;obtain⟨qe,se,aV,-⟩:=aF;obtain⟨nO,qR,bs⟩:=e;dsimp only at aV an ap;subst aV;simp only[OW,MI.val];have gZ:Hid (∀W,Keep Low O1 W1 W->W.cell? ⟨b,o+j*2,none⟩=some (.int .i64 nO)/\W.cell? ⟨b,o+j*2+1,none⟩=some (.slice qe qR.length se)):=λW hW=>⟨((y.rely hW).down hb _).trans an,((y.rely hW).down hb _).trans ap⟩
    clear an ap a9 aC;have _Y:=gZ.out;refine kW ?_;clear _Y;refine Nz (Bg _ _ _) rfl Bn ?_ ?_
    .intro _;simp[go_sem];done
    intro w₁ hR K hK;go_simp;refine hK _ _ ?_;clear hK K;obtain⟨O2,eO,s,B,q,aa,H,D⟩:=MN y hR #[.int .i64 0,.slice none 0 0] 53;rw[<-eO];clear eO
    revert s B q aa H D
    generalize w₁.alloc (.cells #[.int .i64 0,.slice none 0 0] 53)=W2;generalize w₁.heap.size=b2;intro s B q aa H D;replace s:=A.trans s;replace H:∀x,O x->x≠b2:=λx u=>H x (A.own x u)
    clear hR w₁;try walk_nrm
    refine X9 (Bg _ _ _) b2 q rfl Bn ?_ ?_
    .intro w₁ hR e he
     have d:=(hR.mine _ q).trans D;have y0:w₁.cell? ⟨b2,0,none⟩=some (.int .i64 0):=cell_of_heap d 0;have z0:w₁.frozen? ⟨b2,0,none⟩=false:=frozen_of_heap d 0;have y1:w₁.cell? ⟨b2,1,none⟩=some (.slice none 0 0):=cell_of_heap d 1;have z1:w₁.frozen? ⟨b2,1,none⟩=false:=frozen_of_heap d 1;clear d;simp[go_sem,events_store_slice,storedEv, *]at he
     (first|(subst he;exact⟨_,_,rfl,.inl q⟩)|(rcases he with rfl|rfl<;>exact⟨_,_,rfl,.inl q⟩)|(rcases he with rfl|rfl|rfl|rfl<;>exact⟨_,_,rfl,.inl q⟩)|(rcases he with rfl|rfl|rfl|rfl|rfl|rfl<;>exact⟨_,_,rfl,.inl q⟩))
    intro w₁ hR K hK;have d:=(hR.mine _ q).trans D;have y0:w₁.cell? ⟨b2,0,none⟩=some (.int .i64 0):=cell_of_heap d 0;have z0:w₁.frozen? ⟨b2,0,none⟩=false:=frozen_of_heap d 0;have y1:w₁.cell? ⟨b2,1,none⟩=some (.slice none 0 0):=cell_of_heap d 1;have z1:w₁.frozen? ⟨b2,1,none⟩=false:=frozen_of_heap d 1;clear d;go_simp;try(unfold stored;go_simp)
    have d:=(hR.mine _ q).trans D;have C:FO b2 w₁ ((w₁.setCell ⟨b2,0,none⟩ (.int .i64 nO)).setCell ⟨b2,1,none⟩ (.slice qe qR.length se)):=(((FO.refl _ _).set 0 (.int .i64 nO)).set 1 (.slice qe qR.length se))
    have Y:((w₁.setCell ⟨b2,0,none⟩ (.int .i64 nO)).setCell ⟨b2,1,none⟩ (.slice qe qR.length se)).heap[b2]?=some (.cells #[.int .i64 nO,.slice qe qR.length se] 53):=(heap_setCell (heap_setCell d 0 (.int .i64 nO)) 1 (.slice qe qR.length se))
    refine hK _ _ C ?_;clear hK K d y0 z0 y1 z1 D;replace s:=(s.rely hR).put C aa H;replace B:=(B.rely hR).put C aa
    revert s B Y
    clear C hR;generalize ((w₁.setCell ⟨b2,0,none⟩ (.int .i64 nO)).setCell ⟨b2,1,none⟩ (.slice qe qR.length se))=W2;intro Y s B;have ac:Hid (∀W,Keep Low O2 W2 W->∀r,W.cell? ⟨b2,r,none⟩=(#[.int .i64 nO,.slice qe qR.length se]:Array Value)[r]?):=λW hW r=>(hW.ext.cell (.inl q) r).trans (cell_of_heap Y r)
    clear Y;try walk_nrm
    have oG:IntKind.i64.wrap ((j:Int)+1)=((j+1:Nat):Int):=yDa
    clear A y hb gZ;have _Y:=cs2 ac;refine kW ?_;clear _Y;exact⟨cs.length - (j+1),BS,j+1,_,_,_,_,_,_,_,_,BS,rfl,rfl,rfl,s,B⟩
   .have bk:¬(j:Int)<(cs.length:Int):=by omega
    have hd:cs.drop j=[]:=fY BS;rw[hd];refine kW ?_;exact⟨_,_,_,_,_,_,_,_,_,rfl,by first|rfl|trivial,A,y⟩
  rintro _ _ O1 W1⟨u5,ai,ah,af,aj,ag,gB,fZ,aE,rfl,rfl,pI,yP⟩;dsimp only;replace A:=A.trans pI;clear y;have y:=yP;have aU:Hid (∀O' w' W,Dm Low O1 O' W1 w'->Keep Low O' w' W->∀r,W.cell? ⟨b1,r,none⟩=(#[.int .i64 nk,.int .i64 no,.slice pa nd.length ra,.slice pk nl r1,.slice pc cs.length Z,.slice pd g.length rd]:Array Value)[r]?):=λO' w' W hE hK r=>al O' w' W (pI.trans hE) hK r;replace aO:=pI.own _ aO;clear al pI yP aC bb;replace al:=aU;clear aU;clear O w;obtain⟨O,eO⟩:∃O,O=O1:=⟨_,rfl⟩;subst eO;obtain⟨w,ew⟩:∃w,w=W1:=⟨_,rfl⟩;subst ew;have vH:=Dm.refl Low O w;have _Y:=cs6 (λW h=>al O w W vH h);refine kW ?_;clear _Y;clear vH;rw[a6.out];clear a6
  refine Yr (Bg _ _ _) (λn a' X O' w'=>∃(j:Nat) (v6 v7 aX aM bf ba aZ aY aH bg aI aN aQ aP a2 a3 aS aT a8 aL aW:Value),j<=g.length/\n=g.length - j/\a'=⟨#[.chan (some c), .agg #[.int .i64 nk, .int .i64 no, .slice pa nd.length ra, .slice pk nl r1, .slice pc cs.length Z, .slice pd g.length rd],undef, .pointer (some ⟨b1,0,none⟩),undef,u5,v6,v7, .pointer (some ⟨b1,4,none⟩), .slice pc cs.length Z, .int .i64 cs.length,aE,ai,ah,af,aj,ag,gB,fZ, .pointer (some ⟨b1,5,none⟩), .slice pd g.length rd, .int .i64 g.length, .int .i64 j,aX,aM,bf,ba,aZ,aY,aH,bg,aI,aN,aQ,aP,a2,a3,aS,aT,a8,aL,aW],[]⟩/\
   X=((E.drop j).flatten).map MI.val++rest/\Dm Low O O' w w'/\Held Low w₀ O' w') g.length ⟨0,undef,undef,undef,undef,undef,undef,undef,undef,undef,undef,undef,undef,undef,undef,undef,undef,undef,undef,undef,undef,undef,EI _,rfl,rfl,by rw[PG],Dm.refl _ _ _,y⟩ ?_
  have bp:=A;clear A y;rintro n _ _ O1 W1⟨j,v6,v7,aX,aM,bf,ba,aZ,aY,aH,bg,aI,aN,aQ,aP,a2,a3,aS,aT,a8,aL,aW,hj,rfl,rfl,rfl,A,y⟩;dsimp only;by_cases ab:j<g.length
  .have bo:(j:Int)<(g.length:Int):=(by omega);obtain⟨b,o,rfl,hb,hc⟩:=aD j ab;have hm:g[j]∈g:=DW ab;have ad:=ar _ hm;obtain⟨gm,ax⟩:=HP _ hm;rw[bi.out j ab,EN,D2,D2,D2,Az9,EG,EG,EG]
   revert hc ad gm ax
   generalize g[j]=x;intro hc ad gm ax;generalize (p x).1=ms1 at*;generalize (p x).2=ms2 at*;obtain⟨M,N,ak⟩:=ad.N.devs;obtain⟨J,R,ae,_⟩:=ad.N.K;obtain⟨qc,sc,mJ,_⟩:=ad.C;obtain⟨qd,sd,ao,_⟩:=ad.K;clear ad;obtain⟨⟨L,U,I,xa,jq,F⟩,bv,V,bu,S⟩:=x;dsimp only at ak ae mJ ao;subst ak ae mJ ao;have gZ:Hid (∀W,Keep Low O1 W1 W->Xk W b (o+j*6) ⟨⟨L,U,I,.slice M I.length N,.slice J F.length R,F⟩,.slice qc V.length sc,V,.slice qd S.length sd,S⟩):=λW hW=>hc.held (y.rely hW) hb;have iC:Hid (∀vs O w,Held Low w₀ O w->Ky prog (okS prog Low c) 137 #[.agg #[.int .i64 L,.int .i64 U,.slice M I.length N,.slice J F.length R]] vs O w λv X O' w'=>X=vs/\(∀rest,Ky prog (okS prog Low c) 170 #[.chan (some c),.int .i64 2,v] (ms1.map MI.val++rest) O' w' λ_ bn qV a5=>bn=rest/\Dm Low O' qV w' a5/\Held Low w₀ qV a5)/\Dm Low O O' w w'/\Held Low w₀ O' w'):=gm;have bh:Hid (∀rest O w,Held Low w₀ O w->Ky prog (okS prog Low c) 139 #[.chan (some c),.agg #[.int .i64 L,.int .i64 U,.slice M I.length N,.slice J F.length R,.slice qc V.length sc,.slice qd S.length sd]] (ms2.map MI.val++rest) O w λ_ X O' w'=>X=rest/\Dm Low O O' w w'/\Held Low w₀ O' w'):=ax;clear hc hm aD ar HP gm ax;have vH:=A;have _Y:=gZ.out;simp only[Xk,We]at _Y;refine kW ?_;clear _Y;refine Nz (Bg _ _ _) rfl Bn ?_ ?_;{intro _;simp[go_sem];done};intro w₁ hR K hK;go_simp;refine hK _ _ ?_;clear hK K;obtain⟨O2,eO,s,B,q,aa,H,D⟩:=MN y hR #[.int .i64 0,.int .i64 0,.slice none 0 0,.slice none 0 0,.slice none 0 0,.slice none 0 0] 59;rw[<-eO];clear eO
   revert s B q aa H D
   generalize w₁.alloc (.cells #[.int .i64 0,.int .i64 0,.slice none 0 0,.slice none 0 0,.slice none 0 0,.slice none 0 0] 59)=W2;generalize w₁.heap.size=b2;intro s B q aa H D;replace s:=A.trans s;replace H:∀x,O x->x≠b2:=λx u=>H x (A.own x u);clear hR w₁;try walk_nrm
   (refine Qa (Bg _ _ _) rfl Bn ?_ ?_;(focus (intro _;first|(simp[go_sem];done)|(simp[go_sem, *];done)));intro _ K hK;go_simp;refine hK _ ?_;clear hK K;try walk_nrm);refine X9 (Bg _ _ _) b2 q rfl Bn ?_ ?_
   .intro w₁ hR e he;have d:=(hR.mine _ q).trans D;have y0:w₁.cell? ⟨b2,0,none⟩=some (.int .i64 0):=cell_of_heap d 0;have z0:w₁.frozen? ⟨b2,0,none⟩=false:=frozen_of_heap d 0;have y1:w₁.cell? ⟨b2,1,none⟩=some (.int .i64 0):=cell_of_heap d 1;have z1:w₁.frozen? ⟨b2,1,none⟩=false:=frozen_of_heap d 1;have y2:w₁.cell? ⟨b2,2,none⟩=some (.slice none 0 0):=cell_of_heap d 2;have z2:w₁.frozen? ⟨b2,2,none⟩=false:=frozen_of_heap d 2;have y3:w₁.cell? ⟨b2,3,none⟩=some (.slice none 0 0):=cell_of_heap d 3;have z3:w₁.frozen? ⟨b2,3,none⟩=false:=frozen_of_heap d 3;have y4:w₁.cell? ⟨b2,4,none⟩=some (.slice none 0 0):=cell_of_heap d 4;have z4:w₁.frozen? ⟨b2,4,none⟩=false:=frozen_of_heap d 4;have y5:w₁.cell? ⟨b2,5,none⟩=some (.slice none 0 0):=cell_of_heap d 5;have z5:w₁.frozen? ⟨b2,5,none⟩=false:=frozen_of_heap d 5;clear d;simp[go_sem,events_store_slice,storedEv, *]at he
    (first|(subst he;exact⟨_,_,rfl,.inl q⟩)|(rcases he with rfl|rfl<;>exact⟨_,_,rfl,.inl q⟩)|(rcases he with rfl|rfl|rfl|rfl<;>exact⟨_,_,rfl,.inl q⟩)|(rcases he with rfl|rfl|rfl|rfl|rfl|rfl<;>exact⟨_,_,rfl,.inl q⟩))
   (intro w₁ hR K hK;have d:=(hR.mine _ q).trans D;have y0:w₁.cell? ⟨b2,0,none⟩=some (.int .i64 0):=cell_of_heap d 0;have z0:w₁.frozen? ⟨b2,0,none⟩=false:=frozen_of_heap d 0;have y1:w₁.cell? ⟨b2,1,none⟩=some (.int .i64 0):=cell_of_heap d 1;have z1:w₁.frozen? ⟨b2,1,none⟩=false:=frozen_of_heap d 1;have y2:w₁.cell? ⟨b2,2,none⟩=some (.slice none 0 0):=cell_of_heap d 2;have z2:w₁.frozen? ⟨b2,2,none⟩=false:=frozen_of_heap d 2;have y3:w₁.cell? ⟨b2,3,none⟩=some (.slice none 0 0):=cell_of_heap d 3;have z3:w₁.frozen? ⟨b2,3,none⟩=false:=frozen_of_heap d 3;have y4:w₁.cell? ⟨b2,4,none⟩=some (.slice none 0 0):=cell_of_heap d 4;have z4:w₁.frozen? ⟨b2,4,none⟩=false:=frozen_of_heap d 4;have y5:w₁.cell? ⟨b2,5,none⟩=some (.slice none 0 0):=cell_of_heap d 5;have z5:w₁.frozen? ⟨b2,5,none⟩=false:=frozen_of_heap d 5;clear d;go_simp;try(unfold stored;go_simp));have d:=(hR.mine _ q).trans D;have C:FO b2 w₁ ((((((w₁.setCell ⟨b2,0,none⟩ (.int .i64 L)).setCell ⟨b2,1,none⟩ (.int .i64 U)).setCell ⟨b2,2,none⟩ (.slice M I.length N)).setCell ⟨b2,3,none⟩ (.slice J F.length R)).setCell ⟨b2,4,none⟩ (.slice qc V.length sc)).setCell ⟨b2,5,none⟩ (.slice qd S.length sd)):=(((((((FO.refl _ _).set 0 (.int .i64 L)).set 1 (.int .i64 U)).set 2 (.slice M I.length N)).set 3 (.slice J F.length R)).set 4 (.slice qc V.length sc)).set 5 (.slice qd S.length sd));have Y:((((((w₁.setCell ⟨b2,0,none⟩ (.int .i64 L)).setCell ⟨b2,1,none⟩ (.int .i64 U)).setCell ⟨b2,2,none⟩ (.slice M I.length N)).setCell ⟨b2,3,none⟩ (.slice J F.length R)).setCell ⟨b2,4,none⟩ (.slice qc V.length sc)).setCell ⟨b2,5,none⟩ (.slice qd S.length sd)).heap[b2]?=some (.cells #[.int .i64 L,.int .i64 U,.slice M I.length N,.slice J F.length R,.slice qc V.length sc,.slice qd S.length sd] 59):=(heap_setCell (heap_setCell (heap_setCell (heap_setCell (heap_setCell (heap_setCell d 0 (.int .i64 L)) 1 (.int .i64 U)) 2 (.slice M I.length N)) 3 (.slice J F.length R)) 4 (.slice qc V.length sc)) 5 (.slice qd S.length sd));refine hK _ _ C ?_;clear hK K d y0 z0 y1 z1 y2 z2 y3 z3 y4 z4 y5 z5 D;replace s:=(s.rely hR).put C aa H;replace B:=(B.rely hR).put C aa
   revert s B Y
   clear C hR;generalize ((((((w₁.setCell ⟨b2,0,none⟩ (.int .i64 L)).setCell ⟨b2,1,none⟩ (.int .i64 U)).setCell ⟨b2,2,none⟩ (.slice M I.length N)).setCell ⟨b2,3,none⟩ (.slice J F.length R)).setCell ⟨b2,4,none⟩ (.slice qc V.length sc)).setCell ⟨b2,5,none⟩ (.slice qd S.length sd))=W2;intro Y s B;have ac:Hid (∀W,Keep Low O2 W2 W->∀r,W.cell? ⟨b2,r,none⟩=(#[.int .i64 L,.int .i64 U,.slice M I.length N,.slice J F.length R,.slice qc V.length sc,.slice qd S.length sd]:Array Value)[r]?):=λW hW r=>(hW.ext.cell (.inl q) r).trans (cell_of_heap Y r);(clear Y;try walk_nrm);have oG:IntKind.i64.wrap ((j:Int)+1)=((j+1:Nat):Int):=yDa;clear vH A y hb gZ;have vH:=s;have _Y:=cs6 (λW h=>al O2 W2 W vH h);have _B1:=s.own _ aO;refine kW ?_;clear _Y _B1
   (refine Hf (Bg _ _ _) rfl Bn rfl (oD g.length j ab a7 _ _ _) CM ?_;rintro _ _ O3 W3⟨rfl,rfl,rfl⟩;try walk_nrm);have _Y:=cs6 ac;refine kW ?_;clear _Y
   (refine Hf (Bg _ _ _) rfl Bn rfl (iC _ _ _ B) CM ?_;rintro v3 _ O3 W3⟨rfl,aJ,gV,br⟩;try walk_nrm);replace ac:=JF ac gV q;replace q:=gV.own _ q
   (refine Hf (Bg _ _ _) rfl Bn rfl (aJ _) CM ?_;rintro _ _ O4 W4⟨rfl,fE,lC⟩;try walk_nrm);clear aJ;replace ac:=JF ac fE q;replace q:=fE.own _ q;have _Y:=cs6 ac;refine kW ?_;clear _Y
   (refine Hf (Bg _ _ _) rfl Bn rfl (bh _ _ _ lC) CM ?_;rintro _ _ O5 W5⟨rfl,bj,kZ⟩;try walk_nrm);refine kW ?_;exact⟨g.length - (j+1),BS,j+1,_,_,_,_,_,_,_,_,_,_,_,_,_,_,_,_,_,_,_,_,_,BS,rfl,rfl,rfl,((s.trans gV).trans fE).trans bj,kZ⟩
  have bk:¬(j:Int)<(g.length:Int):=by omega
  have hd:E.drop j=[]:=fY (by rw[jd.out];omega);rw[hd];refine kW ?_;exact⟨rfl,_,bm _,rfl,bp.trans A,y⟩
