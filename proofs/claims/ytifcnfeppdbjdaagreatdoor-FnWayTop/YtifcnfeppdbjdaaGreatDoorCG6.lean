import Derived.Test.YtifcnfeppdbjdaaGreatDoorCI1
import Derived.Test.YtifcnfeppdbjdaaGreatDoorCG4
namespace Go.Proofs.YtifcnfeppdbjdaaGreatDoor
open Tryz Stil Go.RowKit Go.Sort Go.BigFrame Go.Conc Go.Co
variable {Low c : Nat}
def bl (vs:List Value):List Nat:=vs.filterMap Value.ownBlock
theorem YS (a b:List Value):bl (a++b)=bl a++bl b:=List.filterMap_append
theorem JW {a b:List Value}(h:a.Sublist b):(bl a).Sublist (bl b):=h.filterMap _
def MIs (w₀:World)(S:List Value)(ms:List MI)(is:List Stil.Io):Prop:=ms.map MI.inst=is/\(∀x∈ms,EOk w₀ 0 x.e)/\(bl (ms.map (·.e.av))).Sublist (bl S)
section
variable {w₀ : World}{S S' : List Value}{ms ms' : List MI}{is is' : List Stil.Io}
theorem MIs.append (h:MIs w₀ S ms is)(a:MIs w₀ S' ms' is'):MIs w₀ (S++S') (ms++ms') (is++is'):=by
 refine⟨by rw[CU,h.1,a.1],λx b=>(List.mem_append.1 b).elim (h.2.1 x) (a.2.1 x),?_⟩;rw[CU,YS,YS];exact h.2.2.append a.2.2
theorem MIs.sub (h:MIs w₀ S ms is)(a:(bl S).Sublist (bl S')):MIs w₀ S' ms is:=⟨h.1,h.2.1,h.2.2.trans a⟩
theorem MIs.nil:MIs w₀ [] [] []:=⟨rfl,AU,Ek _⟩
theorem MIs.zero (k:Int):MIs w₀ [] [mi0 k] [I9 k]:=⟨rfl,λx a=>by rw[List.mem_singleton.1 a];exact World.ownsRow_nil _ _ _ _,Ek _⟩
theorem MIs.snoc (h:MIs w₀ S ms is)(k:Int):MIs w₀ S (ms++[mi0 k]) (is++[I9 k]):=(h.append (MIs.zero k)).sub (by rw[G4];exact Ek _)
theorem MIs.one (k:Int)(e:Ej)(h:EOk w₀ 0 e):MIs w₀ [e.av] [⟨k,e⟩] [⟨k,e.elem⟩]:=⟨rfl,λx a=>by rw[List.mem_singleton.1 a];exact h,Ek _⟩
end
variable {k:Int}{w₀:World}
def FU:Stil.B9->Prop
 | ⟨k,_,kids⟩=>(1<=k/\k<=4)/\(k≠1->kids≠[])/\∀p∈kids.map FU,p
theorem ZT (k:Int)(e:Stil.Elem)(kids:List Stil.B9):FU ⟨k,e,kids⟩↔(1<=k/\k<=4)/\(k≠1->kids≠[])/\∀x∈kids,FU x:=by rw[FU,Stil.all_map]
theorem j0 {t:Ak}{vs:List MI}(d:NOk Low w₀ t)(h:t.kind≠1->MIs w₀ t.vals vs (Dc t.net)):MIs w₀ t.vals (FR k t vs) (Df k t.net):=by
 have b:t.net.kind=t.kind:=by rw[Ak.net_eq]
 unfold FR;by_cases a:t.kind=1
 ·rw[if_pos a,Qz _ _ (b.trans a),Ak.net_eq]
  refine(MIs.one (w₀:=w₀) k ⟨t.op,t.ds,t.av⟩ ((Jw _ _ _).1 d.1).1).sub ?_;rw[Ak.vals_eq];exact JW (List.Sublist.cons_cons _ (List.nil_sublist _))
 ·rw[if_neg a,Oc _ _ (λe=>a (b.symm.trans e))]
  exact(h a).snoc _
theorem PW {f:Ak->List MI}:∀{a:List Ak},(∀t∈a,NOk Low w₀ t)->(∀t∈a,t.kind≠1->MIs w₀ t.vals (f t) (Dc t.net))->MIs w₀ (Gv a) (a.map λt=>FR k t (f t)).flatten ((a.map Ak.net).map (Df k)).flatten
 | [],_,_=>MIs.nil
 | t::a,b,d=>by
  rw[CP,EB,CP,CP,EB];exact(j0 (b t AU) (d t AU)).append (PW (λx hx=>b x BS) λx hx=>d x BS)
theorem T0 (a:List Ak)(g:Ak->List MI):((a.map g).flatten).map MI.val=(a.map λt=>(g t).map MI.val).flatten:=by rw[List.map_flatten,FI];rfl
theorem Az0 {w:World}{O:Nat->Prop}(h:Held Low w₀ O w)(d:Nat):Held Low w₀ O {w with drawn:=d}:=⟨h.still,h.low,h.up,h.os,h.out⟩
theorem iu {w w':World}{O O':Nat->Prop}(h:C0 Low O O' w w')(d:Nat):C0 Low O O' w {w' with drawn:=d}:=⟨h.own,h.still,h.mine,h.size⟩
set_option maxRecDepth 100000 in
set_option maxHeartbeats 4000000 in
theorem RR (w₀:World)(n:Ak):FU n.net->Af n.net<=1000000->NOk Low w₀ n->∃Y,MIs w₀ n.vals Y (Dc n.net)/\JB Low c w₀ n Y:=by
 induction n using Za with
 | h k op q av kv kids ih=>
  intro U H N;have L:=Ak.vals_eq ⟨k,op,q,av,kv,kids⟩;rw[Ak.net_eq] at U H ⊢;dsimp only at U H L ⊢;obtain⟨⟨aK,aH⟩,ai,V⟩:=(ZT _ _ _).1 U;rw[Eg] at H;simp only at H;have ak:∀x∈kids,Af x.net<=1000000:=λx hx=>by have:Af x.net<=Stil.sizes (kids.map Ak.net):=D9 Af _ x.net (FX hx);omega
  have ah:kids.length<=999999:=by have:=Js (kids.map Ak.net);rw[CW] at this;omega
  replace V:∀x∈kids,FU x.net:=λx hx=>V _ (FX hx)
  obtain⟨B,C,au⟩:=N.devs;obtain⟨p1,j,ay,ab,I,R⟩:=N.kids;have ae:=((Jw _ _ _).1 N.1).1;dsimp only at au ay ab ae I R;subst au ay;have ao:=resultsC_none (P:=prog) (fn:=Tryz.f77) rfl;by_cases h1:k=1
  ·subst h1
   refine⟨[⟨1,⟨op,q,AE B q.length C⟩⟩],?_,λrest O w hF=>?_⟩
   ·rw[Qb,L]
    exact(MIs.one (w₀:=w₀) 1 ⟨op,q,AE B q.length C⟩ ae).sub (JW (List.Sublist.cons_cons _ (List.nil_sublist _)))
   clear L ak ah V U H N ih I R ae ai ab;rw[CP,C3,MI.val,C4,C5];dsimp only;refine Ir func77 Ao rfl ?_;simp only[ntmps77,Cd,CH,CO,Nat.reduceAdd,Nat.reduceSub,DN,DO,DL,DR,C5,C4];refine Le (Ba _ _ _) ?_
   (refine Gp (Ba _ _ _) ?_;simp only[Cd,CH,CO,CV,List.range,List.range.loop])
   refine kB hF #[AB 1,AB op,AE B q.length C,AE p1 kids.length j] 59 λO1 W1 s X D d aw r=>?_
   try walk_nrm
   have _Y:=cs4 r;refine kW ?_;clear _Y;exact⟨rfl,_,ao _,rfl,X,D⟩
  obtain⟨t,g,rfl⟩:=MW (λe=>ai h1 (by rw[e];rfl):kids≠[]);obtain⟨b,o,rfl,aA,an⟩:=R 0 AU;rw[EP,FG,EO] at an;have aL:g.length+1<=j:=by have:=ab.1;simp only[CH] at this;exact this
  have aC:∀i (h:i<g.length),b<Low/\X3 w₀ b (o+4+i*4) g[i]:=λi hi=>by
   obtain⟨b',o',e',ac,af⟩:=R (i+1) Ax;cases e';rw[J1] at af;exact⟨ac,by rw[show o+4+i*4=o+(i+1)*4 by omega];exact af⟩
  have ar:=λy hy=>ih y hy (V _ hy) (ak _ hy) (I y hy)
  obtain⟨vt,aj,aB⟩:=ar t AU;have aM:(k==1)=false:=by rw[CS];exact h1
  have bn:=I t AU;have aJ:g.length<=999999:=by simp only[CH] at ah;omega
  clear ih ak R V ah U ai H ab;obtain⟨pa,ra,ax⟩:=bn.devs;obtain⟨pk,rk,az,_⟩:=bn.kids;have xm:Hid ((k=4->MIs w₀ (Ak.vals ⟨k,op,q,AE B q.length C, .slice (some (AK b o)) (t::g).length j,t::g⟩) (vt++[mi0 6]) (Dc t.net++[I9 6]))/\∀ap is',MIs w₀ (Gv g) ap is'->MIs w₀ (Ak.vals ⟨k,op,q,AE B q.length C, .slice (some (AK b o)) (t::g).length j,t::g⟩) (vt++ap) (Dc t.net++is')):=by
   have e:Gv (t::g)=t.vals++Gv g:=rfl;have aD:(bl t.vals).Sublist (bl (Ak.vals ⟨k,op,q,AE B q.length C, .slice (some (AK b o)) (t::g).length j,t::g⟩)):=by
    rw[L,e];exact JW (((List.sublist_append_left _ _).cons _).cons _)
   refine⟨λ_=>(aj.snoc 6).sub aD,λap is' h'=>(aj.append h').sub ?_⟩;rw[L,e];exact JW (((Ek _).cons _).cons _)
  clear L aj N;have xh:Hid (∀Z,Z≠1->Z≠4->Dc ⟨Z,⟨op,q⟩,(t::g).map Ak.net⟩=Dc t.net++((g.map Ak.net).map (Df Z)).flatten):=λZ h1 h4=>by rw[CP,O0 _ _ _ h1 h4]
  have zD:Hid (Dc ⟨4,⟨op,q⟩,(t::g).map Ak.net⟩=Dc t.net++[I9 6]):=by show _=_;rw[CP,Qc]
  obtain⟨t1,tp,td,ta,tk,ts⟩:=t;dsimp only at ax az;subst ax az;by_cases h4:k=4
  ·subst h4
   refine⟨vt++[mi0 6],by rw[zD.out];exact xm.1 rfl,λrest O w hF=>?_⟩;clear xm zD xh;rw[CU,CP,C3,EV,C4,C5];dsimp only;simp only[CH];refine Ir func77 Ao rfl ?_;simp only[ntmps77,Cd,CH,CO,Nat.reduceAdd,Nat.reduceSub,DN,DO,DL,DR,C5,C4];refine Le (Ba _ _ _) ?_
   (refine Gp (Ba _ _ _) ?_;simp only[Cd,CH,CO,CV,List.range,List.range.loop])
   refine kB hF #[AB 4,AB op,AE B q.length C,AE (some (AK b o)) (g.length+1) j] 59 λO1 W1 s X D d aw r=>?_
   try walk_nrm
   have qw:=AV (λW (F:Keep Low O1 W1 W)=>an.held (D.rely F) aA);have _Y:=λW h=>And.intro (cs4 r W h) (qw W h)
   simp only[X3] at _Y;refine kW ?_;clear _Y
   (refine Hr (Ba _ _ _) rfl Ao rfl (aB _ _ _ D) BM ?_;rintro _ _ O2 W2 ⟨rfl,E,ag⟩;try walk_nrm)
   replace r:=Ge r E d;replace d:=E.own _ d;simp only[MI.val,mi0];have _Y:=cs4 r;refine kW ?_;clear _Y;exact⟨rfl,_,ao _,rfl,X.trans E,ag⟩
  have gJ:k=2\/k=3:=AQ
  have gm:(k==4)=false:=by rw[CS];exact h4
  obtain⟨f,hf⟩:∃f:Ak->List MI,∀y∈g,MIs w₀ y.vals (f y) (Dc y.net)/\JB Low c w₀ y (f y):=by
   classical
   refine⟨λy=>if h:∃Y,MIs w₀ y.vals Y (Dc y.net)/\JB Low c w₀ y Y then h.choose else [],λy hy=>?_⟩;have h:=ar y Bt;simp only[h,dite_true];exact h.choose_spec
  have al:∀y∈g,NOk Low w₀ y:=λy hy=>I y Bt
  refine⟨vt++(g.map λy=>FR k y (f y)).flatten,?_,λrest O w hF=>?_⟩
  ·rw[xh.out k h1 h4]
   exact xm.2 _ _ (PW al λy hy _=>(hf y hy).1)
  clear xm zD xh;rw[CU,T0,EV];dsimp only;simp only[CH]
  have HT:=AV (λO W F=>by
   have:=SQ (c:=c) w₀ k gJ g f al (λy hy _=>(hf y hy).2) AQ rest O W F (if j=1 then some (AK b o) else some (AK b (o+4))) (j - 1) (λi hi=>by
    obtain⟨ac,af⟩:=aC i hi;have aE:¬j=1:=AQ
    rw[if_neg aE]
    exact⟨b,o+4,rfl, .inr ac,af.held F ac⟩)
   exact this)
  clear hf ar aC al I ae;generalize (g.map λt=>(FR k t (f t)).map MI.val).flatten=tl at*;generalize g.length=m at*;refine Ir func77 Ao rfl ?_;simp only[ntmps77,Cd,CH,CO,Nat.reduceAdd,Nat.reduceSub,DN,DO,DL,DR,C5,C4];refine Le (Ba _ _ _) ?_
  (refine Gp (Ba _ _ _) ?_;simp only[Cd,CH,CO,CV,List.range,List.range.loop])
  refine kB hF #[AB k,AB op,AE B q.length C,AE (some (AK b o)) (m+1) j] 59 λO1 W1 s X D d aw r=>?_
  try walk_nrm
  have qw:=AV (λW (F:Keep Low O1 W1 W)=>an.held (D.rely F) aA);have _Y:=λW h=>And.intro (cs4 r W h) (qw W h)
  simp only[X3] at _Y;refine kW ?_;clear _Y
  (refine Hr (Ba _ _ _) rfl Ao rfl (aB _ _ _ D) BM ?_;rintro _ _ O2 W2 ⟨rfl,E,ag⟩;try walk_nrm)
  replace r:=Ge r E d;replace d:=E.own _ d;have _Y:=cs4 r;refine kW ?_;clear _Y;have aG:(1:Int)<=(m:Int)+1:=AQ
  have aI:∀(W:World) (es:Array Event),(Instr.sliceAt 57 (AE (some (AK b o)) (m+1) j) (some (AB 1)) none none).events prog W es=es:=λW es=>rN _ underlying57 _ _ _ aG
  refine ol (Ba _ _ _) (λW=>W.cell? (AK s 0)=some (AB k)/\W.cell? (AK s 3)=some (AE (some (AK b o)) (m+1) j)) 6 AX rfl λw₁ hR=>?_
  have J:∀aa v:World,(aa.cell? (AK s 0)=some (AB k)/\aa.cell? (AK s 3)=some (AE (some (AK b o)) (m+1) j))->Keep Low O2 aa v->(v.cell? (AK s 0)=some (AB k)/\v.cell? (AK s 3)=some (AE (some (AK b o)) (m+1) j)):=λaa v hu hk=>⟨(hk.ext.cell (.inl d) _).trans hu.1,(hk.ext.cell (.inl d) _).trans hu.2⟩
  have M:({w₁ with drawn:=w₁.drawn+1}:World).cell? (AK s 0)=some (AB k)/\({w₁ with drawn:=w₁.drawn+1}:World).cell? (AK s 3)=some (AE (some (AK b o)) (m+1) j):=⟨r _ hR 0,r _ hR 3⟩
  simp only[Cd,CH,CO,Nat.reduceAdd,CV]
  (refine V6 (Ba _ _ _) J (i:=0) (v:=.chan (some c)) rfl BI BI BI BI BI (.inl ⟨Ao,λW1 l=>⟨run_eq_of ?_,⟨λ_ _ _=>rfl,CG _,rfl,rfl,rfl,?_⟩⟩⟩) M ?_;(focus (intro K hK;obtain⟨A,u⟩:=l;go_simp;exact hK));(focus (rw[J4];intro e he;replace he:=mem_listed he;obtain⟨A,u⟩:=l;simp[go_sem, *] at he;try (refine Or.inl ?_;(first | (subst he;exact⟨_,_,rfl, .inl d⟩) | (rcases he with rfl | rfl<;>exact⟨_,_,rfl, .inl d⟩) | (rcases he with rfl | rfl | rfl | rfl<;>exact⟨_,_,rfl, .inl d⟩) | (rcases he with rfl | rfl | rfl | rfl | rfl | rfl<;>exact⟨_,_,rfl, .inl d⟩)))));try walk_nrm)
  (refine V6 (Ba _ _ _) J (i:=1) (v:=AH s) rfl BI BI BI BI BI (.inl ⟨Ao,λW1 l=>⟨run_eq_of ?_,⟨λ_ _ _=>rfl,CG _,rfl,rfl,rfl,?_⟩⟩⟩) M ?_;(focus (intro K hK;obtain⟨A,u⟩:=l;go_simp;exact hK));(focus (rw[J4];intro e he;replace he:=mem_listed he;obtain⟨A,u⟩:=l;simp[go_sem, *] at he;try (refine Or.inl ?_;(first | (subst he;exact⟨_,_,rfl, .inl d⟩) | (rcases he with rfl | rfl<;>exact⟨_,_,rfl, .inl d⟩) | (rcases he with rfl | rfl | rfl | rfl<;>exact⟨_,_,rfl, .inl d⟩) | (rcases he with rfl | rfl | rfl | rfl | rfl | rfl<;>exact⟨_,_,rfl, .inl d⟩)))));try walk_nrm)
  (refine V6 (Ba _ _ _) J (i:=2) (v:=AB k) rfl BI BI BI BI BI (.inl ⟨Ao,λW1 l=>⟨run_eq_of ?_,⟨λ_ _ _=>rfl,CG _,rfl,rfl,rfl,?_⟩⟩⟩) M ?_;(focus (intro K hK;obtain⟨A,u⟩:=l;go_simp;exact hK));(focus (rw[J4];intro e he;replace he:=mem_listed he;obtain⟨A,u⟩:=l;simp[go_sem, *] at he;try (refine Or.inl ?_;(first | (subst he;exact⟨_,_,rfl, .inl d⟩) | (rcases he with rfl | rfl<;>exact⟨_,_,rfl, .inl d⟩) | (rcases he with rfl | rfl | rfl | rfl<;>exact⟨_,_,rfl, .inl d⟩) | (rcases he with rfl | rfl | rfl | rfl | rfl | rfl<;>exact⟨_,_,rfl, .inl d⟩)))));try walk_nrm)
  (refine V6 (Ba _ _ _) J (i:=3) (v:=.pointer (some (AK s 3))) rfl BI BI BI BI BI (.inl ⟨Ao,λW1 l=>⟨run_eq_of ?_,⟨λ_ _ _=>rfl,CG _,rfl,rfl,rfl,?_⟩⟩⟩) M ?_;(focus (intro K hK;obtain⟨A,u⟩:=l;go_simp;exact hK));(focus (rw[J4];intro e he;replace he:=mem_listed he;obtain⟨A,u⟩:=l;simp[go_sem, *] at he;try (refine Or.inl ?_;(first | (subst he;exact⟨_,_,rfl, .inl d⟩) | (rcases he with rfl | rfl<;>exact⟨_,_,rfl, .inl d⟩) | (rcases he with rfl | rfl | rfl | rfl<;>exact⟨_,_,rfl, .inl d⟩) | (rcases he with rfl | rfl | rfl | rfl | rfl | rfl<;>exact⟨_,_,rfl, .inl d⟩)))));try walk_nrm)
  (refine V6 (Ba _ _ _) J (i:=4) (v:=AE (some (AK b o)) (m+1) j) rfl BI BI BI BI BI (.inl ⟨Ao,λW1 l=>⟨run_eq_of ?_,⟨λ_ _ _=>rfl,CG _,rfl,rfl,rfl,?_⟩⟩⟩) M ?_;(focus (intro K hK;obtain⟨A,u⟩:=l;go_simp;exact hK));(focus (rw[J4];intro e he;replace he:=mem_listed he;obtain⟨A,u⟩:=l;simp[go_sem, *] at he;try (refine Or.inl ?_;(first | (subst he;exact⟨_,_,rfl, .inl d⟩) | (rcases he with rfl | rfl<;>exact⟨_,_,rfl, .inl d⟩) | (rcases he with rfl | rfl | rfl | rfl<;>exact⟨_,_,rfl, .inl d⟩) | (rcases he with rfl | rfl | rfl | rfl | rfl | rfl<;>exact⟨_,_,rfl, .inl d⟩)))));try walk_nrm)
  (refine V6 (Ba _ _ _) J (i:=5) (v:=AE (if j=1 then some (AK b o) else some (AK b (o+4))) m (j - 1)) rfl BI BI BI BI BI (.inl ⟨Ao,λW1 l=>⟨run_eq_of ?_,⟨λ_ _ _=>rfl,CG _,rfl,rfl,rfl,?_⟩⟩⟩) M ?_;(focus (intro K hK;obtain⟨A,u⟩:=l;go_simp;exact hK));(focus (rw[J4];intro e he;replace he:=mem_listed he;obtain⟨A,u⟩:=l;simp[go_sem, *] at he;try (refine Or.inl ?_;(first | (subst he;exact⟨_,_,rfl, .inl d⟩) | (rcases he with rfl | rfl<;>exact⟨_,_,rfl, .inl d⟩) | (rcases he with rfl | rfl | rfl | rfl<;>exact⟨_,_,rfl, .inl d⟩) | (rcases he with rfl | rfl | rfl | rfl | rfl | rfl<;>exact⟨_,_,rfl, .inl d⟩)))));try walk_nrm)
  refine⟨by first | kernel_rfl | rfl,?_⟩;have aF:=Az0 (ag.rely hR) (w₁.drawn+1);have iV:=iu ((X.trans E).rely hR) (w₁.drawn+1)
  (refine Hr (Ba _ _ _) rfl Ao rfl (HT _ _ aF) BM ?_;rintro _ _ O4 W4 ⟨rfl,gW,oD⟩;try walk_nrm)
  refine kW ?_;exact⟨rfl,_,ao _,rfl,iV.trans gW,oD⟩
variable {Low c : Nat}
def IA (m:Bq):List Value:=(m.cv::G6 m.coils)++(m.kv::Iy m.kids)
theorem Tf (m:Bq):m.vals=m.net.vals++IA m:=m.vals_eq
def VOk (Low:Nat)(w₀:World)(m:Bq):Prop:=AOk w₀ 0 m/\∀x∈m.vals,∀k,x.ownBlock=some k->k<Low
def GK (w:World)(b o:Nat)(m:Bq):Prop:=X3 w b o m.net/\w.cell? ⟨b,o+4,none⟩=some m.cv/\w.cell? ⟨b,o+5,none⟩=some m.kv
section
variable {w₀ w w' : World}{O O' : Nat -> Prop}
theorem GK.held {b o:Nat}{m:Bq}(h:GK w₀ b o m)(k:Held Low w₀ O w)(a:b<Low):GK w b o m:=⟨h.1.held k a,(k.down a _).trans h.2.1,(k.down a _).trans h.2.2⟩
theorem VOk.net {m:Bq}(h:VOk Low w₀ m):NOk Low w₀ m.net:=⟨((Jp _ _ _).1 h.1).1,λx b k a=>h.2 x (by rw[Tf];exact E1 _ b) k a⟩
theorem VOk.coils {m:Bq}(h:VOk Low w₀ m):∃(a:Option Addr) (cap:Nat),m.cv=AE a m.coils.length cap/\(∀e∈m.coils,EOk w₀ 0 e)/\
  ∀i (h:i<m.coils.length),∃b o,a=some (AK b o)/\b<Low/\w₀.cell? (AK b (o+i*2))=some (AB m.coils[i].op)/\w₀.cell? (AK b (o+i*2+1))=some m.coils[i].av:=by
 obtain⟨_,⟨q,p⟩,_⟩:=(Jp _ _ _).1 h.1;obtain⟨a,cap,e,_,g⟩:=Ti q;refine⟨a,cap,e,p,λi hi=>?_⟩;obtain⟨l,r⟩:=OM m.coils i hi;obtain⟨b,d,s,n⟩:=g _ _ l;obtain⟨t,f,_,j⟩:=g _ _ r;rw[d] at f;cases f;refine⟨b,0,d,h.2 m.cv (by rw[Tf];simp[IA]) b s,?_⟩;rw[CV];exact⟨n,j⟩
theorem VOk.kids {m:Bq}(h:VOk Low w₀ m):∃(a:Option Addr) (cap:Nat),m.kv=AE a m.kids.length cap/\(∀t∈m.kids,VOk Low w₀ t)/\
  ∀i (h:i<m.kids.length),∃b o,a=some (AK b o)/\b<Low/\GK w₀ b (o+i*6) m.kids[i]:=by
 obtain⟨_,_,f,F⟩:=(Jp _ _ _).1 h.1;obtain⟨a,cap,e,_,d⟩:=Ti f;refine⟨a,cap,e,λt g=>⟨F t g,λx C k f=>h.2 x ?_ k f⟩,λi hi=>?_⟩
 ·rw[Tf]
  refine D3 _ (D3 _ (CQ _ (Oe.2 ⟨t,g,C⟩)))
 ·obtain⟨u,G,A,E,D,I⟩:=V7 m.kids i hi
  obtain⟨b,j,H,B⟩:=d _ _ u;obtain⟨L,l,_,s⟩:=d _ _ G;obtain⟨N,q,_,z⟩:=d _ _ A;obtain⟨P,n,_,v⟩:=d _ _ E;obtain⟨K,r,_,y⟩:=d _ _ D;obtain⟨M,p,_,J⟩:=d _ _ I;rw[j] at l q n r p;cases l;cases q;cases n;cases r;cases p;refine⟨b,0,j,h.2 m.kv (by rw[Tf];simp[IA]) b H,?_⟩;unfold GK X3;rw[CV];exact⟨⟨B,s,z,v⟩,y,J⟩
end
variable {w₀:World}
def MK (Low c:Nat)(w₀:World)(t:Ak)(ms:List MI):Prop:=∀a O w,Held Low w₀ O w->
 Nj prog (okS prog Low c) 93 #[.agg #[AB t.kind,AB t.op,t.av,t.kv]] a O w λv e O' w'=>e=a/\
  (∀rest,Nj prog (okS prog Low c) 118 #[.chan (some c),AB 2,v] (ms.map MI.val++rest) O' w' λ_ f d b=>f=rest/\C0 Low O' d w' b/\Held Low w₀ d b)/\C0 Low O O' w w'/\Held Low w₀ O' w'
def Kp (n:Stil.B9):Prop:=n.one.args.length<=1048576/\n.kids.length<=1000000/\∀x∈Ci n,FU x/\Af x<=1000000
theorem eW (w₀:World)(t:Ak)(q:NOk Low w₀ t)(hg:Kp t.net):∃ms,MIs w₀ t.vals ms (Dy t.net)/\MK Low c w₀ t ms:=by
 obtain⟨n,o,l⟩:=hg;rw[Ak.net_eq] at n o;simp only[CW] at n o;obtain⟨g,e,hts,r,u⟩:=i3 (c:=c) w₀ t q AQ AQ;have B:∀y∈g,∃d,MIs w₀ y.vals d (Dc y.net)/\JB Low c w₀ y d:=λy b=>by
  have j:y.net∈Ci t.net:=by rw[<-e];exact FX b
  exact RR w₀ y (l _ j).1 (l _ j).2 (hts y b)
 obtain⟨f,i⟩:∃f:Ak->List MI,∀y∈g,MIs w₀ y.vals (f y) (Dc y.net)/\JB Low c w₀ y (f y):=by
  classical
  refine⟨λy=>if h:∃d,MIs w₀ y.vals d (Dc y.net)/\JB Low c w₀ y d then h.choose else [],λy b=>?_⟩;have h:=B y b;simp only[h,dite_true];exact h.choose_spec
 have C:g.length<=1000001:=by
  have x:g.length=(Ci t.net).length:=by rw[<-e,CW]
  rw[x];unfold Ci;rw[Ak.net_eq];split
  ·simp
  ·split
   ·simp only[CW];omega
   ·simp
 refine⟨(g.map λy=>FR 2 y (f y)).flatten,?_,λd O w hF=>(u d O w hF).mono ?_⟩
 ·unfold Dy
  rw[<-e];exact(PW hts λy b _=>(i y b).1).sub (JW r)
 ·rintro v D O' w' ⟨z,⟨a,cap,rfl,s⟩,A,m⟩
  refine⟨z,λrest=>?_,A,m⟩;rw[T0];exact SQ w₀ 2 (.inl rfl) g f hts (λy b _=>(i y b).2) AQ rest O' w' m a cap s
def K8 (Low c:Nat)(w₀:World)(t:Bq)(vs:List MI):Prop:=∀rest O w,Held Low w₀ O w->
 Nj prog (okS prog Low c) 78 #[.chan (some c), .agg #[AB t.net.kind,AB t.net.op,t.net.av,t.net.kv,t.cv,t.kv]] (vs.map MI.val++rest) O w λ_ a O' w'=>a=rest/\C0 Low O O' w w'/\Held Low w₀ O' w'
def GM:Stil.B8->Prop
 | ⟨_,a,kids⟩=>a.length<=1000000/\kids.length<=1000000/\(∀x∈kids,Kp x.net)/\∀p∈kids.map GM,p
theorem ZU (n:Stil.B9)(cs:List Stil.Elem)(kids:List Stil.B8):GM ⟨n,cs,kids⟩↔cs.length<=1000000/\kids.length<=1000000/\(∀x∈kids,Kp x.net)/\∀x∈kids,GM x:=by rw[GM,Stil.all_map]
def Z4 (n i:Nat):List MI:=(Ff n i).map λx=>mi0 x.code
theorem Az7 (n i:Nat):(Z4 n i).map MI.val=(Ff n i).map λx=>v0 x.code:=by unfold Z4;rw[FI];rfl
theorem j7 (n i:Nat):MIs w₀ [] (Z4 n i) (Ff n i):=by
 unfold Z4 Ff;repeat' split
 all_goals first | exact MIs.nil | exact MIs.zero _
def MP (e:Ej):MI:=⟨10,e⟩
theorem RV:∀{a:List Ej},(∀e∈a,EOk w₀ 0 e)->MIs w₀ (G6 a) (a.map MP) (Iu (a.map Ej.elem))
 | [],_=>MIs.nil
 | e::a,h=>(MIs.one 10 e (h e AU)).append (RV λx hx=>h x BS)
theorem eK {n:Nat}{p:Bq->List MI × List MI}:∀{l:List Bq} (k:Nat),(∀x∈l,MIs w₀ x.net.vals (p x).1 (Dy x.net.net)/\MIs w₀ (IA x) (p x).2 (Dl x.arm))->
  MIs w₀ (Iy l) (l.mapIdx λi x=>Z4 n (k+i)++((p x).1++(p x).2)).flatten ((l.map Bq.arm).mapIdx λi a=>Jn n (k+i) a).flatten
 | [],_,_=>MIs.nil
 | x::l,k,h=>by
  obtain⟨j,m⟩:=h x AU;have b:=eK (l:=l) (n:=n) (p:=p) (k+1) λy hy=>h y Bt
  have e:Iy (x::l)=x.vals++Iy l:=rfl;rw[e,Tf,CP,List.mapIdx_cons,List.mapIdx_cons,EB,EB];refine MIs.append ?_ ?_
  ·have o:Jn n (k+0) x.arm=Ff n (k+0)++(Dy x.net.net++Dl x.arm):=by
    show Ff _ _++(Dy x.arm.net++_)=_
    rw[Bq.arm_eq]
   rw[o];exact((j7 n (k+0)).append (j.append m)).sub (by rw[C5];exact Ek _)
  ·have d:∀i,k+1+i=k+(i+1):=λi=>by omega
   have g:(λ(i:Nat) (x:Bq)=>Z4 n (k+1+i)++((p x).1++(p x).2))=λi x=>Z4 n (k+(i+1))++((p x).1++(p x).2):=by funext i x;rw[d]
   have f:(λ(i:Nat) (a:Stil.B8)=>Jn n (k+1+i) a)=λi a=>Jn n (k+(i+1)) a:=by funext i a;rw[d]
   rw[g,f] at b;exact b
