import Derived.Test.YtifcnfeppdbjdaaGreatDoorCH2
import Derived.Test.YtifcnfeppdbjdaaGreatDoorG5
set_option maxRecDepth 100000
set_option maxHeartbeats 8000000
namespace Go.Co
open Go.Conc
section
variable {τ : Type}{P : Program}{main : Bool}{Low : Nat}{pre : τ -> World -> Prop}{ok : τ -> (Nat -> Prop) -> World -> Goroutine -> Prop}{fn : FuncId}{a : Act}{x : τ}{O : Nat -> Prop}{w : World}{b : Frame}{k : List Item}{cs : List Frame}
theorem kx {ops:Array Oper}{todo:List Nat}(l:b.fn=fn)(j:b.kind≠.early)(h:Vh ok fn ops todo (Wh (λd g f w'=>ok g f w' (G (b.at d k) cs)) (λ_ _ _ _ _=>False)) a x O w):ok x O w (G (b.at a (.inRegion ops todo::k)) cs):=by
 refine h b k cs l j λe d g f w' q=>?_
 cases e with
 | normal=>exact q
 | _=>exact q.elim
theorem g8 {c:Code}(l:b.fn=fn)(j:b.kind≠.early)(h:WpK ok fn c (Wh (λd g f w'=>ok g f w' (G (b.at d k) cs)) (λ_ _ _ _ _=>False)) a x O w):ok x O w (G (b.at a (.code c::k)) cs):=by
 refine h b k cs l j λe d g f w' q=>?_
 cases e with
 | normal=>exact q
 | _=>exact q.elim
end
variable {c i:Nat}{cs:List Nat}
def LSt (cs:List Nat)(f:List (List Value))(i:Nat)(g:List Value)(L:List (Nat × List Value × Bool)):Prop:=
 (∀t,t<i->∀e,L[t]?=some e->e.2.2=true)/\L.length=cs.length/\(∀c,cs[i]?=some c->L[i]?=some (c,g,false))/\∀t c d,i<t->cs[t]?=some c->f[t]?=some d->L[t]?=some (c,d,false)
theorem LSt.begin (cs:List Nat)(d:List (List Value))(hl:d.length=cs.length)(g:List Value)(hr:∀r,d[0]?=some r->r=g):LSt cs d 0 g (List.zipWith (λc f=>(c,f,false)) cs d):=by
 refine⟨λt l=>by omega,by simp[hl],λc e=>?_,λt c f _ e j=>?_⟩
 ·rw[List.getElem?_zipWith,e]
  have h:0<d.length:=by have:=(List.getElem?_eq_some_iff.1 e).1;omega
  rw[DX h];simp only;rw[hr _ (DX h)]
 ·rw[List.getElem?_zipWith,e,j]
theorem LSt.recv {j:List (List Value)}{v:Value}{g:List Value}{L:List (Nat × List Value × Bool)}(h:LSt cs j i (v::g) L)(m:cs[i]?=some c):LSt cs j i g (L.set i (c,g,false)):=by
 have hi:i<L.length:=by rw[h.2.1];exact(List.getElem?_eq_some_iff.1 m).1
 refine⟨λt f e n=>h.1 t f e ?_,by rw[JJ];exact h.2.1,λl d=>?_,λt l o f d q=>?_⟩
 ·rw[CY AQ] at n;exact n
 ·rw[m] at d;cases d
  rw[Db hi]
 ·rw[CY AQ];exact h.2.2.2 t l o f d q
theorem LSt.done {d:List (List Value)}{L:List (Nat × List Value × Bool)}(h:LSt cs d i [] L)(u:cs[i]?=some c)(hl:d.length=cs.length)(m:List Value)(hr:∀r,d[i+1]?=some r->r=m):LSt cs d (i+1) m (L.set i (c,[],true)):=by
 have hi:i<L.length:=by rw[h.2.1];exact(List.getElem?_eq_some_iff.1 u).1
 refine⟨λt o e g=>?_,by rw[JJ];exact h.2.1,λl j=>?_,λt l s o j f=>?_⟩
 ·by_cases n:t=i
  ·subst n
   rw[Db hi] at g;cases g;rfl
  ·rw[CY (λe=>n e.symm)] at g
   exact h.1 t AQ e g
 ·rw[CY AQ]
  have q:i+1<d.length:=by rw[hl];exact(List.getElem?_eq_some_iff.1 j).1
  have f:=DX q;have:=h.2.2.2 (i+1) l _ AQ j f
  rw[this,hr _ f]
 ·rw[CY AQ]
  exact h.2.2.2 t l s AQ j f
end Go.Co
namespace Go.Proofs.YtifcnfeppdbjdaaGreatDoor
open Tryz Go.RowKit Go.Sort Go.BigFrame Go.Conc Go.Co
variable {Low : Nat}{Stop : Goroutine -> World -> Prop}
def Yu (f:Bq->Nat->List MI)(cs:List Nat)(d:List Bq):List (List MI):=List.zipWith (λc m=>f m c) cs d
theorem ZB (f:Bq->Nat->List MI):∀(cs:List Nat) (d:List Bq),List.zipWith (λc m=>(c,(f m c).map MI.val,false)) cs d=List.zipWith (λc e=>(c,e,false)) cs ((Yu f cs d).map (·.map MI.val))
 | [],_=>by simp[Yu]
 | c::cs,[]=>by simp[Yu]
 | c::cs,m::d=>by
  have:=ZB f cs d
  simp only[Yu,eT,CP] at this ⊢;rw[this]
theorem mC (w₀:World)(r:List Bq)(f:Bq->Nat->List MI)(aa:Option Addr)(cap:Nat)(aT:∀i (h:i<r.length),∃b o,aa=some (AK b o)/\b<Low/\GK w₀ b (o+i*6) r[i])(aO:∀m∈r,VOk Low w₀ m)(aW:∀m∈r,SV Low w₀ m (f m))(hl:r.length<=1000)
  (aS:∀cs:List Nat,cs.length=r.length->(Yu f cs r).flatten.length<=1000000) (a8:∀m∈r,∀c,∀x∈f m c,EOk w₀ 0 x.e) (Oo:Nat->Prop) (wo:World) (yY:Held Low w₀ Oo wo) (V:Value) (vg:List Frame)
  {c0 c1 blk tl:Code} {id:Nat} {ops:Array Oper} (aC:Tryz.f6.body=some (.seq c0 (.seq c1 (.seq (.seq (.region id ops false) blk) (.seq tl .ret)))))
  (bb:∀(T:Act) (w':World) (v:Value) (cs:List Nat),T.defers=[]->ResultsC prog Tryz.f6 T.tmps v->cs.length=r.length->w'.ownsRow Low 53 3 v (Yu f cs r).flatten.length (Gh (Yu f cs r).flatten)->Held Low w₀ (λ_=>False) w'->
   Stop (G {(base 6).at T [.code .ret] with mode:=.returning} vg) w'):
  okR prog Low Stop [] Oo wo (G ((base 6).at ⟨#[V,undef,AG,AG,undef,undef,undef,V,AE aa r.length cap,undef,undef,undef,undef,undef,undef,undef,undef,undef,undef,undef,undef,undef,undef,undef,undef],[]⟩ [.inRegion ops [2,3,4], .code blk, .code (.seq tl .ret)]) vg):=by
 unfold Tryz.f6 at aC;dsimp only at aC;cases aC;have bu:=resultsC_tmp (P:=prog) (fn:=Tryz.f6) rfl;have ba:=AV bb;have a7:=AV aS;have aM:=AV a8;clear bb aS a8;have qP:=λO w h=>mA (Stop:=Stop) w₀ r f aa cap aT aO aW hl O w h
 have zC:=AV qP;clear qP aT aO aW;have⟨nv,a3⟩:=AA (AE aa r.length cap)
 rw[<-a3] at zC ⊢;clear a3;refine kx (fn:=6) rfl B5 ?_
 (refine Hr (Bh _ _ _) rfl Ao rfl (zC _ _ yY) BM ?_;rintro I _ O1 W1 ⟨cs,ag,rfl,A,E,M⟩;try walk_nrm)
 clear zC;have⟨aR,a6,ac⟩:=Ah A;rw[ac];refine kV ?_;rw[<-ac];clear ac aR a6;rw[ZB];have qx:Hid (∀s∈Yu f cs r,∀x∈s,EOk w₀ 0 x.e):=by
  intro s bm x hx;obtain⟨i,hi,rfl⟩:=List.mem_iff_getElem.1 bm;simp only[Yu,List.getElem_zipWith] at hx;exact aM _ (CN _) _ x hx
 have aX:(Yu f cs r).length=cs.length:=by simp[Yu,ag]
 have bz:=a7 cs ag;have bp:=AV (λT w' v h1 h2 h3 h4=>ba T w' v cs h1 h2 ag h3 h4);clear ba a7 aM;generalize Yu f cs r=bU at*;have⟨y,bi⟩:=AA r.length
 rw[<-bi] at A ag ⊢;have bD:y<=1000:=AQ
 clear bi hl;refine g8 (fn:=6) rfl B5 ?_;refine kV ?_;refine Y0 (Bh _ _ _) (λn T x' W w'=>∃(i:Nat) (u u5 u6 a9 aQ bj aZ aF kY kU sD aK av aB ao:Value),i<=y/\n=y - i/\T=⟨#[V,undef,AG,u,undef,u5,u6,V,nv,I,AB y,AB i,a9,aQ,bj,aZ,aF,kY,kU,sD,aK,av,aB,ao,undef],[]⟩/\LSt cs (bU.map (·.map MI.val)) i (((bU[i]?).getD []).map MI.val) x'/\w'.ownsRow Low 53 3 u ((bU.take i).flatten).length (Gh ((bU.take i).flatten))/\(∀k,u.ownBlock=some k->W k/\I.ownBlock≠some k)/\w'.ownsRow Low 48 1 I y (cs.map λc=>.chan (some c))/\(∀k,I.ownBlock=some k->W k)/\Held Low w₀ W w') y
  ⟨0,AG,undef,undef,undef,undef,undef,undef,undef,undef,undef,undef,undef,undef,undef,undef,DI _,rfl,rfl,LSt.begin _ _ (by rw[CW,aX]) _ (λap F=>?_),World.ownsRow_nil _ _ _ _,(λk d=>by cases d),A,E,M⟩ ?_
 ·rw[JK] at F
  cases ae:bU[0]? with
  | none=>rw[ae] at F;cases F
  | some r0=>rw[ae] at F;cases F;rfl
 clear A E M O1 W1 yY;rintro n _ aE O w ⟨i,u,u5,u6,a9,aQ,bj,aZ,aF,kY,kU,sD,aK,av,aB,ao,hi,rfl,rfl,l,C,Q,A,E,M⟩;by_cases bB:i<y
 ·have bA:(i:Int)<(y:Int):=by omega
  have ax:i<cs.length:=AQ
  have wO:i<bU.length:=AQ
  have⟨aR,a6,ac,_,aN⟩:=Ti (Joins.ownsRow_le A (DI _));have⟨b,br,aI,ai⟩:=aN i (.chan (some cs[i])) (by rw[JK,DX ax];rfl);subst br;clear aN;have ab:=DX ax;have vw:=AV (take_snoc bU i wO);have aY:(bU[i]?).getD []=bU[i]:=by rw[DX wO];rfl
  rw[aY] at l;have aJ:=AV (qx _ (CN wO));have fE:Hid ((bU.take i).flatten.length+bU[i].length<=1000000):=by
   show _<=_
   have h1:(bU.take (i+1)).flatten.length<=bU.flatten.length:=by
    have:bU.flatten=(bU.take (i+1)).flatten++(bU.drop (i+1)).flatten:=by rw[<-E6,IG]
    rw[this,CM];omega
   rw[vw.out,E6,CM] at h1;simp only[EB,RQ,G4] at h1;omega
  have oh:Hid (∀ap,(bU.map (·.map MI.val))[i+1]?=some ap->ap=((bU[i+1]?).getD []).map MI.val):=by
   intro ap F;rw[JK] at F;cases ae:bU[i+1]? with
   | none=>rw[ae] at F;cases F
   | some r0=>rw[ae] at F;cases F;rfl
  revert ai l ab vw aJ fE
  generalize bU[i]=s;generalize cs[i]=c;intro l ai ab vw aJ fE;have iY:=AV (λaf (hW:Keep Low O w af)=>(World.cell?_of_block (a:=(AK b i)) (hW.mine _ (E b aI))).trans ai);have um:=E b aI;have xO:=AV ac;clear ai aY ax wO;rw[xO.out];have _Y:=iY.out;refine kV ?_;clear _Y;rw[<-xO.out];clear aI xO um ac iY;have bk:Hid (IntKind.i64.wrap ((i:Int)+1)=((i+1:Nat):Int)):=by show _=_;rw[IntKind.wrap_i64];omega
  refine Y0 (Bh _ _ _) (λn T x' W w'=>∃(k:Nat) (u v6 aH ar aA aG ay aL aD:Value),k<=s.length/\n=s.length - k/\T=⟨#[V,undef,AG,u,undef, .chan (some c),v6,V,nv,I,AB y,AB i, .bool true, .pointer (some (AK b i)), .chan (some c), .chan (some c),aH,ar,aA,aG,ay,aL,aD,ao,undef],[]⟩/\LSt cs (bU.map (·.map MI.val)) i ((s.drop k).map MI.val) x'/\w'.ownsRow Low 53 3 u ((bU.take i).flatten++s.take k).length (Gh ((bU.take i).flatten++s.take k))/\(∀k,u.ownBlock=some k->W k/\I.ownBlock≠some k)/\w'.ownsRow Low 48 1 I y (cs.map λc=>.chan (some c))/\(∀k,I.ownBlock=some k->W k)/\Held Low w₀ W w') s.length
   ⟨0,u,u6,aF,kY,kU,sD,aK,av,aB,DI _,rfl,rfl,by rw[M5];exact l,by rw[List.take_zero,G4];exact C,Q,A,E,M⟩ ?_
  clear l C Q A E M O w u aE;rintro n _ aE O w ⟨k,u,v6,aH,ar,aA,aG,ay,aL,aD,d,rfl,rfl,l,C,Q,A,E,M⟩;have ak:Hid (∀g:World,(execOp (Act.eval ⟨#[V,undef,AG,u,undef, .chan (some c),v6,V,nv,I,AB y,AB i, .bool true, .pointer (some (AK b i)), .chan (some c), .chan (some c),aH,ar,aA,aG,ay,aL,aD,ao,undef],[]⟩) {dst:=some 16,op:=.recv 48 (.tmp 15) true,type:=0,pos:= "l7_way.go:13",after:=#[],guard:=none}).run prog g=.ok (.comm #[rcase c (.agg #[AB 0,AB 0,AG])] true (.recv true)) g):=by
   intro g;go_simp;rfl
  by_cases au:k<s.length
  ·have bh:=GQ au
   have iP:Hid ((bU.take i).flatten++s.take (k+1)=((bU.take i).flatten++s.take k)++[s[k]]):=by show _=_;rw[take_snoc s k au,EV]
   have aj:=aJ _ (CN au);have vM:Hid (((bU.take i).flatten++s.take k).length+1<=1000000):=by
    show _<=_
    have h1:=fE.out;rw[CM,FY];omega
   rw[bh] at l;clear bh
   revert l iP aj
   generalize s[k]=m;intro l iP aj;have⟨J,S,aV⟩:=Ah aj;clear aj;have⟨R,L,N,xa⟩:=m;dsimp only at aV;subst aV;rw[CP] at l;have ah:=l.2.2.1 c ab;repeat (first | (first | refine Le (Bh _ _ _) ?_ | refine Ub (Bh _ _ _) ?_ | refine V9 (Bh _ _ _) ?_ | refine Ua (Bh _ _ _) ?_ | refine IW (Bh _ _ _) ?_ | refine We (Bh _ _ _) ?_ | refine Qp (Bh _ _ _) ?_) | (simp only[Wh,Np,if_true,C7,reduceIte,Nat.reduceEqDiff]))
   (refine Gp (Bh _ _ _) ?_;simp only[Cd,CH,CO,Nat.reduceAdd,CV,List.range,List.range.loop])
   refine XQ (j:=i) (c:=c) (z:=.agg #[AB 0,AB 0,AG]) rfl Ao ah ak (λg=>by simp[execOp]) ?_ (λh=>by cases h);intro v bv bg;obtain⟨rfl,rfl⟩:=List.cons.inj bg;clear bg ah ak;replace l:=l.recv ab;simp only[MI.val];try walk_nrm
   refine kV ?_;have az:=C0.refl Low O w;refine Oa (Bh _ _ _) rfl Ao ?_ ?_
   ·intro _;simp[go_sem];done
   intro g hR K hK;go_simp;refine hK _ _ ?_;clear hK K;have⟨O2,eO,D,U,H,al,Y,Z⟩:=KU M hR #[AB 0,AB 0,AG] 53;rw[<-eO];clear eO
   revert D U H al Y Z
   generalize g.alloc (.cells #[AB 0,AB 0,AG] 53)=W2;generalize g.heap.size=b2;intro D U H al Y Z;replace D:=az.trans D;replace Y :=λx hx=>Y x (az.own x hx)
   clear hR g;try walk_nrm
   refine Yd (Bh _ _ _) b2 H rfl Ao ?_ ?_
   ·intro g hR e he
    have q:=(hR.mine _ H).trans Z;have y0:g.cell? (AK b2 0)=some (AB 0):=cell_of_heap q 0;have z0:=frozen_of_heap q 0;have y1:g.cell? (AK b2 1)=some (AB 0):=cell_of_heap q 1;have z1:=frozen_of_heap q 1;have y2:g.cell? (AK b2 2)=some AG:=cell_of_heap q 2;have z2:=frozen_of_heap q 2;clear q;simp[go_sem,events_store_slice,storedEv, *] at he
    (first | (subst he;exact⟨_,_,rfl, .inl H⟩) | (rcases he with rfl | rfl<;>exact⟨_,_,rfl, .inl H⟩) | (rcases he with rfl | rfl | rfl | rfl<;>exact⟨_,_,rfl, .inl H⟩) | (rcases he with rfl | rfl | rfl | rfl | rfl | rfl<;>exact⟨_,_,rfl, .inl H⟩))
   intro g hR K hK;have q:=(hR.mine _ H).trans Z;have y0:g.cell? (AK b2 0)=some (AB 0):=cell_of_heap q 0;have z0:=frozen_of_heap q 0;have y1:g.cell? (AK b2 1)=some (AB 0):=cell_of_heap q 1;have z1:=frozen_of_heap q 1;have y2:g.cell? (AK b2 2)=some AG:=cell_of_heap q 2;have z2:=frozen_of_heap q 2;clear q;go_simp;try (unfold stored;go_simp)
   have q:=(hR.mine _ H).trans Z;have hp:EJ b2 g (((g.setCell (AK b2 0) (AB R)).setCell (AK b2 1) (AB L)).setCell (AK b2 2) (AE J N.length S)):=((((EJ.refl _ _).set 0 (AB R)).set 1 (AB L)).set 2 (AE J N.length S))
   have an:(((g.setCell (AK b2 0) (AB R)).setCell (AK b2 1) (AB L)).setCell (AK b2 2) (AE J N.length S)).heap[b2]?=some (.cells #[AB R,AB L,AE J N.length S] 53):=(heap_setCell (heap_setCell (heap_setCell q 0 (AB R)) 1 (AB L)) 2 (AE J N.length S))
   refine hK _ _ hp ?_;clear hK K q y0 z0 y1 z1 y2 z2 Z;replace D:=(D.rely hR).put hp al Y;replace U:=(U.rely hR).put hp al
   revert D U an
   clear hp hR;generalize (((g.setCell (AK b2 0) (AB R)).setCell (AK b2 1) (AB L)).setCell (AK b2 2) (AE J N.length S))=W2;intro an D U;have bq:Hid (∀af,Keep Low O2 W2 af->∀ii,af.cell? (AK b2 ii)=(#[AB R,AB L,AE J N.length S]:Array Value)[ii]?):=λaf hW ii=>(hW.ext.cell (.inl H) ii).trans (cell_of_heap an ii)
   clear an;try walk_nrm
   replace C:=D.row C (λk d=>.inl (Q k d).1);replace A:=D.row A (λk d=>.inl (E k d));have xh:Hid (some b2≠u.ownBlock):=λe=>Y b2 (Q b2 e.symm).1 rfl
   have kM:∀k,u.ownBlock=some k->O2 k/\I.ownBlock≠some k:=λk d=>⟨D.own _ (Q k d).1,(Q k d).2⟩
   have qE:=λk d=>D.own _ (E k d)
   clear az M Q E D Y O w;have _Y:=cs3 bq;refine kV ?_;clear _Y;refine Oa (Bh _ _ _) rfl Ao ?_ ?_
   ·intro W1;simp[go_sem];done
   intro g hR K hK;go_simp;refine hK _ _ ?_;clear hK K;have⟨O4,eO,X,oD,aw,a2,tY,uB⟩:=M7 U hR (.cells #[AB R,AB L,AE J N.length S] 53);rw[<-eO];clear eO
   revert X oD aw a2 tY uB
   generalize g.alloc (.cells #[AB R,AB L,AE J N.length S] 53)=W4;generalize g.heap.size=b4;intro X oD aw a2 tY uB;clear hR g;try walk_nrm
   replace C:=X.row C (λk d=>.inl (kM k d).1);replace A:=X.row A (λk d=>.inl (qE k d));have vH:=λk d=>X.own _ (kM k d).1
   have nO:=λk d=>X.own _ (qE k d)
   have⟨i0,a5,aU,aP,bf⟩:=info_parts LP;refine UY (Bh _ _ _) rfl Ao (.tmp 19) (.tmp 21) 25 rfl 53 i0 (.agg #[AB 0,AB 0,AG]) 3 40 underlying25 a5 aU aP bf rfl AY u _ _ BM C vH b4 1 [AB R,AB L,AE J N.length S] BM rfl aw ?_ ?_ ?_ ?_ oD ?_
   ·intro jj bo hu
    rw[cell_of_heap uB];simpa using hu
   ·intro bo hu
    simp only[DF,Da,DK] at hu;rcases hu with rfl | rfl | rfl<;>rfl
   ·have:=vM.out;simp only[maxLen];omega
   ·have:=vM.out;omega
   clear a5 aU aP bf i0;intro v5 W5 O5 bn tK jk wY bc oC;try walk_nrm
   have bs:=U0 A λk d=>bc k (nO k d) λe=>(kM k e.symm).2 d
   have jg:=λk d=>wY k (nO k d)
   have jm:∀k,v5.ownBlock=some k->O5 k/\I.ownBlock≠some k:=λk d=>⟨tK k d,λe=>by
    rcases jk k d with h | h
    ·exact(kM k h.symm).2 e
    ·exact h (nO k e)⟩
   clear C A vH nO kM qE bc wY tK jk oD U uB X tY;refine kV ?_;refine⟨s.length - (k+1),AQ,k+1,v5,_,_,_,_,_,_,_,_,AQ,rfl,rfl,l,?_,jm,bs,jg,oC⟩;rw[iP.out,sg,CM];exact bn
  ·obtain rfl:k=s.length:=by omega
   rw[List.drop_length,C3] at l;rw[Gk] at C;have ah:=l.2.2.1 c ab;repeat (first | (first | refine Le (Bh _ _ _) ?_ | refine Ub (Bh _ _ _) ?_ | refine V9 (Bh _ _ _) ?_ | refine Ua (Bh _ _ _) ?_ | refine IW (Bh _ _ _) ?_ | refine We (Bh _ _ _) ?_ | refine Qp (Bh _ _ _) ?_) | (simp only[Wh,Np,if_true,C7,reduceIte,Nat.reduceEqDiff]))
   (refine Gp (Bh _ _ _) ?_;simp only[Cd,CH,CO,Nat.reduceAdd,CV,List.range,List.range.loop])
   refine XQ (j:=i) (c:=c) (z:=.agg #[AB 0,AB 0,AG]) rfl Ao ah ak (λg=>by simp[execOp]) (λv bv h=>by cases h) ?_;intro _;clear ah ak;replace l:=l.done ab (by rw[CW,aX]) _ oh.out;try walk_nrm
   have bE:=bk.out;clear bk;refine kV ?_;refine⟨y - (i+1),AQ,i+1,u,_,_,_,_,_,_,_,_,_,_,_,_,_,_,AQ,rfl,rfl,l,?_,Q,A,E,M⟩;rw[vw.out,E6];simp only[EB,RQ,G4];exact C
 ·have bC:¬(i:Int)<(y:Int):=by omega
  obtain rfl:i=y:=AQ
  have bw:∀e∈aE,e.2.2=true:=λe he=>by
   have⟨t,ht⟩:=List.mem_iff_getElem?.1 he;exact l.1 t (by have:=(List.getElem?_eq_some_iff.1 ht).1;rw[l.2.1,ag] at this;exact this) e ht
  rw[EA AQ] at C;refine kV ?_;refine KQ (Bh _ _ _) (fn:=6) rfl B5 ?_;refine kV ?_;refine(Bh _ _ _).ctl rfl (g':=_) ?_ (λ_=>stepG_ret') ?_
  ·rfl
  refine g6 rfl bw λg hK=>bp _ g u rfl (bu _) ?_ ?_
  ·exact hK.ext.row C λk d=>.inl (Q k d).1
  ·have:=M.rely hK
   exact⟨this.still,this.low,λ_ h=>h.elim,this.os,this.out⟩
end Go.Proofs.YtifcnfeppdbjdaaGreatDoor
namespace Go.Co
open Stil Go.Conc
section
variable {P : Program}{Stop : Goroutine -> World -> Prop}{w : World}
theorem iz {g:Goroutine}(h:OkG g->Comes P g w Stop):Comes P g w Stop:=λe sl t hF d=>h d e sl t hF d
end
end Go.Co
namespace Go.Proofs.YtifcnfeppdbjdaaGreatDoor
open Tryz Stil Go.RowKit Go.Sort Go.BigFrame Go.Conc Go.Co
variable {B:Nat}{w':World}
structure C6 (B:Nat)(w w':World):Prop where
 os:w'.os=w.os
 out:w'.output=w.output
 size:w.heap.size<=w'.heap.size
 block:∀k,k<B->w'.heap[k]?=w.heap[k]?
theorem C6.trans {a b c:World}(h:C6 B a b)(k:C6 B b c):C6 B a c:=⟨k.os.trans h.os,k.out.trans h.out,CJ h.size k.size,λi hi=>(k.block i hi).trans (h.block i hi)⟩
theorem C6.of {w:World}(h:Below B w w'):C6 B w w':=⟨h.os,h.output,h.size,h.block⟩
theorem C6.le {d:Nat}{w:World}(h:C6 B w w')(f:d<=B):C6 d w w':=⟨h.os,h.out,h.size,λk e=>h.block k (CB e f)⟩
theorem C6.tape {w:World}(h:C6 B w w')(d:Nat):Below B w {w' with tape:=w.tape,drawn:=d}:=⟨h.os,rfl,h.out,h.size,h.block⟩
def Tp (w w':World):Prop:=∃τ d,w'={w with tape:=τ,drawn:=d}
theorem Tp.refl (w:World):Tp w w:=⟨w.tape,w.drawn,rfl⟩
theorem Tp.al {w w1 f:World}(h:Tp w w1)(k:Al (λx=>x=w1) f):Tp w f:=by
 obtain⟨τ,d,rfl⟩:=h;have⟨m,n,h⟩:=k;refine⟨f.tape,f.drawn,?_⟩;have j:=congrArg World.heap h;have l:=congrArg World.os h;have g:=congrArg World.output h;have⟨a,b,c,d,e⟩:=f;simp only at j l g;subst j l g;rfl
theorem RF (n:Stil.B9):Ai n=0->FU n:=by
 refine Gf (λn=>Ai n=0->FU n) ?_ n;intro k e kids j h;rw[ZT];have g:=(Zf _ _ _).1 (Stil.full_of _ h);refine⟨?_,g.1,λx f=>j x f (Pj h x f)⟩;rcases H6 h with⟨d,_⟩ | ⟨d,_⟩ | ⟨d,_⟩<;>omega
theorem nA {n:Stil.B9}(h:Iq n)(j:Dw n)(l:Stil.BK n<=400):Kp n:=by
 refine⟨(Dz j).2.1.2.1,?_,λx d=>⟨?_,?_⟩⟩
 ·rcases h with h | h
  ·rw[IZ h];exact DI _
  ·by_cases f:Am n=true
   ·rw[IZ f];exact DI _
   ·have e:Stil.BK n=Af n:=if_neg f
    rw[e,Eg n] at l;have:=Js n.kids
    omega
 ·unfold Ci at d
  split at d
  ·cases d
  ·rename_i f
   have g:=h.resolve_left f;split at d
   ·exact RF x (Pj g.2.2 x d)
   ·rw[List.mem_singleton.1 d];exact RF n g.2.2
 ·have:=LS n x d
  omega
theorem nF (a:Stil.B8):E8 a->Dh a->Aj a<=400->GM a:=by
 refine Gl (λa=>E8 a->Dh a->Aj a<=400->GM a) ?_ a;intro n cs kids q r t o;have⟨_,g⟩:=(En _ _ _).1 r;have⟨_,_,_,_,e⟩:=(F7 _ _ _).1 t;rw[Ce] at o;have y:=Og kids;have f:∀x∈kids,Aj x<=400:=λx d=>by
  have:Aj x<=I5 kids:=D9 Aj kids x d;omega
 rw[ZU];refine⟨AQ,AQ,λx d=>?_,λx d=>q x d (g x d) (e x d) (f x d)⟩;have m:=f x d;have j:=g x d;have s:=e x d;have⟨l,u,v⟩:=x;rw[Ce] at m;exact nA (n:=l) ((En _ _ _).1 j).1 ((F7 _ _ _).1 s).1 AQ
def ES (w:World)(base:Nat)(v:Value)(d:List MI):Prop:=∃B,base<=B/\w.ownsRow B 53 3 v d.length (Gh d)/\(∀x∈d,EOk w base x.e)/\(bl (d.map (·.e.av))).Nodup/\∀k∈bl (d.map (·.e.av)),base<=k/\k<B
theorem ZL:∀{d:List Value},d.Pairwise Aside->(bl d).Nodup
 | [],_=>M4
 | v::d,h=>by
  have⟨g,j⟩:=List.pairwise_cons.1 h;have e:=ZL j;unfold bl at*;rw[List.filterMap_cons];split
  ·exact e
  ·rename_i k f
   refine List.nodup_cons.2 ⟨λl=>?_,e⟩;have⟨u,hu,m⟩:=List.mem_filterMap.1 l;exact(g u hu).no f m
theorem zx {w:World}{base e s n:Nat}{v:Value}{xs:List Value}(h:w.ownsRow 0 e s v n xs)(d:∀k,v.ownBlock=some k->base<=k):w.ownsRow base e s v n xs:=by
 refine⟨h.1,?_⟩;rcases h.2 with f | ⟨g,cap,cur,hv,_,rest⟩
 ·exact .inl f
 ·exact .inr ⟨g,cap,cur,hv,d g yEi,rest⟩
theorem SR {w₀:World}{f:Bq->Nat->List MI}:∀(cs:List Nat) (d:List Bq),cs.length=d.length->(∀m∈d,∀c,MIs w₀ m.vals (f m c) (Ez m.arm))->MIs w₀ (Iy d) (Yu f cs d).flatten ((d.map Bq.arm).map Ez).flatten
 | [],[],_,_=>MIs.nil
 | [],_::_,h,_=>by cases h
 | _::_,[],h,_=>by cases h
 | c::cs,m::d,h,g=>by
  have l:=SR cs d BR λx hx=>g x BS
  have e:Yu f (c::cs) (m::d)=f m c::Yu f cs d:=rfl;have j:Iy (m::d)=m.vals++Iy d:=rfl;rw[e,j,EB,CP,CP,EB];exact(g m AU c).append l
theorem Wz (l:List Stil.B8)(s:Value)(w:World)(hr:Et w)(hg:Fh w)(aJ:Fe w s l)(hl:l.length<=1048576)(aC:Bz l<=1000000000)(U:∀x∈l,Dh x):
  GH prog 6 #[s] w λv w'=>∃j:List MI,j.map MI.inst=Hy l/\ES w' w.heap.size v j/\C6 w.heap.size w w':=by
 intro I cs Stop hn;have F:∃J Q blk tl id ap,Tryz.f6.body=some (.seq J (.seq Q (.seq (.seq (.region id ap false) blk) (.seq tl .ret)))):=⟨_,_,_,_,_,_,rfl⟩
 have⟨J,Q,blk,tl,id,ap,F⟩:=F;refine iz λah=>?_
 have aA:∀c∈I::cs,DJ c:=ah.2;clear ah;rw[Go.Co.enter_at #[s] func6 F];simp only[ntmps6,Cd,CH,CO,Nat.reduceAdd,Nat.reduceSub,DN,DO,DL,DR,C5,C4];have ay:∀(v:Value) (w':World) (τ:Tape) (d:Nat),(∃(a:Option Addr) (c:Nat) (j:List Bq),v=AE a j.length c/\j.map Bq.arm=Aq l/\Su {w' with tape:=τ,drawn:=d} w.heap.size (AE a j.length c) j/\C6 w.heap.size w {w' with tape:=τ,drawn:=d})->
   ∃(a:Option Addr) (c:Nat) (j:List Bq),v=AE a j.length c/\j.map Bq.arm=Aq l/\Su w' w.heap.size (AE a j.length c) j/\C6 w.heap.size w w':=by
  rintro v w' τ d ⟨a,c,j,r,H,h3,y⟩;have e:Su {w' with tape:=τ,drawn:=d} w.heap.size (AE a j.length c) j=Su w' w.heap.size (AE a j.length c) j:=AX
  exact⟨a,c,j,r,H,e ▸ h3,y.os,y.out,y.size,y.block⟩
 have zF:∀an,Tp w an->GH prog 20 #[s] an λv w'=>∃(a:Option Addr) (c:Nat) (j:List Bq),v=AE a j.length c/\j.map Bq.arm=Aq l/\Su w' w.heap.size (AE a j.length c) j/\C6 w.heap.size w w':=by
  rintro _ ⟨aV,d0,rfl⟩;refine(VW okP (Post:=λv w'=>∃(a:Option Addr) (c:Nat) (j:List Bq),v=AE a j.length c/\j.map Bq.arm=Aq l/\Su w' w.heap.size (AE a j.length c) j/\C6 w.heap.size w w') fun τ d=>?_).mono λv w' ⟨τ,d,h⟩=>ay v w' τ d h
  have e1:Et {w with tape:=τ,drawn:=d}=Et w:=AX
  have e2:Fh {w with tape:=τ,drawn:=d}=Fh w:=AX
  have e3:Fe {w with tape:=τ,drawn:=d} s l=Fe w s l:=AX
  refine(N4 l s {w with tape:=τ,drawn:=d} (e1 ▸ hr) (e2 ▸ hg) (e3 ▸ aJ) hl aC U).mono λe w' h=>?_
  obtain⟨⟨a,c,j,rfl,r,H⟩,A⟩:=h;exact⟨_,rfl,a,c,j,rfl,r,H,A.os,A.output,A.size,A.block⟩
 have aB:=λ(Low:Nat) (w₀:World) (j:List Bq) (f:Bq->Nat->List MI) (aa:Option Addr) (cap:Nat) (Stop:Goroutine->World->Prop) r H h3 y h5 h6 wo h7 vg aF=>mC (Low:=Low) (Stop:=Stop) w₀ j f aa cap r H h3 y h5 h6 (λ_=>False) wo h7 s vg F aF
 have mD:=F;unfold Tryz.f6 at mD;dsimp only at mD;cases mD;refine V3 okP λw1 h=>?_
 have t1:=(Tp.refl w).al h;refine Rk okP λw2 h=>?_
 have t2:=t1.al h;simp only[Cd,CH,CO,CV,List.range,List.range.loop];refine Qh okP rfl Ao B5 (v:=AG) (λ_=>by go_simp) (λ_=>by simp[go_sem]) λw3 h=>?_
 have t3:=t2.al h;refine LG okP λw4 h=>?_
 have t4:=t3.al h;refine V3 okP λw5 h=>?_
 have t5:=t4.al h;refine Rk okP λw6 h=>?_
 have t6:=t5.al h;simp only[Cd,CH,CO,CV,List.range,List.range.loop];refine Qh okP rfl Ao B5 (v:=AG) (λ_=>by go_simp) (λ_=>by simp[go_sem]) λw7 h=>?_
 have t7:=t6.al h;refine LG okP λw8 h=>?_
 have t8:=t7.al h;refine V3 okP λw9 h=>?_
 have t9:=t8.al h;refine V3 okP λaT h=>?_
 have ao:=t9.al h;refine Rk okP λaU h=>?_
 have aj:=ao.al h;simp only[Cd,CH,CO,Nat.reduceAdd,CV,List.range,List.range.loop];refine Qh okP rfl Ao B5 (v:=s) (λ_=>by go_simp) (λ_=>by simp[go_sem]) λaR h=>?_
 have aw:=aj.al h;clear t1 t2 t3 t4 t5 t6 t7 t8 t9 ao aj h;refine OP okP rfl Ao B5 rfl func20 rfl (vals:=#[s]) (by simp[Act.eval,Act.put]) (λw' h=>zF w' (aw.al h)) λv n hp=>?_
 clear zF ay aw;obtain⟨aa,cap,j,rfl,ab,z,D⟩:=hp;have aM:=Joins.ownsRow_le z.1 (DI _);have je:∀m∈j,VOk n.heap.size n m:=λm o=>⟨(z.2.1 m o).le (DI _),λx u k q=>((z.2.1 m o).lt m x u k q).2⟩
 have ai:=Kt U;have X:∀m∈j,GM m.arm/\FU m.net.net/\Af m.net.net<=1000000:=λm o=>by
  have K:m.arm∈Aq l:=by rw[<-ab];exact FX o
  by_cases h0:(Aw l).1=0
  ·have⟨hR,_,_⟩:=Tm U h0
   have N:=hR _ K;have nV:m.arm.net=m.net.net:=by rw[Bq.arm_eq]
   have r:=N.net;rw[nV] at r;refine⟨nF _ N.fineA (ai.1 _ K) N.size,RF _ r.2.2,?_⟩;have hs:=N.size;have e:m.arm=⟨m.arm.net,m.arm.coils,m.arm.kids⟩:=by generalize m.arm=x;cases x;rfl
   rw[e,Ce,nV] at hs;have:=Stil.size_le m.net.net
   omega
  ·rw[show Aq l=[] by unfold Aq;rw[if_neg h0]] at K
   cases K
 obtain⟨f,Z⟩:∃f:Bq->Nat->List MI,∀m∈j,∀c,MIs n m.vals (f m c) (Ez m.arm)/\∀w O,Held n.heap.size n O w->okS prog n.heap.size c ((f m c).map MI.val) O w (born prog (dcall 44 #[.chan (some c), .agg #[AB m.net.kind,AB m.net.op,m.net.av,m.net.kv,m.cv,m.kv]])):=by
  classical
  refine⟨λm c=>if h:∃vs,MIs n m.vals vs (Ez m.arm)/\∀w O,Held n.heap.size n O w->okS prog n.heap.size c (vs.map MI.val) O w (born prog (dcall 44 #[.chan (some c), .agg #[AB m.net.kind,AB m.net.op,m.net.av,m.net.kv,m.cv,m.kv]])) then h.choose else [],λm o c=>?_⟩;have h:=mT (c:=c) n m (X m o).1 (X m o).2.1 (X m o).2.2 (je m o);simp only[h,dite_true];exact h.choose_spec
 have ax:Hy l=((j.map Bq.arm).map Ez).flatten:=by unfold Hy;rw[ab]
 have wO:=λ(cs:List Nat) (h:cs.length=j.length)=>SR (w₀:=n) (f:=f) cs j h λm o c=>(Z m o c).1
 have aQ:j.length<=40:=by have:=ai.2.2;rw[<-ab,CW] at this;exact this
 refine Comes.then (S:=λW w'=>(∃(t:Act) (v:Value),W=G {(base 6).at t [.code .ret] with mode:=.returning} (I::cs)/\t.defers=[]/\ResultsC prog Tryz.f6 t.tmps v/\∃j:List MI,j.map MI.inst=Hy l/\ES w' w.heap.size v j/\C6 w.heap.size w w')/\OkG W) ?_ ?_
 ·refine sR (Low:=n.heap.size) (O:=λ_=>False) (λ_ h=>h.elim) (CG _) (λg w h=>h.2) ?_
  refine aB n.heap.size n j f aa cap _ (λi hi=>?_) je (λm o c w O hF=>(Z m o c).2 w O hF) AQ (λcs' ag=>?_) (λm o c x u=>(Z m o c).1.2.1 x u) n ⟨λ_ _=>rfl,CG _,λ_ h=>h.elim,rfl,rfl⟩ (I::cs) ?_
  ·have⟨t,aP,e,_,C⟩:=Ti aM
   cases e;have⟨g0,g1,g2,g3,g4,g5⟩:=V7 j i hi;have⟨b,ha,A,J⟩:=C _ _ g0;have⟨b1,az,_,Q⟩:=C _ _ g1;have⟨b2,au,_,c2⟩:=C _ _ g2;have⟨b3,vG,_,c3⟩:=C _ _ g3;have⟨b4,iy,_,c4⟩:=C _ _ g4;have⟨b5,iw,_,c5⟩:=C _ _ g5;rw[ha] at az au vG iy iw;cases az;cases au;cases vG;cases iy;cases iw;refine⟨b,0,ha,(z.1.lt b A).2,?_⟩;unfold GK X3;rw[CV];exact⟨⟨J,Q,c2,c3⟩,c4,c5⟩
  ·have r:=congrArg List.length (wO cs' ag).1
   rw[CW,<-ax] at r;rw[r];have:=P7 U
   omega
  ·intro t w' v cs' hd T ag af hF
   have E:=wO cs' ag;have aD:=hF.still;have R:∀k∈bl (((Yu f cs' j).flatten).map (·.e.av)),w.heap.size<=k/\k<n.heap.size:=λk q=>by
    have aG:=E.2.2.subset q;have⟨aE,hu,aN⟩:=List.mem_filterMap.1 aG;have⟨m,o,aK⟩:=Oe.1 hu;exact(z.2.1 m o).lt m aE aK k aN
   have ac:=E.1.trans ax.symm;have Y:=(ZL (List.pairwise_cons.1 z.2.2).2).sublist E.2.2;have V:=E.2.1;clear E
   revert af R ac Y V
   generalize (Yu f cs' j).flatten=L;intro af R ac Y V;have aI:ES w' w.heap.size v L:=by
    refine⟨n.heap.size,D.size,af,λx u=>?_,Y,R⟩;have ar:=λk q=>R k (List.mem_filterMap.2 ⟨x.e.av,FX (f:=λaO:MI=>aO.e.av) u,q⟩)
    exact zx (U0 (V x u) λk q=>aD k (ar k q).2) λk q=>(ar k q).1
   have aL:C6 w.heap.size w w':=⟨hF.os.trans D.os,hF.out.trans D.out,CJ D.size hF.low,λk q=>(hF.still k (CB q D.size)).trans (D.block k q)⟩
   have aH:OkG (G {(base 6).at t [.code .ret] with mode:=.returning} (I::cs)):=by
    refine⟨λi hi=>?_,aA⟩;have :=List.mem_singleton.1 hi;rw[this];trivial
   exact⟨⟨t,v,rfl,hd,T,L,ac,aI,aL⟩,aH⟩
 ·rintro W w' _ ⟨⟨t,v,rfl,hd,T,ae,hi,hO,M⟩,_⟩
  refine Ug okP (fr':=I.finish v) (cs':=cs) (λak=>?_) λaS h=>?_
  ·exact stepG_leave (b:=base 6) rfl hd func6 (T ak).1 (T ak).2
  ·obtain⟨τ,d,rfl⟩:=(Tp.refl w').al h
   have e:ES {w' with tape:=τ,drawn:=d} w.heap.size v ae=ES w' w.heap.size v ae:=AX
   exact hn v _ ⟨ae,hi,e ▸ hO,M.os,M.out,M.size,M.block⟩
