import Derived.Test.YtfeablpbkcgdjaaGreatDoorCH2
import Derived.Test.YtfeablpbkcgdjaaGreatDoorCI7
import Derived.Test.YtfeablpbkcgdjaaGreatDoorGP
set_option linter.defProp false
set_option maxRecDepth 100000
set_option maxHeartbeats 8000000
namespace Go.Co
open Go.Conc
section
variable {τ:Type}{P:Program}{main:Bool}{Low:Nat}{pre:τ -> World -> Prop}{ok:τ -> (Nat -> Prop) -> World -> Goroutine -> Prop}{fn:FuncId}{a:Act}{x:τ}{O:Nat -> Prop}{w:World}{b:Frame}{k:List Item}{cs:List Frame}
theorem cM {ops:Array Oper}{todo:List Nat}(j:b.fn=fn)(l:b.kind≠.early)(h:Tt ok fn ops todo (U4 (λg d f w'=>ok d f w' (G (b.at g k) cs)) (λ_ _ _ _ _=>False)) a x O w):ok x O w (G (b.at a (.inRegion ops todo::k)) cs):=by
 refine h b k cs j l λe g d f w' q=>?_
 cases e with
 | normal=>exact q
 | _=>exact q.elim
theorem ZE {c:Code}(j:b.fn=fn)(l:b.kind≠.early)(h:WpK ok fn c (U4 (λg d f w'=>ok d f w' (G (b.at g k) cs)) (λ_ _ _ _ _=>False)) a x O w):ok x O w (G (b.at a (.code c::k)) cs):=by
 refine h b k cs j l λe g d f w' q=>?_
 cases e with
 | normal=>exact q
 | _=>exact q.elim
end
variable {c i:Nat}{cs:List Nat}
def LSt (cs:List Nat)(f:List (List Value))(i:Nat)(g:List Value)(L:List (Nat × List Value × Bool)):Prop:=
 (∀t,t<i->∀e,L[t]?=some e->e.2.2=true)/\L.length=cs.length/\(∀c,cs[i]?=some c->L[i]?=some (c,g,false))/\∀t c d,i<t->cs[t]?=some c->f[t]?=some d->L[t]?=some (c,d,false)
def LSt.begin (cs:List Nat)(d:List (List Value))(hl:d.length=cs.length)(h:List Value)(hr:∀r,d[0]?=some r->r=h):LSt cs d 0 h (List.zipWith (λc f=>(c,f,false)) cs d):=by
 refine⟨λt l=>by omega,by simp[hl],λc e=>?_,λt c f _ e j=>?_⟩
 .rw[List.getElem?_zipWith,e]
  have g:0<d.length:=by have:=(List.getElem?_eq_some_iff.1 e).1;omega
  rw[D1 g];simp only;rw[hr _ (D1 g)]
 .rw[List.getElem?_zipWith,e,j]
theorem LSt.recv {n:List (List Value)}{v:Value}{g:List Value}{L:List (Nat × List Value × Bool)}(h:LSt cs n i (v::g) L)(m:cs[i]?=some c):LSt cs n i g (L.set i (c,g,false)):=by
 have hi:i<L.length:=by rw[h.2.1];exact(List.getElem?_eq_some_iff.1 m).1
 refine⟨λt f e j=>h.1 t f e ?_,by rw[Gk];exact h.2.1,λl d=>?_,λt l q f d r=>?_⟩
 .rw[C7 AU] at j;exact j
 .rw[m] at d;cases d
  rw[EY hi]
 .rw[C7 AU];exact h.2.2.2 t l q f d r
theorem LSt.done {d:List (List Value)}{L:List (Nat × List Value × Bool)}(h:LSt cs d i [] L)(u:cs[i]?=some c)(hl:d.length=cs.length)(m:List Value)(hr:∀r,d[i+1]?=some r->r=m):LSt cs d (i+1) m (L.set i (c,[],true)):=by
 have hi:i<L.length:=by rw[h.2.1];exact(List.getElem?_eq_some_iff.1 u).1
 refine⟨λt y e f=>?_,by rw[Gk];exact h.2.1,λl g=>?_,λt l s y g j=>?_⟩
 .by_cases n:t=i
  .subst n
   rw[EY hi] at f;cases f;rfl
  .rw[C7 (λe=>n e.symm)] at f
   exact h.1 t AU e f
 .rw[C7 AU]
  have q:i+1<d.length:=by rw[hl];exact(List.getElem?_eq_some_iff.1 g).1
  have j:=D1 q;have:=h.2.2.2 (i+1) l _ AU g j
  rw[this,hr _ j]
 .rw[C7 AU]
  exact h.2.2.2 t l s AU g j
end Go.Co
namespace Go.Proofs.YtfeablpbkcgdjaaGreatDoor
open Tryz Go.RowKit Go.Sort Go.BigFrame Go.Conc Go.Co
variable {Low:Nat}{Stop:Goroutine -> World -> Prop}
def Ux (f:Oa->Nat->List MI)(cs:List Nat)(ms:List Oa):List (List MI):=List.zipWith (λc m=>f m c) cs ms
theorem WH (f:Oa->Nat->List MI):∀(cs:List Nat) (d:List Oa),List.zipWith (λc m=>(c,(f m c).map MI.val,false)) cs d=List.zipWith (λc e=>(c,e,false)) cs ((Ux f cs d).map (·.map MI.val))
 | [],_=>by simp[Ux]
 | c::cs,[]=>by simp[Ux]
 | c::cs,m::d=>by
  have:=WH f cs d
  simp only[Ux,RE,CN] at this ⊢;rw[this]
theorem dz (w₀:World)(ms:List Oa)(f:Oa->Nat->List MI)(aa:Option Addr)(cap:Nat)(a2:∀i (h:i<ms.length),∃b o,aa=some ⟨b,o,none⟩/\b<Low/\Vu w₀ b (o+i*6) ms[i])(bi:∀m∈ms,VOk Low w₀ m)(a5:∀m∈ms,QV Low w₀ m (f m))(hl:ms.length<=1000)
  (aR:∀cs:List Nat,cs.length=ms.length->(Ux f cs ms).flatten.length<=1000000) (oh:∀m∈ms,∀c,∀x∈f m c,Ak w₀ x.e.av x.e.ds) (Oo:Nat->Prop) (wo:World) (qU:Held Low w₀ Oo wo) (V:Value) (qW:List Frame)
  {c0 c1 blk tl:Code} {id:Nat} {ops:Array Oper} (aK:Tryz.f16.body=some (.seq c0 (.seq c1 (.seq (.seq (.region id ops false) blk) (.seq tl .ret)))))
  (a7:∀(y:Act) (w':World) (v:Value) (cs:List Nat),y.defers=[]->ResultsC prog Tryz.f16 y.tmps v->cs.length=ms.length->w'.ownsRow Low 66 3 v (Ux f cs ms).flatten.length (Ns (Ux f cs ms).flatten)->Held Low w₀ (λ_=>False) w'->
   Stop (G {(base 16).at y [.code .ret] with mode:=.returning} qW) w'):
  okR prog Low Stop [] Oo wo (G ((base 16).at ⟨#[V,undef, .slice none 0 0, .slice none 0 0,undef,undef,undef,V, .slice aa ms.length cap,undef,undef,undef,undef,undef,undef,undef,undef,undef,undef,undef,undef,undef,undef,undef,undef],[]⟩ [.inRegion ops [2,3,4], .code blk, .code (.seq tl .ret)]) qW):=by
 unfold Tryz.f16 at aK;dsimp only at aK;cases aK;have bs:=resultsC_tmp (P:=prog) (fn:=Tryz.f16) rfl
 have a3:Hid (∀(y:Act) (w':World) (v:Value) (cs:List Nat),y.defers=[]->ResultsC prog Tryz.f16 y.tmps v->cs.length=ms.length->w'.ownsRow Low 66 3 v (Ux f cs ms).flatten.length (Ns (Ux f cs ms).flatten)->Held Low w₀ (λ_=>False) w'->
   Stop (G {(base 16).at y [.code .ret] with mode:=.returning} qW) w'):=a7
 have pz:Hid (∀cs:List Nat,cs.length=ms.length->(Ux f cs ms).flatten.length<=1000000):=aR;have rf:Hid (∀m∈ms,∀c,∀x∈f m c,Ak w₀ x.e.av x.e.ds):=oh;clear a7 aR oh;have kM:=λO w h=>dx (Stop:=Stop) w₀ ms f aa cap a2 bi a5 hl O w h
 have bg:Hid (∀O w,Held Low w₀ O w->Jg prog (okR prog Low Stop) 40 #[.slice aa ms.length cap] [] O w λv x' S w'=>∃cs:List Nat,cs.length=ms.length/\x'=List.zipWith (λc m=>(c,(f m c).map MI.val,false)) cs ms/\
   w'.ownsRow Low 76 1 v ms.length (cs.map λc=>.chan (some c))/\(∀k,v.ownBlock=some k->S k)/\Held Low w₀ S w'):=kM
 clear kM a2 bi a5;obtain⟨nv,bf⟩:∃nv,nv=Value.slice aa ms.length cap:=⟨_,rfl⟩
 rw[<-bf] at bg ⊢;clear bf;refine cM (fn:=16) rfl Bt ?_
 (refine Gm (A8 _ _ _) rfl A0 rfl (bg _ _ qU) BJ ?_;rintro A _ O1 W1 ⟨cs,ad,rfl,C,F,Q⟩;try walk_nrm)
 clear bg;obtain⟨aV,aF,ab⟩:=Zp C;rw[ab];refine kV ?_;rw[<-ab];clear ab aV aF;rw[WH];have yA:Hid (∀q∈Ux f cs ms,∀x∈q,Ak w₀ x.e.av x.e.ds):=by
  intro q br x hx;obtain⟨i,hi,rfl⟩:=List.mem_iff_getElem.1 br;simp only[Ux,List.getElem_zipWith] at hx;exact rf _ (CG _) _ x hx
 have a9:(Ux f cs ms).length=cs.length:=by simp[Ux,ad]
 have bB:=pz cs ad
 have iJ:Hid (∀(y:Act) (w':World) (v:Value),y.defers=[]->ResultsC prog Tryz.f16 y.tmps v->w'.ownsRow Low 66 3 v (Ux f cs ms).flatten.length (Ns (Ux f cs ms).flatten)->Held Low w₀ (λ_=>False) w'->
   Stop (G {(base 16).at y [.code .ret] with mode:=.returning} qW) w'):=λy w' v h1 h2 h3 h4=>a3 y w' v cs h1 h2 ad h3 h4
 clear a3 pz rf;generalize Ux f cs ms=aT at*;obtain⟨u,aX⟩:∃u,u=ms.length:=⟨_,rfl⟩
 rw[<-aX] at C ad ⊢;have bz:u<=1000:=AU
 clear aX hl;refine ZE (fn:=16) rfl Bt ?_;refine kV ?_;refine Xp (A8 _ _ _) (λn y x' S w'=>∃(i:Nat) (r u5 u6 aP aS bc aW an eY eX jJ au aw ar aj:Value),i<=u/\n=u - i/\y=⟨#[V,undef, .slice none 0 0,r,undef,u5,u6,V,nv,A, .int .i64 u, .int .i64 i,aP,aS,bc,aW,an,eY,eX,jJ,au,aw,ar,aj,undef],[]⟩/\LSt cs (aT.map (·.map MI.val)) i (((aT[i]?).getD []).map MI.val) x'/\w'.ownsRow Low 66 3 r ((aT.take i).flatten).length (Ns ((aT.take i).flatten))/\(∀k,r.ownBlock=some k->S k/\A.ownBlock≠some k)/\w'.ownsRow Low 76 1 A u (cs.map λc=>.chan (some c))/\(∀k,A.ownBlock=some k->S k)/\Held Low w₀ S w') u
  ⟨0, .slice none 0 0,undef,undef,undef,undef,undef,undef,undef,undef,undef,undef,undef,undef,undef,undef,DK _,rfl,rfl,LSt.begin _ _ (by rw[CP,a9]) _ (λal H=>?_),World.ownsRow_nil _ _ _ _,(λk g=>by cases g),C,F,Q⟩ ?_
 .rw[LI] at H
  cases af:aT[0]? with
  | none=>rw[af] at H;cases H
  | some r0=>rw[af] at H;cases H;rfl
 clear C F Q O1 W1 qU;rintro n _ aJ O w ⟨i,r,u5,u6,aP,aS,bc,aW,an,eY,eX,jJ,au,aw,ar,aj,hi,rfl,rfl,l,D,L,C,F,Q⟩;by_cases bw:i<u
 .have bA:(i:Int)<(u:Int):=by omega
  have aL:i<cs.length:=AU
  have oI:i<aT.length:=AU
  obtain⟨aV,aF,ab,_,a6⟩:=qq (Joins.ownsRow_le C (DK _));obtain⟨b,bk,aA,ak⟩:=a6 i (.chan (some cs[i])) (by rw[LI,D1 aL];rfl);subst bk;clear a6;have Z:cs[i]?=some cs[i]:=D1 aL;have xN:Hid (aT.take (i+1)=aT.take i++[aT[i]]):=take_snoc aT i oI;have bb:(aT[i]?).getD []=aT[i]:=by rw[D1 oI];rfl
  rw[bb] at l;have ax:Hid (∀x∈aT[i],Ak w₀ x.e.av x.e.ds):=yA _ (CG oI);have dO:Hid ((aT.take i).flatten.length+aT[i].length<=1000000):=by
   show _<=_
   have h1:(aT.take (i+1)).flatten.length<=aT.flatten.length:=by
    have:aT.flatten=(aT.take (i+1)).flatten++(aT.drop (i+1)).flatten:=by rw[<-ET,Ft]
    rw[this,CO];omega
   rw[xN.out,ET,CO] at h1;simp only[DV,JX,EO] at h1;omega
  have iV:Hid (∀al,(aT.map (·.map MI.val))[i+1]?=some al->al=((aT[i+1]?).getD []).map MI.val):=by
   intro al H;rw[LI] at H;cases af:aT[i+1]? with
   | none=>rw[af] at H;cases H
   | some r0=>rw[af] at H;cases H;rfl
  revert ak l Z xN ax dO
  generalize aT[i]=q;generalize cs[i]=c;intro l ak Z xN ax dO;have eH:Hid (∀W,Keep Low O w W->W.cell? ⟨b,i,none⟩=some (.chan (some c))):=λW hW=>(World.cell?_of_block (a:=⟨b,i,none⟩) (hW.mine _ (F b aA))).trans ak
  have xB:=F b aA;have ay:Hid (A=.slice (some ⟨b,0,none⟩) u aF):=ab;clear ak bb aL oI;rw[ay.out];have _Y:=eH.out;refine kV ?_;clear _Y;rw[<-ay.out];clear aA ay xB ab eH;have pq:Hid (IntKind.i64.wrap ((i:Int)+1)=((i+1:Nat):Int)):=by show _=_;rw[IntKind.wrap_i64];omega
  refine Xp (A8 _ _ _) (λn y x' S w'=>∃(k:Nat) (r v6 az ao aH aE aM aI ap:Value),k<=q.length/\n=q.length - k/\y=⟨#[V,undef, .slice none 0 0,r,undef, .chan (some c),v6,V,nv,A, .int .i64 u, .int .i64 i, .bool true, .pointer (some ⟨b,i,none⟩), .chan (some c), .chan (some c),az,ao,aH,aE,aM,aI,ap,aj,undef],[]⟩/\LSt cs (aT.map (·.map MI.val)) i ((q.drop k).map MI.val) x'/\w'.ownsRow Low 66 3 r ((aT.take i).flatten++q.take k).length (Ns ((aT.take i).flatten++q.take k))/\(∀k,r.ownBlock=some k->S k/\A.ownBlock≠some k)/\w'.ownsRow Low 76 1 A u (cs.map λc=>.chan (some c))/\(∀k,A.ownBlock=some k->S k)/\Held Low w₀ S w') q.length
   ⟨0,r,u6,an,eY,eX,jJ,au,aw,ar,DK _,rfl,rfl,by rw[LN];exact l,by rw[List.take_zero,EO];exact D,L,C,F,Q⟩ ?_
  clear l D L C F Q O w r aJ;rintro n _ aJ O w ⟨k,r,v6,az,ao,aH,aE,aM,aI,ap,g,rfl,rfl,l,D,L,C,F,Q⟩;have ah:Hid (∀d:World,(execOp (Act.eval ⟨#[V,undef, .slice none 0 0,r,undef, .chan (some c),v6,V,nv,A, .int .i64 u, .int .i64 i, .bool true, .pointer (some ⟨b,i,none⟩), .chan (some c), .chan (some c),az,ao,aH,aE,aM,aI,ap,aj,undef],[]⟩) {dst:=some 16,op:=.recv 76 (.tmp 15) true,type:=0,pos:= "l7_way.go:13",after:=#[],guard:=none}).run prog d=.ok (.comm #[rcase c (.agg #[.int .i64 0, .int .i64 0, .slice none 0 0])] true (.recv true)) d):=by
   intro d;go_simp;rfl
  by_cases aB:k<q.length
  .have aZ:q.drop k=q[k]::q.drop (k+1):=FZ aB
   have pV:Hid ((aT.take i).flatten++q.take (k+1)=((aT.take i).flatten++q.take k)++[q[k]]):=by show _=_;rw[take_snoc q k aB,C6]
   have aG:=ax _ (CG aB);have nH:Hid (((aT.take i).flatten++q.take k).length+1<=1000000):=by
    show _<=_
    have h1:=dO.out;rw[CO,Fo];omega
   rw[aZ] at l;clear aZ
   revert l pV aG
   generalize q[k]=m;intro l pV aG;obtain⟨N,R,ba,-⟩:=aG;obtain⟨M,T,J,xa⟩:=m;dsimp only at ba;subst ba;rw[CN] at l;have ae:=l.2.2.1 c Z;repeat (first | (first | refine Jl (A8 _ _ _) ?_ | refine Qv (A8 _ _ _) ?_ | refine U2 (A8 _ _ _) ?_ | refine Qu (A8 _ _ _) ?_ | refine Yq (A8 _ _ _) ?_ | refine U3 (A8 _ _ _) ?_ | refine O9 (A8 _ _ _) ?_) | (simp only[U4,Ko,if_true,C5,reduceIte,Nat.reduceEqDiff]))
   (refine Fq (A8 _ _ _) ?_;simp only[CS,CC,CM,Nat.reduceAdd,Cd,List.range,List.range.loop])
   refine VY (j:=i) (c:=c) (z:=.agg #[.int .i64 0, .int .i64 0, .slice none 0 0]) rfl A0 ae ah (λd=>by simp[execOp]) ?_ (λh=>by cases h);intro v bn aQ;obtain⟨rfl,rfl⟩:=List.cons.inj aQ;clear aQ ae ah;replace l:=l.recv Z;simp only[MI.val];try walk_nrm
   refine kV ?_;have aD:=CV.refl Low O w;refine Ld (A8 _ _ _) rfl A0 ?_ ?_
   .intro _;simp[go_sem];done
   intro d hR K hK;go_simp;refine hK _ _ ?_;clear hK K;obtain⟨O2,eO,E,U,I,ai,X,ac⟩:=KV Q hR #[.int .i64 0, .int .i64 0, .slice none 0 0] 66;rw[<-eO];clear eO
   revert E U I ai X ac
   generalize d.alloc (.cells #[.int .i64 0, .int .i64 0, .slice none 0 0] 66)=W2;generalize d.heap.size=b2;intro E U I ai X ac;replace E:=aD.trans E;replace X:∀x,O x->x≠b2:=λx hx=>X x (aD.own x hx)
   clear hR d;try walk_nrm
   refine Wx (A8 _ _ _) b2 I rfl A0 ?_ ?_
   .intro d hR e he
    have s:=(hR.mine _ I).trans ac;have y0:d.cell? ⟨b2,0,none⟩=some (.int .i64 0):=cell_of_heap s 0;have z0:d.frozen? ⟨b2,0,none⟩=false:=frozen_of_heap s 0;have y1:d.cell? ⟨b2,1,none⟩=some (.int .i64 0):=cell_of_heap s 1;have z1:d.frozen? ⟨b2,1,none⟩=false:=frozen_of_heap s 1;have y2:d.cell? ⟨b2,2,none⟩=some (.slice none 0 0):=cell_of_heap s 2;have z2:d.frozen? ⟨b2,2,none⟩=false:=frozen_of_heap s 2;clear s;simp[go_sem,events_store_slice,storedEv, *] at he
    (first | (subst he;exact⟨_,_,rfl, .inl I⟩) | (rcases he with rfl | rfl<;>exact⟨_,_,rfl, .inl I⟩) | (rcases he with rfl | rfl | rfl | rfl<;>exact⟨_,_,rfl, .inl I⟩) | (rcases he with rfl | rfl | rfl | rfl | rfl | rfl<;>exact⟨_,_,rfl, .inl I⟩))
   intro d hR K hK;have s:=(hR.mine _ I).trans ac;have y0:d.cell? ⟨b2,0,none⟩=some (.int .i64 0):=cell_of_heap s 0;have z0:d.frozen? ⟨b2,0,none⟩=false:=frozen_of_heap s 0;have y1:d.cell? ⟨b2,1,none⟩=some (.int .i64 0):=cell_of_heap s 1;have z1:d.frozen? ⟨b2,1,none⟩=false:=frozen_of_heap s 1;have y2:d.cell? ⟨b2,2,none⟩=some (.slice none 0 0):=cell_of_heap s 2;have z2:d.frozen? ⟨b2,2,none⟩=false:=frozen_of_heap s 2;clear s;go_simp;try (unfold stored;go_simp)
   have s:=(hR.mine _ I).trans ac;have hp:EH b2 d (((d.setCell ⟨b2,0,none⟩ (.int .i64 M)).setCell ⟨b2,1,none⟩ (.int .i64 T)).setCell ⟨b2,2,none⟩ (.slice N J.length R)):=((((EH.refl _ _).set 0 (.int .i64 M)).set 1 (.int .i64 T)).set 2 (.slice N J.length R))
   have ag:(((d.setCell ⟨b2,0,none⟩ (.int .i64 M)).setCell ⟨b2,1,none⟩ (.int .i64 T)).setCell ⟨b2,2,none⟩ (.slice N J.length R)).heap[b2]?=some (.cells #[.int .i64 M, .int .i64 T, .slice N J.length R] 66):=(heap_setCell (heap_setCell (heap_setCell s 0 (.int .i64 M)) 1 (.int .i64 T)) 2 (.slice N J.length R))
   refine hK _ _ hp ?_;clear hK K s y0 z0 y1 z1 y2 z2 ac;replace E:=(E.rely hR).put hp ai X;replace U:=(U.rely hR).put hp ai
   revert E U ag
   clear hp hR;generalize (((d.setCell ⟨b2,0,none⟩ (.int .i64 M)).setCell ⟨b2,1,none⟩ (.int .i64 T)).setCell ⟨b2,2,none⟩ (.slice N J.length R))=W2;intro ag E U;have bp:Hid (∀W,Keep Low O2 W2 W->∀ii,W.cell? ⟨b2,ii,none⟩=(#[.int .i64 M, .int .i64 T, .slice N J.length R]:Array Value)[ii]?):=λW hW ii=>(hW.ext.cell (.inl I) ii).trans (cell_of_heap ag ii)
   clear ag;try walk_nrm
   replace D:=E.row D (λk g=>.inl (L k g).1);replace C:=E.row C (λk g=>.inl (F k g));have xQ:Hid (some b2≠r.ownBlock):=λe=>X b2 (L b2 e.symm).1 rfl
   have fQ:∀k,r.ownBlock=some k->O2 k/\A.ownBlock≠some k:=λk g=>⟨E.own _ (L k g).1,(L k g).2⟩
   have kF:∀k,A.ownBlock=some k->O2 k:=λk g=>E.own _ (F k g)
   clear aD Q L F E X O w;have _Y:=cs3 bp;refine kV ?_;clear _Y;refine Ld (A8 _ _ _) rfl A0 ?_ ?_
   .intro W1;simp[go_sem];done
   intro d hR K hK;go_simp;refine hK _ _ ?_;clear hK K;obtain⟨O4,eO,Y,jF,aC,bh,pG,lS⟩:=PZ U hR (.cells #[.int .i64 M, .int .i64 T, .slice N J.length R] 66);rw[<-eO];clear eO
   revert Y jF aC bh pG lS
   generalize d.alloc (.cells #[.int .i64 M, .int .i64 T, .slice N J.length R] 66)=W4;generalize d.heap.size=b4;intro Y jF aC bh pG lS;clear hR d;try walk_nrm
   replace D:=Y.row D (λk g=>.inl (fQ k g).1);replace C:=Y.row C (λk g=>.inl (kF k g));have mW:∀k,r.ownBlock=some k->O4 k:=λk g=>Y.own _ (fQ k g).1
   have iT:∀k,A.ownBlock=some k->O4 k:=λk g=>Y.own _ (kF k g)
   obtain⟨i0,aU,a8,aN,aO⟩:=info_parts N2;refine SG (A8 _ _ _) rfl A0 (.tmp 19) (.tmp 21) 25 rfl 66 i0 (.agg #[.int .i64 0, .int .i64 0, .slice none 0 0]) 3 40 underlying25 aU a8 aN aO rfl AZ r _ _ BJ D mW b4 1 [.int .i64 M, .int .i64 T, .slice N J.length R] BJ rfl aC ?_ ?_ ?_ ?_ jF ?_
   .intro jj bq hu
    rw[cell_of_heap lS];simpa using hu
   .intro bq hu
    simp only[C2,EJ,EK] at hu;rcases hu with rfl | rfl | rfl<;>rfl
   .have:=nH.out;simp only[maxLen];omega
   .have:=nH.out;omega
   clear aU a8 aN aO i0;intro v5 W5 O5 bm lJ vC pF bj jE;try walk_nrm
   have zW:W5.ownsRow Low 76 1 A u (cs.map λc=>.chan (some c)):=Wu C λk g=>bj k (iT k g) λe=>(fQ k e.symm).2 g
   have uV:∀k,A.ownBlock=some k->O5 k:=λk g=>pF k (iT k g)
   have vG:∀k,v5.ownBlock=some k->O5 k/\A.ownBlock≠some k:=λk g=>⟨lJ k g,λe=>by
    rcases vC k g with h | h
    .exact(fQ k h.symm).2 e
    .exact h (iT k e)⟩
   clear D C mW iT fQ kF bj pF lJ vC jF U lS Y pG;refine kV ?_;refine⟨q.length - (k+1),AU,k+1,v5,_,_,_,_,_,_,_,_,AU,rfl,rfl,l,?_,vG,zW,uV,jE⟩;rw[pV.out,kc,CO];exact bm
  .obtain rfl:k=q.length:=by omega
   rw[List.drop_length,EB] at l;rw[IY] at D;have ae:=l.2.2.1 c Z;repeat (first | (first | refine Jl (A8 _ _ _) ?_ | refine Qv (A8 _ _ _) ?_ | refine U2 (A8 _ _ _) ?_ | refine Qu (A8 _ _ _) ?_ | refine Yq (A8 _ _ _) ?_ | refine U3 (A8 _ _ _) ?_ | refine O9 (A8 _ _ _) ?_) | (simp only[U4,Ko,if_true,C5,reduceIte,Nat.reduceEqDiff]))
   (refine Fq (A8 _ _ _) ?_;simp only[CS,CC,CM,Nat.reduceAdd,Cd,List.range,List.range.loop])
   refine VY (j:=i) (c:=c) (z:=.agg #[.int .i64 0, .int .i64 0, .slice none 0 0]) rfl A0 ae ah (λd=>by simp[execOp]) (λv bn h=>by cases h) ?_;intro _;clear ae ah;replace l:=l.done Z (by rw[CP,a9]) _ iV.out;try walk_nrm
   have bu:=pq.out;clear pq;refine kV ?_;refine⟨u - (i+1),AU,i+1,r,_,_,_,_,_,_,_,_,_,_,_,_,_,_,AU,rfl,rfl,l,?_,L,C,F,Q⟩;rw[xN.out,ET];simp only[DV,JX,EO];exact D
 .have bv:¬(i:Int)<(u:Int):=by omega
  obtain rfl:i=u:=AU
  have bo:∀e∈aJ,e.2.2=true:=λe he=>by
   obtain⟨t,ht⟩:=List.mem_iff_getElem?.1 he;exact l.1 t (by have:=(List.getElem?_eq_some_iff.1 ht).1;rw[l.2.1,ad] at this;exact this) e ht
  rw[EC AU] at D;refine kV ?_;refine KI (A8 _ _ _) (fn:=16) rfl Bt ?_;refine kV ?_;refine(A8 _ _ _).ctl rfl (g':=_) ?_ (λ_=>stepG_ret') ?_
  .rfl
  refine ZC rfl bo λd hK=>iJ _ d r rfl (bs _) ?_ ?_
  .exact hK.ext.row D λk g=>.inl (L k g).1
  .have:=Q.rely hK
   exact⟨this.still,this.low,λ_ h=>h.elim,this.os,this.out⟩
end Go.Proofs.YtfeablpbkcgdjaaGreatDoor
namespace Go.Co
open Stil Go.Conc
section
variable {P:Program}{Stop:Goroutine -> World -> Prop}{w:World}
theorem ZY {g:Goroutine}(h:OkG g->Comes P g w Stop):Comes P g w Stop:=λe sl t hF d=>h d e sl t hF d
end
end Go.Co
namespace Go.Proofs.YtfeablpbkcgdjaaGreatDoor
open Tryz Stil Go.RowKit Go.Sort Go.BigFrame Go.Conc Go.Co
variable {B:Nat}{w':World}
structure CQ (B:Nat)(w w':World):Prop where
 os:w'.os=w.os
 out:w'.output=w.output
 size:w.heap.size<=w'.heap.size
 block:∀k,k<B->w'.heap[k]?=w.heap[k]?
theorem CQ.trans {a b c:World}(h:CQ B a b)(k:CQ B b c):CQ B a c:=⟨k.os.trans h.os,k.out.trans h.out,CB h.size k.size,λi hi=>(k.block i hi).trans (h.block i hi)⟩
abbrev CQ.tr:=@CQ.trans
def CQ.of {w:World}(h:Below B w w'):CQ B w w':=⟨h.os,h.output,h.size,h.block⟩
theorem CQ.le {d:Nat}{w:World}(h:CQ B w w')(e:d<=B):CQ d w w':=⟨h.os,h.out,h.size,λk f=>h.block k (B8 f e)⟩
def CQ.tape {w:World}(h:CQ B w w')(d:Nat):Below B w {w' with tape:=w.tape,drawn:=d}:=⟨h.os,rfl,h.out,h.size,h.block⟩
def Tp (w w':World):Prop:=∃τ d,w'={w with tape:=τ,drawn:=d}
def Tp.refl (w:World):Tp w w:=⟨w.tape,w.drawn,rfl⟩
theorem Tp.al {w g f:World}(h:Tp w g)(k:Al (λx=>x=g) f):Tp w f:=by
 obtain⟨τ,d,rfl⟩:=h;obtain⟨p,n,h⟩:=k;refine⟨f.tape,f.drawn,?_⟩;have l:=congrArg World.heap h;have m:=congrArg World.os h;have j:=congrArg World.output h;obtain⟨a,b,c,d,e⟩:=f;simp only at l m j;subst l m j;rfl
theorem PX (n:Stil.B1):Aj n=0->GF n:=by
 refine Fv (λn=>Aj n=0->GF n) ?_ n;intro k e kids j h;rw[WM];have g:=(Xz _ _ _).1 (Stil.full_of _ h);refine⟨?_,g.1,λx f=>j x f (Lc h x f)⟩;rcases Fg h with⟨d,_⟩ | ⟨d,_⟩ | ⟨d,_⟩<;>omega
theorem eT {n:Stil.B1}(h:Gi n)(j:Bi n)(l:Stil.BG n<=400):Kx n:=by
 refine⟨(Dw j).2.1.2.1,?_,λx d=>⟨?_,?_⟩⟩
 .rcases h with h | h
  .rw[W9 h];exact DK _
  .by_cases f:Ai n=true
   .rw[W9 f];exact DK _
   .have e:Stil.BG n=Ac n:=if_neg f
    rw[e,Cj n] at l;have:=He n.kids
    omega
 .unfold Bh at d
  split at d
  .cases d
  .rename_i f
   have g:=h.resolve_left f;split at d
   .exact PX x (Lc g.2.2 x d)
   .rw[List.mem_singleton.1 d];exact PX n g.2.2
 .have:=LQ n x d
  omega
theorem eZ (a:Stil.B5):Ep a->Ba a->Ah a<=400->GL a:=by
 refine Fb (λa=>Ep a->Ba a->Ah a<=400->GL a) ?_ a;intro n cs kids u t r j;obtain⟨_,g⟩:=(D8 _ _ _).1 t;obtain⟨_,_,_,_,e⟩:=(Eu _ _ _).1 r;rw[Dp] at j;have A:=Nu kids;have f:∀x∈kids,Ah x<=400:=λx d=>by
  have:Ah x<=H5 kids:=Em Ah kids x d;omega
 rw[WN];refine⟨AU,AU,λx d=>?_,λx d=>u x d (g x d) (e x d) (f x d)⟩;have q:=f x d;have l:=g x d;have s:=e x d;obtain⟨m,y,z⟩:=x;rw[Dp] at q;exact eT (n:=m) ((D8 _ _ _).1 l).1 ((Eu _ _ _).1 s).1 AU
def E2 (w:World)(v:Value)(L:List Stil.Dj):Prop:=∃a c,v=.slice a L.length c/\L.length<=c/\Hu w v L
theorem E2.nil (w:World):E2 w (.slice none 0 0) []:=⟨none,0,rfl,B7 _,none,0,rfl,λi hi=>by cases hi⟩
theorem xp {w:World}{base s n:Nat}{e:TypeId}{a:Option Addr}{c:Nat}{xs:List Value}(h:w.ownsRow base e s (.slice a n c) n xs):n<=c:=by
 rcases h.2 with⟨d,j⟩ | ⟨g,f,cur,d,_,_,l,_⟩
 .simp only[Value.slice.injEq] at d;omega
 .simp only[Value.slice.injEq] at d;omega
theorem YI {w w0:World}{v:Value}{L:List MI}(h:w.ownsRow B 66 3 v L.length (Ns L))(hd:∀x∈L,Ak w0 x.e.av x.e.ds)(A:CQ w0.heap.size w0 w):E2 w v (L.map MI.inst):=by
 obtain⟨a,c,rfl⟩:=Zp h;have j:=xp h;refine⟨a,c,by rw[CP],by rw[CP];exact j,a,c,by rw[CP],λi hi=>?_⟩;rw[CP] at hi;obtain⟨g,_,f,_,u,_,d⟩:=G7 h AU;simp only[Value.slice.injEq] at f;obtain⟨rfl,_,_⟩:=f;have C:∀(l:List MI) (i:Nat) (h:i<l.length),(Ns l)[i*3]?=some (.int .i64 l[i].code)/\(Ns l)[i*3+1]?=some (.int .i64 l[i].e.op)/\(Ns l)[i*3+2]?=some l[i].e.av:=by
  intro l;induction l with
  | nil=>intro i h;cases h
  | cons m r E=>
   intro i h;have e:Ns (m::r)=.int .i64 m.code::.int .i64 m.e.op::m.e.av::Ns r:=rfl;cases i with
   | zero=>exact⟨rfl,rfl,rfl⟩
   | succ i=>
    obtain⟨D,t,z⟩:=E i Br;have s:(i+1)*3=i*3+1+1+1:=AU
    rw[e,s];exact⟨by simpa using D,by simpa using t,by simpa using z⟩
 obtain⟨y,n,q⟩:=C L i hi;refine⟨g,0,rfl,u,?_⟩;rw[EU,Cd];refine⟨d _ _ y,d _ _ n,_,d _ _ q,?_⟩;have e:Ak {w with tape:=w0.tape,drawn:=0} L[i].e.av L[i].e.ds=Ak w L[i].e.av L[i].e.ds:=AY
 exact e ▸ (hd _ (CG hi)).below (A.tape 0)
theorem QH {w₀:World}{f:Oa->Nat->List MI}:∀(cs:List Nat) (d:List Oa),cs.length=d.length->(∀m∈d,∀c,MIs w₀ (f m c) (Ef m.arm))->MIs w₀ (Ux f cs d).flatten ((d.map Oa.arm).map Ef).flatten
 | [],[],_,_=>MIs.nil
 | [],_::_,h,_=>by cases h
 | _::_,[],h,_=>by cases h
 | c::cs,m::d,h,g=>by
  have j:=QH cs d Br λx hx=>g x B0
  have e:Ux f (c::cs) (m::d)=f m c::Ux f cs d:=rfl;rw[e,DV,CN,CN,DV];exact(g m AW c).append j
theorem sS (l:List Stil.B5)(s:Value)(w:World)(hr:Ed w)(hg:En w)(au:Dc w s l)(hl:l.length<=1048576)(an:Bc l<=1000000000)(H:∀x∈l,Ba x):
  Yp prog 16 #[s] w λv w'=>E2 w' v (E5 l)/\CQ w.heap.size w w':=by
 intro D cs Stop hn;have E:∃c0 c1 blk tl id ops,Tryz.f16.body=some (.seq c0 (.seq c1 (.seq (.seq (.region id ops false) blk) (.seq tl .ret)))):=⟨_,_,_,_,_,_,rfl⟩
 obtain⟨c0,c1,blk,tl,id,ops,E⟩:=E;refine ZY λag=>?_
 have aj:∀c∈D::cs,Ze c:=ag.2;clear ag;rw[Go.Co.enter_at #[s] func16 E];simp only[ntmps16,CS,CC,CM,Nat.reduceAdd,Nat.reduceSub,DF,DG,DJ,DI,C3,CY];have ad:∀(v:Value) (w':World) (τ:Tape) (d:Nat),(∃j:List Oa,j.map Oa.arm=Af l/\SlR w'.heap.size 6 (Vu {w' with tape:=τ,drawn:=d}) v j/\(∀m∈j,VOk w'.heap.size {w' with tape:=τ,drawn:=d} m)/\CQ w.heap.size w {w' with tape:=τ,drawn:=d})->
   ∃j:List Oa,j.map Oa.arm=Af l/\SlR w'.heap.size 6 (Vu w') v j/\(∀m∈j,VOk w'.heap.size w' m)/\CQ w.heap.size w w':=by
  rintro v w' τ d ⟨j,r,A,z,y⟩;have e:Vu {w' with tape:=τ,drawn:=d}=Vu w':=AY
  have M:VOk w'.heap.size {w' with tape:=τ,drawn:=d}=VOk w'.heap.size w':=AY
  exact⟨j,r,e ▸ A,M ▸ z,y.os,y.out,y.size,y.block⟩
 have Y:∀ac,Tp w ac->Yp prog 37 #[s] ac λv w'=>∃j:List Oa,j.map Oa.arm=Af l/\SlR w'.heap.size 6 (Vu w') v j/\(∀m∈j,VOk w'.heap.size w' m)/\CQ w.heap.size w w':=by
  rintro _ ⟨aw,d0,rfl⟩;refine(Ss okP (Post:=λv w'=>∃j:List Oa,j.map Oa.arm=Af l/\SlR w'.heap.size 6 (Vu w') v j/\(∀m∈j,VOk w'.heap.size w' m)/\CQ w.heap.size w w') fun τ d=>?_).mono λv w' ⟨τ,d,h⟩=>ad v w' τ d h
  have e1:Ed {w with tape:=τ,drawn:=d}=Ed w:=AY
  have M:En {w with tape:=τ,drawn:=d}=En w:=AY
  have e3:Dc {w with tape:=τ,drawn:=d} s l=Dc w s l:=AY
  refine(Yz l s {w with tape:=τ,drawn:=d} [] [] ⟨(λb u=>by cases u),λx N=>by cases N⟩ (e1 ▸ hr) (M ▸ hg) (e3 ▸ au) hl an H).mono λe w' h=>?_
  obtain⟨a,c,rfl,hS,u⟩:=h;obtain⟨j,r,A,z⟩:=hS.vals (.head _);exact⟨_,rfl,j,r,A,z,u.os,u.output,u.size,u.block⟩
 have bY:=λ(Low:Nat) (w₀:World) (j:List Oa) (f:Oa->Nat->List MI) (aa:Option Addr) (cap:Nat) (Stop:Goroutine->World->Prop) r A z y h5 h6 wo h7 qW ar=>dz (Low:=Low) (Stop:=Stop) w₀ j f aa cap r A z y h5 h6 (λ_=>False) wo h7 s qW E ar
 have U:=E;unfold Tryz.f16 at U;dsimp only at U;cases U;refine Ur okP λw1 h=>?_
 have t1:=(Tp.refl w).al h;refine Px okP λw2 h=>?_
 have t2:=t1.al h;simp only[CS,CC,CM,Cd,List.range,List.range.loop];refine Ov okP rfl A0 Bt (v:=.slice none 0 0) (λ_=>by go_simp) (λ_=>by simp[go_sem]) λw3 h=>?_
 have t3:=t2.al h;refine LP okP λw4 h=>?_
 have t4:=t3.al h;refine Ur okP λw5 h=>?_
 have t5:=t4.al h;refine Px okP λw6 h=>?_
 have t6:=t5.al h;simp only[CS,CC,CM,Cd,List.range,List.range.loop];refine Ov okP rfl A0 Bt (v:=.slice none 0 0) (λ_=>by go_simp) (λ_=>by simp[go_sem]) λw7 h=>?_
 have t7:=t6.al h;refine LP okP λw8 h=>?_
 have X:=t7.al h;refine Ur okP λw9 h=>?_
 have t9:=X.al h;refine Ur okP λaB h=>?_
 have af:=t9.al h;refine Px okP λaz h=>?_
 have W:=af.al h;simp only[CS,CC,CM,Nat.reduceAdd,Cd,List.range,List.range.loop];refine Ov okP rfl A0 Bt (v:=s) (λ_=>by go_simp) (λ_=>by simp[go_sem]) λay h=>?_
 have ah:=W.al h;clear t1 t2 t3 t4 t5 t6 t7 X t9 af W h;refine NI okP rfl A0 Bt rfl func37 rfl (vals:=#[s]) (by simp[Act.eval,Act.put]) (λw' h=>Y w' (ah.al h)) λv n hp=>?_
 clear Y ad ah;obtain⟨j,R,⟨aa,cap,rfl,-,ak⟩,uS,C⟩:=hp;have Z:=Jb H;have L:∀m∈j,GL m.arm/\GF m.net.net/\Ac m.net.net<=1000000:=λm q=>by
  have J:m.arm∈Af l:=by rw[<-R];exact E0 q
  by_cases h0:(Am l).1=0
  .obtain⟨hR,_,_⟩:=Oh H h0
   have I:=hR _ J;have iZ:m.arm.net=m.net.net:=by rw[Oa.arm_eq]
   have r:=I.net;rw[iZ] at r;refine⟨eZ _ I.fineA (Z.1 _ J) I.size,PX _ r.2.2,?_⟩;have hs:=I.size;have e:m.arm=⟨m.arm.net,m.arm.coils,m.arm.kids⟩:=by generalize m.arm=x;cases x;rfl
   rw[e,Dp,iZ] at hs;have:=Stil.size_le m.net.net
   omega
  .rw[show Af l=[] by unfold Af;rw[if_neg h0]] at J
   cases J
 obtain⟨f,V⟩:∃f:Oa->Nat->List MI,∀m∈j,∀c,MIs n (f m c) (Ef m.arm)/\∀w O,Held n.heap.size n O w->okS prog n.heap.size c ((f m c).map MI.val) O w (born prog (dcall 72 #[.chan (some c), .agg #[.int .i64 m.net.kind, .int .i64 m.net.op,m.net.av,m.net.kv,m.cv,m.kv]])):=by
  classical
  refine⟨λm c=>if h:∃vs,MIs n vs (Ef m.arm)/\∀w O,Held n.heap.size n O w->okS prog n.heap.size c (vs.map MI.val) O w (born prog (dcall 72 #[.chan (some c), .agg #[.int .i64 m.net.kind, .int .i64 m.net.op,m.net.av,m.net.kv,m.cv,m.kv]])) then h.choose else [],λm q c=>?_⟩;have h:=ek (c:=c) n m (L m q).1 (L m q).2.1 (L m q).2.2 (uS m q);simp only[h,dite_true];exact h.choose_spec
 have ab:E5 l=((j.map Oa.arm).map Ef).flatten:=by unfold E5;rw[R]
 have oI:=λ(cs:List Nat) (h:cs.length=j.length)=>QH (w₀:=n) (f:=f) cs j h λm q c=>(V m q c).1
 have ax:j.length<=40:=by have:=Z.2.2;rw[<-R,CP] at this;exact this
 refine Comes.then (S:=λQ w'=>(∃(t:Act) (v:Value),Q=G {(base 16).at t [.code .ret] with mode:=.returning} (D::cs)/\t.defers=[]/\ResultsC prog Tryz.f16 t.tmps v/\E2 w' v (E5 l)/\CQ w.heap.size w w')/\OkG Q) ?_ ?_
 .refine kx (Low:=n.heap.size) (O:=λ_=>False) (λ_ h=>h.elim) (B7 _) (λg w h=>h.2) ?_
  refine bY n.heap.size n j f aa cap _ ak uS (λm q c w O hF=>(V m q c).2 w O hF) AU (λcs' T=>?_) (λm q c x N=>(V m q c).1.2 x N) n ⟨λ_ _=>rfl,B7 _,λ_ h=>h.elim,rfl,rfl⟩ (D::cs) ?_
  .have r:=congrArg List.length (oI cs' T).1
   rw[CP,<-ab] at r;rw[r];have:=Va H
   omega
  .intro t w' v cs' hd K T ao hF
   have hI:=oI cs' T;have ai:CQ n.heap.size n w':=⟨hF.os,hF.out,hF.low,hF.still⟩
   have zh:E2 w' v (E5 l):=by
    rw[ab,<-hI.1];exact YI ao hI.2 ai
   have ap:CQ w.heap.size w w':=⟨hF.os.trans C.os,hF.out.trans C.out,CB C.size hF.low,λk hk=>(hF.still k (B8 hk C.size)).trans (C.block k hk)⟩
   have zi:OkG (G {(base 16).at t [.code .ret] with mode:=.returning} (D::cs)):=by
    refine⟨λi hi=>?_,aj⟩;have:i=.code .ret:=List.mem_singleton.1 hi;rw[this];trivial
   exact⟨⟨t,v,rfl,hd,K,zh,ap⟩,zi⟩
 .rintro Q w' _ ⟨⟨t,v,rfl,hd,K,hO,F⟩,_⟩
  refine Q9 okP (fr':=D.finish v) (cs':=cs) (λae=>?_) λaA h=>?_
  .exact stepG_leave (b:=base 16) rfl hd func16 (K ae).1 (K ae).2
  .obtain⟨τ,d,rfl⟩:=(Tp.refl w').al h
   have e:E2 {w' with tape:=τ,drawn:=d} v (E5 l)=E2 w' v (E5 l):=AY
   exact hn v _ ⟨e ▸ hO,F.os,F.out,F.size,F.block⟩
end Go.Proofs.YtfeablpbkcgdjaaGreatDoor
namespace Go.Co
open Go.Conc
variable {P:Program}{a:Act}
def Qj {R:Act->World->Prop}{c:Code}{l:List Code}{w:World}(h:c.wp P (Exit.then (WpL P R l) λ_ _ _=>False) a w):WpL P R (c::l) a w:=h
def OW {R:Act->World->Prop}{w:World}(h:R a w):WpL P R [] a w:=h
theorem xl {Stop:Goroutine->World->Prop}{w:World}(t:OkP P){f:FuncId}{args:Array Value}{v:Value}{Post:World->Prop}(h:∀τ d,Calls P f args {w with tape:=τ,drawn:=d} λe w'=>e=.returned v/\Post w')
  (s:∀(j:Frame) (w' W:World),j.leaving P W (.returned v)->j.fn=f->Al Post w'->Comes P (G j []) w' Stop):Comes P (G (Frame.enter P f args .normal) []) w Stop:=by
 refine Us t (λr w'=>∃j,r=G j []/\j.leaving P w' (.returned v)/\j.fn=f/\Post w') rfl (λg w ⟨j,h,_⟩=>by rw[h];rfl) (fun τ d=>?_) ?_
 .obtain⟨e,w',q,⟨rfl,l⟩,⟨n,u⟩,m,p⟩:=h τ d []
  exact⟨n,G q [],w',u,q,rfl,p,m,l⟩
 .rintro r w' ⟨τ,d,j,rfl,p,m,l⟩
  exact s j w' _ p m ⟨τ,d,l⟩
end Go.Co
namespace Go.Proofs.YtfeablpbkcgdjaaGreatDoor
open Tryz Go.RowKit Go.Sort Go.BigFrame Go.Co
def Q0 (F:FuncId)(w:World)(g':Goroutine)(w':World):Prop:=∃d:Frame,g'=Go.Conc.G d []/\d.mode=.returning/\d.defers=[]/\d.kind=.normal/\d.fn=F/\d.tmps.getD 2 undef=.bool true/\CQ w.heap.size w w'
section
variable {w w':World}{v:Value}
def Dc.blw {l:List Stil.B5}(h:Dc w v l)(d:CQ w.heap.size w w'):Dc w' v l:=by
 have e:Dc {w' with tape:=w.tape,drawn:=0} v l=Dc w' v l:=AY
 exact e ▸ h.below (d.tape 0)
def Hu.blw {l:List Stil.Dj}(h:Hu w v l)(d:CQ w.heap.size w w'):Hu w' v l:=by
 have e:Hu {w' with tape:=w.tape,drawn:=0} v l=Hu w' v l:=AY
 exact e ▸ h.below (d.tape 0)
def Ed.blw (h:Ed w)(d:CQ w.heap.size w w'):Ed w':=by
 have e:Ed {w' with tape:=w.tape,drawn:=0}=Ed w':=AY
 exact e ▸ h.below (d.tape 0)
def En.blw (h:En w)(d:CQ w.heap.size w w'):En w':=by
 have e:En {w' with tape:=w.tape,drawn:=0}=En w':=AY
 exact e ▸ h.below (d.tape 0)
theorem Tp.blw {B:Nat}(h:Tp w w'):CQ B w w':=by obtain⟨τ,d,rfl⟩:=h;exact⟨rfl,rfl,B7 _,λ_ _=>rfl⟩
end
section
open Go.Conc
variable {Stop:Goroutine -> World -> Prop}{a:Act}{w W0:World}{b:Frame}{k:List Item}{cs:List Frame}{ops:Array Oper}{i:Nat}{rest:List Nat}{o:Oper}
theorem cP (t:Tp W0 w)(v:Value)(h:∀w',Tp W0 w'->Go.Co.Comes prog (G (b.at (a.put o.dst v) (.inRegion ops rest::k)) cs) w' Stop)(ho:ops[i]?=some o:=by rfl)(hw:Region.wanted o (yielded ops a.tmps)=true:=by rfl)(hk:b.kind≠.early:=by simp[Go.Conc.base])
  (hr:∀w₁:World,(execOp a.eval o).run prog w₁=.ok (.value v) w₁:=by(intro _;first | (simp[Act.put];go_simp;done) | (simp[Act.put];go_simp;simp[*];done) | (simp[Act.put, *];go_simp;done)))
  (he:∀w₁:World,(execOp a.eval o).events prog w₁ #[]=#[]:=by(intro _;first | (simp[go_sem];done) | rfl)):Go.Co.Comes prog (G (b.at a (.inRegion ops (i::rest)::k)) cs) w Stop:=Ov okP ho hw hk hr he λw' q=>h w' (t.al q)
def cN (t:Tp W0 w)(h:∀w',Tp W0 w'->Go.Co.Comes prog (G (b.at a k) cs) w' Stop):Go.Co.Comes prog (G (b.at a (.inRegion ops []::k)) cs) w Stop:=LP okP λw' q=>h w' (t.al q)
def cR {e:Nat}{d:Code}(h:∀w',Tp w w'->Go.Co.Comes prog (G (b.at a (.inRegion ops (List.range ops.size)::.code d::k)) cs) w' Stop):Go.Co.Comes prog (G (b.at a (.code (.seq (.region e ops false) d)::k)) cs) w Stop:=Ur okP λ_ q=>Px okP λw' f=>h w' (((Tp.refl w).al q).al f)
theorem cC (t:Tp W0 w){f:FuncId}{F:Func}{c:Code}{args:Array Operand}{ats:Array TypeId}(vals:Array Value){Post:Value->World->Prop}(hf:prog.funcs[f]?=some F)(hcall:∀w',Tp W0 w'->Yp prog f vals w' Post)
  (h:∀v w',Post v w'->Go.Co.Comes prog (G (b.at (a.put o.dst v) (.inRegion ops rest::k)) cs) w' Stop) (ho:ops[i]?=some o:=by rfl) (hw:Region.wanted o (yielded ops a.tmps)=true:=by rfl) (hk:b.kind≠.early:=by simp[Go.Conc.base])
  (hop:o.op=.call {callee:=.value (.func f),args,argTypes:=ats}:=by rfl) (hb:F.body=some c:=by rfl) (hargs:args.map a.eval=vals:=by simp[Act.eval,Act.put]):Go.Co.Comes prog (G (b.at a (.inRegion ops (i::rest)::k)) cs) w Stop:=NI okP ho hw hk hop hf hb hargs (λw' q=>hcall w' (t.al q)) h
theorem Tp.lw {W w':World}(t:Tp W0 W)(e:CQ W.heap.size W w'):CQ W0.heap.size W0 w':=by obtain⟨τ,d,rfl⟩:=t;exact⟨e.os,e.out,e.size,e.block⟩
end
