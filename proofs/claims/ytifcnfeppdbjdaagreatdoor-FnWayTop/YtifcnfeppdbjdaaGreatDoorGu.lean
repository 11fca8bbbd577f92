import Derived.Test.YtifcnfeppdbjdaaGreatDoorGt
set_option maxHeartbeats 4000000
set_option maxRecDepth 100000
namespace Go.Proofs.YtifcnfeppdbjdaaGreatDoor
open Tryz Stil Go.RowKit Go.Sort Go.BigFrame
theorem jX (es:List Stil.Elem)(v:Value)(w:World)(af:Iz w v es)(hl:es.length<=999999)(T:∀x∈es,x.fits):
  Calls prog 87 #[v] w λe w'=>∃(a:Option Addr) (c:Nat) (ms:List Ej),e=.returned (AE a ms.length c)/\ms.map Ej.elem=es/\Vj w' w.heap.size (AE a ms.length c) ms/\AO w w':=by
 obtain⟨a,cap,rfl,hc⟩:=af;have HA:=AV hc;have HF:=AV T;clear hc T;go_enter func87,ntmps87
 go_wp2
 go_loopw [3,4] (λd i wr=>∃(j:Nat) (ms:List Ej) (ra:Option Addr) (rc:Nat),j<=es.length/\i=AB j/\d=AE ra ms.length rc/\ms.map Ej.elem=(es.take j)/\Vj wr w.heap.size (AE ra ms.length rc) ms/\AO w wr) (λ_ i _=>es.length - (intOf i).toNat)
 case atStart=>
  refine⟨0,[],some (AL w 0),0,AQ,rfl,rfl,rfl,⟨?_,(λm H=>by cases H),G1 _ _⟩,AW⟩;have:=World.ownsRow_lit (base:=w.heap.size) (e:=51) (size:=2) w #[] 0 AU A6 rfl
  simpa[Jc] using this
 case round=>
  obtain⟨j,ms,ra,rc,hj,rfl,rfl,hmn,R,hb⟩:=hrel;have aO:=AV hmn;have aU:=AV R;clear hmn R;by_cases M:j<es.length
  ·have aa:ms.length=j:=by
    have h1:=congrArg List.length aO.out;simp only[CW,FY] at h1;omega
   obtain⟨b,o,rfl,F,Y⟩:=HA j M;obtain⟨A,av,N,J⟩:=Y.below hb F;have U:=(HF _ (CN M)).2.1;have Z:=AV (D2 M);obtain⟨x,S⟩:=AA (es[j])
   rw[<-S] at A J Z U;have X:=J;obtain⟨D,E,rfl,dL⟩:=J;clear dL;have dR:=AV (X.below (Aa wr (.cells #[] 55)).drew);have l:=CB F hb.size;have ag:Hid (((wr.alloc (.cells #[] 55)).drew).ownsRow wr.heap.size 55 3 (AE (some (AL wr 0)) 0 0) 0 []):=by
    have:=World.ownsRow_lit (base:=wr.heap.size) (e:=55) (size:=3) wr #[] 0 (CG _) A6 rfl
    have r:(wr.alloc (.cells #[] 55)).ownsRow wr.heap.size 55 3 (AE (some (AL wr 0)) 0 0) 0 []:=by simpa using this
    exact r
   have eU:=AV (λW (hg:((wr.alloc (.cells #[] 55)).drew).grownBy W (some wr.heap.size))=>(Aa wr (.cells #[] 55)).drew.grown hg AU (λk s=>by cases s;exact CG _));have kP:=AV (λk s=>(aU.1.lt k s).1);have aj:Hid (∀u:Value,(∀q,u.ownBlock=some q->wr.heap.size<=q)->(Value.slice ra ms.length rc::(G6 ms++G6 [Ej.mk x.op x.args u])).Pairwise Aside):=by
    intro u hu;have r:=aU.2.2;rw[EQ] at r ⊢;have V:=λy f=>Ho (n:=wr.heap.size) (λk s=>(aU.lt y f k s).2) hu
    refine⟨λy f=>?_,List.pairwise_append.2 ⟨r.2,G1 _ _,λy f ae hz=>?_⟩⟩
    ·rcases List.mem_append.1 f with f | f
     ·exact r.1 y f
     ·rw[show y=u from by simpa[G6] using f];exact V _ AU
    ·rw[show ae=u from by simpa[G6] using hz];exact V y (CQ _ f)
   have ah:ms.length+[Ej.mk x.op x.args AG].length<=1000000:=by simp only[ED];omega
   have an:(0:Int)<=(j:Int):=AQ
   have ak:(j:Int)<(es.length:Int):=AQ
   clear S Y X aa;go_upto_region 5 with fail
   go_region_held3 (λQ=>(Q.cell? (AK b (o+j*2))=some (AB x.op)/\Q.cell? (AK b (o+j*2+1))=some (AE D x.args.length E))) (first | with_reducible assumption | with_reducible exact⟨Gz.trans A,Gz.trans N⟩ | with_reducible exact⟨Gz.trans ((Ey l).trans A),Gz.trans ((Ey l).trans N)⟩ | with_reducible exact⟨(Ey B).trans t.1,(Ey B).trans t.2⟩ | skip) (first | (refine Ry rfl _ _ rfl wr.heap.size wr.heap.size x.args rfl ag.out D E rfl dR.out U (by show wr.heap.size<=(wr.alloc _).heap.size;simp) ?_;intro u L C ai;obtain⟨K,I,hu⟩:=Ah C;subst hu;have rX:=AV (Joins.ownsRow_le C hb.size);have ab:=AV ((λq hq=>(C.lt q hq).1));have g:=eU.out L ai;have t:(L.cell? (AK b (o+j*2))=some (AB x.op)/\L.cell? (AK b (o+j*2+1))=some (AE D x.args.length E)):=⟨(g.cell (p:=(AK b (o+j*2))) l).trans A,(g.cell (p:=(AK b (o+j*2+1))) l).trans N⟩;have B:=CB l g.size;clear C) | (refine X7 rfl _ _ rfl w.heap.size w.heap.size ra rc ms [(Ej.mk x.op x.args (AE K x.args.length I))] _ 1 rfl rfl ((aU.out.below g).below (Aa _ _)) (λ_=>⟨_,rfl,by exact Rb (by simp)⟩) (λm H=>by rw[List.mem_singleton.1 H];exact(ownsRow_below rX.out (Aa _ _))) (aj.out _ ab.out) ah (by have:=g.size;have:=hb.size;simp;omega) (by have:=g.size;have:=hb.size;simp;omega) kP.out ?_;intro P O G bC z ac;have iQ:Hid (Vj G w.heap.size (AE P (ms.length+1) O) (ms++[(Ej.mk x.op x.args (AE K x.args.length I))])):=bC;have yM:=AV ((Bd (hb.trans (g.mono hb.size)) _).trans z);have al:(G.cell? (AK b (o+j*2))=some (AB x.op)/\G.cell? (AK b (o+j*2+1))=some (AE D x.args.length E)):=⟨((z.cell (p:=(AK b (o+j*2))) F).trans (Ey B)).trans t.1,((z.cell (p:=(AK b (o+j*2+1))) F).trans (Ey B)).trans t.2⟩;clear bC z ac))
   all_goals
    go_wp2
    refine⟨⟨j+1,ms++[Ej.mk x.op x.args (AE K x.args.length I)],P,O,AQ,by go_num,AU,?_,by rw[CM];exact iQ.out,yM.out⟩,by simp[intOf];omega⟩;rw[Z.out,CU,aO.out,GU];rfl
  ·exact zR
theorem Ayy {w:World}{base:Nat}{v:Value}{a:List Ak}(h1:w.ownsRow base 59 4 v a.length (Jk a))(b:∀m∈a,MOk w base m):Zm base w v (a.map Ak.net):=by
 have:=(MOk.from (Ak.mk 0 0 [] AG v a) ((Jw _ _ _).2 ⟨World.ownsRow_nil _ _ _ _,h1,b⟩)).2
 rwa [Ak.net_eq] at this
theorem Y2 (n:Stil.B9)(b a:Value)(w:World)(f:Dk w b n.one.args)(d:Gn w a n.kids)(c:Dw n):
  Calls prog 62 #[.agg #[AB n.kind,AB n.one.op,b,a]] w (AN w (.bool (Am n))):=by
 obtain⟨_,g,j,_⟩:=Dz c;exact LL n b a w f d (by have:=g.2.1;omega) AQ
theorem mo (j i:Int)(a:List Stil.CC)(m:Option Addr)(r:Nat)(l:Option Addr)(y:Nat)(b:List Ak)(f g:Int)(c:List Stil.CC)(k:Option Addr)(u:Nat)(s:Option Addr)(o:Nat)(d:List Ak)(base:Nat)(w:World)
  (h1:MOk w base (Ak.mk j i a (AE m a.length r) (AE l b.length y) b)) (R:MOk w base (Ak.mk f g c (AE k c.length u) (AE s d.length o) d)) (hp:((Ak.mk j i a (AE m a.length r) (AE l b.length y) b).vals++(Ak.mk f g c (AE k c.length u) (AE s d.length o) d).vals).Pairwise Aside) (au:base<=w.heap.size) (hs:Stil.sizes [(Ak.mk j i a (AE m a.length r) (AE l b.length y) b).net,(Ak.mk f g c (AE k c.length u) (AE s d.length o) d).net]<=999999) (ao:Iq (Ak.mk j i a (AE m a.length r) (AE l b.length y) b).net) (ak:Iq (Ak.mk f g c (AE k c.length u) (AE s d.length o) d).net) (af:Dw (Ak.mk j i a (AE m a.length r) (AE l b.length y) b).net) (L:Dw (Ak.mk f g c (AE k c.length u) (AE s d.length o) d).net):
  Calls prog 89 #[.agg #[AB j,AB i,AE m a.length r,AE l b.length y], .agg #[AB f,AB g,AE k c.length u,AE s d.length o]] w λe F=>MG F base ((Ak.mk j i a (AE m a.length r) (AE l b.length y) b).vals++(Ak.mk f g c (AE k c.length u) (AE s d.length o) d).vals) w.heap.size (Lu (Ak.mk j i a (AE m a.length r) (AE l b.length y) b).net (Ak.mk f g c (AE k c.length u) (AE s d.length o) d).net) e/\AO w F:=by
 obtain⟨f1,f2⟩:=MOk.from _ h1;obtain⟨f3,f4⟩:=MOk.from _ R;have V:Hid (∀W,AO w W->Calls prog 62 #[.agg #[AB j,AB i,AE m a.length r,AE l b.length y]] W (AN W (.bool (Am (Ak.mk j i a (AE m a.length r) (AE l b.length y) b).net)))):=by
  intro W h;have:=Y2 (Ak.mk j i a (AE m a.length r) (AE l b.length y) b).net _ _ W (f1.at.below h) (f2.at.below h) af
  have e:=Ak.net_eq (Ak.mk j i a (AE m a.length r) (AE l b.length y) b);have qL:(Ak.mk j i a (AE m a.length r) (AE l b.length y) b).net.kind=j:=by rw[e]
  have qJ:(Ak.mk j i a (AE m a.length r) (AE l b.length y) b).net.one.op=i:=by rw[e]
  rw[qL,qJ] at this;exact this
 have dO:Hid (∀W,AO w W->Calls prog 62 #[.agg #[AB f,AB g,AE k c.length u,AE s d.length o]] W (AN W (.bool (Am (Ak.mk f g c (AE k c.length u) (AE s d.length o) d).net)))):=by
  intro W h;have:=Y2 (Ak.mk f g c (AE k c.length u) (AE s d.length o) d).net _ _ W (f3.at.below h) (f4.at.below h) L
  have e:=Ak.net_eq (Ak.mk f g c (AE k c.length u) (AE s d.length o) d);have qL:(Ak.mk f g c (AE k c.length u) (AE s d.length o) d).net.kind=f:=by rw[e]
  have qJ:(Ak.mk f g c (AE k c.length u) (AE s d.length o) d).net.one.op=g:=by rw[e]
  rw[qL,qJ] at this;exact this
 have ae:=List.pairwise_append.1 hp;have xX:Hid (∀W,AO w W->Ls W base (Ak.mk j i a (AE m a.length r) (AE l b.length y) b)):=λW h=>⟨h1.below h,ae.1⟩
 have uN:Hid (∀W,AO w W->Ls W base (Ak.mk f g c (AE k c.length u) (AE s d.length o) d)):=λW h=>⟨R.below h,ae.2.1⟩
 have nC:Hid (∀x∈(Ak.mk j i a (AE m a.length r) (AE l b.length y) b).vals++(Ak.mk f g c (AE k c.length u) (AE s d.length o) d).vals,∀q,x.ownBlock=some q->q<w.heap.size):=by
  intro x hx q K;rcases List.mem_append.1 hx with hx | hx
  ·exact(h1.lt _ x hx q K).2
  ·exact(R.lt _ x hx q K).2
 have J:Hid (Am (Ak.mk j i a (AE m a.length r) (AE l b.length y) b).net=false->Am (Ak.mk f g c (AE k c.length u) (AE s d.length o) d).net=false->∀W,AO w W->Calls prog 126 #[AB 2,AE (some (AL W 0)) 2 2] (W.alloc (.cells #[AB j,AB i,AE m a.length r,AE l b.length y,AB f,AB g,AE k c.length u,AE s d.length o] 59)) λe F=>Rq F (W.alloc (.cells #[AB j,AB i,AE m a.length r,AE l b.length y,AB f,AB g,AE k c.length u,AE s d.length o] 59)).heap.size (Gj 2 (Cc 2 [(Ak.mk j i a (AE m a.length r) (AE l b.length y) b).net,(Ak.mk f g c (AE k c.length u) (AE s d.length o) d).net])) e/\Below (W.alloc (.cells #[AB j,AB i,AE m a.length r,AE l b.length y,AB f,AB g,AE k c.length u,AE s d.length o] 59)).heap.size (W.alloc (.cells #[AB j,AB i,AE m a.length r,AE l b.length y,AB f,AB g,AE k c.length u,AE s d.length o] 59)) F):=by
  intro I t2 W h;have hr:=N8.pair (h1.below h) (R.below h) hp (CJ au h.size);have al:=ao.resolve_left (by rw[I];exact FO);have an:=ak.resolve_left (by rw[t2];exact FO);have hm:[(Ak.mk j i a (AE m a.length r) (AE l b.length y) b).net,(Ak.mk f g c (AE k c.length u) (AE s d.length o) d).net].map Ap=[(Ak.mk j i a (AE m a.length r) (AE l b.length y) b).net,(Ak.mk f g c (AE k c.length u) (AE s d.length o) d).net]:=by
   simp only[CP,C3];rw[LF al,LF an]
  have aw:Gn (W.alloc (.cells #[AB j,AB i,AE m a.length r,AE l b.length y,AB f,AB g,AE k c.length u,AE s d.length o] 59)) (AE (some (AL W 0)) 2 2) [(Ak.mk j i a (AE m a.length r) (AE l b.length y) b).net,(Ak.mk f g c (AE k c.length u) (AE s d.length o) d).net]:=(Ayy hr.1 hr.2.1).at
  have:=SD 2 [(Ak.mk j i a (AE m a.length r) (AE l b.length y) b).net,(Ak.mk f g c (AE k c.length u) (AE s d.length o) d).net] (λx hx av kv ap ha hk=>by
   rcases List.mem_cons.1 hx with rfl | hx
   ·exact QT _ af al.2.2 (by simp[Stil.sizes] at hs;omega) av kv ap ha hk
   ·rw[List.mem_singleton.1 hx] at ha hk ⊢
    exact QT _ L an.2.2 (by simp[Stil.sizes] at hs;omega) av kv ap ha hk) _ _ aw AU (by rw[hm];omega)
  rw[hm] at this;exact this
 obtain⟨S,hS⟩:=AA (Lu (Ak.mk j i a (AE m a.length r) (AE l b.length y) b).net (Ak.mk f g c (AE k c.length u) (AE s d.length o) d).net)
 have G:Hid (S=if Am (Ak.mk j i a (AE m a.length r) (AE l b.length y) b).net then(Ak.mk f g c (AE k c.length u) (AE s d.length o) d).net else if Am (Ak.mk f g c (AE k c.length u) (AE s d.length o) d).net then(Ak.mk j i a (AE m a.length r) (AE l b.length y) b).net else Gj 2 (Cc 2 [(Ak.mk j i a (AE m a.length r) (AE l b.length y) b).net,(Ak.mk f g c (AE k c.length u) (AE s d.length o) d).net])):=hS;rw[<-hS];obtain⟨I,ai⟩:∃t,t=Am (Ak.mk j i a (AE m a.length r) (AE l b.length y) b).net:=⟨_,rfl⟩
 obtain⟨t2,ar⟩:∃t,t=Am (Ak.mk f g c (AE k c.length u) (AE s d.length o) d).net:=⟨_,rfl⟩
 rw[<-ai] at V G J;rw[<-ar] at dO G J;obtain⟨U,wV⟩:=AA ((Ak.mk j i a (AE m a.length r) (AE l b.length y) b).vals++(Ak.mk f g c (AE k c.length u) (AE s d.length o) d).vals)
 have fQ:=AV wV;rw[<-wV] at nC ⊢;obtain⟨X1,ah⟩:∃ag,ag=(Ak.mk j i a (AE m a.length r) (AE l b.length y) b).net:=⟨_,rfl⟩
 obtain⟨X2,ac⟩:∃ag,ag=(Ak.mk f g c (AE k c.length u) (AE s d.length o) d).net:=⟨_,rfl⟩
 have xK:=AV ah;have xJ:=AV ac;rw[<-ah,<-ac] at J G;clear hS ai ar wV ah ac f1 f2 f3 f4 h1 R hp ae hs af L ao ak;cases I
 ·cases t2
  ·have H:S=Gj 2 (Cc 2 [X1,X2]):=by rw[G.out];rfl
   rw[<-H] at J;clear G H xX uN;go_enter func89,ntmps89;go_upto_region 3 with(go_at_call 62;refine(V _ AW).mono ?_;rintro e z ⟨rfl,hb1⟩;obtain⟨A,hf⟩:=Ef hb1;have aa:w.heap.size<z.heap.size:=CB Ax hb1.size;have Z:w.heap.size+1<z.heap.size:=CB AU hb1.size;have B:w.heap.size+1+1<z.heap.size:=CB AU hb1.size;have jD:AO w z:=AW)
   go_upto_region 5 with(go_at_call 62;refine(dO _ AW).mono ?_;rintro e C ⟨rfl,hb2⟩;obtain⟨E,L⟩:=Ef hb2;have ay:=CB aa hb2.size;have ax:=CB Z hb2.size;have D:=CB B hb2.size;have hbB:AO w C:=yDe)
   go_wp2_with (go_at_call 126;refine(J (by trivial) (by trivial) C hbB).mono ?_;rintro e w3 ⟨⟨mk,aJ,aG,s0,t0,s1,I,Y,rfl,ab,aj⟩,hb3⟩;obtain⟨X,az⟩:=Ef hb3;have aA:=CB (CB D AU) hb3.size;have aT:=AV (ab.le (CJ au (CJ hbB.size AU)));have P:=AV aj;have HW:Hid (∀x∈(Ak.mk mk aJ aG (AE s0 aG.length t0) (AE s1 Y.length I) Y).vals,x∈U\/∀q,x.ownBlock=some q->C.heap.size<=q):=(λx hx=>.inr (λq K=>CJ AU (ab.1.lt _ x hx q K).1));clear ab aj)
   have Q:w3.cell? (AK (w.heap.size+1+1) 0)=some (AB 0):=by rw[X _ _ (CB D AU),Ey D,E _ _ B,A _ _ AU];simp[go_sem]
   have T:w3.cell? (AK (w.heap.size+1+1) 1)=some (AB 0):=by rw[X _ _ (CB D AU),Ey D,E _ _ B,A _ _ AU];simp[go_sem]
   have N:w3.cell? (AK (w.heap.size+1+1) 2)=some AG:=by rw[X _ _ (CB D AU),Ey D,E _ _ B,A _ _ AU];simp[go_sem]
   have O:w3.cell? (AK (w.heap.size+1+1) 3)=some AG:=by rw[X _ _ (CB D AU),Ey D,E _ _ B,A _ _ AU];simp[go_sem]
   refine bodyPost_ret (v:=.agg #[AB mk,AB aJ,AE s0 aG.length t0,AE s1 Y.length I]) (by simp[results,results89,go_sem,Q,T,N,O]) rfl ⟨⟨mk,aJ,aG,s0,t0,s1,I,Y,rfl,?_,P.out,λx hx=>(HW x hx).imp id (λh q K=>by have:=h q K;omega)⟩,?_⟩
   ·exact zu0
   ·exact zx0
  ·have H:S=X1:=by rw[G.out];rfl
   have P:Hid ((Ak.mk j i a (AE m a.length r) (AE l b.length y) b).net=S):=by show _=_;rw[H,xK.out]
   have M:Hid (∀x∈(Ak.mk j i a (AE m a.length r) (AE l b.length y) b).vals,x∈U):=λx hx=>by rw[fQ.out];exact E1 _ hx
   clear G H J uN;go_enter func89,ntmps89;go_upto_region 3 with(go_at_call 62;refine(V _ AW).mono ?_;rintro e z ⟨rfl,hb1⟩;obtain⟨A,hf⟩:=Ef hb1;have aa:w.heap.size<z.heap.size:=CB Ax hb1.size;have Z:w.heap.size+1<z.heap.size:=CB AU hb1.size;have B:w.heap.size+1+1<z.heap.size:=CB AU hb1.size;have jD:AO w z:=AW)
   go_wp2_with (go_at_call 62;refine(dO _ AW).mono ?_;rintro e C ⟨rfl,hb2⟩;obtain⟨E,L⟩:=Ef hb2;have ay:=CB aa hb2.size;have ax:=CB Z hb2.size;have D:=CB B hb2.size;have hbB:AO w C:=yDe)
   have Q:C.cell? (AK (w.heap.size+1+1) 0)=some (AB 0):=by rw[E _ _ B,A _ _ AU];simp[go_sem]
   have T:C.cell? (AK (w.heap.size+1+1) 1)=some (AB 0):=by rw[E _ _ B,A _ _ AU];simp[go_sem]
   have N:C.cell? (AK (w.heap.size+1+1) 2)=some AG:=by rw[E _ _ B,A _ _ AU];simp[go_sem]
   have O:C.cell? (AK (w.heap.size+1+1) 3)=some AG:=by rw[E _ _ B,A _ _ AU];simp[go_sem]
   refine bodyPost_ret (v:=.agg #[AB j,AB i,AE m a.length r,AE l b.length y]) (by simp[results,results89,go_sem,Q,T,N,O]) rfl ⟨⟨j,i,a,m,r,l,y,b,rfl,?_,P.out,λx hx=>.inl (M x hx)⟩,?_⟩
   ·exact Ls.setO4 (xX C hbB) (λx hx e=>by have:=nC x (M x hx) _ e;omega)
   ·clear jD hb1 hb2
    exact AW
 ·have H:S=X2:=by rw[G.out];rfl
  have P:Hid ((Ak.mk f g c (AE k c.length u) (AE s d.length o) d).net=S):=by show _=_;rw[H,xJ.out]
  have M:Hid (∀x∈(Ak.mk f g c (AE k c.length u) (AE s d.length o) d).vals,x∈U):=λx hx=>by rw[fQ.out];exact D3 _ hx
  clear G H J xX dO;go_enter func89,ntmps89
  go_wp2_with (go_at_call 62;refine(V _ AW).mono ?_;rintro e z ⟨rfl,hb1⟩;obtain⟨A,hf⟩:=Ef hb1;have aa:w.heap.size<z.heap.size:=CB Ax hb1.size;have Z:w.heap.size+1<z.heap.size:=CB AU hb1.size;have B:w.heap.size+1+1<z.heap.size:=CB AU hb1.size;have jD:AO w z:=AW)
  have Q:z.cell? (AK (w.heap.size+1+1) 0)=some (AB 0):=by rw[A _ _ AU];simp[go_sem]
  have T:z.cell? (AK (w.heap.size+1+1) 1)=some (AB 0):=by rw[A _ _ AU];simp[go_sem]
  have N:z.cell? (AK (w.heap.size+1+1) 2)=some AG:=by rw[A _ _ AU];simp[go_sem]
  have O:z.cell? (AK (w.heap.size+1+1) 3)=some AG:=by rw[A _ _ AU];simp[go_sem]
  refine bodyPost_ret (v:=.agg #[AB f,AB g,AE k c.length u,AE s d.length o]) (by simp[results,results89,go_sem,Q,T,N,O]) rfl ⟨⟨f,g,c,k,u,s,o,d,rfl,?_,P.out,λx hx=>.inl (M x hx)⟩,?_⟩
  ·exact Ls.setO4 (uN z jD) (λx hx e=>by have:=nC x (M x hx) _ e;omega)
  ·clear hb1
   exact AW
