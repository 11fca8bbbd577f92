import Derived.Test.YtmnnkedjoecehaaGreatDoorGt
set_option maxHeartbeats 4000000
set_option maxRecDepth 100000
namespace Go.Proofs.YtmnnkedjoecehaaGreatDoor
open Tryz Stil Go.RowKit Go.Sort Go.BigFrame
theorem kj (es:List Stil.Elem)(v:Value)(w:World)(ab:Ir w v es)(hl:es.length<=999999)(hf:∀x∈es,x.fits):
  Calls prog 106 #[v] w λe V=>∃(a:Option Addr) (c:Nat) (ms:List Eo),e=.returned (AE a ms.length c)/\ms.map Eo.elem=es/\Vy V w.heap.size (AE a ms.length c) ms/\AO w V:=by
 obtain⟨a,cap,rfl,hc⟩:=ab;have HA:=AV hc;have HF:=AV hf;clear hc hf;go_enter func106,ntmps106
 go_wp2
 go_loopw [3,4] (λd i wr=>∃(j:Nat) (ms:List Eo) (ra:Option Addr) (rc:Nat),j<=es.length/\i=AB j/\d=AE ra ms.length rc/\ms.map Eo.elem=(es.take j)/\Vy wr w.heap.size (AE ra ms.length rc) ms/\AO w wr) (λ_ i _=>es.length - (intOf i).toNat)
 case atStart=>
  refine⟨0,[],some (AL w 0),0,AQ,rfl,rfl,rfl,⟨?_,(λm I=>by cases I),G2 _ _⟩,AW⟩;have:=World.ownsRow_lit (base:=w.heap.size) (e:=46) (size:=2) w #[] 0 AU A6 rfl
  simpa[I8] using this
 case round=>
  obtain⟨j,ms,ra,rc,hj,rfl,rfl,hmn,Z,hb⟩:=hrel;have aO:=AV hmn;have aU:=AV Z;clear hmn Z;by_cases H:j<es.length
  ·have aa:ms.length=j:=by
    have h1:=congrArg List.length aO.out;simp only[CW,FP] at h1;omega
   obtain⟨b,o,rfl,B,O⟩:=HA j H;obtain⟨F,av,G,K⟩:=O.below hb B;have Q:=(HF _ (CJ H)).2.1;have S:=AV (EB H);obtain⟨x,hx⟩:=AA (es[j])
   rw[<-hx] at F K S Q;have X:=K;obtain⟨z,t,rfl,dL⟩:=K;clear dL;have eY:=AV (X.below (Aa wr (.cells #[] 111)).drew);have s:=CB B hb.size;have ae:Hid (((wr.alloc (.cells #[] 111)).drew).ownsRow wr.heap.size 111 3 (AE (some (AL wr 0)) 0 0) 0 []):=by
    have:=World.ownsRow_lit (base:=wr.heap.size) (e:=111) (size:=3) wr #[] 0 (CG _) A6 rfl
    have r:(wr.alloc (.cells #[] 111)).ownsRow wr.heap.size 111 3 (AE (some (AL wr 0)) 0 0) 0 []:=by simpa using this
    exact r
   have eX:=AV (λW (hg:((wr.alloc (.cells #[] 111)).drew).grownBy W (some wr.heap.size))=>(Aa wr (.cells #[] 111)).drew.grown hg AU (λk l=>by cases l;exact CG _));have kS:=AV (λk l=>(aU.1.lt k l).1);have ai:Hid (∀u:Value,(∀q,u.ownBlock=some q->wr.heap.size<=q)->(Value.slice ra ms.length rc::(Gv ms++Gv [Eo.mk x.op x.args u])).Pairwise Aside):=by
    intro u hu;have r:=aU.2.2;rw[DX] at r ⊢;have R:=λy f=>He (n:=wr.heap.size) (λk l=>(aU.lt y f k l).2) hu
    refine⟨λy f=>?_,List.pairwise_append.2 ⟨r.2,G2 _ _,λy f ac hz=>?_⟩⟩
    ·rcases List.mem_append.1 f with f | f
     ·exact r.1 y f
     ·rw[show y=u from by simpa[Gv] using f];exact R _ AU
    ·rw[show ac=u from by simpa[Gv] using hz];exact R y (CN _ f)
   have af:ms.length+[Eo.mk x.op x.args AG].length<=1000000:=by simp only[EF];omega
   have ak:(0:Int)<=(j:Int):=AQ
   have an:(j:Int)<(es.length:Int):=AQ
   clear hx O X aa;go_upto_region 5 with fail
   go_region_held3 (λP=>(P.cell? (AK b (o+j*2))=some (AB x.op)/\P.cell? (AK b (o+j*2+1))=some (AE z x.args.length t))) (first | with_reducible assumption | with_reducible exact⟨Gs.trans F,Gs.trans G⟩ | with_reducible exact⟨Gs.trans ((Ez s).trans F),Gs.trans ((Ez s).trans G)⟩ | with_reducible exact⟨(Ez D).trans C.1,(Ez D).trans C.2⟩ | skip) (first | (refine Su rfl _ _ rfl wr.heap.size wr.heap.size x.args rfl ae.out z t rfl eY.out Q (by show wr.heap.size<=(wr.alloc _).heap.size;simp) ?_;intro u N E aj;obtain⟨M,L,hu⟩:=Af E;subst hu;have rY:=AV (Joins.ownsRow_le E hb.size);have ag:=AV ((λq hq=>(E.lt q hq).1));have g:=eX.out N aj;have C:(N.cell? (AK b (o+j*2))=some (AB x.op)/\N.cell? (AK b (o+j*2+1))=some (AE z x.args.length t)):=⟨(g.cell (p:=(AK b (o+j*2))) s).trans F,(g.cell (p:=(AK b (o+j*2+1))) s).trans G⟩;have D:=CB s g.size;clear E) | (refine Ym rfl _ _ rfl w.heap.size w.heap.size ra rc ms [(Eo.mk x.op x.args (AE M x.args.length L))] _ 1 rfl rfl ((aU.out.below g).below (Aa _ _)) (λ_=>⟨_,rfl,by exact Rr (by simp)⟩) (λm I=>by rw[List.mem_singleton.1 I];exact(ownsRow_below rY.out (Aa _ _))) (ai.out _ ag.out) af (by have:=g.size;have:=hb.size;simp;omega) (by have:=g.size;have:=hb.size;simp;omega) kS.out ?_;intro Y T J U A ah;have iU:Hid (Vy J w.heap.size (AE Y (ms.length+1) T) (ms++[(Eo.mk x.op x.args (AE M x.args.length L))])):=U;have wC:=AV ((Bi (hb.trans (g.mono hb.size)) _).trans A);have al:(J.cell? (AK b (o+j*2))=some (AB x.op)/\J.cell? (AK b (o+j*2+1))=some (AE z x.args.length t)):=⟨((A.cell (p:=(AK b (o+j*2))) B).trans (Ez D)).trans C.1,((A.cell (p:=(AK b (o+j*2+1))) B).trans (Ez D)).trans C.2⟩;clear U A ah))
   all_goals
    go_wp2
    refine⟨⟨j+1,ms++[Eo.mk x.op x.args (AE M x.args.length L)],Y,T,AQ,by go_num,AU,?_,by rw[CO];exact iU.out,wC.out⟩,by simp[intOf];omega⟩;rw[S.out,CU,aO.out,G3];rfl
  ·exact zR
theorem Ay5 {w:World}{base:Nat}{v:Value}{a:List Ap}(h1:w.ownsRow base 59 4 v a.length (Jf a))(b:∀m∈a,MOk w base m):Z7 base w v (a.map Ap.net):=by
 have:=(MOk.from (Ap.mk 0 0 [] AG v a) ((Jt _ _ _).2 ⟨World.ownsRow_nil _ _ _ _,h1,b⟩)).2
 rwa [Ap.net_eq] at this
theorem Zi (n:Stil.B8)(b a:Value)(w:World)(d:Dj w b n.one.args)(c:Gg w a n.kids)(g:Dz n):
  Calls prog 63 #[.agg #[AB n.kind,AB n.one.op,b,a]] w (AN w (.bool (Am n))):=by
 obtain⟨_,i,j,_⟩:=D5 g;exact LU n b a w d c (by have:=i.2.1;omega) AQ
theorem m8 (i g:Int)(a:List Stil.CC)(u:Option Addr)(l:Nat)(y:Option Addr)(s:Nat)(c:List Ap)(j f:Int)(d:List Stil.CC)(k:Option Addr)(o:Nat)(m:Option Addr)(r:Nat)(b:List Ap)(base:Nat)(w:World)
  (h1:MOk w base (Ap.mk i g a (AE u a.length l) (AE y c.length s) c)) (T:MOk w base (Ap.mk j f d (AE k d.length o) (AE m b.length r) b)) (hp:((Ap.mk i g a (AE u a.length l) (AE y c.length s) c).vals++(Ap.mk j f d (AE k d.length o) (AE m b.length r) b).vals).Pairwise Aside) (aj:base<=w.heap.size) (hs:Stil.sizes [(Ap.mk i g a (AE u a.length l) (AE y c.length s) c).net,(Ap.mk j f d (AE k d.length o) (AE m b.length r) b).net]<=999999) (ap:Ht (Ap.mk i g a (AE u a.length l) (AE y c.length s) c).net) (ar:Ht (Ap.mk j f d (AE k d.length o) (AE m b.length r) b).net) (ac:Dz (Ap.mk i g a (AE u a.length l) (AE y c.length s) c).net) (L:Dz (Ap.mk j f d (AE k d.length o) (AE m b.length r) b).net):
  Calls prog 108 #[.agg #[AB i,AB g,AE u a.length l,AE y c.length s], .agg #[AB j,AB f,AE k d.length o,AE m b.length r]] w λe F=>MQ F base ((Ap.mk i g a (AE u a.length l) (AE y c.length s) c).vals++(Ap.mk j f d (AE k d.length o) (AE m b.length r) b).vals) w.heap.size (L8 (Ap.mk i g a (AE u a.length l) (AE y c.length s) c).net (Ap.mk j f d (AE k d.length o) (AE m b.length r) b).net) e/\AO w F:=by
 obtain⟨f1,f2⟩:=MOk.from _ h1;obtain⟨f3,f4⟩:=MOk.from _ T;have fM:Hid (∀W,AO w W->Calls prog 63 #[.agg #[AB i,AB g,AE u a.length l,AE y c.length s]] W (AN W (.bool (Am (Ap.mk i g a (AE u a.length l) (AE y c.length s) c).net)))):=by
  intro W h;have:=Zi (Ap.mk i g a (AE u a.length l) (AE y c.length s) c).net _ _ W (f1.at.below h) (f2.at.below h) ac
  have e:=Ap.net_eq (Ap.mk i g a (AE u a.length l) (AE y c.length s) c);have qL:(Ap.mk i g a (AE u a.length l) (AE y c.length s) c).net.kind=i:=by rw[e]
  have qJ:(Ap.mk i g a (AE u a.length l) (AE y c.length s) c).net.one.op=g:=by rw[e]
  rw[qL,qJ] at this;exact this
 have Y:Hid (∀W,AO w W->Calls prog 63 #[.agg #[AB j,AB f,AE k d.length o,AE m b.length r]] W (AN W (.bool (Am (Ap.mk j f d (AE k d.length o) (AE m b.length r) b).net)))):=by
  intro W h;have:=Zi (Ap.mk j f d (AE k d.length o) (AE m b.length r) b).net _ _ W (f3.at.below h) (f4.at.below h) L
  have e:=Ap.net_eq (Ap.mk j f d (AE k d.length o) (AE m b.length r) b);have qL:(Ap.mk j f d (AE k d.length o) (AE m b.length r) b).net.kind=j:=by rw[e]
  have qJ:(Ap.mk j f d (AE k d.length o) (AE m b.length r) b).net.one.op=f:=by rw[e]
  rw[qL,qJ] at this;exact this
 have ab:=List.pairwise_append.1 hp;have yJ:Hid (∀W,AO w W->Lt W base (Ap.mk i g a (AE u a.length l) (AE y c.length s) c)):=λW h=>⟨h1.below h,ab.1⟩
 have uO:Hid (∀W,AO w W->Lt W base (Ap.mk j f d (AE k d.length o) (AE m b.length r) b)):=λW h=>⟨T.below h,ab.2.1⟩
 have nG:Hid (∀x∈(Ap.mk i g a (AE u a.length l) (AE y c.length s) c).vals++(Ap.mk j f d (AE k d.length o) (AE m b.length r) b).vals,∀q,x.ownBlock=some q->q<w.heap.size):=by
  intro x hx q K;rcases List.mem_append.1 hx with hx | hx
  ·exact(h1.lt _ x hx q K).2
  ·exact(T.lt _ x hx q K).2
 have J:Hid (Am (Ap.mk i g a (AE u a.length l) (AE y c.length s) c).net=false->Am (Ap.mk j f d (AE k d.length o) (AE m b.length r) b).net=false->∀W,AO w W->Calls prog 138 #[AB 2,AE (some (AL W 0)) 2 2] (W.alloc (.cells #[AB i,AB g,AE u a.length l,AE y c.length s,AB j,AB f,AE k d.length o,AE m b.length r] 59)) λe F=>Si F (W.alloc (.cells #[AB i,AB g,AE u a.length l,AE y c.length s,AB j,AB f,AE k d.length o,AE m b.length r] 59)).heap.size (F8 2 (Ce 2 [(Ap.mk i g a (AE u a.length l) (AE y c.length s) c).net,(Ap.mk j f d (AE k d.length o) (AE m b.length r) b).net])) e/\Below (W.alloc (.cells #[AB i,AB g,AE u a.length l,AE y c.length s,AB j,AB f,AE k d.length o,AE m b.length r] 59)).heap.size (W.alloc (.cells #[AB i,AB g,AE u a.length l,AE y c.length s,AB j,AB f,AE k d.length o,AE m b.length r] 59)) F):=by
  intro I t2 W h;have hr:=Oc.pair (h1.below h) (T.below h) hp (CM aj h.size);have al:=ap.resolve_left (by rw[I];exact FV);have ak:=ar.resolve_left (by rw[t2];exact FV);have hm:[(Ap.mk i g a (AE u a.length l) (AE y c.length s) c).net,(Ap.mk j f d (AE k d.length o) (AE m b.length r) b).net].map Au=[(Ap.mk i g a (AE u a.length l) (AE y c.length s) c).net,(Ap.mk j f d (AE k d.length o) (AE m b.length r) b).net]:=by
   simp only[CQ,C6];rw[LX al,LX ak]
  have ax:Gg (W.alloc (.cells #[AB i,AB g,AE u a.length l,AE y c.length s,AB j,AB f,AE k d.length o,AE m b.length r] 59)) (AE (some (AL W 0)) 2 2) [(Ap.mk i g a (AE u a.length l) (AE y c.length s) c).net,(Ap.mk j f d (AE k d.length o) (AE m b.length r) b).net]:=(Ay5 hr.1 hr.2.1).at
  have:=SL 2 [(Ap.mk i g a (AE u a.length l) (AE y c.length s) c).net,(Ap.mk j f d (AE k d.length o) (AE m b.length r) b).net] (λx hx av kv ai ha hk=>by
   rcases List.mem_cons.1 hx with rfl | hx
   ·exact QU _ ac al.2.2 (by simp[Stil.sizes] at hs;omega) av kv ai ha hk
   ·rw[List.mem_singleton.1 hx] at ha hk ⊢
    exact QU _ L ak.2.2 (by simp[Stil.sizes] at hs;omega) av kv ai ha hk) _ _ ax AU (by rw[hm];omega)
  rw[hm] at this;exact this
 obtain⟨S,hS⟩:=AA (L8 (Ap.mk i g a (AE u a.length l) (AE y c.length s) c).net (Ap.mk j f d (AE k d.length o) (AE m b.length r) b).net)
 have G:Hid (S=if Am (Ap.mk i g a (AE u a.length l) (AE y c.length s) c).net then(Ap.mk j f d (AE k d.length o) (AE m b.length r) b).net else if Am (Ap.mk j f d (AE k d.length o) (AE m b.length r) b).net then(Ap.mk i g a (AE u a.length l) (AE y c.length s) c).net else F8 2 (Ce 2 [(Ap.mk i g a (AE u a.length l) (AE y c.length s) c).net,(Ap.mk j f d (AE k d.length o) (AE m b.length r) b).net])):=hS;rw[<-hS];obtain⟨I,an⟩:∃t,t=Am (Ap.mk i g a (AE u a.length l) (AE y c.length s) c).net:=⟨_,rfl⟩
 obtain⟨t2,ao⟩:∃t,t=Am (Ap.mk j f d (AE k d.length o) (AE m b.length r) b).net:=⟨_,rfl⟩
 rw[<-an] at fM G J;rw[<-ao] at Y G J;obtain⟨M,xM⟩:=AA ((Ap.mk i g a (AE u a.length l) (AE y c.length s) c).vals++(Ap.mk j f d (AE k d.length o) (AE m b.length r) b).vals)
 have fU:=AV xM;rw[<-xM] at nG ⊢;obtain⟨X1,ag⟩:∃af,af=(Ap.mk i g a (AE u a.length l) (AE y c.length s) c).net:=⟨_,rfl⟩
 obtain⟨X2,ah⟩:∃af,af=(Ap.mk j f d (AE k d.length o) (AE m b.length r) b).net:=⟨_,rfl⟩
 have az:=AV ag;have yB:=AV ah;rw[<-ag,<-ah] at J G;clear hS an ao xM ag ah f1 f2 f3 f4 h1 T hp ab hs ac L ap ar;cases I
 ·cases t2
  ·have H:S=F8 2 (Ce 2 [X1,X2]):=by rw[G.out];rfl
   rw[<-H] at J;clear G H yJ uO;go_enter func108,ntmps108;go_upto_region 3 with(go_at_call 63;refine(fM _ AW).mono ?_;rintro e z ⟨rfl,hb1⟩;obtain⟨A,hf⟩:=En hb1;have Z:w.heap.size<z.heap.size:=CB Ax hb1.size;have aa:w.heap.size+1<z.heap.size:=CB AU hb1.size;have B:w.heap.size+1+1<z.heap.size:=CB AU hb1.size;have jG:AO w z:=AW)
   go_upto_region 5 with(go_at_call 63;refine(Y _ AW).mono ?_;rintro e C ⟨rfl,hb2⟩;obtain⟨E,L⟩:=En hb2;have aw:=CB Z hb2.size;have ay:=CB aa hb2.size;have D:=CB B hb2.size;have hbB:AO w C:=yDe)
   go_wp2_with (go_at_call 138;refine(J (by trivial) (by trivial) C hbB).mono ?_;rintro e w3 ⟨⟨mk,aH,X,s0,t0,s1,I,aF,rfl,ae,au⟩,hb3⟩;obtain⟨V,aB⟩:=En hb3;have aA:=CB (CB D AU) hb3.size;have aT:=AV (ae.le (CM aj (CM hbB.size AU)));have O:=AV au;have HW:Hid (∀x∈(Ap.mk mk aH X (AE s0 X.length t0) (AE s1 aF.length I) aF).vals,x∈M\/∀q,x.ownBlock=some q->C.heap.size<=q):=(λx hx=>.inr (λq K=>CM AU (ae.1.lt _ x hx q K).1));clear ae au)
   have N:w3.cell? (AK (w.heap.size+1+1) 0)=some (AB 0):=by rw[V _ _ (CB D AU),Ez D,E _ _ B,A _ _ AU];simp[go_sem]
   have R:w3.cell? (AK (w.heap.size+1+1) 1)=some (AB 0):=by rw[V _ _ (CB D AU),Ez D,E _ _ B,A _ _ AU];simp[go_sem]
   have P:w3.cell? (AK (w.heap.size+1+1) 2)=some AG:=by rw[V _ _ (CB D AU),Ez D,E _ _ B,A _ _ AU];simp[go_sem]
   have U:w3.cell? (AK (w.heap.size+1+1) 3)=some AG:=by rw[V _ _ (CB D AU),Ez D,E _ _ B,A _ _ AU];simp[go_sem]
   refine bodyPost_ret (v:=.agg #[AB mk,AB aH,AE s0 X.length t0,AE s1 aF.length I]) (by simp[results,results108,go_sem,N,R,P,U]) rfl ⟨⟨mk,aH,X,s0,t0,s1,I,aF,rfl,?_,O.out,λx hx=>(HW x hx).imp id (λh q K=>by have:=h q K;omega)⟩,?_⟩
   ·exact zv0
   ·exact zy0
  ·have H:S=X1:=by rw[G.out];rfl
   have O:Hid ((Ap.mk i g a (AE u a.length l) (AE y c.length s) c).net=S):=by show _=_;rw[H,az.out]
   have Q:Hid (∀x∈(Ap.mk i g a (AE u a.length l) (AE y c.length s) c).vals,x∈M):=λx hx=>by rw[fU.out];exact E0 _ hx
   clear G H J uO;go_enter func108,ntmps108;go_upto_region 3 with(go_at_call 63;refine(fM _ AW).mono ?_;rintro e z ⟨rfl,hb1⟩;obtain⟨A,hf⟩:=En hb1;have Z:w.heap.size<z.heap.size:=CB Ax hb1.size;have aa:w.heap.size+1<z.heap.size:=CB AU hb1.size;have B:w.heap.size+1+1<z.heap.size:=CB AU hb1.size;have jG:AO w z:=AW)
   go_wp2_with (go_at_call 63;refine(Y _ AW).mono ?_;rintro e C ⟨rfl,hb2⟩;obtain⟨E,L⟩:=En hb2;have aw:=CB Z hb2.size;have ay:=CB aa hb2.size;have D:=CB B hb2.size;have hbB:AO w C:=yDe)
   have N:C.cell? (AK (w.heap.size+1+1) 0)=some (AB 0):=by rw[E _ _ B,A _ _ AU];simp[go_sem]
   have R:C.cell? (AK (w.heap.size+1+1) 1)=some (AB 0):=by rw[E _ _ B,A _ _ AU];simp[go_sem]
   have P:C.cell? (AK (w.heap.size+1+1) 2)=some AG:=by rw[E _ _ B,A _ _ AU];simp[go_sem]
   have U:C.cell? (AK (w.heap.size+1+1) 3)=some AG:=by rw[E _ _ B,A _ _ AU];simp[go_sem]
   refine bodyPost_ret (v:=.agg #[AB i,AB g,AE u a.length l,AE y c.length s]) (by simp[results,results108,go_sem,N,R,P,U]) rfl ⟨⟨i,g,a,u,l,y,s,c,rfl,?_,O.out,λx hx=>.inl (Q x hx)⟩,?_⟩
   ·exact Lt.setO4 (yJ C hbB) (λx hx e=>by have:=nG x (Q x hx) _ e;omega)
   ·clear jG hb1 hb2
    exact AW
 ·have H:S=X2:=by rw[G.out];rfl
  have O:Hid ((Ap.mk j f d (AE k d.length o) (AE m b.length r) b).net=S):=by show _=_;rw[H,yB.out]
  have Q:Hid (∀x∈(Ap.mk j f d (AE k d.length o) (AE m b.length r) b).vals,x∈M):=λx hx=>by rw[fU.out];exact Da _ hx
  clear G H J yJ Y;go_enter func108,ntmps108
  go_wp2_with (go_at_call 63;refine(fM _ AW).mono ?_;rintro e z ⟨rfl,hb1⟩;obtain⟨A,hf⟩:=En hb1;have Z:w.heap.size<z.heap.size:=CB Ax hb1.size;have aa:w.heap.size+1<z.heap.size:=CB AU hb1.size;have B:w.heap.size+1+1<z.heap.size:=CB AU hb1.size;have jG:AO w z:=AW)
  have N:z.cell? (AK (w.heap.size+1+1) 0)=some (AB 0):=by rw[A _ _ AU];simp[go_sem]
  have R:z.cell? (AK (w.heap.size+1+1) 1)=some (AB 0):=by rw[A _ _ AU];simp[go_sem]
  have P:z.cell? (AK (w.heap.size+1+1) 2)=some AG:=by rw[A _ _ AU];simp[go_sem]
  have U:z.cell? (AK (w.heap.size+1+1) 3)=some AG:=by rw[A _ _ AU];simp[go_sem]
  refine bodyPost_ret (v:=.agg #[AB j,AB f,AE k d.length o,AE m b.length r]) (by simp[results,results108,go_sem,N,R,P,U]) rfl ⟨⟨j,f,d,k,o,m,r,b,rfl,?_,O.out,λx hx=>.inl (Q x hx)⟩,?_⟩
  ·exact Lt.setO4 (uO z jG) (λx hx e=>by have:=nG x (Q x hx) _ e;omega)
  ·clear hb1
   exact AW
