import Derived.Test.YtifcnfeppdbjdaaGreatDoorGm
namespace Go.Proofs.YtifcnfeppdbjdaaGreatDoor
open Tryz Stil Go.RowKit Go.Sort Go.BigFrame
variable {base:Nat}{u1 u2 u3 u4:Value}
set_option maxHeartbeats 2000000 in
set_option maxRecDepth 100000 in
theorem SD (k:Int)(kids:List Stil.B9)(ih:∀x∈kids,∀(av kv:Value) (w:World),Dk w av x.one.args->Gn w kv x.kids->Calls prog 88 #[.agg #[AB x.kind,AB x.one.op,av,kv]] w λaf X=>Rq X w.heap.size (Ap x) af/\AO w X)
  (v:Value) (w:World) (ax:Gn w v kids) (hl:kids.length<=1048576) (hs:Stil.sizes (kids.map Ap)<=1000000):
  Calls prog 126 #[AB k,v] w λaf X=>Rq X w.heap.size (Gj k (Cc k (kids.map Ap))) af/\AO w X:=by
 obtain⟨i0,hi,az,aC,ay⟩:=info_parts QD;obtain⟨a,cap,rfl,hc⟩:=ax;have HA:=AV hc;have IH:=AV ih;have HS:=AV hs;clear hc ih hs;go_enter func126,ntmps126
 go_wp2
 go_loopw [6] (λi wr=>∃(j:Nat) (e:List Ak) (H:Option Addr) (F:Nat),j<=kids.length/\i=AB j/\B4 wr w.heap.size (AB 0) (AB 0) AG AG/\B4 wr (w.heap.size+1) (AB k) (AB 0) AG (AE H e.length F)/\
   N8 wr (w.heap.size+2) (AE H e.length F) e/\e.map Ak.net=Cc k ((kids.take j).map Ap)/\AO w wr) (λi _=>kids.length - (intOf i).toNat)
 case atStart=>
  refine⟨0,[],none,0,AQ,rfl,?_,?_,N8.nil _ _,rfl,AW⟩
  ·refine⟨by simp;omega,⟨by simp[go_sem],by simp[go_sem],by simp[go_sem],by simp[go_sem]⟩,by simp[go_sem],by simp[go_sem],by simp[go_sem],by simp[go_sem]⟩
  ·refine⟨AU,⟨by simp[go_sem],by simp[go_sem],by simp[go_sem],by simp[go_sem]⟩,by simp[go_sem],by simp[go_sem],by simp[go_sem],by simp[go_sem]⟩
 case round=>
  obtain⟨j,e,H,F,hj,rfl,ao,M,al,dm,hB⟩:=hrel;have Q:=AV ao;have N:=AV M;have C:=AV al;have o8:=AV dm;clear ao M al dm;by_cases ak:j<kids.length
  ·obtain⟨b,o,rfl,K,hn⟩:=HA j ak
   obtain⟨x0,x1,av,kv,x2,x3,ah,ai⟩:=(Un.below hB _ _ _ hn K).open;have HI:=AV (λW s=>IH kids[j] (CN ak) av kv W (ah.below s) (ai.below s));obtain⟨x,hx⟩:=AA (kids[j])
   rw[<-hx] at HI x0 x1 ah ai;have HX:=AV hx;obtain⟨p0,r0,rfl,_⟩:=ah;obtain⟨p1,r1,rfl,_⟩:=ai;clear hx hn;go_upto_region 6 with(go_at_call 88;refine(HI _ Av).mono ?_;rintro af B ⟨⟨l,q,f,y,u,r,t,d,rfl,A,G⟩,ab⟩;have z:Hid (Ls B _ ⟨l,q,f,AE y f.length u,AE r d.length t,d⟩):=A;have aO:=AV G;clear A G)
   obtain⟨W,s⟩:=AA (B.alloc (.cells #[AB l,AB q,AE y f.length u,AE r d.length t] 59))
   rw[<-s];have an:W.heap.size=B.heap.size+1:=by rw[s];simp
   have tC:AO B W:=by rw[s];exact Aa _ _
   have n0:W.cell? (AL B 0)=some (AB l):=by rw[s];simp[go_sem]
   have n1:W.cell? (AL B 1)=some (AB q):=by rw[s];simp[go_sem]
   have n2:W.cell? (AL B 2)=some (AE y f.length u):=by rw[s];simp[go_sem]
   have n3:W.cell? (AL B 3)=some (AE r d.length t):=by rw[s];simp[go_sem]
   have aa:=ab.trans (tC.mono ab.size);have ap:=hB.trans (aa.mono hB.size);have M:=N.below aa N.1;have aw:w.heap.size+2<=W.heap.size:=by have:=M.1;omega
   have L:=AV M;have yL:=AV (Q.below aa Q.1);have oz:=AV (C.below aa);have T:Hid (Ls W (w.heap.size+2) ⟨l,q,f,AE y f.length u,AE r d.length t,d⟩):=((z.below tC).le (by have:=N.1;omega))
   have ae:∀Z:List Ak,(∀m∈Z,MOk B wr.heap.size m)->(Gv Z).Pairwise Aside->(Value.slice H e.length F::(Gv e++Gv Z)).Pairwise Aside:=λZ h1 h2=>C.apart h1 (CG _) h2
   have E:=eg k kids j ak;rw[<-HX.out,<-aO.out,<-o8.out,Ak.net_eq] at E;simp only at E;have J:=ef k kids (j+1);rw[E] at J;have hS:=HS.out;obtain⟨_,⟨o0,o1,o2,o3⟩,g0,g1,g2,g3⟩:=M;by_cases S:l=k
   ·rw[if_pos S] at E J
    have aj:e.length+d.length<=1000000:=by
     simp only[CM,CW] at J;omega
    have U:(e++d).map Ak.net=Cc k ((kids.take (j+1)).map Ap):=by rw[E,CU]
    have P:=ae d z.kids.1 z.kids.2;have HP:=AV P;have HK:Hid (∀m∈d,MOk W (w.heap.size+2) m):=T.kids.1;have bW:=AV U;have au:Hid (0<d.length->∃p,r=some p/\∀j ac,(Jk d)[j]?=some ac->W.cell? (p.add j)=some ac):=by
     intro hz;have hr:=((Jw _ _ _).1 T.1).2.1;simp only at hr;obtain⟨g,c,V,_,_,_,I⟩:=Cb hr hz;simp only[Value.slice.injEq] at V;exact⟨(AK g 0),V.1,λj ac hu=>by rw[Addr.add_lit];simpa using I j ac hu⟩
    clear s J E U P ae hS tC z aO HI C N Q T an ab;rw[S] at n0
    go_wp2_with (at_builtin;refine Ut rfl _ _ rfl (w.heap.size+2) H F e d r t rfl rfl oz au HK HP aj aw ?_;intro a6 Y w6 O D;obtain⟨_,⟨_,_,_,y3⟩,_,_,_,f3⟩:=L.below D (DV _);have iQ:=AV O;clear O)
    all_goals
     try go_wp2
     refine⟨⟨j+1,e++d,a6,Y,AQ,by go_num,?_,?_,?_,bW.out,?_⟩,by simp[intOf];omega⟩
     ·exact(yL.below D AQ).setO AQ _
     ·rw[CM]
      exact(L.below D (DV _)).set3 _
     ·rw[CM]
      exact iQ.set (a:=(AK (w.heap.size+1) 3)) (DV _) _
     ·exact(ap.trans (D.mono AQ)).setCell AU _
   ·rw[if_neg S] at E J
    have aj:e.length+[(Ak.mk l q f (AE y f.length u) (AE r d.length t) d)].length<=1000000:=by
     simp only[CM,CW,ED] at J ⊢;omega
    have U:(e++[Ak.mk l q f (AE y f.length u) (AE r d.length t) d]).map Ak.net=Cc k ((kids.take (j+1)).map Ap):=by
     rw[E,CU,GU,Ak.net_eq]
    have P:=ae [Ak.mk l q f (AE y f.length u) (AE r d.length t) d] (λm R=>by rw[List.mem_singleton.1 R];exact z.1) (by rw[Md];exact z.2);have HP:=AV P;have HK:Hid (∀m∈[Ak.mk l q f (AE y f.length u) (AE r d.length t) d],MOk W (w.heap.size+2) m):=λm R=>by rw[List.mem_singleton.1 R];exact T.1
    have bW:=AV U;have aA:(l==k)=false:=by rw[CS];exact S
    clear s J E U P ae hS tC z aO HI C N Q T an ab S
    go_wp2_with (at_builtin;refine Ut rfl _ _ rfl (w.heap.size+2) H F e [Ak.mk l q f (AE y f.length u) (AE r d.length t) d] (some (AL W 0)) 1 rfl rfl (oz.below (Aa _ _)) (λ_=>⟨_,rfl,by exact cells4⟩) (λm R=>(HK m R).below (Aa _ _)) HP aj Bw ?_;intro a6 Y w6 O D;obtain⟨_,⟨_,_,_,y3⟩,_,_,_,f3⟩:=(L.below (Aa _ _) L.1).below D (DV _);have iQ:Hid (N8 w6 (w.heap.size+2) (AE a6 (e.length+1) Y) (e++[Ak.mk l q f (AE y f.length u) (AE r d.length t) d])):=O;clear O)
    all_goals
     try go_wp2
     refine⟨⟨j+1,e++[Ak.mk l q f (AE y f.length u) (AE r d.length t) d],a6,Y,AQ,by go_num,?_,?_,?_,bW.out,?_⟩,by simp[intOf];omega⟩
     ·exact((yL.below (Aa _ _) yL.1).below D AQ).setO AQ _
     ·rw[CM]
      exact((L.below (Aa _ _) L.1).below D (DV _)).set3 _
     ·rw[CM]
      exact iQ.set (a:=(AK (w.heap.size+1) 3)) (DV _) _
     ·exact((Bd ap _).trans (D.mono AQ)).setCell AU _
  ·obtain rfl:j=kids.length:=by omega
   have G:=o8.out;rw[Gk] at G;obtain⟨_,⟨z0,z1,z2,z3⟩,e0,e1,e2,e3⟩:=Q.out;obtain⟨_,⟨o0,o1,o2,o3⟩,_⟩:=N.out;by_cases h1:e.length=1
   ·obtain⟨m,rfl⟩:=List.length_eq_one_iff.1 h1
    have A:=C.one 0 AU;simp only[EP] at A;obtain⟨g,c,V,_,aD,_,I⟩:=Cb C.1 AU;obtain⟨a1,a2,a3,a4⟩:=O6 [m] 0 AU;have y0:=I _ _ a1;have y1:=I _ _ a2;have y2:=I _ _ a3;have y3:=I _ _ a4;simp only[EP,FG,CV] at y0 y1 y2 y3;have ag:=(Jw _ _ _).1 A.1;obtain⟨d1,d2,hd⟩:=Ah ag.1;obtain⟨d3,d4,ar⟩:=Ah ag.2.1;simp only[Value.slice.injEq] at V;obtain⟨rfl,_,rfl⟩:=V;have K:Gj k (Cc k (kids.map Ap))=m.net:=by rw[<-G];rfl
    have iD:=AV K;obtain⟨l,q,f,zg,zf,d⟩:=m;simp only at hd ar y0 y1 y2 y3;subst hd;subst ar;have z:=AV A;clear A ag G K I C;simp only[ED] at o3
    go_wp2
    refine bodyPost_ret (v:=.agg #[AB l,AB q,AE d1 f.length d2,AE d3 d.length d4]) (by simp[results,results126,go_sem,z0,z1,z2,z3]) rfl ⟨⟨l,q,f,d1,d2,d3,d4,d,rfl,?_,iD.symm⟩,AW⟩;refine Ls.le (base:=w.heap.size+2) ?_ AQ;repeat (refine Ls.set ?_ BX _)
    exact z.out
   ·have K:Gj k (Cc k (kids.map Ap))=⟨k,⟨0,[]⟩,e.map Ak.net⟩:=by
     rw[<-G];unfold Gj;rw[dif_neg (by simpa using h1)]
    have iD:=AV K;have A:=C.net k 0 [] (World.ownsRow_nil _ _ _ _) (λx _=>Py x);have z:=AV A;have aB:((e.length:Int)==1)=false:=by rw[CS];omega
    have jv:¬((e.length:Int)=1):=AQ
    clear A G K C
    go_wp2
    refine bodyPost_ret (v:=.agg #[AB k,AB 0,AG,AE H e.length F]) (by simp[results,results126,go_sem,z0,z1,z2,z3]) rfl ⟨⟨k,0,[],none,0,H,F,e,rfl,?_,by rw[Ak.net_eq,iD.out]⟩,AW⟩;refine Ls.le (base:=w.heap.size+2) ?_ AQ;repeat (refine Ls.set ?_ BX _)
    exact z.out
theorem Ls.set4 {w:World}{b e c a f:Nat}{m:Ak}(h:Ls w base m)(d:b<base):Ls ((((w.setCell (AK b e) u1).setCell (AK b c) u2).setCell (AK b a) u3).setCell (AK b f) u4) base m:=⟨h.1.set4 d,h.2⟩
theorem N8.single4 {w:World}{b:Nat}{m:Ak}(h:Ls w base m)(c:b<base)(d:base<=w.heap.size):N8 (((((w.setCell ⟨b,0,none⟩ u1).setCell ⟨b,1,none⟩ u2).setCell ⟨b,2,none⟩ u3).setCell ⟨b,3,none⟩ u4).alloc (.cells #[.int .i64 m.kind, .int .i64 m.op,m.av,m.kv] 59)) base (.slice (some ⟨w.heap.size,0,none⟩) 1 1) [m]:=by
 have a:=N8.single (w:=(((w.setCell ⟨b,0,none⟩ u1).setCell ⟨b,1,none⟩ u2).setCell ⟨b,2,none⟩ u3).setCell ⟨b,3,none⟩ u4) (base:=base) (m:=m) (h.set4 c) (by simp only[World.size_setCell];exact d);simpa only[AL,World.size_setCell] using a
set_option maxHeartbeats 4000000 in
set_option maxRecDepth 100000 in
theorem j5 (x:Stil.B9)(g i:Value)(w:World)(ab:Dk w g [])(ac:Gn w i [x])(C:∀(g i:Value) (w:World),Dk w g x.one.args->Gn w i x.kids->Calls prog 88 #[.agg #[AB x.kind,AB x.one.op,g,i]] w λe j=>Rq j w.heap.size (Ap x) e/\AO w j):
  Calls prog 88 #[.agg #[AB 4,AB 0,g,i]] w λe' j=>Rq j w.heap.size (Ap ⟨4,⟨0,[]⟩,[x]⟩) e'/\AO w j:=by
 have J:Hid (Ap ⟨4,⟨0,[]⟩,[x]⟩=⟨4,⟨0,[]⟩,[Ap x]⟩):=by show _=_;rw[Jq,if_neg AQ];rfl
 obtain⟨p1,D,rfl,K⟩:=ac;obtain⟨b,o,rfl,q,r⟩:=K 0 AU;simp only[EP,FG,EO] at r;obtain⟨G,Q,aa,Y,S,L,t,R⟩:=r.open;have I:=AV (λW a=>C aa Y W (t.below a) (R.below a));obtain⟨O,P,rfl,dL⟩:=ab;obtain⟨p2,r2,rfl,M⟩:=t;obtain⟨p3,r3,rfl,lM⟩:=R;clear dL M lM;obtain⟨N,s⟩:=AA (Ap x)
 rw[<-s] at I J;clear C s r K;go_enter func88,ntmps88;go_upto_region 6 with fail
 obtain⟨W,a⟩:=AA ((w.alloc (.cells #[AB 4,AB 0,AE O 0 P,AE (some (AK b o)) 1 D] 59)).alloc (.cells #[AB 0,AB 0,AG,AG] 59))
 rw[<-a];have q0:W.cell? (AL w 0)=some (AB 4):=by rw[a];simp[go_sem]
 have q1:W.cell? (AL w 1)=some (AB 0):=by rw[a];simp[go_sem]
 have q2:W.cell? (AL w 2)=some (AE O 0 P):=by rw[a];simp[go_sem]
 have q3:W.cell? (AL w 3)=some (AE (some (AK b o)) 1 D):=by rw[a];simp[go_sem]
 have U:W.cell? (AK (w.heap.size+1) 0)=some (AB 0):=by rw[a];simp[go_sem]
 have yx:W.cell? (AK (w.heap.size+1) 1)=some (AB 0):=by rw[a];simp[go_sem]
 have yw:W.cell? (AK (w.heap.size+1) 2)=some AG:=by rw[a];simp[go_sem]
 have Z:W.cell? (AK (w.heap.size+1) 3)=some AG:=by rw[a];simp[go_sem]
 have v0:W.frozen? (AK (w.heap.size+1) 0)=false:=by rw[a];simp[go_sem]
 have v1:W.frozen? (AK (w.heap.size+1) 1)=false:=by rw[a];simp[go_sem]
 have v2:W.frozen? (AK (w.heap.size+1) 2)=false:=by rw[a];simp[go_sem]
 have v3:W.frozen? (AK (w.heap.size+1) 3)=false:=by rw[a];simp[go_sem]
 have z:W.heap.size=w.heap.size+2:=by rw[a];simp
 have d:AO w W:=by rw[a];exact Bd (Aa _ _) _
 have bH:=AV z;have k:w.heap.size<W.heap.size:=AQ
 have c:w.heap.size+1<W.heap.size:=AQ
 have G:=(d.cell (p:=(AK b o)) q).trans G;have Q:=(d.cell (p:=(AK b (o+1))) q).trans Q;have S:=(d.cell (p:=(AK b (o+2))) q).trans S;have L:=(d.cell (p:=(AK b (o+3))) q).trans L;clear a z
 go_region_law (go_simp;go_at_call 88;refine(I _ (by exact d.drew)).mono ?_;rintro e f ⟨⟨A,T,m,F,E,H,B,l,rfl,y,u⟩,ae⟩;have hb5:=((Below.refl W.heap.size W).drew).trans ae;have rQ:w.heap.size+2<=f.heap.size:=yEj;have X:w.heap.size+1<f.heap.size:=AQ;have M:w.heap.size<f.heap.size:=AQ;have aT:Hid (Ls f W.heap.size ⟨A,T,m,AE F m.length E,AE H l.length B,l⟩):=y;have aO:=AV u;clear y u;have y0:=(hb5.cell (p:=(AL w 0)) k).trans q0;have y1:=(hb5.cell (p:=(AL w 1)) k).trans q1;have y2:=(hb5.cell (p:=(AL w 2)) k).trans q2;have y3:=(hb5.cell (p:=(AL w 3)) k).trans q3;have z0:=(hb5.cell (p:=(AK (w.heap.size+1) 0)) c).trans U;have z1:=(hb5.cell (p:=(AK (w.heap.size+1) 1)) c).trans yx;have z2:=(hb5.cell (p:=(AK (w.heap.size+1) 2)) c).trans yw;have V:=(hb5.cell (p:=(AK (w.heap.size+1) 3)) c).trans Z;have f0:=(hb5.frozen (p:=(AK (w.heap.size+1) 0)) c).trans v0;have f1:=(hb5.frozen (p:=(AK (w.heap.size+1) 1)) c).trans v1;have f2:=(hb5.frozen (p:=(AK (w.heap.size+1) 2)) c).trans v2;have f3:=(hb5.frozen (p:=(AK (w.heap.size+1) 3)) c).trans v3)
 all_goals
  try go_wp2
  refine bodyPost_ret (v:=.agg #[AB 4,AB 0,AG,AE (some (AL f 0)) 1 1]) (by simp[results,results88,go_sem,z0,z1,z2,V,X]) rfl ⟨⟨4,0,[],none,0,some (AL f 0),1,[⟨A,T,m,AE F m.length E,AE H l.length B,l⟩],rfl,?_,by rw[Ak.net_eq,J.out,<-aO.out];rfl⟩,?_⟩
  ·refine Ls.le (base:=w.heap.size+2) ?_ AQ
   exact(N8.single4 (aT.le yGa) (DV _) rQ).net 4 0 [] (World.ownsRow_nil _ _ _ _) (λx _=>Py x)
  ·have vI:=d.trans (hb5.mono d.size)
   exact AW
theorem Awg (a x:Value)(hx:x∈Value.slice none 0 0::Gv []):Aside a x:=by
 rcases List.mem_cons.1 hx with rfl | hx
 ·exact(Py _).symm
 ·cases hx
set_option maxHeartbeats 4000000 in
set_option maxRecDepth 100000 in
theorem j4 (e:Stil.Elem)(i c:Value)(w:World)(q:Dk w i e.args)(F:Gn w c [])(I:e.args.length<=1048576):
  Calls prog 88 #[.agg #[AB 1,AB e.op,i,c]] w λR t=>Rq t w.heap.size (Ap ⟨1,e,[]⟩) R/\AO w t:=by
 have K:Hid (Ap ⟨1,e,[]⟩=⟨1,e,[]⟩):=by show _=_;rw[Jq,if_neg AQ];rfl
 have U:=AV (λW (h:AO w W)=>q.below h);obtain⟨g,j,rfl,T⟩:=q;obtain⟨d,o,rfl,P⟩:=F;clear T P;go_enter func88,ntmps88;go_upto_region 7 with fail
 obtain⟨W,a⟩:=AA ((w.alloc (.cells #[AB 1,AB e.op,AE g e.args.length j,AE d 0 o] 59)).alloc (.cells #[AB 0,AB 0,AG,AG] 59))
 rw[<-a];have G:W.cell? (AL w 0)=some (AB 1):=by rw[a];simp[go_sem]
 have q1:W.cell? (AL w 1)=some (AB e.op):=by rw[a];simp[go_sem]
 have V:W.cell? (AL w 2)=some (AE g e.args.length j):=by rw[a];simp[go_sem]
 have B:W.cell? (AL w 3)=some (AE d 0 o):=by rw[a];simp[go_sem]
 have M:W.cell? (AK (w.heap.size+1) 0)=some (AB 0):=by rw[a];simp[go_sem]
 have D:W.cell? (AK (w.heap.size+1) 1)=some (AB 0):=by rw[a];simp[go_sem]
 have N:W.cell? (AK (w.heap.size+1) 2)=some AG:=by rw[a];simp[go_sem]
 have O:W.cell? (AK (w.heap.size+1) 3)=some AG:=by rw[a];simp[go_sem]
 have v0:W.frozen? (AK (w.heap.size+1) 0)=false:=by rw[a];simp[go_sem]
 have u:W.frozen? (AK (w.heap.size+1) 1)=false:=by rw[a];simp[go_sem]
 have H:W.frozen? (AK (w.heap.size+1) 2)=false:=by rw[a];simp[go_sem]
 have Q:W.frozen? (AK (w.heap.size+1) 3)=false:=by rw[a];simp[go_sem]
 have s:W.heap.size=w.heap.size+2:=by rw[a];simp
 have b:AO w W:=by rw[a];exact Bd (Aa _ _) _
 have bH:=AV s;have aa:w.heap.size<W.heap.size:=AQ
 have X:w.heap.size+1<W.heap.size:=AQ
 clear a s
 go_region_law (refine Ry rfl _ _ rfl (w.heap.size+2) _ e.args rfl (by exact(World.ownsRow_lit W #[] 0 yGa A6 rfl).drew) _ _ rfl (U _ (by exact(Bd b _).drew)) I (by have:=bH.out;simp;omega) ?_;intro v5 f l E;obtain⟨m,r,z⟩:=Ah l;subst z;have hb5:=(Aa W _).drew.grown E AU (λk S=>by cases S;exact CG _);have Y:w.heap.size+2<=f.heap.size:=yEj;have y0:=(hb5.cell (p:=(AL w 0)) yBh).trans G;have Z:=(hb5.cell (p:=(AL w 1)) yBh).trans q1;have y2:=(hb5.cell (p:=(AL w 2)) yBh).trans V;have y3:=(hb5.cell (p:=(AL w 3)) yBh).trans B;have A:=(hb5.cell (p:=(AK (w.heap.size+1) 0)) BW).trans M;have J:=(hb5.cell (p:=(AK (w.heap.size+1) 1)) BW).trans D;have C:=(hb5.cell (p:=(AK (w.heap.size+1) 2)) BW).trans N;have y:=(hb5.cell (p:=(AK (w.heap.size+1) 3)) BW).trans O;have f0:=(hb5.frozen (p:=(AK (w.heap.size+1) 0)) BW).trans v0;have f1:=(hb5.frozen (p:=(AK (w.heap.size+1) 1)) BW).trans u;have f2:=(hb5.frozen (p:=(AK (w.heap.size+1) 2)) BW).trans H;have f3:=(hb5.frozen (p:=(AK (w.heap.size+1) 3)) BW).trans Q)
 all_goals
  try go_wp2
  refine bodyPost_ret (v:=.agg #[AB 1,AB e.op,AE m e.args.length r,AG]) (by simp[results,results88,go_sem,A,J,C,y]) rfl ⟨⟨1,e.op,e.args,m,r,none,0,[],rfl,?_,by rw[Ak.net_eq,K.out];rfl⟩,?_⟩
  ·refine Ls.le (base:=w.heap.size+2) ?_ AQ
   repeat (refine Ls.set ?_ BX _)
   exact(N8.nil f (w.heap.size+2)).net 1 e.op e.args l (λx L=>Awg _ x L)
  ·have vI:=b.trans (hb5.mono b.size)
   exact AW
set_option maxHeartbeats 2000000 in
set_option maxRecDepth 100000 in
theorem QT (n:Stil.B9):Dw n->Ai n=0->Af n<=1000000->∀(c a:Value) (w:World),Dk w c n.one.args->Gn w a n.kids->Calls prog 88 #[.agg #[AB n.kind,AB n.one.op,c,a]] w λe f=>Rq f w.heap.size (Ap n) e/\AO w f:=by
 induction n using Gf with
 | h k e kids u=>
  intro F O E c a w j d;obtain⟨_,M,J,y⟩:=(Lc _ _ _).1 F;obtain⟨H,A⟩:=V0 E;simp only at j d;rcases H6 O with⟨rfl,rfl⟩ | ⟨I,Y,L⟩ | ⟨rfl,rfl,x,rfl,R⟩
  ·exact j4 e c a w j d M.2.1
  ·have D:Hid (∀W,AO w W->Calls prog 126 #[AB k,a] W λX f=>Rq f W.heap.size (Ap ⟨k,e,kids⟩) X/\AO W f):=by
    intro W Q;have:=SD k kids (λx i=>u x i (y x i) (L x i) (A x i)) a W (d.below Q) J H
    rw[Jq,if_pos I];exact this
   obtain⟨p0,r0,rfl,_⟩:=j;obtain⟨p1,r1,rfl,_⟩:=d;obtain⟨N,C⟩:=AA (Ap ⟨k,e,kids⟩)
   rw[<-C] at D ⊢;clear u F M J y O E H A L Y C;rcases I with rfl | rfl
   all_goals
    go_enter func88,ntmps88
    go_wp2_with (go_at_call 126;refine(D _ AW).mono ?_;rintro e b ⟨⟨q,B,g,o,t,r,s,l,rfl,K,G⟩,z⟩;obtain⟨m,hf⟩:=Ef z;have T:Hid (Ls b _ ⟨q,B,g,AE o g.length t,AE r l.length s,l⟩):=K;have Z:=AV G;clear K G;have aa:w.heap.size<b.heap.size:=CB Ax z.size;have ab:w.heap.size+1<b.heap.size:=CB AU z.size)
    have S:b.cell? (AK (w.heap.size+1) 0)=some (AB 0):=by rw[m _ _ AU];simp[go_sem]
    have P:b.cell? (AK (w.heap.size+1) 1)=some (AB 0):=by rw[m _ _ AU];simp[go_sem]
    have U:b.cell? (AK (w.heap.size+1) 2)=some AG:=by rw[m _ _ AU];simp[go_sem]
    have V:b.cell? (AK (w.heap.size+1) 3)=some AG:=by rw[m _ _ AU];simp[go_sem]
    refine bodyPost_ret (v:=.agg #[AB q,AB B,AE o g.length t,AE r l.length s]) (by simp[results,results88,go_sem,S,P,U,V]) rfl ⟨⟨q,B,g,o,t,r,s,l,rfl,?_,Z.out⟩,AW⟩;refine Ls.le (base:=w.heap.size+2) ?_ AQ;repeat (refine Ls.set ?_ BX _)
    exact T.le AU
  ·exact j5 x c a w j d (u x AU (y x AU) R (A x AU))
