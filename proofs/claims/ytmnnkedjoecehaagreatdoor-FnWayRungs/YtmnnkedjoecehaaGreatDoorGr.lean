import Derived.Test.YtmnnkedjoecehaaGreatDoorGm
set_option linter.defProp false
set_option maxHeartbeats 4000000
set_option maxRecDepth 100000
namespace Go.Proofs.YtmnnkedjoecehaaGreatDoor
open Tryz Stil Go.RowKit Go.Sort Go.BigFrame
variable {E:Prop}{a:Act}{base base':Nat}{o:Oper}{ops:Array Oper}{rest:List Oper}{u1 u2 u3 u4 v v' x:Value}{w':World}
theorem SL (k:Int)(kids:List Stil.B8)(ih:∀x∈kids,∀(av Y:Value) (w:World),Dj w av x.one.args->Gg w Y x.kids->Calls prog 107 #[.agg #[AB x.kind,AB x.one.op,av,Y]] w λaf w'=>Si w' w.heap.size (Au x) af/\AO w w')
  (v:Value) (w:World) (au:Gg w v kids) (hl:kids.length<=1048576) (hs:Stil.sizes (kids.map Au)<=1000000):
  Calls prog 138 #[AB k,v] w λaf w'=>Si w' w.heap.size (F8 k (Ce k (kids.map Au))) af/\AO w w':=by
 obtain⟨i0,hi,ax,aC,az⟩:=info_parts P4;obtain⟨a,cap,rfl,hc⟩:=au;have HA:=AV hc;have IH:=AV ih;have HS:=AV hs;clear hc ih hs;go_enter func138,ntmps138
 go_wp2
 go_loopw [6] (λi wr=>∃(j:Nat) (e:List Ap) (I:Option Addr) (G:Nat),j<=kids.length/\i=AB j/\B4 wr w.heap.size (AB 0) (AB 0) AG AG/\B4 wr (w.heap.size+1) (AB k) (AB 0) AG (AE I e.length G)/\
   Oc wr (w.heap.size+2) (AE I e.length G) e/\e.map Ap.net=Ce k ((kids.take j).map Au)/\AO w wr) (λi _=>kids.length - (intOf i).toNat)
 case atStart=>
  refine⟨0,[],none,0,AQ,rfl,?_,?_,Oc.nil _ _,rfl,AW⟩
  ·refine⟨by simp;omega,⟨by simp[go_sem],by simp[go_sem],by simp[go_sem],by simp[go_sem]⟩,by simp[go_sem],by simp[go_sem],by simp[go_sem],by simp[go_sem]⟩
  ·refine⟨AU,⟨by simp[go_sem],by simp[go_sem],by simp[go_sem],by simp[go_sem]⟩,by simp[go_sem],by simp[go_sem],by simp[go_sem],by simp[go_sem]⟩
 case round=>
  obtain⟨j,e,I,G,hj,rfl,an,N,ar,ik,hB⟩:=hrel;have T:=AV an;have M:=AV N;have D:=AV ar;have qj:=AV ik;clear an N ar ik;by_cases ag:j<kids.length
  ·obtain⟨b,o,rfl,K,hn⟩:=HA j ag
   obtain⟨x0,x1,av,Y,x2,x3,ai,ah⟩:=(Uz.below hB _ _ _ hn K).open;have HI:=AV (λW t=>IH kids[j] (CJ ag) av Y W (ai.below t) (ah.below t));obtain⟨x,hx⟩:=AA (kids[j])
   rw[<-hx] at HI x0 x1 ai ah;have HX:=AV hx;obtain⟨p0,r0,rfl,_⟩:=ai;obtain⟨p1,r1,rfl,_⟩:=ah;clear hx hn;go_upto_region 6 with(go_at_call 107;refine(HI _ Ao).mono ?_;rintro af A ⟨⟨l,q,f,z,y,r,s,d,rfl,B,H⟩,ae⟩;have u:Hid (Lt A _ ⟨l,q,f,AE z f.length y,AE r d.length s,d⟩):=B;have aO:=AV H;clear B H)
   obtain⟨W,t⟩:=AA (A.alloc (.cells #[AB l,AB q,AE z f.length y,AE r d.length s] 59))
   rw[<-t];have al:W.heap.size=A.heap.size+1:=by rw[t];simp
   have tH:AO A W:=by rw[t];exact Aa _ _
   have n0:W.cell? (AL A 0)=some (AB l):=by rw[t];simp[go_sem]
   have n1:W.cell? (AL A 1)=some (AB q):=by rw[t];simp[go_sem]
   have n2:W.cell? (AL A 2)=some (AE z f.length y):=by rw[t];simp[go_sem]
   have n3:W.cell? (AL A 3)=some (AE r d.length s):=by rw[t];simp[go_sem]
   have ac:=ae.trans (tH.mono ae.size);have ao:=hB.trans (ac.mono hB.size);have N:=M.below ac M.1;have vk:w.heap.size+2<=W.heap.size:=by have:=N.1;omega
   have O:=AV N;have yY:=AV (T.below ac T.1);have qh:=AV (D.below ac);have U:Hid (Lt W (w.heap.size+2) ⟨l,q,f,AE z f.length y,AE r d.length s,d⟩):=((u.below tH).le (by have:=M.1;omega))
   have ab:∀ks:List Ap,(∀m∈ks,MOk A wr.heap.size m)->(Gp ks).Pairwise Aside->(Value.slice I e.length G::(Gp e++Gp ks)).Pairwise Aside:=λks Z h2=>D.apart Z (CG _) h2
   have F:=fS k kids j ag;rw[<-HX.out,<-aO.out,<-qj.out,Ap.net_eq] at F;simp only at F;have L:=fR k kids (j+1);rw[F] at L;have hS:=HS.out;obtain⟨_,⟨o0,o1,o2,o3⟩,g0,g1,g2,g3⟩:=N;by_cases Q:l=k
   ·rw[if_pos Q] at F L
    have aj:e.length+d.length<=1000000:=by
     simp only[CO,CW] at L;omega
    have R:(e++d).map Ap.net=Ce k ((kids.take (j+1)).map Au):=by rw[F,CU]
    have X:=ab d u.kids.1 u.kids.2;have HP:=AV X;have HK:Hid (∀m∈d,MOk W (w.heap.size+2) m):=U.kids.1;have dG:=AV R;have ni:Hid (0<d.length->∃p,r=some p/\∀j aa,(Jf d)[j]?=some aa->W.cell? (p.add j)=some aa):=by
     intro hz;have hr:=((Jt _ _ _).1 U.1).2.1;simp only at hr;obtain⟨g,c,V,_,_,_,J⟩:=Bg hr hz;simp only[Value.slice.injEq] at V;exact⟨(AK g 0),V.1,λj aa hu=>by rw[Addr.add_lit];simpa using J j aa hu⟩
    clear t L F R X ab hS tH u aO HI D M T U al ae;rw[Q] at n0
    go_wp2_with (at_builtin;refine U3 rfl _ _ rfl (w.heap.size+2) I G e d r s rfl rfl qh ni HK HP aj vk ?_;intro a6 c6 w6 S C;obtain⟨_,⟨_,_,_,y3⟩,_,_,_,f3⟩:=O.below C (DV _);have iU:=AV S;clear S)
    all_goals
     try go_wp2
     refine⟨⟨j+1,e++d,a6,c6,AQ,by go_num,?_,?_,?_,dG.out,?_⟩,by simp[intOf];omega⟩
     ·exact(yY.below C AQ).setO AQ _
     ·rw[CO]
      exact(O.below C (DV _)).set3 _
     ·rw[CO]
      exact iU.set (a:=(AK (w.heap.size+1) 3)) (DV _) _
     ·exact(ao.trans (C.mono AQ)).setCell AU _
   ·rw[if_neg Q] at F L
    have aj:e.length+[(Ap.mk l q f (AE z f.length y) (AE r d.length s) d)].length<=1000000:=by
     simp only[CO,CW,EF] at L ⊢;omega
    have R:(e++[Ap.mk l q f (AE z f.length y) (AE r d.length s) d]).map Ap.net=Ce k ((kids.take (j+1)).map Au):=by
     rw[F,CU,G3,Ap.net_eq]
    have X:=ab [Ap.mk l q f (AE z f.length y) (AE r d.length s) d] (λm P=>by rw[List.mem_singleton.1 P];exact u.1) (by rw[Nb];exact u.2);have HP:=AV X;have HK:Hid (∀m∈[Ap.mk l q f (AE z f.length y) (AE r d.length s) d],MOk W (w.heap.size+2) m):=λm P=>by rw[List.mem_singleton.1 P];exact U.1
    have dG:=AV R;have aw:(l==k)=false:=by rw[CS];exact Q
    clear t L F R X ab hS tH u aO HI D M T U al ae Q
    go_wp2_with (at_builtin;refine U3 rfl _ _ rfl (w.heap.size+2) I G e [Ap.mk l q f (AE z f.length y) (AE r d.length s) d] (some (AL W 0)) 1 rfl rfl (qh.below (Aa _ _)) (λ_=>⟨_,rfl,by exact cells4⟩) (λm P=>(HK m P).below (Aa _ _)) HP aj Bn ?_;intro a6 c6 w6 S C;obtain⟨_,⟨_,_,_,y3⟩,_,_,_,f3⟩:=(O.below (Aa _ _) O.1).below C (DV _);have iU:Hid (Oc w6 (w.heap.size+2) (AE a6 (e.length+1) c6) (e++[Ap.mk l q f (AE z f.length y) (AE r d.length s) d])):=S;clear S)
    all_goals
     try go_wp2
     refine⟨⟨j+1,e++[Ap.mk l q f (AE z f.length y) (AE r d.length s) d],a6,c6,AQ,by go_num,?_,?_,?_,dG.out,?_⟩,by simp[intOf];omega⟩
     ·exact((yY.below (Aa _ _) yY.1).below C AQ).setO AQ _
     ·rw[CO]
      exact((O.below (Aa _ _) O.1).below C (DV _)).set3 _
     ·rw[CO]
      exact iU.set (a:=(AK (w.heap.size+1) 3)) (DV _) _
     ·exact((Bi ao _).trans (C.mono AQ)).setCell AU _
  ·obtain rfl:j=kids.length:=by omega
   have H:=qj.out;rw[IV] at H;obtain⟨_,⟨z0,z1,z2,z3⟩,e0,e1,e2,e3⟩:=T.out;obtain⟨_,⟨o0,o1,o2,o3⟩,_⟩:=M.out;by_cases Z:e.length=1
   ·obtain⟨m,rfl⟩:=List.length_eq_one_iff.1 Z
    have B:=D.one 0 AU;simp only[EO] at B;obtain⟨g,c,V,_,aB,_,J⟩:=Bg D.1 AU;obtain⟨a1,a2,a3,a4⟩:=Ph [m] 0 AU;have y0:=J _ _ a1;have y1:=J _ _ a2;have y2:=J _ _ a3;have y3:=J _ _ a4;simp only[EO,FQ,CV] at y0 y1 y2 y3;have ak:=(Jt _ _ _).1 B.1;obtain⟨d1,d2,hd⟩:=Af ak.1;obtain⟨d3,d4,ap⟩:=Af ak.2.1;simp only[Value.slice.injEq] at V;obtain⟨rfl,_,rfl⟩:=V;have K:F8 k (Ce k (kids.map Au))=m.net:=by rw[<-H];rfl
    have iE:=AV K;obtain⟨l,q,f,aA,aD,d⟩:=m;simp only at hd ap y0 y1 y2 y3;subst hd;subst ap;have u:=AV B;clear B ak H K J D;simp only[EF] at o3
    go_wp2
    refine bodyPost_ret (v:=.agg #[AB l,AB q,AE d1 f.length d2,AE d3 d.length d4]) (by simp[results,results138,go_sem,z0,z1,z2,z3]) rfl ⟨⟨l,q,f,d1,d2,d3,d4,d,rfl,?_,iE.symm⟩,AW⟩;refine Lt.le (base:=w.heap.size+2) ?_ AQ;repeat (refine Lt.set ?_ BZ _)
    exact u.out
   ·have K:F8 k (Ce k (kids.map Au))=⟨k,⟨0,[]⟩,e.map Ap.net⟩:=by
     rw[<-H];unfold F8;rw[dif_neg (by simpa using Z)]
    have iE:=AV K;have B:=D.net k 0 [] (World.ownsRow_nil _ _ _ _) (λx _=>P9 x);have u:=AV B;have ay:((e.length:Int)==1)=false:=by rw[CS];omega
    have l7:¬((e.length:Int)=1):=AQ
    clear B H K D
    go_wp2
    refine bodyPost_ret (v:=.agg #[AB k,AB 0,AG,AE I e.length G]) (by simp[results,results138,go_sem,z0,z1,z2,z3]) rfl ⟨⟨k,0,[],none,0,I,G,e,rfl,?_,by rw[Ap.net_eq,iE.out]⟩,AW⟩;refine Lt.le (base:=w.heap.size+2) ?_ AQ;repeat (refine Lt.set ?_ BZ _)
    exact u.out
def Lt.set4 {w:World}{b g e f d:Nat}{m:Ap}(h:Lt w base m)(c:b<base):Lt ((((w.setCell (AK b g) u1).setCell (AK b e) u2).setCell (AK b f) u3).setCell (AK b d) u4) base m:=⟨h.1.set4 c,h.2⟩
theorem Oc.single4 {w:World}{b:Nat}{m:Ap}(h:Lt w base m)(d:b<base)(e:base<=w.heap.size):Oc (((((w.setCell ⟨b,0,none⟩ u1).setCell ⟨b,1,none⟩ u2).setCell ⟨b,2,none⟩ u3).setCell ⟨b,3,none⟩ u4).alloc (.cells #[.int .i64 m.kind, .int .i64 m.op,m.av,m.kv] 59)) base (.slice (some ⟨w.heap.size,0,none⟩) 1 1) [m]:=by
 have c:=Oc.single (w:=(((w.setCell ⟨b,0,none⟩ u1).setCell ⟨b,1,none⟩ u2).setCell ⟨b,2,none⟩ u3).setCell ⟨b,3,none⟩ u4) (base:=base) (m:=m) (h.set4 d) (by simp only[World.size_setCell];exact e);simpa only[AL,World.size_setCell] using c
theorem j5 (x:Stil.B8)(j i:Value)(w:World)(af:Dj w j [])(X:Gg w i [x])(O:∀(j i:Value) (w:World),Dj w j x.one.args->Gg w i x.kids->Calls prog 107 #[.agg #[AB x.kind,AB x.one.op,j,i]] w λe w'=>Si w' w.heap.size (Au x) e/\AO w w'):
  Calls prog 107 #[.agg #[AB 4,AB 0,j,i]] w λe' w'=>Si w' w.heap.size (Au ⟨4,⟨0,[]⟩,[x]⟩) e'/\AO w w':=by
 have G:Hid (Au ⟨4,⟨0,[]⟩,[x]⟩=⟨4,⟨0,[]⟩,[Au x]⟩):=by show _=_;rw[Jj,if_neg AQ];rfl
 obtain⟨p1,H,rfl,y⟩:=X;obtain⟨b,o,rfl,l,r⟩:=y 0 AU;simp only[EO,FQ,ER] at r;obtain⟨U,t,ab,y8,A,S,R,K⟩:=r.open;have L:=AV (λW c=>O ab y8 W (R.below c) (K.below c));obtain⟨F,z,rfl,dL⟩:=af;obtain⟨p2,r2,rfl,D⟩:=R;obtain⟨p3,r3,rfl,lU⟩:=K;clear dL D lU;obtain⟨N,J⟩:=AA (Au x)
 rw[<-J] at L G;clear O J r y;go_enter func107,ntmps107;go_upto_region 6 with fail
 obtain⟨W,c⟩:=AA ((w.alloc (.cells #[AB 4,AB 0,AE F 0 z,AE (some (AK b o)) 1 H] 59)).alloc (.cells #[AB 0,AB 0,AG,AG] 59))
 rw[<-c];have q0:W.cell? (AL w 0)=some (AB 4):=by rw[c];simp[go_sem]
 have q1:W.cell? (AL w 1)=some (AB 0):=by rw[c];simp[go_sem]
 have Z:W.cell? (AL w 2)=some (AE F 0 z):=by rw[c];simp[go_sem]
 have q3:W.cell? (AL w 3)=some (AE (some (AK b o)) 1 H):=by rw[c];simp[go_sem]
 have ae:W.cell? (AK (w.heap.size+1) 0)=some (AB 0):=by rw[c];simp[go_sem]
 have ac:W.cell? (AK (w.heap.size+1) 1)=some (AB 0):=by rw[c];simp[go_sem]
 have Y:W.cell? (AK (w.heap.size+1) 2)=some AG:=by rw[c];simp[go_sem]
 have aa:W.cell? (AK (w.heap.size+1) 3)=some AG:=by rw[c];simp[go_sem]
 have v0:W.frozen? (AK (w.heap.size+1) 0)=false:=by rw[c];simp[go_sem]
 have V:W.frozen? (AK (w.heap.size+1) 1)=false:=by rw[c];simp[go_sem]
 have v2:W.frozen? (AK (w.heap.size+1) 2)=false:=by rw[c];simp[go_sem]
 have v3:W.frozen? (AK (w.heap.size+1) 3)=false:=by rw[c];simp[go_sem]
 have u:W.heap.size=w.heap.size+2:=by rw[c];simp
 have f:AO w W:=by rw[c];exact Bi (Aa _ _) _
 have bG:=AV u;have m:w.heap.size<W.heap.size:=AQ
 have d:w.heap.size+1<W.heap.size:=AQ
 have U:=(f.cell (p:=(AK b o)) l).trans U;have t:=(f.cell (p:=(AK b (o+1))) l).trans t;have A:=(f.cell (p:=(AK b (o+2))) l).trans A;have S:=(f.cell (p:=(AK b (o+3))) l).trans S;clear c u
 go_region_law (go_simp;go_at_call 107;refine(L _ (by exact f.drew)).mono ?_;rintro e g ⟨⟨T,B,k,M,I,P,s,q,rfl,C,Q⟩,ag⟩;have hb5:=((Below.refl W.heap.size W).drew).trans ag;have rQ:w.heap.size+2<=g.heap.size:=yEi;have oW:w.heap.size+1<g.heap.size:=AQ;have D:w.heap.size<g.heap.size:=AQ;have aT:Hid (Lt g W.heap.size ⟨T,B,k,AE M k.length I,AE P q.length s,q⟩):=C;have aO:=AV Q;clear C Q;have y0:=(hb5.cell (p:=(AL w 0)) m).trans q0;have y1:=(hb5.cell (p:=(AL w 1)) m).trans q1;have y2:=(hb5.cell (p:=(AL w 2)) m).trans Z;have y3:=(hb5.cell (p:=(AL w 3)) m).trans q3;have z0:=(hb5.cell (p:=(AK (w.heap.size+1) 0)) d).trans ae;have z1:=(hb5.cell (p:=(AK (w.heap.size+1) 1)) d).trans ac;have z2:=(hb5.cell (p:=(AK (w.heap.size+1) 2)) d).trans Y;have z3:=(hb5.cell (p:=(AK (w.heap.size+1) 3)) d).trans aa;have f0:=(hb5.frozen (p:=(AK (w.heap.size+1) 0)) d).trans v0;have f1:=(hb5.frozen (p:=(AK (w.heap.size+1) 1)) d).trans V;have f2:=(hb5.frozen (p:=(AK (w.heap.size+1) 2)) d).trans v2;have f3:=(hb5.frozen (p:=(AK (w.heap.size+1) 3)) d).trans v3)
 all_goals
  try go_wp2
  refine bodyPost_ret (v:=.agg #[AB 4,AB 0,AG,AE (some (AL g 0)) 1 1]) (by simp[results,results107,go_sem,z0,z1,z2,z3,oW]) rfl ⟨⟨4,0,[],none,0,some (AL g 0),1,[⟨T,B,k,AE M k.length I,AE P q.length s,q⟩],rfl,?_,by rw[Ap.net_eq,G.out,<-aO.out];rfl⟩,?_⟩
  ·refine Lt.le (base:=w.heap.size+2) ?_ AQ
   exact(Oc.single4 (aT.le yGa) (DV _) rQ).net 4 0 [] (World.ownsRow_nil _ _ _ _) (λx _=>P9 x)
  ·have vO:=f.trans (hb5.mono f.size)
   exact AW
theorem Awt (b x:Value)(hx:x∈Value.slice none 0 0::Gp []):Aside b x:=by
 rcases List.mem_cons.1 hx with rfl | hx
 ·exact(P9 _).symm
 ·cases hx
theorem j4 (e:Stil.Elem)(i d:Value)(w:World)(g:Dj w i e.args)(D:Gg w d [])(y:e.args.length<=1048576):
  Calls prog 107 #[.agg #[AB 1,AB e.op,i,d]] w λX w'=>Si w' w.heap.size (Au ⟨1,e,[]⟩) X/\AO w w':=by
 have V:Hid (Au ⟨1,e,[]⟩=⟨1,e,[]⟩):=by show _=_;rw[Jj,if_neg AQ];rfl
 have Q:=AV (λW (h:AO w W)=>g.below h);obtain⟨q,t,rfl,P⟩:=g;obtain⟨u,j,rfl,U⟩:=D;clear P U;go_enter func107,ntmps107;go_upto_region 7 with fail
 obtain⟨W,b⟩:=AA ((w.alloc (.cells #[AB 1,AB e.op,AE q e.args.length t,AE u 0 j] 59)).alloc (.cells #[AB 0,AB 0,AG,AG] 59))
 rw[<-b];have A:W.cell? (AL w 0)=some (AB 1):=by rw[b];simp[go_sem]
 have q1:W.cell? (AL w 1)=some (AB e.op):=by rw[b];simp[go_sem]
 have S:W.cell? (AL w 2)=some (AE q e.args.length t):=by rw[b];simp[go_sem]
 have T:W.cell? (AL w 3)=some (AE u 0 j):=by rw[b];simp[go_sem]
 have F:W.cell? (AK (w.heap.size+1) 0)=some (AB 0):=by rw[b];simp[go_sem]
 have z:W.cell? (AK (w.heap.size+1) 1)=some (AB 0):=by rw[b];simp[go_sem]
 have C:W.cell? (AK (w.heap.size+1) 2)=some AG:=by rw[b];simp[go_sem]
 have Y:W.cell? (AK (w.heap.size+1) 3)=some AG:=by rw[b];simp[go_sem]
 have v0:W.frozen? (AK (w.heap.size+1) 0)=false:=by rw[b];simp[go_sem]
 have B:W.frozen? (AK (w.heap.size+1) 1)=false:=by rw[b];simp[go_sem]
 have G:W.frozen? (AK (w.heap.size+1) 2)=false:=by rw[b];simp[go_sem]
 have N:W.frozen? (AK (w.heap.size+1) 3)=false:=by rw[b];simp[go_sem]
 have m:W.heap.size=w.heap.size+2:=by rw[b];simp
 have c:AO w W:=by rw[b];exact Bi (Aa _ _) _
 have bG:=AV m;have aa:w.heap.size<W.heap.size:=AQ
 have Z:w.heap.size+1<W.heap.size:=AQ
 clear b m
 go_region_law (refine Su rfl _ _ rfl (w.heap.size+2) _ e.args rfl (by exact(World.ownsRow_lit W #[] 0 yGa A6 rfl).drew) _ _ rfl (Q _ (by exact(Bi c _).drew)) y (by have:=bG.out;simp;omega) ?_;intro v5 s r J;obtain⟨f,l,O⟩:=Af r;subst O;have hb5:=(Aa W _).drew.grown J AU (λk H=>by cases H;exact CG _);have rQ:w.heap.size+2<=s.heap.size:=yEi;have y0:=(hb5.cell (p:=(AL w 0)) yBg).trans A;have y1:=(hb5.cell (p:=(AL w 1)) yBg).trans q1;have y2:=(hb5.cell (p:=(AL w 2)) yBg).trans S;have y3:=(hb5.cell (p:=(AL w 3)) yBg).trans T;have I:=(hb5.cell (p:=(AK (w.heap.size+1) 0)) BX).trans F;have L:=(hb5.cell (p:=(AK (w.heap.size+1) 1)) BX).trans z;have M:=(hb5.cell (p:=(AK (w.heap.size+1) 2)) BX).trans C;have K:=(hb5.cell (p:=(AK (w.heap.size+1) 3)) BX).trans Y;have f0:=(hb5.frozen (p:=(AK (w.heap.size+1) 0)) BX).trans v0;have f1:=(hb5.frozen (p:=(AK (w.heap.size+1) 1)) BX).trans B;have f2:=(hb5.frozen (p:=(AK (w.heap.size+1) 2)) BX).trans G;have f3:=(hb5.frozen (p:=(AK (w.heap.size+1) 3)) BX).trans N)
 all_goals
  try go_wp2
  refine bodyPost_ret (v:=.agg #[AB 1,AB e.op,AE f e.args.length l,AG]) (by simp[results,results107,go_sem,I,L,M,K]) rfl ⟨⟨1,e.op,e.args,f,l,none,0,[],rfl,?_,by rw[Ap.net_eq,V.out];rfl⟩,?_⟩
  ·refine Lt.le (base:=w.heap.size+2) ?_ AQ
   repeat (refine Lt.set ?_ BZ _)
   exact(Oc.nil s (w.heap.size+2)).net 1 e.op e.args r (λx R=>Awt _ x R)
  ·have vO:=c.trans (hb5.mono c.size)
   exact AW
theorem QU (n:Stil.B8):Dz n->Aj n=0->Ai n<=1000000->∀(d b:Value) (w:World),Dj w d n.one.args->Gg w b n.kids->Calls prog 107 #[.agg #[AB n.kind,AB n.one.op,d,b]] w λe w'=>Si w' w.heap.size (Au n) e/\AO w w':=by
 induction n using Fp with
 | h k e kids s=>
  intro K M F d b w g f;obtain⟨_,G,Q,t⟩:=(Lc _ _ _).1 K;obtain⟨O,A⟩:=XJ F;simp only at g f;rcases F5 M with⟨rfl,rfl⟩ | ⟨L,X,H⟩ | ⟨rfl,rfl,x,rfl,Y⟩
  ·exact j4 e d b w g f G.2.1
  ·have J:Hid (∀W,AO w W->Calls prog 138 #[AB k,b] W λe' w'=>Si w' W.heap.size (Au ⟨k,e,kids⟩) e'/\AO W w'):=by
    intro W U;have:=SL k kids (λx l=>s x l (t x l) (H x l) (A x l)) b W (f.below U) Q O
    rw[Jj,if_pos L];exact this
   obtain⟨p0,r0,rfl,_⟩:=g;obtain⟨p1,r1,rfl,_⟩:=f;obtain⟨N,I⟩:=AA (Au ⟨k,e,kids⟩)
   rw[<-I] at J ⊢;clear s K G Q t M F O A H X I;rcases L with rfl | rfl
   all_goals
    go_enter func107,ntmps107
    go_wp2_with (go_at_call 138;refine(J _ AW).mono ?_;rintro e c ⟨⟨z,C,m,u,r,B,q,i,rfl,D,P⟩,y⟩;obtain⟨j,hf⟩:=En y;have S:Hid (Lt c _ ⟨z,C,m,AE u m.length r,AE B i.length q,i⟩):=D;have aO:=AV P;clear D P;have ab:w.heap.size<c.heap.size:=CB Ax y.size;have aa:w.heap.size+1<c.heap.size:=CB AU y.size)
    have Z:c.cell? (AK (w.heap.size+1) 0)=some (AB 0):=by rw[j _ _ AU];simp[go_sem]
    have V:c.cell? (AK (w.heap.size+1) 1)=some (AB 0):=by rw[j _ _ AU];simp[go_sem]
    have R:c.cell? (AK (w.heap.size+1) 2)=some AG:=by rw[j _ _ AU];simp[go_sem]
    have T:c.cell? (AK (w.heap.size+1) 3)=some AG:=by rw[j _ _ AU];simp[go_sem]
    refine bodyPost_ret (v:=.agg #[AB z,AB C,AE u m.length r,AE B i.length q]) (by simp[results,results107,go_sem,Z,V,R,T]) rfl ⟨⟨z,C,m,u,r,B,q,i,rfl,?_,aO.out⟩,AW⟩;refine Lt.le (base:=w.heap.size+2) ?_ AQ;repeat (refine Lt.set ?_ BZ _)
    exact S.le AU
  ·exact j5 x d b w g f (s x AU (t x AU) Y (A x AU))
structure Eo where
 op:Int
 ds:List Stil.CC
 av:Value
def Eo.elem (m:Eo):Stil.Elem:=⟨m.op,m.ds⟩
def Gv (es:List Eo):List Value:=es.map Eo.av
def Eo.cells (m:Eo):List Value:=[AB m.op,m.av]
def I8 (es:List Eo):List Value:=es.flatMap Eo.cells
def rp (a b:List Eo):I8 (a++b)=I8 a++I8 b:=by simp[I8]
def Y1 (a b:List Eo):Gv (a++b)=Gv a++Gv b:=by simp[Gv]
def P6 {es:List Eo}:x∈Gv es↔∃m∈es,m.av=x:=by simp[Gv]
def XU (es:List Eo):(I8 es).length=es.length*2:=by
 induction es with
 | nil=>rfl
 | cons m r b=>
  have e:I8 (m::r)=m.cells++I8 r:=rfl;rw[e,CO,b];simp[Eo.cells];omega
theorem OO:∀(b:List Eo) (i:Nat) (h:i<b.length),(I8 b)[i*2]?=some (AB b[i].op)/\(I8 b)[i*2+1]?=some b[i].av
 | [],_,h=>by simp at h
 | m::r,0,_=>⟨rfl,rfl⟩
 | m::r,i+1,h=>by
  obtain⟨f,c⟩:=OO r i BV;have e:I8 (m::r)=AB m.op::m.av::I8 r:=rfl;have d:(i+1)*2=i*2+1+1:=AQ
  rw[e,d];exact⟨by simpa using f,by simpa using c⟩
def EOk (w:World)(base:Nat)(m:Eo):Prop:=w.ownsRow base 111 3 m.av m.ds.length (Ar m.ds)
def Vy (w:World)(base:Nat)(v:Value)(es:List Eo):Prop:=w.ownsRow base 46 2 v es.length (I8 es)/\(∀m∈es,EOk w base m)/\(v::Gv es).Pairwise Aside
theorem Vy.nil (w:World)(base:Nat):Vy w base AG []:=⟨World.ownsRow_nil _ _ _ _,(λm b=>by cases b),G2 _ _⟩
def Vy.below {w:World}{es:List Eo}(h:Vy w base v es)(b:AO w w'):Vy w' base v es:=⟨ownsRow_below h.1 b,λm c=>ownsRow_below (h.2.1 m c) b,h.2.2⟩
def Vy.le {w:World}{es:List Eo}(h:Vy w base v es)(hl:base'<=base):Vy w base' v es:=⟨Joins.ownsRow_le h.1 hl,λm b=>Joins.ownsRow_le (h.2.1 m b) hl,h.2.2⟩
theorem Vy.lt {w:World}{es:List Eo}(h:Vy w base v es):∀x∈v::Gv es,∀k,x.ownBlock=some k->base<=k/\k<w.heap.size:=by
 intro x b k c;rcases List.mem_cons.1 b with rfl | b
 ·exact h.1.lt k c
 ·obtain⟨m,d,rfl⟩:=P6.1 b
  exact(h.2.1 m d).lt k c
theorem Vy.add {w:World}{es ks:List Eo}(h:Vy w base v es)(g:∀m∈ks,EOk w base m)(d:(v::(Gv es++Gv ks)).Pairwise Aside)
  (q:w'.ownsRow base 46 2 v' (es.length+ks.length) (I8 es++I8 ks)) (hg:w.grownBy w' v.ownBlock) (n:v'.ownBlock=v.ownBlock\/v'.ownBlock=some w.heap.size):Vy w' base v' (es++ks):=by
 rw[DX] at d;have l:∀x∈Gv es++Gv ks,∀k,x.ownBlock=some k->k<w.heap.size:=by
  intro x c k i;rcases List.mem_append.1 c with c | c
  ·exact(h.lt x (CN _ c) k i).2
  ·obtain⟨m,b,rfl⟩:=P6.1 c
   exact((g m b).lt k i).2
 refine⟨by rw[CO,rp];exact q,λm b=>?_,?_⟩
 ·rcases List.mem_append.1 b with b | b
  ·exact(h.2.1 m b).kept hg (d.1 _ (E0 _ (P6.2 ⟨m,b,rfl⟩))).symm
  ·exact(g m b).kept hg (d.1 _ (Da _ (P6.2 ⟨m,b,rfl⟩))).symm
 ·rw[Y1,DX]
  refine⟨λy f=>?_,d.2⟩;rcases n with e | e
  ·rcases d.1 y f with h0 | h0
   ·exact .inl Br
   ·exact .inr Br
  ·refine .inr (λj=>?_)
   rw[e] at j;have:=l y f _ j.symm
   omega
structure Bz where
 net:Ap
 cv:Value
 coils:List Eo
 kv:Value
 kids:List Bz
theorem KO (P:Bz->Prop)(h:∀n c d b kids,(∀x∈kids,P x)->P ⟨n,c,d,b,kids⟩):∀n,P n
 | ⟨n,c,d,b,kids⟩=>h n c d b kids (λx _=>KO P h x)
def Bz.arm:Bz->Stil.B9
 | ⟨n,_,b,_,kids⟩=>⟨n.net,b.map Eo.elem,kids.map Bz.arm⟩
def Bz.arm_eq (m:Bz):m.arm=⟨m.net.net,m.coils.map Eo.elem,m.kids.map Bz.arm⟩:=by obtain⟨n,cv,b,kv,kids⟩:=m;rw[Bz.arm]
def Bz.vals:Bz->List Value
 | ⟨n,cv,b,kv,kids⟩=>n.vals++((cv::Gv b)++(kv::(kids.map Bz.vals).flatten))
def Iq (b:List Bz):List Value:=(b.map Bz.vals).flatten
def Bz.vals_eq (m:Bz):m.vals=m.net.vals++((m.cv::Gv m.coils)++(m.kv::Iq m.kids)):=by obtain⟨n,cv,b,kv,kids⟩:=m;rw[Bz.vals];rfl
def Zb (a b:List Bz):Iq (a++b)=Iq a++Iq b:=by simp[Iq]
def Rz (m:Bz):Iq [m]=m.vals:=by simp[Iq]
def Oi {d:List Bz}:x∈Iq d↔∃m∈d,x∈m.vals:=by
 simp only[Iq,List.mem_flatten,oc];constructor
 ·rintro⟨_,⟨m,b,rfl⟩,c⟩;exact⟨m,b,c⟩
 ·rintro⟨m,b,c⟩;exact⟨_,⟨m,b,rfl⟩,c⟩
def Bz.cells (m:Bz):List Value:=[AB m.net.kind,AB m.net.op,m.net.av,m.net.kv,m.cv,m.kv]
def Jg (b:List Bz):List Value:=b.flatMap Bz.cells
def sH (a b:List Bz):Jg (a++b)=Jg a++Jg b:=by simp[Jg]
def XA (b:List Bz):(Jg b).length=b.length*6:=by
 induction b with
 | nil=>rfl
 | cons m r c=>
  have e:Jg (m::r)=m.cells++Jg r:=rfl;rw[e,CO,c];simp[Bz.cells];omega
theorem Wx:∀(b:List Bz) (i:Nat) (h:i<b.length),(Jg b)[i*6]?=some (AB b[i].net.kind)/\(Jg b)[i*6+1]?=some (AB b[i].net.op)/\(Jg b)[i*6+2]?=some b[i].net.av/\(Jg b)[i*6+3]?=some b[i].net.kv/\(Jg b)[i*6+4]?=some b[i].cv/\(Jg b)[i*6+5]?=some b[i].kv
 | [],_,h=>by simp at h
 | m::r,0,_=>⟨rfl,rfl,rfl,rfl,rfl,rfl⟩
 | m::r,i+1,h=>by
  obtain⟨l,d,c,j,f,k⟩:=Wx r i BV;have e:Jg (m::r)=AB m.net.kind::AB m.net.op::m.net.av::m.net.kv::m.cv::m.kv::Jg r:=rfl;have g:(i+1)*6=i*6+1+1+1+1+1+1:=AQ
  rw[e,g];exact⟨by simpa using l,by simpa using d,by simpa using c,by simpa using j,by simpa using f,by simpa using k⟩
def AOk (w:World)(base:Nat):Bz->Prop
 | ⟨n,d,b,c,kids⟩=>MOk w base n/\(w.ownsRow base 46 2 d b.length (I8 b)/\∀m∈b,EOk w base m)/\w.ownsRow base 62 6 c kids.length (Jg kids)/\∀p∈kids.map (AOk w base),p
def Ji (w:World)(base:Nat)(m:Bz):AOk w base m↔MOk w base m.net/\(w.ownsRow base 46 2 m.cv m.coils.length (I8 m.coils)/\∀x∈m.coils,EOk w base x)/\w.ownsRow base 62 6 m.kv m.kids.length (Jg m.kids)/\∀x∈m.kids,AOk w base x:=by
 obtain⟨n,c,d,b,kids⟩:=m;rw[AOk,Stil.all_map]
theorem AOk.map {w:World}(m:Bz)(h:AOk w base m)(c:∀(e:TypeId) (s n:Nat) (v:Value) (b:List Value),v∈m.vals->w.ownsRow base e s v n b->w'.ownsRow base' e s v n b):AOk w' base' m:=by
 revert h c
 refine KO (λm=>AOk w base m->(∀(e:TypeId) (s n:Nat) (v:Value) (b:List Value),v∈m.vals->w.ownsRow base e s v n b->w'.ownsRow base' e s v n b)->AOk w' base' m) ?_ m;intro n y u t kids q h c;rw[Ji] at h ⊢;simp only[Bz.vals_eq] at c;obtain⟨j,⟨g,l⟩,r,i⟩:=h;refine⟨MOk.map n j (λe s k v b f=>c e s k v b (E0 _ f)),⟨c _ _ _ _ _ AU g,λx d=>c _ _ _ _ _ ?_ (l x d)⟩,c _ _ _ _ _ AU r,λx d=>q x d (i x d) (λe s k v b f=>c e s k v b ?_)⟩
 ·exact Da _ (E0 _ (CN _ (P6.2 ⟨x,d,rfl⟩)))
 ·exact Da _ (Da _ (CN _ (Oi.2 ⟨x,d,f⟩)))
def AOk.below {w:World}{m:Bz}(h:AOk w base m)(c:AO w w'):AOk w' base m:=AOk.map m h (λ_ _ _ _ _ _ b=>ownsRow_below b c)
def AOk.kept {w:World}{m:Bz}(h:AOk w base m)(hg:w.grownBy w' x.ownBlock)(c:∀u∈m.vals,Aside u x):AOk w' base m:=AOk.map m h (λ_ _ _ _ _ b d=>d.kept hg (c _ b))
def AOk.le {w:World}{m:Bz}(h:AOk w base m)(hl:base'<=base):AOk w base' m:=AOk.map m h (λ_ _ _ _ _ _ b=>Joins.ownsRow_le b hl)
theorem AOk.lt {w:World}(m:Bz)(h:AOk w base m):∀x∈m.vals,∀k,x.ownBlock=some k->base<=k/\k<w.heap.size:=by
 revert h
 refine KO (λm=>AOk w base m->∀x∈m.vals,∀k,x.ownBlock=some k->base<=k/\k<w.heap.size) ?_ m;intro n s r q kids l h x b j c;rw[Ji] at h;obtain⟨g,⟨e,i⟩,p,f⟩:=h;rw[Bz.vals_eq] at b;simp only[EN,C7] at b;rcases b with b | (rfl | b) | rfl | b
 ·exact g.lt _ x b j c
 ·exact e.lt j c
 ·obtain⟨y,d,rfl⟩:=P6.1 b
  exact(i y d).lt j c
 ·exact p.lt j c
 ·obtain⟨y,d,b⟩:=Oi.1 b
  exact l y d (f y d) x b j c
def Lu (w:World)(base:Nat)(m:Bz):Prop:=AOk w base m/\m.vals.Pairwise Aside
def Lu.below {w:World}{m:Bz}(h:Lu w base m)(b:AO w w'):Lu w' base m:=⟨h.1.below b,h.2⟩
def Lu.le {w:World}{m:Bz}(h:Lu w base m)(hl:base'<=base):Lu w base' m:=⟨h.1.le hl,h.2⟩
def Tj (w:World)(base:Nat)(v:Value)(b:List Bz):Prop:=w.ownsRow base 62 6 v b.length (Jg b)/\(∀m∈b,AOk w base m)/\(v::Iq b).Pairwise Aside
theorem Tj.nil (w:World)(base:Nat):Tj w base AG []:=⟨World.ownsRow_nil _ _ _ _,(λm b=>by cases b),G2 _ _⟩
def Tj.below {w:World}{b:List Bz}(h:Tj w base v b)(c:AO w w'):Tj w' base v b:=⟨ownsRow_below h.1 c,λm d=>(h.2.1 m d).below c,h.2.2⟩
def Tj.le {w:World}{b:List Bz}(h:Tj w base v b)(hl:base'<=base):Tj w base' v b:=⟨Joins.ownsRow_le h.1 hl,λm c=>(h.2.1 m c).le hl,h.2.2⟩
theorem Tj.lt {w:World}{d:List Bz}(h:Tj w base v d):∀x∈v::Iq d,∀k,x.ownBlock=some k->base<=k/\k<w.heap.size:=by
 intro x b k c;rcases List.mem_cons.1 b with rfl | b
 ·exact h.1.lt k c
 ·obtain⟨m,e,b⟩:=Oi.1 b
  exact(h.2.1 m e).lt m x b k c
theorem Tj.add {w:World}{d ks:List Bz}(h:Tj w base v d)(i:∀m∈ks,AOk w base m)(f:(v::(Iq d++Iq ks)).Pairwise Aside)
  (r:w'.ownsRow base 62 6 v' (d.length+ks.length) (Jg d++Jg ks)) (hg:w.grownBy w' v.ownBlock) (q:v'.ownBlock=v.ownBlock\/v'.ownBlock=some w.heap.size):Tj w' base v' (d++ks):=by
 rw[DX] at f;have n:∀x∈Iq d++Iq ks,∀k,x.ownBlock=some k->k<w.heap.size:=by
  intro x c k j;rcases List.mem_append.1 c with c | c
  ·exact(h.lt x (CN _ c) k j).2
  ·obtain⟨m,b,c⟩:=Oi.1 c
   exact((i m b).lt m x c k j).2
 refine⟨by rw[CO,sH];exact r,λm b=>?_,?_⟩
 ·rcases List.mem_append.1 b with b | b
  ·exact(h.2.1 m b).kept hg (λu hu=>(f.1 u (E0 _ (Oi.2 ⟨m,b,hu⟩))).symm)
  ·exact(i m b).kept hg (λu hu=>(f.1 u (Da _ (Oi.2 ⟨m,b,hu⟩))).symm)
 ·rw[Zb,DX]
  refine⟨λy g=>?_,f.2⟩;rcases q with e | e
  ·rcases f.1 y g with h0 | h0
   ·exact .inl Br
   ·exact .inr Br
  ·refine .inr (λl=>?_)
   rw[e] at l;have:=n y g _ l.symm
   omega
theorem Tj.apart {w w1:World}{f ks:List Bz}{b1:Nat}(h:Tj w base v f)(q:∀m∈ks,AOk w1 b1 m)(i:w.heap.size<=b1)(n:(Iq ks).Pairwise Aside):(v::(Iq f++Iq ks)).Pairwise Aside:=by
 have g:=h.lt;have c:∀y∈Iq ks,∀k,y.ownBlock=some k->w.heap.size<=k:=by
  intro y c k d;obtain⟨m,j,c⟩:=Oi.1 c;exact CM i ((q m j).lt m y c k d).1
 have e:=h.2.2;rw[DX] at e ⊢;refine⟨λy b=>?_,List.pairwise_append.2 ⟨e.2,n,λx l y b=>He (λk d=>(g x (CN _ l) k d).2) (c y b)⟩⟩;rcases List.mem_append.1 b with b | b
 ·exact e.1 y b
 ·exact He (λk d=>(g v AU k d).2) (c y b)
def K0 (w:World)(base:Nat)(a:Stil.B9)(e:Ending):Prop:=∃(k op:Int) (b:List Stil.CC) (n:Option Addr) (h:Nat) (ns:List Ap) (g:Option Addr) (i:Nat) (d:List Eo) (f:Option Addr) (j:Nat) (c:List Bz) (l:Option Addr) (m:Nat),e=.returned (.agg #[AB k,AB op,AE n b.length h,AE g ns.length i,AE f d.length j,AE l c.length m])/\Lu w base ⟨⟨k,op,b,AE n b.length h,AE g ns.length i,ns⟩,AE f d.length j,d,AE l c.length m,c⟩/\(Bz.mk ⟨k,op,b,AE n b.length h,AE g ns.length i,ns⟩ (AE f d.length j) d (AE l c.length m) c).arm=a
theorem VJ {w:World}{ks:List Eo}(c:∀m∈ks,EOk w base m):∀u∈I8 ks,u.oneCell'=true:=by
 intro u hu;obtain⟨m,b,hu⟩:=List.mem_flatMap.1 hu;obtain⟨f,e,d⟩:=Af (c m b);simp only[Eo.cells,C7,KI,DR] at hu;rcases hu with rfl | rfl
 ·rfl
 ·rw[d];rfl
theorem WO {w:World}{ks:List Bz}(g:∀m∈ks,AOk w base m):∀u∈Jg ks,u.oneCell'=true:=by
 intro u hu;obtain⟨m,f,hu⟩:=List.mem_flatMap.1 hu;obtain⟨d,⟨c,_⟩,e,_⟩:=(Ji w base m).1 (g m f);have b:=(Jt w base m.net).1 d;obtain⟨y,s,j⟩:=Af b.1;obtain⟨n,t,k⟩:=Af b.2.1;obtain⟨r,p,i⟩:=Af c;obtain⟨l,q,h⟩:=Af e;simp only[Bz.cells,C7,KI,DR] at hu;rcases hu with rfl | rfl | rfl | rfl | rfl | rfl
 ·rfl
 ·rfl
 ·rw[j];rfl
 ·rw[k];rfl
 ·rw[i];rfl
 ·rw[h];rfl
def zc0 {p:Prop}(h:p:=by
 rename_i t1
 have e:Sem.run prog (Builtin.append_ #[60,60] o.type #[AE ra ms.length rc,AE (some t1) 0 c]) w=.ok (AE ra ms.length rc) w:=by cases ra<;>simp[Builtin.append_,go_sem,hcap]
 simp only[hop,resolve,invoke,builtin,Sem.run_bind,Sem.run_pure,Result.andThen_ok,ES,CQ,C6,hs,hx,e];exact hk2):p:=h
def zh0 {p:Prop}(h:p:=by
 have e:Sem.run prog (Builtin.append_ #[60,60] o.type #[AE ra ms.length rc,AE none 0 c]) w=.ok (AE ra ms.length rc) w:=by cases ra<;>simp[Builtin.append_,go_sem,hcap]
 simp only[hop,resolve,invoke,builtin,Sem.run_bind,Sem.run_pure,Result.andThen_ok,ES,CQ,C6,hs,hx,e];exact hk2):p:=h
theorem Ym {w:World}{K:Act->World->Prop}{Q:Exit->Act->World->Prop}
  (hg:o.guard=none) (s x:Operand) (hop:o.op=.call {callee:=.builtin .append,args:=#[s,x],argTypes:=#[60,60]})
  (base lo:Nat) (ra:Option Addr) (rc:Nat) (ms ks:List Eo) (ad:Option Addr) (c:Nat) (hs:a.eval s=AE ra ms.length rc) (hx:a.eval x=AE ad ks.length c)
  (hrow:Vy w base (AE ra ms.length rc) ms) (I:0<ks.length->∃p,ad=some p/\∀j u,(I8 ks)[j]?=some u->w.cell? (p.add j)=some u)
  (r:∀m∈ks,EOk w base m) (O:(Value.slice ra ms.length rc::(Gv ms++Gv ks)).Pairwise Aside) (hl:ms.length+ks.length<=1000000) (F:base<=w.heap.size) (t:lo<=w.heap.size) (f:∀k,(Value.slice ra ms.length rc).ownBlock=some k->lo<=k)
  (y:∀l d w',Vy w' base (AE l (ms.length+ks.length) d) (ms++ks)->Below lo w w'->(∀k,(Value.slice l (ms.length+ks.length) d).ownBlock=some k->lo<=k)->K (a.put o.dst (AE l (ms.length+ks.length) d)) w'):
  if Region.wanted o (yielded ops a.tmps)=true then Oper.wp prog o a w K Q else E:=by
 obtain⟨A,hi,C,B,L⟩:=info_parts YK;by_cases hd:ks.length=0
 ·have z:=List.length_eq_zero_iff.1 hd
  subst z;have G:Region.wanted o (yielded ops a.tmps)=true:=by simp[Region.wanted,hg]
  rw[if_pos G];have hcap:ms.length<=rc:=by
   rcases hrow.1.2 with⟨i,b⟩ | ⟨g,d,cur,i,_,_,J,_⟩
   ·rw[b];exact DZ _
   ·simp only[Value.slice.injEq] at i
    rw[i.2.2];exact J
  have hk2:=y ra rc w yDd (Below.refl _ _) (by simpa using f);simp only[CP,ER] at hk2 hx;unfold Oper.wp execOp;cases ad
  ·exact zh0
  ·exact zc0
 ·obtain⟨p,rfl,H⟩:=I AQ
  refine Ec hg s x _ hop base 46 A _ 2 32 underlying60 hi C B L rfl AY _ _ (I8 ms) hs hrow.1 _ _ _ (I8 ks) hx (XU ks) H (VJ r) A6 AQ F ?_;intro v' w' b n q;obtain⟨D,N,M⟩:=Af b;subst M;refine y D N w' (hrow.add r O b n q) ((Below.refl _ _).grown n t f) (λk hk2=>?_);rcases q with e | e
  ·exact f k (by rw[<-e];exact hk2)
  ·rw[e] at hk2
   cases hk2;exact t
theorem oe {w:World}{Q:Exit->Act->World->Prop}
  (hg:o.guard=none) (s x:Operand) (r:o.op=.call {callee:=.builtin .append,args:=#[s,x],argTypes:=#[60,60]})
  (base lo:Nat) (g:Option Addr) (f:Nat) (b ks:List Eo) (ad:Option Addr) (c:Nat) (C:a.eval s=AE g b.length f) (hx:a.eval x=AE ad ks.length c)
  (F:Vy w base (AE g b.length f) b) (B:0<ks.length->∃p,ad=some p/\∀j u,(I8 ks)[j]?=some u->w.cell? (p.add j)=some u)
  (z:∀m∈ks,EOk w base m) (G:(Value.slice g b.length f::(Gv b++Gv ks)).Pairwise Aside) (hl:b.length+ks.length<=1000000) (q:base<=w.heap.size) (A:lo<=w.heap.size) (l:∀k,(Value.slice g b.length f).ownBlock=some k->lo<=k)
  (h:∀e d w',Vy w' base (AE e (b.length+ks.length) d) (b++ks)->Below lo w w'->(∀k,(Value.slice e (b.length+ks.length) d).ownBlock=some k->lo<=k)->wpList prog ops Q rest (a.put o.dst (AE e (b.length+ks.length) d)) w'):
  wpList prog ops Q (o::rest) a w:=by
 refine wpList_plain hg λK D=>?_
 have y:Region.wanted o (yielded #[] a.tmps)=true:=by simp[Region.wanted,hg]
 have:=Ym (ops:=#[]) (K:=K) (Q:=Q) (E:=True) hg s x r base lo g f b ks ad c C hx F B z G hl q A l (λe d w' n i t=>D _ _ (h e d w' n i t))
 rwa [if_pos y] at this
def zd0 {p:Prop}(h:p:=by
 rename_i t1
 have e:Sem.run prog (Builtin.append_ #[23,23] o.type #[AE ra ms.length rc,AE (some t1) 0 c]) w=.ok (AE ra ms.length rc) w:=by cases ra<;>simp[Builtin.append_,go_sem,hcap]
 simp only[hop,resolve,invoke,builtin,Sem.run_bind,Sem.run_pure,Result.andThen_ok,ES,CQ,C6,hs,hx,e];exact hk2):p:=h
def zi0 {p:Prop}(h:p:=by
 have e:Sem.run prog (Builtin.append_ #[23,23] o.type #[AE ra ms.length rc,AE none 0 c]) w=.ok (AE ra ms.length rc) w:=by cases ra<;>simp[Builtin.append_,go_sem,hcap]
 simp only[hop,resolve,invoke,builtin,Sem.run_bind,Sem.run_pure,Result.andThen_ok,ES,CQ,C6,hs,hx,e];exact hk2):p:=h
theorem pj {w:World}{K:Act->World->Prop}{Q:Exit->Act->World->Prop}
  (hg:o.guard=none) (s x:Operand) (hop:o.op=.call {callee:=.builtin .append,args:=#[s,x],argTypes:=#[23,23]})
  (base lo:Nat) (ra:Option Addr) (rc:Nat) (ms ks:List Bz) (ad:Option Addr) (c:Nat) (hs:a.eval s=AE ra ms.length rc) (hx:a.eval x=AE ad ks.length c)
  (hrow:Tj w base (AE ra ms.length rc) ms) (I:0<ks.length->∃p,ad=some p/\∀j u,(Jg ks)[j]?=some u->w.cell? (p.add j)=some u)
  (r:∀m∈ks,AOk w base m) (O:(Value.slice ra ms.length rc::(Iq ms++Iq ks)).Pairwise Aside) (hl:ms.length+ks.length<=1000000) (F:base<=w.heap.size) (t:lo<=w.heap.size) (f:∀k,(Value.slice ra ms.length rc).ownBlock=some k->lo<=k)
  (y:∀l d w',Tj w' base (AE l (ms.length+ks.length) d) (ms++ks)->Below lo w w'->(∀k,(Value.slice l (ms.length+ks.length) d).ownBlock=some k->lo<=k)->K (a.put o.dst (AE l (ms.length+ks.length) d)) w'):
  if Region.wanted o (yielded ops a.tmps)=true then Oper.wp prog o a w K Q else E:=by
 obtain⟨A,hi,C,B,L⟩:=info_parts eD;by_cases hd:ks.length=0
 ·have z:=List.length_eq_zero_iff.1 hd
  subst z;have G:Region.wanted o (yielded ops a.tmps)=true:=by simp[Region.wanted,hg]
  rw[if_pos G];have hcap:ms.length<=rc:=by
   rcases hrow.1.2 with⟨i,b⟩ | ⟨g,d,cur,i,_,_,J,_⟩
   ·rw[b];exact DZ _
   ·simp only[Value.slice.injEq] at i
    rw[i.2.2];exact J
  have hk2:=y ra rc w yDd (Below.refl _ _) (by simpa using f);simp only[CP,ER] at hk2 hx;unfold Oper.wp execOp;cases ad
  ·exact zi0
  ·exact zd0
 ·obtain⟨p,rfl,H⟩:=I AQ
  refine Ec hg s x _ hop base 62 A _ 6 112 underlying23 hi C B L rfl AY _ _ (Jg ms) hs hrow.1 _ _ _ (Jg ks) hx (XA ks) H (WO r) A6 AQ F ?_;intro v' w' b n q;obtain⟨D,N,M⟩:=Af b;subst M;refine y D N w' (hrow.add r O b n q) ((Below.refl _ _).grown n t f) (λk hk2=>?_);rcases q with e | e
  ·exact f k (by rw[<-e];exact hk2)
  ·rw[e] at hk2
   cases hk2;exact t
theorem X6 {w:World}{Q:Exit->Act->World->Prop}
  (hg:o.guard=none) (s x:Operand) (r:o.op=.call {callee:=.builtin .append,args:=#[s,x],argTypes:=#[23,23]})
  (base lo:Nat) (g:Option Addr) (f:Nat) (b ks:List Bz) (ad:Option Addr) (c:Nat) (C:a.eval s=AE g b.length f) (hx:a.eval x=AE ad ks.length c)
  (F:Tj w base (AE g b.length f) b) (B:0<ks.length->∃p,ad=some p/\∀j u,(Jg ks)[j]?=some u->w.cell? (p.add j)=some u)
  (z:∀m∈ks,AOk w base m) (G:(Value.slice g b.length f::(Iq b++Iq ks)).Pairwise Aside) (hl:b.length+ks.length<=1000000) (q:base<=w.heap.size) (A:lo<=w.heap.size) (l:∀k,(Value.slice g b.length f).ownBlock=some k->lo<=k)
  (h:∀e d w',Tj w' base (AE e (b.length+ks.length) d) (b++ks)->Below lo w w'->(∀k,(Value.slice e (b.length+ks.length) d).ownBlock=some k->lo<=k)->wpList prog ops Q rest (a.put o.dst (AE e (b.length+ks.length) d)) w'):
  wpList prog ops Q (o::rest) a w:=by
 refine wpList_plain hg λK D=>?_
 have y:Region.wanted o (yielded #[] a.tmps)=true:=by simp[Region.wanted,hg]
 have:=pj (ops:=#[]) (K:=K) (Q:=Q) (E:=True) hg s x r base lo g f b ks ad c C hx F B z G hl q A l (λe d w' n i t=>D _ _ (h e d w' n i t))
 rwa [if_pos y] at this
