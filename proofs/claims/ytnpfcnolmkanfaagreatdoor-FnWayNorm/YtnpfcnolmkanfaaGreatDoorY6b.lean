import Derived.Test.YtnpfcnolmkanfaaGreatDoorGm
import Derived.Test.YtnpfcnolmkanfaaGreatDoorHg
namespace Go.Proofs.YtnpfcnolmkanfaaGreatDoor
open Tryz
open Stil
open Go.RowKit Go.Sort Go.BigFrame
variable {base:Nat}{u1 u2 u3 u4:Value}
set_option maxHeartbeats 2000000 in
set_option maxRecDepth 100000 in
theorem A1u (k:Int)(kids:List Stil.Net)(ih:∀x∈kids,∀(av kv:Value) (w:World),Dh w av x.one.args->E8 w kv x.kids->Calls prog 27 #[.agg #[.int .i64 x.kind, .int .i64 x.one.op,av,kv]] w λae S=>Qi S w.heap.size (Au x) ae/\Below w.heap.size w S)
  (v:Value) (w:World) (aw:E8 w v kids) (hl:kids.length<=1048576) (hs:Stil.sizes (kids.map Au)<=1000000):
  Calls prog 47 #[.int .i64 k,v] w λae S=>Qi S w.heap.size (E5 k (Bz k (kids.map Au))) ae/\Below w.heap.size w S:=by
 obtain⟨i0,hi,aA,aC,aD⟩:=info_parts Aig;obtain⟨a,cap,rfl,hc⟩:=aw;have HA:=hid hc;have IH:=hid ih;have HS:=hid hs;clear hc ih hs;go_enter func47,ntmps47
 go_wp2
 go_loopw [6] (λi wr=>∃(j:Nat) (e:List Aq) (G:Option Addr) (H:Nat),j<=kids.length/\i=.int .i64 j/\B4 wr w.heap.size (.int .i64 0) (.int .i64 0) (.slice none 0 0) (.slice none 0 0)/\B4 wr (w.heap.size+1) (.int .i64 k) (.int .i64 0) (.slice none 0 0) (.slice G e.length H)/\
   L9 wr (w.heap.size+2) (.slice G e.length H) e/\e.map Aq.net=Bz k ((kids.take j).map Au)/\Below w.heap.size w wr) (λi _=>kids.length - (intOf i).toNat)
 case atStart=>
  refine⟨0,[],none,0,omz,rfl,?_,?_,L9.nil _ _,rfl,blA⟩
  ·refine⟨by simp;omega,⟨by simp[go_sem],by simp[go_sem],by simp[go_sem],by simp[go_sem]⟩,by simp[go_sem],by simp[go_sem],by simp[go_sem],by simp[go_sem]⟩
  ·refine⟨spz,⟨by simp[go_sem],by simp[go_sem],by simp[go_sem],by simp[go_sem]⟩,by simp[go_sem],by simp[go_sem],by simp[go_sem],by simp[go_sem]⟩
 case round=>
  obtain⟨j,e,G,H,hj,rfl,ap,L,an,yJ,hB⟩:=hrel;have P:=hid ap;have N:=hid L;have E:=hid an;have bf:=hid yJ;clear ap L an yJ;by_cases ai:j<kids.length
  ·obtain⟨b,o,rfl,J,hn⟩:=HA j ai
   obtain⟨x0,x1,av,kv,x2,x3,ag,ak⟩:=(Sj.below hB _ _ _ hn J).open;have HI:=hid (λW s=>IH kids[j] (A59 ai) av kv W (ag.below s) (ak.below s));obtain⟨x,hx⟩:∃x,x=kids[j]:=⟨_,rfl⟩
   rw[<-hx] at HI x0 x1 ag ak;have HX:=hid hx;obtain⟨p0,r0,rfl,_⟩:=ag;obtain⟨p1,r1,rfl,_⟩:=ak;clear hx hn;go_upto_region 6 with(go_at_call 27;refine(HI _ blB).mono ?_;rintro ae B ⟨⟨l,q,f,y,u,r,t,d,rfl,A,F⟩,aa⟩;have z:Hid (J7 B _ ⟨l,q,f, .slice y f.length u, .slice r d.length t,d⟩):=A;have aQ:=hid F;clear A F)
   obtain⟨W,s⟩:∃W,W=B.alloc (.cells #[.int .i64 l, .int .i64 q, .slice y f.length u, .slice r d.length t] 43):=⟨_,rfl⟩
   rw[<-s];have ar:W.heap.size=B.heap.size+1:=by rw[s];simp
   have qH:Below B.heap.size B W:=by rw[s];exact Aa _ _
   have n0:W.cell? ⟨B.heap.size,0,none⟩=some (.int .i64 l):=by rw[s];simp[go_sem]
   have n1:W.cell? ⟨B.heap.size,1,none⟩=some (.int .i64 q):=by rw[s];simp[go_sem]
   have n2:W.cell? ⟨B.heap.size,2,none⟩=some (.slice y f.length u):=by rw[s];simp[go_sem]
   have n3:W.cell? ⟨B.heap.size,3,none⟩=some (.slice r d.length t):=by rw[s];simp[go_sem]
   have ab:=aa.trans (qH.mono aa.size);have al:=hB.trans (ab.mono hB.size);have L:=N.below ab N.1;have au:w.heap.size+2<=W.heap.size:=by have:=L.1;omega
   have M:=hid L;have wC:=hid (P.below ab P.1);have ax:=hid (E.below ab);have X:Hid (J7 W (w.heap.size+2) ⟨l,q,f, .slice y f.length u, .slice r d.length t,d⟩):=((z.below qH).le (by have:=N.1;omega))
   have af:∀Y:List Aq,(∀m∈Y,MOk B wr.heap.size m)->(Fp Y).Pairwise Aside->(Value.slice G e.length H::(Fp e++Fp Y)).Pairwise Aside:=λY h1 h2=>E.apart h1 (A57 _) h2
   have D:=Axu k kids j ai;rw[<-HX.out,<-aQ.out,<-bf.out,Aq.net_eq] at D;simp only at D;have I:=Axt k kids (j+1);rw[D] at I;have hS:=HS.out;obtain⟨_,⟨o0,o1,o2,o3⟩,g0,g1,g2,g3⟩:=L;by_cases O:l=k
   ·rw[if_pos O] at D I
    have ah:e.length+d.length<=1000000:=by
     simp only[A52,A6i] at I;omega
    have T:(e++d).map Aq.net=Bz k ((kids.take (j+1)).map Au):=by rw[D,A6g]
    have Q:=af d z.kids.1 z.kids.2;have HP:=hid Q;have HK:Hid (∀m∈d,MOk W (w.heap.size+2) m):=X.kids.1;have dB:=hid T;have yl:Hid (0<d.length->∃p,r=some p/\∀j ac,(Io d)[j]?=some ac->W.cell? (p.add j)=some ac):=by
     intro hz;have hr:=((Jb _ _ _).1 X.1).2.1;simp only at hr;obtain⟨g,c,R,_,_,_,K⟩:=Bo hr hz;simp only[Value.slice.injEq] at R;exact⟨⟨g,0,none⟩,R.1,λj ac hu=>by rw[Addr.add_lit];simpa using K j ac hu⟩
    clear s I D T Q af hS qH z aQ HI E N P X ar aa;rw[O] at n0
    go_wp2_with (at_builtin;refine Sr rfl _ _ rfl (w.heap.size+2) G H e d r t rfl rfl ax yl HK HP ah au ?_;intro a6 Z w6 V C;obtain⟨_,⟨_,_,_,y3⟩,_,_,_,f3⟩:=M.below C (A69 _);have gX:=hid V;clear V)
    all_goals
     try go_wp2
     refine⟨⟨j+1,e++d,a6,Z,omz,by go_num,?_,?_,?_,dB.out,?_⟩,by simp[intOf];omega⟩
     ·exact(wC.below C omz).setO omz _
     ·rw[A52]
      exact(M.below C (A69 _)).set3 _
     ·rw[A52]
      exact gX.set (a:=⟨w.heap.size+1,3,none⟩) (A69 _) _
     ·exact(al.trans (C.mono omz)).setCell spz _
   ·rw[if_neg O] at D I
    have ah:e.length+[(Aq.mk l q f (.slice y f.length u) (.slice r d.length t) d)].length<=1000000:=by
     simp only[A52,A6i,A62] at I ⊢;omega
    have T:(e++[Aq.mk l q f (.slice y f.length u) (.slice r d.length t) d]).map Aq.net=Bz k ((kids.take (j+1)).map Au):=by
     rw[D,A6g,A7x,Aq.net_eq]
    have Q:=af [Aq.mk l q f (.slice y f.length u) (.slice r d.length t) d] (λm U=>by rw[List.mem_singleton.1 U];exact z.1) (by rw[Kt];exact z.2);have HP:=hid Q;have HK:Hid (∀m∈[Aq.mk l q f (.slice y f.length u) (.slice r d.length t) d],MOk W (w.heap.size+2) m):=λm U=>by rw[List.mem_singleton.1 U];exact X.1
    have dB:=hid T;have az:(l==k)=false:=by rw[A64];exact O
    clear s I D T Q af hS qH z aQ HI E N P X ar aa O
    go_wp2_with (at_builtin;refine Sr rfl _ _ rfl (w.heap.size+2) G H e [Aq.mk l q f (.slice y f.length u) (.slice r d.length t) d] (some ⟨W.heap.size,0,none⟩) 1 rfl rfl (ax.below (Aa _ _)) (λ_=>⟨_,rfl,by exact cells4⟩) (λm U=>(HK m U).below (Aa _ _)) HP ah yBd ?_;intro a6 Z w6 V C;obtain⟨_,⟨_,_,_,y3⟩,_,_,_,f3⟩:=(M.below (Aa _ _) M.1).below C (A69 _);have gX:Hid (L9 w6 (w.heap.size+2) (.slice a6 (e.length+1) Z) (e++[Aq.mk l q f (.slice y f.length u) (.slice r d.length t) d])):=V;clear V)
    all_goals
     try go_wp2
     refine⟨⟨j+1,e++[Aq.mk l q f (.slice y f.length u) (.slice r d.length t) d],a6,Z,omz,by go_num,?_,?_,?_,dB.out,?_⟩,by simp[intOf];omega⟩
     ·exact((wC.below (Aa _ _) wC.1).below C omz).setO omz _
     ·rw[A52]
      exact((M.below (Aa _ _) M.1).below C (A69 _)).set3 _
     ·rw[A52]
      exact gX.set (a:=⟨w.heap.size+1,3,none⟩) (A69 _) _
     ·exact((Cc al _).trans (C.mono omz)).setCell spz _
  ·obtain rfl:j=kids.length:=by omega
   have F:=bf.out;rw[A73] at F;obtain⟨_,⟨z0,z1,z2,z3⟩,e0,e1,e2,e3⟩:=P.out;obtain⟨_,⟨o0,o1,o2,o3⟩,_⟩:=N.out;by_cases h1:e.length=1
   ·obtain⟨m,rfl⟩:=List.length_eq_one_iff.1 h1
    have A:=E.one 0 spz;simp only[A7a] at A;obtain⟨g,c,R,_,ay,_,K⟩:=Bo E.1 spz;obtain⟨a1,a2,a3,a4⟩:=Nv [m] 0 spz;have y0:=K _ _ a1;have y1:=K _ _ a2;have y2:=K _ _ a3;have y3:=K _ _ a4;simp only[A7a,A8a,A6b] at y0 y1 y2 y3;have aj:=(Jb _ _ _).1 A.1;obtain⟨d1,d2,hd⟩:=Aj aj.1;obtain⟨d3,d4,ao⟩:=Aj aj.2.1;simp only[Value.slice.injEq] at R;obtain⟨rfl,_,rfl⟩:=R;have J:E5 k (Bz k (kids.map Au))=m.net:=by rw[<-F];rfl
    have oP:=hid J;obtain⟨l,q,f,oz,ou,d⟩:=m;simp only at hd ao y0 y1 y2 y3;subst hd;subst ao;have z:=hid A;clear A aj F J K E;simp only[A62] at o3
    go_wp2
    refine bodyPost_ret (v:=.agg #[.int .i64 l, .int .i64 q, .slice d1 f.length d2, .slice d3 d.length d4]) (by simp[results,results47,go_sem,z0,z1,z2,z3]) rfl ⟨⟨l,q,f,d1,d2,d3,d4,d,rfl,?_,oP.symm⟩,blA⟩;refine J7.le (base:=w.heap.size+2) ?_ omz;repeat (refine J7.set ?_ yBa _)
    exact z.out
   ·have J:E5 k (Bz k (kids.map Au))=⟨k,⟨0,[]⟩,e.map Aq.net⟩:=by
     rw[<-F];unfold E5;rw[dif_neg (by simpa using h1)]
    have oP:=hid J;have A:=E.net k 0 [] (World.ownsRow_nil _ _ _ _) (λx _=>Qe x);have z:=hid A;have aB:((e.length:Int)==1)=false:=by rw[A64];omega
    have zO:¬((e.length:Int)=1):=omz
    clear A F J E
    go_wp2
    refine bodyPost_ret (v:=.agg #[.int .i64 k, .int .i64 0, .slice none 0 0, .slice G e.length H]) (by simp[results,results47,go_sem,z0,z1,z2,z3]) rfl ⟨⟨k,0,[],none,0,G,H,e,rfl,?_,by rw[Aq.net_eq,oP.out]⟩,blA⟩;refine J7.le (base:=w.heap.size+2) ?_ omz;repeat (refine J7.set ?_ yBa _)
    exact z.out
theorem J7.set4 {w:World}{b a d e f:Nat}{m:Aq}(h:J7 w base m)(c:b<base):J7 ((((w.setCell ⟨b,a,none⟩ u1).setCell ⟨b,d,none⟩ u2).setCell ⟨b,e,none⟩ u3).setCell ⟨b,f,none⟩ u4) base m:=⟨h.1.set4 c,h.2⟩
theorem L9.single4 {w:World}{b:Nat}{m:Aq}(h:J7 w base m)(c:b<base)(a:base<=w.heap.size):L9 (((((w.setCell ⟨b,0,none⟩ u1).setCell ⟨b,1,none⟩ u2).setCell ⟨b,2,none⟩ u3).setCell ⟨b,3,none⟩ u4).alloc (.cells #[.int .i64 m.kind, .int .i64 m.op,m.av,m.kv] 43)) base (.slice (some ⟨w.heap.size,0,none⟩) 1 1) [m]:=by
 have d:=L9.single (w:=(((w.setCell ⟨b,0,none⟩ u1).setCell ⟨b,1,none⟩ u2).setCell ⟨b,2,none⟩ u3).setCell ⟨b,3,none⟩ u4) (base:=base) (m:=m) (h.set4 c) (by simp only[World.size_setCell];exact a);simpa only[World.size_setCell] using d
set_option maxHeartbeats 4000000 in
set_option maxRecDepth 100000 in
theorem A2j (x:Stil.Net)(k j:Value)(w:World)(Z:Dh w k [])(ac:E8 w j [x])(M:∀(k j:Value) (w:World),Dh w k x.one.args->E8 w j x.kids->Calls prog 27 #[.agg #[.int .i64 x.kind, .int .i64 x.one.op,k,j]] w λe i=>Qi i w.heap.size (Au x) e/\Below w.heap.size w i):
  Calls prog 27 #[.agg #[.int .i64 4, .int .i64 0,k,j]] w λe' i=>Qi i w.heap.size (Au ⟨4,⟨0,[]⟩,[x]⟩) e'/\Below w.heap.size w i:=by
 have G:Hid (Au ⟨4,⟨0,[]⟩,[x]⟩=⟨4,⟨0,[]⟩,[Au x]⟩):=by show _=_;rw[Iu,if_neg omz];rfl
 obtain⟨p1,F,rfl,z⟩:=ac;obtain⟨b,o,rfl,l,s⟩:=z 0 spz;simp only[A7a,A8a,A75] at s;obtain⟨D,P,ab,mg,K,u,A,J⟩:=s.open;have O:=hid (λW a=>M ab mg W (A.below a) (J.below a));obtain⟨t,E,rfl,dK⟩:=Z;obtain⟨p2,r2,rfl,y⟩:=A;obtain⟨p3,r3,rfl,Y⟩:=J;clear dK y Y;obtain⟨N,V⟩:∃N,N=Au x:=⟨_,rfl⟩
 rw[<-V] at O G;clear M V s z;go_enter func27,ntmps27;go_upto_region 6 with fail
 obtain⟨W,a⟩:∃W,W=(w.alloc (.cells #[.int .i64 4, .int .i64 0, .slice t 0 E, .slice (some ⟨b,o,none⟩) 1 F] 43)).alloc (.cells #[.int .i64 0, .int .i64 0, .slice none 0 0, .slice none 0 0] 43):=⟨_,rfl⟩
 rw[<-a];have q0:W.cell? ⟨w.heap.size,0,none⟩=some (.int .i64 4):=by rw[a];simp[go_sem]
 have q1:W.cell? ⟨w.heap.size,1,none⟩=some (.int .i64 0):=by rw[a];simp[go_sem]
 have q2:W.cell? ⟨w.heap.size,2,none⟩=some (.slice t 0 E):=by rw[a];simp[go_sem]
 have q3:W.cell? ⟨w.heap.size,3,none⟩=some (.slice (some ⟨b,o,none⟩) 1 F):=by rw[a];simp[go_sem]
 have ny:W.cell? ⟨w.heap.size+1,0,none⟩=some (.int .i64 0):=by rw[a];simp[go_sem]
 have ni:W.cell? ⟨w.heap.size+1,1,none⟩=some (.int .i64 0):=by rw[a];simp[go_sem]
 have ng:W.cell? ⟨w.heap.size+1,2,none⟩=some (.slice none 0 0):=by rw[a];simp[go_sem]
 have mr:W.cell? ⟨w.heap.size+1,3,none⟩=some (.slice none 0 0):=by rw[a];simp[go_sem]
 have v0:W.frozen? ⟨w.heap.size+1,0,none⟩=false:=by rw[a];simp[go_sem]
 have v1:W.frozen? ⟨w.heap.size+1,1,none⟩=false:=by rw[a];simp[go_sem]
 have v2:W.frozen? ⟨w.heap.size+1,2,none⟩=false:=by rw[a];simp[go_sem]
 have v3:W.frozen? ⟨w.heap.size+1,3,none⟩=false:=by rw[a];simp[go_sem]
 have T:W.heap.size=w.heap.size+2:=by rw[a];simp
 have f:Below w.heap.size w W:=by rw[a];exact Cc (Aa _ _) _
 have S:=hid T;have r:w.heap.size<W.heap.size:=omz
 have d:w.heap.size+1<W.heap.size:=omz
 have D:=(f.cell (p:=⟨b,o,none⟩) l).trans D;have P:=(f.cell (p:=⟨b,o+1,none⟩) l).trans P;have K:=(f.cell (p:=⟨b,o+2,none⟩) l).trans K;have u:=(f.cell (p:=⟨b,o+3,none⟩) l).trans u;clear a T
 go_region_law (go_simp;go_at_call 27;refine(O _ (by exact f.drew)).mono ?_;rintro e g ⟨⟨B,U,q,Q,H,R,L,m,rfl,C,I⟩,aa⟩;have c:=((Below.refl W.heap.size W).drew).trans aa;have pX:w.heap.size+2<=g.heap.size:=(by have:=S.out;have:=c.size;omega);have mX:w.heap.size+1<g.heap.size:=omz;have y:w.heap.size<g.heap.size:=omz;have aU:Hid (J7 g W.heap.size ⟨B,U,q, .slice Q q.length H, .slice R m.length L,m⟩):=C;have aQ:=hid I;clear C I;have y0:=(c.cell (p:=⟨w.heap.size,0,none⟩) r).trans q0;have y1:=(c.cell (p:=⟨w.heap.size,1,none⟩) r).trans q1;have y2:=(c.cell (p:=⟨w.heap.size,2,none⟩) r).trans q2;have y3:=(c.cell (p:=⟨w.heap.size,3,none⟩) r).trans q3;have z0:=(c.cell (p:=⟨w.heap.size+1,0,none⟩) d).trans ny;have z1:=(c.cell (p:=⟨w.heap.size+1,1,none⟩) d).trans ni;have z2:=(c.cell (p:=⟨w.heap.size+1,2,none⟩) d).trans ng;have X:=(c.cell (p:=⟨w.heap.size+1,3,none⟩) d).trans mr;have f0:=(c.frozen (p:=⟨w.heap.size+1,0,none⟩) d).trans v0;have f1:=(c.frozen (p:=⟨w.heap.size+1,1,none⟩) d).trans v1;have f2:=(c.frozen (p:=⟨w.heap.size+1,2,none⟩) d).trans v2;have f3:=(c.frozen (p:=⟨w.heap.size+1,3,none⟩) d).trans v3)
 all_goals
  try go_wp2
  refine bodyPost_ret (v:=.agg #[.int .i64 4, .int .i64 0, .slice none 0 0, .slice (some ⟨g.heap.size,0,none⟩) 1 1]) (by simp[results,results27,go_sem,z0,z1,z2,X,mX]) rfl ⟨⟨4,0,[],none,0,some ⟨g.heap.size,0,none⟩,1,[⟨B,U,q, .slice Q q.length H, .slice R m.length L,m⟩],rfl,?_,by rw[Aq.net_eq,G.out,<-aQ.out];rfl⟩,?_⟩
  ·refine J7.le (base:=w.heap.size+2) ?_ omz
   exact(L9.single4 (aU.le (by have:=S.out;omega)) (A69 _) pX).net 4 0 [] (World.ownsRow_nil _ _ _ _) (λx _=>Qe x)
  ·have uT:=f.trans (c.mono f.size)
   exact blA
theorem Atq (a x:Value)(hx:x∈Value.slice none 0 0::Fp []):Aside a x:=by
 rcases List.mem_cons.1 hx with rfl | hx
 ·exact(Qe _).symm
 ·cases hx
set_option maxHeartbeats 4000000 in
set_option maxRecDepth 100000 in
theorem A2i (e:Stil.Elem)(q f:Value)(w:World)(d:Dh w q e.args)(O:E8 w f [])(T:e.args.length<=1048576):
  Calls prog 27 #[.agg #[.int .i64 1, .int .i64 e.op,q,f]] w λH o=>Qi o w.heap.size (Au ⟨1,e,[]⟩) H/\Below w.heap.size w o:=by
 have M:Hid (Au ⟨1,e,[]⟩=⟨1,e,[]⟩):=by show _=_;rw[Iu,if_neg omz];rfl
 have I:=hid (λW (h:Below w.heap.size w W)=>d.below h);obtain⟨g,s,rfl,P⟩:=d;obtain⟨u,l,rfl,A⟩:=O;clear P A;go_enter func27,ntmps27;go_upto_region 7 with fail
 obtain⟨W,a⟩:∃W,W=(w.alloc (.cells #[.int .i64 1, .int .i64 e.op, .slice g e.args.length s, .slice u 0 l] 43)).alloc (.cells #[.int .i64 0, .int .i64 0, .slice none 0 0, .slice none 0 0] 43):=⟨_,rfl⟩
 rw[<-a];have N:W.cell? ⟨w.heap.size,0,none⟩=some (.int .i64 1):=by rw[a];simp[go_sem]
 have q1:W.cell? ⟨w.heap.size,1,none⟩=some (.int .i64 e.op):=by rw[a];simp[go_sem]
 have J:W.cell? ⟨w.heap.size,2,none⟩=some (.slice g e.args.length s):=by rw[a];simp[go_sem]
 have L:W.cell? ⟨w.heap.size,3,none⟩=some (.slice u 0 l):=by rw[a];simp[go_sem]
 have Q:W.cell? ⟨w.heap.size+1,0,none⟩=some (.int .i64 0):=by rw[a];simp[go_sem]
 have S:W.cell? ⟨w.heap.size+1,1,none⟩=some (.int .i64 0):=by rw[a];simp[go_sem]
 have B:W.cell? ⟨w.heap.size+1,2,none⟩=some (.slice none 0 0):=by rw[a];simp[go_sem]
 have K:W.cell? ⟨w.heap.size+1,3,none⟩=some (.slice none 0 0):=by rw[a];simp[go_sem]
 have v0:W.frozen? ⟨w.heap.size+1,0,none⟩=false:=by rw[a];simp[go_sem]
 have D:W.frozen? ⟨w.heap.size+1,1,none⟩=false:=by rw[a];simp[go_sem]
 have G:W.frozen? ⟨w.heap.size+1,2,none⟩=false:=by rw[a];simp[go_sem]
 have F:W.frozen? ⟨w.heap.size+1,3,none⟩=false:=by rw[a];simp[go_sem]
 have m:W.heap.size=w.heap.size+2:=by rw[a];simp
 have c:Below w.heap.size w W:=by rw[a];exact Cc (Aa _ _) _
 have bP:=hid m;have ab:w.heap.size<W.heap.size:=omz
 have aa:w.heap.size+1<W.heap.size:=omz
 clear a m
 go_region_law (refine Vy rfl _ _ rfl (w.heap.size+2) _ e.args rfl (by exact(World.ownsRow_lit W #[] 0 (by have:=bP.out;omega) yAe rfl).drew) _ _ rfl (I _ (by exact(Cc c _).drew)) T (by have:=bP.out;simp;omega) ?_;intro Y r i U;obtain⟨j,t,V⟩:=Aj i;subst V;have b:=(Aa W _).drew.grown U spz (λk E=>by cases E;exact A57 _);have pX:w.heap.size+2<=r.heap.size:=(by have:=bP.out;have:=b.size;omega);have Z:=(b.cell (p:=⟨w.heap.size,0,none⟩) yBj).trans N;have y1:=(b.cell (p:=⟨w.heap.size,1,none⟩) yBj).trans q1;have y2:=(b.cell (p:=⟨w.heap.size,2,none⟩) yBj).trans J;have y3:=(b.cell (p:=⟨w.heap.size,3,none⟩) yBj).trans L;have X:=(b.cell (p:=⟨w.heap.size+1,0,none⟩) yAj).trans Q;have C:=(b.cell (p:=⟨w.heap.size+1,1,none⟩) yAj).trans S;have R:=(b.cell (p:=⟨w.heap.size+1,2,none⟩) yAj).trans B;have z:=(b.cell (p:=⟨w.heap.size+1,3,none⟩) yAj).trans K;have f0:=(b.frozen (p:=⟨w.heap.size+1,0,none⟩) yAj).trans v0;have f1:=(b.frozen (p:=⟨w.heap.size+1,1,none⟩) yAj).trans D;have f2:=(b.frozen (p:=⟨w.heap.size+1,2,none⟩) yAj).trans G;have f3:=(b.frozen (p:=⟨w.heap.size+1,3,none⟩) yAj).trans F)
 all_goals
  try go_wp2
  refine bodyPost_ret (v:=.agg #[.int .i64 1, .int .i64 e.op, .slice j e.args.length t, .slice none 0 0]) (by simp[results,results27,go_sem,X,C,R,z]) rfl ⟨⟨1,e.op,e.args,j,t,none,0,[],rfl,?_,by rw[Aq.net_eq,M.out];rfl⟩,?_⟩
  ·refine J7.le (base:=w.heap.size+2) ?_ omz
   repeat (refine J7.set ?_ yBa _)
   exact(L9.nil r (w.heap.size+2)).net 1 e.op e.args i (λx y=>Atq _ x y)
  ·have uT:=c.trans (b.mono c.size)
   exact blA
set_option maxHeartbeats 2000000 in
set_option maxRecDepth 100000 in
theorem Am5 (n:Stil.Net):Dt n->Az n=0->Am n<=1000000->∀(f a:Value) (w:World),Dh w f n.one.args->E8 w a n.kids->Calls prog 27 #[.agg #[.int .i64 n.kind, .int .i64 n.one.op,f,a]] w λe d=>Qi d w.heap.size (Au n) e/\Below w.heap.size w d:=by
 induction n using Gf with
 | h k e kids t=>
  intro J L E f a w i c;obtain⟨_,F,K,o⟩:=(Lh _ _ _).1 J;obtain⟨G,y⟩:=Ag0 E;simp only at i c;rcases Jo L with⟨rfl,rfl⟩ | ⟨D,S,H⟩ | ⟨rfl,rfl,x,rfl,Z⟩
  ·exact A2i e f a w i c F.2.1
  ·have O:Hid (∀W,Below w.heap.size w W->Calls prog 47 #[.int .i64 k,a] W λR d=>Qi d W.heap.size (Au ⟨k,e,kids⟩) R/\Below W.heap.size W d):=by
    intro W Y;have:=A1u k kids (λx g=>t x g (o x g) (H x g) (y x g)) a W (c.below Y) K G
    rw[Iu,if_pos D];exact this
   obtain⟨p0,r0,rfl,_⟩:=i;obtain⟨p1,r1,rfl,_⟩:=c;obtain⟨N,M⟩:∃N,N=Au ⟨k,e,kids⟩:=⟨_,rfl⟩
   rw[<-M] at O ⊢;clear t J F K o L E G y H S M;rcases D with rfl | rfl
   all_goals
    go_enter func27,ntmps27
    go_wp2_with (go_at_call 47;refine(O _ blA).mono ?_;rintro e b ⟨⟨r,s,l,B,u,q,z,j,rfl,I,C⟩,A⟩;obtain⟨m,hf⟩:=D7 A;have P:Hid (J7 b _ ⟨r,s,l, .slice B l.length u, .slice q j.length z,j⟩):=I;have U:=hid C;clear I C;have aa:w.heap.size<b.heap.size:=A51 yAd A.size;have ab:w.heap.size+1<b.heap.size:=A51 spz A.size)
    have Q:b.cell? ⟨w.heap.size+1,0,none⟩=some (.int .i64 0):=by rw[m _ _ spz];simp[go_sem]
    have V:b.cell? ⟨w.heap.size+1,1,none⟩=some (.int .i64 0):=by rw[m _ _ spz];simp[go_sem]
    have X:b.cell? ⟨w.heap.size+1,2,none⟩=some (.slice none 0 0):=by rw[m _ _ spz];simp[go_sem]
    have T:b.cell? ⟨w.heap.size+1,3,none⟩=some (.slice none 0 0):=by rw[m _ _ spz];simp[go_sem]
    refine bodyPost_ret (v:=.agg #[.int .i64 r, .int .i64 s, .slice B l.length u, .slice q j.length z]) (by simp[results,results27,go_sem,Q,V,X,T]) rfl ⟨⟨r,s,l,B,u,q,z,j,rfl,?_,U.out⟩,blA⟩;refine J7.le (base:=w.heap.size+2) ?_ omz;repeat (refine J7.set ?_ yBa _)
    exact P.le spz
  ·exact A2j x f a w i c (t x spz (o x spz) Z (y x spz))
end Go.Proofs.YtnpfcnolmkanfaaGreatDoor
