import Derived.Test.YtifcnfeppdbjdaaGreatDoorHa
set_option maxHeartbeats 4000000
set_option maxRecDepth 100000
namespace Go.Proofs.YtifcnfeppdbjdaaGreatDoor
open Tryz Stil Go.RowKit Go.Sort Go.BigFrame
variable {N:Nat}{W:World}{cs:Array Value}{kZ iR:Int}{v3 v4:Value}
theorem Yk {P:Nat->Prop}{ns:List Stil.Elem}{b:Nat}(c:b=W.heap.size)(h:RowOf 2 (Nw P W) cs.toList ns)(d:P b)(hl:ns.length<=1000):Dq P (W.alloc (.cells cs 51)) (AE (some (AK b 0)) ns.length ns.length) ns:=by
  subst c;have g:=World.ownsRow_lit (base:=W.heap.size) (e:=51) (size:=2) W cs ns.length AQ A6 yGb;refine Ju g (h.imp λcs a _ f=>f.keep (Ac.of_below (Aa _ _))) (λb c=>?_);have:W.heap.size=b:=by simpa[Value.ownBlock] using c
  exact this ▸ d
theorem Ln {P:Nat->Prop}{ns:List Stil.B8}{b:Nat}(c:b=W.heap.size)(h:RowOf 6 (N9 P W) cs.toList ns)(d:P b)(hl:ns.length<=1000):Em P (W.alloc (.cells cs 62)) (AE (some (AK b 0)) ns.length ns.length) ns:=by
  subst c;have g:=World.ownsRow_lit (base:=W.heap.size) (e:=62) (size:=6) W cs ns.length AQ A6 yGb;refine Fq g (h.imp λcs a _ f=>f.keep (Ac.of_below (Aa _ _))) (λb c=>?_);have:W.heap.size=b:=by simpa[Value.ownBlock] using c
  exact this ▸ d
def NG (w0 c:World)(B g q N:Nat):Prop:=∃(A:Stil.B8) (h f e d:Value),Lr c w0.heap.size 0 0 AG AG AG AG/\Lr c B A.net.kind A.net.one.op h f e d/\
  Bi (λb=>w0.heap.size<b/\b≠B) c h A.net.one.args/\Dp (λb=>w0.heap.size<b/\b≠B) c f A.net.kids/\Dq (λb=>w0.heap.size<b/\b≠B) c e A.coils/\Em (λb=>w0.heap.size<b/\b≠B) c d A.kids/\(∃a,d=AE a A.kids.length A.kids.length)/\Jj A/\Gs A<=N/\Ig c g q/\w0.grownBy c (some g)
def lz (e:Ending)(w w':World)(g Q N:Nat):Prop:=∃(a:Stil.B8) (h f d c:Value),e=.returned (.agg #[AB a.net.kind,AB a.net.one.op,h,f,d,c])/\Bi (λb=>w.heap.size<=b) w' h a.net.one.args/\Dp (λb=>w.heap.size<=b) w' f a.net.kids/\Dq (λb=>w.heap.size<=b) w' d a.coils/\Em (λb=>w.heap.size<=b) w' c a.kids/\(∃p,c=AE p a.kids.length a.kids.length)/\Jj a/\Gs a<=N/\Ig w' g Q/\w.grownBy w' (some g)
theorem Az9 {Q:Nat->Prop}{A:Stil.B8}{xs:List Value}{c a:List Stil.CC}{b:Nat}(d:b=W.heap.size)(m:N9 Q W xs A)(hx:xs.length=6)(f:Bi Q W v3 c)(k:Bi Q W v4 a)(j:Q b)(g:Q (b+1)):
    Em Q ((W.alloc (.cells #[AB iR,v4] 51)).alloc (.cells (xs++[AB 1,AB kZ,v3,AG,AE (some (AK b 0)) 1 1,AG]).toArray 62)) (AE (some (AK (b+1) 0)) 2 2) [A,⟨⟨1,⟨kZ,c⟩,[]⟩,[⟨iR,a⟩],[]⟩]:=by
  have e:Ac Q W (W.alloc (.cells #[AB iR,v4] 51)):=Ac.of_below (Aa _ _);have l:Dq Q (W.alloc (.cells #[AB iR,v4] 51)) (AE (some (AK b 0)) 1 1) [⟨iR,a⟩]:=Yk (ns:=[⟨iR,a⟩]) d (RowOf.one (cs:=[AB iR,v4]) rfl ⟨_,rfl,k⟩) j AU;have i:RowOf 6 (N9 Q (W.alloc (.cells #[AB iR,v4] 51))) (xs++[AB 1,AB kZ,v3,AG,AE (some (AK b 0)) 1 1,AG]) [A,⟨⟨1,⟨kZ,c⟩,[]⟩,[⟨iR,a⟩],[]⟩]:=(RowOf.one hx (m.keep e)).append (RowOf.one rfl ⟨_,_,_,_,rfl,f.keep e,Jr _ _,l,Qr _ _⟩);exact Ln (ns:=[A,⟨⟨1,⟨kZ,c⟩,[]⟩,[⟨iR,a⟩],[]⟩]) (by rw[World.size_alloc,d]) (by simpa using i) g AU
theorem Az8 {A:Stil.B8}{b a:List Stil.CC}(k:Jj A)(g:-1000000<=kZ/\kZ<=1000000)(i:-1000000<=iR/\iR<=1000000)(l:∀d∈b,Small d)(j:∀d∈a,Small d)(n:b.length<=3)(m:a.length<=3):Jj ⟨⟨0,⟨0,[]⟩,[]⟩,[],[A,⟨⟨1,⟨kZ,b⟩,[]⟩,[⟨iR,a⟩],[]⟩]⟩:=by
  refine(G5 _ _ _).2 ⟨X6,λ_ h=>BE,λx e=>?_⟩;simp only[DF,Da,DK] at e;rcases e with rfl | rfl
  · exact k
  · refine(G5 _ _ _).2 ⟨Ht AY g l AQ,λc f=>?_,λ_ h=>BE⟩
    simp at f;subst f;exact⟨i,j,by show a.length<=100000;omega⟩
theorem j6 {A:Stil.B8}{a b:List Stil.CC}(d:Gs A<=N)(e:a.length<=3)(c:b.length<=3):Gs ⟨⟨0,⟨0,[]⟩,[]⟩,[],[A,⟨⟨1,⟨kZ,a⟩,[]⟩,[⟨iR,b⟩],[]⟩]⟩<=N+12:=by
  rw[Fv,E5];simp[Gx,Pv,Fv ⟨1,⟨kZ,a⟩,[]⟩,E5 1];omega
theorem Lr.six {w:World}{b:Nat}{k op:Int}{l i g j:Value}(h:Lr w b k op l i g j)(f d:Int)(a e c kv':Value):Lr ((((((w.setCell (AK b 0) (AB f)).setCell (AK b 1) (AB d)).setCell (AK b 2) a).setCell (AK b 3) e).setCell (AK b 4) c).setCell (AK b 5) kv') b f d a e c kv':=by
  obtain⟨m,u,q1,y,s,n,v,r,p,x,t,o,q⟩:=h;refine⟨by simpa using m,?_,?_,?_,?_,?_,?_,?_,?_,?_,?_,?_,?_⟩<;>simp[go_sem, *]
theorem fq {R:Nat->Prop}{w:World}{b:Nat}{v0 d c e:Value}(a:¬R b):Ac R w ((((((w.setCell (AK b 0) v0).setCell (AK b 1) d).setCell (AK b 2) c).setCell (AK b 3) v3).setCell (AK b 4) v4).setCell (AK b 5) e):=(((((Ac.set a _).trans (Ac.set a _)).trans (Ac.set a _)).trans (Ac.set a _)).trans (Ac.set a _)).trans (Ac.set a _)
theorem XF (M:Stil.B8)(n:Stil.B9):Gs ⟨n,M.coils,M.kids⟩<=Gs M+G9 n:=by
  obtain⟨m,cs,a⟩:=M;have b:=Fv n cs a;have c:=Fv m cs a;show Gs ⟨n,cs,a⟩<=Gs ⟨m,cs,a⟩+_
  omega
theorem Jj.both {a:Stil.B8}(h:Jj a):(∀c∈a.coils,X0 c)/\∀x∈a.kids,Jj x:=by
  obtain⟨n,cs,b⟩:=a;exact((G5 _ _ _).1 h).2
theorem OD (n g P:Nat)(w:World)(hn:n<=20)(hr:Ig w g P)(hP:P<=100000000):
    Calls prog 41 #[AH g,AB n] w λe w'=>lz e w w' g (P+5000) 2000:=by
  have hg:=Va hr;go_enter func41,ntmps41
  go_wp2_with (first | (go_at_call 68;refine(Jb g _ _ Ab AQ).mono ?_;rintro e wa ⟨op,v,ds,rfl,a6,hv,hs,hl,t,a7⟩;have aU:=hv;obtain⟨aa,cc,rfl,_,_⟩:=aU;obtain⟨bi,U,p0,q1,p1,S,p2,Y,p3,T,Z,O,p5⟩:EF wa w.heap.size:=EG) | (go_at_call 40;refine(Pg g _ _ Ab AQ).mono ?_;rintro e l ⟨rO,v2,ab,rfl,wH,aA,aL,a9,t,aO⟩;have ak:=aA;obtain⟨a2,c2,rfl,_,_⟩:=ak;obtain⟨bf,U,p0,q1,p1,S,p2,Y,p3,T,Z,O,p5⟩:EF l w.heap.size:=EG))
  have aE:Bi (λb=>w.heap.size<b) l (AE aa ds.length cc) ds:=((Ew hv).mono (KO AU)).keep (Ac.of_grown aO (λb d e=>by simp only[CZ] at e;omega));have aj:Bi (λb=>w.heap.size<b) l (AE a2 ab.length c2) ab:=(Ew aA).mono (KO AQ);have hB:∀b,b<l.heap.size->w.heap.size<b->w.heap.size<b/\b≠l.heap.size+1:=λb d h=>⟨h,AQ⟩
  have ap:NG w ((l.alloc (.cells #[AB rO,AE a2 ab.length c2] 51)).alloc (.cells #[AB 1,AB op,AE aa ds.length cc,AG,AE (some (AL l 0)) 1 1,AG] 62)) (l.heap.size+1) g (P+60) 20:=by
    refine⟨⟨⟨1,⟨op,ds⟩,[]⟩,[⟨rO,ab⟩],[]⟩,_,_,_,_,BG,(show Lr _ (l.heap.size+1) 1 op (AE aa ds.length cc) AG (AE (some (AL l 0)) 1 1) AG from BG),(aE.mono hB).keep BJ,Jr _ _,Dq.keep (Yk (b:=l.heap.size) (ns:=[⟨rO,ab⟩]) rfl (RowOf.one (cs:=[AB rO,AE a2 ab.length c2]) rfl ⟨_,rfl,aj.mono hB⟩) ⟨AQ,AQ⟩ AU) (Ac.of_below (Aa _ _)),Qr _ _,⟨_,rfl⟩,?_,?_,A2,A0⟩
    · refine(G5 _ _ _).2 ⟨Ht AY a6 hs AQ,λc hc=>?_,λ_ h=>BE⟩
      simp at hc;subst hc;exact⟨wH,aL,by show ab.length<=100000;omega⟩
    · rw[Fv,E5]
      simp[Gx,Pv];omega
  obtain⟨B,az⟩:=AA (l.heap.size+1)
  have a8:w.heap.size<B:=AQ
  rw[<-az] at ap;rw[<-az];clear hB az;go_loopw [6] (λi wr=>∃j:Nat,j<=n/\i=AB j/\NG w wr B g (P+60+100*j) (20+30*j)) (λi _=>n - (intOf i).toNat)
  case atStart=>exact⟨0,AQ,rfl,ap⟩
  case round=>
    clear ap aE aj hv aA hs aL;obtain⟨j,hj,rfl,A,av,nv,cv,kv,ai,ao,X,V,I,ac,⟨a5,rfl⟩,lQ,aQ,t,aI⟩:=hrel;obtain⟨a1,c1,rfl,-⟩:=id X;obtain⟨a3,c3,rfl,-⟩:=id V;obtain⟨a4,c4,rfl,-⟩:=id I;have an:Hid (Lr wr w.heap.size 0 0 AG AG AG AG):=ai;have al:Hid (Lr wr B A.net.kind A.net.one.op (AE a1 A.net.one.args.length c1) (AE a3 A.net.kids.length c3) (AE a4 A.coils.length c4) (AE a5 A.kids.length A.kids.length)):=ao;have HA:Hid (N9 (λb=>w.heap.size<b/\b≠B) wr [AB A.net.kind,AB A.net.one.op,AE a1 A.net.one.args.length c1,AE a3 A.net.kids.length c3,AE a4 A.coils.length c4,AE a5 A.kids.length A.kids.length] A):=⟨_,_,_,_,rfl,X,V,I,ac⟩
    obtain⟨ae,u,J,E,H,G,C,z,L,D,s,y,K⟩:=ao;by_cases ba:j<n
    · clear X V I ac ai
      go_upto_region 5 with fail
      go_cut [] (λwq=>NG w wq B g (P+120+100*j) (35+30*j))
      case first=>
       go_region_law (first | (go_simp;go_at_call 68;refine(Jb g _ _ Ab AQ).mono ?_;rintro e w5 ⟨kZ,v3,aB,rfl,aW,ak,aR,aF,t,aN⟩;have af:wr.grownBy w5 (some g):=⟨aN.os,aN.tape,aN.output,aN.size,aN.block⟩;obtain⟨b3,d3,rfl,_,_⟩:=id ak;have jR:Hid (Lr w5 B A.net.kind A.net.one.op (AE a1 A.net.one.args.length c1) (AE a3 A.net.kids.length c3) (AE a4 A.coils.length c4) (AE a5 A.kids.length A.kids.length)):=al.grownO af BA;clear u J E H G C z L D s y K;obtain⟨ae,u,J,E,H,G,C,z,L,D,s,y,K⟩:=jR.out) | (go_simp;go_at_call 40;refine(Pg g _ _ Ab AQ).mono ?_;rintro e m ⟨iR,v4,jV,rfl,aZ,aw,aP,aJ,t,aC⟩;obtain⟨b4,d4,rfl,_,_⟩:=id aw;have yN:Hid (Lr m B A.net.kind A.net.one.op (AE a1 A.net.one.args.length c1) (AE a3 A.net.kids.length c3) (AE a4 A.coils.length c4) (AE a5 A.kids.length A.kids.length)):=jR.grownO aC BA;clear u J E H G C z L D s y K;obtain⟨ae,u,J,E,H,G,C,z,L,D,s,y,K⟩:=yN.out))
       all_goals go_wp2
       all_goals go_meet
       all_goals
        have aT:Ac (λb=>w.heap.size<b/\b≠B) wr w5:=Ac.of_grown af (λb d e=>by have:=d.1;simp only[CZ] at e;omega);have aM:Ac (λb=>w.heap.size<b/\b≠B) w5 m:=Ac.of_grown aC (λb d e=>by have:=d.1;simp only[CZ] at e;omega);have jB:=al.1;have rQ:=af.size;have oU:=aC.size;have aX:Bi (λb=>w.heap.size<b/\b≠B) m (AE b3 aB.length d3) aB:=((Ew ak).mono (λb _ d=>by have e:wr.drew.heap.size=wr.heap.size:=rfl;omega)).keep aM;have aY:Bi (λb=>w.heap.size<b/\b≠B) m (AE b4 jV.length d4) jV:=(Ew aw).mono (λb _ d=>by omega);have aD:=(an.grownO af BA).grownO aC BA;have aV:=(HA.keep aT).keep aM;have bh:=t;have uZ:w.grownBy m (some g):=D5 (D5 aI af) aC;obtain⟨ah,U,q1,S,Y,T,O,p0,p1,p2,p3,Z,p5⟩:=id aD;have gX:=yN.out;clear an al jR yN HA ak aw af aC aN;have aS:¬(λb=>w.heap.size<b/\b≠B) B:=λh=>h.2 rfl
        have wM:∀v0 v1 v2 v3 v4 v5:Value,Ac (λb=>w.heap.size<b/\b≠B) m ((((((m.setCell (AK B 0) v0).setCell (AK B 1) v1).setCell (AK B 2) v2).setCell (AK B 3) v3).setCell (AK B 4) v4).setCell (AK B 5) v5):=λ_ _ _ _ _ _=>fq aS
        have aG:=Az9 (Q:=λb=>w.heap.size<b/\b≠B) (W:=(((((m.setCell (AK B 0) (AB 0)).setCell (AK B 1) (AB 0)).setCell (AK B 2) AG).setCell (AK B 3) AG).setCell (AK B 4) AG).setCell (AK B 5) (AE (some (AK (m.heap.size+1) 0)) 2 2)) (b:=m.heap.size) (kZ:=kZ) (iR:=iR) AU (aV.keep (wM _ _ _ _ _ _)) rfl (aX.keep (wM _ _ _ _ _ _)) (aY.keep (wM _ _ _ _ _ _)) ⟨AQ,AQ⟩ ⟨AQ,AQ⟩;simp only[C4,C5] at aG;refine⟨⟨⟨0,⟨0,[]⟩,[]⟩,[],[A,⟨⟨1,⟨kZ,aB⟩,[]⟩,[⟨iR,jV⟩],[]⟩]⟩,_,_,_,_,?_,((gX.six 0 0 AG AG AG (AE (some (AK (m.heap.size+1) 0)) 2 2)).alloc _).alloc _,Tc _ _,Jr _ _,Yj _ _,aG,⟨_,rfl⟩,Az8 lQ aW aZ aR aP aF aJ,?_,A2,A0⟩
        · exact(((((((aD.set AQ).set AQ).set AQ).set AQ).set AQ).set AQ).alloc _).alloc _
        · have:=j6 (kZ:=kZ) (iR:=iR) aQ aF aJ
          omega
      case rest=>
        obtain⟨M,av,nv,cv,kv,ai,ao,X,V,I,ac,⟨e4,rfl⟩,wF,bg,dP,lZ⟩:=hcut;obtain⟨e1,f1,rfl,-⟩:=id X;obtain⟨e2,f2,rfl,-⟩:=id V;obtain⟨e3,f3,rfl,-⟩:=id I;have dR:Hid (Bi (λb=>w.heap.size<b/\b≠B) wc (AE e1 M.net.one.args.length f1) M.net.one.args):=X;have qU:Hid (Dp (λb=>w.heap.size<b/\b≠B) wc (AE e2 M.net.kids.length f2) M.net.kids):=V;have rD:Hid (Dq (λb=>w.heap.size<b/\b≠B) wc (AE e3 M.coils.length f3) M.coils):=I;have qX:Hid (Em (λb=>w.heap.size<b/\b≠B) wc (AE e4 M.kids.length M.kids.length) M.kids):=ac;clear an al HA u J E H G C z L D s y K t aI X V I ac ae;obtain⟨ah,U,q1,S,Y,T,O,p0,p1,p2,p3,Z,p5⟩:=ai;obtain⟨ae,u,J,E,H,G,C,z,L,D,s,y,K⟩:=ao;have ag:∀b,(λb=>w.heap.size<b/\b≠B) b->¬g=b:=λb d e=>by have:=d.1;omega
        go_wp2_with (first | (go_at_call_of 37 (Value.int IntKind.i64 2);refine(Fp g _ _ _ Ab AQ AQ AQ).mono ?_;rintro e wd ⟨x,rfl,bc,bb,t,ax⟩;obtain⟨ah,U,p0,q1,p1,S,p2,Y,p3,T,Z,O,p5⟩:EF wd w.heap.size:=EG;obtain⟨ae,u,z,J,L,E,D,H,s,G,y,C,K⟩:EU wd B (AB M.net.kind) (AB M.net.one.op) (AE e1 M.net.one.args.length f1) (AE e2 M.net.kids.length f2) (AE e3 M.coils.length f3) (AE e4 M.kids.length M.kids.length):=qb6) | (go_at_call 68;refine(Jb g _ _ Ab AQ).mono ?_;rintro e F ⟨R,ev,f,rfl,bQ,dG,fJ,nR,t,au⟩;obtain⟨ea,ec,rfl,_,_⟩:=id dG;obtain⟨ah,U,p0,q1,p1,S,p2,Y,p3,T,Z,O,p5⟩:EF F w.heap.size:=EG;obtain⟨ae,u,z,J,L,E,D,H,s,G,y,C,K⟩:EU F B (AB M.net.kind) (AB M.net.one.op) (AE e1 M.net.one.args.length f1) (AE e2 M.net.kids.length f2) (AE e3 M.coils.length f3) (AE e4 M.kids.length M.kids.length):=qb6))
        · have q:Ac (λb=>w.heap.size<b/\b≠B) wc F:=(Ac.of_grown ax (λb d e=>ag b d (by simpa using e))).trans (Ac.of_grown au (λb d e=>ag b d (by simpa using e)))
          have ay:Bi (λb=>w.heap.size<b/\b≠B) F (AE ea f.length ec) f:=(Ew dG).mono (λb _ d=>by have:=ax.size;omega);refine⟨⟨j+1,AQ,by go_num,⟨⟨1,⟨R,f⟩,[]⟩,M.coils,M.kids⟩,_,_,_,_,BG,(show Lr _ B 1 R (AE ea f.length ec) AG (AE e3 M.coils.length f3) (AE e4 M.kids.length M.kids.length) from BG),ay.keep BJ,Jr _ _,(rD.keep q).keep BJ,(qX.keep q).keep BJ,⟨_,rfl⟩,(G5 _ _ _).2 ⟨Ht AY bQ fJ AQ,(Jj.both wF).1,(Jj.both wF).2⟩,?_,A2,A0⟩,by simp[intOf];omega⟩;have:=XF M ⟨1,⟨R,f⟩,[]⟩
          have e9:G9 ⟨1,⟨R,f⟩,[]⟩=f.length:=by rw[E5];simp
          omega
        · have q:Ac (λb=>w.heap.size<b/\b≠B) wc wd:=Ac.of_grown ax (λb d e=>ag b d (by simpa using e))
          refine⟨⟨j+1,AQ,by go_num,M,_,_,_,_,BG,BG,dR.keep q,qU.keep q,rD.keep q,qX.keep q,⟨_,rfl⟩,wF,AQ,A2,A0⟩,by simp[intOf];omega⟩
    · obtain rfl:j=n:=by omega
      have rD:Hid (Dq (λb=>w.heap.size<b/\b≠B) wr (AE a4 A.coils.length c4) A.coils):=I;have qX:Hid (Em (λb=>w.heap.size<b/\b≠B) wr (AE a5 A.kids.length A.kids.length) A.kids):=ac;clear X V I ac HA an al;obtain⟨ah,U,q1,S,Y,T,O,p0,p1,p2,p3,Z,p5⟩:=ai;have ag:∀b,(λb=>w.heap.size<b/\b≠B) b->¬g=b:=λb d e=>by have:=d.1;omega
      go_wp2_with (go_at_call 68;refine(Jb g _ _ Ab AQ).mono ?_;rintro e F ⟨R,ev,f,rfl,bQ,dG,fJ,nR,t,au⟩;obtain⟨ea,ec,rfl,_,_⟩:=id dG;obtain⟨ah,U,p0,q1,p1,S,p2,Y,p3,T,Z,O,p5⟩:EF F w.heap.size:=EG;obtain⟨ae,u,z,J,L,E,D,H,s,G,y,C,K⟩:EU F B (AB A.net.kind) (AB A.net.one.op) (AE a1 A.net.one.args.length c1) (AE a3 A.net.kids.length c3) (AE a4 A.coils.length c4) (AE a5 A.kids.length A.kids.length):=qb6)
      have q:Ac (λb=>w.heap.size<b/\b≠B) wr F:=Ac.of_grown au (λb d e=>ag b d (by simpa using e));have ay:Bi (λb=>w.heap.size<b/\b≠B) F (AE ea f.length ec) f:=(Ew dG).mono (λb _ d=>by omega);have ar:∀(W:World) (b:Nat),b<W.heap.size->w.heap.size<b/\b≠B->w.heap.size<=b:=λ_ b _ h=>by omega
      refine bodyPost_ret (by simp[results,results41,go_sem,U,q1,S,Y,T,O];rfl) rfl ?_;refine⟨⟨⟨1,⟨R,f⟩,[]⟩,A.coils,A.kids⟩,_,_,_,_,rfl,Bi.mono (ay.keep BJ) (ar _),Jr _ _,Dq.mono ((rD.keep q).keep BJ) (ar _),Em.mono ((qX.keep q).keep BJ) (ar _),⟨_,rfl⟩,(G5 _ _ _).2 ⟨Ht AY bQ fJ AQ,(Jj.both lQ).1,(Jj.both lQ).2⟩,?_,A2,A0⟩;have:=XF A ⟨1,⟨R,f⟩,[]⟩
      have e9:G9 ⟨1,⟨R,f⟩,[]⟩=f.length:=by rw[E5];simp
      omega
theorem Axr (n g P:Nat)(w:World)(f:n<=20)(hr:Ig w g P)(k:P<=100000000):
    Calls prog 41 #[AH g,AB n] w λe p=>JC e w p g (P+5000) 2000:=
  (OD n g P w f hr k).mono λ_ _ ⟨A,h,c,a,d,i,l,o,b,j,_,m⟩=>⟨A,h,c,a,d,i,l,o,b,j,m⟩
def NA (e:Ending)(w w':World)(g Q N k:Nat):Prop:=∃(l:List Stil.B8) (v:Value),e=.returned v/\Em (λb=>w.heap.size<=b) w' v l/\(∀a∈l,Jj a/\Gs a<=N)/\l.length<=k/\Ig w' g Q/\w.grownBy w' (some g)
def SZ (w0 b:World)(v:Value)(g Q k:Nat):Prop:=∃(c:List Stil.B8) (d:List Value),
  b.ownsRow w0.heap.size 62 6 v c.length d/\RowOf 6 (N9 (CX (w0.heap.size - 1) v) b) d c/\(∀a∈c,Jj a/\Gs a<=4000)/\c.length=k/\Ig b g Q/\w0.grownBy b (some g)
def lenV:Value->Nat
  | .slice _ n _=>n
  | _=>0
theorem PI {l:List Stil.B8}(h:∀a∈l,Jj a/\Gs a<=N)(c:N<=1000000):∀a∈l,Dh a:=λa b=>Awk a (Jj.wf a (h a b).1 (CJ (h a b).2 c)) (by have:=(h a b).2;omega)
theorem PG {l:List Stil.B8}(h:∀a∈l,Jj a/\Gs a<=N):Bz l<=l.length*(2+2*N):=by
  have:=MN Aj (2+2*N) l (λa b=>by have:=Awi a;have:=(h a b).2;omega)
  exact this
theorem eb {P:Nat->Prop}{w:World}{a:Option Addr}{n c:Nat}{l:List Stil.B8}(h:Em P w (AE a l.length c) l)(t:n<=l.length):Em P w (AE a n c) (l.take n):=by
  obtain⟨s,r,f,e,m⟩:=h;simp only[Value.slice.injEq] at f;obtain⟨rfl,-,rfl⟩:=f;have d:(l.take n).length=n:=by rw[FY];omega
  refine⟨a,c,by rw[d],⟨by rw[d];have:=e.1;omega,e.2⟩,λi hi=>?_⟩;rw[d] at hi;obtain⟨b,o,k,q,g,j⟩:=m i AQ;exact⟨b,o,k,q,g,by rw[List.getElem_take];exact j⟩
theorem xl (g P:Nat)(w:World)(hr:Ig w g P)(hP:P<=1000000):
    Calls prog 73 #[AH g] w λe w'=>NA e w w' g (P+60000) 4000 4:=by
  have hg:=Va hr;obtain⟨ia,ao,iI,iH,iG⟩:=info_parts Zd;go_enter func73,ntmps73;have aD:(w.alloc (.cells #[] 62)).ownsRow w.heap.size 62 6 (AE (some (AL w 0)) 0 0) 0 []:=by
    have:=World.ownsRow_lit (base:=w.heap.size) (e:=62) (size:=6) w #[] 0 AQ A6 rfl
    simpa using this
  go_upto_region 3 with(go_at_call_of 37 (Value.int IntKind.i64 24);refine(Fp g _ _ _ Ab AQ AQ AQ).mono ?_;rintro e wa ⟨x,rfl,a2,aA,sK,ak⟩)
  have ac:=AV (Bv aD ak AQ);have F:=D5 (Ea (Nq _ _) _) ak;have ay:=ak.size;rw[World.size_alloc] at ay;clear aD ak hr;by_cases hx:x=0
  · subst hx
    go_wp2_with (first | (go_at_call_of 39 (6:Nat);refine(X9 g _ _ _ [9,15,16,17,18,30] _ Ab AQ (Cm (by simp[Fz,go_sem])) AU BO AU AU).mono ?_;rintro e wb ⟨ag,rfl,hy,C,B⟩;simp only[DF,Da,DK] at hy;obtain⟨m,rfl⟩:∃m:Nat,ag=m:=⟨ag.toNat,AQ⟩) | (go_at_call 38;refine(OY m g _ _ AQ Ab AQ).mono ?_;rintro e H ⟨N,av,nv,rfl,Q,O,ht,aw,C,z⟩;have HA:=AV Q;have HN:=AV O;obtain⟨q,j,rfl,-⟩:=Q;obtain⟨f,s,rfl,-⟩:=O) | (go_at_call 40;refine(Pg g _ _ Ab AQ).mono ?_;rintro e t ⟨E,ev,D,rfl,bQ,dG,fJ,nR,C,ae⟩;have HE:=AV (Ew dG);obtain⟨ea,T,rfl,_,_⟩:=dG) | (at_builtin;refine wpList_append_own_at _ rfl _ _ 23 rfl w.heap.size 62 ia (.agg #[AB 0,AB 0,AG,AG,AG,AG]) 6 112 underlying23 ao iI iH iG rfl AY _ _ _ rfl (((Bv (Bv (Bv (ac.alloc _) B AQ) z AQ) ae AQ).alloc _).alloc _) _ _ _ [AB N.kind,AB N.one.op,AE q N.one.args.length j,AE f N.kids.length s,AE (some (AL t 0)) 1 1,AG] rfl rfl BP yAh A6 AQ (by simp only[World.size_alloc];have:=B.size;have:=z.size;have:=ae.size;simp only[World.size_alloc] at*;omega) ?_;intro v' M V S bT aW))
    have U:((t.alloc (.cells #[AB E,AE ea D.length T] 51)).alloc (.cells #[AB N.kind,AB N.one.op,AE q N.one.args.length j,AE f N.kids.length s,AE (some (AL t 0)) 1 1,AG] 62)).grownBy M (some w.heap.size):=S;have s1:=B.size;have s2:=z.size;have s3:=ae.size;simp only[World.size_alloc] at s1;have kg:∀{u v:World},u.grownBy v (some g)->Ac (λb=>w.heap.size<b) u v:=λh=>Ac.of_grown h (λb d e=>by simp only[CZ] at e;omega)
    have ka:∀(u:World) (o:Obj),Ac (λb=>w.heap.size<b) u (u.alloc o):=λu o=>Ac.of_below (Aa _ _)
    have k6:Ac (λb=>w.heap.size<b) ((t.alloc (.cells #[AB E,AE ea D.length T] 51)).alloc (.cells #[AB N.kind,AB N.one.op,AE q N.one.args.length j,AE f N.kids.length s,AE (some (AL t 0)) 1 1,AG] 62)) M:=Ac.of_grown U (λb d e=>by simp only[CZ] at e;omega);have hd:Bi (λb=>w.heap.size<b) ((t.alloc (.cells #[AB E,AE ea D.length T] 51)).alloc (.cells #[AB N.kind,AB N.one.op,AE q N.one.args.length j,AE f N.kids.length s,AE (some (AL t 0)) 1 1,AG] 62)) (AE q N.one.args.length j) N.one.args:=(((HA.mono (λb _ d=>by omega)).keep (kg ae)).keep (ka _ _)).keep (ka _ _);have hn:Dp (λb=>w.heap.size<b) ((t.alloc (.cells #[AB E,AE ea D.length T] 51)).alloc (.cells #[AB N.kind,AB N.one.op,AE q N.one.args.length j,AE f N.kids.length s,AE (some (AL t 0)) 1 1,AG] 62)) (AE f N.kids.length s) N.kids:=(((HN.mono (λb _ d=>by omega)).keep (kg ae)).keep (ka _ _)).keep (ka _ _);have he:Dq (λb=>w.heap.size<b) ((t.alloc (.cells #[AB E,AE ea D.length T] 51)).alloc (.cells #[AB N.kind,AB N.one.op,AE q N.one.args.length j,AE f N.kids.length s,AE (some (AL t 0)) 1 1,AG] 62)) (AE (some (AL t 0)) 1 1) [⟨E,D⟩]:=(Yk (b:=t.heap.size) (ns:=[⟨E,D⟩]) rfl (RowOf.one (cs:=[AB E,AE ea D.length T]) rfl ⟨_,rfl,HE.mono (λb _ d=>by omega)⟩) AQ AU).keep (ka _ _)
    have al:RowOf 6 (N9 (λb=>w.heap.size<=b) M) [AB N.kind,AB N.one.op,AE q N.one.args.length j,AE f N.kids.length s,AE (some (AL t 0)) 1 1,AG] [⟨N,[⟨E,D⟩],[]⟩]:=(RowOf.one (R:=N9 (λb=>w.heap.size<b) ((t.alloc (.cells #[AB E,AE ea D.length T] 51)).alloc (.cells #[AB N.kind,AB N.one.op,AE q N.one.args.length j,AE f N.kids.length s,AE (some (AL t 0)) 1 1,AG] 62))) (cs:=[AB N.kind,AB N.one.op,AE q N.one.args.length j,AE f N.kids.length s,AE (some (AL t 0)) 1 1,AG]) (a:=⟨N,[⟨E,D⟩],[]⟩) rfl ⟨_,_,_,_,rfl,hd,hn,he,Qr _ _⟩).imp λ_ _ _ h=>(h.keep k6).mono λb _ d=>K4 d
    go_ret;refine⟨[⟨N,[⟨E,D⟩],[]⟩],_,rfl,Fq (ns:=[⟨N,[⟨E,D⟩],[]⟩]) V al (λb d=>(V.lt _ d).1),?_,AU,?_,?_⟩
    · intro a ha
      rw[List.mem_singleton.1 ha];refine⟨(G5 _ _ _).2 ⟨ht,λc hc=>?_,λ_ h=>BE⟩,?_⟩
      · rw[List.mem_singleton.1 hc];exact⟨bQ,fJ,by show D.length<=100000;omega⟩
      · rw[Fv]
        simp only[Gx,Pv,CH,CO,CP,C3,DW,FH];omega
    · exact F6 (Fj (Bl (Bl C _) _) U (λk y=>by simp only[CZ] at y;omega)) AQ
    · exact J5 (Ea (Ea (D5 (D5 (D5 (Ea F _) B) z) ae) _) _) U (λk y=>by simp only[CZ] at y;omega)
  · by_cases aA:x=1
    · subst aA
      go_wp2_with (first | (go_at_call_of 39 (5:Nat);refine(X9 g _ _ _ [5,7,8,9,12] _ Ab AQ (Cm (by simp[Fz,go_sem])) AU BO AU AU).mono ?_;rintro e wb ⟨ag,rfl,hy,C,B⟩;simp only[DF,Da,DK] at hy;obtain⟨m,rfl⟩:∃m:Nat,ag=m:=⟨ag.toNat,AQ⟩) | (go_at_call 41;refine(Axr m g _ _ AQ Ab AQ).mono ?_;rintro e H ⟨A,av,nv,cv,kv,rfl,Q,O,aj,ai,ht,aw,C,z⟩;have HA:Hid (N9 (λb=>wb.heap.size<=b) H [AB A.net.kind,AB A.net.one.op,av,nv,cv,kv] A):=⟨av,nv,cv,kv,rfl,Q,O,aj,ai⟩;obtain⟨q,j,rfl,-⟩:=Q;obtain⟨f,s,rfl,-⟩:=O;obtain⟨K,L,rfl,-⟩:=aj;obtain⟨I,J,rfl,-⟩:=ai) | (at_builtin;refine wpList_append_own_at _ rfl _ _ 23 rfl w.heap.size 62 ia (.agg #[AB 0,AB 0,AG,AG,AG,AG]) 6 112 underlying23 ao iI iH iG rfl AY _ _ _ rfl ((Bv (Bv (ac.alloc _) B AQ) z AQ).alloc _) _ _ _ [AB A.net.kind,AB A.net.one.op,AE q A.net.one.args.length j,AE f A.net.kids.length s,AE K A.coils.length L,AE I A.kids.length J] rfl rfl BP yAh A6 AQ (by simp only[World.size_alloc];have:=B.size;have:=z.size;simp only[World.size_alloc] at*;omega) ?_;intro v' M V S bT aW))
      have U:(H.alloc (.cells #[AB A.net.kind,AB A.net.one.op,AE q A.net.one.args.length j,AE f A.net.kids.length s,AE K A.coils.length L,AE I A.kids.length J] 62)).grownBy M (some w.heap.size):=S;have s1:=B.size;have s2:=z.size;simp only[World.size_alloc] at s1;have k6:Ac (λb=>w.heap.size<b) (H.alloc (.cells #[AB A.net.kind,AB A.net.one.op,AE q A.net.one.args.length j,AE f A.net.kids.length s,AE K A.coils.length L,AE I A.kids.length J] 62)) M:=Ac.of_grown U (λb d e=>by simp only[CZ] at e;omega);have al:RowOf 6 (N9 (λb=>w.heap.size<=b) M) [AB A.net.kind,AB A.net.one.op,AE q A.net.one.args.length j,AE f A.net.kids.length s,AE K A.coils.length L,AE I A.kids.length J] [A]:=(RowOf.one (R:=N9 (λb=>w.heap.size<b) (H.alloc (.cells #[AB A.net.kind,AB A.net.one.op,AE q A.net.one.args.length j,AE f A.net.kids.length s,AE K A.coils.length L,AE I A.kids.length J] 62))) (cs:=[AB A.net.kind,AB A.net.one.op,AE q A.net.one.args.length j,AE f A.net.kids.length s,AE K A.coils.length L,AE I A.kids.length J]) (a:=A) rfl ((HA.mono (λb _ d=>by omega)).keep (Ac.of_below (Aa _ _)))).imp λ_ _ _ h=>(h.keep k6).mono λb _ d=>K4 d
      go_ret;refine⟨[A],_,rfl,Fq (ns:=[A]) V al (λb d=>(V.lt _ d).1),?_,AU,?_,?_⟩
      · intro a ha
        rw[List.mem_singleton.1 ha];exact⟨ht,AQ⟩
      · exact F6 (Fj (Bl C _) U (λk y=>by simp only[CZ] at y;omega)) AQ
      · exact J5 (Ea (D5 (D5 (Ea F _) B) z) _) U (λk y=>by simp only[CZ] at y;omega)
    · by_cases aN:x=2
      · subst aN
        go_wp2
        go_ret;exact⟨[],_,rfl,Fq (ns:=[]) ac (RowOf.nil _ _) (λb d=>(ac.lt _ d).1),λ_ h=>BE,AU,A2,A0⟩
      · go_wp2_with (go_at_call_of 37 (Value.int IntKind.i64 4);refine(Fp g _ _ _ Ab AQ AQ AQ).mono ?_;rintro e wb ⟨ag,rfl,aI,aP,bf,B⟩)
        have aM:=B.size;obtain⟨y2,aL⟩:=FP aI;subst aL;have ax:SZ w wb (AE (some (AL w 0)) 0 0) g (P+100+0*13000) 0:=⟨[],[],Bv ac B AQ,RowOf.nil _ _,λ_ h=>BE,rfl,F6 bf AQ,D5 F B⟩
        have aG:w.heap.size<=wb.heap.size:=AQ
        clear ac F B bf sK ay aM;go_loopw [3,4] (λo i wr=>∃af k:Nat,k+af=1+y2/\i=AB af/\w.heap.size<=wr.heap.size/\SZ w wr o g (P+100+k*13000) k) (λ_ i _=>(intOf i).toNat)
        case atStart=>exact⟨1+y2,0,AQ,by go_num,aG,ax⟩
        case round=>
          clear ax;obtain⟨af,k,a5,rfl,a6,G,ys,ap,az,aa,aE,C,F⟩:=hrel;subst aE;obtain⟨a0,c0,aF,-⟩:=Hg ap;subst aF;have Z:=AV ap;have an:=AV az;have X:=AV aa;clear ap az aa;by_cases aY:0<af
          · have uS:Hid (Calls prog 110 #[AH g,AB 2, .bool true] wr λe w'=>JC e wr w' g (P+100+G.length*13000+13000) 2600):=eA 2 2 true g _ wr AQ rfl C (by have e:Dm 2=13000:=rfl;rw[e];omega)
            go_wp2_with (first | (go_at_call 110;refine uS.mono ?_;rintro e H ⟨A,av,nv,cv,kv,rfl,Q,O,aj,ai,ht,aw,dP,z⟩;have HA:Hid (N9 (λb=>wr.heap.size<=b) H [AB A.net.kind,AB A.net.one.op,av,nv,cv,kv] A):=⟨av,nv,cv,kv,rfl,Q,O,aj,ai⟩;obtain⟨q,j,rfl,-⟩:=Q;obtain⟨f,s,rfl,-⟩:=O;obtain⟨K,L,rfl,-⟩:=aj;obtain⟨I,J,rfl,-⟩:=ai) | (at_builtin;refine wpList_append_own_at _ rfl _ _ 23 rfl w.heap.size 62 ia (.agg #[AB 0,AB 0,AG,AG,AG,AG]) 6 112 underlying23 ao iI iH iG rfl AY _ _ _ rfl ((Bv Z z AQ).alloc _) _ _ _ [AB A.net.kind,AB A.net.one.op,AE q A.net.one.args.length j,AE f A.net.kids.length s,AE K A.coils.length L,AE I A.kids.length J] rfl rfl BP yAh A6 AQ (by simp only[World.size_alloc];have:=z.size;omega) ?_;intro v' M V S bT aW))
            have s2:=z.size;have s6:=S.size;rw[World.size_alloc] at s6;have y:Ac (CX (w.heap.size - 1) (AE a0 G.length c0)) wr (H.alloc (.cells #[AB A.net.kind,AB A.net.one.op,AE q A.net.one.args.length j,AE f A.net.kids.length s,AE K A.coils.length L,AE I A.kids.length J] 62)):=(Ac.of_grown z (λb d e=>by have:=d.1;simp only[CZ] at e;omega)).trans (Ac.of_below (Aa _ _));have aO:∀b,b<H.heap.size->wr.heap.size<=b->CX (w.heap.size - 1) (AE a0 G.length c0) b:=λb _ d=>⟨AQ,λf=>by have h1:=(Z.lt _ f).2;omega⟩
            have kE:=VE (an.imp λ_ _ _ h=>h.keep y) (N9.keep (w:=H) (n:=A) (HA.mono aO) (Ac.of_below (Aa _ _))) rfl S aW;have el:(G++[A]).length=G.length+1:=AU
            refine⟨⟨af - 1,G.length+1,AQ,by go_num,AQ,G++[A],_,by rw[el];exact V,kE,?_,el,?_,?_⟩,by simp[intOf];omega⟩
            · intro c hc
              rcases List.mem_append.1 hc with hc | hc
              · exact X c hc
              · rw[List.mem_singleton.1 hc];exact⟨ht,AQ⟩
            · exact F6 (Fj (Bl dP _) S (λk y=>by have:=(Z.lt _ y).1;omega)) AQ
            · exact J5 (Ea (D5 F z) _) S (λk y=>(Z.lt _ y).1)
          · have aU:¬(0:Int)<af:=by omega
            have ab:Em (λb=>w.heap.size<=b) wr (AE a0 G.length c0) G:=Fq Z (an.imp λ_ _ _ h=>h.mono λb _ d=>by have:=d.1;omega) (λb d=>(Z.lt _ d).1);have au:∃l:List Stil.B8,Em (λb=>w.heap.size<=b) wr (AE a0 G.length c0) l/\(∀a∈l,Jj a/\Gs a<=4000)/\l.length<=4/\Ig wr g (P+55000)/\w.grownBy wr (some g):=⟨G,ab,X.out,AQ,F6 C AQ,F⟩
            clear ab Z an X C F
            go_wp2
            go_loopw [3] (λo wq=>∃l:List Stil.B8,Em (λb=>w.heap.size<=b) wq o l/\(∀a∈l,Jj a/\Gs a<=4000)/\l.length<=4/\Ig wq g (P+55000)/\w.grownBy wq (some g)) (λo _=>lenV o)
            case atStart=>exact au
            case round=>
              clear au;obtain⟨l,ab,aa,ar,C,F⟩:=hrel;obtain⟨a1,c1,rfl,aB,-⟩:=id ab;have aT:=aB.1;have uS:=AV ab;have X:=AV aa;have xN:=AV (OC l _ wr ab.at (by have:=PG aa;have:l.length*(2+2*4000)<=4*(2+2*4000):=FD _ ar;omega) (PI aa AQ));obtain⟨ah,hS⟩:=AA (Bz l)
              rw[<-hS] at xN;clear ab aa aB hS;by_cases aQ:l.length=0
              · have hz:decide (0<(l.length:Int))=false:=by rw[FQ];omega
                go_wp2
                go_ret;exact⟨l,_,rfl,uS.out,X.out,ar,F6 C AQ,F⟩
              · have aZ:0<(l.length:Int):=by omega
                have a3:(0:Int)<=(l.length:Int) - 1:=AQ
                have aV:(l.length:Int) - 1<=c1:=AQ
                have aS:((l.length:Int) - 1).toNat=l.length - 1:=AQ
                by_cases aX:400<ah
                · have aJ:(400:Int)<ah:=by omega
                  go_wp2_with (go_at_call 30;refine xN.mono ?_;rintro e w5 ⟨rfl,Y⟩)
                  have aR:(l.take (l.length - 1)).length=l.length - 1:=by rw[FY];omega
                  refine⟨⟨l.take (l.length - 1),eb (uS.keep (Ac.of_below Y)) AQ,λa ha=>X a (List.mem_of_mem_take ha),AQ,Fj C (grown_below Y none) (λk y=>by cases y),D5 F (grown_below Y _)⟩,?_⟩;show l.length - 1<l.length
                  omega
                · have aJ:¬(400:Int)<ah:=by omega
                  go_wp2_with (go_at_call 30;refine xN.mono ?_;rintro e w5 ⟨rfl,Y⟩)
                  go_ret;exact⟨l,_,rfl,uS.keep (Ac.of_below Y),X.out,ar,F6 (Fj C (grown_below Y none) (λk y=>by cases y)) AQ,D5 F (grown_below Y _)⟩
