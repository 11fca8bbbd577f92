import Derived.Test.YtmnnkedjoecehaaGreatDoorHa
set_option maxHeartbeats 4000000
set_option maxRecDepth 100000
namespace Go.Proofs.YtmnnkedjoecehaaGreatDoor
open Tryz Stil Go.RowKit Go.Sort Go.BigFrame
variable {N:Nat}{W:World}{cs:Array Value}{lI iW:Int}{v3 v4:Value}
theorem LY {P:Nat->Prop}{ns:List Stil.Elem}{b:Nat}(c:b=W.heap.size)(h:RowOf 2 (N8 P W) cs.toList ns)(d:P b)(hl:ns.length<=1000):Dn P (W.alloc (.cells cs 46)) (AE (some (AK b 0)) ns.length ns.length) ns:=by
  subst c;have f:=World.ownsRow_lit (base:=W.heap.size) (e:=46) (size:=2) W cs ns.length AQ A6 yGb;refine Jr f (h.imp λcs a _ g=>g.keep (Ac.of_below (Aa _ _))) (λb c=>?_);have:W.heap.size=b:=by simpa[Value.ownBlock] using c
  exact this ▸ d
theorem js {P:Nat->Prop}{ns:List Stil.B9}{b:Nat}(c:b=W.heap.size)(h:RowOf 6 (Qb P W) cs.toList ns)(d:P b)(hl:ns.length<=1000):Fe P (W.alloc (.cells cs 62)) (AE (some (AK b 0)) ns.length ns.length) ns:=by
  subst c;have f:=World.ownsRow_lit (base:=W.heap.size) (e:=62) (size:=6) W cs ns.length AQ A6 yGb;refine Gi f (h.imp λcs a _ g=>g.keep (Ac.of_below (Aa _ _))) (λb c=>?_);have:W.heap.size=b:=by simpa[Value.ownBlock] using c
  exact this ▸ d
def NN (w0 c:World)(B g q N:Nat):Prop:=∃(A:Stil.B9) (h e f d:Value),Nr c w0.heap.size 0 0 AG AG AG AG/\Nr c B A.net.kind A.net.one.op h e f d/\
  Bj (λb=>w0.heap.size<b/\b≠B) c h A.net.one.args/\Dt (λb=>w0.heap.size<b/\b≠B) c e A.net.kids/\Dn (λb=>w0.heap.size<b/\b≠B) c f A.coils/\Fe (λb=>w0.heap.size<b/\b≠B) c d A.kids/\(∃a,d=AE a A.kids.length A.kids.length)/\Jw A/\Gt A<=N/\Ij c g q/\w0.grownBy c (some g)
def l6 (e:Ending)(w w':World)(g Q N:Nat):Prop:=∃(a:Stil.B9) (h d f c:Value),e=.returned (.agg #[AB a.net.kind,AB a.net.one.op,h,d,f,c])/\Bj (λb=>w.heap.size<=b) w' h a.net.one.args/\Dt (λb=>w.heap.size<=b) w' d a.net.kids/\Dn (λb=>w.heap.size<=b) w' f a.coils/\Fe (λb=>w.heap.size<=b) w' c a.kids/\(∃p,c=AE p a.kids.length a.kids.length)/\Jw a/\Gt a<=N/\Ij w' g Q/\w.grownBy w' (some g)
theorem fN {Q:Nat->Prop}{A:Stil.B9}{xs:List Value}{c a:List Stil.CC}{b:Nat}(d:b=W.heap.size)(f:Qb Q W xs A)(hx:xs.length=6)(i:Bj Q W v3 c)(l:Bj Q W v4 a)(j:Q b)(m:Q (b+1)):
    Fe Q ((W.alloc (.cells #[AB iW,v4] 46)).alloc (.cells (xs++[AB 1,AB lI,v3,AG,AE (some (AK b 0)) 1 1,AG]).toArray 62)) (AE (some (AK (b+1) 0)) 2 2) [A,⟨⟨1,⟨lI,c⟩,[]⟩,[⟨iW,a⟩],[]⟩]:=by
  have e:Ac Q W (W.alloc (.cells #[AB iW,v4] 46)):=Ac.of_below (Aa _ _);have g:Dn Q (W.alloc (.cells #[AB iW,v4] 46)) (AE (some (AK b 0)) 1 1) [⟨iW,a⟩]:=LY (ns:=[⟨iW,a⟩]) d (RowOf.one (cs:=[AB iW,v4]) rfl ⟨_,rfl,l⟩) j AU;have k:RowOf 6 (Qb Q (W.alloc (.cells #[AB iW,v4] 46))) (xs++[AB 1,AB lI,v3,AG,AE (some (AK b 0)) 1 1,AG]) [A,⟨⟨1,⟨lI,c⟩,[]⟩,[⟨iW,a⟩],[]⟩]:=(RowOf.one hx (f.keep e)).append (RowOf.one rfl ⟨_,_,_,_,rfl,i.keep e,Jk _ _,g,Tu _ _⟩);exact js (ns:=[A,⟨⟨1,⟨lI,c⟩,[]⟩,[⟨iW,a⟩],[]⟩]) (by rw[World.size_alloc,d]) (by simpa using k) m AU
theorem fL {A:Stil.B9}{b a:List Stil.CC}(g:Jw A)(i:-1000000<=lI/\lI<=1000000)(j:-1000000<=iW/\iW<=1000000)(k:∀d∈b,Small d)(l:∀d∈a,Small d)(m:b.length<=3)(n:a.length<=3):Jw ⟨⟨0,⟨0,[]⟩,[]⟩,[],[A,⟨⟨1,⟨lI,b⟩,[]⟩,[⟨iW,a⟩],[]⟩]⟩:=by
  refine(Hr _ _ _).2 ⟨Yl,λ_ h=>BE,λx f=>?_⟩;simp only[C7,EA,DR] at f;rcases f with rfl | rfl
  · exact g
  · refine(Hr _ _ _).2 ⟨Hl AY i k AQ,λc e=>?_,λ_ h=>BE⟩
    simp at e;subst e;exact⟨j,l,by show a.length<=100000;omega⟩
theorem lz {A:Stil.B9}{a b:List Stil.CC}(c:Gt A<=N)(d:a.length<=3)(e:b.length<=3):Gt ⟨⟨0,⟨0,[]⟩,[]⟩,[],[A,⟨⟨1,⟨lI,a⟩,[]⟩,[⟨iW,b⟩],[]⟩]⟩<=N+12:=by
  rw[Gm,Fa];simp[Gu,Qd,Gm ⟨1,⟨lI,a⟩,[]⟩,Fa 1];omega
theorem Nr.six {w:World}{b:Nat}{k op:Int}{i l m g:Value}(h:Nr w b k op i l m g)(d e:Int)(a f c kv':Value):Nr ((((((w.setCell (AK b 0) (AB d)).setCell (AK b 1) (AB e)).setCell (AK b 2) a).setCell (AK b 3) f).setCell (AK b 4) c).setCell (AK b 5) kv') b d e a f c kv':=by
  obtain⟨j,o,q1,q,r,x,v,s,n,p,y,t,u⟩:=h;refine⟨by simpa using j,?_,?_,?_,?_,?_,?_,?_,?_,?_,?_,?_,?_⟩<;>simp[go_sem, *]
theorem gR {R:Nat->Prop}{w:World}{b:Nat}{v0 e d c:Value}(a:¬R b):Ac R w ((((((w.setCell (AK b 0) v0).setCell (AK b 1) e).setCell (AK b 2) d).setCell (AK b 3) v3).setCell (AK b 4) v4).setCell (AK b 5) c):=(((((Ac.set a _).trans (Ac.set a _)).trans (Ac.set a _)).trans (Ac.set a _)).trans (Ac.set a _)).trans (Ac.set a _)
theorem W7 (M:Stil.B9)(n:Stil.B8):Gt ⟨n,M.coils,M.kids⟩<=Gt M+G9 n:=by
  obtain⟨m,cs,a⟩:=M;have c:=Gm n cs a;have b:=Gm m cs a;show Gt ⟨n,cs,a⟩<=Gt ⟨m,cs,a⟩+_
  omega
theorem Jw.both {a:Stil.B9}(h:Jw a):(∀c∈a.coils,Yh c)/\∀x∈a.kids,Jw x:=by
  obtain⟨n,cs,b⟩:=a;exact((Hr _ _ _).1 h).2
theorem wR (n g P:Nat)(w:World)(hn:n<=20)(hr:Ij w g P)(hP:P<=100000000):
    Calls prog 48 #[AH g,AB n] w λe w'=>l6 e w w' g (P+5000) 2000:=by
  have hg:=V8 hr;go_enter func48,ntmps48
  go_wp2_with (first | (go_at_call 50;refine(I5 g _ _ Av AQ).mono ?_;rintro e wa ⟨op,v,ds,rfl,aL,hv,hs,hl,s,a6⟩;have aX:=hv;obtain⟨aa,cc,rfl,_,_⟩:=aX;obtain⟨bc,S,p0,q1,p1,R,p2,X,p3,Y,p4,U,p5⟩:EG wa w.heap.size:=EJ) | (go_at_call 47;refine(Tq g _ _ Av AQ).mono ?_;rintro e l ⟨rM,v2,ac,rfl,wW,aw,aF,bf,s,aO⟩;have af:=aw;obtain⟨a2,c2,rfl,_,_⟩:=af;obtain⟨bg,S,p0,q1,p1,R,p2,X,p3,Y,p4,U,p5⟩:EG l w.heap.size:=EJ))
  have aB:Bj (λb=>w.heap.size<b) l (AE aa ds.length cc) ds:=((Fg hv).mono (KZ AU)).keep (Ac.of_grown aO (λb d e=>by simp only[C0] at e;omega));have cu:Bj (λb=>w.heap.size<b) l (AE a2 ac.length c2) ac:=(Fg aw).mono (KZ AQ);have hB:∀b,b<l.heap.size->w.heap.size<b->w.heap.size<b/\b≠l.heap.size+1:=λb d h=>⟨h,AQ⟩
  have an:NN w ((l.alloc (.cells #[AB rM,AE a2 ac.length c2] 46)).alloc (.cells #[AB 1,AB op,AE aa ds.length cc,AG,AE (some (AL l 0)) 1 1,AG] 62)) (l.heap.size+1) g (P+60) 20:=by
    refine⟨⟨⟨1,⟨op,ds⟩,[]⟩,[⟨rM,ac⟩],[]⟩,_,_,_,_,BG,(show Nr _ (l.heap.size+1) 1 op (AE aa ds.length cc) AG (AE (some (AL l 0)) 1 1) AG from BG),(aB.mono hB).keep BJ,Jk _ _,Dn.keep (LY (b:=l.heap.size) (ns:=[⟨rM,ac⟩]) rfl (RowOf.one (cs:=[AB rM,AE a2 ac.length c2]) rfl ⟨_,rfl,cu.mono hB⟩) ⟨AQ,AQ⟩ AU) (Ac.of_below (Aa _ _)),Tu _ _,⟨_,rfl⟩,?_,?_,A3,A2⟩
    · refine(Hr _ _ _).2 ⟨Hl AY aL hs AQ,λc hc=>?_,λ_ h=>BE⟩
      simp at hc;subst hc;exact⟨wW,aF,by show ac.length<=100000;omega⟩
    · rw[Gm,Fa]
      simp[Gu,Qd];omega
  obtain⟨B,ax⟩:=AA (l.heap.size+1)
  have a8:w.heap.size<B:=AQ
  rw[<-ax] at an;rw[<-ax];clear hB ax;go_loopw [6] (λi wr=>∃j:Nat,j<=n/\i=AB j/\NN w wr B g (P+60+100*j) (20+30*j)) (λi _=>n - (intOf i).toNat)
  case atStart=>exact⟨0,AQ,rfl,an⟩
  case round=>
    clear an aB cu hv aw hs aF;obtain⟨j,hj,rfl,A,av,nv,cv,kv,aj,al,V,T,F,Z,⟨a5,rfl⟩,lV,aT,s,aE⟩:=hrel;obtain⟨a1,c1,rfl,-⟩:=id V;obtain⟨a3,c3,rfl,-⟩:=id T;obtain⟨a4,c4,rfl,-⟩:=id F;have ak:Hid (Nr wr w.heap.size 0 0 AG AG AG AG):=aj;have ai:Hid (Nr wr B A.net.kind A.net.one.op (AE a1 A.net.one.args.length c1) (AE a3 A.net.kids.length c3) (AE a4 A.coils.length c4) (AE a5 A.kids.length A.kids.length)):=al;have HA:Hid (Qb (λb=>w.heap.size<b/\b≠B) wr [AB A.net.kind,AB A.net.one.op,AE a1 A.net.one.args.length c1,AE a3 A.net.kids.length c3,AE a4 A.coils.length c4,AE a5 A.kids.length A.kids.length] A):=⟨_,_,_,_,rfl,V,T,F,Z⟩
    obtain⟨ab,t,K,J,C,u,G,H,L,z,D,E,y⟩:=al;by_cases aZ:j<n
    · clear V T F Z aj
      go_upto_region 5 with fail
      go_cut [] (λwq=>NN w wq B g (P+120+100*j) (35+30*j))
      case first=>
       go_region_law (first | (go_simp;go_at_call 50;refine(I5 g _ _ Av AQ).mono ?_;rintro e w5 ⟨lI,v3,az,rfl,aP,af,aM,aG,s,aK⟩;have ae:wr.grownBy w5 (some g):=⟨aK.os,aK.tape,aK.output,aK.size,aK.block⟩;obtain⟨b3,d3,rfl,_,_⟩:=id af;have jV:Hid (Nr w5 B A.net.kind A.net.one.op (AE a1 A.net.one.args.length c1) (AE a3 A.net.kids.length c3) (AE a4 A.coils.length c4) (AE a5 A.kids.length A.kids.length)):=ai.grownO ae BD;clear t K J C u G H L z D E y;obtain⟨ab,t,K,J,C,u,G,H,L,z,D,E,y⟩:=jV.out) | (go_simp;go_at_call 47;refine(Tq g _ _ Av AQ).mono ?_;rintro e m ⟨iW,v4,jZ,rfl,aQ,au,aR,aJ,s,aC⟩;obtain⟨b4,d4,rfl,_,_⟩:=id au;have yZ:Hid (Nr m B A.net.kind A.net.one.op (AE a1 A.net.one.args.length c1) (AE a3 A.net.kids.length c3) (AE a4 A.coils.length c4) (AE a5 A.kids.length A.kids.length)):=jV.grownO aC BD;clear t K J C u G H L z D E y;obtain⟨ab,t,K,J,C,u,G,H,L,z,D,E,y⟩:=yZ.out))
       all_goals go_wp2
       all_goals go_meet
       all_goals
        have aV:Ac (λb=>w.heap.size<b/\b≠B) wr w5:=Ac.of_grown ae (λb d e=>by have:=d.1;simp only[C0] at e;omega);have aD:Ac (λb=>w.heap.size<b/\b≠B) w5 m:=Ac.of_grown aC (λb d e=>by have:=d.1;simp only[C0] at e;omega);have jE:=ai.1;have rQ:=ae.size;have oW:=aC.size;have aW:Bj (λb=>w.heap.size<b/\b≠B) m (AE b3 az.length d3) az:=((Fg af).mono (λb _ d=>by have e:wr.drew.heap.size=wr.heap.size:=rfl;omega)).keep aD;have aS:Bj (λb=>w.heap.size<b/\b≠B) m (AE b4 jZ.length d4) jZ:=(Fg au).mono (λb _ d=>by omega);have aA:=(ak.grownO ae BD).grownO aC BD;have aY:=(HA.keep aV).keep aD;have bb:=s;have vH:w.grownBy m (some g):=Ed (Ed aE ae) aC;obtain⟨ah,S,q1,R,X,Y,U,p0,p1,p2,p3,p4,p5⟩:=id aA;have gY:=yZ.out;clear ak ai jV yZ HA af au ae aC aK;have aU:¬(λb=>w.heap.size<b/\b≠B) B:=λh=>h.2 rfl
        have xB:∀v0 v1 v2 v3 v4 v5:Value,Ac (λb=>w.heap.size<b/\b≠B) m ((((((m.setCell (AK B 0) v0).setCell (AK B 1) v1).setCell (AK B 2) v2).setCell (AK B 3) v3).setCell (AK B 4) v4).setCell (AK B 5) v5):=λ_ _ _ _ _ _=>gR aU
        have aH:=fN (Q:=λb=>w.heap.size<b/\b≠B) (W:=(((((m.setCell (AK B 0) (AB 0)).setCell (AK B 1) (AB 0)).setCell (AK B 2) AG).setCell (AK B 3) AG).setCell (AK B 4) AG).setCell (AK B 5) (AE (some (AK (m.heap.size+1) 0)) 2 2)) (b:=m.heap.size) (lI:=lI) (iW:=iW) AU (aY.keep (xB _ _ _ _ _ _)) rfl (aW.keep (xB _ _ _ _ _ _)) (aS.keep (xB _ _ _ _ _ _)) ⟨AQ,AQ⟩ ⟨AQ,AQ⟩;simp only[C4,C5] at aH;refine⟨⟨⟨0,⟨0,[]⟩,[]⟩,[],[A,⟨⟨1,⟨lI,az⟩,[]⟩,[⟨iW,jZ⟩],[]⟩]⟩,_,_,_,_,?_,((gY.six 0 0 AG AG AG (AE (some (AK (m.heap.size+1) 0)) 2 2)).alloc _).alloc _,Tt _ _,Jk _ _,Y0 _ _,aH,⟨_,rfl⟩,fL lV aP aQ aM aR aG aJ,?_,A3,A2⟩
        · exact(((((((aA.set AQ).set AQ).set AQ).set AQ).set AQ).set AQ).alloc _).alloc _
        · have:=lz (lI:=lI) (iW:=iW) aT aG aJ
          omega
      case rest=>
        obtain⟨M,av,nv,cv,kv,aj,al,V,T,F,Z,⟨e4,rfl⟩,wQ,a9,dQ,mG⟩:=hcut;obtain⟨e1,f1,rfl,-⟩:=id V;obtain⟨e2,f2,rfl,-⟩:=id T;obtain⟨e3,f3,rfl,-⟩:=id F;have eY:Hid (Bj (λb=>w.heap.size<b/\b≠B) wc (AE e1 M.net.one.args.length f1) M.net.one.args):=V;have qU:Hid (Dt (λb=>w.heap.size<b/\b≠B) wc (AE e2 M.net.kids.length f2) M.net.kids):=T;have rC:Hid (Dn (λb=>w.heap.size<b/\b≠B) wc (AE e3 M.coils.length f3) M.coils):=F;have vY:Hid (Fe (λb=>w.heap.size<b/\b≠B) wc (AE e4 M.kids.length M.kids.length) M.kids):=Z;clear ak ai HA t K J C u G H L z D E y s aE V T F Z ab;obtain⟨ah,S,q1,R,X,Y,U,p0,p1,p2,p3,p4,p5⟩:=aj;obtain⟨ab,t,K,J,C,u,G,H,L,z,D,E,y⟩:=al;have ag:∀b,(λb=>w.heap.size<b/\b≠B) b->¬g=b:=λb d e=>by have:=d.1;omega
        go_wp2_with (first | (go_at_call_of 24 (Value.int IntKind.i64 2);refine(Fv g _ _ _ Av AQ AQ AQ).mono ?_;rintro e wd ⟨x,rfl,a7,ba,s,ar⟩;obtain⟨ah,S,p0,q1,p1,R,p2,X,p3,Y,p4,U,p5⟩:EG wd w.heap.size:=EJ;obtain⟨ab,t,H,K,L,J,z,C,D,u,E,G,y⟩:Ek wd B (AB M.net.kind) (AB M.net.one.op) (AE e1 M.net.one.args.length f1) (AE e2 M.net.kids.length f2) (AE e3 M.coils.length f3) (AE e4 M.kids.length M.kids.length):=qb6) | (go_at_call 50;refine(I5 g _ _ Av AQ).mono ?_;rintro e I ⟨O,ev,f,rfl,cO,dR,iT,rX,s,ao⟩;obtain⟨ea,ec,rfl,_,_⟩:=id dR;obtain⟨ah,S,p0,q1,p1,R,p2,X,p3,Y,p4,U,p5⟩:EG I w.heap.size:=EJ;obtain⟨ab,t,H,K,L,J,z,C,D,u,E,G,y⟩:Ek I B (AB M.net.kind) (AB M.net.one.op) (AE e1 M.net.one.args.length f1) (AE e2 M.net.kids.length f2) (AE e3 M.coils.length f3) (AE e4 M.kids.length M.kids.length):=qb6))
        · have q:Ac (λb=>w.heap.size<b/\b≠B) wc I:=(Ac.of_grown ar (λb d e=>ag b d (by simpa using e))).trans (Ac.of_grown ao (λb d e=>ag b d (by simpa using e)))
          have ap:Bj (λb=>w.heap.size<b/\b≠B) I (AE ea f.length ec) f:=(Fg dR).mono (λb _ d=>by have:=ar.size;omega);refine⟨⟨j+1,AQ,by go_num,⟨⟨1,⟨O,f⟩,[]⟩,M.coils,M.kids⟩,_,_,_,_,BG,(show Nr _ B 1 O (AE ea f.length ec) AG (AE e3 M.coils.length f3) (AE e4 M.kids.length M.kids.length) from BG),ap.keep BJ,Jk _ _,(rC.keep q).keep BJ,(vY.keep q).keep BJ,⟨_,rfl⟩,(Hr _ _ _).2 ⟨Hl AY cO iT AQ,(Jw.both wQ).1,(Jw.both wQ).2⟩,?_,A3,A2⟩,by simp[intOf];omega⟩;have:=W7 M ⟨1,⟨O,f⟩,[]⟩
          have e9:G9 ⟨1,⟨O,f⟩,[]⟩=f.length:=by rw[Fa];simp
          omega
        · have q:Ac (λb=>w.heap.size<b/\b≠B) wc wd:=Ac.of_grown ar (λb d e=>ag b d (by simpa using e))
          refine⟨⟨j+1,AQ,by go_num,M,_,_,_,_,BG,BG,eY.keep q,qU.keep q,rC.keep q,vY.keep q,⟨_,rfl⟩,wQ,AQ,A3,A2⟩,by simp[intOf];omega⟩
    · obtain rfl:j=n:=by omega
      have rC:Hid (Dn (λb=>w.heap.size<b/\b≠B) wr (AE a4 A.coils.length c4) A.coils):=F;have vY:Hid (Fe (λb=>w.heap.size<b/\b≠B) wr (AE a5 A.kids.length A.kids.length) A.kids):=Z;clear V T F Z HA ak ai;obtain⟨ah,S,q1,R,X,Y,U,p0,p1,p2,p3,p4,p5⟩:=aj;have ag:∀b,(λb=>w.heap.size<b/\b≠B) b->¬g=b:=λb d e=>by have:=d.1;omega
      go_wp2_with (go_at_call 50;refine(I5 g _ _ Av AQ).mono ?_;rintro e I ⟨O,ev,f,rfl,cO,dR,iT,rX,s,ao⟩;obtain⟨ea,ec,rfl,_,_⟩:=id dR;obtain⟨ah,S,p0,q1,p1,R,p2,X,p3,Y,p4,U,p5⟩:EG I w.heap.size:=EJ;obtain⟨ab,t,H,K,L,J,z,C,D,u,E,G,y⟩:Ek I B (AB A.net.kind) (AB A.net.one.op) (AE a1 A.net.one.args.length c1) (AE a3 A.net.kids.length c3) (AE a4 A.coils.length c4) (AE a5 A.kids.length A.kids.length):=qb6)
      have q:Ac (λb=>w.heap.size<b/\b≠B) wr I:=Ac.of_grown ao (λb d e=>ag b d (by simpa using e));have ap:Bj (λb=>w.heap.size<b/\b≠B) I (AE ea f.length ec) f:=(Fg dR).mono (λb _ d=>by omega);have ay:∀(W:World) (b:Nat),b<W.heap.size->w.heap.size<b/\b≠B->w.heap.size<=b:=λ_ b _ h=>by omega
      refine bodyPost_ret (by simp[results,results48,go_sem,S,q1,R,X,Y,U];rfl) rfl ?_;refine⟨⟨⟨1,⟨O,f⟩,[]⟩,A.coils,A.kids⟩,_,_,_,_,rfl,Bj.mono (ap.keep BJ) (ay _),Jk _ _,Dn.mono ((rC.keep q).keep BJ) (ay _),Fe.mono ((vY.keep q).keep BJ) (ay _),⟨_,rfl⟩,(Hr _ _ _).2 ⟨Hl AY cO iT AQ,(Jw.both lV).1,(Jw.both lV).2⟩,?_,A3,A2⟩;have:=W7 A ⟨1,⟨O,f⟩,[]⟩
      have e9:G9 ⟨1,⟨O,f⟩,[]⟩=f.length:=by rw[Fa];simp
      omega
theorem Ax6 (n g P:Nat)(w:World)(b:n<=20)(hr:Ij w g P)(i:P<=100000000):
    Calls prog 48 #[AH g,AB n] w λe m=>JK e w m g (P+5000) 2000:=
  (wR n g P w b hr i).mono λ_ _ ⟨A,f,k,l,a,p,h,c,j,o,_,d⟩=>⟨A,f,k,l,a,p,h,c,j,o,d⟩
def S1 (e:Ending)(w w':World)(g Q N k:Nat):Prop:=∃(l:List Stil.B9) (v:Value),e=.returned v/\Fe (λb=>w.heap.size<=b) w' v l/\(∀a∈l,Jw a/\Gt a<=N)/\l.length<=k/\Ij w' g Q/\w.grownBy w' (some g)
def TF (w0 c:World)(v:Value)(g Q k:Nat):Prop:=∃(b:List Stil.B9) (d:List Value),
  c.ownsRow w0.heap.size 62 6 v b.length d/\RowOf 6 (Qb (CX (w0.heap.size - 1) v) c) d b/\(∀a∈b,Jw a/\Gt a<=4000)/\b.length=k/\Ij c g Q/\w0.grownBy c (some g)
def lenV:Value->Nat
  | .slice _ n _=>n
  | _=>0
theorem PT {l:List Stil.B9}(h:∀a∈l,Jw a/\Gt a<=N)(c:N<=1000000):∀a∈l,Dh a:=λa b=>Awx a (Jw.wf a (h a b).1 (CM (h a b).2 c)) (by have:=(h a b).2;omega)
theorem PS {l:List Stil.B9}(h:∀a∈l,Jw a/\Gt a<=N):Aw l<=l.length*(2+2*N):=by
  have:=MW Ak (2+2*N) l (λa b=>by have:=Awv a;have:=(h a b).2;omega)
  exact this
theorem f7 {P:Nat->Prop}{w:World}{a:Option Addr}{n c:Nat}{l:List Stil.B9}(h:Fe P w (AE a l.length c) l)(r:n<=l.length):Fe P w (AE a n c) (l.take n):=by
  obtain⟨s,t,e,f,k⟩:=h;simp only[Value.slice.injEq] at e;obtain⟨rfl,-,rfl⟩:=e;have d:(l.take n).length=n:=by rw[FP];omega
  refine⟨a,c,by rw[d],⟨by rw[d];have:=f.1;omega,f.2⟩,λi hi=>?_⟩;rw[d] at hi;obtain⟨b,o,j,g,m,q⟩:=k i AQ;exact⟨b,o,j,g,m,by rw[List.getElem_take];exact q⟩
theorem wN (g P:Nat)(w:World)(hr:Ij w g P)(hP:P<=1000000):
    Calls prog 23 #[AH g] w λe w'=>S1 e w w' g (P+60000) 4000 4:=by
  have hg:=V8 hr;obtain⟨ia,ao,iJ,iI,iH⟩:=info_parts KP;go_enter func23,ntmps23;have aA:(w.alloc (.cells #[] 62)).ownsRow w.heap.size 62 6 (AE (some (AL w 0)) 0 0) 0 []:=by
    have:=World.ownsRow_lit (base:=w.heap.size) (e:=62) (size:=6) w #[] 0 AQ A6 rfl
    simpa using this
  go_upto_region 3 with(go_at_call_of 24 (Value.int IntKind.i64 24);refine(Fv g _ _ _ Av AQ AQ AQ).mono ?_;rintro e wa ⟨x,rfl,aT,au,aJ,aj⟩)
  have ae:=AV (Cb aA aj AQ);have F:=Ed (Ei (Pj _ _) _) aj;have ay:=aj.size;rw[World.size_alloc] at ay;clear aA aj hr;by_cases hx:x=0
  · subst hx
    go_wp2_with (first | (go_at_call_of 46 (6:Nat);refine(FA g _ _ _ [9,15,16,17,18,30] _ Av AQ (Dp (by simp[Gn,go_sem])) AU BU AU AU).mono ?_;rintro e wb ⟨af,rfl,hy,B,C⟩;simp only[C7,EA,DR] at hy;obtain⟨m,rfl⟩:∃m:Nat,af=m:=⟨af.toNat,AQ⟩) | (go_at_call 45;refine(Ax4 m g _ _ AQ Av AQ).mono ?_;rintro e H ⟨N,av,nv,rfl,S,O,ht,aw,B,z⟩;have HA:=AV S;have HN:=AV O;obtain⟨q,s,rfl,-⟩:=S;obtain⟨f,j,rfl,-⟩:=O) | (go_at_call 47;refine(Tq g _ _ Av AQ).mono ?_;rintro e y ⟨E,ev,D,rfl,cO,dR,iT,rX,B,ac⟩;have HE:=AV (Fg dR);obtain⟨X,T,rfl,_,_⟩:=dR) | (at_builtin;refine wpList_append_own_at _ rfl _ _ 23 rfl w.heap.size 62 ia (.agg #[AB 0,AB 0,AG,AG,AG,AG]) 6 112 underlying23 ao iJ iI iH rfl AY _ _ _ rfl (((Cb (Cb (Cb (ae.alloc _) C AQ) z AQ) ac AQ).alloc _).alloc _) _ _ _ [AB N.kind,AB N.one.op,AE q N.one.args.length s,AE f N.kids.length j,AE (some (AL y 0)) 1 1,AG] rfl rfl BS yAg A6 AQ (by simp only[World.size_alloc];have:=C.size;have:=z.size;have:=ac.size;simp only[World.size_alloc] at*;omega) ?_;intro v' Q Y M bW aV))
    have bJ:((y.alloc (.cells #[AB E,AE X D.length T] 46)).alloc (.cells #[AB N.kind,AB N.one.op,AE q N.one.args.length s,AE f N.kids.length j,AE (some (AL y 0)) 1 1,AG] 62)).grownBy Q (some w.heap.size):=M;have s1:=C.size;have s2:=z.size;have s3:=ac.size;simp only[World.size_alloc] at s1;have kg:∀{u v:World},u.grownBy v (some g)->Ac (λb=>w.heap.size<b) u v:=λh=>Ac.of_grown h (λb d e=>by simp only[C0] at e;omega)
    have ka:∀(u:World) (o:Obj),Ac (λb=>w.heap.size<b) u (u.alloc o):=λu o=>Ac.of_below (Aa _ _)
    have k6:Ac (λb=>w.heap.size<b) ((y.alloc (.cells #[AB E,AE X D.length T] 46)).alloc (.cells #[AB N.kind,AB N.one.op,AE q N.one.args.length s,AE f N.kids.length j,AE (some (AL y 0)) 1 1,AG] 62)) Q:=Ac.of_grown bJ (λb d e=>by simp only[C0] at e;omega);have hd:Bj (λb=>w.heap.size<b) ((y.alloc (.cells #[AB E,AE X D.length T] 46)).alloc (.cells #[AB N.kind,AB N.one.op,AE q N.one.args.length s,AE f N.kids.length j,AE (some (AL y 0)) 1 1,AG] 62)) (AE q N.one.args.length s) N.one.args:=(((HA.mono (λb _ d=>by omega)).keep (kg ac)).keep (ka _ _)).keep (ka _ _);have hn:Dt (λb=>w.heap.size<b) ((y.alloc (.cells #[AB E,AE X D.length T] 46)).alloc (.cells #[AB N.kind,AB N.one.op,AE q N.one.args.length s,AE f N.kids.length j,AE (some (AL y 0)) 1 1,AG] 62)) (AE f N.kids.length j) N.kids:=(((HN.mono (λb _ d=>by omega)).keep (kg ac)).keep (ka _ _)).keep (ka _ _);have he:Dn (λb=>w.heap.size<b) ((y.alloc (.cells #[AB E,AE X D.length T] 46)).alloc (.cells #[AB N.kind,AB N.one.op,AE q N.one.args.length s,AE f N.kids.length j,AE (some (AL y 0)) 1 1,AG] 62)) (AE (some (AL y 0)) 1 1) [⟨E,D⟩]:=(LY (b:=y.heap.size) (ns:=[⟨E,D⟩]) rfl (RowOf.one (cs:=[AB E,AE X D.length T]) rfl ⟨_,rfl,HE.mono (λb _ d=>by omega)⟩) AQ AU).keep (ka _ _)
    have an:RowOf 6 (Qb (λb=>w.heap.size<=b) Q) [AB N.kind,AB N.one.op,AE q N.one.args.length s,AE f N.kids.length j,AE (some (AL y 0)) 1 1,AG] [⟨N,[⟨E,D⟩],[]⟩]:=(RowOf.one (R:=Qb (λb=>w.heap.size<b) ((y.alloc (.cells #[AB E,AE X D.length T] 46)).alloc (.cells #[AB N.kind,AB N.one.op,AE q N.one.args.length s,AE f N.kids.length j,AE (some (AL y 0)) 1 1,AG] 62))) (cs:=[AB N.kind,AB N.one.op,AE q N.one.args.length s,AE f N.kids.length j,AE (some (AL y 0)) 1 1,AG]) (a:=⟨N,[⟨E,D⟩],[]⟩) rfl ⟨_,_,_,_,rfl,hd,hn,he,Tu _ _⟩).imp λ_ _ _ h=>(h.keep k6).mono λb _ d=>LC d
    go_ret;refine⟨[⟨N,[⟨E,D⟩],[]⟩],_,rfl,Gi (ns:=[⟨N,[⟨E,D⟩],[]⟩]) Y an (λb d=>(Y.lt _ d).1),?_,AU,?_,?_⟩
    · intro a ha
      rw[List.mem_singleton.1 ha];refine⟨(Hr _ _ _).2 ⟨ht,λc hc=>?_,λ_ h=>BE⟩,?_⟩
      · rw[List.mem_singleton.1 hc];exact⟨cO,iT,by show D.length<=100000;omega⟩
      · rw[Gm]
        simp only[Gu,Qd,CH,CP,CQ,C6,DO,GH];omega
    · exact Gl (Fh (Ci (Ci B _) _) bJ (λk t=>by simp only[C0] at t;omega)) AQ
    · exact J8 (Ei (Ei (Ed (Ed (Ed (Ei F _) C) z) ac) _) _) bJ (λk t=>by simp only[C0] at t;omega)
  · by_cases au:x=1
    · subst au
      go_wp2_with (first | (go_at_call_of 46 (5:Nat);refine(FA g _ _ _ [5,7,8,9,12] _ Av AQ (Dp (by simp[Gn,go_sem])) AU BU AU AU).mono ?_;rintro e wb ⟨af,rfl,hy,B,C⟩;simp only[C7,EA,DR] at hy;obtain⟨m,rfl⟩:∃m:Nat,af=m:=⟨af.toNat,AQ⟩) | (go_at_call 48;refine(Ax6 m g _ _ AQ Av AQ).mono ?_;rintro e H ⟨A,av,nv,cv,kv,rfl,S,O,ai,ag,ht,aw,B,z⟩;have HA:Hid (Qb (λb=>wb.heap.size<=b) H [AB A.net.kind,AB A.net.one.op,av,nv,cv,kv] A):=⟨av,nv,cv,kv,rfl,S,O,ai,ag⟩;obtain⟨q,s,rfl,-⟩:=S;obtain⟨f,j,rfl,-⟩:=O;obtain⟨J,L,rfl,-⟩:=ai;obtain⟨I,K,rfl,-⟩:=ag) | (at_builtin;refine wpList_append_own_at _ rfl _ _ 23 rfl w.heap.size 62 ia (.agg #[AB 0,AB 0,AG,AG,AG,AG]) 6 112 underlying23 ao iJ iI iH rfl AY _ _ _ rfl ((Cb (Cb (ae.alloc _) C AQ) z AQ).alloc _) _ _ _ [AB A.net.kind,AB A.net.one.op,AE q A.net.one.args.length s,AE f A.net.kids.length j,AE J A.coils.length L,AE I A.kids.length K] rfl rfl BS yAg A6 AQ (by simp only[World.size_alloc];have:=C.size;have:=z.size;simp only[World.size_alloc] at*;omega) ?_;intro v' Q Y M bW aV))
      have bJ:(H.alloc (.cells #[AB A.net.kind,AB A.net.one.op,AE q A.net.one.args.length s,AE f A.net.kids.length j,AE J A.coils.length L,AE I A.kids.length K] 62)).grownBy Q (some w.heap.size):=M;have s1:=C.size;have s2:=z.size;simp only[World.size_alloc] at s1;have k6:Ac (λb=>w.heap.size<b) (H.alloc (.cells #[AB A.net.kind,AB A.net.one.op,AE q A.net.one.args.length s,AE f A.net.kids.length j,AE J A.coils.length L,AE I A.kids.length K] 62)) Q:=Ac.of_grown bJ (λb d e=>by simp only[C0] at e;omega);have an:RowOf 6 (Qb (λb=>w.heap.size<=b) Q) [AB A.net.kind,AB A.net.one.op,AE q A.net.one.args.length s,AE f A.net.kids.length j,AE J A.coils.length L,AE I A.kids.length K] [A]:=(RowOf.one (R:=Qb (λb=>w.heap.size<b) (H.alloc (.cells #[AB A.net.kind,AB A.net.one.op,AE q A.net.one.args.length s,AE f A.net.kids.length j,AE J A.coils.length L,AE I A.kids.length K] 62))) (cs:=[AB A.net.kind,AB A.net.one.op,AE q A.net.one.args.length s,AE f A.net.kids.length j,AE J A.coils.length L,AE I A.kids.length K]) (a:=A) rfl ((HA.mono (λb _ d=>by omega)).keep (Ac.of_below (Aa _ _)))).imp λ_ _ _ h=>(h.keep k6).mono λb _ d=>LC d
      go_ret;refine⟨[A],_,rfl,Gi (ns:=[A]) Y an (λb d=>(Y.lt _ d).1),?_,AU,?_,?_⟩
      · intro a ha
        rw[List.mem_singleton.1 ha];exact⟨ht,AQ⟩
      · exact Gl (Fh (Ci B _) bJ (λk t=>by simp only[C0] at t;omega)) AQ
      · exact J8 (Ei (Ed (Ed (Ei F _) C) z) _) bJ (λk t=>by simp only[C0] at t;omega)
    · by_cases aD:x=2
      · subst aD
        go_wp2
        go_ret;exact⟨[],_,rfl,Gi (ns:=[]) ae (RowOf.nil _ _) (λb d=>(ae.lt _ d).1),λ_ h=>BE,AU,A3,A2⟩
      · go_wp2_with (go_at_call_of 24 (Value.int IntKind.i64 4);refine(Fv g _ _ _ Av AQ AQ AQ).mono ?_;rintro e wb ⟨af,rfl,aM,aW,dn,C⟩)
        have aG:=C.size;obtain⟨y2,aK⟩:=FW aM;subst aK;have ar:TF w wb (AE (some (AL w 0)) 0 0) g (P+100+0*13000) 0:=⟨[],[],Cb ae C AQ,RowOf.nil _ _,λ_ h=>BE,rfl,Gl dn AQ,Ed F C⟩
        have aF:w.heap.size<=wb.heap.size:=AQ
        clear ae F C dn aJ ay aG;go_loopw [3,4] (λo i wr=>∃ab k:Nat,k+ab=1+y2/\i=AB ab/\w.heap.size<=wr.heap.size/\TF w wr o g (P+100+k*13000) k) (λ_ i _=>(intOf i).toNat)
        case atStart=>exact⟨1+y2,0,AQ,by go_num,aF,ar⟩
        case round=>
          clear ar;obtain⟨ab,k,aZ,rfl,a6,G,ys,ak,az,aa,aL,B,F⟩:=hrel;subst aL;obtain⟨a0,c0,aO,-⟩:=Hq ak;subst aO;have Z:=AV ak;have ap:=AV az;have kT:=AV aa;clear ak az aa;by_cases aS:0<ab
          · have uS:Hid (Calls prog 49 #[AH g,AB 2, .bool true] wr λe w'=>JK e wr w' g (P+100+G.length*13000+13000) 2600):=eR 2 2 true g _ wr AQ rfl B (by have e:D1 2=13000:=rfl;rw[e];omega)
            go_wp2_with (first | (go_at_call 49;refine uS.mono ?_;rintro e H ⟨A,av,nv,cv,kv,rfl,S,O,ai,ag,ht,aw,dQ,z⟩;have HA:Hid (Qb (λb=>wr.heap.size<=b) H [AB A.net.kind,AB A.net.one.op,av,nv,cv,kv] A):=⟨av,nv,cv,kv,rfl,S,O,ai,ag⟩;obtain⟨q,s,rfl,-⟩:=S;obtain⟨f,j,rfl,-⟩:=O;obtain⟨J,L,rfl,-⟩:=ai;obtain⟨I,K,rfl,-⟩:=ag) | (at_builtin;refine wpList_append_own_at _ rfl _ _ 23 rfl w.heap.size 62 ia (.agg #[AB 0,AB 0,AG,AG,AG,AG]) 6 112 underlying23 ao iJ iI iH rfl AY _ _ _ rfl ((Cb Z z AQ).alloc _) _ _ _ [AB A.net.kind,AB A.net.one.op,AE q A.net.one.args.length s,AE f A.net.kids.length j,AE J A.coils.length L,AE I A.kids.length K] rfl rfl BS yAg A6 AQ (by simp only[World.size_alloc];have:=z.size;omega) ?_;intro v' Q Y M bW aV))
            have s2:=z.size;have s6:=M.size;rw[World.size_alloc] at s6;have t:Ac (CX (w.heap.size - 1) (AE a0 G.length c0)) wr (H.alloc (.cells #[AB A.net.kind,AB A.net.one.op,AE q A.net.one.args.length s,AE f A.net.kids.length j,AE J A.coils.length L,AE I A.kids.length K] 62)):=(Ac.of_grown z (λb d e=>by have:=d.1;simp only[C0] at e;omega)).trans (Ac.of_below (Aa _ _));have aH:∀b,b<H.heap.size->wr.heap.size<=b->CX (w.heap.size - 1) (AE a0 G.length c0) b:=λb _ d=>⟨AQ,λf=>by have h1:=(Z.lt _ f).2;omega⟩
            have kH:=WM (ap.imp λ_ _ _ h=>h.keep t) (Qb.keep (w:=H) (n:=A) (HA.mono aH) (Ac.of_below (Aa _ _))) rfl M aV;have el:(G++[A]).length=G.length+1:=AU
            refine⟨⟨ab - 1,G.length+1,AQ,by go_num,AQ,G++[A],_,by rw[el];exact Y,kH,?_,el,?_,?_⟩,by simp[intOf];omega⟩
            · intro c hc
              rcases List.mem_append.1 hc with hc | hc
              · exact kT c hc
              · rw[List.mem_singleton.1 hc];exact⟨ht,AQ⟩
            · exact Gl (Fh (Ci dQ _) M (λk t=>by have:=(Z.lt _ t).1;omega)) AQ
            · exact J8 (Ei (Ed F z) _) M (λk t=>(Z.lt _ t).1)
          · have aU:¬(0:Int)<ab:=by omega
            have V:Fe (λb=>w.heap.size<=b) wr (AE a0 G.length c0) G:=Gi Z (ap.imp λ_ _ _ h=>h.mono λb _ d=>by have:=d.1;omega) (λb d=>(Z.lt _ d).1);have aB:∃l:List Stil.B9,Fe (λb=>w.heap.size<=b) wr (AE a0 G.length c0) l/\(∀a∈l,Jw a/\Gt a<=4000)/\l.length<=4/\Ij wr g (P+55000)/\w.grownBy wr (some g):=⟨G,V,kT.out,AQ,Gl B AQ,F⟩
            clear V Z ap kT B F
            go_wp2
            go_loopw [3] (λo wq=>∃l:List Stil.B9,Fe (λb=>w.heap.size<=b) wq o l/\(∀a∈l,Jw a/\Gt a<=4000)/\l.length<=4/\Ij wq g (P+55000)/\w.grownBy wq (some g)) (λo _=>lenV o)
            case atStart=>exact aB
            case round=>
              clear aB;obtain⟨l,V,aa,al,B,F⟩:=hrel;obtain⟨a1,c1,rfl,ax,-⟩:=id V;have aQ:=ax.1;have uS:=AV V;have kT:=AV aa;have yD:=AV (N4 l _ wr V.at (by have:=PS aa;have:l.length*(2+2*4000)<=4*(2+2*4000):=E6 _ al;omega) (PT aa AQ));obtain⟨ah,hS⟩:=AA (Aw l)
              rw[<-hS] at yD;clear V aa ax hS;by_cases a2:l.length=0
              · have hz:decide (0<(l.length:Int))=false:=by rw[Ft];omega
                go_wp2
                go_ret;exact⟨l,_,rfl,uS.out,kT.out,al,Gl B AQ,F⟩
              · have a3:0<(l.length:Int):=by omega
                have aX:(0:Int)<=(l.length:Int) - 1:=AQ
                have aY:(l.length:Int) - 1<=c1:=AQ
                have a5:((l.length:Int) - 1).toNat=l.length - 1:=AQ
                by_cases aR:400<ah
                · have aE:(400:Int)<ah:=by omega
                  go_wp2_with (go_at_call 32;refine yD.mono ?_;rintro e w5 ⟨rfl,U⟩)
                  have aP:(l.take (l.length - 1)).length=l.length - 1:=by rw[FP];omega
                  refine⟨⟨l.take (l.length - 1),f7 (uS.keep (Ac.of_below U)) AQ,λa ha=>kT a (List.mem_of_mem_take ha),AQ,Fh B (grown_below U none) (λk t=>by cases t),Ed F (grown_below U _)⟩,?_⟩;show l.length - 1<l.length
                  omega
                · have aE:¬(400:Int)<ah:=by omega
                  go_wp2_with (go_at_call 32;refine yD.mono ?_;rintro e w5 ⟨rfl,U⟩)
                  go_ret;exact⟨l,_,rfl,uS.keep (Ac.of_below U),kT.out,al,Gl (Fh B (grown_below U none) (λk t=>by cases t)) AQ,Ed F (grown_below U _)⟩
