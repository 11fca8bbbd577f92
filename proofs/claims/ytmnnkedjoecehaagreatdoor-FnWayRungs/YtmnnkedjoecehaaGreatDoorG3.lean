import Derived.Test.YtmnnkedjoecehaaGreatDoorG1
set_option maxHeartbeats 4000000
set_option maxRecDepth 100000
namespace Go.Proofs.YtmnnkedjoecehaaGreatDoor
open Tryz Stil Go.RowKit Go.Sort Go.BigFrame
theorem WQ (x:Stil.B8)(D:Ai x<=1000000)(m:FT 36 x (Bc x)):FT 67 x (Di x):=by
 intro j l w b d;have f:Hid (∀W,AO w W->Calls prog 36 #[.agg #[AB x.kind,AB x.one.op,j,l]] W (AN W (AB (Bc x)))):=λW h=>m j l W (b.below h) (d.below h)
 have t:=UW x;have a:Hid (Di x=if x.kind=1 then 1 else 1+Bc x):=rfl;have⟨g,q⟩:=AA (Bc x)
 have⟨T,p⟩:=AA (Di x)
 rw[<-q] at f t a;rw[<-p] at a ⊢;have⟨k,o⟩:=AA x.kind
 rw[<-o] at f a ⊢;obtain⟨z,C,rfl,r⟩:=b.shape;obtain⟨E,v,rfl,s,_⟩:=d.shape;clear m r s q p o b d;by_cases c:k=1
 ·subst c
  have i:Hid (T=1):=by show _=_;rw[a.out];rfl
  clear a;go_enter func67,ntmps67
  go_wp2
  go_ret;exact⟨Fj (by rw[i.out];rfl),AW⟩
 ·have i:Hid (T=1+g):=by show _=_;rw[a.out,if_neg c]
  have y:(k==1)=false:=by rw[CS];exact c
  clear a;go_enter func67,ntmps67
  go_wp2_with (go_at_call 36;refine(f _ AW).mono ?_;rintro e A ⟨rfl,B⟩)
  go_ret;exact⟨Fj (by rw[i.out];go_num),AW⟩
theorem YJ (n:Stil.B8):Aj n=0->Ai n<=1000000->FT 36 n (Bc n):=by
 induction n using Fp with
 | h k e kids D=>
  intro E F T nv w f c;simp only at f c;have z:=Oe E;simp only at z;have A:=F5 E;rw[Ej] at F;simp only at F;have s:∀x∈kids,Ai x<=1000000:=λx hx=>by have:Ai x<=Stil.sizes kids:=Eb Ai kids x hx;omega
  have K:kids.length<=999999:=by have:=Jl kids;omega
  obtain⟨p0,r0,rfl,C⟩:=f.shape;by_cases h1:k=1
  ·subst h1
   rw[Y8];obtain⟨p1,r1,rfl,Y,_⟩:=c.shape;clear C Y D s K E z A F f c;go_enter func36,ntmps36
   go_wp2
   go_ret;exact⟨rfl,AW⟩
  ·have al:kids≠[]:=by
    rcases A with⟨h,_⟩ | ⟨_,h,_⟩ | ⟨_,_,x,h,_⟩
    ·exact absurd h h1
    ·intro O;rw[O] at h;simp at h
    ·intro O;rw[O] at h;cases h
   obtain⟨x,r,rfl⟩:=M3 al;rw[Qq e x r h1];have jD:=AV (λW (h:AO w W)=>c.below h);obtain⟨p1,r1,rfl,ah,t⟩:=c.shape;obtain⟨b,o,rfl,S,g⟩:=t 0 AU;simp only[EO,FQ,ER] at g;have⟨x0,M,kC,jX,x2,x3,J,G⟩:=g.open;have H:Hid (∀W,AO w W->Calls prog 36 #[.agg #[AB x.kind,AB x.one.op,kC,jX]] W (AN W (AB (Bc x)))):=λW h=>D x AU (z x AU) (s x AU) kC jX W (J.below h) (G.below h)
   have HY:=AV (λy q=>WQ y (s y (CN _ q)) (D y (CN _ q) (z y (CN _ q)) (s y (CN _ q))));have HG:=AV V6;have⟨l,ab⟩:=AA (Bc x)
   rw[<-ab] at H ⊢;obtain⟨q0,s0,rfl,ak⟩:=J.shape;obtain⟨q1,s1,rfl,af,_⟩:=G.shape;have ap:r.length<=999998:=by simp only[CH] at K;omega
   have Q:k=4->r=[]:=by
    intro N;rcases A with⟨h,_⟩ | ⟨h,_,_⟩ | ⟨_,_,aw,h,_⟩
    ·omega
    ·omega
    ·simp only[List.cons.injEq] at h;exact h.2
   simp only[CH];have⟨m,B⟩:=AA r.length
   have Z:=AV B;rw[<-B] at ap ⊢;by_cases N:k=4
   ·subst N
    have aa:=Q rfl;have HR:Hid (Cc l (r.map Di)=l):=by show _=_;rw[aa];rfl
    rw[HR.out];have an:m=0:=by rw[B,aa];rfl
    subst an;clear C ak af t g ab D s K B ah f c J G E z A F aa Q HY HG jD Z;go_enter func36,ntmps36
    go_wp2_with (go_at_call 36;refine(H _ AW).mono ?_;rintro e u ⟨rfl,I⟩)
    go_ret;exact⟨rfl,AW⟩
   ·have aA:(k==1)=false:=by rw[CS];exact h1
    have ja:(k==4)=false:=by rw[CS];exact N
    clear C ak af t g ab D s K B ah f c J G E z A F Q;have az:(0:Int)<(m:Int)+1:=AQ
    go_enter func36,ntmps36
    go_wp2_with (go_at_call 36;refine(H _ AW).mono ?_;rintro e u ⟨rfl,I⟩;have y3:u.cell? (AL w 3)=some (AE (some (AK b o)) (m+1) r1):=(A0 I);have Y:w.heap.size<u.heap.size:=CB AU I.size)
    have aW:AO w u:=AW;clear I x0 M x2 x3 S H;go_loopw [3,4] (λd i wr=>∃(j L:Nat),j<=m/\i=AB ((j:Int)+1)/\d=AB L/\L=Cc l ((r.map Di).take j)/\AO u wr) (λ_ i _=>m+1 - (intOf i).toNat)
    case atStart=>exact⟨0,l,AQ,rfl,rfl,rfl,Below.refl _ _⟩
    case round=>
     obtain⟨j,L,hj,rfl,rfl,ae,hb⟩:=hrel;have HM:=AV ae;clear ae;have ag:=Bh aW hb;have um:=(hb.cell (p:=(AL w 3)) Y).trans y3;by_cases ar:j<m
     ·have aj:j<r.length:=by have:=Z.out;omega
      have⟨pa,pc,ai,_,t⟩:=(jD wr ag).shape;simp only[CH,Value.slice.injEq,true_and] at ai;obtain⟨rfl,rfl⟩:=ai;have⟨b2,o2,iY,S,g⟩:=t (j+1) (by simp only[CH];omega);simp only[C0,Addr.mk.injEq,FG] at iY;obtain⟨rfl,rfl⟩:=iY;simp only[K5] at g;have⟨x0,M,T,nv,x2,x3,f,c⟩:=g.open;have U:Hid (∀V,AO wr V->Calls prog 67 #[.agg #[AB r[j].kind,AB r[j].one.op,T,nv]] V (AN V (AB (Di r[j])))):=λV h=>HY r[j] (CJ aj) T nv V (f.below h) (c.below h)
      have P:Hid (Cc l ((r.map Di).take (j+1))=max (Cc l ((r.map Di).take j)) (Di r[j])):=by
       show _=_
       rw[Me (by rw[CW];exact aj),EH]
      have⟨y,q⟩:=AA (r[j])
      rw[<-q] at U P x0 M f c;have⟨fx,ac⟩:=AA (Di y)
      rw[<-ac] at U P;obtain⟨aD,ax,rfl,C⟩:=f.shape;obtain⟨aC,ay,rfl,kG,_⟩:=c.shape;have au:(0:Int)<=(j:Int)+1:=AQ
      have aE:(j:Int)+1<(m:Int)+1:=AQ
      have aB:((j:Int)+1).toNat=j+1:=AQ
      clear C kG q ac g t f c S
      go_wp2_with (first | (go_at_call 67;refine(U _ AW).mono ?_;rintro e w2 ⟨rfl,ao⟩) | (go_at_call 35;refine(HG _ _ _).mono ?_;rintro e w3 ⟨rfl,rfl⟩))
      refine⟨⟨j+1,max L fx,AQ,by go_num,rfl,?_,Bh hb ao⟩,by simp[intOf];omega⟩;rw[P.out,<-HM.out]
     ·obtain rfl:j=m:=by omega
      have X:=HM.out;rw[EC (by rw[CW,<-Z.out];exact CG _)] at X;have dZ:=AV X;clear X
      go_wp2
      go_ret;exact⟨Fj (by rw[dZ.out]),ag⟩
theorem wS (a:Stil.B9):Ak a<=1000000->E5 a->FN 37 a (Df a):=by
 induction a using Fq with
 | h n cs kids ih=>
  intro hs ap X nv cv kv w z r D t;simp only at z r D t;rw[Cf] at hs;have⟨_,gJ⟩:=(Eg _ _ _).1 ap;have ak:∀x∈kids,Ak x<=1000000:=λx l=>by have:Ak x<=Iu kids:=Eb Ak kids x l;omega
  have aQ:kids.length<=999999:=by have:=Oj kids;omega
  have IH:=AV (λx l=>ih x l (ak x l) (gJ x l));have aG:Hid (∀x∈kids,Ht x.net/\Stil.BK x.net<=999999):=by
   intro x l;have h1:=gJ x l;have h2:=ak x l;obtain⟨xn,xc,xk⟩:=x;rw[Cf] at h2;exact⟨((Eg _ _ _).1 h1).1,by simp only;omega⟩
  have jD:=AV (λW (h:AO w W)=>t.below h);have R:=AV V6;rw[Xd];obtain⟨p0,r0,rfl,O⟩:=z.shape;obtain⟨p1,r1,rfl,aa,_⟩:=r.shape;obtain⟨p2,r2,rfl,ag⟩:=D.shape;obtain⟨p3,r3,rfl,af,_⟩:=t.shape;clear O aa ag af hs ih ak z r D t gJ ap;go_enter func37,ntmps37
  go_wp2
  have⟨W,S⟩:=AA (w.alloc (.cells #[AB n.kind,AB n.one.op,AE p0 n.one.args.length r0,AE p1 n.kids.length r1,AE p2 cs.length r2,AE p3 kids.length r3] 62))
  rw[<-S];have aB:AO w W:=by rw[S];exact Aa _ _
  have nN:w.heap.size<W.heap.size:=by rw[S];simp
  have y5:W.cell? (AL w 5)=some (AE p3 kids.length r3):=by rw[S];simp[go_sem]
  clear S;go_loopw [3,4] (λd i wr=>∃(j m:Nat),j<=kids.length/\i=AB j/\d=AB m/\m=Cc 1 ((kids.map (λk=>Gz k.net (Df k))).take j)/\AO W wr) (λ_ i _=>kids.length - (intOf i).toNat)
  case atStart=>exact⟨0,1,AQ,rfl,rfl,rfl,Below.refl _ _⟩
  case round=>
   obtain⟨j,m,hj,rfl,rfl,hm,B⟩:=hrel;have HM:=AV hm;clear hm;by_cases hlt:j<kids.length
   ·have aF:=Bh aB B
    have⟨pa,pc,T,_,P⟩:=(jD wr aF).shape;simp only[Value.slice.injEq,true_and] at T;obtain⟨rfl,rfl⟩:=T;obtain⟨b,o,rfl,f,hn⟩:=P j hlt;have⟨az,cv,kv,x4,x5,D,t⟩:=hn.open;have⟨x0,x1,X,nv,x2,x3,z,r⟩:=az.open;have F:Hid (∀V,AO wr V->Calls prog 37 #[.agg #[AB kids[j].net.kind,AB kids[j].net.one.op,X,nv,cv,kv]] V (AN V (AB (Df kids[j])))):=λV h=>IH kids[j] (CJ hlt) X nv cv kv V (z.below h) (r.below h) (D.below h) (t.below h)
    have⟨J,ae⟩:=aG kids[j] (CJ hlt);have M:Hid (Cc 1 ((kids.map (λk=>Gz k.net (Df k))).take (j+1))=max (Cc 1 ((kids.map (λk=>Gz k.net (Df k))).take j)) (Gz kids[j].net (Df kids[j]))):=by
     show _=_
     rw[Me yEd,EH]
    have⟨x,l⟩:=AA (kids[j])
    rw[<-l] at F M x0 x1 z r D t J ae;have qf:=AV (λV (h:AO wr V)=>r.below h);have I:Hid (∀y,y∈Cj x.net->FT 67 y (Di y)):=by
     intro y s;have h1:=Ln x.net y s;have h2:Aj y=0:=by
      unfold Cj at s;split at s
      ·cases s
      ·rename_i h3
       have h4:=J.resolve_left h3;split at s
       ·exact Oe h4.2.2 y s
       ·rw[List.mem_singleton.1 s];exact h4.2.2
     exact WQ y AQ (YJ y h2 AQ)
    have aO:Hid (∀V,AO wr V->x.net∈Cj x.net->Calls prog 67 #[.agg #[AB x.net.kind,AB x.net.one.op,X,nv]] V (AN V (AB (Di x.net)))):=λV h hm=>I x.net hm X nv V (z.below h) (r.below h)
    have⟨c,ar⟩:=AA (Df x)
    rw[<-ar] at F M;obtain⟨q0,s0,rfl,O⟩:=z.shape;obtain⟨q1,s1,rfl,aa,_⟩:=r.shape;obtain⟨q2,s2,rfl,ag⟩:=D.shape;obtain⟨q3,s3,rfl,af,_⟩:=t.shape;have wF:=(B.cell (p:=(AL w 5)) nN).trans y5;have au:=CB nN B.size;have aJ:(0:Int)<=(j:Int):=AQ
    have aR:(j:Int)<(kids.length:Int):=AQ
    have oJ:Hid (∀Y:List Nat,max m (Cc c Y)=max (Cc m Y) c):=by
     intro Y;rw[NU Y c,NU Y m];omega
    clear O aa ag af l ar hn az P z r D t;by_cases A:Am x.net=true
    ·have aE:x.net.kind=0:=by rw[Yw A];rfl
     have K:Hid (max (Cc 1 ((kids.map (λk=>Gz k.net (Df k))).take j)) (Gz x.net c)=max (Cc 1 ((kids.map (λk=>Gz k.net (Df k))).take j)) c):=by
      show _=_
      have e:Cj x.net=[]:=if_pos A;unfold Gz;rw[e];rfl
     rw[aE] at F x0;clear A J ae I aO oJ qf
     go_wp2_with (first | (go_at_call 37;refine(F _ AW).mono ?_;rintro e w7 ⟨rfl,U⟩;have N:AO wr w7:=Bh AW U) | (go_at_call 35;refine(R _ _ _).mono ?_;rintro e g ⟨rfl,rfl⟩))
     refine⟨⟨j+1,max m c,AQ,by go_num,rfl,?_,Bh B N⟩,by simp[intOf];omega⟩;rw[M.out,K.out,<-HM.out]
    ·have nO:=J.resolve_left A
     have an:=fX nO;by_cases ab:x.net.kind=2
     ·have E:Cj x.net=x.net.kids:=by unfold Cj;rw[if_neg A,if_pos ab]
      have K:Hid (max (Cc 1 ((kids.map (λk=>Gz k.net (Df k))).take j)) (Gz x.net c)=max (Cc m (x.net.kids.map Di)) c):=by
       show _=_
       rw[<-HM.out];unfold Gz;rw[E];exact oJ _
      have aH:Hid (∀y,y∈x.net.kids->FT 67 y (Di y)):=by rw[E] at I;exact I.out
      have aN:x.net.kids.length<=999999:=by
       have e:Stil.BK x.net=Ai x.net:=if_neg A;have h1:=Jl x.net.kids;have h2:=Ej x.net;omega
      rw[ab] at F x0;clear A J ae I aO oJ nO an E;obtain⟨C,aC⟩:∃C:World,C=wr:=⟨wr,rfl⟩
      subst aC
      go_wp2
      have⟨H,Z⟩:=AA (C.alloc (.cells #[AB 2,AB x.net.one.op,AE q0 x.net.one.args.length s0,AE q1 x.net.kids.length s1] 59))
      rw[<-Z];have nY:AO C H:=by rw[Z];exact Aa _ _
      have aD:C.heap.size<H.heap.size:=by rw[Z];simp
      have v3:H.cell? (AL C 3)=some (AE q1 x.net.kids.length s1):=by rw[Z];simp[go_sem]
      clear Z;go_loopw [3,6] (λd i wr=>∃(u L:Nat),u<=x.net.kids.length/\i=AB u/\d=AB L/\L=Cc m ((x.net.kids.map Di).take u)/\AO H wr) (λ_ i _=>x.net.kids.length - (intOf i).toNat)
      case atStart=>exact⟨0,m,AQ,rfl,rfl,rfl,Below.refl _ _⟩
      case round=>
       obtain⟨u,L,hu,rfl,rfl,al,ah⟩:=hrel;have dZ:=AV al;clear al;have q:=Bh nY ah;have aK:=(ah.cell (p:=(AL C 3)) aD).trans v3;by_cases ai:u<x.net.kids.length
       ·have⟨pa,pc,T,_,P⟩:=(qf wr q).shape
        simp only[Value.slice.injEq,true_and] at T;obtain⟨rfl,rfl⟩:=T;obtain⟨bb,oo,rfl,aM,ax⟩:=P u ai;have⟨e0,e1,ao,aw,e2,e3,mO,sQ⟩:=ax.open;have HY:Hid (∀V,AO wr V->Calls prog 67 #[.agg #[AB x.net.kids[u].kind,AB x.net.kids[u].one.op,ao,aw]] V (AN V (AB (Di x.net.kids[u])))):=λV h=>aH _ (CJ ai) ao aw V (mO.below h) (sQ.below h)
        have aj:Hid (Cc m ((x.net.kids.map Di).take (u+1))=max (Cc m ((x.net.kids.map Di).take u)) (Di x.net.kids[u])):=by
         show _=_
         rw[Me (by rw[CW];exact ai),EH]
        have⟨y,s⟩:=AA (x.net.kids[u])
        rw[<-s] at HY aj e0 e1 mO sQ;have⟨fy,aA⟩:=AA (Di y)
        rw[<-aA] at HY aj;obtain⟨g0,f0,rfl,O⟩:=mO.shape;obtain⟨g1,f1,rfl,aa,_⟩:=sQ.shape;have aS:(0:Int)<=(u:Int):=AQ
        have aP:(u:Int)<(x.net.kids.length:Int):=AQ
        clear O aa s aA ax P mO sQ
        go_wp2_with (first | (go_at_call 67;refine(HY _ (by exact Below.refl _ _)).mono ?_;rintro e w6 ⟨rfl,ac⟩) | (go_at_call 35;refine(R _ _ _).mono ?_;rintro e g ⟨rfl,rfl⟩))
        refine⟨⟨u+1,max L fy,AQ,by go_num,rfl,?_,Bh ah ac⟩,by simp[intOf];omega⟩;rw[aj.out,<-dZ.out]
       ·obtain rfl:u=x.net.kids.length:=by omega
        have G:=dZ.out;rw[EC yFg] at G;have qo:=AV G;have z5:wr.cell? (AL w 5)=_:=(q.cell (p:=(AL w 5)) au).trans wF;have z0:wr.cell? (AK b (o+j*6))=_:=(q.cell (p:=(AK b (o+j*6))) f).trans x0;have z1:wr.cell? (AK b (o+j*6+1))=_:=(q.cell (p:=(AK b (o+j*6+1))) f).trans x1;have z2:wr.cell? (AK b (o+j*6+2))=_:=(q.cell (p:=(AK b (o+j*6+2))) f).trans x2;have z3:wr.cell? (AK b (o+j*6+3))=_:=(q.cell (p:=(AK b (o+j*6+3))) f).trans x3;have z4:wr.cell? (AK b (o+j*6+4))=_:=(q.cell (p:=(AK b (o+j*6+4))) f).trans x4;have z6:wr.cell? (AK b (o+j*6+5))=_:=(q.cell (p:=(AK b (o+j*6+5))) f).trans x5;clear G
        go_wp2_with (first | (go_at_call 37;refine(F _ (by exact q)).mono ?_;rintro e w7 ⟨rfl,U⟩;have N:=Bh q U) | (go_at_call 35;refine(R _ _ _).mono ?_;rintro e g ⟨rfl,rfl⟩))
        refine⟨⟨j+1,max L c,AQ,by go_num,rfl,?_,Bh B N⟩,by simp[intOf];omega⟩;rw[M.out,K.out,<-qo.out]
     ·have E:Cj x.net=[x.net]:=by unfold Cj;rw[if_neg A,if_neg ab]
      have K:Hid (max (Cc 1 ((kids.map (λk=>Gz k.net (Df k))).take j)) (Gz x.net c)=max (max m (Di x.net)) c):=by
       show _=_
       rw[<-HM.out];unfold Gz;rw[E];exact oJ _
      have yf:=AV (λV h=>aO V h (by rw[E];simp));have⟨tk,ay⟩:=AA (Di x.net)
      rw[<-ay] at yf K;have aI:(x.net.kind==0)=false:=by rw[CS];omega
      have aL:(x.net.kind==2)=false:=by rw[CS];exact ab
      clear A J ae I aO oJ nO an E ay qf;go_upto_region 14 with(first | (go_at_call 67;refine(yf _ (by exact Aa _ _)).mono ?_;rintro e w6 ⟨rfl,ac⟩;have v:=Bh (Aa _ _) ac) | (go_at_call 35;refine(R _ _ _).mono ?_;rintro e g ⟨rfl,rfl⟩))
      have z5:g.cell? (AL w 5)=_:=(v.cell (p:=(AL w 5)) au).trans wF;have z0:g.cell? (AK b (o+j*6))=_:=(v.cell (p:=(AK b (o+j*6))) f).trans x0;have z1:g.cell? (AK b (o+j*6+1))=_:=(v.cell (p:=(AK b (o+j*6+1))) f).trans x1;have z2:g.cell? (AK b (o+j*6+2))=_:=(v.cell (p:=(AK b (o+j*6+2))) f).trans x2;have z3:g.cell? (AK b (o+j*6+3))=_:=(v.cell (p:=(AK b (o+j*6+3))) f).trans x3;have z4:g.cell? (AK b (o+j*6+4))=_:=(v.cell (p:=(AK b (o+j*6+4))) f).trans x4;have z6:g.cell? (AK b (o+j*6+5))=_:=(v.cell (p:=(AK b (o+j*6+5))) f).trans x5;clear ac
      go_wp2_with (first | (go_at_call 37;refine(F _ (by exact v)).mono ?_;rintro e w7 ⟨rfl,U⟩;have N:=Bh (by exact v) U) | (go_at_call 35;refine(R _ _ _).mono ?_;rintro e g ⟨rfl,rfl⟩))
      refine⟨⟨j+1,max m (max tk c),AQ,by go_num,rfl,?_,Bh B N⟩,by simp[intOf];omega⟩;rw[M.out,K.out,Nat.max_assoc]
   ·obtain rfl:j=kids.length:=by omega
    have G:=HM.out;rw[EC yFg] at G;have dZ:=AV G;clear G;have wF:=(B.cell (p:=(AL w 5)) nN).trans y5
    go_wp2
    go_ret;exact⟨Fj (by rw[dZ.out]),Bh aB B⟩
theorem Ayb (l:List Stil.B9)(q:Value)(w:World)(g:E8 w q l)(hl:l.length<=1048576)(ak:Aw l<=1000000000)(P:∀x∈l,Dh x):
  Calls prog 16 #[q] w (AN w (AB (Jo l))):=by
 have HC:=AV (λW h=>N5 l q W (g.below h) hl ak P);have⟨kR,O,lQ⟩:=Kq P;have y:=Vo l;have D:Hid (Jo l=Cc 0 ((Aq l).map Jc)):=rfl;have⟨L,hL⟩:=AA (Aq l)
 rw[<-hL] at HC kR O lQ D y;have S:∀x∈L,Ak x<=400:=λx f=>CM (Uw f) O
 have IK:=AV (λx f=>wS x (by have:=S x f;omega) (y x f).1);have IB:Hid (∀x∈L,FT 36 x.net (Bc x.net)):=by
  intro x f;have h1:=S x f;have⟨h2,I⟩:=y x f;obtain⟨H,xc,xk⟩:=x;rw[Cf] at h1;simp only at I ⊢;have e:Stil.BK H=Ai H:=if_neg (by rw[I];exact FV);exact YJ H (((Eg _ _ _).1 h2).1.resolve_left (by rw[I];exact FV)).2.2 AQ
 have HG:=AV V6;rw[D.out];obtain⟨p0,r0,rfl,hz⟩:=g;clear hz P kR O D hL y S;go_enter func16,ntmps16
 go_wp2_with (go_at_call 34;refine(HC _ AW).mono ?_;rintro e M ⟨⟨a,c,X,rfl,hm,hrw⟩,hb1⟩;have Z:U0 M (AE a X.length c) L:=yBj;have af:=AV Z;have G:X.length=L.length:=(by rw[<-hm,CW]);rw[G] at af;rw[G];clear Z hrw hm G)
 go_loopw [4,5] (λd i wr=>∃(j m:Nat),j<=L.length/\i=AB j/\d=AB m/\m=Cc 0 ((L.map Jc).take j)/\AO M wr) (λ_ i _=>L.length - (intOf i).toNat)
 case atStart=>exact⟨0,0,AQ,rfl,rfl,rfl,Below.refl _ _⟩
 case round=>
  obtain⟨j,m,hj,rfl,rfl,hm,hb⟩:=hrel;have HM:=AV hm;clear hm;by_cases hlt:j<L.length
  ·have⟨pa,pc,ab,_,aa⟩:=(af.below hb).shape
   simp only[Value.slice.injEq,true_and] at ab;obtain⟨rfl,rfl⟩:=ab;obtain⟨b,o,rfl,aw,U⟩:=aa j hlt;have⟨ah,cv,q,x4,x5,A,g⟩:=U.open;have⟨R,C,z,B,Y,x3,v,u⟩:=ah.open;have N:Hid (∀V,AO wr V->Calls prog 37 #[.agg #[AB L[j].net.kind,AB L[j].net.one.op,z,B,cv,q]] V (AN V (AB (Df L[j])))):=λV h=>IK L[j] (CJ hlt) z B cv q V (v.below h) (u.below h) (A.below h) (g.below h)
   have F:Hid (∀V,AO wr V->Calls prog 36 #[.agg #[AB L[j].net.kind,AB L[j].net.one.op,z,B]] V (AN V (AB (Bc L[j].net)))):=λV h=>IB L[j] (CJ hlt) z B V (v.below h) (u.below h)
   have t:Hid (Cc 0 ((L.map Jc).take (j+1))=max (Cc 0 ((L.map Jc).take j)) (max (Bc L[j].net) (Df L[j]))):=by
    show _=_
    rw[Me yEd,EH];rfl
   have⟨x,f⟩:=AA (L[j])
   rw[<-f] at N F t R C v u A g;have⟨s,ae⟩:=AA (Df x)
   have⟨r,ai⟩:=AA (Bc x.net)
   rw[<-ae] at N t;rw[<-ai] at F t;obtain⟨q0,s0,rfl,al⟩:=v.shape;obtain⟨q1,s1,rfl,ar,_⟩:=u.shape;obtain⟨q2,s2,rfl,an⟩:=A.shape;obtain⟨q3,s3,rfl,aj,_⟩:=g.shape;have au:(0:Int)<=(j:Int):=AQ
   have ax:(j:Int)<(L.length:Int):=AQ
   clear al ar an aj f ae ai U ah aa v u A g;go_upto_region 6 with fail
   have k0:=cell_regrown R;have k1:=cell_regrown C;have k2:=cell_regrown Y;have k3:=cell_regrown x3;have k4:=cell_regrown x4;have k5:=cell_regrown x5;have ag:=AV (λV=>V3 (HG r s V));have Q:Hid (∀V,Calls prog 35 #[AB m,AB (max r s:Nat)] V (AN V (AB (max m (max r s):Nat)))):=λV=>V3 (HG m _ V)
   have⟨E,ac⟩:=AA (max r s)
   rw[<-ac] at ag Q t;have⟨K,J⟩:=AA (max m E)
   rw[<-J] at Q;have dJ:=AV J;clear R C Y x3 x4 x5 ac J;refine wp_region_quiet_below AX AX ?_;repeat (go_big_quiet_step ((first | exact Calls.regrown_of (F _ (G5 (Below.refl _ _) _ _)) | exact Calls.regrown_of (N _ (G5 (Below.refl _ _) _ _)) | exact Calls.regrown_of (ag _) | exact Calls.regrown_of (Q _))))
   refine wpQuiet_nil ?_;intro _ ao;obtain⟨⟨dq,osq⟩,ap⟩:=ao;subst ap
   go_wp2
   refine⟨⟨j+1,K,AQ,by go_num,rfl,?_,G5 hb _ _⟩,by simp[intOf];omega⟩;rw[t.out,<-HM.out,dJ.out]
  ·exact zo0
