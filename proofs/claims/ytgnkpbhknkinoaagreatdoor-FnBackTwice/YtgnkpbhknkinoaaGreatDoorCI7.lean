import Derived.Test.YtgnkpbhknkinoaaGreatDoorG2
import Derived.Test.YtgnkpbhknkinoaaGreatDoorCI1
set_option maxHeartbeats 4000000
set_option maxRecDepth 100000
namespace Go.Proofs.YtgnkpbhknkinoaaGreatDoor
open Tryz Stil Go.RowKit Go.Sort Go.BigFrame
theorem YJ(x:Stil.DI)(A:Ac x<=1000000)(q:Hj 75 x (Ak x)):Hj 106 x (Aq x):=by
 intro o r w j g;have l:=BX (λW(h:AO w W)=>q o r W (j.below h) (g.below h));have y:=WM x;have c:Hid (Aq x=if x.kind=1 then 1 else 1+Ak x):=rfl;have⟨i,p⟩:=AA (Ak x);have⟨T,s⟩:=AA (Aq x);rw[<-p]at l y c;rw[<-s]at c⊢;have⟨k,m⟩:=AA x.kind;rw[<-m]at l c⊢;obtain⟨D,z,rfl,v⟩:=j.S;obtain⟨G,F,rfl,t,_⟩:=g.S;clear q v t p s m j g;by_cases f:k=1
 .subst f;have d:Hid (T=1):=by show _=_;rw[c.out];rfl
  clear c;go_enter func106,ntmps106;go_wp2;go_ret;exact⟨Fg (by rw[d.out];rfl),BV⟩
 have d:Hid (T=1+i):=by show _=_;rw[c.out,BQ f]
 have E:(k==1)=false:=xAq;clear c;go_enter func106,ntmps106;go_wp2_with(go_at_call 75;refine(l _ BV).mo ?_;rintro e B⟨rfl,C⟩);go_ret;exact⟨Fg (by rw[d.out];go_num),BV⟩
theorem ZK(n:Stil.DI):Am n=0->Ac n<=1000000->Hj 75 n (Ak n):=by
 induction n using Gs with
 |h k e kids E=>
  intro B C S nv w f c;simp only at f c;have u:=Ny B;simp only at u;have hpt:=Fq B;rw[Dk]at C;simp only at C;have z:∀x∈kids,Ac x<=1000000:=λx hx=>by have:Ac x<=Stil.sizes kids:=Ey Ac kids x hx;omega
  have F:kids.length<=999999:=by have:=F5 kids;omega
  obtain⟨p0,r0,rfl,D⟩:=f.S;by_cases h1:k=1;{subst h1;rw[V4];obtain⟨p1,r1,rfl,O,_⟩:=c.S;clear D O E z F B u hpt C f c;go_enter func75,ntmps75;go_wp2;go_ret;exact⟨rfl,BV⟩}
  .have al:kids≠[]:=by
    exact zJa
   obtain⟨x,r,rfl⟩:=PE al;rw[Lh e x r h1];have fJ:=BX (λW(h:AO w W)=>c.below h);obtain⟨p1,r1,rfl,ai,t⟩:=c.S;obtain⟨b,o,rfl,aa,l⟩:=t 0 BU;simp only[II,GZ,IL]at l;have⟨x0,x1,fP,gJ,x2,x3,I,J⟩:=l.open;have G:=BX (λW(h:AO w W)=>E x BU (u x BU) (z x BU) fP gJ W (I.below h) (J.below h))
   have HY:=BX (λy q=>YJ y (z y (DY _ q)) (E y (DY _ q) (u y (DY _ q)) (z y (DY _ q))));have HG:=BX Vg;have⟨g,R⟩:=AA (Ak x)
   rw[<-R]at G⊢;obtain⟨q0,s0,rfl,ac⟩:=I.S;obtain⟨q1,s1,rfl,af,_⟩:=J.S;have an:r.length<=999998:=by simp only[DO]at F;omega
   have Q:k=4->r=[]:=by
    intro T;rcases hpt with⟨h,_⟩|⟨h,_,_⟩|⟨_,_,ax,h,_⟩
    .omega
    .omega
    .simp only[List.cons.injEq]at h;exact h.2
   simp only[DO];have⟨m,A⟩:=AA r.length
   have L:=BX A;rw[<-A]at an⊢;by_cases T:k=4
   .subst T
    have M:=Q rfl;have HR:Hid (A7 g (r.map Aq)=g):=by show _=_;rw[M];rfl
    rw[HR.out];have ak:m=0:=by rw[A,M];rfl
    subst ak;clear D ac af t l R E z F A ai f c I J B u hpt C M Q HY HG fJ L;go_enter func75,ntmps75
    go_wp2_with(go_at_call 75;refine(G _ BV).mo ?_;rintro e s⟨rfl,H⟩)
    go_ret;exact⟨rfl,BV⟩
   .have aC:(k==1)=false:=by rwa[DV]
    have xY:(k==4)=false:=xAq
    clear D ac af t l R E z F A ai f c I J B u hpt C Q;have aw:(0:Int)<(m:Int)+1:=BS
    go_enter func75,ntmps75
    go_wp2_with(go_at_call 75;refine(G _ BV).mo ?_;rintro e s⟨rfl,H⟩;have y3:s.c (AL w 3)=some (AE (some (AK b o)) (m+1) r1):=(B0 H);have O:w.z<s.z:=DL BU H.size)
    have dQ:AO w s:=BV;clear H x0 x1 x2 x3 aa G;go_loopw [3,4] (λd i wr=>∃(j K:Nat),j<=m/\i=AB ((j:Int)+1)/\d=AB K/\K=A7 g ((r.map Aq).take j)/\AO s wr) (λ_ i _=>m+1 - (intOf i).toNat)
    case atStart=>exact⟨0,g,BS,rfl,rfl,rfl,BP _ _⟩
    case round=>
     obtain⟨j,K,hj,rfl,rfl,ad,hb⟩:=hrel;have HM:=BX ad;clear ad;have ag:=Bd dQ hb;have ay:=(hb.cell (p:=(AL w 3)) O).tr y3;by_cases ao:j<m
     .have ab:j<r.length:=by have:=L.out;omega
      have⟨pa,pc,ah,_,t⟩:=(fJ wr ag).S;simp only[DO,BN,true_and]at ah;obtain⟨rfl,rfl⟩:=ah;have⟨b2,o2,yE,aa,l⟩:=t (j+1) yBe;simp only[E9,Addr.mk.injEq,Hh]at yE;obtain⟨rfl,rfl⟩:=yE;simp only[MX]at l;have⟨x0,x1,S,nv,x2,x3,f,c⟩:=l.open;have Y:=BX (λV(h:AO wr V)=>HY r[j] (DW ab) S nv V (f.below h) (c.below h))
      have X:Hid (A7 g ((r.map Aq).take (j+1))=max (A7 g ((r.map Aq).take j)) (Aq r[j])):=by
       show _=_
       rw[L8 xAz,FW]
      have⟨y,q⟩:=AA (r[j])
      rw[<-q]at Y X x0 x1 f c;have⟨U,ae⟩:=AA (Aq y)
      rw[<-ae]at Y X;obtain⟨ap,aA,rfl,D⟩:=f.S;obtain⟨aB,au,rfl,xH,_⟩:=c.S;have ar:(0:Int)<=(j:Int)+1:=BS
      have az:(j:Int)+1<(m:Int)+1:=BS
      have aD:((j:Int)+1).toNat=j+1:=BS
      clear D xH q ae l t f c aa
      go_wp2_with(first|(go_at_call 106;refine(Y _ BV).mo ?_;rintro e w2⟨rfl,aj⟩)|(go_at_call 74;refine(HG _ _ _).mo ?_;rintro e w3⟨rfl,rfl⟩))
      refine⟨⟨j+1,max K U,BS,by go_num,rfl,?_,Bd hb aj⟩,EX⟩;rw[X.out,<-HM.out]
     .obtain rfl:j=m:=by omega
      have N:=HM.out;rw[FB (by rw[DZ,<-L.out];exact DK _)]at N;have fV:=BX N;clear N
      go_wp2
      go_ret;exact⟨Fg yFd,ag⟩
theorem yu(a:Stil.DJ):Ah a<=1000000->Em a->GN 76 a (Bo a):=by
 induction a using Fv with
 |h n cs kids ih=>
  intro hs ax O nv cv kv w A s B v;simp only at A s B v;rw[Dw]at hs;have⟨_,fB⟩:=(Ec _ _ _).1 ax;have ag:∀x∈kids,Ah x<=1000000:=λx l=>by have:Ah x<=I4 kids:=Ey Ah kids x l;omega
  have aE:kids.length<=999999:=xBm;have IH:=BX (λx l=>ih x l (ag x l) (fB x l));have lK:Hid (∀x∈kids,Gp x.N/\Stil.CJ x.N<=999999):=by intro x l;have h1:=fB x l;have h2:=ag x l;obtain⟨xn,xc,xk⟩:=x;rw[Dw]at h2;exact⟨((Ec _ _ _).1 h1).1,yCh⟩
  have fJ:=BX (λW(h:AO w W)=>v.below h);have M:=BX Vg;rw[Oi];obtain⟨p0,r0,rfl,Y⟩:=A.S;obtain⟨p1,r1,rfl,N,_⟩:=s.S;obtain⟨p2,r2,rfl,ah⟩:=B.S;obtain⟨p3,r3,rfl,ai,_⟩:=v.S;clear Y N ah ai hs ih ag A s B v fB ax;go_enter func76,ntmps76;go_wp2;have⟨W,Z⟩:=AA (w.alloc (.cells #[AB n.kind,AB n.O.op,AE p0 n.O.args.length r0,AE p1 n.K.length r1,AE p2 cs.length r2,AE p3 kids.length r3] 59));rw[<-Z];have au:AO w W:=by rw[Z];exact Aa _ _
  have lS:w.z<W.z:=by rw[Z];simp
  have y5:W.c (AL w 5)=some (AE p3 kids.length r3):=by rw[Z];simp[go_sem]
  clear Z;go_loopw [3,4] (λd i wr=>∃(j m:Nat),j<=kids.length/\i=AB j/\d=AB m/\m=A7 1 ((kids.map (λk=>Gl k.N (Bo k))).take j)/\AO W wr) (λ_ i _=>kids.length - (intOf i).toNat);case atStart=>exact⟨0,1,BS,rfl,rfl,rfl,BP _ _⟩
  case round=>
   obtain⟨j,m,hj,rfl,rfl,hm,D⟩:=hrel;have HM:=BX hm;clear hm;by_cases hlt:j<kids.length
   .have aD:=Bd au D;have⟨pa,pc,aa,_,R⟩:=(fJ wr aD).S;simp only[BN,true_and]at aa;obtain⟨rfl,rfl⟩:=aa;obtain⟨b,o,rfl,f,hn⟩:=R j hlt;have⟨aj,cv,kv,x4,x5,B,v⟩:=hn.open;have⟨x0,x1,O,nv,x2,x3,A,s⟩:=aj.open;have F:=BX (λV(h:AO wr V)=>IH kids[j] (DW hlt) O nv cv kv V (A.below h) (s.below h) (B.below h) (v.below h));have⟨J,ac⟩:=lK kids[j] (DW hlt);have T:Hid (A7 1 ((kids.map (λk=>Gl k.N (Bo k))).take (j+1))=max (A7 1 ((kids.map (λk=>Gl k.N (Bo k))).take j)) (Gl kids[j].N (Bo kids[j]))):=(by show _=_;rw[L8 yDf,FW]);have⟨x,l⟩:=AA (kids[j]);(rw[<-l]at F T x0 x1 A s B v J ac;have eF:=BX (λV(h:AO wr V)=>s.below h);have I:Hid (∀y,y∈Bq x.N->Hj 106 y (Aq y)):=by (intro y r;have h1:=NQ x.N y r;have h2:Am y=0:=by unfold Bq at r;split at r;{cases r};rename_i h3;have h4:=J.resolve_left h3;split at r;{exact Ny h4.2.2 y r};rw[BB.1 r];exact h4.2.2);exact YJ y BS (ZK y h2 BS));have jb:=BX (λV(h:AO wr V)(hm:x.N∈Bq x.N)=>I x.N hm O nv V (A.below h) (s.below h));have⟨c,ap⟩:=AA (Bo x);rw[<-ap]at F T;obtain⟨q0,s0,rfl,Y⟩:=A.S;obtain⟨q1,s1,rfl,N,_⟩:=s.S;obtain⟨q2,s2,rfl,ah⟩:=B.S;obtain⟨q3,s3,rfl,ai,_⟩:=v.S;have zX:=(D.cell (p:=(AL w 5)) lS).tr y5;have ao:=DL lS D.size;have aH:(0:Int)<=(j:Int):=BS;have aL:(j:Int)<(kids.length:Int):=BS;have U:Hid (∀S:List Nat,max m (A7 c S)=max (A7 m S) c):=(by intro S;rw[P0 S c,P0 S m];omega);clear Y N ah ai l ap hn aj R A s B v;by_cases z:Ai x.N=true;{have az:x.N.kind=0:=(by rw[U3 z];rfl);have K:Hid (max (A7 1 ((kids.map (λk=>Gl k.N (Bo k))).take j)) (Gl x.N c)=max (A7 1 ((kids.map (λk=>Gl k.N (Bo k))).take j)) c):=(by show _=_;have e:Bq x.N=[]:=BR z;unfold Gl;rw[e];rfl);rw[az]at F x0;clear z J ac I jb U eF;go_wp2_with(first|(go_at_call 76;refine(F _ BV).mo ?_;rintro e w7⟨rfl,L⟩;have Q:AO wr w7:=Bd BV L)|(go_at_call 74;refine(M _ _ _).mo ?_;rintro e g⟨rfl,rfl⟩));refine⟨⟨j+1,max m c,BS,by go_num,rfl,?_,Bd D Q⟩,EX⟩;rw[T.out,K.out,<-HM.out]};have kH:=J.resolve_left z;have an:=fm kH;by_cases ad:x.N.kind=2
    .have H:Bq x.N=x.N.K:=(by unfold Bq;rw[BQ z,BR ad]);have K:Hid (max (A7 1 ((kids.map (λk=>Gl k.N (Bo k))).take j)) (Gl x.N c)=max (A7 m (x.N.K.map Aq)) c):=(by show _=_;rw[<-HM.out];unfold Gl;rw[H];exact U _);have xe:Hid (∀y,y∈x.N.K->Hj 106 y (Aq y)):=(by rw[H]at I;exact I.out);have aI:x.N.K.length<=999999:=(by have e:Stil.CJ x.N=Ac x.N:=BQ z;have h1:=F5 x.N.K;have h2:=Dk x.N;omega);rw[ad]at F x0;clear z J ac I jb U kH an H;obtain⟨C,aC⟩:∃C:AU,C=wr:=⟨wr,rfl⟩;subst aC;go_wp2;have⟨G,yI⟩:=AA (C.alloc (.cells #[AB 2,AB x.N.O.op,AE q0 x.N.O.args.length s0,AE q1 x.N.K.length s1] 56));(rw[<-yI];have fM:AO C G:=by rw[yI];exact Aa _ _);have aA:C.z<G.z:=(by rw[yI];simp);have v3:G.c (AL C 3)=some (AE q1 x.N.K.length s1):=(by rw[yI];simp[go_sem]);clear yI;go_loopw [3,6] (λd i wr=>∃(u m2:Nat),u<=x.N.K.length/\i=AB u/\d=AB m2/\m2=A7 m ((x.N.K.map Aq).take u)/\AO G wr) (λ_ i _=>x.N.K.length - (intOf i).toNat);case atStart=>exact⟨0,m,BS,rfl,rfl,rfl,BP _ _⟩
     case round=>obtain⟨u,m2,hu,rfl,rfl,al,af⟩:=hrel;have fV:=BX al;clear al;have q:=Bd fM af;have aK:=(af.cell (p:=(AL C 3)) aA).tr v3;by_cases l9:u<x.N.K.length;{have⟨pa,pc,aa,_,R⟩:=(eF wr q).S;simp only[BN,true_and]at aa;obtain⟨rfl,rfl⟩:=aa;obtain⟨bb,oo,rfl,aN,ar⟩:=R u l9;have⟨e0,e1,tu,zq,e2,e3,kX,oJ⟩:=ar.open;have HY:=BX (λV(h:AO wr V)=>xe _ (DW l9) tu zq V (kX.below h) (oJ.below h));have ae:Hid (A7 m ((x.N.K.map Aq).take (u+1))=max (A7 m ((x.N.K.map Aq).take u)) (Aq x.N.K[u])):=(by show _=_;rw[L8 xAz,FW]);have⟨y,r⟩:=AA (x.N.K[u]);rw[<-r]at HY ae e0 e1 kX oJ;have⟨fy,ay⟩:=AA (Aq y);rw[<-ay]at HY ae;obtain⟨g0,f0,rfl,Y⟩:=kX.S;obtain⟨g1,f1,rfl,N,_⟩:=oJ.S;have aM:(0:Int)<=(u:Int):=BS;have aG:(u:Int)<(x.N.K.length:Int):=BS;clear Y N r ay ar R kX oJ;go_wp2_with(first|(go_at_call 106;refine(HY _ (by exact BP _ _)).mo ?_;rintro e w6⟨rfl,ab⟩)|(go_at_call 74;refine(M _ _ _).mo ?_;rintro e g⟨rfl,rfl⟩));refine⟨⟨u+1,max m2 fy,BS,by go_num,rfl,?_,Bd af ab⟩,EX⟩;rw[ae.out,<-fV.out]};(obtain rfl:u=x.N.K.length:=by omega);have E:=fV.out;rw[FB yCj]at E;have aB:=BX E;have z5:wr.c (AL w 5)=_:=(q.cell (p:=(AL w 5)) ao).tr zX;have z0:wr.c (AK b (o+j*6))=_:=(q.cell (p:=(AK b (o+j*6))) f).tr x0;have z1:wr.c (AK b (o+j*6+1))=_:=(q.cell (p:=(AK b (o+j*6+1))) f).tr x1;have z2:wr.c (AK b (o+j*6+2))=_:=(q.cell (p:=(AK b (o+j*6+2))) f).tr x2;have z3:wr.c (AK b (o+j*6+3))=_:=(q.cell (p:=(AK b (o+j*6+3))) f).tr x3;have z4:wr.c (AK b (o+j*6+4))=_:=(q.cell (p:=(AK b (o+j*6+4))) f).tr x4;have z6:wr.c (AK b (o+j*6+5))=_:=(q.cell (p:=(AK b (o+j*6+5))) f).tr x5;clear E;go_wp2_with(first|(go_at_call 76;refine(F _ (by exact q)).mo ?_;rintro e w7⟨rfl,L⟩;have Q:=Bd q L)|(go_at_call 74;refine(M _ _ _).mo ?_;rintro e g⟨rfl,rfl⟩));refine⟨⟨j+1,max m2 c,BS,by go_num,rfl,?_,Bd D Q⟩,EX⟩;rw[T.out,K.out,<-aB.out]
    have H:Bq x.N=[x.N]:=(by unfold Bq;rw[BQ z,BQ ad]);have K:Hid (max (A7 1 ((kids.map (λk=>Gl k.N (Bo k))).take j)) (Gl x.N c)=max (max m (Aq x.N)) c):=(by show _=_;rw[<-HM.out];unfold Gl;rw[H];exact U _);have ak:=BX (λV h=>jb V h (by rw[H];simp));have⟨tk,aw⟩:=AA (Aq x.N);rw[<-aw]at ak K;have aJ:(x.N.kind==0)=false:=xAf;have aO:(x.N.kind==2)=false:=xAq;clear z J ac I jb U kH an H aw eF;go_upto_region 14 with(first|(go_at_call 106;refine(ak _ (by exact Aa _ _)).mo ?_;rintro e w6⟨rfl,ab⟩;have t:=Bd (Aa _ _) ab)|(go_at_call 74;refine(M _ _ _).mo ?_;rintro e g⟨rfl,rfl⟩));have z5:g.c (AL w 5)=_:=(t.cell (p:=(AL w 5)) ao).tr zX;have z0:g.c (AK b (o+j*6))=_:=(t.cell (p:=(AK b (o+j*6))) f).tr x0;have z1:g.c (AK b (o+j*6+1))=_:=(t.cell (p:=(AK b (o+j*6+1))) f).tr x1;have z2:g.c (AK b (o+j*6+2))=_:=(t.cell (p:=(AK b (o+j*6+2))) f).tr x2;have z3:g.c (AK b (o+j*6+3))=_:=(t.cell (p:=(AK b (o+j*6+3))) f).tr x3;have z4:g.c (AK b (o+j*6+4))=_:=(t.cell (p:=(AK b (o+j*6+4))) f).tr x4;have z6:g.c (AK b (o+j*6+5))=_:=(t.cell (p:=(AK b (o+j*6+5))) f).tr x5;clear ab;go_wp2_with(first|(go_at_call 76;refine(F _ (by exact t)).mo ?_;rintro e w7⟨rfl,L⟩;have Q:=Bd (by exact t) L)|(go_at_call 74;refine(M _ _ _).mo ?_;rintro e g⟨rfl,rfl⟩));refine⟨⟨j+1,max m (max tk c),BS,by go_num,rfl,?_,Bd D Q⟩,EX⟩;rw[T.out,K.out,Nat.max_assoc]
   (obtain rfl:j=kids.length:=by omega);have E:=HM.out;rw[FB yCj]at E;have fV:=BX E;clear E;have zX:=(D.cell (p:=(AL w 5)) lS).tr y5;go_wp2;go_ret;exact⟨Fg yFd,Bd au D⟩
theorem Axz(l:List Stil.DJ)(u:AW)(w:AU)(t:Dx w u l)(hl:l.length<=1048576)(ak:Au l<=1000000000)(U:∀x∈l,Bh x):
  Calls prog 40 #[u] w (AN w (AB (Hm l))):=by
 have HC:Hid (∀W,AO w W->Calls prog 73 #[u] W λe f=>(∃a c,e=.returned (.slice a (Aj l).length c)/\Vb f (.slice a (Aj l).length c) (Aj l))/\AO W f):=λW h=>Z5 l u W (t.below h) hl ak U;have⟨jS,R,nK⟩:=Ko U;have D:=U2 l;have Q:Hid (Hm l=A7 0 ((Aj l).map G9)):=rfl;have⟨L,hL⟩:=AA (Aj l);rw[<-hL]at HC jS R nK Q D;have M:∀x∈L,Ah x<=400:=λx g=>DR (Ud g) R;have IK:Hid (∀x∈L,GN 76 x (Bo x)):=λx g=>yu x (by have:=M x g;omega) (D x g).1;have IB:Hid (∀x∈L,Hj 75 x.N (Ak x.N)):=by intro x g;have h1:=M x g;have⟨h2,X⟩:=D x g;obtain⟨O,xc,xk⟩:=x;rw[Dw]at h1;simp only at X⊢;have e:Stil.CJ O=Ac O:=BQ (by rw[X];exact GF);exact ZK O (((Ec _ _ _).1 h2).1.resolve_left (by rw[X];exact GF)).2.2 BS
 have HG:Hid (∀(p q:Nat)(V:AU),Calls prog 74 #[AB p,AB q] V λe f=>e=.returned (AB (max p q:Nat))/\f=V):=Vg;rw[Q.out];obtain⟨p0,r0,rfl,hz⟩:=t;clear hz U jS R Q hL D M;go_enter func40,ntmps40;go_wp2_with(go_at_call 73;refine(HC _ BV).mo ?_;rintro e K⟨⟨a,c,rfl,ac⟩,ag⟩;have an:Hid (Vb K (AE a L.length c) L):=ac;clear ac);go_loopw [4,5] (λd i wr=>∃(j m:Nat),j<=L.length/\i=AB j/\d=AB m/\m=A7 0 ((L.map G9).take j)/\AO K wr) (λ_ i _=>L.length - (intOf i).toNat);case atStart=>exact⟨0,0,BS,rfl,rfl,rfl,BP _ _⟩
 case round=>
  obtain⟨j,m,hj,rfl,rfl,hm,Y⟩:=hrel;have HM:Hid (m=A7 0 ((L.map G9).take j)):=hm;clear hm;by_cases hlt:j<L.length;{have⟨pa,pc,ae,_,ab⟩:=(an.below Y).S;simp only[BN,true_and]at ae;obtain⟨rfl,rfl⟩:=ae;obtain⟨b,o,rfl,ax,hn⟩:=ab j hlt;have⟨Z,cv,u,x4,x5,A,t⟩:=hn.open;have⟨S,T,B,E,x2,x3,z,y⟩:=Z.open;have N:Hid (∀V,AO wr V->Calls prog 76 #[.agg #[AB L[j].N.kind,AB L[j].N.O.op,B,E,cv,u]] V (AN V (AB (Bo L[j])))):=λV h=>IK L[j] (DW hlt) B E cv u V (z.below h) (y.below h) (A.below h) (t.below h);have G:Hid (∀V,AO wr V->Calls prog 75 #[.agg #[AB L[j].N.kind,AB L[j].N.O.op,B,E]] V (AN V (AB (Ak L[j].N)))):=λV h=>IB L[j] (DW hlt) B E V (z.below h) (y.below h);have v:Hid (A7 0 ((L.map G9).take (j+1))=max (A7 0 ((L.map G9).take j)) (max (Ak L[j].N) (Bo L[j]))):=(by show _=_;rw[L8 yDf,FW];rfl);have⟨x,g⟩:=AA (L[j]);rw[<-g]at N G v S T z y A t;have⟨r,aa⟩:=AA (Bo x);have⟨s,ad⟩:=AA (Ak x.N);rw[<-aa]at N v;rw[<-ad]at G v;obtain⟨q0,s0,rfl,al⟩:=z.S;obtain⟨q1,s1,rfl,ai,_⟩:=y.S;obtain⟨q2,s2,rfl,ap⟩:=A.S;obtain⟨q3,s3,rfl,ar,_⟩:=t.S;have au:(0:Int)<=(j:Int):=BS;have aw:(j:Int)<(L.length:Int):=BS;clear al ai ap ar g aa ad hn Z ab z y A t;go_upto_region 6 with fail;have k0:=cell_regrown S;have k1:=cell_regrown T;have k2:=cell_regrown x2;have k3:=cell_regrown x3;have k4:=cell_regrown x4;have k5:=cell_regrown x5;have zM:Hid (∀V,Calls prog 74 #[AB s,AB r] V (AN V (AB (max s r:Nat)))):=λV=>Ve (HG s r V);have I:Hid (∀V,Calls prog 74 #[AB m,AB (max s r:Nat)] V (AN V (AB (max m (max s r):Nat)))):=λV=>Ve (HG m _ V);have⟨C,af⟩:=AA (max s r);rw[<-af]at zM I v;have⟨F,J⟩:=AA (max m C);(rw[<-J]at I;have aj:Hid (F=max m C):=J;clear S T x2 x3 x4 x5 af J;refine wp_region_quiet_below BW BW ?_;repeat(go_big_quiet_step ((first|exact Calls.regrown_of (G _ (I9 (BP _ _) _ _))|exact Calls.regrown_of (N _ (I9 (BP _ _) _ _))|exact Calls.regrown_of (zM _)|exact Calls.regrown_of (I _)))));refine wpQuiet_nil ?_;intro _ ao;obtain⟨⟨dq,osq⟩,ah⟩:=ao;subst ah;go_wp2;refine⟨⟨j+1,F,BS,by go_num,rfl,?_,I9 Y _ _⟩,EX⟩;rw[v.out,<-HM.out,aj.out]};obtain rfl:j=L.length:=by omega
  have H:=HM.out;rw[FB yCj]at H;have fV:Hid (m=A7 0 (L.map G9)):=H;clear H;go_wp2;go_ret;exact⟨Fg yFd,Bd ag Y⟩
theorem Axv(n:Stil.DI)(V:Gp n)(D:Cj n)(O:Stil.CJ n<=400):MO 108 n (A8 n):=by
 intro J S w bs ts h r q;have I:=ZG V;have C:Hid (∀y∈Bq n,UL 2 y (Dp 2 y)):=by
  intro y c;have B:Am y=0/\Cj y/\Ac y<=400:=by have h3:=NQ n y c;unfold Bq at c;split at c;{cases c};rename_i R;have ad:=V.resolve_left R;split at c;{exact⟨Ny ad.2.2 y c,(D8 D).2.2.2 y c,BS⟩};rw[BB.1 c]at h3⊢;exact⟨ad.2.2,D,BS⟩
  exact eW 2 (.inl rfl) y (D8 B.2.1).2.1.2.1 (by have:=SU y B.1;omega) λ_=>UF y (S0 y B.1) B.2.1 (DR B.2.2 BZ)
 have s:=Af (λW(h:AO w W)=>Yv n J S W (r.below h) (q.below h) D);have N:=Af (λW(h:AO w W)=>r.below h);have H:=Af (λW(h:AO w W)=>q.below h);have l:Hid (Bq n=if Ai n then [] else if n.kind=2 then n.K else [n]):=rfl;have g:Hid (A8 n=((Bq n).map (Dp 2)).flatten):=rfl;have hS:=h.alloc (.cells #[AB n.kind,AB n.O.op,J,S] 56);obtain⟨G,K,rfl,-⟩:=r;obtain⟨E,F,rfl,-⟩:=q;have ah:n.K.length<=1048576:=(D8 D).2.2.1;clear V D h;have⟨Y,ae⟩:=AA (Ai n);rw[<-ae]at s l;clear ae;cases Y with
 |true=>
  have aj:Hid (A8 n=[]):=by show _=_;rw[g.out,l.out];rfl
  rw[aj.out];clear l g C N H I;go_enter func108,ntmps108;go_wp2_with(go_at_call 91;refine(s _ BV).mo ?_;rintro e f⟨rfl,t⟩;replace hS:=hS.bel t);go_ret;exact⟨none,0,[],rfl,BJ _ _ _ _,hS.nil,BV⟩
 |false=>
  by_cases h2:n.kind=2
  .have x:Hid (Bq n=n.K):=(by show _=_;rw[l.out,BQ BZ,BR h2]);rw[x.out]at g C;rw[g.out];rw[h2]at s hS⊢;have dU:Hid (∀j,((n.K.take j).map (Dp 2)).flatten.length<=800):=by
    intro j;rw[g.out]at I;have h2:((n.K.take j).map (Dp 2)).flatten.length<=(n.K.map (Dp 2)).flatten.length:=by
     conv=>rhs;rw[<-KC j n.K,D2,FY,DT]
     omega
    omega
   have⟨m,T⟩:=AA n.K.length;have pX:=Af T;rw[<-T]at s ah hS⊢;clear l g x I h2 T N;have hA:=hS;clear hS;go_enter func108,ntmps108;go_wp2_with(go_at_call 91;refine(s _ BV).mo ?_;rintro e f⟨rfl,t⟩;have hS:=hA.bel t;obtain⟨Q,q0,p0,q1,p1,q2,p2,q3,p3⟩:Da f w.heap.size (AB 2) (AB n.O.op) (AE G n.O.args.length K) (AE E m F):=qB4);have dQ:RowKit.Below w.heap.size w f:=BV;have hb0:Da f w.heap.size (AB 2) (AB n.O.op) (AE G n.O.args.length K) (AE E m F):=qN4;clear q0 q1 q2 q3 p0 p1 p2 p3 t hA;go_loopw [3,4] (λd i wr=>∃(j:Nat)(L:List Stil.Aw)(ra:Option Ab)(rc:Nat)(xs:List AW),j<=m/\i=AB (j:Int)/\Hid (L=((n.K.take j).map (Dp 2)).flatten)/\L.length<=800/\d=AE ra L.length rc/\Da wr w.heap.size (AB 2) (AB n.O.op) (AE G n.O.args.length K) (AE E m F)/\wr.ownsRow (w.heap.size+1) 77 3 (AE ra L.length rc) L.length xs/\Sv wr (ob (AE ra L.length rc)++bs) ((Cc L,xs)::ts)/\AO w wr) (λ_ i _=>m - (intOf i).toNat);case atStart=>refine⟨0,[],some (AL f 0),0,[],BS,rfl,by show _=_;simp,BU,rfl,hb0.bel (Aa _ _),?_,(hS.box _).nil,BV⟩;have:=World.ownsRow_lit (base:=w.heap.size+1) (e:=77) (size:=3) f #[] 0 Q CH rfl;simpa using this
   case round=>clear hb0 hS dQ Q;obtain⟨j,L,ra,rc,xs,hj,rfl,HL,gU,rfl,hb0,hown,hS,hB⟩:=hrel;by_cases ag:j<m;{have U:j<n.K.length:=(by have:=pX.out;omega);have⟨pa,pc,af,aa⟩:=H wr hB;simp only[BN]at af;obtain⟨rfl,-,rfl⟩:=af;obtain⟨b,o,rfl,aI,R⟩:=aa j U;have⟨x0,x1,J,S,x2,x3,r,q⟩:=R.open;have z:=Af (λW(h:AO wr W)cs Z O=>C n.K[j] (DW U) J S W cs Z O (r.below h) (q.below h));have aF:Hid (((n.K.take (j+1)).map (Dp 2)).flatten=L++Dp 2 n.K[j]):=(by show _=_;rw[HL.out,ER U,D2,FY];simp);have hl2:=dU (j+1);rw[aF.out]at hl2;have⟨M,A⟩:=AA (Dp 2 n.K[j]);rw[<-A]at z aF hl2;have⟨y,c⟩:=AA (n.K[j]);rw[<-c]at z x0 x1 r q;obtain⟨u0,m0,rfl,-⟩:=r;obtain⟨u1,m1,rfl,-⟩:=q;have al:(0:Int)<=(j:Int):=BS;have an:(j:Int)<(m:Int):=BS;have ai:L.length+M.length<=2000000:=(by rw[DT]at hl2;omega);have HJ:=BX ag;clear c A R aa HL;have⟨Q,q0,p0,q1,p1,q2,p2,q3,p3⟩:=id hb0;go_wp2_with(first|(go_at_call 107;refine(z _ BV _ _ hS).mo ?_;rintro e w2⟨a2,c2,ys,rfl,X,hS,u⟩;have ao:=u.size;replace hown:=ownsRow_below hown u)|(at_builtin;go_loud (refine Bi rfl rfl (Vz _ hS hown X BS ai) rfl rfl ?_;rintro v3 w3⟨a3,c3,zs,rfl,hown3,hS3,ab⟩;replace hb0:=(hb0.bel u).gr ab (λe=>by have:=(hown.lt _ e).1;omega);have hB3:=(Bd hB u).grown ab BS (λk hk=>by have:=(hown.lt _ hk).1;omega))));exact zMa};exact zg0
  have x:Hid (Bq n=[n]):=by show _=_;rw[l.out,BQ BZ,BQ h2]
  have HL:Hid (A8 n=Dp 2 n):=by show _=_;rw[g.out,x.out];simp
  rw[HL.out];have z:=Af (λW(h:AO w W)cs Z O=>C n (by rw[x.out];exact .head _) _ _ W cs Z O (N W h) (H W h));have⟨M,A⟩:=AA (Dp 2 n);rw[<-A]at z⊢;have ap:(n.kind==2)=false:=xAq;clear l g x C I N H A HL;go_enter func108,ntmps108;go_wp2_with(first|(go_at_call 91;refine(s _ BV).mo ?_;rintro e f⟨rfl,t⟩;replace hS:=hS.bel t;obtain⟨Q,q0,p0,q1,p1,q2,p2,q3,p3⟩:A9 f w.heap.size n G K E F:=qB4;have ac:RowKit.Below w.heap.size w f:=BV)|(go_at_call 107;refine(z _ BV _ _ hS).mo ?_;rintro e w2⟨a2,c2,ys,rfl,X,ak,u⟩));go_ret;exact⟨a2,c2,ys,rfl,Joins.ownsRow_le X ac.size,ak,Bd ac u⟩
end Go.Proofs.YtgnkpbhknkinoaaGreatDoor
namespace Go.Co
open Go.Conc
