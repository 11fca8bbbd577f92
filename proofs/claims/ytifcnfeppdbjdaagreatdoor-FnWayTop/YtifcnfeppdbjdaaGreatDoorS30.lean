import Derived.Test.YtifcnfeppdbjdaaGreatDoorG1
set_option maxHeartbeats 4000000
set_option maxRecDepth 100000
namespace Go.Proofs.YtifcnfeppdbjdaaGreatDoor
open Tryz Stil Go.RowKit Go.Sort Go.BigFrame
theorem WO (x:Stil.B9)(D:Af x<=1000000)(q:FM 48 x (Bf x)):FM 86 x (Di x):=by
 intro p m w j f;have d:Hid (∀W,AO w W->Calls prog 48 #[.agg #[AB x.kind,AB x.one.op,p,m]] W (AN W (AB (Bf x)))):=λW h=>q p m W (j.below h) (f.below h)
 have z:=TS x;have b:Hid (Di x=if x.kind=1 then 1 else 1+Bf x):=rfl;obtain⟨l,t⟩:=AA (Bf x)
 obtain⟨T,r⟩:=AA (Di x)
 rw[<-t] at d z b;rw[<-r] at b ⊢;obtain⟨k,s⟩:=AA x.kind
 rw[<-s] at d b ⊢;obtain⟨B,C,rfl,u⟩:=j.shape;obtain⟨A,F,rfl,y,_⟩:=f.shape;clear q u y t r s j f;by_cases i:k=1
 ·subst i
  have g:Hid (T=1):=by show _=_;rw[b.out];rfl
  clear b;go_enter func86,ntmps86
  go_wp2
  go_ret;exact⟨F5 (by rw[g.out];rfl),AW⟩
 ·have g:Hid (T=1+l):=by show _=_;rw[b.out,if_neg i]
  have H:(k==1)=false:=by rw[CS];exact i
  clear b;go_enter func86,ntmps86
  go_wp2_with (go_at_call 48;refine(d _ AW).mono ?_;rintro e G ⟨rfl,I⟩)
  go_ret;exact⟨F5 (by rw[g.out];go_num),AW⟩
theorem XV (n:Stil.B9):Ai n=0->Af n<=1000000->FM 48 n (Bf n):=by
 induction n using Gf with
 | h k e kids C=>
  intro H B S Q w g f;simp only at g f;have A:=Pj H;simp only at A;have G:=H6 H;rw[Eg] at B;simp only at B;have t:∀x∈kids,Af x<=1000000:=λx hx=>by have:Af x<=Stil.sizes kids:=D9 Af kids x hx;omega
  have I:kids.length<=999999:=by have:=Js kids;omega
  obtain⟨p0,r0,rfl,F⟩:=g.shape;by_cases h1:k=1
  ·subst h1
   rw[Yr];obtain⟨p1,r1,rfl,aa,_⟩:=f.shape;clear F aa C t I H A G B g f;go_enter func48,ntmps48
   go_wp2
   go_ret;exact⟨rfl,AW⟩
  ·have ao:kids≠[]:=by
    rcases G with⟨h,_⟩ | ⟨_,h,_⟩ | ⟨_,_,x,h,_⟩
    ·exact absurd h h1
    ·intro Z;rw[Z] at h;simp at h
    ·intro Z;rw[Z] at h;cases h
   obtain⟨x,r,rfl⟩:=MW ao;rw[Qj e x r h1];have jA:=AV (λW (h:AO w W)=>f.below h);obtain⟨p1,r1,rfl,ak,u⟩:=f.shape;obtain⟨b,o,rfl,ab,l⟩:=u 0 AU;simp only[EP,FG,EO] at l;obtain⟨Y,x1,jW,jT,x2,x3,J,M⟩:=l.open;have N:Hid (∀W,AO w W->Calls prog 48 #[.agg #[AB x.kind,AB x.one.op,jW,jT]] W (AN W (AB (Bf x)))):=λW h=>C x AU (A x AU) (t x AU) jW jT W (J.below h) (M.below h)
   have HY:=AV (λy s=>WO y (t y (CQ _ s)) (C y (CQ _ s) (A y (CQ _ s)) (t y (CQ _ s))));have HG:=AV Vo;obtain⟨q,X⟩:=AA (Bf x)
   rw[<-X] at N ⊢;obtain⟨q0,s0,rfl,ag⟩:=J.shape;obtain⟨q1,s1,rfl,ah,_⟩:=M.shape;have ap:r.length<=999998:=by simp only[CH] at I;omega
   have R:k=4->r=[]:=by
    intro T;rcases G with⟨h,_⟩ | ⟨h,_,_⟩ | ⟨_,_,au,h,_⟩
    ·omega
    ·omega
    ·simp only[List.cons.injEq] at h;exact h.2
   simp only[CH];obtain⟨m,D⟩:=AA r.length
   have U:=AV D;rw[<-D] at ap ⊢;by_cases T:k=4
   ·subst T
    have O:=R rfl;have HR:Hid (Bo q (r.map Di)=q):=by show _=_;rw[O];rfl
    rw[HR.out];have al:m=0:=by rw[D,O];rfl
    subst al;clear F ag ah u l X C t I D ak g f J M H A G B O R HY HG jA U;go_enter func48,ntmps48
    go_wp2_with (go_at_call 48;refine(N _ AW).mono ?_;rintro e z ⟨rfl,K⟩)
    go_ret;exact⟨rfl,AW⟩
   ·have aD:(k==1)=false:=by rw[CS];exact h1
    have gm:(k==4)=false:=by rw[CS];exact T
    clear F ag ah u l X C t I D ak g f J M H A G B R;have aC:(0:Int)<(m:Int)+1:=AQ
    go_enter func48,ntmps48
    go_wp2_with (go_at_call 48;refine(N _ AW).mono ?_;rintro e z ⟨rfl,K⟩;have y3:z.cell? (AL w 3)=some (AE (some (AK b o)) (m+1) r1):=(A3 K);have aa:w.heap.size<z.heap.size:=CB AU K.size)
    have aV:AO w z:=AW;clear K Y x1 x2 x3 ab N;go_loopw [3,4] (λd i wr=>∃(j L:Nat),j<=m/\i=AB ((j:Int)+1)/\d=AB L/\L=Bo q ((r.map Di).take j)/\AO z wr) (λ_ i _=>m+1 - (intOf i).toNat)
    case atStart=>exact⟨0,q,AQ,rfl,rfl,rfl,Below.refl _ _⟩
    case round=>
     obtain⟨j,L,hj,rfl,rfl,ac,hb⟩:=hrel;have HM:=AV ac;clear ac;have aj:=Bc aV hb;have rq:=(hb.cell (p:=(AL w 3)) aa).trans y3;by_cases az:j<m
     ·have ae:j<r.length:=by have:=U.out;omega
      obtain⟨pa,pc,ai,_,u⟩:=(jA wr aj).shape;simp only[CH,Value.slice.injEq,true_and] at ai;obtain⟨rfl,rfl⟩:=ai;obtain⟨b2,o2,iT,ab,l⟩:=u (j+1) (by simp only[CH];omega);simp only[CZ,Addr.mk.injEq,E0] at iT;obtain⟨rfl,rfl⟩:=iT;simp only[J1] at l;obtain⟨Y,x1,S,Q,x2,x3,g,f⟩:=l.open;have HI:Hid (∀V,AO wr V->Calls prog 86 #[.agg #[AB r[j].kind,AB r[j].one.op,S,Q]] V (AN V (AB (Di r[j])))):=λV h=>HY r[j] (CN ae) S Q V (g.below h) (f.below h)
      have aX:Hid (Bo q ((r.map Di).take (j+1))=max (Bo q ((r.map Di).take j)) (Di r[j])):=by
       show _=_
       rw[L9 (by rw[CW];exact ae),EI]
      obtain⟨y,s⟩:=AA (r[j])
      rw[<-s] at HI aX Y x1 g f;obtain⟨fx,af⟩:=AA (Di y)
      rw[<-af] at HI aX;obtain⟨aw,ar,rfl,F⟩:=g.shape;obtain⟨aA,aB,rfl,kC,_⟩:=f.shape;have ay:(0:Int)<=(j:Int)+1:=AQ
      have ax:(j:Int)+1<(m:Int)+1:=AQ
      have aE:((j:Int)+1).toNat=j+1:=AQ
      clear F kC s af l u g f ab
      go_wp2_with (first | (go_at_call 86;refine(HI _ AW).mono ?_;rintro e w2 ⟨rfl,an⟩) | (go_at_call 47;refine(HG _ _ _).mono ?_;rintro e w3 ⟨rfl,rfl⟩))
      refine⟨⟨j+1,max L fx,AQ,by go_num,rfl,?_,Bc hb an⟩,by simp[intOf];omega⟩;rw[aX.out,<-HM.out]
     ·obtain rfl:j=m:=by omega
      have P:=HM.out;rw[EA (by rw[CW,<-U.out];exact CG _)] at P;have eF:=AV P;clear P
      go_wp2
      go_ret;exact⟨F5 (by rw[eF.out]),aj⟩
theorem xo (a:Stil.B8):Aj a<=1000000->E8 a->FC 49 a (C9 a):=by
 induction a using Gl with
 | h n cs kids ih=>
  intro hs aw U T cv kv w z t D A;simp only at z t D A;rw[Ce] at hs;obtain⟨_,gI⟩:=(En _ _ _).1 aw;have ak:∀x∈kids,Aj x<=1000000:=λx l=>by have:Aj x<=I5 kids:=D9 Aj kids x l;omega
  have aK:kids.length<=999999:=by have:=Og kids;omega
  have IH:=AV (λx l=>ih x l (ak x l) (gI x l));have aH:Hid (∀x∈kids,Iq x.net/\Stil.BK x.net<=999999):=by
   intro x l;have h1:=gI x l;have h2:=ak x l;obtain⟨xn,xc,xk⟩:=x;rw[Ce] at h2;exact⟨((En _ _ _).1 h1).1,by simp only;omega⟩
  have jA:=AV (λW (h:AO w W)=>A.below h);have P:=AV Vo;rw[Wl];obtain⟨p0,r0,rfl,X⟩:=z.shape;obtain⟨p1,r1,rfl,aa,_⟩:=t.shape;obtain⟨p2,r2,rfl,ah⟩:=D.shape;obtain⟨p3,r3,rfl,al,_⟩:=A.shape;clear X aa ah al hs ih ak z t D A gI aw;go_enter func49,ntmps49
  go_wp2
  obtain⟨W,O⟩:=AA (w.alloc (.cells #[AB n.kind,AB n.one.op,AE p0 n.one.args.length r0,AE p1 n.kids.length r1,AE p2 cs.length r2,AE p3 kids.length r3] 62))
  rw[<-O];have ao:AO w W:=by rw[O];exact Aa _ _
  have nM:w.heap.size<W.heap.size:=by rw[O];simp
  have y5:W.cell? (AL w 5)=some (AE p3 kids.length r3):=by rw[O];simp[go_sem]
  clear O;go_loopw [3,4] (λd i wr=>∃(j m:Nat),j<=kids.length/\i=AB j/\d=AB m/\m=Bo 1 ((kids.map (λk=>Ha k.net (C9 k))).take j)/\AO W wr) (λ_ i _=>kids.length - (intOf i).toNat)
  case atStart=>exact⟨0,1,AQ,rfl,rfl,rfl,Below.refl _ _⟩
  case round=>
   obtain⟨j,m,hj,rfl,rfl,hm,F⟩:=hrel;have HM:=AV hm;clear hm;by_cases hlt:j<kids.length
   ·have aF:=Bc ao F
    obtain⟨pa,pc,ac,_,Z⟩:=(jA wr aF).shape;simp only[Value.slice.injEq,true_and] at ac;obtain⟨rfl,rfl⟩:=ac;obtain⟨b,o,rfl,g,hn⟩:=Z j hlt;obtain⟨ar,cv,kv,x4,x5,D,A⟩:=hn.open;obtain⟨x0,x1,U,T,x2,x3,z,t⟩:=ar.open;have J:Hid (∀V,AO wr V->Calls prog 49 #[.agg #[AB kids[j].net.kind,AB kids[j].net.one.op,U,T,cv,kv]] V (AN V (AB (C9 kids[j])))):=λV h=>IH kids[j] (CN hlt) U T cv kv V (z.below h) (t.below h) (D.below h) (A.below h)
    obtain⟨L,ae⟩:=aH kids[j] (CN hlt);have aX:Hid (Bo 1 ((kids.map (λk=>Ha k.net (C9 k))).take (j+1))=max (Bo 1 ((kids.map (λk=>Ha k.net (C9 k))).take j)) (Ha kids[j].net (C9 kids[j]))):=by
     show _=_
     rw[L9 yEe,EI]
    obtain⟨x,l⟩:=AA (kids[j])
    rw[<-l] at J aX x0 x1 z t D A L ae;have oh:=AV (λV (h:AO wr V)=>t.below h);have N:Hid (∀y,y∈Ci x.net->FM 86 y (Di y)):=by
     intro y s;have h1:=LS x.net y s;have h2:Ai y=0:=by
      unfold Ci at s;split at s
      ·cases s
      ·rename_i h3
       have h4:=L.resolve_left h3;split at s
       ·exact Pj h4.2.2 y s
       ·rw[List.mem_singleton.1 s];exact h4.2.2
     exact WO y AQ (XV y h2 AQ)
    have aO:Hid (∀V,AO wr V->x.net∈Ci x.net->Calls prog 86 #[.agg #[AB x.net.kind,AB x.net.one.op,U,T]] V (AN V (AB (Di x.net)))):=λV h hm=>N x.net hm U T V (z.below h) (t.below h)
    obtain⟨f,ay⟩:=AA (C9 x)
    rw[<-ay] at J aX;obtain⟨q0,s0,rfl,X⟩:=z.shape;obtain⟨q1,s1,rfl,aa,_⟩:=t.shape;obtain⟨q2,s2,rfl,ah⟩:=D.shape;obtain⟨q3,s3,rfl,al,_⟩:=A.shape;have vT:=(F.cell (p:=(AL w 5)) nM).trans y5;have au:=CB nM F.size;have aQ:(0:Int)<=(j:Int):=AQ
    have aP:(j:Int)<(kids.length:Int):=AQ
    have R:Hid (∀Y:List Nat,max m (Bo f Y)=max (Bo m Y) f):=by
     intro Y;rw[NV Y f,NV Y m];omega
    clear X aa ah al l ay hn ar Z z t D A;by_cases C:Am x.net=true
    ·have aI:x.net.kind=0:=by rw[IZ C];rfl
     have M:Hid (max (Bo 1 ((kids.map (λk=>Ha k.net (C9 k))).take j)) (Ha x.net f)=max (Bo 1 ((kids.map (λk=>Ha k.net (C9 k))).take j)) f):=by
      show _=_
      have e:Ci x.net=[]:=if_pos C;unfold Ha;rw[e];rfl
     rw[aI] at J x0;clear C L ae N aO R oh
     go_wp2_with (first | (go_at_call 49;refine(J _ AW).mono ?_;rintro e w7 ⟨rfl,ab⟩;have qA:AO wr w7:=Bc AW ab) | (go_at_call 47;refine(P _ _ _).mono ?_;rintro e q ⟨rfl,rfl⟩))
     refine⟨⟨j+1,max m f,AQ,by go_num,rfl,?_,Bc F qA⟩,by simp[intOf];omega⟩;rw[aX.out,M.out,<-HM.out]
    ·have nN:=L.resolve_left C
     have ax:=ej nN;by_cases af:x.net.kind=2
     ·have I:Ci x.net=x.net.kids:=by unfold Ci;rw[if_neg C,if_pos af]
      have M:Hid (max (Bo 1 ((kids.map (λk=>Ha k.net (C9 k))).take j)) (Ha x.net f)=max (Bo m (x.net.kids.map Di)) f):=by
       show _=_
       rw[<-HM.out];unfold Ha;rw[I];exact R _
      have aE:Hid (∀y,y∈x.net.kids->FM 86 y (Di y)):=by rw[I] at N;exact N.out
      have aM:x.net.kids.length<=999999:=by
       have e:Stil.BK x.net=Af x.net:=if_neg C;have h1:=Js x.net.kids;have h2:=Eg x.net;omega
      rw[af] at J x0;clear C L ae N aO R nN ax I;obtain⟨G,aD⟩:∃G:World,G=wr:=⟨wr,rfl⟩
      subst aD
      go_wp2
      obtain⟨K,Q⟩:=AA (G.alloc (.cells #[AB 2,AB x.net.one.op,AE q0 x.net.one.args.length s0,AE q1 x.net.kids.length s1] 59))
      rw[<-Q];have jC:AO G K:=by rw[Q];exact Aa _ _
      have aG:G.heap.size<K.heap.size:=by rw[Q];simp
      have v3:K.cell? (AL G 3)=some (AE q1 x.net.kids.length s1):=by rw[Q];simp[go_sem]
      clear Q;go_loopw [3,6] (λd i wr=>∃(u S:Nat),u<=x.net.kids.length/\i=AB u/\d=AB S/\S=Bo m ((x.net.kids.map Di).take u)/\AO K wr) (λ_ i _=>x.net.kids.length - (intOf i).toNat)
      case atStart=>exact⟨0,m,AQ,rfl,rfl,rfl,Below.refl _ _⟩
      case round=>
       obtain⟨u,S,hu,rfl,rfl,ap,aj⟩:=hrel;have eF:=AV ap;clear ap;have r:=Bc jC aj;have aN:=(aj.cell (p:=(AL G 3)) aG).trans v3;by_cases zy:u<x.net.kids.length
       ·obtain⟨pa,pc,ac,_,Z⟩:=(oh wr r).shape
        simp only[Value.slice.injEq,true_and] at ac;obtain⟨rfl,rfl⟩:=ac;obtain⟨bb,oo,rfl,aT,aA⟩:=Z u zy;obtain⟨e0,e1,aC,an,e2,e3,mG,sQ⟩:=aA.open;have HY:Hid (∀V,AO wr V->Calls prog 86 #[.agg #[AB x.net.kids[u].kind,AB x.net.kids[u].one.op,aC,an]] V (AN V (AB (Di x.net.kids[u])))):=λV h=>aE _ (CN zy) aC an V (mG.below h) (sQ.below h)
        have ai:Hid (Bo m ((x.net.kids.map Di).take (u+1))=max (Bo m ((x.net.kids.map Di).take u)) (Di x.net.kids[u])):=by
         show _=_
         rw[L9 (by rw[CW];exact zy),EI]
        obtain⟨y,s⟩:=AA (x.net.kids[u])
        rw[<-s] at HY ai e0 e1 mG sQ;obtain⟨fy,aB⟩:=AA (Di y)
        rw[<-aB] at HY ai;obtain⟨g0,f0,rfl,X⟩:=mG.shape;obtain⟨g1,f1,rfl,aa,_⟩:=sQ.shape;have aR:(0:Int)<=(u:Int):=AQ
        have aL:(u:Int)<(x.net.kids.length:Int):=AQ
        clear X aa s aB aA Z mG sQ
        go_wp2_with (first | (go_at_call 86;refine(HY _ (by exact Below.refl _ _)).mono ?_;rintro e w6 ⟨rfl,ag⟩) | (go_at_call 47;refine(P _ _ _).mono ?_;rintro e q ⟨rfl,rfl⟩))
        refine⟨⟨u+1,max S fy,AQ,by go_num,rfl,?_,Bc aj ag⟩,by simp[intOf];omega⟩;rw[ai.out,<-eF.out]
       ·obtain rfl:u=x.net.kids.length:=by omega
        have H:=eF.out;rw[EA yFh] at H;have pq:=AV H;have z5:wr.cell? (AL w 5)=_:=(r.cell (p:=(AL w 5)) au).trans vT;have z0:wr.cell? (AK b (o+j*6))=_:=(r.cell (p:=(AK b (o+j*6))) g).trans x0;have z1:wr.cell? (AK b (o+j*6+1))=_:=(r.cell (p:=(AK b (o+j*6+1))) g).trans x1;have z2:wr.cell? (AK b (o+j*6+2))=_:=(r.cell (p:=(AK b (o+j*6+2))) g).trans x2;have z3:wr.cell? (AK b (o+j*6+3))=_:=(r.cell (p:=(AK b (o+j*6+3))) g).trans x3;have z4:wr.cell? (AK b (o+j*6+4))=_:=(r.cell (p:=(AK b (o+j*6+4))) g).trans x4;have z6:wr.cell? (AK b (o+j*6+5))=_:=(r.cell (p:=(AK b (o+j*6+5))) g).trans x5;clear H
        go_wp2_with (first | (go_at_call 49;refine(J _ (by exact r)).mono ?_;rintro e w7 ⟨rfl,ab⟩;have qA:=Bc r ab) | (go_at_call 47;refine(P _ _ _).mono ?_;rintro e q ⟨rfl,rfl⟩))
        refine⟨⟨j+1,max S f,AQ,by go_num,rfl,?_,Bc F qA⟩,by simp[intOf];omega⟩;rw[aX.out,M.out,<-pq.out]
     ·have I:Ci x.net=[x.net]:=by unfold Ci;rw[if_neg C,if_neg af]
      have M:Hid (max (Bo 1 ((kids.map (λk=>Ha k.net (C9 k))).take j)) (Ha x.net f)=max (max m (Di x.net)) f):=by
       show _=_
       rw[<-HM.out];unfold Ha;rw[I];exact R _
      have xq:=AV (λV h=>aO V h (by rw[I];simp));obtain⟨tk,az⟩:=AA (Di x.net)
      rw[<-az] at xq M;have aS:(x.net.kind==0)=false:=by rw[CS];omega
      have aJ:(x.net.kind==2)=false:=by rw[CS];exact af
      clear C L ae N aO R nN ax I az oh;go_upto_region 14 with(first | (go_at_call 86;refine(xq _ (by exact Aa _ _)).mono ?_;rintro e w6 ⟨rfl,ag⟩;have B:=Bc (Aa _ _) ag) | (go_at_call 47;refine(P _ _ _).mono ?_;rintro e q ⟨rfl,rfl⟩))
      have z5:q.cell? (AL w 5)=_:=(B.cell (p:=(AL w 5)) au).trans vT;have z0:q.cell? (AK b (o+j*6))=_:=(B.cell (p:=(AK b (o+j*6))) g).trans x0;have z1:q.cell? (AK b (o+j*6+1))=_:=(B.cell (p:=(AK b (o+j*6+1))) g).trans x1;have z2:q.cell? (AK b (o+j*6+2))=_:=(B.cell (p:=(AK b (o+j*6+2))) g).trans x2;have z3:q.cell? (AK b (o+j*6+3))=_:=(B.cell (p:=(AK b (o+j*6+3))) g).trans x3;have z4:q.cell? (AK b (o+j*6+4))=_:=(B.cell (p:=(AK b (o+j*6+4))) g).trans x4;have z6:q.cell? (AK b (o+j*6+5))=_:=(B.cell (p:=(AK b (o+j*6+5))) g).trans x5;clear ag
      go_wp2_with (first | (go_at_call 49;refine(J _ (by exact B)).mono ?_;rintro e w7 ⟨rfl,ab⟩;have qA:=Bc (by exact B) ab) | (go_at_call 47;refine(P _ _ _).mono ?_;rintro e q ⟨rfl,rfl⟩))
      refine⟨⟨j+1,max m (max tk f),AQ,by go_num,rfl,?_,Bc F qA⟩,by simp[intOf];omega⟩;rw[aX.out,M.out,Nat.max_assoc]
   ·obtain rfl:j=kids.length:=by omega
    have H:=HM.out;rw[EA yFh] at H;have eF:=AV H;clear H;have vT:=(F.cell (p:=(AL w 5)) nM).trans y5
    go_wp2
    go_ret;exact⟨F5 (by rw[eF.out]),Bc ao F⟩
theorem Axx (l:List Stil.B8)(q:Value)(w:World)(g:Fe w q l)(hl:l.length<=1048576)(ak:Bz l<=1000000000)(S:∀x∈l,Dh x):
  Calls prog 21 #[q] w (AN w (AB (Jm l))):=by
 have HC:=AV (λW h=>OE l q W (g.below h) hl ak S);obtain⟨kN,R,qH⟩:=Kt S;have A:=Vb l;have O:Hid (Jm l=Bo 0 ((Aq l).map Jh)):=rfl;obtain⟨L,hL⟩:=AA (Aq l)
 rw[<-hL] at HC kN R qH O A;have C:∀x∈L,Aj x<=400:=λx f=>CJ (Uk f) R
 have IK:=AV (λx f=>xo x (by have:=C x f;omega) (A x f).1);have IB:Hid (∀x∈L,FM 48 x.net (Bf x.net)):=by
  intro x f;have h1:=C x f;obtain⟨h2,P⟩:=A x f;obtain⟨D,xc,xk⟩:=x;rw[Ce] at h1;simp only at P ⊢;have e:Stil.BK D=Af D:=if_neg (by rw[P];exact FO);exact XV D (((En _ _ _).1 h2).1.resolve_left (by rw[P];exact FO)).2.2 AQ
 have X:=AV Vo;rw[O.out];obtain⟨p0,r0,rfl,hz⟩:=g;clear hz S kN R O hL A C;go_enter func21,ntmps21
 go_wp2_with (go_at_call 23;refine(HC _ AW).mono ?_;rintro e N ⟨⟨a,c,ms,rfl,hm,hrw⟩,hb1⟩;have ab:Uo N (AE a ms.length c) L:=yCa;have af:=AV ab;have F:ms.length=L.length:=(by rw[<-hm,CW]);rw[F] at af;rw[F];clear ab hrw hm F)
 go_loopw [4,5] (λd i wr=>∃(j m:Nat),j<=L.length/\i=AB j/\d=AB m/\m=Bo 0 ((L.map Jh).take j)/\AO N wr) (λ_ i _=>L.length - (intOf i).toNat)
 case atStart=>exact⟨0,0,AQ,rfl,rfl,rfl,Below.refl _ _⟩
 case round=>
  obtain⟨j,m,hj,rfl,rfl,hm,hb⟩:=hrel;have HM:=AV hm;clear hm;by_cases hlt:j<L.length
  ·obtain⟨pa,pc,ag,_,ac⟩:=(af.below hb).shape
   simp only[Value.slice.injEq,true_and] at ag;obtain⟨rfl,rfl⟩:=ag;obtain⟨b,o,rfl,aw,hn⟩:=ac j hlt;obtain⟨Y,cv,q,x4,x5,B,g⟩:=hn.open;obtain⟨K,U,z,y,x2,x3,t,s⟩:=Y.open;have M:Hid (∀V,AO wr V->Calls prog 49 #[.agg #[AB L[j].net.kind,AB L[j].net.one.op,z,y,cv,q]] V (AN V (AB (C9 L[j])))):=λV h=>IK L[j] (CN hlt) z y cv q V (t.below h) (s.below h) (B.below h) (g.below h)
   have Q:Hid (∀V,AO wr V->Calls prog 48 #[.agg #[AB L[j].net.kind,AB L[j].net.one.op,z,y]] V (AN V (AB (Bf L[j].net)))):=λV h=>IB L[j] (CN hlt) z y V (t.below h) (s.below h)
   have u:Hid (Bo 0 ((L.map Jh).take (j+1))=max (Bo 0 ((L.map Jh).take j)) (max (Bf L[j].net) (C9 L[j]))):=by
    show _=_
    rw[L9 yEe,EI];rfl
   obtain⟨x,f⟩:=AA (L[j])
   rw[<-f] at M Q u K U t s B g;obtain⟨r,ae⟩:=AA (C9 x)
   obtain⟨k,Z⟩:=AA (Bf x.net)
   rw[<-ae] at M u;rw[<-Z] at Q u;obtain⟨q0,s0,rfl,al⟩:=t.shape;obtain⟨q1,s1,rfl,ap,_⟩:=s.shape;obtain⟨q2,s2,rfl,ai⟩:=B.shape;obtain⟨q3,s3,rfl,an,_⟩:=g.shape;have au:(0:Int)<=(j:Int):=AQ
   have ar:(j:Int)<(L.length:Int):=AQ
   clear al ap ai an f ae Z hn Y ac t s B g;go_upto_region 6 with fail
   have k0:=cell_regrown K;have k1:=cell_regrown U;have k2:=cell_regrown x2;have k3:=cell_regrown x3;have k4:=cell_regrown x4;have k5:=cell_regrown x5;have aa:=AV (λV=>Vl (X k r V));have I:Hid (∀V,Calls prog 47 #[AB m,AB (max k r:Nat)] V (AN V (AB (max m (max k r):Nat)))):=λV=>Vl (X m _ V)
   obtain⟨J,ah⟩:=AA (max k r)
   rw[<-ah] at aa I u;obtain⟨G,H⟩:=AA (max m J)
   rw[<-H] at I;have dJ:=AV H;clear K U x2 x3 x4 x5 ah H;refine wp_region_quiet_below AX AX ?_;repeat (go_big_quiet_step ((first | exact Calls.regrown_of (Q _ (Gq (Below.refl _ _) _ _)) | exact Calls.regrown_of (M _ (Gq (Below.refl _ _) _ _)) | exact Calls.regrown_of (aa _) | exact Calls.regrown_of (I _))))
   refine wpQuiet_nil ?_;intro _ aj;obtain⟨⟨dq,osq⟩,ao⟩:=aj;subst ao
   go_wp2
   refine⟨⟨j+1,G,AQ,by go_num,rfl,?_,Gq hb _ _⟩,by simp[intOf];omega⟩;rw[u.out,<-HM.out,dJ.out]
  ·exact zo0
end Go.Proofs.YtifcnfeppdbjdaaGreatDoor
namespace Stil
def I9 (c:Int):Io:=⟨c,⟨0,[]⟩⟩
def RB (k:Int)(n:B9)(l:List Io):List Io:=if n.kind=1 then [⟨k,n.one⟩] else l++[I9 (k+2)]
def ND (k:Int)(o:Elem)(kids:List B9)(b:List (List Io)):List Io:=
 if k=1 then [⟨1,o⟩] else if k=4 then b.headD []++[I9 6] else b.headD []++((List.zipWith (RB k) kids b).drop 1).flatten
def Dc:B9->List Io
 | ⟨k,o,kids⟩=>ND k o kids (kids.map Dc)
theorem OJ (k:Int)(o:Elem)(kids:List B9):Dc ⟨k,o,kids⟩=ND k o kids (kids.map Dc):=by rw[Dc]
def Df (k:Int)(n:B9):List Io:=RB k n (Dc n)
theorem Qb (o:Elem)(kids:List B9):Dc ⟨1,o,kids⟩=[⟨1,o⟩]:=by rw[OJ];rfl
theorem Qc (o:Elem)(x:B9)(r:List B9):Dc ⟨4,o,x::r⟩=Dc x++[I9 6]:=by rw[OJ];rfl
theorem O0 {k:Int}(o:Elem)(x:B9)(r:List B9)(h1:k≠1)(b:k≠4):Dc ⟨k,o,x::r⟩=Dc x++(r.map (Df k)).flatten:=by
 rw[OJ];unfold ND;rw[if_neg h1,if_neg b,CP,List.headD_cons,eT,List.drop_succ_cons,M5,List.zipWith_map_right,List.zipWith_self];rfl
theorem Qz (k:Int)(n:B9)(h:n.kind=1):Df k n=[⟨k,n.one⟩]:=if_pos h
theorem Oc (k:Int)(n:B9)(h:n.kind≠1):Df k n=Dc n++[I9 (k+2)]:=if_neg h
def Dy (n:B9):List Io:=((Ci n).map (Df 2)).flatten
def Ff (n i:Nat):List Io:=if n=1 then [] else if i=0 then [I9 7] else if i+1=n then [I9 9] else [I9 8]
def Iu (cs:List Elem):List Io:=cs.map (λc=>⟨10,c⟩)
def JE (n i:Nat)(a:B8)(t:List Io):List Io:=Ff n i++(Dy a.net++t)
def SA (cs:List Elem)(kids:List B8)(b:List (List Io)):List Io:=
 Iu cs++((List.zipWith (λ(a:B8) t=>(a,t)) kids b).mapIdx (λi p=>JE kids.length i p.1 p.2)).flatten
def Dl:B8->List Io
 | ⟨_,b,kids⟩=>SA b kids (kids.map Dl)
def Jn (n i:Nat)(a:B8):List Io:=JE n i a (Dl a)
theorem Wj (n:B9)(cs:List Elem)(kids:List B8):Dl ⟨n,cs,kids⟩=Iu cs++(kids.mapIdx (λi a=>Jn kids.length i a)).flatten:=by
 rw[Dl];unfold SA;congr 2;apply List.ext_getElem
 ·simp
 ·intro i d b
  simp[Jn]
def Ez (a:B8):List Io:=Dc a.net++(Dl a++[I9 11])
def Hy (l:List B8):List Io:=((Aq l).map Ez).flatten
end Stil
namespace Go.Proofs.YtifcnfeppdbjdaaGreatDoor
open Tryz Go.RowKit Go.Sort Go.BigFrame
structure MI where
 code:Int
 e:Ej
def MI.val (m:MI):Value:=.agg #[AB m.code,AB m.e.op,m.e.av]
def MI.inst (m:MI):Stil.Io:=⟨m.code,m.e.elem⟩
def mi0 (k:Int):MI:=⟨k,⟨0,[],AG⟩⟩
def MI.cells (m:MI):List Value:=[AB m.code,AB m.e.op,m.e.av]
def Gh (l:List MI):List Value:=l.flatMap MI.cells
theorem sg (l:List MI)(m:MI):Gh (l++[m])=Gh l++m.cells:=by simp[Gh]
end Go.Proofs.YtifcnfeppdbjdaaGreatDoor
namespace Stil
def run:Pt->List Io->Option Pt
 | s,[]=>some s
 | s,i::r=>if 0<wrong s i then none else run (next s i.code) r
theorem fl (l:List Io):∀(s:Pt) (k:Nat),(F8 s k l).1=0↔∃t,run s l=some t/\¬0<t.bits:=by
 induction l with
 | nil=>
  intro s k;rw[F8,run];by_cases h:0<s.bits
  ·rw[if_pos h]
   constructor
   ·intro d;simp at d
   ·rintro⟨t,b,d⟩
    injection b with b
    subst b;exact absurd h d
  ·rw[if_neg h]
   exact⟨λ_=>⟨s,rfl,h⟩,λ_=>rfl⟩
 | cons i r e=>
  intro s k;rw[F8,run];by_cases h:0<wrong s i
  ·rw[if_pos h,if_pos h]
   constructor
   ·intro d;simp only at d;omega
   ·rintro⟨t,b,_⟩;cases b
  ·rw[if_neg h,if_neg h]
   exact e _ _
theorem fB {l:List Io}:(Ee l).1=0↔l.length<=1000/\∃t,run pt0 l=some t/\¬0<t.bits:=by
 unfold Ee;by_cases h:1000<l.length
 ·rw[if_pos h]
  constructor
  ·intro b;simp at b
  ·rintro⟨b,_⟩;omega
 ·rw[if_neg h,fl]
  exact⟨λb=>⟨AQ,b⟩,λb=>b.2⟩
theorem Axj {l:List Io}(h:(Ee l).1=0):Ee l=(0,0):=by
 have:=Zt l AQ
 exact Prod.ext this.1 this.2
theorem Y1 (a:B9)(r:List B9):sizes (a::r)=Af a+sizes r:=by simp[sizes]
theorem OT:sizes []=0:=rfl
theorem wN {a:B8}(h:Qm a):Iq a.net:=by
 obtain⟨n,c,k⟩:=a;exact((Tu n c k).1 h).1
def Jy (n:Nat):Nat->List B8->List Io
 | _,[]=>[]
 | i,k::t=>Jn n i k++Jy n (i+1) t
theorem VM (n:Nat):∀(ks:List B8) (i:Nat),(ks.mapIdx (λj a=>Jn n (i+j) a)).flatten=Jy n i ks
 | [],_=>rfl
 | k::t,i=>by
  rw[List.mapIdx_cons,EB,Jy,<-VM n t (i+1)];congr 3;funext j a;rw[Nat.add_assoc,Nat.add_comm 1 j]
theorem Wi (n:B9)(cs:List Elem)(kids:List B8):Dl ⟨n,cs,kids⟩=Iu cs++Jy kids.length 0 kids:=by
 rw[Wj,<-VM];congr 3;funext j a;rw[CV]
end Stil
namespace Go.Proofs.YtifcnfeppdbjdaaGreatDoor
open Tryz Go.RowKit Go.Sort Go.BigFrame
set_option maxHeartbeats 2000000 in
set_option maxRecDepth 100000 in
theorem RE (e:Stil.Elem)(f:Value)(w:World)(m:Dk w f e.args)(C:e.args.length<=1048576):
  Calls prog 52 #[.agg #[AB e.op,f]] w λr w'=>∃a c,r=.returned (.agg #[AB e.op,AE a e.args.length c])/\w'.ownsRow w.heap.size 55 3 (AE a e.args.length c) e.args.length (Au e.args)/\AO w w':=by
 have I:=AV (λW (h:AO w W)=>m.below h);obtain⟨g,i,rfl,H⟩:=m;clear H;go_enter func52,ntmps52;go_upto_region 1 with fail
 obtain⟨W,b⟩:=AA ((w.alloc (.cells #[AB e.op,AE g e.args.length i] 51)).alloc (.cells #[AB 0,AG] 51))
 rw[<-b];have B:W.cell? (AL w 0)=some (AB e.op):=by rw[b];simp[go_sem]
 have q1:W.cell? (AL w 1)=some (AE g e.args.length i):=by rw[b];simp[go_sem]
 have F:W.cell? (AK (w.heap.size+1) 0)=some (AB 0):=by rw[b];simp[go_sem]
 have z:W.cell? (AK (w.heap.size+1) 1)=some AG:=by rw[b];simp[go_sem]
 have v0:W.frozen? (AK (w.heap.size+1) 0)=false:=by rw[b];simp[go_sem]
 have t:W.frozen? (AK (w.heap.size+1) 1)=false:=by rw[b];simp[go_sem]
 have s:W.heap.size=w.heap.size+2:=by rw[b];simp
 have d:AO w W:=by rw[b];exact Bd (Aa _ _) _
 have bH:=AV s;have P:w.heap.size<W.heap.size:=AQ
 have J:w.heap.size+1<W.heap.size:=AQ
 clear b s
 go_region_law (refine Ry rfl _ _ rfl (w.heap.size+2) _ e.args rfl (by exact(World.ownsRow_lit W #[] 0 yGa A6 rfl).drew) _ _ rfl (I _ (by exact(Bd d _).drew)) C (by have:=bH.out;simp;omega) ?_;intro N u j A;obtain⟨l,q,x⟩:=Ah j;subst x;have hb5:=(Aa W _).drew.grown A AU (λk G=>by cases G;exact CG _);have K:w.heap.size+2<=u.heap.size:=yEj;have O:=(hb5.cell (p:=(AL w 0)) yBh).trans B;have L:=(hb5.cell (p:=(AL w 1)) yBh).trans q1;have y:=(hb5.cell (p:=(AK (w.heap.size+1) 0)) BW).trans F;have D:=(hb5.cell (p:=(AK (w.heap.size+1) 1)) BW).trans z;have Q:=(hb5.frozen (p:=(AK (w.heap.size+1) 0)) BW).trans v0;have R:=(hb5.frozen (p:=(AK (w.heap.size+1) 1)) BW).trans t)
 all_goals
  try go_wp2
  refine bodyPost_ret (v:=.agg #[AB e.op,AE l e.args.length q]) (by simp[results,results52,go_sem,y,D]) rfl ⟨l,q,rfl,?_,?_⟩
  ·refine Joins.ownsRow_le (base:=w.heap.size+2) ?_ AQ
   repeat (refine ownsRow_setCell_below ?_ BX _)
   exact j
  ·have M:=d.trans (hb5.mono d.size)
   exact AW
def Jz (w:World)(base:Nat)(v:Value)(ms:List MI):Prop:=w.ownsRow base 53 3 v ms.length (Gh ms)/\∀x∈ms,EOk w base x.e/\Aside v x.e.av
theorem qD (a b:List MI):Gh (a++b)=Gh a++Gh b:=by simp[Gh]
theorem vL (m:MI):Gh [m]=m.cells:=by simp[Gh]
theorem vQ (l:List MI):(Gh l).length=l.length*3:=by
 induction l with
 | nil=>rfl
 | cons m l b=>
  have e:Gh (m::l)=m.cells++Gh l:=rfl;rw[e,CM,b];simp[MI.cells];omega
theorem sk {w:World}{base:Nat}{ks:List MI}(b:∀m∈ks,EOk w base m.e):∀u∈Gh ks,u.oneCell'=true:=by
 intro u hu;obtain⟨m,f,hu⟩:=List.mem_flatMap.1 hu;obtain⟨h,g,d⟩:=Ah (b m f);simp only[MI.cells,DF,M6,DK] at hu;rcases hu with rfl | rfl | rfl
 ·rfl
 ·rfl
 ·rw[d];rfl
section
variable {w w' : World}{base : Nat}{v v' : Value}{ms ks : List MI}
theorem Jz.below (h:Jz w base v ms)(d:AO w w'):Jz w' base v ms:=⟨ownsRow_below h.1 d,λx b=>⟨ownsRow_below (h.2 x b).1 d,(h.2 x b).2⟩⟩
theorem Jz.le {b:Nat}(h:Jz w base v ms)(hl:b<=base):Jz w b v ms:=⟨Joins.ownsRow_le h.1 hl,λx d=>⟨Joins.ownsRow_le (h.2 x d).1 hl,(h.2 x d).2⟩⟩
theorem Jz.add (h:Jz w base v ms)(b:∀x∈ks,EOk w base x.e/\Aside v x.e.av)(i:w'.ownsRow base 53 3 v' (ms.length+ks.length) (Gh ms++Gh ks))(hg:w.grownBy w' v.ownBlock)(f:v'.ownBlock=v.ownBlock\/v'.ownBlock=some w.heap.size):Jz w' base v' (ms++ks):=by
 refine⟨by rw[CM,qD];exact i,λx g=>?_⟩;have d:=(List.mem_append.1 g).elim (h.2 x) (b x);refine⟨d.1.kept hg d.2.symm,?_⟩;rcases f with e | e
 ·unfold Aside at*
  rw[e];exact d.2
 ·exact(Ho (n:=w.heap.size) (λk b=>(d.1.lt k b).2) (λk b=>by rw[e] at b;cases b;exact CG _)).symm
end
variable {E:Prop}{a:Act}{base c:Nat}{o:Oper}{ops:Array Oper}{rest:List Oper}
theorem Vk {w:World}{K:Act->World->Prop}{Q:Exit->Act->World->Prop}
  (hg:o.guard=none) (s x:Operand) (q:o.op=.call {callee:=.builtin .append,args:=#[s,x],argTypes:=#[25,25]})
  (base:Nat) (b:Option Addr) (d:Nat) (ms ks:List MI) (ad:Option Addr) (c:Nat) (n:a.eval s=AE b ms.length d) (hx:a.eval x=AE ad ks.length c)
  (hrow:Jz w base (AE b ms.length d) ms) (F:0<ks.length->∃p,ad=some p/\∀j u,(Gh ks)[j]?=some u->w.cell? (p.add j)=some u)
  (z:∀m∈ks,EOk w base m.e/\Aside (AE b ms.length d) m.e.av) (hl:ms.length+ks.length<=1000000) (B:base<=w.heap.size)
  (r:∀y l w',Jz w' base (AE y (ms.length+ks.length) l) (ms++ks)->Below base w w'->K (a.put o.dst (AE y (ms.length+ks.length) l)) w'):
  if Region.wanted o (yielded ops a.tmps)=true then Oper.wp prog o a w K Q else E:=by
 obtain⟨R,hi,L,T,I⟩:=info_parts LP;by_cases hd:ks.length=0
 ·have D:=List.length_eq_zero_iff.1 hd
  subst D;have N:Region.wanted o (yielded ops a.tmps)=true:=by simp[Region.wanted,hg]
  rw[if_pos N];have t:ms.length<=d:=by
   rcases hrow.1.2 with⟨k,f⟩ | ⟨g,l,cur,k,_,_,U,_⟩
   ·rw[f];exact DI _
   ·simp only[Value.slice.injEq] at k
    rw[k.2.2];exact U
  have i:=r b d w yDc (Below.refl _ _);simp only[CO,EO] at i hx;unfold Oper.wp execOp;cases ad
  ·have e:Sem.run prog (Builtin.append_ #[25,25] o.type #[AE b ms.length d,AE none 0 c]) w=.ok (AE b ms.length d) w:=by cases b<;>simp[Builtin.append_,go_sem,t]
   simp only[q,resolve,invoke,builtin,Sem.run_bind,Sem.run_pure,Result.andThen_ok,EL,CP,C3,n,hx,e];exact i
  ·rename_i J
   have e:Sem.run prog (Builtin.append_ #[25,25] o.type #[AE b ms.length d,AE (some J) 0 c]) w=.ok (AE b ms.length d) w:=by cases b<;>simp[Builtin.append_,go_sem,t]
   simp only[q,resolve,invoke,builtin,Sem.run_bind,Sem.run_pure,Result.andThen_ok,EL,CP,C3,n,hx,e];exact i
 ·obtain⟨p,rfl,M⟩:=F AQ
  refine Eh hg s x _ q base 53 R _ 3 40 underlying25 hi L T I rfl AY _ _ (Gh ms) n hrow.1 _ _ _ (Gh ks) hx (vQ ks) M (sk λm G=>(z m G).1) A6 AQ B ?_;intro v' w' f A S;obtain⟨O,C,H⟩:=Ah f;subst H;exact r O C w' (hrow.add z f A S) ((Below.refl _ _).grown A B (λj P=>(hrow.1.lt j P).1))
theorem Tz {w:World}{Q:Exit->Act->World->Prop}
  (hg:o.guard=none) (s x:Operand) (z:o.op=.call {callee:=.builtin .append,args:=#[s,x],argTypes:=#[25,25]})
  (base:Nat) (g:Option Addr) (b:Nat) (ms ks:List MI) (ad:Option Addr) (c:Nat) (n:a.eval s=AE g ms.length b) (hx:a.eval x=AE ad ks.length c)
  (q:Jz w base (AE g ms.length b) ms) (i:0<ks.length->∃p,ad=some p/\∀j u,(Gh ks)[j]?=some u->w.cell? (p.add j)=some u)
  (r:∀m∈ks,EOk w base m.e/\Aside (AE g ms.length b) m.e.av) (hl:ms.length+ks.length<=1000000) (A:base<=w.heap.size)
  (h:∀f d w',Jz w' base (AE f (ms.length+ks.length) d) (ms++ks)->Below base w w'->wpList prog ops Q rest (a.put o.dst (AE f (ms.length+ks.length) d)) w'):
  wpList prog ops Q (o::rest) a w:=by
 refine wpList_plain hg λK k=>?_
 have l:Region.wanted o (yielded #[] a.tmps)=true:=by simp[Region.wanted,hg]
 have:=Vk (ops:=#[]) (K:=K) (Q:=Q) (E:=True) hg s x z base g b ms ks ad c n hx q i r hl A (λf d w' t y=>k _ _ (h f d w' t y))
 rwa [if_pos l] at this
theorem Jz.more {w w1:World}{b1:Nat}{v u:Value}{ms ks:List MI}(h:Jz w base v ms)(f:Jz w1 b1 u ks)(g:AO w w1)(h1:w.heap.size<=b1)(i:base<=w.heap.size):
  Jz w1 base v ms/\(∀x∈ks,EOk w1 base x.e/\Aside v x.e.av):=by
 refine⟨h.below g,λx d=>⟨Joins.ownsRow_le (f.2 x d).1 AQ,?_⟩⟩;exact Ho (n:=w.heap.size) (λk b=>(h.1.lt k b).2) (λk b=>CJ h1 ((f.2 x d).1.lt k b).1)
theorem Jz.cells {w:World}{a:Option Addr}{ks:List MI}(h:Jz w base (AE a ks.length c) ks):0<ks.length->∃p,a=some p/\∀j u,(Gh ks)[j]?=some u->w.cell? (p.add j)=some u:=by
 intro e;rcases h.1.2 with⟨b,d⟩ | ⟨g,cap,cur,b,_⟩
 ·omega
 ·cases b
  exact⟨_,rfl,λj u hu=>h.1.cells (g:=g) rfl j u hu⟩
def KC (f:FuncId)(x:Stil.B9)(is:List Stil.Io):Prop:=∀d b w,Td w d x.one.args->Lp w b x.kids->
 Calls prog f #[.agg #[AB x.kind,AB x.one.op,d,b]] w λe w'=>∃(a:Option Addr) (c:Nat) (ms:List MI),e=.returned (AE a ms.length c)/\ms.map MI.inst=is/\Jz w' w.heap.size (AE a ms.length c) ms/\AO w w'
def NI (k:Int)(x:Stil.B9)(is:List Stil.Io):Prop:=∀d b w,Td w d x.one.args->Lp w b x.kids->
 Calls prog 53 #[AB k, .agg #[AB x.kind,AB x.one.op,d,b]] w λe w'=>∃(a:Option Addr) (c:Nat) (ms:List MI),e=.returned (AE a ms.length c)/\ms.map MI.inst=is/\Jz w' w.heap.size (AE a ms.length c) ms/\AO w w'
theorem Jz.single {w:World}{m:MI}(h:EOk w base m.e)(d:base<=w.heap.size):Jz (w.alloc (.cells #[AB m.code,AB m.e.op,m.e.av] 53)) base (AE (some (AL w 0)) 1 1) [m]:=by
 refine⟨?_,λx f=>?_⟩
 ·exact World.ownsRow_lit w #[AB m.code,AB m.e.op,m.e.av] 1 d A6 rfl
 ·rw[List.mem_singleton.1 f]
  exact⟨ownsRow_below h (Aa _ _),(Ho (n:=w.heap.size) (λk b=>(h.lt k b).2) (λk b=>by cases b;exact CG _)).symm⟩
theorem UJ:∀(l:List MI) (i:Nat) (h:i<l.length),(Gh l)[i*3]?=some (AB l[i].code)/\(Gh l)[i*3+1]?=some (AB l[i].e.op)/\(Gh l)[i*3+2]?=some l[i].e.av
 | [],_,h=>by cases h
 | m::r,0,_=>⟨rfl,rfl,rfl⟩
 | m::r,i+1,h=>by
  obtain⟨f,b,g⟩:=UJ r i BR;have e:Gh (m::r)=AB m.code::AB m.e.op::m.e.av::Gh r:=rfl;have d:(i+1)*3=i*3+1+1+1:=AQ
  rw[e,d];exact⟨f,b,g⟩
theorem Jz.at {w:World}{a:Option Addr}{ms:List MI}(h:Jz w base (AE a ms.length c) ms):Hw w (.slice a (ms.map MI.inst).length c) (ms.map MI.inst):=by
 refine⟨a,c,rfl,λi hi=>?_⟩;simp only[CW] at hi;obtain⟨g,cap,f,_,j,_,b⟩:=Cb h.1 AQ;cases f;obtain⟨e,d,k⟩:=UJ ms i hi;simp only[EI];refine⟨g,0,rfl,j,?_⟩;rw[CV];exact⟨b _ _ e,b _ _ d,_,b _ _ k,Dk.of_owns (h.2 _ (CN hi)).1⟩
theorem G7 {w:World}{Q:Exit->Act->World->Prop}
  (hg:o.guard=none) (s x:Operand) (t:o.op=.call {callee:=.builtin .append,args:=#[s,x],argTypes:=#[25,25]})
  (base:Nat) (f:Option Addr) (b:Nat) (ms:List MI) (m:MI) (z:a.eval s=AE f ms.length b) (hx:a.eval x=AE (some (AL w 0)) 1 1)
  (l:Jz w base (AE f ms.length b) ms) (i:EOk w base m.e/\Aside (AE f ms.length b) m.e.av) (hl:ms.length+1<=1000000) (A:base<=w.heap.size)
  (h:∀d g w',Jz w' base (AE d (ms.length+1) g) (ms++[m])->Below base w w'->wpList prog ops Q rest (a.put o.dst (AE d (ms.length+1) g)) w'):
  wpList prog ops Q (o::rest) a (w.alloc (.cells #[AB m.code,AB m.e.op,m.e.av] 53)):=by
 refine Tz hg s x t base f b ms [m] (some (AL w 0)) 1 z hx (l.below (Aa _ _)) (λ_=>⟨_,rfl,λj u hu=>?_⟩) (λy k=>?_) hl Ax λd g w' n r=>h d g w' n ((Bd (Below.refl _ _) _:AO w _).mono A |>.trans r)
 ·rw[vL] at hu
  have e:((AL w 0):Addr).add j=(AL w j):=by unfold Addr.add;split<;>simp_all
  rw[e];have q:∀j,(w.alloc (.cells #[AB m.code,AB m.e.op,m.e.av] 53)).cell? (AL w j)=(#[AB m.code,AB m.e.op,m.e.av]:Array Value)[j]?:=λj=>by
   have:(w.alloc (.cells #[AB m.code,AB m.e.op,m.e.av] 53)).heap[w.heap.size]?=some (.cells #[AB m.code,AB m.e.op,m.e.av] 53):=by simp only[World.alloc];exact M3
   simp only[World.cell?,this];rfl
  rw[q];simpa[MI.cells] using hu
 ·rw[List.mem_singleton.1 k]
  exact⟨ownsRow_below i.1 (Aa _ _),i.2⟩
theorem IV (w:World)(base:Nat)(v:Value)(k:Int):EOk w base (mi0 k).e/\Aside v (mi0 k).e.av:=⟨World.ownsRow_nil _ _ _ _,(Py v).symm⟩
theorem ot {w:World}{K:Act->World->Prop}{Q:Exit->Act->World->Prop}
  (hg:o.guard=none) (s x:Operand) (l:o.op=.call {callee:=.builtin .append,args:=#[s,x],argTypes:=#[25,25]})
  (base b1:Nat) (w0:World) (d:Option Addr) (b:Nat) (ms ks:List MI) (ad:Option Addr) (c:Nat) (k:a.eval s=AE d ms.length b) (hx:a.eval x=AE ad ks.length c)
  (n:Jz w0 base (AE d ms.length b) ms) (f:Jz w b1 (AE ad ks.length c) ks) (g:AO w0 w) (h1:w0.heap.size<=b1) (hl:ms.length+ks.length<=1000000) (h:base<=w0.heap.size)
  (m:∀e i w',Jz w' base (AE e (ms.length+ks.length) i) (ms++ks)->Below base w w'->K (a.put o.dst (AE e (ms.length+ks.length) i)) w'):
  if Region.wanted o (yielded ops a.tmps)=true then Oper.wp prog o a w K Q else E:=by
 obtain⟨j,p⟩:=n.more f g h1 h;exact Vk hg s x l base d b ms ks ad c k hx j f.cells p hl (CJ h g.size) m
theorem JZ {w:World}{p:Addr}:(w.drew).cell? p=w.cell? p:=rfl
theorem Eo {w:World}{Q:Exit->Act->World->Prop}
  (hg:o.guard=none) (s x:Operand) (m:o.op=.call {callee:=.builtin .append,args:=#[s,x],argTypes:=#[25,25]})
  (base b1:Nat) (w0:World) (d:Option Addr) (b:Nat) (ms ks:List MI) (ad:Option Addr) (c:Nat) (n:a.eval s=AE d ms.length b) (hx:a.eval x=AE ad ks.length c)
  (l:Jz w0 base (AE d ms.length b) ms) (f:Jz w b1 (AE ad ks.length c) ks) (g:AO w0 w) (h1:w0.heap.size<=b1) (hl:ms.length+ks.length<=1000000) (j:base<=w0.heap.size)
  (h:∀e i w',Jz w' base (AE e (ms.length+ks.length) i) (ms++ks)->Below base w w'->wpList prog ops Q rest (a.put o.dst (AE e (ms.length+ks.length) i)) w'):
  wpList prog ops Q (o::rest) a w:=by
 obtain⟨k,p⟩:=l.more f g h1 j;exact Tz hg s x m base d b ms ks ad c n hx k f.cells p hl (CJ j g.size) h
