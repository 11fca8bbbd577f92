import Derived.Test.YthdogflpbpkbeaaGreatDoorGg
set_option linter.defProp false
set_option maxHeartbeats 4000000
set_option maxRecDepth 100000
namespace Go.Proofs.YthdogflpbpkbeaaGreatDoor
open Tryz Stil Go.RowKit Go.Sort Go.BigFrame
def Sl(l:Γ)(i:Nat)(h:i<l.length):(l.take (i+1)).sum=(l.take i).sum+l[i]:=by rw[EK h,KE,FO,M1,IV]
theorem Ko:∀(l:Γ)(i:Nat),(l.take i).sum<=l.sum
 |[],i=>by simp
 |x::r,0=>by simp
 |x::r,i+1=>by have:=Ko r i;simp;omega
def Ayb(n:Stil.DK):∀(g f:AW)(w:AU),Aq w g n.O.args->Eg w f n.K->Ad n<=1000000000->
  Calls prog 146 #[.agg #[AB n.kind,AB n.O.op,g,f]] w (AN w (AB (Ad n))):=by
 induction n using Gp with
 |h k e kids t=>
  intro g f w m q J;have H:=BZ t;clear t;have D:=BZ (Qg k e kids);have R:(kids.map Ad).sum<=1000000000:=by have:=D.out;omega
  obtain⟨a,cap,rfl,A⟩:=q;have G:=BZ A;obtain⟨aa,z,rfl,_⟩:=m;have ab:kids.length<=1000000000:=by
   have:∀l:Ξ,l.length<=(l.map Ad).sum:=by
    intro l;induction l with
    |nil=>simp|cons x ad t=>simp only[DZ,FO,DT];have:1<=Ad x:=(by(obtain⟨_,_,_⟩:=x;rw[Qg];omega));omega
   have:=this kids;omega
  clear A J;go_enter func146,ntmps146;go_wp2;go_loopw [3,4] (λacc i wr=>∃j:Nat,j<=kids.length/\i=AB j/\acc=AB (1+((kids.map Ad).take j).sum:Nat)/\Below (w.heap.size+1) (w.alloc (.cells #[AB k,AB e.op,AE aa e.args.length z,AE a kids.length cap] 63)) wr) (λ_ i _=>kids.length - (intOf i).toNat);case atStart=>exact⟨0,BS,rfl,BU,BP _ _⟩
  case round=>obtain⟨j,hj,rfl,rfl,c⟩:=hrel;have K:w.heap.size<wr.heap.size:=xAj;have Y:wr.c (AL w 0)=some (AB k):=Bn c;have f0:wr.f (AL w 0)=false:=Bt c;have c1:wr.c (AL w 1)=some (AB e.op):=Bn c;have f1:wr.f (AL w 1)=false:=Bt c;have c2:wr.c (AL w 2)=some (AE aa e.args.length z):=Bn c;have f2:wr.f (AL w 2)=false:=Bt c;have X:wr.c (AL w 3)=some (AE a kids.length cap):=Bn c;have f3:wr.f (AL w 3)=false:=Bt c;have y:=(Aa _ _).tr (c.mo BS);have B:=Ko (kids.map Ad) j;by_cases hlt:j<kids.length;{obtain⟨b,o,rfl,L,u⟩:=G j hlt;have⟨P,S,g,f,x2,U,m,q⟩:=(Og.below y _ _ _ u L).open;have d:=Sl (kids.map Ad) j C0;have I:=Ko (kids.map Ad) (j+1);rw[Fo]at d;have r:=BZ (λW F=>H kids[j] (DY hlt) g f W (m.below F) (q.below F) BS);have⟨s,E⟩:=AA (Ad kids[j]);have⟨x,C⟩:=AA (kids[j]);rw[<-E]at r d;rw[<-C]at r P S;obtain⟨ac,zL,rfl,_⟩:=m;obtain⟨Z,T,rfl,_⟩:=q;generalize Q:((kids.map Ad).take j).sum=A1 at d B⊢;have M:=BZ d;have ae:A1+s<=1000000000:=BS;clear E C u Q d I B R;go_wp2_with(go_at_call 146;refine(r _ Bw).mo ?_;rintro e V⟨rfl,N⟩);refine⟨⟨j+1,BS,by go_num,?_,c.tr (N.mo K)⟩,xAb⟩;rw[M.out];congr 1;omega};go_wp2;go_ret;refine⟨Fp ?_,y⟩;rw[D.out,E0 B1]
def RO(n:Stil.DK)(i g:AW)(w:AU)(j:Aq w i n.O.args)(m:Eg w g n.K)(_h1:n.O.args.length<=9223372036854775807)(_h2:n.K.length<=9223372036854775807):
  Calls prog 110 #[.agg #[AB n.kind,AB n.O.op,i,g]] w (AN w (.bool (Aj n))):=by
 obtain⟨aa,o,rfl,_⟩:=j;obtain⟨a,cap,rfl,_⟩:=m;have⟨d,c⟩:=AA n.O.args.length;have⟨f,b⟩:=AA n.K.length;have l:Hid (Aj n=(n.kind==0 && n.O.op==0 && d==0 && f==0)):=by show _=_;unfold Aj;rw[c,b]
 rw[<-c,<-b];rw[<-c]at _h1;rw[<-b]at _h2;clear c b;go_enter func110,ntmps110;go_wp2;all_goals go_ret
 all_goals(refine⟨Ac ?_,Bw⟩)
 all_goals rw[l.out]
 all_goals go_light
 all_goals(rw[FB];simp[*];try omega)
def Nj(x:Stil.DL):1<=Ah x:=by obtain⟨_,_,_⟩:=x;rw[Ti];omega
theorem QN{α:Type}(f:α->Nat)(a:∀x,1<=f x):∀l:List α,l.length<=(l.map f).sum
 |[]=>by simp
 |x::r=>by have:=QN f a r;have:=a x;simp only[DZ,FO,DT];omega
def zFa{p:Prop}(h:p:=by go_wp2_with(go_at_call 105;refine(HI _ Bw).mo ?_;rintro e w2⟨rfl,hb2⟩);refine⟨⟨j+1,BS,by go_num,?_,hB.tr (hb2.mo hz)⟩,by simp[intOf];omega⟩;rw[HS.out];congr 1;omega):p:=h
def Ayl(n:Stil.DL):∀(m k u y:AW)(w:AU),Aq w m n.N.O.args->Eg w k n.N.K->F9 w u n.C->Dj w y n.K->Ah n<=1000000000->Ba n->
  Calls prog 105 #[.agg #[AB n.N.kind,AB n.N.O.op,m,k,u,y]] w (AN w (AB (Ah n))):=by
 induction n using Fz with
 |h n f kids ih=>
  intro m k u y w l g t q af X;simp only at l g t q;have⟨ad,aj,_,ai,ab⟩:=(Ep _ _ _).1 X;have⟨_,he,uh,_⟩:=Ea ad;have ah:=he.2.1;have Z:=BZ ih;have HF:=BZ ab;clear ih ab X he ad;have⟨ns,J⟩:=AA (if Aj n then 0 else Ad n);have O:Hid (Ah ⟨n,f,kids⟩=1+f.length+ns+(kids.map Ah).sum):=by show _=_;rw[Ti,J]
  have ac:1+f.length+ns+(kids.map Ah).sum<=1000000000:=by have:=O.out;omega
  have jA:=BZ (λW c=>RO n m k W (l.below c) (g.below c) BS BS);have iY:Hid (Aj n=false->∀W,AO w W->Calls prog 146 #[.agg #[AB n.kind,AB n.O.op,m,k]] W (AN W (AB ns))):=λT W c=>by have e0:ns=Ad n:=(by rw[J,T];rfl);rw[e0];exact Ayb n m k W (l.below c) (g.below c) BS
  have oI:Hid (Aj n=true->ns=0):=λT=>by rw[J,T];rfl
  obtain⟨a,cap,rfl,z⟩:=q;have Y:=BZ z;obtain⟨aa,K,rfl,_⟩:=l;obtain⟨I,M,rfl,_⟩:=g;obtain⟨H,G,rfl,_⟩:=t;clear z af J;cases L:Aj n
  .go_enter func105,ntmps105;go_wp2_with(first|(go_at_call 110;refine(jA _ Bw).mo ?_;rw[L];rintro e w1⟨rfl,r⟩;have⟨z,P⟩:=F7 r)|(go_at_call 146;refine(iY L _ Bw).mo ?_;rintro e w2⟨rfl,hb2⟩));go_loopw [3,4] (λacc i wr=>∃j:Nat,j<=kids.length/\i=AB j/\acc=AB (1+f.length+ns+((kids.map Ah).take j).sum:Nat)/\Below (w.heap.size+1) (w.alloc (.cells #[AB n.kind,AB n.O.op,AE aa n.O.args.length K,AE I n.K.length M,AE H f.length G,AE a kids.length cap] 66)) wr) (λ_ i _=>kids.length - (intOf i).toNat);case atStart=>exact⟨0,BS,rfl,BU,(r.mo BU).tr (hb2.mo (by have:=r.size;simpa using this))⟩
   case round=>clear z P r hb2;obtain⟨j,hj,rfl,rfl,hB⟩:=hrel;have hz:w.heap.size<wr.heap.size:=xAi;have c0:wr.c (AL w 0)=some (AB n.kind):=Bn hB;have f0:wr.f (AL w 0)=false:=Bt hB;have c1:wr.c (AL w 1)=some (AB n.O.op):=Bn hB;have f1:wr.f (AL w 1)=false:=Bt hB;have c2:wr.c (AL w 2)=some (AE aa n.O.args.length K):=Bn hB;have f2:wr.f (AL w 2)=false:=Bt hB;have c3:wr.c (AL w 3)=some (AE I n.K.length M):=Bn hB;have f3:wr.f (AL w 3)=false:=Bt hB;have c4:wr.c (AL w 4)=some (AE H f.length G):=Bn hB;have f4:wr.f (AL w 4)=false:=Bt hB;have c5:wr.c (AL w 5)=some (AE a kids.length cap):=Bn hB;have f5:wr.f (AL w 5)=false:=Bt hB;have D:=(Aa _ _).tr (hB.mo BS);have F:=Ko (kids.map Ah) j;by_cases hlt:j<kids.length;{obtain⟨b,o,rfl,N,C⟩:=Y j hlt;have⟨A,u,y,x4,x5,t,q⟩:=(Pg.below D _ _ _ C N).open;have⟨S,V,m,k,x2,x3,l,g⟩:=A.open;have d:=Sl (kids.map Ah) j C0;have Q:=Ko (kids.map Ah) (j+1);rw[Fo]at d;have HI:=BZ (λW c=>Z kids[j] (DY hlt) m k u y W (l.below c) (g.below c) (t.below c) (q.below c) BS (HF _ (DY hlt)));have⟨s,B⟩:=AA (Ah kids[j]);have⟨x,E⟩:=AA (kids[j]);rw[<-B]at HI d;rw[<-E]at HI S V;obtain⟨q1,q2,rfl,_⟩:=l;obtain⟨q3,q4,rfl,_⟩:=g;obtain⟨q5,q6,rfl,_⟩:=t;obtain⟨q7,q8,rfl,_⟩:=q;generalize U:((kids.map Ah).take j).sum=A1 at d F⊢;have HS:=BZ d;have ae:1+f.length+ns+A1+s<=1000000000:=BS;clear B E C A U d Q F ac;exact zFa};go_wp2;go_ret;refine⟨Fp ?_,D⟩;rw[O.out,E0 B1]
  have ag:=oI L;subst ag;go_enter func105,ntmps105;go_wp2_with(first|(go_at_call 110;refine(jA _ Bw).mo ?_;rw[L];rintro e w1⟨rfl,r⟩;have⟨z,P⟩:=F7 r));go_loopw [3,4] (λacc i wr=>∃j:Nat,j<=kids.length/\i=AB j/\acc=AB (1+f.length+0+((kids.map Ah).take j).sum:Nat)/\Below (w.heap.size+1) (w.alloc (.cells #[AB n.kind,AB n.O.op,AE aa n.O.args.length K,AE I n.K.length M,AE H f.length G,AE a kids.length cap] 66)) wr) (λ_ i _=>kids.length - (intOf i).toNat);case atStart=>exact⟨0,BS,rfl,BU,r.mo BU⟩
  case round=>clear z P r;obtain⟨j,hj,rfl,rfl,hB⟩:=hrel;have hz:w.heap.size<wr.heap.size:=xAi;have c0:wr.c (AL w 0)=some (AB n.kind):=Bn hB;have f0:wr.f (AL w 0)=false:=Bt hB;have c1:wr.c (AL w 1)=some (AB n.O.op):=Bn hB;have f1:wr.f (AL w 1)=false:=Bt hB;have c2:wr.c (AL w 2)=some (AE aa n.O.args.length K):=Bn hB;have f2:wr.f (AL w 2)=false:=Bt hB;have c3:wr.c (AL w 3)=some (AE I n.K.length M):=Bn hB;have f3:wr.f (AL w 3)=false:=Bt hB;have c4:wr.c (AL w 4)=some (AE H f.length G):=Bn hB;have f4:wr.f (AL w 4)=false:=Bt hB;have c5:wr.c (AL w 5)=some (AE a kids.length cap):=Bn hB;have f5:wr.f (AL w 5)=false:=Bt hB;have D:=(Aa _ _).tr (hB.mo BS);have F:=Ko (kids.map Ah) j;by_cases hlt:j<kids.length;{obtain⟨b,o,rfl,N,C⟩:=Y j hlt;have⟨A,u,y,x4,x5,t,q⟩:=(Pg.below D _ _ _ C N).open;have⟨S,V,m,k,x2,x3,l,g⟩:=A.open;have d:=Sl (kids.map Ah) j C0;have Q:=Ko (kids.map Ah) (j+1);rw[Fo]at d;have HI:=BZ (λW c=>Z kids[j] (DY hlt) m k u y W (l.below c) (g.below c) (t.below c) (q.below c) BS (HF _ (DY hlt)));have⟨s,B⟩:=AA (Ah kids[j]);have⟨x,E⟩:=AA (kids[j]);rw[<-B]at HI d;rw[<-E]at HI S V;obtain⟨q1,q2,rfl,_⟩:=l;obtain⟨q3,q4,rfl,_⟩:=g;obtain⟨q5,q6,rfl,_⟩:=t;obtain⟨q7,q8,rfl,_⟩:=q;generalize U:((kids.map Ah).take j).sum=A1 at d F⊢;have HS:=BZ d;have ae:1+f.length+0+A1+s<=1000000000:=BS;clear B E C A U d Q F ac;exact zFa};go_wp2;go_ret;refine⟨Fp ?_,D⟩;rw[O.out,E0 B1]
def YX(l:Ek)(d:AW)(w:AU)(g:Dj w d l)(z:Aw l<=1000000000)(u:∀x∈l,Ba x):
  Calls prog 55 #[d] w (AN w (AB (Aw l))):=by
 obtain⟨a,cap,rfl,v⟩:=g;have F:=BZ v;have S:=BZ u;have L:Hid (Aw l=(l.map Ah).sum):=rfl;have P:(l.map Ah).sum<=1000000000:=z;have H:=QN Ah Nj l;have aa:l.length<=1000000000:=BS;clear v u z H;go_enter func55,ntmps55;go_wp2;go_loopw [3,4] (λacc i wr=>∃j:Nat,j<=l.length/\i=AB j/\acc=AB (((l.map Ah).take j).sum:Nat)/\AO w wr) (λ_ i _=>l.length - (intOf i).toNat);case atStart=>exact⟨0,BS,rfl,BU,BP _ _⟩
 case round=>obtain⟨j,hj,rfl,rfl,t⟩:=hrel;have y:=Ko (l.map Ah) j;by_cases hlt:j<l.length;{obtain⟨b,o,rfl,I,q⟩:=F j hlt;have⟨B,J,d,T,x5,C,g⟩:=(Pg.below t _ _ _ q I).open;have⟨N,R,Q,E,x2,V,r,m⟩:=B.open;have c:=Sl (l.map Ah) j C0;have G:=Ko (l.map Ah) (j+1);rw[Fo]at c;have k:=BZ (λW f=>Ayl l[j] Q E J d W (r.below f) (m.below f) (C.below f) (g.below f) BS (S _ (DY hlt)));have⟨s,D⟩:=AA (Ah l[j]);have⟨x,A⟩:=AA (l[j]);rw[<-D]at k c;rw[<-A]at k N R;obtain⟨q1,q2,rfl,_⟩:=r;obtain⟨U,q4,rfl,_⟩:=m;obtain⟨q5,Z,rfl,_⟩:=C;obtain⟨Y,q8,rfl,_⟩:=g;generalize O:((l.map Ah).take j).sum=A1 at c y⊢;have K:=BZ c;have ac:A1+s<=1000000000:=BS;clear D A q B O c G y P;go_wp2_with(go_at_call 105;refine(k _ Bw).mo ?_;rintro e X⟨rfl,ab⟩);refine⟨⟨j+1,BS,by go_num,?_,Bw⟩,xAb⟩;rw[K.out];rfl};go_wp2;go_ret;refine⟨Fp ?_,t⟩;rw[L.out,E0 B1]
def zo0 {p:Prop}(h:p:=by
 by_cases h2:x.n=y.n
 .exact .inr (.inr ⟨h1,h2,λh3=>hxy ((jT _ _).2 ⟨h1,h2,h3⟩)⟩)
 exact .inr (.inl ⟨h1,h2⟩)):p:=h
def zXa {p:Prop}(h:p:=by
 go_wp2;go_region;all_goals go_wp2
 go_ret;exact⟨Ac (by rw[FW (λh=>nY.out (Stil.Elem.mk.inj h).2)]),hbw.drew⟩):p:=h
open Classical in
theorem Aue(op g:Int)(ds fs:List Stil.DR)(J E:Value)(w:World)(N:Aq w J ds)(V:Aq w E fs)(hl:ds.length<=1048576)(R:fs.length<=1048576):
  Calls prog 63 #[.agg #[.int .i64 op,J],.agg #[.int .i64 g,E]] w λr P=>r=.returned (.bool (decide ((⟨op,ds⟩:Stil.Elem)=⟨g,fs⟩)))/\Below w.heap.size w P:=by
 obtain⟨a,cap,rfl,m⟩:=N;obtain⟨b,G,rfl,l⟩:=V;by_cases q:op=g
 .subst q;by_cases u:ds.length=fs.length
  .have X:Hid (∀i(h:i<ds.length),∃b o,a=some ⟨b,o,none⟩/\b<w.heap.size/\Jr w b (o+i*3) ds[i]):=m;have Q:Hid (∀i(h:i<fs.length),∃C o,b=some ⟨C,o,none⟩/\C<w.heap.size/\Jr w C (o+i*3) fs[i]):=l;clear m l;have U:((ds.length:Int) !=(fs.length:Int))=false:=(by rw[bne_eq_false_iff_eq];omega);have ae:ds.length<=fs.length:=BS;have af:fs.length<=ds.length:=BS;clear u;go_enter func63,ntmps63;go_wp2;go_loopw [5] (λi wr=>∃k:Nat,k<=ds.length/\i=.int .i64 k/\ds.take k=fs.take k/\Below (w.heap.size+2) ((w.alloc (.cells #[.int .i64 op,.slice a ds.length cap] 60)).alloc (.cells #[.int .i64 op,.slice b fs.length G] 60)) wr) (λi _=>ds.length - (intOf i).toNat);case atStart=>exact⟨0,BS,rfl,BU,Below.refl _ _⟩
   case round=>
    (obtain⟨k,R,rfl,F,c⟩:=hrel;have ag:w.heap.size<wr.heap.size:=by have:=c.size;simp at this;omega);have ai:wr.cell? ⟨w.heap.size,0,none⟩=some (.int .i64 op):=Bn c;have ad:wr.frozen? ⟨w.heap.size,0,none⟩=false:=Bt c;have ab:wr.cell? ⟨w.heap.size,1,none⟩=some (.slice a ds.length cap):=Bn c;have ak:wr.frozen? ⟨w.heap.size,1,none⟩=false:=Bt c;have Z:w.heap.size+1<wr.heap.size:=(by have:=c.size;simp at this;omega);have aa:wr.cell? ⟨w.heap.size+1,0,none⟩=some (.int .i64 op):=Bn c;have aj:wr.frozen? ⟨w.heap.size+1,0,none⟩=false:=Bt c;have ah:wr.cell? ⟨w.heap.size+1,1,none⟩=some (.slice b fs.length G):=Bn c;have Y:wr.frozen? ⟨w.heap.size+1,1,none⟩=false:=Bt c;have hbw:Below w.heap.size w wr:=(Bi (Aa _ _) _).trans (c.mono BS);have M:Hid (ds.take k=fs.take k):=F;clear F;by_cases I:k<ds.length
    .have H:k<fs.length:=(by omega);obtain⟨b1,o1,rfl,O,z⟩:=X k I;obtain⟨b2,o2,rfl,S,t⟩:=Q k H;obtain⟨D,K,L⟩:=z.below hbw O;obtain⟨f,j,B⟩:=t.below hbw S;by_cases hxy:ds[k]=fs[k]
     .have nY:Hid (ds.take (k+1)=fs.take (k+1)):=by
       show _=_
       rw[EK I,EK H,M.out,hxy]
      rw[<-hxy]at f j B;obtain⟨x,d⟩:∃x,x=ds[k]:=⟨_,rfl⟩
      rw[<-d]at D K L f j B;clear d hxy z t
      go_wp2
      go_region
      all_goals go_wp2
      exact⟨⟨k+1,BS,by go_num,nY.out,c.drew⟩,by simp[intOf];omega⟩
     .have nY:Hid (¬ds=fs):=by
       show ¬_
       intro h;subst h;exact hxy rfl
      obtain⟨x,d⟩:∃x,x=ds[k]:=⟨_,rfl⟩
      obtain⟨y,A⟩:∃y,y=fs[k]:=⟨_,rfl⟩
      rw[<-d]at D K L;rw[<-A]at f j B;rw[<-d,<-A]at hxy;have T:(x.kind==y.kind)=false\/(x.kind=y.kind/\(x.n==y.n)=false)\/(x.kind=y.kind/\x.n=y.n/\(x.p==y.p)=false):=by
       simp only[DX];by_cases h1:x.kind=y.kind
       .exact zo0
       .exact .inl h1
      clear d A hxy z t;rcases T with h1|⟨h1,h2⟩|⟨h1,h2,h3⟩
      .go_wp2
       go_region
       all_goals go_wp2
       go_ret;exact⟨Ac (by rw[FW (λh=>nY.out (Stil.Elem.mk.inj h).2)]),hbw.drew⟩
      .rw[<-h1]at f
       clear h1
       exact zXa
      .rw[<-h1]at f
       rw[<-h2]at j;clear h1 h2
       exact zXa
    go_wp2;(go_ret;have e:ds=fs:=by have:=M.out;rwa [E0 BS,E0 BS]at this);exact⟨Ac (by rw[FG (by rw[e])]),hbw⟩
  have U:((ds.length:Int) !=(fs.length:Int))=true:=by rw[bne_iff_ne];omega
  have s:Hid (¬ds=fs):=by show ¬_;intro h;exact u (by rw[h])
  clear u m l;go_enter func63,ntmps63;go_wp2;go_ret;exact⟨Ac (by rw[FW (λh=>s.out (Stil.Elem.mk.inj h).2)]),Bw⟩
 have ac:(op !=g)=true:=by rw[bne_iff_ne];exact q
 have s:Hid (¬op=g):=q;clear q m l;go_enter func63,ntmps63;go_wp2;go_ret;exact⟨Ac (by rw[FW (λh=>s.out (Stil.Elem.mk.inj h).1)]),Bw⟩
def ze0 {p:Prop}(h:p:=by
 go_wp2;go_ret;have e:es=fs:=by have:=HE.out;rwa [E0 BS,E0 BS]at this
 exact⟨Ac (by rw[FG e]),hb⟩):p:=h
def zwa {p:Prop}(h:p:=by
 go_wp2;refine wp_region_quiet_below BW BW ?_;repeat(go_big_quiet_step ((exact Calls.regrown_of (HI _ Bw))))
 refine wpQuiet_nil ?_;intro _ hw';obtain⟨⟨dq,osq⟩,hw''⟩:=hw';subst hw'';go_wp2;go_ret;exact⟨Ac yGf,Ie hb _ _⟩):p:=h
open Classical in
theorem ZA(es fs:List Stil.DL)(E:∀x∈es,∀y∈fs,∀(s f q r d m g l:Value)(w:World),Aq w s x.N.O.args->Eg w f x.N.K->F9 w q x.C->Dj w r x.K->Aq w d y.N.O.args->Eg w m y.N.K->F9 w g y.C->Dj w l y.K->Calls prog 27 #[.agg #[.int .i64 x.N.kind,.int .i64 x.N.O.op,s,f,q,r],.agg #[.int .i64 y.N.kind,.int .i64 y.N.O.op,d,m,g,l]] w λe j=>e=.returned (.bool (decide (x=y)))/\Below w.heap.size w j)(v u:Value)(w:World)(ac:Dj w v es)(nP:Dj w u fs)(hl:es.length<=1048576)(hm:fs.length<=1048576):
  Calls prog 7 #[v,u] w λe j=>e=.returned (.bool (decide (es=fs)))/\Below w.heap.size w j:=by
 obtain⟨a,cap,rfl,B⟩:=ac;obtain⟨a2,aA,rfl,D⟩:=nP;by_cases F:es.length=fs.length
 .have HA:Hid (∀i(h:i<es.length),∃b o,a=some ⟨b,o,none⟩/\b<w.heap.size/\Pg w b (o+i*6) es[i]):=B;have HB:Hid (∀i(h:i<fs.length),∃b o,a2=some ⟨b,o,none⟩/\b<w.heap.size/\Pg w b (o+i*6) fs[i]):=D;have IH:Hid (∀x∈es,∀y∈fs,∀(s f q r d m g l:Value)(w:World),Aq w s x.N.O.args->Eg w f x.N.K->F9 w q x.C->Dj w r x.K->Aq w d y.N.O.args->Eg w m y.N.K->F9 w g y.C->Dj w l y.K->Calls prog 27 #[.agg #[.int .i64 x.N.kind,.int .i64 x.N.O.op,s,f,q,r],.agg #[.int .i64 y.N.kind,.int .i64 y.N.O.op,d,m,g,l]] w λe j=>e=.returned (.bool (decide (x=y)))/\Below w.heap.size w j):=E;clear B D E;have ae:((es.length:Int) !=(fs.length:Int))=false:=by rw[bne_eq_false_iff_eq];omega
  have ao:es.length<=fs.length:=BS;have ap:fs.length<=es.length:=BS;clear F;go_enter func7,ntmps7;go_wp2;go_loopw [5] (λi wr=>∃k:Nat,k<=es.length/\i=.int .i64 k/\es.take k=fs.take k/\Below w.heap.size w wr) (λi _=>es.length - (intOf i).toNat);case atStart=>exact⟨0,BS,rfl,BU,Below.refl _ _⟩
  case round=>obtain⟨k,hk,rfl,M,hb⟩:=hrel;have HE:Hid (es.take k=fs.take k):=M;clear M;by_cases H:k<es.length;{have G:k<fs.length:=(by omega);obtain⟨b,o,rfl,ab,L⟩:=HA k H;have J:=(Pg.below hb _ _ _ L ab);obtain⟨b2,o2,rfl,aJ,aa⟩:=HB k G;have U:=(Pg.below hb _ _ _ aa aJ);obtain⟨ad,q,r,x4,x5,Z,K⟩:=(J).open;obtain⟨R,x1,s,f,x2,x3,T,I⟩:=ad.open;obtain⟨sU,g,l,y4,y5,Q,S⟩:=(U).open;obtain⟨N,P,d,m,y2,y3,X,V⟩:=sU.open;obtain⟨z,t⟩:∃z,decide (es[k]=fs[k])=z:=⟨_,rfl⟩;have HI:Hid (∀W,Below wr.heap.size wr W->Calls prog 27 #[.agg #[.int .i64 es[k].N.kind,.int .i64 es[k].N.O.op,s,f,q,r],.agg #[.int .i64 fs[k].N.kind,.int .i64 fs[k].N.O.op,d,m,g,l]] W λe j=>e=.returned (.bool (decide (es[k]=fs[k])))/\Below W.heap.size W j):=λW c=>IH es[k] (DY H) fs[k] (DY G) _ _ _ _ _ _ _ _ W (T.below c) (I.below c) (Z.below c) (K.below c) (X.below c) (V.below c) (Q.below c) (S.below c);have A:Hid (z=true->es.take (k+1)=fs.take (k+1)):=(by show _->_;intro h;rw[h,decide_eq_true_iff]at t;rw[EK H,EK G,HE.out,t]);have C:Hid (z=false->¬es=fs):=(by show _->_;intro h he;rw[h,FU]at t;subst he;exact t rfl);rw[t]at HI;obtain⟨x,O⟩:∃x,x=es[k]:=⟨_,rfl⟩;obtain⟨y,Y⟩:∃y,y=fs[k]:=⟨_,rfl⟩;rw[<-O]at HI R x1;rw[<-Y]at HI N P;clear O Y t L J aa U HE;obtain⟨p0,r0,rfl,_⟩:=T;obtain⟨o9,o8,rfl,_⟩:=X;obtain⟨p1,r1,rfl,_⟩:=I;obtain⟨aC,ar,rfl,_⟩:=V;obtain⟨p2,r2,rfl,_⟩:=Z;obtain⟨ak,aj,rfl,_⟩:=Q;obtain⟨p3,r3,rfl,_⟩:=K;obtain⟨au,aw,rfl,_⟩:=S;have wV:=cell_regrown R;have az:=cell_regrown N;have wU:=cell_regrown x1;have ag:=cell_regrown P;have eu:=cell_regrown x2;have al:=cell_regrown y2;have ay:=cell_regrown x3;have ai:=cell_regrown y3;have aB:=cell_regrown x4;have ax:=cell_regrown y4;have an:=cell_regrown x5;have ah:=cell_regrown y5;cases z;{have HF2:Hid (¬es=fs):=C rfl;clear C A;exact zwa};have af:Hid (es.take (k+1)=fs.take (k+1)):=A rfl;clear C A;go_wp2;(refine wp_region_quiet_below BW BW ?_;repeat(go_big_quiet_step ((exact Calls.regrown_of (HI _ Bw)))));refine wpQuiet_nil ?_;intro _ hw';obtain⟨⟨dq,osq⟩,hw''⟩:=hw';subst hw'';go_wp2;exact⟨⟨k+1,BS,by go_num,af.out,Ie hb _ _⟩,by simp[intOf];omega⟩};exact ze0
 have ae:((es.length:Int) !=(fs.length:Int))=true:=by rw[bne_iff_ne];omega
 have HN:Hid (¬es=fs):=by show ¬_;intro h;exact F (by rw[h])
 clear F B D E;go_enter func7,ntmps7;go_wp2;go_ret;exact⟨Ac yDe,Below.refl _ _⟩
open Classical in
theorem Wz(x y:Stil.Elem)(hx:x.fits)(h:y.fits):∀(b a:AW)(w:AU),Aq w b x.args->Aq w a y.args->Calls prog 63 #[.agg #[AB x.op,b],.agg #[AB y.op,a]] w (AN w (.bool (decide (x=y)))):=by intro b a w f d;obtain⟨op,j⟩:=x;obtain⟨i,c⟩:=y;exact Aue op i j c b a w f d hx.2.1 h.2.1
def zsa {p:Prop}(h:p:=by
 go_wp2;refine wp_region_quiet_below BW BW ?_;repeat(go_big_quiet_step ((exact Calls.regrown_of (HI _ Bw))))
 refine wpQuiet_nil ?_;intro _ hw';obtain⟨⟨dq,osq⟩,hw''⟩:=hw';subst hw'';go_wp2;exact⟨⟨j+1,BS,by go_num,HT2.out,hB.tr ((below_regrown _ dq osq).mo BS)⟩,by simp[intOf];omega⟩):p:=h
open Classical in
theorem Ayc(n:Stil.DK):∀m:Stil.DK,Ci n->Ci m->∀(g r d q:Value)(w:World),Aq w g n.O.args->Eg w r n.K->Aq w d m.O.args->Eg w q m.K->Calls prog 62 #[.agg #[.int .i64 n.kind,.int .i64 n.O.op,g,r],.agg #[.int .i64 m.kind,.int .i64 m.O.op,d,q]] w λe s=>e=.returned (.bool (decide (n=m)))/\Below w.heap.size w s:=by
 induction n using Gp with
 |h k e kids ih=>
  intro m T ab g r d q w z B A F;obtain⟨O,f,c⟩:=m;obtain⟨_,I,hl,hk⟩:=(G6 _ _ _).1 T;obtain⟨_,V,ax,aa⟩:=(G6 _ _ _).1 ab;simp only at z B A F;have G:Hid (∀W,Below w.heap.size w W->Calls prog 63 #[.agg #[.int .i64 e.op,g],.agg #[.int .i64 f.op,d]] W λai s=>ai=.returned (.bool (decide (e=f)))/\Below W.heap.size W s):=λW t=>Wz e f I V g d W (z.below t) (A.below t);have IH:Hid (∀x∈kids,∀y∈c,∀(g r d q:Value)(w:World),Aq w g x.O.args->Eg w r x.K->Aq w d y.O.args->Eg w q y.K->Calls prog 62 #[.agg #[.int .i64 x.kind,.int .i64 x.O.op,g,r],.agg #[.int .i64 y.kind,.int .i64 y.O.op,d,q]] w λe s=>e=.returned (.bool (decide (x=y)))/\Below w.heap.size w s):=λx C y K=>ih x C y (hk x C) (aa y K);obtain⟨U,r0,rfl,_⟩:=z;obtain⟨a,cap,rfl,l⟩:=B;obtain⟨p2,r2,rfl,_⟩:=A;obtain⟨Q,ac,rfl,D⟩:=F;clear ih T I hk ab V aa;by_cases J:k=O
  .subst J;cases hd:decide (e=f);{have HD:Hid (¬(⟨k,e,kids⟩:Stil.DK)=⟨k,f,c⟩):=(by show ¬_;rw[FU]at hd;intro h;exact hd (Stil.DK.mk.inj h).2.1);rw[hd]at G;clear hd l D;go_enter func62,ntmps62;go_wp2_with(go_at_call 63;refine(G _ BV).mono ?_;rintro e w1⟨rfl,hb⟩);go_ret;exact⟨Ac DG,BV⟩};have HD:Hid (decide ((⟨k,e,kids⟩:Stil.DK)=⟨k,f,c⟩)=decide (kids=c)):=(by show _=_;rw[decide_eq_true_iff]at hd;simp[hd]);rw[hd]at G;clear hd;by_cases P:kids.length=c.length
   .have ah:((kids.length:Int) !=(c.length:Int))=false:=(by rw[bne_eq_false_iff_eq];omega);have aI:kids.length<=c.length:=BS;have aQ:c.length<=kids.length:=BS;have HA:Hid (∀i(h:i<kids.length),∃b o,a=some ⟨b,o,none⟩/\b<w.heap.size/\Og w b (o+i*4) kids[i]):=l;have HB:Hid (∀i(h:i<c.length),∃b o,Q=some ⟨b,o,none⟩/\b<w.heap.size/\Og w b (o+i*4) c[i]):=D;clear P l D;go_enter func62,ntmps62;go_wp2_with(go_at_call 63;refine(G _ BV).mono ?_;rintro e w1⟨rfl,E⟩;obtain⟨l,hf⟩:=F7 E);go_loopw [5] (λi wr=>∃j:Nat,j<=kids.length/\i=.int .i64 j/\kids.take j=c.take j/\Below (w.heap.size+2) ((w.alloc (.cells #[.int .i64 k,.int .i64 e.op,.slice U e.args.length r0,.slice a kids.length cap] 63)).alloc (.cells #[.int .i64 k,.int .i64 f.op,.slice p2 f.args.length r2,.slice Q c.length ac] 63)) wr) (λi _=>kids.length - (intOf i).toNat);case atStart=>exact⟨0,BS,rfl,BU,by simpa using E⟩
    case round=>(clear l hf E;obtain⟨j,hj,rfl,Z,hB⟩:=hrel;have ay:w.heap.size<wr.heap.size:=by have:=hB.size;simp at this;omega);have aS:wr.cell? ⟨w.heap.size,0,none⟩=some (.int .i64 k):=Bn hB;have au:wr.frozen? ⟨w.heap.size,0,none⟩=false:=Bt hB;have aF:wr.cell? ⟨w.heap.size,1,none⟩=some (.int .i64 e.op):=Bn hB;have aU:wr.frozen? ⟨w.heap.size,1,none⟩=false:=Bt hB;have aT:wr.cell? ⟨w.heap.size,2,none⟩=some (.slice U e.args.length r0):=Bn hB;have ar:wr.frozen? ⟨w.heap.size,2,none⟩=false:=Bt hB;have ak:wr.cell? ⟨w.heap.size,3,none⟩=some (.slice a kids.length cap):=Bn hB;have aG:wr.frozen? ⟨w.heap.size,3,none⟩=false:=Bt hB;have aD:w.heap.size+1<wr.heap.size:=(by have:=hB.size;simp at this;omega);have aE:wr.cell? ⟨w.heap.size+1,0,none⟩=some (.int .i64 k):=Bn hB;have az:wr.frozen? ⟨w.heap.size+1,0,none⟩=false:=Bt hB;have aR:wr.cell? ⟨w.heap.size+1,1,none⟩=some (.int .i64 f.op):=Bn hB;have aC:wr.frozen? ⟨w.heap.size+1,1,none⟩=false:=Bt hB;have aO:wr.cell? ⟨w.heap.size+1,2,none⟩=some (.slice p2 f.args.length r2):=Bn hB;have ap:wr.frozen? ⟨w.heap.size+1,2,none⟩=false:=Bt hB;have aj:wr.cell? ⟨w.heap.size+1,3,none⟩=some (.slice Q c.length ac):=Bn hB;have aL:wr.frozen? ⟨w.heap.size+1,3,none⟩=false:=Bt hB;have hb:Below w.heap.size w wr:=(Bi (Aa _ _) _).trans (hB.mono BS);have M:Hid (kids.take j=c.take j):=Z;clear Z;by_cases S:j<kids.length;{have R:j<c.length:=(by omega);obtain⟨b,o,rfl,ag,Y⟩:=HA j S;have X:=(Og.below hb _ _ _ Y ag);obtain⟨b2,o2,rfl,aJ,ae⟩:=HB j R;have ad:=(Og.below hb _ _ _ ae aJ);obtain⟨x0,x1,g,r,x2,x3,z,B⟩:=(X).open;obtain⟨y0,y1,d,q,y2,y3,A,F⟩:=(ad).open;obtain⟨H,u⟩:∃H,decide (kids[j]=c[j])=H:=⟨_,rfl⟩;have HI:Hid (∀W,Below wr.heap.size wr W->Calls prog 62 #[.agg #[.int .i64 kids[j].kind,.int .i64 kids[j].O.op,g,r],.agg #[.int .i64 c[j].kind,.int .i64 c[j].O.op,d,q]] W λe s=>e=.returned (.bool (decide (kids[j]=c[j])))/\Below W.heap.size W s):=λW t=>IH kids[j] (DY S) c[j] (DY R) _ _ _ _ W (z.below t) (B.below t) (A.below t) (F.below t);have L:Hid (H=true->kids.take (j+1)=c.take (j+1)):=(by show _->_;intro h;rw[h,decide_eq_true_iff]at u;rw[EK S,EK R,M.out,u]);have N:Hid (H=false->¬kids=c):=(by show _->_;intro h I;rw[h,FU]at u;subst I;exact u rfl);rw[u]at HI;obtain⟨x,C⟩:∃x,x=kids[j]:=⟨_,rfl⟩;obtain⟨y,K⟩:∃y,y=c[j]:=⟨_,rfl⟩;rw[<-C]at HI x0 x1;rw[<-K]at HI y0 y1;clear C K u Y X ae ad M;obtain⟨s0,t0,rfl,_⟩:=z;obtain⟨s1,t1,rfl,_⟩:=B;obtain⟨s2,t2,rfl,_⟩:=A;obtain⟨s3,t3,rfl,_⟩:=F;have wV:=cell_regrown x0;have wU:=cell_regrown x1;have eu:=cell_regrown x2;have aH:=cell_regrown x3;have aM:=cell_regrown y0;have al:=cell_regrown y1;have aw:=cell_regrown y2;have an:=cell_regrown y3;have aB:=cell_regrown ak;have aP:=cell_regrown aj;cases H;{have af:Hid (¬kids=c):=N rfl;clear N L;go_wp2;(refine wp_region_quiet_below BW BW ?_;repeat(go_big_quiet_step ((exact Calls.regrown_of (HI _ Bw)))));refine wpQuiet_nil ?_;intro _ hw';obtain⟨⟨dq,osq⟩,hw''⟩:=hw';subst hw'';go_wp2;go_ret;exact⟨Ac (by rw[HD.out,FW af.out]),Ie hb _ _⟩};have HT2:Hid (kids.take (j+1)=c.take (j+1)):=L rfl;clear N L;exact zsa};go_wp2;(go_ret;have e:kids=c:=by have:=M.out;rwa [E0 BS,E0 BS]at this);exact⟨Ac (by rw[HD.out,FG e]),hb⟩
   have ah:((kids.length:Int) !=(c.length:Int))=true:=(by rw[bne_iff_ne];omega);have HN:Hid (¬kids=c):=(by show ¬_;intro h;exact P (by rw[h]));clear P l D;go_enter func62,ntmps62;go_wp2_with(go_at_call 63;refine(G _ BV).mono ?_;rintro e w1⟨rfl,E⟩;obtain⟨l,hf⟩:=F7 E);go_ret;exact⟨Ac (by rw[HD.out,FW HN.out]),BV⟩
  have ao:(k !=O)=true:=by rw[bne_iff_ne];exact J
  have HD:Hid (¬(⟨k,e,kids⟩:Stil.DK)=⟨O,f,c⟩):=by show ¬_;intro h;exact J (Stil.DK.mk.inj h).1
  clear J l D;go_enter func62,ntmps62;go_wp2;go_ret;exact⟨Ac DG,BV⟩
open Classical in
theorem Aym(n:Stil.DL):∀m:Stil.DL,Ba n->Ba m->∀(q F Z K g J Q I:Value)(w:World),Aq w q n.N.O.args->Eg w F n.N.K->F9 w Z n.C->Dj w K n.K->Aq w g m.N.O.args->Eg w J m.N.K->F9 w Q m.C->Dj w I m.K->Calls prog 27 #[.agg #[.int .i64 n.N.kind,.int .i64 n.N.O.op,q,F,Z,K],.agg #[.int .i64 m.N.kind,.int .i64 m.N.O.op,g,J,Q,I]] w λe t=>e=.returned (.bool (decide (n=m)))/\Below w.heap.size w t:=by
 induction n using Fz with
 |h n c kids ih=>
  intro m aa ag q F Z K g J Q I w B N aj P C U eF T;obtain⟨f,d,k⟩:=m;obtain⟨E,aE,ah,hl,hk⟩:=(Ep _ _ _).1 aa;obtain⟨ab,aT,ae,ad,af⟩:=(Ep _ _ _).1 ag;simp only at B N aj P C U eF T;have H:Hid (∀W,Below w.heap.size w W->Calls prog 62 #[.agg #[.int .i64 n.kind,.int .i64 n.O.op,q,F],.agg #[.int .i64 f.kind,.int .i64 f.O.op,g,J]] W λr t=>r=.returned (.bool (decide (n=f)))/\Below W.heap.size W t):=λW l=>Ayc n f E ab q F g J W (B.below l) (N.below l) (C.below l) (U.below l);have IH:Hid (∀x∈c,∀y∈d,∀(q g:Value)(w:World),Aq w q x.args->Aq w g y.args->Calls prog 63 #[.agg #[.int .i64 x.op,q],.agg #[.int .i64 y.op,g]] w λe t=>e=.returned (.bool (decide (x=y)))/\Below w.heap.size w t):=λx A y D=>Wz x y (ah x A) (ae y D);have H3:Hid (∀W,Below w.heap.size w W->Calls prog 7 #[K,I] W λr t=>r=.returned (.bool (decide (kids=k)))/\Below W.heap.size W t):=λW l=>ZA kids k (λx A y D=>ih x A y (hk x A) (af y D)) K I W (P.below l) (T.below l) hl ad;obtain⟨p0,r0,rfl,_⟩:=B;obtain⟨p1,r1,rfl,_⟩:=N;obtain⟨a,cap,rfl,z⟩:=aj;obtain⟨p3,r3,rfl,_⟩:=P;obtain⟨p4,r4,rfl,_⟩:=C;obtain⟨p5,r5,rfl,_⟩:=U;obtain⟨V,ai,rfl,M⟩:=eF;obtain⟨p7,r7,rfl,_⟩:=T;clear ih aa E ah hl hk ag ab ae ad af;cases hd:decide (n=f);{have HD:Hid (¬(⟨n,c,kids⟩:Stil.DL)=⟨f,d,k⟩):=(by show ¬_;rw[FU]at hd;intro h;exact hd (Stil.DL.mk.inj h).1);rw[hd]at H;clear hd z M;go_enter func27,ntmps27;go_wp2_with(go_at_call 62;refine(H _ BV).mono ?_;rintro e w1⟨rfl,hb⟩);go_ret;exact⟨Ac DG,BV⟩};rw[hd]at H;rw[decide_eq_true_iff]at hd;have ax:Hid (n=f):=hd;clear hd;by_cases S:c.length=d.length
  .have ao:((c.length:Int) !=(d.length:Int))=false:=(by rw[bne_eq_false_iff_eq];omega);have aS:c.length<=d.length:=BS;have a6:d.length<=c.length:=BS;have HA:Hid (∀i(h:i<c.length),∃b o,a=some ⟨b,o,none⟩/\b<w.heap.size/\Z8 w b (o+i*2) c[i]):=z;have HB:Hid (∀i(h:i<d.length),∃b o,V=some ⟨b,o,none⟩/\b<w.heap.size/\Z8 w b (o+i*2) d[i]):=M;clear S z M;go_enter func27,ntmps27;go_wp2_with(go_at_call 62;refine(H _ BV).mono ?_;rintro e w1⟨rfl,G⟩;obtain⟨z,hf⟩:=F7 G);go_loopw [5] (λi wr=>∃j:Nat,j<=c.length/\i=.int .i64 j/\c.take j=d.take j/\Below (w.heap.size+2) ((w.alloc (.cells #[.int .i64 n.kind,.int .i64 n.O.op,.slice p0 n.O.args.length r0,.slice p1 n.K.length r1,.slice a c.length cap,.slice p3 kids.length r3] 66)).alloc (.cells #[.int .i64 f.kind,.int .i64 f.O.op,.slice p4 f.O.args.length r4,.slice p5 f.K.length r5,.slice V d.length ai,.slice p7 k.length r7] 66)) wr) (λi _=>c.length - (intOf i).toNat);case atStart=>exact⟨0,BS,rfl,BU,by simpa using G⟩
   case round=>
    (clear z hf G;obtain⟨j,hj,rfl,ac,hB⟩:=hrel;have aF:w.heap.size<wr.heap.size:=by have:=hB.size;simp at this;omega);have a9:wr.cell? ⟨w.heap.size,0,none⟩=some (.int .i64 n.kind):=Bn hB;have aC:wr.frozen? ⟨w.heap.size,0,none⟩=false:=Bt hB;have aQ:wr.cell? ⟨w.heap.size,1,none⟩=some (.int .i64 n.O.op):=Bn hB;have bc:wr.frozen? ⟨w.heap.size,1,none⟩=false:=Bt hB;have ba:wr.cell? ⟨w.heap.size,2,none⟩=some (.slice p0 n.O.args.length r0):=Bn hB;have aB:wr.frozen? ⟨w.heap.size,2,none⟩=false:=Bt hB;have aU:wr.cell? ⟨w.heap.size,3,none⟩=some (.slice p1 n.K.length r1):=Bn hB;have aR:wr.frozen? ⟨w.heap.size,3,none⟩=false:=Bt hB;have an:wr.cell? ⟨w.heap.size,4,none⟩=some (.slice a c.length cap):=Bn hB;have az:wr.frozen? ⟨w.heap.size,4,none⟩=false:=Bt hB;have a7:wr.cell? ⟨w.heap.size,5,none⟩=some (.slice p3 kids.length r3):=Bn hB;have aw:wr.frozen? ⟨w.heap.size,5,none⟩=false:=Bt hB;have aO:w.heap.size+1<wr.heap.size:=(by have:=hB.size;simp at this;omega);have aP:wr.cell? ⟨w.heap.size+1,0,none⟩=some (.int .i64 f.kind):=Bn hB;have aI:wr.frozen? ⟨w.heap.size+1,0,none⟩=false:=Bt hB;have a8:wr.cell? ⟨w.heap.size+1,1,none⟩=some (.int .i64 f.O.op):=Bn hB;have aM:wr.frozen? ⟨w.heap.size+1,1,none⟩=false:=Bt hB;have a3:wr.cell? ⟨w.heap.size+1,2,none⟩=some (.slice p4 f.O.args.length r4):=Bn hB;have ay:wr.frozen? ⟨w.heap.size+1,2,none⟩=false:=Bt hB;have aH:wr.cell? ⟨w.heap.size+1,3,none⟩=some (.slice p5 f.K.length r5):=Bn hB;have aW:wr.frozen? ⟨w.heap.size+1,3,none⟩=false:=Bt hB;have ap:wr.cell? ⟨w.heap.size+1,4,none⟩=some (.slice V d.length ai):=Bn hB;have aD:wr.frozen? ⟨w.heap.size+1,4,none⟩=false:=Bt hB;have aX:wr.cell? ⟨w.heap.size+1,5,none⟩=some (.slice p7 k.length r7):=Bn hB;have aV:wr.frozen? ⟨w.heap.size+1,5,none⟩=false:=Bt hB;have hb:Below w.heap.size w wr:=(Bi (Aa _ _) _).trans (hB.mono BS);have L:Hid (c.take j=d.take j):=ac;clear ac;by_cases Y:j<c.length;{have X:j<d.length:=(by omega);obtain⟨b,o,rfl,al,E⟩:=HA j Y;obtain⟨b2,o2,rfl,aJ,ak⟩:=HB j X;obtain⟨x0,q,x1,B⟩:=E.below hb al;obtain⟨y0,g,y1,C⟩:=ak.below hb aJ;obtain⟨u,s⟩:∃u,decide (c[j]=d[j])=u:=⟨_,rfl⟩;have HI:Hid (∀W,Below wr.heap.size wr W->Calls prog 63 #[.agg #[.int .i64 c[j].op,q],.agg #[.int .i64 d[j].op,g]] W λe t=>e=.returned (.bool (decide (c[j]=d[j])))/\Below W.heap.size W t):=λW l=>IH c[j] (DY Y) d[j] (DY X) _ _ W (B.below l) (C.below l);have O:Hid (u=true->c.take (j+1)=d.take (j+1)):=(by show _->_;intro h;rw[h,decide_eq_true_iff]at s;rw[EK Y,EK X,L.out,s]);have R:Hid (u=false->¬c=d):=(by show _->_;intro h he;rw[h,FU]at s;subst he;exact s rfl);rw[s]at HI;obtain⟨x,A⟩:∃x,x=c[j]:=⟨_,rfl⟩;obtain⟨y,D⟩:∃y,y=d[j]:=⟨_,rfl⟩;rw[<-A]at HI x0;rw[<-D]at HI y0;clear A D s E ak L;obtain⟨s0,t0,rfl,_⟩:=B;obtain⟨s2,t2,rfl,_⟩:=C;have wV:=cell_regrown x0;have wU:=cell_regrown x1;have aZ:=cell_regrown y0;have ar:=cell_regrown y1;have aL:=cell_regrown an;have a5:=cell_regrown ap;cases u;{have HF2:Hid (¬(⟨n,c,kids⟩:Stil.DL)=⟨f,d,k⟩):=(by show ¬_;intro h;exact R rfl (Stil.DL.mk.inj h).2.1);clear R O;exact zwa};have HT2:Hid (c.take (j+1)=d.take (j+1)):=O rfl;clear R O;exact zsa}
    .have HD:Hid (decide ((⟨n,c,kids⟩:Stil.DL)=⟨f,d,k⟩)=decide (kids=k)):=by
      show _=_
      have e:c=d:=by
       have:=L.out
       rwa [E0 BS,E0 BS]at this
      simp[ax.out,e]
     obtain⟨u,s⟩:∃u,u=decide (kids=k):=⟨_,rfl⟩
     rw[<-s]at H3 HD;clear s L
     go_wp2_with(go_at_call 7;refine(H3 _ BV).mono ?_;rintro e w3⟨rfl,au⟩)
     go_ret;exact⟨Ac (by rw[HD.out]),BV⟩
  have ao:((c.length:Int) !=(d.length:Int))=true:=by rw[bne_iff_ne];omega
  have HN:Hid (¬(⟨n,c,kids⟩:Stil.DL)=⟨f,d,k⟩):=by show ¬_;intro h;exact S (by rw[(Stil.DL.mk.inj h).2.1])
  clear S z M;go_enter func27,ntmps27;go_wp2_with(go_at_call 62;refine(H _ BV).mono ?_;rintro e w1⟨rfl,G⟩;obtain⟨z,hf⟩:=F7 G);go_ret;exact⟨Ac yDe,BV⟩
open Classical in
theorem At8(a lb:Ek)(v u:AW)(w:AU)(d:Dj w v a)(b:Dj w u lb)(g:∀x∈a,Ba x)(c:∀x∈lb,Ba x)(hl:a.length<=1048576)(f:lb.length<=1048576):
  Calls prog 7 #[v,u] w (AN w (.bool (decide (a=lb)))):=
 ZA a lb (λx e y i=>Aym x y (g x e) (c y i)) v u w d b hl f
