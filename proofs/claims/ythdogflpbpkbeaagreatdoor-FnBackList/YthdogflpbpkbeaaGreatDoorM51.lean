import Derived.Test.YthdogflpbpkbeaaGreatDoorM34
set_option linter.defProp false
namespace Stil
variable {B B2 F F2 b' f' n:Nat}{c k:Int}
def Ks:Int × Int->AP->Int × Int
 |s,[]=>s
 |s,i::r=>Ks (step s i.code) r
theorem WA:∀(l m:AP)(s:Int × Int),Ks s (l++m)=Ks (Ks s l) m
 |[],_,_=>rfl
 |i::r,m,s=>WA r m (step s i.code)
theorem WM:∀(l m:AP)(s:Int × Int),Dz s (l++m)=Dz s l++Dz (Ks s l) m
 |[],_,_=>rfl
 |i::r,m,s=>by rw[EA,Dz,WM r m,Dz,Ks,EA]
theorem XB:∀(t u:List (Int × Int))(p:Int × Int),Fq p (t++u)=Fq (Fq p t) u
 |[],_,_=>rfl
 |s::r,u,p=>by rw[EA,Fq,XB r u,Fq]
def hts(b f:Nat):Int × Int:=((b:Int),(f:Int))
def kb(p q b f:Nat):LG (hts p q) (hts b f)=hts (max p b) (max q f):=by
 unfold LG hts;refine Prod.ext ?_ ?_
 .show(if(p:Int)<b then(b:Int) else p)=((max p b:Nat):Int);split<;>omega
 show(if(q:Int)<f then(f:Int) else q)=((max q f:Nat):Int);split<;>omega
structure G5(l:List Ar)(b f b' f' B F:Nat):Prop where
 lo1:b<=B
 lo2:f<=F
 hi1:b'<=B
 hi2:f'<=F
 fin:Ks (hts b f) l=hts b' f'
 top:∀p q:Nat,b<=p->f<=q->Fq (hts p q) (Dz (hts b f) l)=hts (max p B) (max q F)
def G5.nil(b f:Nat):G5 [] b f b f b f:=⟨DN _,DN _,DN _,DN _,rfl,λp q a d=>by rw[Nat.max_eq_left a,Nat.max_eq_left d];rfl⟩
def G5.O{i:Ar}{b f:Nat}(h:step (hts b f) i.code=hts b' f'):G5 [i] b f b' f' (max b b') (max f f'):=by refine⟨BS,BS,BS,BS,h,λp q a d=>?_⟩;show LG (hts p q) (step (hts b f) i.code)=_;rw[h,kb];congr 1<;>omega
def G5.append{l m:AP}{b f b2 a:Nat}(h:G5 l b f b' f' B F)(k:G5 m b' f' b2 a B2 F2):G5 (l++m) b f b2 a (max B B2) (max F F2):=by have i:=h.lo1;have j:=h.lo2;have o:=k.hi1;have g:=k.hi2;refine⟨BS,BS,BS,BS,by rw[WA,h.fin,k.fin],λp q e d=>?_⟩;have s:=h.hi1;have r:=h.hi2;rw[WM,XB,h.top p q e d,h.fin,k.top _ _ BS BS];congr 1<;>omega
theorem G5.cast{l:AP}{b f:Nat}(h:G5 l b f b' f' B F)(h1:B=B2)(a:F=F2):G5 l b f b' f' B2 F2:=by subst h1 a;exact h
def Jn(b x:Nat)(l:Γ):A8 b (x::l)=max x (A8 b l):=by show A8 (max b x) l=_;rw[Nat.max_comm,I5]
def N4{n:DK}(h:n.kind=1):Au n=1:=by unfold Au MO;rw[BR h]
def Vh{n:DK}(h:n.kind≠1):Au n=1+Ak n:=by unfold Au MO;rw[BQ h]
theorem NP{b f:Nat}(h:c=2\/c=3\/c=6\/c=8\/c=10):step (hts b f) c=hts b f:=by rcases h with rfl|rfl|rfl|rfl|rfl<;>rfl
theorem yJ(g:k=2\/k=3){y:DK}(d:∀b f,G5 (Cf y) b f (b+1) f (b+Ak y) f)(b f:Nat):G5 (Dq k y) (b+1) f (b+1) f (b+Au y) f:=by
 by_cases a:y.kind=1
 .rw[Ji k y a,N4 a];exact(G5.O (i:=⟨k,y.O⟩) (NP (by rcases g with h|h<;>simp[h]))).cast BS BS
 rw[Il k y a,Vh a];have l:step (hts (b+1+1) f) (Gh (k+2)).code=hts (b+1) f:=by have e:step (hts (b+1+1) f) (Gh (k+2)).code=(((b+1+1:Nat):Int) - 1,(f:Int)):=xBe;rw[e];unfold hts;refine Prod.ext ?_ rfl;show((b+1+1:Nat):Int) - 1=((b+1:Nat):Int);omega
 have j:=(d (b+1) f).append (G5.O l);have m:=(d (b+1) f).hi1;exact j.cast BS BS
theorem QC(a:k=2\/k=3)(b f:Nat):∀(r:Ξ),(∀y∈r,∀b f,G5 (Cf y) b f (b+1) f (b+Ak y) f)->G5 ((r.map (Dq k)).flatten) (b+1) f (b+1) f (b+A8 1 (r.map Au)) f
 |[],_=>G5.nil _ _
 |y::r,h=>by
  rw[DZ,ER,DZ,Jn];exact((yJ a (h y BU) b f).append (QC a b f r (λz d=>h z (Da _ d)))).cast BS BS
theorem Y7(n:DK):Tu n->Ap n=0->∀b f,G5 (Cf n) b f (b+1) f (b+Ak n) f:=by
 refine Gp (λn=>Tu n->Ap n=0->∀b f,G5 (Cf n) b f (b+1) f (b+Ak n) f) ?_ n;intro k e kids g h w b f;have j:=((Za _ _ _).1 h).2;have v:step (hts b f) (1:Int)=hts (b+1) f:=by have m:step (hts b f) (1:Int)=((b:Int)+1,(f:Int)):=rfl;rw[m];refine Prod.ext ?_ rfl;show(b:Int)+1=((b+1:Nat):Int);omega
 rcases F8 w with⟨rfl,rfl⟩|⟨o,s,l⟩|⟨rfl,_,x,rfl,t⟩
 .rw[L6,V8];exact(G5.O (i:=⟨1,e⟩) v).cast BS BS
 .obtain⟨x,r,rfl⟩:∃x r,kids=x::r:=by
   cases kids with
   |nil=>simp at s
   |cons x r=>exact⟨x,r,rfl⟩
  rw[Jh e x r BS BS,Ll e x r BS];have a:=g x BU (j x BU) (l x BU) b f;have q:=QC o b f r (λy d=>g y (Da _ d) (j y (Da _ d)) (l y (Da _ d)));have u:=a.hi1;have z:A8 (Ak x) (r.map Au)=max (Ak x) (A8 1 (r.map Au)):=by
   rw[<-I5,Nat.max_eq_left BS]
  exact(a.append q).cast BS BS
 rw[L8,Ll e x [] BX];have a:=g x BU (j x BU) t b f;have u:=a.hi1;refine(a.append (G5.O (i:=Gh 6) (NP xCv))).cast ?_ BS;show max (b+Ak x) (max (b+1) (b+1))=b+Ak x;omega
theorem Xj(f:Nat):∀(a:Ω),G5 (G9 a) 1 f 1 f 1 f
 |[]=>G5.nil _ _
 |c::a=>((G5.O (i:=⟨10,c⟩) (NP (b:=1) (f:=f) BU)).append (Xj f a)).cast BS BS
theorem U0{n:DK}(h:Gu n):∀x∈Bv n,Ap x=0:=by
 intro x a;unfold Bv at a;split at a
 .cases a
 rename_i d;have b:=h.resolve_left d;split at a
 .exact N8 b.2.2 x a
 rw[BB.1 a];exact b.2.2
def uL{n:DK}(h:Gu n)(f:Nat):G5 (Bc n) 1 f 1 f (A8 1 ((Bv n).map Au)) f:=by unfold Bc;have:=QC (.inl rfl) 0 f (Bv n) (λy a=>Y7 y (YA h y a) (U0 h y a));exact this.cast BS rfl
def QO{k:DL}(h:Gu k.N){f:Nat}(a:G5 (Bz k) 1 f 1 f (Bq k) (f+forks k)):G5 (Bc k.N++Bz k) 1 f 1 f (Gs k.N (Bq k)) (f+forks k):=by
 have b:=a.lo1;refine((uL h f).append a).cast ?_ BS;unfold Gs;have e:A8 (Bq k) ((Bv k.N).map Au)=max (Bq k) (A8 1 ((Bv k.N).map Au)):=by rw[<-I5,Nat.max_eq_left b]
 omega
def Ny:Ek->Nat
 |[]=>0
 |[k]=>forks k
 |k::t=>max (forks k+1) (Ny t)
theorem Vw:∀(a:Ek),A8 0 (bump (a.map forks))=Ny a
 |[]=>rfl
 |[k]=>by
  show max 0 (Yr 1 0 (forks k))=forks k
  unfold Yr;rw[BQ BS];omega
 |k::y::t=>by
  have b:=Vw (y::t);have e:bump ((k::y::t).map forks)=(forks k+1)::bump ((y::t).map forks):=by
   unfold bump;rw[DZ,List.mapIdx_cons];have d:Yr (forks k::(y::t).map forks).l 0 (forks k)=forks k+1:=by unfold Yr;rw[BR BU]
   have f:(λi x=>Yr (forks k::(y::t).map forks).l (i+1) x)=λi x=>Yr ((y::t).map forks).l i x:=by
    funext i x;unfold Yr;simp only[DT,Db];by_cases hi:i+1<t.l+1
    .rw[BR BS,BR BS]
    .rw[BQ BS,BQ BS]
   rw[d,f]
  rw[e,Jn,b];rfl
theorem XY(o:n≠1)(f:Nat):∀(b:Ek)(i:Nat),i+b.length=n->b≠[]->(∀k∈b,Gu k.N/\∀f,G5 (Bz k) 1 f 1 f (Bq k) (f+forks k))->
  G5 (D8 n i b) 1 (if i=0 then f else f+1) 1 f (A8 1 (b.map (λk=>Gs k.N (Bq k)))) (max (f+1) (f+Ny b))
 |[],_,_,h,_=>absurd rfl h
 |k::t,i,hi,_,q=>by
  rw[DT]at hi;have⟨l,r⟩:=q k BU;rw[D8];unfold H5 G2 En;rw[BQ o,DZ,Jn];by_cases j:t=[]
  .subst j
   simp only[DW]at hi;rw[BQ BS,BR BS,BQ BS,D8,EZ];have d:step (hts 1 (f+1)) (Gh 9).code=hts 1 f:=by
    have e:step (hts 1 (f+1)) (Gh 9).code=((1:Int),((f+1:Nat):Int) - 1):=rfl;rw[e];refine Prod.ext rfl ?_;show((f+1:Nat):Int) - 1=(f:Int)
    omega
   have a:=QO l (r f);have s:=a.lo1;refine((G5.O d).append a).cast ?_ ?_
   .show max (max 1 1) _=max _ (A8 1 [])
    show max (max 1 1) _=max _ 1
    omega
   .show max (max (f+1) f) (f+forks k)=max (f+1) (f+Ny [k])
    show max (max (f+1) f) (f+forks k)=max (f+1) (f+forks k)
    omega
  .have v:0<t.length:=List.length_pos_iff.2 j
   have m:=XY o f t (i+1) BS j (λk l=>q k (Da _ l));rw[BQ BS]at m;have a:=QO l (r (f+1));have s:=a.lo1;have u:Ny (k::t)=max (forks k+1) (Ny t):=by
    cases t with
    |nil=>exact absurd rfl j
    |cons y t=>rfl
   rw[u];by_cases g:i=0
   .rw[BR g,BR g]
    have d:step (hts 1 f) (Gh 7).code=hts 1 (f+1):=by
     have e:step (hts 1 f) (Gh 7).code=((1:Int),((f:Nat):Int)+1):=rfl;rw[e];refine Prod.ext rfl ?_;show((f:Nat):Int)+1=((f+1:Nat):Int)
     omega
    refine(((G5.O d).append a).append m).cast ?_ ?_
    .omega
    .omega
   .rw[BQ g,BQ BS,BQ g]
    have d:step (hts 1 (f+1)) (Gh 8).code=hts 1 (f+1):=NP xCv;refine(((G5.O d).append a).append m).cast ?_ ?_
    .omega
    .omega
theorem P0(a:DL):Et a->∀f,G5 (Bz a) 1 f 1 f (Bq a) (f+forks a):=by
 refine Fz (λa=>Et a->∀f,G5 (Bz a) 1 f 1 f (Bq a) (f+forks a)) ?_ a;intro n d kids m h f;have i:=((Ee _ _ _).1 h).2;have b:∀k∈kids,Gu k.N/\∀f,G5 (Bz k) 1 f 1 f (Bq k) (f+forks k):=by intro k e;refine⟨?_,m k e (i k e)⟩;have:=i k e;obtain⟨r,s,q⟩:=k;exact((Ee _ _ _).1 this).1
 rw[Nl,Oq,Uy,Vw]
 match kids,b with
 |[],_=>exact((Xj f d).append (G5.nil 1 f)).cast (by show max 1 1=1;omega) (by show max f f=f+0;omega)
 |[k],b=>
  have g:=QO (b k BU).1 ((b k BU).2 f);have o:D8 [k].l 0 [k]=Bc k.N++Bz k:=by show(([]:AP)++(Bc k.N++Bz k))++[]=_;rw[ED,EZ]
  have j:=g.lo1;rw[o];refine((Xj f d).append g).cast ?_ ?_;{show max 1 _=max 1 _;rfl};show max f (f+forks k)=f+forks k;omega
 |k::y::t,b=>have hF:=XY (n:=(k::y::t).l) BU f (k::y::t) 0 BU BU b;rw[BR rfl]at hF;have j:=hF.lo1;have l:Ny (k::y::t)=max (forks k+1) (Ny (y::t)):=rfl;refine((Xj f d).append hF).cast ?_ ?_;{omega};rw[l];omega
def xj{a:DL}(h:Et a)(b:fine a.N):G5 (Ed a) 0 0 0 0 (Hm a) (forks a):=by have f:=Y7 a.N (full_of _ b.2.2) b.2.2 0 0;have d:=P0 a h 0;have e:step (hts 1 0) (Gh 11).code=hts 0 0:=rfl;have g:=d.lo1;refine(f.append (d.append (G5.O e))).cast ?_ BS;unfold Hm;omega
theorem WO:∀(l:Ek),(∀a∈l,Et a/\fine a.N)->G5 ((l.map Ed).flatten) 0 0 0 0 (A8 0 (l.map Hm)) (A8 0 (l.map forks))
 |[],_=>G5.nil _ _
 |a::l,h=>by
  rw[DZ,ER,DZ,DZ,Jn,Jn];exact(xj (h a BU).1 (h a BU).2).append (WO l (λx b=>h x (Da _ b)))
theorem Ur:∀{l m:AP}{s t:Pt},run s l=some t->run s (l++m)=run t m
 |[],_,_,_,h=>by injection h with h;subst h;rfl
 |i::r,m,s,t,h=>by
  rw[run]at h;rw[EA,run];split at h
  .cases h
  .rename_i a
   rw[BQ a];exact Ur h
def KL{i:Ar}{s:Pt}(h:wrong s i=0):run s [i]=some (next s i.code):=by rw[run,BQ BS];rfl
def NK{s:Pt}{i:Ar}(h0:Jz i=true)(d:i.code<7)(h1:needs i.code<=s.bits)(a:i.code=1->s.bits≠16)(b:s.seen=true->s.bits=low i.code->¬(i.code=3\/i.code=6\/i.code=5)):wrong s i=0:=by unfold wrong;rw[BQ (by rw[h0];decide),BQ BS,BQ (by intro h;exact a h.1 h.2),BQ BS,BQ (by intro h;exact b h.1 h.2.1 h.2.2),BQ BS,BQ BS,BQ BS,BQ BS]
def fo(s:Pt):next s 1=⟨s.bits+1,s.forks,s.seen,false⟩:=by
 unfold next
 simp
theorem bY(h:c=2\/c=3\/c=6)(s:Pt):next s c=⟨s.bits,s.forks,s.seen,false⟩:=by
 unfold next
 rcases h with rfl|rfl|rfl<;>simp
theorem Azh(h:c=4\/c=5)(s:Pt):next s c=⟨s.bits - 1,s.forks,s.seen,false⟩:=by
 unfold next
 rcases h with rfl|rfl<;>simp
def YG(h:c=1\/c=2\/c=3){e:Elem}(a:Df e.op e.args=true):Jz ⟨c,e⟩=true:=by unfold Jz;simp only;rwa[BQ BS,BR BS]
def SV(h:4<=c)(b:c<=11)(a:c≠10):Jz (Gh c)=true:=by unfold Jz Gh;simp only;rw[BQ BS,BQ BS,BQ a];rfl
theorem ZY{e:Elem}{kids:Ξ}(h:Ap ⟨1,e,kids⟩=0):Df e.op e.args=true:=by
 rw[Ku,BR rfl]at h;split at h
 .omega
 split at h
 .rename_i a;exact a
 omega
theorem Azo(g:k=2\/k=3){y:DK}(u:Ap y=0)
  (l:∀s:Pt,0<=s.bits->s.bits+Ak y<=16->(s.seen=true->1<=s.bits)->run s (Cf y)=some ⟨s.bits+1,s.forks,s.seen,false⟩)
  (s:Pt) (h1:1<=s.bits) (r:s.bits+Au y<=17) (i:s.seen=true->2<=s.bits\/k=2):run s (Dq k y)=some ⟨s.bits,s.forks,s.seen,false⟩:=by
 by_cases a:y.kind=1
 .rw[Ji k y a];have t:Df y.O.op y.O.args=true:=by obtain⟨o,e,kids⟩:=y;obtain rfl:o=1:=a;exact ZY u
  have m:needs k=1:=xBe;have j:low k=1:=xBe;rw[KL (NK (YG BS t) (by show k<7;omega) (by show needs k<=_;omega) (by intro h;exfalso;have d:k=1:=h;omega) ?_)];{show some (next s k)=_;rw[bY BS]};intro f b h;have q:s.bits=low k:=b;have d:k=3\/k=6\/k=5:=h;have:=i f;omega
 rw[Il k y a];rw[Vh a]at r;have v:=l s BS BS (λ_=>h1);rw[Ur v];have m:needs (k+2)=2:=xBe;have j:k=3->low (k+2)=2:=by rintro rfl;rfl
 rw[KL (NK (SV BS BS BS) (by show k+2<7;omega) (by show needs (k+2)<=s.bits+1;omega) (by intro h;exfalso;have d:k+2=1:=h;omega) ?_)]
 .show some (next _ (k+2))=_;rw[Azh BS];simp
 intro f b h;have q:s.bits+1=low (k+2):=b;have d:k+2=3\/k+2=6\/k+2=5:=h;have x:=i f;have w:=j BS;omega
theorem RQ(f:k=2\/k=3):∀(r:Ξ),(∀y∈r,Ap y=0/\∀s:Pt,0<=s.bits->s.bits+Ak y<=16->(s.seen=true->1<=s.bits)->run s (Cf y)=some ⟨s.bits+1,s.forks,s.seen,false⟩)->
  ∀s:Pt,1<=s.bits->s.bits+A8 1 (r.map Au)<=17->(s.seen=true->2<=s.bits\/k=2)->∃c,run s ((r.map (Dq k)).flatten)=some ⟨s.bits,s.forks,s.seen,c⟩/\(r≠[]->c=false)
 |[],_,s,_,_,_=>⟨s.coil,rfl,λh=>absurd rfl h⟩
 |y::r,h,s,b,i,d=>by
  rw[DZ,Jn]at i;rw[DZ,ER];rw[Ur (Azo f (h y BU).1 (h y BU).2 s b BS d)];have⟨c,e,g⟩:=RQ f r (λz j=>h z (Da _ j)) ⟨s.bits,s.forks,s.seen,false⟩ b (by show s.bits+_<=17;omega) d;by_cases a:r=[]
  .subst a
   exact⟨false,rfl,λ_=>rfl⟩
  .exact⟨c,e,λ_=>g a⟩
theorem ey(n:DK):Ap n=0->∀s:Pt,0<=s.bits->s.bits+Ak n<=16->(s.seen=true->1<=s.bits)->run s (Cf n)=some ⟨s.bits+1,s.forks,s.seen,false⟩:=by
 refine Gp (λn=>Ap n=0->∀s:Pt,0<=s.bits->s.bits+Ak n<=16->(s.seen=true->1<=s.bits)->run s (Cf n)=some ⟨s.bits+1,s.forks,s.seen,false⟩) ?_ n;intro k e kids g l s j b d;have v:=l;rcases F8 l with⟨rfl,rfl⟩|⟨o,u,a⟩|⟨rfl,_,x,rfl,A⟩
 .rw[L6];rw[V8]at b;rw[KL (NK (YG (.inl rfl) (ZY v)) (by show(1:Int)<7;decide) (by show(0:Int)<=_;omega) (by intro _;omega) (by intro _ _ h;have w:(1:Int)=3\/(1:Int)=6\/(1:Int)=5:=h;omega))];exact congrArg some (fo s)
 .obtain⟨x,r,rfl⟩:∃x r,kids=x::r:=by
   cases kids with
   |nil=>simp at u
   |cons x r=>exact⟨x,r,rfl⟩
  rw[Ll e x r BS]at b;have E:=(Y7 x (full_of x (a x BU)) (a x BU) 0 0).hi1;have D:A8 (Ak x) (r.map Au)=max (Ak x) (A8 1 (r.map Au)):=by
   rw[<-I5,Nat.max_eq_left BS]
  rw[Jh e x r BS BS,Ur (g x BU (a x BU) s j BS d)];have⟨c,m,q⟩:=RQ o r (λy f=>⟨a y (Da _ f),g y (Da _ f) (a y (Da _ f))⟩) ⟨s.bits+1,s.forks,s.seen,false⟩ (by show 1<=s.bits+1;omega) (by show s.bits+1+_<=17;omega) (λh=>.inl (by have:=d h;show 2<=s.bits+1;omega));by_cases i:r=[]
  .subst i;rfl
  .rw[m,q i]
 rw[Ll e x [] BX]at b;rw[L8,Ur (g x BU A s j b d)];rw[KL (NK (SV BX BX BX) (by show(6:Int)<7;decide) (by show(1:Int)<=s.bits+1;omega) (by intro h;have w:(6:Int)=1:=h;omega) ?_)]
 .exact congrArg some (bY xCv _)
 intro t z _;have C:s.bits+1=1:=z;have:=d t;omega
def VS(c:Elem)(cs:Ω):Dt (c::cs)=(!Gi c.op c.args || Dt cs):=rfl
theorem dL:∀(a:Ω)(s:Pt),s.bits=1->Dt a=false->run s (G9 a)=some (if a=[] then s else⟨1,s.forks,true,true⟩)
 |[],s,_,_=>rfl
 |c::a,s,e,h=>by
  rw[VS,Bool.or_eq_false_iff]at h;have b:Gi c.op c.args=true:=by simpa using h.1
  have g:wrong s ⟨10,c⟩=0:=by
   unfold wrong;have f:Jz ⟨10,c⟩=true:=b;have i:needs (10:Int)=1:=rfl;simp only;rw[BQ (by rw[f];decide),BQ BS,BQ BS,BQ BS,BQ yFf,BQ BS,BQ BS,BQ BS,BQ yFf]
  have d:next s 10=⟨1,s.forks,true,true⟩:=by
   unfold next
   simp[e]
  rw[BQ BU];show run s ([⟨10,c⟩]++G9 a)=_
  rw[Ur (KL g)];show run (next s 10) (G9 a)=_
  rw[d,dL a _ rfl h.2];split<;>rfl
def Arj{n:DK}(h:Gu n)(s:Pt)(h1:s.bits=1)(b:A8 1 ((Bv n).map Au)<=16):∃c,run s (Bc n)=some ⟨1,s.forks,s.seen,c⟩:=by unfold Bc;have⟨c,e,_⟩:=RQ (.inl rfl) (Bv n) (λy a=>⟨U0 h y a,ey y (U0 h y a)⟩) s BS BS (λ_=>.inr rfl);rw[h1]at e;exact⟨c,e⟩
def MD(a:DL):Prop:=∀s:Pt,s.bits=1->0<=s.forks->Bq a<=16->s.forks+forks a<=8->run s (Bz a)=some ⟨1,s.forks,true,true⟩
theorem SJ{k:DL}(h:Gu k.N)(g:MD k)(s:Pt)(h1:s.bits=1)(h0:0<=s.forks)(i:Gs k.N (Bq k)<=16)(a:s.forks+forks k<=8)(d:G5 (Bz k) 1 0 1 0 (Bq k) (0+forks k)):
  run s (Bc k.N++Bz k)=some ⟨1,s.forks,true,true⟩:=by
 have f:=d.lo1;have e:Gs k.N (Bq k)=max (Bq k) (A8 1 ((Bv k.N).map Au)):=by unfold Gs;rw[<-I5,Nat.max_eq_left f]
 have⟨c,b⟩:=Arj h s h1 BS;rw[Ur b];exact g ⟨1,s.forks,s.seen,c⟩ rfl h0 BS a
theorem QT{s:Pt}(b:c=7\/c=8\/c=9)(h1:s.bits=1)(f:c=7->s.forks≠8)(a:c≠7->s.forks≠0/\s.coil=true):wrong s (Gh c)=0:=by
 unfold wrong;have e:Jz (Gh c)=true:=SV BS BS BS;have g:needs c=1:=by rcases b with rfl|rfl|rfl<;>rfl
 have d:(Gh c).code=c:=rfl;rw[d];rw[BQ (by rw[e];decide),BQ BS,BQ BS,BQ BS,BQ yFf,BQ (by intro h;exact f h.1 h.2),BQ (by intro h;exact(a BS).1 h.2),BQ BS,BQ (by intro h;rw[(a BS).2]at h;exact absurd h.2 BX)]
theorem cT(o:n≠1)(f:Int)(w:0<=f):∀(b:Ek)(i:Nat),i+b.length=n->b≠[]->(∀k∈b,Gu k.N/\MD k/\G5 (Bz k) 1 0 1 0 (Bq k) (0+forks k))->
  ∀s:Pt,s.bits=1->s.forks=(if i=0 then f else f+1)->(i≠0->s.coil=true)->A8 1 (b.map (λk=>Gs k.N (Bq k)))<=16->f+1<=8->f+Ny b<=8->run s (D8 n i b)=some ⟨1,f,true,true⟩
 |[],_,_,h,_,_,_,_,_,_,_,_=>absurd rfl h
 |k::t,i,hi,_,r,s,a,d,u,A,G,hF=>by
  rw[DT]at hi;have⟨l,v,q⟩:=r k BU;rw[DZ,Jn]at A;rw[D8];unfold H5 G2 En;rw[BQ o];by_cases j:t=[]
  .subst j
   simp only[DW]at hi;rw[BQ BS,BR BS,D8,EZ];rw[BQ BS]at d;rw[Ur (KL (QT (.inr (.inr rfl)) a yFf (λ_=>⟨BS,u BS⟩)))];have m:next s (Gh 9).code=⟨1,f,s.seen,false⟩:=by
    show next s 9=_
    unfold next
    simp[a,d]
   have D:f+(forks k:Int)<=8:=hF;rw[m,SJ l v ⟨1,f,s.seen,false⟩ rfl w BS D q]
  .have H:0<t.length:=List.length_pos_iff.2 j
   have C:Ny (k::t)=max (forks k+1) (Ny t):=by
    cases t with
    |nil=>exact absurd rfl j
    |cons y t=>rfl
   rw[C]at hF;have rest:∀c:Int,∀g:Pt,wrong s (Gh c)=0->next s (Gh c).code=g->g.bits=1->g.forks=f+1->run s ([Gh c]++(Bc k.N++Bz k)++D8 n (i+1) t)=some ⟨1,f,true,true⟩:=by
    intro c g E m x z;rw[EJ,Ur (KL E),m,Ur (SJ l v g x BS BS BS q),z];exact cT o f w t (i+1) BS j (λk l=>r k (Da _ l)) ⟨1,f+1,true,true⟩ rfl (by rw[BQ BS]) (λ_=>rfl) BS G BS
   by_cases e:i=0
   .rw[BR e]
    rw[BR e]at d;refine rest 7 ⟨1,f+1,true,false⟩ (QT (.inl rfl) a (λ_=>by omega) (λh=>absurd rfl h)) ?_ rfl rfl;show next s 7=_
    unfold next
    simp[a,d]
   .rw[BQ e,BQ BS]
    rw[BQ e]at d;refine rest 8 ⟨1,f+1,s.seen,false⟩ (QT (.inr (.inl rfl)) a yFf (λ_=>⟨BS,u e⟩)) ?_ rfl rfl;show next s 8=_
    unfold next
    simp[a,d]
theorem Ay9{n:DK}{cs:Ω}{kids:Ek}(h:C9 ⟨n,cs,kids⟩=0):Dt cs=false/\(kids=[]->cs≠[]):=by
 unfold C9 at h;simp only at h;split at h
 .rename_i b;omega
 split at h
 .omega
 rename_i a;refine⟨by simpa using a,?_⟩;rintro rfl rfl;simp at h
theorem Ax3(a:DL):Et a->Cb a=0->MD a:=by
 refine Fz (λa=>Et a->Cb a=0->MD a) ?_ a;intro n f kids E h I s m x d hF;have⟨C,v⟩:=I4.1 I;have⟨G,g⟩:=Ay9 C;have L:=((Ee _ _ _).1 h).2;have e:∀k∈kids,Gu k.N/\MD k/\G5 (Bz k) 1 0 1 0 (Bq k) (0+forks k):=by intro k l;have j:=L k l;refine⟨?_,E k l j (v k l),P0 k j 0⟩;obtain⟨N,O,M⟩:=k;exact((Ee _ _ _).1 j).1
 rw[Oq]at d;rw[Uy,Vw]at hF;rw[Nl,Ur (dL f s m G)];have u:∃b:Pt,(if f=[] then s else⟨1,s.forks,true,true⟩)=b/\b.bits=1/\b.forks=s.forks/\(f≠[]->b=⟨1,s.forks,true,true⟩):=by by_cases i:f=[];{exact⟨s,BR i,m,rfl,λh=>absurd i h⟩};exact⟨⟨1,s.forks,true,true⟩,BQ i,rfl,rfl,λ_=>rfl⟩
 obtain⟨b,r,q,o,A⟩:=u;rw[r]
 match kids,e,g,d,hF with
 |[],_,g,_,_=>show some b=_;rw[A (g rfl)]
 |[k],e,_,d,hF=>
  have J:D8 [k].l 0 [k]=Bc k.N++Bz k:=by show(([]:AP)++(Bc k.N++Bz k))++[]=_;rw[ED,EZ]
  have⟨H,z,K⟩:=e k BU;have Q:max 1 (Gs k.N (Bq k))<=16:=d;have P:s.forks+(forks k:Int)<=8:=hF;rw[J,SJ H z b q BS BS BS K,o]
 |k::y::t,e,_,d,hF=>
  have D:Ny (k::y::t)=max (forks k+1) (Ny (y::t)):=rfl;have w:s.forks+1<=8:=by rw[D]at hF;omega
  exact cT (n:=(k::y::t).l) BU s.forks x (k::y::t) 0 BU BU e b q (by rwa[BR rfl]) (λh=>absurd rfl h) d w hF
def Ayr{a:DL}(h:Et a)(d:fine a.N)(b:Cb a=0)(f:Hm a<=16)(i:forks a<=8):run pt0 (Ed a)=some pt0:=by unfold Hm at f;have g:=ey a.N d.2.2 pt0 BX (by show(0:Int)+Ak a.N<=16;omega) (λh=>absurd h BX);unfold Ed;rw[Ur g];have e:=Ax3 a h b ⟨pt0.bits+1,pt0.forks,pt0.seen,false⟩ rfl BX BS (by show(0:Int)+forks a<=8;omega);rw[Ur e];rfl
theorem YD:∀(l:Ek),(∀a∈l,Et a/\fine a.N/\Cb a=0/\Hm a<=16/\forks a<=8)->run pt0 ((l.map Ed).flatten)=some pt0
 |[],_=>rfl
 |a::l,h=>by
  have⟨d,e,g,b,i⟩:=h a BU;rw[DZ,ER,Ur (Ayr d e g b i)];exact YD l (λx f=>h x (Da _ f))
def noEnd(l:AP):Prop:=∀i∈l,i.code≠11
def Q5{l m:AP}(h:noEnd l)(k:noEnd m):noEnd (l++m):=λi hi=>(BI.1 hi).elim (h i) (k i)
def RE{i:Ar}(h:i.code≠11):noEnd [i]:=λj a=>by rwa[BB.1 a]
theorem RF:noEnd []:=λj a=>by cases a
theorem Rl.noEnd:∀{l:AP}{a b:Ξ},Rl l a b->Stil.noEnd l
 |[],_,_,_=>RF
 |i::r,_,_,h=>by
  intro j d;rcases BD.1 d with rfl|d
  .have:=h.2.1;omega
  .exact Rl.noEnd h.2.2.2 j d
theorem Awl(cs:Ω):noEnd (G9 cs):=by intro i hi;obtain⟨c,_,rfl⟩:=BM.1 hi;show(10:Int)≠11;decide
def Av9(n i:Nat):noEnd (En n i):=by
 unfold En;split
 .exact RF
 split
 .exact RE (by show(7:Int)≠11;decide)
 split
 .exact RE (by show(9:Int)≠11;decide)
 exact RE (by show(8:Int)≠11;decide)
theorem ZD(n:Nat):∀(a:Ek)(i:Nat),(∀k∈a,Gu k.N/\noEnd (Bz k))->noEnd (D8 n i a)
 |[],_,_=>RF
 |k::t,i,h=>by
  rw[D8];unfold H5 G2;exact Q5 (Q5 (Av9 n i) (Q5 (Yt (h k BU).1).noEnd (h k BU).2)) (ZD n t (i+1) (λx b=>h x (Da _ b)))
theorem At5(a:DL):Et a->noEnd (Bz a):=by refine Fz (λa=>Et a->noEnd (Bz a)) ?_ a;intro n f kids e h;have d:=((Ee _ _ _).1 h).2;rw[Nl];refine Q5 (Awl f) (ZD _ kids 0 (λk b=>⟨?_,e k b (d k b)⟩));have g:=d k b;obtain⟨j,l,i⟩:=k;exact((Ee _ _ _).1 g).1
theorem Vi:∀(b:AP)(a:AP)(e:Ar)(r:AP),noEnd b->e.code=11->Dp a (b++(e::r))=(a++(b++[e]))::Dp [] r
 |[],a,e,r,_,d=>by
  show Dp a (e::r)=_
  rw[Dp,BR d];rfl
 |x::b,a,e,r,h,d=>by
  rw[EA,Dp,BQ (h x BU),Vi b (a++[x]) e r (λi hi=>h i (Da _ hi)) d,EJ];rfl
theorem cI:∀(l:Ek),(∀a∈l,Et a/\fine a.N)->Dp [] ((l.map Ed).flatten)=l.map Ed
 |[],_=>rfl
 |a::l,h=>by
  have⟨d,f⟩:=h a BU;have b:noEnd (Cf a.N++Bz a):=Q5 (NU a.N f []).noEnd (At5 a d);have e:Ed a++(l.map Ed).flatten=(Cf a.N++Bz a)++(Gh 11::(l.map Ed).flatten):=by
   unfold Ed;simp
  rw[DZ,ER,e,Vi _ [] (Gh 11) _ b rfl,cI l (λx b=>h x (Da _ b))];congr 1;unfold Ed;simp
theorem mT{y:DK}(h:(Cf y).length+1<=2*Ad y):(Dq k y).length<=2*Ad y:=by
 by_cases a:y.kind=1
 .rw[Ji k y a,FV,Dn];omega
 rwa[Il k y a,DV,FV]
theorem SD:∀(r:Ξ),(∀y∈r,(Cf y).length+1<=2*Ad y)->((r.map (Dq k)).flatten).length<=2*sizes r
 |[],_=>by simp
 |y::r,h=>by
  have b:=mT (k:=k) (h y BU);have d:((r.map (Dq k)).flatten).length<=2*sizes r:=SD r (λz a=>h z (Da _ a));rw[DZ,ER,DV,F6];omega
theorem S0(n:DK):shp n->(Cf n).length+1<=2*Ad n:=by
 refine Gp (λn=>shp n->(Cf n).length+1<=2*Ad n) ?_ n;intro k e kids a j;rw[Dn];show _<=2*(1+sizes kids);rcases cB j with⟨rfl,rfl⟩|⟨l,f,b⟩|⟨rfl,_,x,rfl,g⟩
 .rw[L6,FV,Tq];omega
 .obtain⟨x,r,rfl⟩:∃x r,kids=x::r:=by
   cases kids with
   |nil=>simp at f
   |cons x r=>exact⟨x,r,rfl⟩
  have i:=a x BU (b x BU);have m:=SD (k:=k) r (λy d=>a y (Da _ d) (b y (Da _ d)));rw[Jh e x r BS BS,DV,F6];omega
 have i:=a x BU g;rw[L8,DV,FV,F6,Tq];omega
def SX(n:DK)(h:Ap n=0):(Cf n).length+1<=2*Ad n:=S0 n (TF n h)
theorem Z1{n:DK}(h:Gu n):(Bc n).length<=2*CM n:=by
 unfold Bc;have e:=SD (k:=2) (Bv n) (λy b=>SX y (U0 h y b));have d:sizes (Bv n)<=CM n:=by unfold Bv CM;by_cases a:Aj n=true;{rw[BR a,BR a];exact DN _};rw[BQ a,BQ a];split;{rw[Dn];omega};rw[F6,Tq];omega
 omega
def Zb(n i:Nat):(En n i).length<=1:=by
 unfold En;split
 .simp
 split
 .simp
 split<;>simp
theorem WY(n:Nat):∀(a:Ek)(i:Nat),(∀k∈a,Gu k.N/\(Bz k).length+2+2*CM k.N<=2*Ah k)->(D8 n i a).length<=2*Ja a
 |[],_,_=>by simp[D8]
 |k::t,i,h=>by
  have⟨b,f⟩:=h k BU;have g:=Zb n i;have j:=Z1 b;have l:=WY n t (i+1) (λx d=>h x (Da _ d));have e:Ja (k::t)=Ah k+Ja t:=by simp[Ja]
  rw[D8,e];unfold H5 G2;rw[DV,DV,DV];omega
theorem eH(a:DL):Et a->(Bz a).length+2+2*CM a.N<=2*Ah a:=by
 refine Fz (λa=>Et a->(Bz a).length+2+2*CM a.N<=2*Ah a) ?_ a;intro n d kids f h;have e:=((Ee _ _ _).1 h).2;have m:=WY kids.length kids 0 (λk b=>⟨by have i:=e k b;obtain⟨j,l,g⟩:=k;exact((Ee j l g).1 i).1,f k b (e k b)⟩);rw[Nl,DV,Dy];have o:(G9 d).length=d.length:=by simp[G9]
 show _+2+2*CM n<=_;omega
def lC{a:DL}(h:Et a)(b:fine a.N):(Ed a).length<=2*Ah a:=by
 have e:=eH a h;have f:=SX a.N b.2.2;have d:CM a.N=Ad a.N:=by unfold CM;rw[BQ (by rw[Yl b];decide)]
 unfold Ed;rw[DV,DV,FV];omega
theorem cJ:∀(l:Ek),(∀a∈l,Et a/\fine a.N)->((l.map Ed).flatten).length<=2*Aw l
 |[],_=>by simp
 |a::l,h=>by
  have d:=lC (h a BU).1 (h a BU).2;have f:=cJ l (λx b=>h x (Da _ b));have e:Aw (a::l)=Ah a+Aw l:=by simp[Aw]
  rw[DZ,ER,DV,e];omega
structure VD(a:DL):Prop where
 fineA:Et a
 N:fine a.N
 norm:Ig a
 right:Cb a=0
 size:Ah a<=400
def Oz{l:Ek}(i:∀x∈l,Ba x)(h:(Am l).1=0):(∀a∈Ai l,VD a)/\Aw (Ai l)<=400/\(Am (Ai l)).1=0:=by
 have⟨j,r,_⟩:=tU i h;have d:(Am (Ai l)).1=0:=by rw[j]
 have f:=Nu d;refine⟨λa b=>?_,f.2.2.1,d⟩;have⟨q,p⟩:=U6 l a b;have⟨s,m⟩:=Lc d b;have e:Ai l=l.map D6:=by unfold Ai;rw[BR h]
 have g:Ig a:=by rw[e]at b;obtain⟨x,o,rfl⟩:=BM.1 b;exact WR x (Lc h o).1
 refine⟨q,(QK g).resolve_left (by rw[p];decide),g,(f.2.2.2 a b).2,m⟩
def NR{l:Ek}(h:(Am l).1≠0):Ei l=[]/\G7 l=0/\Fg l=0:=by
 have e:Ai l=[]:=by unfold Ai;rw[BQ h]
 unfold Ei G7 Fg;rw[e];exact⟨rfl,rfl,rfl⟩
theorem Qc{l:Ek}(e:∀x∈l,Ba x):(Ei l).length<=800:=by
 by_cases h:(Am l).1=0
 .have⟨d,f,_⟩:=Oz e h;have:=cJ (Ai l) (λa b=>⟨(d a b).fineA,(d a b).N⟩);show((Ai l).map Ed).flatten.length<=800;omega
 rw[(NR h).1];exact EH _
theorem Auy{l:Ek}(d:∀x∈l,Ba x):Hf (Ei l)=hts (G7 l) (Fg l):=by
 by_cases h:(Am l).1=0
 .have⟨b,f,_⟩:=Oz d h;have g:=Qc d;have i:=(WO (Ai l) (λa e=>⟨(b a e).fineA,(b a e).N⟩)).top 0 0 (DN _) (DN _);unfold Hf He;rw[BQ BS];show Fq (hts 0 0) (Dz (hts 0 0) ((Ai l).map Ed).flatten)=_;rw[i,Nat.max_eq_right (EH _),Nat.max_eq_right (EH _)];rfl
 have⟨b,f,g⟩:=NR h;rw[b,f,g];rfl
theorem QM:∀(l:Γ)(b x:Nat),x∈l->x<=A8 b l
 |[],_,_,h=>by cases h
 |y::r,b,x,h=>by
  rw[Jn];rcases BD.1 h with rfl|h
  .exact M5 _ _
  .exact DU (QM r b x h) (PE _ _)
theorem YC{l:Ek}(d:∀x∈l,Ba x)(j:G7 l<=16)(o:Fg l<=8):Az (Ei l)=(0,0):=by
 by_cases h:(Am l).1=0
 .have⟨e,f,_⟩:=Oz d h;refine cA (Ua.2 ⟨by have:=Qc d;omega,pt0,YD (Ai l) (λa b=>?_),BX⟩);have g:=e a b;have i:Hm a<=G7 l:=QM _ _ _ (IF b);have m:forks a<=Fg l:=QM _ _ _ (IF b);exact⟨g.fineA,g.N,g.right,BS,BS⟩
 rw[(NR h).1];rfl
theorem xu{l:Ek}(b:∀x∈l,Ba x)(g:G7 l<=16)(i:Fg l<=8):Ej (Ei l)=(Ai l).map Ed:=by
 unfold Ej;rw[YC b g i,BQ BX];by_cases h:(Am l).1=0
 .have⟨f,_⟩:=Oz b h;exact cI (Ai l) (λa d=>⟨(f a d).fineA,(f a d).N⟩)
 have e:Ai l=[]:=by unfold Ai;rw[BQ h]
 rw[(NR h).1,e];rfl
theorem fa:∀(l:Ek),(∀a∈l,VD a)->UpR (l.map Ed) l
 |[],_=>rfl
 |a::l,h=>by
  have g:=h a BU;have d:=g.size;exact⟨a,l,Gh 11,rfl,Aul g.norm g.N BS,fa l (λx b=>h x (Da _ b))⟩
def kS{l:Ek}(a:∀x∈l,Ba x)(h:(Am l).1=0)(e:G7 l<=16)(f:Fg l<=8):UpR (Ej (Ei l)) (Ai l)/\FT (Ai l)=(Ai l,0):=by have⟨b,_,d⟩:=Oz a h;rw[xu a e f];refine⟨fa _ b,?_⟩;unfold FT;rw[d,BQ BX]
theorem NS(i:k=2\/k=3){a:DK}(h:fine a):∃x r,opn k a=x::r/\(∀y∈x::r,fine y/\y.kind≠k)/\Cf a=Cf x++(r.map (Dq k)).flatten/\Ak a=A8 (Ak x) (r.map Au):=by
 by_cases e:a.kind=k
 .obtain⟨f,o,kids⟩:=a;obtain rfl:f=k:=e;rcases F8 h.2.2 with⟨d,_⟩|⟨_,g,_⟩|⟨d,_⟩;{omega}
  .obtain⟨x,r,rfl⟩:∃x r,kids=x::r:=by
    cases kids with
    |nil=>simp at g
    |cons x r=>exact⟨x,r,rfl⟩
   refine⟨x,r,by unfold opn;rw[BR rfl],λy b=>⟨RX h y b,(((J3 _).1 h.1).1 i).2 y b⟩,Jh o x r BS BS,Ll o x r BS⟩
  omega
 exact⟨a,[],by unfold opn;rw[BQ e],λy b=>by rw[BB.1 b];exact⟨h,e⟩,BU,rfl⟩
def RZ{n:DK}(h:fine n):1<=Ak n:=by have:=(Y7 n (full_of n h.2.2) h.2.2 0 0).hi1;omega
theorem fX(n:DK):Au n<=1+Ak n:=by
 by_cases h:n.kind=1
 .rw[N4 h];omega
 rw[Vh h];omega
theorem ft(k:Int)(n:DK):(Dq k n).length<=(Cf n).length+1:=by
 by_cases h:n.kind=1
 .rw[Ji k n h];simp
 rw[Il k n h];simp
theorem eZ(l:k=2\/k=3){b:DK}(h:fine b):(((opn k b).map (Dq k)).flatten).length<=(Dq k b).length/\A8 1 ((opn k b).map Au)<=Au b:=by
 by_cases e:b.kind=k
 .have⟨x,r,d,a,g,j⟩:=NS l h;have f:b.kind≠1:=BS;have i:=RZ (a x BU).1;have o:A8 (Ak x) (r.map Au)=max (Ak x) (A8 1 (r.map Au)):=by rw[<-I5,Nat.max_eq_left i]
  rw[d,Il k b f,Vh f,g,j,DZ,ER,DZ,Jn];have m:=ft k x;have q:=fX x;refine⟨?_,BS⟩;simp only[DV,FV];omega
 have d:opn k b=[b]:=by unfold opn;rw[BQ e]
 rw[d];refine⟨BU,?_⟩;show max 1 (Au b)<=Au b;have:1<=Au b:=by by_cases a:b.kind=1;{rw[N4 a];omega};rw[Vh a];omega
 omega
def N5(f:k=2\/k=3){a b:DK}(i:fine a)(o:fine b):fine (Jv k a b):=by have⟨x,r,g,l,_⟩:=NS f i;have⟨y,t,j,m,_⟩:=NS f o;unfold Jv;rw[g,j];have e:∀z∈x::r++y::t,fine z/\z.kind≠k:=λz d=>(BI.1 d).elim (l z) (m z);refine⟨(J3 _).2 ⟨λ_=>⟨BU,λz d=>(e z d).2⟩,λz d=>(e z d).1.1⟩,(Jp _).2 ⟨λ_=>rfl,λz d=>(e z d).1.2.1⟩,SB f BU (λz d=>(e z d).1.2.2)⟩
theorem eN(d:k=2\/k=3){a b:DK}(f:fine a)(o:fine b):(Cf (Jv k a b)).length<=(Cf a).length+(Dq k b).length/\Ak (Jv k a b)<=max (Ak a) (Au b):=by
 have⟨x,r,e,g,i,m⟩:=NS d f;have⟨u,q⟩:=eZ d o;unfold Jv;rw[e,EA,Jh _ x _ BS BS,Ll _ x _ BS,i,m];rw[D4,Ft,D4,Vv];refine⟨?_,?_⟩
 .simp only[DV];omega
 have j:=RZ (g x BU).1;have s:A8 (Ak x) (r.map Au)=max (Ak x) (A8 1 (r.map Au)):=by rw[<-I5,Nat.max_eq_left j]
 have l:1<=A8 (Ak x) (r.map Au):=BS;have t:A8 (A8 (Ak x) (r.map Au)) ((opn k b).map Au)=max (A8 (Ak x) (r.map Au)) (A8 1 ((opn k b).map Au)):=by rw[<-I5,Nat.max_eq_left l]
 omega
theorem Yn{e:Elem}(h:Df e.op e.args=true):fine (Fe e):=by
 unfold Fe;refine⟨(J3 _).2 ⟨λh=>?_,(λx a=>by cases a)⟩,(Jp _).2 ⟨λh=>?_,(λx a=>by cases a)⟩,?_⟩
 .have b:(1:Int)=2\/(1:Int)=3:=h;omega
 .have b:(1:Int)=2\/(1:Int)=3:=h;omega
 rw[Ku,BR rfl,BQ BU,BR h]
def ko{a:DK}(h:fine a):fine (II a):=by
 unfold II;refine⟨(J3 _).2 ⟨λh=>?_,λx b=>by rw[BB.1 b];exact h.1⟩,(Jp _).2 ⟨λ_=>rfl,λx b=>by rw[BB.1 b];exact h.2.1⟩,?_⟩
 .have e:(4:Int)=2\/(4:Int)=3:=h;omega
 rw[Ku,BQ BX];have d:V9 4 (⟨0,[]⟩:Elem).op (⟨0,[]⟩:Elem).args.l [a].l=false:=Br;rw[BQ (by rw[d];exact GK)];simp only[DZ,FI,A7];rw[BQ (by have:=h.2.2;omega)]
def mH(a:DK):(Cf (II a)).length=(Cf a).length+1/\Ak (II a)=Ak a:=by unfold II;rw[L8,Ll _ a [] BX];exact⟨BU,rfl⟩
def IJ(n:DK):Nat:=A8 1 ((Bv n).map Au)
def Q0{n:DK}(h:fine n):Bv n=opn 2 n:=by unfold Bv opn;rw[BQ (by rw[Yl h];decide)]
theorem dR{a b:DK}(i:Gu a)(d:fine b):Gu (Gz 2 a b)/\(Bc (Gz 2 a b)).length<=(Bc a).length+(Dq 2 b).length/\IJ (Gz 2 a b)<=max (IJ a) (Au b):=by
 have⟨s,q⟩:=eZ (.inl rfl) d;unfold Bc IJ;by_cases f:a.kind=0
 .have j:Aj a=true:=by
   rcases i with h|h
   .exact h
   .exact absurd f (Qi h)
  have e:Gz 2 a b=b:=by unfold Gz;rw[BR f]
  rw[e,Q0 d];exact⟨.inr d,BS,BS⟩
 have g:fine a:=i.resolve_left (λj=>f (by rw[U7 j];rfl));have e:Gz 2 a b=Jv 2 a b:=by unfold Gz;rw[BQ f]
 have l:=N5 (.inl rfl) g d;have o:opn 2 (Jv 2 a b)=opn 2 a++opn 2 b:=by unfold opn;rw[BR (show(Jv 2 a b).kind=2 from rfl)];rfl
 rw[e,Q0 l,Q0 g,o,D4,Ft,D4,Vv];refine⟨.inr l,xCr,?_⟩;have m:1<=A8 1 ((opn 2 a).map Au):=by have:=I5 ((opn 2 a).map Au) 1 1;rw[Nat.max_self]at this;omega
 have r:A8 (A8 1 ((opn 2 a).map Au)) ((opn 2 b).map Au)=max (A8 1 ((opn 2 a).map Au)) (A8 1 ((opn 2 b).map Au)):=by rw[<-I5,Nat.max_eq_left m]
 omega
def StR(kid:Bool)(B:Nat):Ξ->Nat->Prop
 |[],c=>kid=false/\c=0
 |n::r,c=>if kid=true/\r=[] then Gu n/\c=(Bc n).length/\IJ n<=B else fine n/\r.length+Ak n<=B/\∃a,StR kid B r a/\c=a+(Cf n).length
def StR.push{kid:Bool}{n:DK}{r:Ξ}{a:Nat}(h:StR kid B r a)(e:¬(kid=true/\r=[]))(b:fine n)(d:r.length+Ak n<=B):StR kid B (n::r) (a+(Cf n).length):=by rw[StR,BQ e];exact⟨b,d,a,h,rfl⟩
def StR.pop{kid:Bool}{n:DK}{r:Ξ}{c:Nat}(h:StR kid B (n::r) c)(b:¬(kid=true/\r=[])):fine n/\r.length+Ak n<=B/\∃a,StR kid B r a/\c=a+(Cf n).length:=by rwa[StR,BQ b]at h
def StR.base{n:DK}{c:Nat}:StR true B [n] c↔Gu n/\c=(Bc n).length/\IJ n<=B:=by rw[StR,BR ⟨rfl,rfl⟩]
def UJ{a b:DK}(h:fine a):Gz k a b=Jv k a b:=by unfold Gz;rw[BQ (Qi h)]
def vf(k:Int)(e:Elem):(Dq k (Fe e)).length=1:=by rw[Ji k _ rfl];rfl
def do2(e:Elem)(a:DK)(r:Ξ):Lt 2 e (a::r)=Gz 2 a (Fe e)::r:=rfl
def do3(e:Elem)(a:DK)(r:Ξ):Lt 3 e (a::r)=Gz 3 a (Fe e)::r:=rfl
def do4(e:Elem)(a b:DK)(r:Ξ):Lt 4 e (a::b::r)=Gz 2 b a::r:=rfl
def do5(e:Elem)(a b:DK)(r:Ξ):Lt 5 e (a::b::r)=Gz 3 b a::r:=rfl
def do6(e:Elem)(a:DK)(r:Ξ):Lt 6 e (a::r)=II a::r:=rfl
theorem StR.and{kid:Bool}{c:Nat}{a:DK}{r:Ξ}{e:Elem}(j:k=2\/k=3)(h:StR kid B (a::r) c)(m:Df e.op e.args=true)(x:1<=B)(q:kid=true->r=[]->k=2):
  ∃d,d<=c+1/\StR kid B (Gz k a (Fe e)::r) d:=by
 have g:=Yn m;have y:Au (Fe e)=1:=N4 rfl;have u:=vf k e;by_cases f:kid=true/\r=[]
 .obtain⟨rfl,rfl⟩:=f;obtain rfl:=q rfl rfl;have⟨b,l,i⟩:=StR.base.1 h;have⟨o,w,t⟩:=dR b g;exact⟨_,BS,StR.base.2 ⟨o,rfl,BS⟩⟩
 have⟨b,l,d,i,s⟩:=h.pop f;have⟨v,z⟩:=eN j b g;have:=RZ b;rw[UJ b];exact⟨_,BS,i.push f (N5 j b g) BS⟩
theorem StR.anb{kid:Bool}{c:Nat}{a b:DK}{r:Ξ}(m:k=2\/k=3)(h:StR kid B (a::b::r) c)(t:kid=true->r=[]->k=2):
  ∃i,i<=c+1/\StR kid B (Gz k b a::r) i:=by
 have⟨e,g,E,j,z⟩:=h.pop (λo=>by have:=o.2;cases this);have D:=fX a;have v:=ft k a;rw[DT]at g;by_cases f:kid=true/\r=[]
 .obtain⟨rfl,rfl⟩:=f;obtain rfl:=t rfl rfl;have⟨d,q,l⟩:=StR.base.1 j;have⟨s,w,u⟩:=dR d e;simp only[DW]at g;exact⟨_,BS,StR.base.2 ⟨s,rfl,BS⟩⟩
 have⟨d,q,A,l,x⟩:=j.pop f;have⟨C,y⟩:=eN m d e;rw[UJ d];exact⟨_,BS,l.push f (N5 m d e) BS⟩
theorem StR.step{kid:Bool}{c:Nat}{st:Ξ}{s:Pt}{i:Ar}(h:StR kid B st c)(D:i.code<7)(E:wrong s i=0)(d:s.bits=(st.length:Int))(o:kid=true->s.seen=true)(x:kid=true->st≠[])
  (I:s.bits<=B) (A:(next s i.code).bits<=B):∃m,m<=c+1/\StR kid B (Lt i.code i.O st) m:=by
 have⟨g,w,_,_,l,_⟩:=Iu E;have z:=U5 g;obtain⟨code,e⟩:=i;simp only at D w l z A⊢;have C:code=1\/code=2\/code=3\/code=4\/code=5\/code=6:=BS;have u:code<=3->Df e.op e.args=true:=by intro t;unfold Jz at g;simp only at g;rwa[BQ BS,BR t]at g
 have one:needs code=1->∃a r,st=a::r:=by
  intro f;cases st with
  |nil=>simp only[DW]at d;omega|cons a r=>exact⟨a,r,rfl⟩
 have two:needs code=2->∃a b r,st=a::b::r:=by
  intro f
  match st,d with|[],d=>simp only[DW]at d;omega|[a],d=>simp only[DT,DW]at d;omega|a::b::r,_=>exact⟨a,b,r,rfl⟩
 rcases C with rfl|rfl|rfl|rfl|rfl|rfl
 .have y:Lt 1 e st=Fe e::st:=rfl;rw[y];have K:(next s 1).bits=s.bits+1:=by rw[fo]
  have M:Ak (Fe e)=1:=V8 e [];have J:(Cf (Fe e)).length=1:=by have:Cf (Fe e)=[⟨1,e⟩]:=L6 e [];rw[this];rfl
  exact⟨_,BS,h.push (λv=>x v.1 v.2) (Yn (u BX)) BS⟩
 .obtain⟨a,r,rfl⟩:=one rfl;rw[do2];rw[DT]at d;exact h.and (.inl rfl) (u BX) BS (λ_ _=>rfl)
 .obtain⟨a,r,rfl⟩:=one rfl;rw[do3];rw[DT]at d;refine h.and (.inr rfl) (u BX) BS (λf j=>?_);subst j;simp only[DW]at d;exact absurd ⟨o f,xCh,.inl rfl⟩ l
 .obtain⟨a,b,r,rfl⟩:=two rfl;rw[do4];exact h.anb (.inl rfl) (λ_ _=>rfl)
 .obtain⟨a,b,r,rfl⟩:=two rfl;rw[do5];rw[DT,DT]at d;refine h.anb (.inr rfl) (λf j=>?_);subst j;simp only[DW]at d;exact absurd ⟨o f,by show s.bits=2;omega,.inr (.inr rfl)⟩ l
 obtain⟨a,r,rfl⟩:=one rfl;rw[do6];rw[DT]at d;by_cases q:kid=true/\r=[]
 .obtain⟨f,rfl⟩:=q;simp only[DW]at d;exact absurd ⟨o f,xCh,.inr (.inl rfl)⟩ l
 have⟨f,j,m,t,L⟩:=h.pop q;have⟨G,H⟩:=mH a;exact⟨_,BS,t.push q (ko f) BS⟩
def FH(B F:Nat):Pt->AP->Prop
 |_,[]=>True
 |s,i::r=>(next s i.code).bits<=(B:Int)/\(next s i.code).forks<=(F:Int)/\FH B F (next s i.code) r
def gC(st:Ξ):Prop:=2<=st.length\/∃b,st=[b]/\fine b
theorem fS{a b:DK}(e:Gu a)(d:fine b):fine (Gz 2 a b):=by
 unfold Gz;split
 .exact d
 rename_i f;exact N5 (.inl rfl) (e.resolve_left (λg=>f (by rw[U7 g];rfl))) d
theorem StR.took{c:Nat}{st:Ξ}{s:Pt}{i:Ar}(h:StR true B st c)(z:i.code<7)(A:wrong s i=0)(o:s.bits=(st.length:Int))(j:s.seen=true)(u:st≠[]):gC (Lt i.code i.O st):=by
 have⟨d,g,_,_,f,_⟩:=Iu A;have w:=U5 d;obtain⟨code,e⟩:=i;simp only at z g f w⊢;have q:code=1\/code=2\/code=3\/code=4\/code=5\/code=6:=BS;have C:code<=3->Df e.op e.args=true:=by intro l;unfold Jz at d;simp only at d;rwa[BQ BS,BR l]at d
 obtain⟨a,r,rfl⟩:∃a r,st=a::r:=by cases st with|nil=>exact absurd rfl u|cons a r=>exact⟨a,r,rfl⟩
 rw[DT]at o;cases r with
 |nil=>simp only[DW]at o;have t:=(StR.base.1 h).1;rcases q with rfl|rfl|rfl|rfl|rfl|rfl;{exact .inl (by show 2<=2;decide)};{exact .inr ⟨_,rfl,fS t (Yn (C BX))⟩};{exact absurd ⟨j,xCh,.inl rfl⟩ f};{have y:(2:Int)<=s.bits:=g;omega};{have y:(2:Int)<=s.bits:=g;omega};exact absurd ⟨j,xCh,.inr (.inl rfl)⟩ f
 |cons b r=>
  have v:=(h.pop (λm=>by have:=m.2;cases this)).1;rcases q with rfl|rfl|rfl|rfl|rfl|rfl;{exact .inl (by show 2<=(Fe e::a::b::r).length;simp)};{exact .inl (by show 2<=(_::b::r:Ξ).length;simp)};{exact .inl (by show 2<=(_::b::r:Ξ).length;simp)}
  .rw[do4];cases r with
   |nil=>have⟨_,_,D,l,_⟩:=h.pop (λm=>by have:=m.2;cases this);exact .inr ⟨_,rfl,fS (StR.base.1 l).1 v⟩
   |cons x r=>exact .inl BU
  {rw[do5];cases r with|nil=>simp only[DT,DW]at o;exact absurd ⟨j,by show s.bits=2;omega,.inr (.inr rfl)⟩ f|cons x r=>exact .inl BU};exact .inl (by show 2<=(II a::b::r).length;simp)
def bX{s:Pt}(h:c<7):(next s c).seen=s.seen:=by
 unfold next
 rw[BQ BS];have a:(c==10)=false:=by simpa using(by omega:c≠10)
 have b:(c==7)=false:=by simpa using(by omega:c≠7)
 simp[a,b]
def Azi{s:Pt}(h:c<7):(next s c).coil=false:=by
 unfold next
 rw[BQ BS];show(c==10)=false;simpa using(by omega:c≠10)
theorem X5.costs{kid:Bool}:∀{l:AP}{s:Pt}{st:Ξ}{n:DK}{g:AP}{c:Nat},X5 st l n g->E7 s l->FH B F s l->s.bits=(st.length:Int)->s.bits<=(B:Int)->(kid=true->s.seen=true/\st≠[])->StR kid B st c->
  ∃f m,E7 f g/\FH B F f g/\f.bits=1/\f.forks=s.forks/\f.seen=s.seen/\StR kid B [n] m/\m+g.length<=c+l.length/\(kid=true->gC st\/Dx l<7->fine n)/\(s.coil=false\/Dx l<7->f.coil=false)
 |[],_,_,_,_,_,h,_,_,_,_,_,_=>h.elim
 |i::r,s,st,n,g,c,h,w,z,o,I,j,u=>by
  have⟨t,E⟩:=w.cons;rw[X5]at h;by_cases d:i.code<7
  .rw[BR d]at h
   obtain⟨G,S,L⟩:=h;have y:=b8 (s:=s) d;have H:=UN (e:=i.O) (st:=st) G d S;obtain⟨x,U,M⟩:=z;have v:(next s i.code).bits=((Lt i.code i.O st).length:Int):=by rw[y.1,H,o]
   have⟨X,W,Q⟩:=u.step d t o (λh=>(j h).1) (λh=>(j h).2) I x;have K:kid=true->Lt i.code i.O st≠[]:=by
    intro q e;have V:=OA t BS;rw[e]at v;simp only[DW]at v;omega
   have⟨f,m,O,J,P,N,D,C,Y,R,T⟩:=X5.costs L E M v x (λh=>⟨by rw[bX d];exact(j h).1,K h⟩) Q;refine⟨f,m,O,J,P,by rw[N,y.2],by rw[D,bX d],C,by rw[DT];omega,λq _=>R q (.inl ?_),λ_=>T (.inl (Azi d))⟩;subst q;exact u.took d t o (j rfl).1 (j rfl).2
  .rw[BQ d]at h
   obtain⟨rfl,rfl⟩:=h;refine⟨s,c,w,z,o,rfl,rfl,u,DN _,λ_ a=>?_,λa=>a.elim id (λa=>absurd a d)⟩;rcases a with(a|⟨b,a,A⟩)|a
   .simp at a
   .injection a with a;rwa[a]
   .exact absurd a d
