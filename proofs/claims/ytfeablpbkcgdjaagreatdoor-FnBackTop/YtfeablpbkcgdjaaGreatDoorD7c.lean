import Derived.Test.YtfeablpbkcgdjaaGreatDoorGa
import Derived.Test.YtfeablpbkcgdjaaGreatDoorD9
set_option linter.defProp false
set_option maxHeartbeats 4000000
set_option maxRecDepth 100000
namespace Stil
variable {B B2 F F2 b' f f' n:Nat}{c k:Int}
def I3:Int × Int->List Dj->Int × Int
 | s,[]=>s
 | s,i::r=>I3 (step s i.code) r
theorem R7:∀(l m:List Dj) (s:Int × Int),I3 s (l++m)=I3 (I3 s l) m
 | [],_,_=>rfl
 | i::r,m,s=>R7 r m (step s i.code)
theorem Rr:∀(l m:List Dj) (s:Int × Int),Qw s (l++m)=Qw s l++Qw (I3 s l) m
 | [],_,_=>rfl
 | i::r,m,s=>by rw[CY,Qw,Rr r m,Qw,I3,CY]
theorem SR:∀(t u:List (Int × Int)) (p:Int × Int),Vb p (t++u)=Vb (Vb p t) u
 | [],_,_=>rfl
 | s::r,u,p=>by rw[CY,Vb,SR r u,Vb]
def hts (b f:Nat):Int × Int:=((b:Int),(f:Int))
def Ys (p q b f:Nat):PV (hts p q) (hts b f)=hts (max p b) (max q f):=by
 unfold PV hts;refine Prod.ext ?_ ?_
 .show(if(p:Int)<b then(b:Int) else p)=((max p b:Nat):Int)
  split<;>omega
 .show(if(q:Int)<f then(f:Int) else q)=((max q f:Nat):Int)
  split<;>omega
structure Gh (l:List Dj)(b f b' f' B F:Nat):Prop where
 lo1:b<=B
 lo2:f<=F
 hi1:b'<=B
 hi2:f'<=F
 fin:I3 (hts b f) l=hts b' f'
 top:∀p q:Nat,b<=p->f<=q->Vb (hts p q) (Qw (hts b f) l)=hts (max p B) (max q F)
def Gh.nil (b f:Nat):Gh [] b f b f b f:=⟨B7 _,B7 _,B7 _,B7 _,rfl,λp q d a=>by rw[Nat.max_eq_left d,Nat.max_eq_left a];rfl⟩
def Gh.one {i:Dj}{b:Nat}(h:step (hts b f) i.code=hts b' f'):Gh [i] b f b' f' (max b b') (max f f'):=by
 refine⟨AU,AU,AU,AU,h,λp q d a=>?_⟩;show PV (hts p q) (step (hts b f) i.code)=_
 rw[h,Ys];congr 1<;>omega
def Gh.append {l m:List Dj}{b b2 a:Nat}(h:Gh l b f b' f' B F)(k:Gh m b' f' b2 a B2 F2):Gh (l++m) b f b2 a (max B B2) (max F F2):=by
 have s:=h.lo1;have o:=h.lo2;have i:=k.hi1;have g:=k.hi2;refine⟨AU,AU,AU,AU,by rw[R7,h.fin,k.fin],λp q e d=>?_⟩;have r:=h.hi1;have j:=h.hi2;rw[Rr,SR,h.top p q e d,h.fin,k.top _ _ AU AU];congr 1<;>omega
theorem Gh.cast {l:List Dj}{b:Nat}(h:Gh l b f b' f' B F)(h1:B=B2)(a:F=F2):Gh l b f b' f' B2 F2:=by subst h1 a;exact h
def Ol (b x:Nat)(l:List Nat):Bg b (x::l)=max x (Bg b l):=by
 show Bg (max b x) l=_
 rw[Nat.max_comm,Oj]
def yq {n:B1}(h:n.kind=1):Cc n=1:=by unfold Cc KT;rw[if_pos h]
def T8 {n:B1}(h:n.kind≠1):Cc n=1+Az n:=by unfold Cc KT;rw[if_neg h]
theorem Zn {b:Nat}(h:c=2\/c=3\/c=6\/c=8\/c=10):step (hts b f) c=hts b f:=by
 rcases h with rfl | rfl | rfl | rfl | rfl<;>rfl
theorem m5 (g:k=2\/k=3){y:B1}(d:∀b f,Gh (C9 y) b f (b+1) f (b+Az y) f)(b f:Nat):Gh (D5 k y) (b+1) f (b+1) f (b+Cc y) f:=by
 by_cases a:y.kind=1
 .rw[Ju k y a,yq a]
  exact(Gh.one (i:=⟨k,y.one⟩) (Zn (by rcases g with h | h<;>simp[h]))).cast AU AU
 .rw[Ik k y a,T8 a]
  have l:step (hts (b+1+1) f) (Hg (k+2)).code=hts (b+1) f:=by
   have e:step (hts (b+1+1) f) (Hg (k+2)).code=(((b+1+1:Nat):Int) - 1,(f:Int)):=by rcases g with rfl | rfl<;>rfl
   rw[e];unfold hts;refine Prod.ext ?_ rfl;show((b+1+1:Nat):Int) - 1=((b+1:Nat):Int)
   omega
  have j:=(d (b+1) f).append (Gh.one l);have m:=(d (b+1) f).hi1;exact j.cast AU AU
theorem Yt (a:k=2\/k=3)(b f:Nat):∀(r:List B1),(∀y∈r,∀b f,Gh (C9 y) b f (b+1) f (b+Az y) f)->Gh ((r.map (D5 k)).flatten) (b+1) f (b+1) f (b+Bg 1 (r.map Cc)) f
 | [],_=>Gh.nil _ _
 | y::r,h=>by
  rw[CN,DV,CN,Ol];exact((m5 a (h y AW) b f).append (Yt a b f r (λz d=>h z (CH _ d)))).cast AU AU
theorem US (n:B1):Q5 n->Aj n=0->∀b f,Gh (C9 n) b f (b+1) f (b+Az n) f:=by
 refine Fv (λn=>Q5 n->Aj n=0->∀b f,Gh (C9 n) b f (b+1) f (b+Az n) f) ?_ n;intro k e kids j h u b f;have g:=((Xz _ _ _).1 h).2;have m:step (hts b f) (1:Int)=hts (b+1) f:=by
  have o:step (hts b f) (1:Int)=((b:Int)+1,(f:Int)):=rfl;rw[o];refine Prod.ext ?_ rfl;show(b:Int)+1=((b+1:Nat):Int)
  omega
 rcases Fg u with⟨rfl,rfl⟩ | ⟨w,t,l⟩ | ⟨rfl,_,x,rfl,q⟩
 .rw[Lu,Xk]
  exact(Gh.one (i:=⟨1,e⟩) m).cast AU AU
 .obtain⟨x,r,rfl⟩:∃x r,kids=x::r:=by
   cases kids with
   | nil=>simp at t
   | cons x r=>exact⟨x,r,rfl⟩
  rw[Jr e x r AU AU,Oy e x r AU];have a:=j x AW (g x AW) (l x AW) b f;have s:=Yt w b f r (λy d=>j y (CH _ d) (g y (CH _ d)) (l y (CH _ d)));have v:=a.hi1;have z:Bg (Az x) (r.map Cc)=max (Az x) (Bg 1 (r.map Cc)):=by
   rw[<-Oj,Nat.max_eq_left AU]
  exact(a.append s).cast AU AU
 .rw[L6,Oy e x [] AZ]
  have a:=j x AW (g x AW) q b f;have v:=a.hi1;refine(a.append (Gh.one (i:=Hg 6) (Zn (by simp[Hg])))).cast ?_ AU;show max (b+Az x) (max (b+1) (b+1))=b+Az x
  omega
theorem Vl (f:Nat):∀(a:List Elem),Gh (Gj a) 1 f 1 f 1 f
 | []=>Gh.nil _ _
 | c::a=>((Gh.one (i:=⟨10,c⟩) (Zn (b:=1) (f:=f) AW)).append (Vl f a)).cast AU AU
theorem Sr {n:B1}(h:Gi n):∀x∈Bh n,Aj x=0:=by
 intro x a;unfold Bh at a;split at a
 .cases a
 .rename_i d
  have b:=h.resolve_left d;split at a
  .exact Lc b.2.2 x a
  .rw[List.mem_singleton.1 a];exact b.2.2
def j0 {n:B1}(h:Gi n)(f:Nat):Gh (Be n) 1 f 1 f (Bg 1 ((Bh n).map Cc)) f:=by
 unfold Be;have:=Yt (.inl rfl) 0 f (Bh n) (λy a=>US y (TM h y a) (Sr h y a))
 exact this.cast AU rfl
def NC {k:B5}(h:Gi k.net)(a:Gh (Bj k) 1 f 1 f (Bq k) (f+forks k)):Gh (Be k.net++Bj k) 1 f 1 f (Gf k.net (Bq k)) (f+forks k):=by
 have b:=a.lo1;refine((j0 h f).append a).cast ?_ AU;unfold Gf;have e:Bg (Bq k) ((Bh k.net).map Cc)=max (Bq k) (Bg 1 ((Bh k.net).map Cc)):=by
  rw[<-Oj,Nat.max_eq_left b]
 omega
def Ou:List B5->Nat
 | []=>0
 | [k]=>forks k
 | k::t=>max (forks k+1) (Ou t)
theorem NF:∀(a:List B5),Bg 0 (bump (a.map forks))=Ou a
 | []=>rfl
 | [k]=>by
  show max 0 (Xi 1 0 (forks k))=forks k
  unfold Xi;rw[if_neg AU];omega
 | k::y::t=>by
  have d:=NF (y::t);have e:bump ((k::y::t).map forks)=(forks k+1)::bump ((y::t).map forks):=by
   unfold bump;rw[CN,List.mapIdx_cons];have g:Xi (forks k::(y::t).map forks).length 0 (forks k)=forks k+1:=by unfold Xi;rw[if_pos AW]
   have b:(λi x=>Xi (forks k::(y::t).map forks).length (i+1) x)=λi x=>Xi ((y::t).map forks).length i x:=by
    funext i x;unfold Xi;simp only[CC,CP];by_cases hi:i+1<t.length+1
    .rw[if_pos AU,if_pos AU]
    .rw[if_neg AU,if_neg AU]
   rw[g,b]
  rw[e,Ol,d];rfl
theorem TG (o:n≠1)(f:Nat):∀(a:List B5) (i:Nat),i+a.length=n->a≠[]->(∀k∈a,Gi k.net/\∀f,Gh (Bj k) 1 f 1 f (Bq k) (f+forks k))->
  Gh (Ea n i a) 1 (if i=0 then f else f+1) 1 f (Bg 1 (a.map (λk=>Gf k.net (Bq k)))) (max (f+1) (f+Ou a))
 | [],_,_,h,_=>absurd rfl h
 | k::t,i,hi,_,q=>by
  rw[CC] at hi;obtain⟨g,r⟩:=q k AW;rw[Ea];unfold Ho F4 Eb;rw[if_neg o,CN,Ol];by_cases j:t=[]
  .subst j
   simp only[CM] at hi;rw[if_neg AU,if_pos AU,if_neg AU,Ea,EO];have d:step (hts 1 (f+1)) (Hg 9).code=hts 1 f:=by
    have e:step (hts 1 (f+1)) (Hg 9).code=((1:Int),((f+1:Nat):Int) - 1):=rfl;rw[e];refine Prod.ext rfl ?_;show((f+1:Nat):Int) - 1=(f:Int)
    omega
   have b:=NC g (r f);have u:=b.lo1;refine((Gh.one d).append b).cast ?_ ?_
   .show max (max 1 1) _=max _ (Bg 1 [])
    show max (max 1 1) _=max _ 1
    omega
   .show max (max (f+1) f) (f+forks k)=max (f+1) (f+Ou [k])
    show max (max (f+1) f) (f+forks k)=max (f+1) (f+forks k)
    omega
  .have v:0<t.length:=List.length_pos_iff.2 j
   have m:=TG o f t (i+1) AU j (λk g=>q k (CH _ g));rw[if_neg AU] at m;have b:=NC g (r (f+1));have u:=b.lo1;have s:Ou (k::t)=max (forks k+1) (Ou t):=by
    cases t with
    | nil=>exact absurd rfl j
    | cons y t=>rfl
   rw[s];by_cases l:i=0
   .rw[if_pos l,if_pos l]
    have d:step (hts 1 f) (Hg 7).code=hts 1 (f+1):=by
     have e:step (hts 1 f) (Hg 7).code=((1:Int),((f:Nat):Int)+1):=rfl;rw[e];refine Prod.ext rfl ?_;show((f:Nat):Int)+1=((f+1:Nat):Int)
     omega
    refine(((Gh.one d).append b).append m).cast ?_ ?_
    .omega
    .omega
   .rw[if_neg l,if_neg AU,if_neg l]
    have d:step (hts 1 (f+1)) (Hg 8).code=hts 1 (f+1):=Zn (by simp[Hg]);refine(((Gh.one d).append b).append m).cast ?_ ?_
    .omega
    .omega
theorem lx (a:B5):Ep a->∀f,Gh (Bj a) 1 f 1 f (Bq a) (f+forks a):=by
 refine Fb (λa=>Ep a->∀f,Gh (Bj a) 1 f 1 f (Bq a) (f+forks a)) ?_ a;intro n e kids o h f;have g:=((D8 _ _ _).1 h).2;have b:∀k∈kids,Gi k.net/\∀f,Gh (Bj k) 1 f 1 f (Bq k) (f+forks k):=by
  intro k d;refine⟨?_,o k d (g k d)⟩;have:=g k d
  obtain⟨s,q,r⟩:=k;exact((D8 _ _ _).1 this).1
 rw[Nl,U6,X0,NF]
 match kids,b with
 | [],_=>exact((Vl f e).append (Gh.nil 1 f)).cast (by show max 1 1=1;omega) (by show max f f=f+0;omega)
 | [k],b=>
  have i:=NC (b k AW).1 ((b k AW).2 f);have m:Ea [k].length 0 [k]=Be k.net++Bj k:=by
   show(([]:List Dj)++(Be k.net++Bj k))++[]=_
   rw[C3,EO]
  have l:=i.lo1;rw[m];refine((Vl f e).append i).cast ?_ ?_
  .show max 1 _=max 1 _
   rfl
  .show max f (f+forks k)=f+forks k
   omega
 | k::y::t,b=>
  have hF:=TG (n:=(k::y::t).length) AW f (k::y::t) 0 AW AW b;rw[if_pos rfl] at hF;have l:=hF.lo1;have j:Ou (k::y::t)=max (forks k+1) (Ou (y::t)):=rfl;refine((Vl f e).append hF).cast ?_ ?_
  .omega
  .rw[j]
   omega
theorem Rw:∀{l m:List Dj} {s t:Pt},run s l=some t->run s (l++m)=run t m
 | [],_,_,_,h=>by injection h with h;subst h;rfl
 | i::r,m,s,t,h=>by
  rw[run] at h;rw[CY,run];split at h
  .cases h
  .rename_i a
   rw[if_neg a];exact Rw h
def Yr {i:Dj}{s:Pt}(h:wrong s i=0):run s [i]=some (next s i.code):=by
 rw[run,if_neg AU];rfl
def Zl {s:Pt}{i:Dj}(h0:Ob i=true)(d:i.code<7)(h1:needs i.code<=s.bits)(b:i.code=1->s.bits≠16)(a:s.seen=true->s.bits=low i.code->¬(i.code=3\/i.code=6\/i.code=5)):wrong s i=0:=by
 unfold wrong;rw[if_neg (by rw[h0];decide),if_neg AU,if_neg (by intro h;exact b h.1 h.2),if_neg AU,if_neg (by intro h;exact a h.1 h.2.1 h.2.2),if_neg AU,if_neg AU,if_neg AU,if_neg AU]
def cS (s:Pt):next s 1=⟨s.bits+1,s.forks,s.seen,false⟩:=by
 unfold next
 simp
theorem VZ (h:c=2\/c=3\/c=6)(s:Pt):next s c=⟨s.bits,s.forks,s.seen,false⟩:=by
 unfold next
 rcases h with rfl | rfl | rfl<;>simp
theorem vF (h:c=4\/c=5)(s:Pt):next s c=⟨s.bits - 1,s.forks,s.seen,false⟩:=by
 unfold next
 rcases h with rfl | rfl<;>simp
def UN (h:c=1\/c=2\/c=3){e:Elem}(a:Dl e.op e.args=true):Ob ⟨c,e⟩=true:=by
 unfold Ob;simp only;rw[if_neg AU,if_pos AU];exact a
def PD (h:4<=c)(b:c<=11)(a:c≠10):Ob (Hg c)=true:=by
 unfold Ob Hg;simp only;rw[if_neg AU,if_neg AU,if_neg a];rfl
theorem UW {e:Elem}{kids:List B1}(h:Aj ⟨1,e,kids⟩=0):Dl e.op e.args=true:=by
 rw[Lt,if_pos rfl] at h;split at h
 .omega
 .split at h
  .rename_i a;exact a
  .omega
theorem vS (i:k=2\/k=3){y:B1}(v:Aj y=0)
  (r:∀s:Pt,0<=s.bits->s.bits+Az y<=16->(s.seen=true->1<=s.bits)->run s (C9 y)=some ⟨s.bits+1,s.forks,s.seen,false⟩)
  (s:Pt) (h1:1<=s.bits) (q:s.bits+Cc y<=17) (j:s.seen=true->2<=s.bits\/k=2):run s (D5 k y)=some ⟨s.bits,s.forks,s.seen,false⟩:=by
 by_cases a:y.kind=1
 .rw[Ju k y a]
  have t:Dl y.one.op y.one.args=true:=by
   obtain⟨u,e,kids⟩:=y;obtain rfl:u=1:=a;exact UW v
  have m:needs k=1:=by rcases i with rfl | rfl<;>rfl
  have l:low k=1:=by rcases i with rfl | rfl<;>rfl
  rw[Yr (Zl (UN AU t) (by show k<7;omega) (by show needs k<=_;omega) (by intro h;exfalso;have d:k=1:=h;omega) ?_)]
  .show some (next s k)=_
   rw[VZ AU]
  .intro g b h
   have o:s.bits=low k:=b;have d:k=3\/k=6\/k=5:=h;have:=j g
   omega
 .rw[Ik k y a]
  rw[T8 a] at q;have w:=r s AU AU (λ_=>h1);rw[Rw w];have m:needs (k+2)=2:=by rcases i with rfl | rfl<;>rfl
  have l:k=3->low (k+2)=2:=by rintro rfl;rfl
  rw[Yr (Zl (PD AU AU AU) (by show k+2<7;omega) (by show needs (k+2)<=s.bits+1;omega) (by intro h;exfalso;have d:k+2=1:=h;omega) ?_)]
  .show some (next _ (k+2))=_
   rw[vF AU];simp
  .intro g b h
   have o:s.bits+1=low (k+2):=b;have d:k+2=3\/k+2=6\/k+2=5:=h;have x:=j g;have z:=l AU;omega
theorem NV (b:k=2\/k=3):∀(r:List B1),(∀y∈r,Aj y=0/\∀s:Pt,0<=s.bits->s.bits+Az y<=16->(s.seen=true->1<=s.bits)->run s (C9 y)=some ⟨s.bits+1,s.forks,s.seen,false⟩)->
  ∀s:Pt,1<=s.bits->s.bits+Bg 1 (r.map Cc)<=17->(s.seen=true->2<=s.bits\/k=2)->∃c,run s ((r.map (D5 k)).flatten)=some ⟨s.bits,s.forks,s.seen,c⟩/\(r≠[]->c=false)
 | [],_,s,_,_,_=>⟨s.coil,rfl,λh=>absurd rfl h⟩
 | y::r,h,s,g,j,a=>by
  rw[CN,Ol] at j;rw[CN,DV];rw[Rw (vS b (h y AW).1 (h y AW).2 s g AU a)];obtain⟨c,e,i⟩:=NV b r (λz l=>h z (CH _ l)) ⟨s.bits,s.forks,s.seen,false⟩ g (by show s.bits+_<=17;omega) a;by_cases d:r=[]
  .subst d
   exact⟨false,rfl,λ_=>rfl⟩
  .exact⟨c,e,λ_=>i d⟩
theorem Wm (n:B1):Aj n=0->∀s:Pt,0<=s.bits->s.bits+Az n<=16->(s.seen=true->1<=s.bits)->run s (C9 n)=some ⟨s.bits+1,s.forks,s.seen,false⟩:=by
 refine Fv (λn=>Aj n=0->∀s:Pt,0<=s.bits->s.bits+Az n<=16->(s.seen=true->1<=s.bits)->run s (C9 n)=some ⟨s.bits+1,s.forks,s.seen,false⟩) ?_ n;intro k e kids i m s l b d;have A:=m;rcases Fg m with⟨rfl,rfl⟩ | ⟨C,v,a⟩ | ⟨rfl,_,x,rfl,w⟩
 .rw[Lu]
  rw[Xk] at b;rw[Yr (Zl (UN (.inl rfl) (UW A)) (by show(1:Int)<7;decide) (by show(0:Int)<=_;omega) (by intro _;omega) (by intro _ _ h;have t:(1:Int)=3\/(1:Int)=6\/(1:Int)=5:=h;omega))];exact congrArg some (cS s)
 .obtain⟨x,r,rfl⟩:∃x r,kids=x::r:=by
   cases kids with
   | nil=>simp at v
   | cons x r=>exact⟨x,r,rfl⟩
  rw[Oy e x r AU] at b;have E:=(US x (full_of x (a x AW)) (a x AW) 0 0).hi1;have G:Bg (Az x) (r.map Cc)=max (Az x) (Bg 1 (r.map Cc)):=by
   rw[<-Oj,Nat.max_eq_left AU]
  rw[Jr e x r AU AU,Rw (i x AW (a x AW) s l AU d)];obtain⟨c,u,z⟩:=NV C r (λy g=>⟨a y (CH _ g),i y (CH _ g) (a y (CH _ g))⟩) ⟨s.bits+1,s.forks,s.seen,false⟩ (by show 1<=s.bits+1;omega) (by show s.bits+1+_<=17;omega) (λh=>.inl (by have:=d h;show 2<=s.bits+1;omega));by_cases j:r=[]
  .subst j;rfl
  .rw[u,z j]
 .rw[Oy e x [] AZ] at b
  rw[L6,Rw (i x AW w s l b d)];rw[Yr (Zl (PD AZ AZ AZ) (by show(6:Int)<7;decide) (by show(1:Int)<=s.bits+1;omega) (by intro h;have t:(6:Int)=1:=h;omega) ?_)]
  .exact congrArg some (VZ (by simp[Hg]) _)
  .intro o q _
   have D:s.bits+1=1:=q;have:=d o
   omega
def jT (c:Elem)(cs:List Elem):Dn (c::cs)=(!Fz c.op c.args || Dn cs):=rfl
theorem WG:∀(a:List Elem) (s:Pt),s.bits=1->Dn a=false->run s (Gj a)=some (if a=[] then s else⟨1,s.forks,true,true⟩)
 | [],s,_,_=>rfl
 | c::a,s,b,h=>by
  rw[jT,Bool.or_eq_false_iff] at h;have d:Fz c.op c.args=true:=by simpa using h.1
  have g:wrong s ⟨10,c⟩=0:=by
   unfold wrong;have e:Ob ⟨10,c⟩=true:=d;have j:needs (10:Int)=1:=rfl;simp only;rw[if_neg (by rw[e];decide),if_neg AU,if_neg AU,if_neg AU,if_neg yFa,if_neg AU,if_neg AU,if_neg AU,if_neg yFa]
  have i:next s 10=⟨1,s.forks,true,true⟩:=by
   unfold next
   simp[b]
  rw[if_neg AW];show run s ([⟨10,c⟩]++Gj a)=_
  rw[Rw (Yr g)];show run (next s 10) (Gj a)=_
  rw[i,WG a _ rfl h.2];split<;>rfl
def oS {n:B1}(h:Gi n)(s:Pt)(h1:s.bits=1)(b:Bg 1 ((Bh n).map Cc)<=16):∃c,run s (Be n)=some ⟨1,s.forks,s.seen,c⟩:=by
 unfold Be;obtain⟨c,e,_⟩:=NV (.inl rfl) (Bh n) (λy a=>⟨Sr h y a,Wm y (Sr h y a)⟩) s AU AU (λ_=>.inr rfl);rw[h1] at e;exact⟨c,e⟩
def KF (a:B5):Prop:=∀s:Pt,s.bits=1->0<=s.forks->Bq a<=16->s.forks+forks a<=8->run s (Bj a)=some ⟨1,s.forks,true,true⟩
theorem OE {k:B5}(h:Gi k.net)(i:KF k)(s:Pt)(h1:s.bits=1)(h0:0<=s.forks)(j:Gf k.net (Bq k)<=16)(b:s.forks+forks k<=8)(d:Gh (Bj k) 1 0 1 0 (Bq k) (0+forks k)):
  run s (Be k.net++Bj k)=some ⟨1,s.forks,true,true⟩:=by
 have g:=d.lo1;have e:Gf k.net (Bq k)=max (Bq k) (Bg 1 ((Bh k.net).map Cc)):=by
  unfold Gf;rw[<-Oj,Nat.max_eq_left g]
 obtain⟨c,a⟩:=oS h s h1 AU;rw[Rw a];exact i ⟨1,s.forks,s.seen,c⟩ rfl h0 AU b
theorem NE {s:Pt}(d:c=7\/c=8\/c=9)(h1:s.bits=1)(g:c=7->s.forks≠8)(a:c≠7->s.forks≠0/\s.coil=true):wrong s (Hg c)=0:=by
 unfold wrong;have e:Ob (Hg c)=true:=PD AU AU AU;have i:needs c=1:=by rcases d with rfl | rfl | rfl<;>rfl
 have b:(Hg c).code=c:=rfl;rw[b];rw[if_neg (by rw[e];decide),if_neg AU,if_neg AU,if_neg AU,if_neg yFa,if_neg (by intro h;exact g h.1 h.2),if_neg (by intro h;exact(a AU).1 h.2),if_neg AU,if_neg (by intro h;rw[(a AU).2] at h;exact absurd h.2 AZ)]
theorem WA (o:n≠1)(f:Int)(r:0<=f):∀(d:List B5) (i:Nat),i+d.length=n->d≠[]->(∀k∈d,Gi k.net/\KF k/\Gh (Bj k) 1 0 1 0 (Bq k) (0+forks k))->
  ∀s:Pt,s.bits=1->s.forks=(if i=0 then f else f+1)->(i≠0->s.coil=true)->Bg 1 (d.map (λk=>Gf k.net (Bq k)))<=16->f+1<=8->f+Ou d<=8->run s (Ea n i d)=some ⟨1,f,true,true⟩
 | [],_,_,h,_,_,_,_,_,_,_,_=>absurd rfl h
 | k::t,i,hi,_,q,s,a,b,w,C,x,hF=>by
  rw[CC] at hi;obtain⟨j,v,u⟩:=q k AW;rw[CN,Ol] at C;rw[Ea];unfold Ho F4 Eb;rw[if_neg o];by_cases l:t=[]
  .subst l
   simp only[CM] at hi;rw[if_neg AU,if_pos AU,Ea,EO];rw[if_neg AU] at b;rw[Rw (Yr (NE (.inr (.inr rfl)) a yFa (λ_=>⟨AU,w AU⟩)))];have m:next s (Hg 9).code=⟨1,f,s.seen,false⟩:=by
    show next s 9=_
    unfold next
    simp[a,b]
   have z:f+(forks k:Int)<=8:=hF;rw[m,OE j v ⟨1,f,s.seen,false⟩ rfl r AU z u]
  .have H:0<t.length:=List.length_pos_iff.2 l
   have A:Ou (k::t)=max (forks k+1) (Ou t):=by
    cases t with
    | nil=>exact absurd rfl l
    | cons y t=>rfl
   rw[A] at hF;have rest:∀c:Int,∀e:Pt,wrong s (Hg c)=0->next s (Hg c).code=e->e.bits=1->e.forks=f+1->run s ([Hg c]++(Be k.net++Bj k)++Ea n (i+1) t)=some ⟨1,f,true,true⟩:=by
    intro c e E m G D;rw[C6,Rw (Yr E),m,Rw (OE j v e G AU AU AU u),D];exact WA o f r t (i+1) AU l (λk j=>q k (CH _ j)) ⟨1,f+1,true,true⟩ rfl (by rw[if_neg AU]) (λ_=>rfl) AU x AU
   by_cases g:i=0
   .rw[if_pos g]
    rw[if_pos g] at b;refine rest 7 ⟨1,f+1,true,false⟩ (NE (.inl rfl) a (λ_=>by omega) (λh=>absurd rfl h)) ?_ rfl rfl;show next s 7=_
    unfold next
    simp[a,b]
   .rw[if_neg g,if_neg AU]
    rw[if_neg g] at b;refine rest 8 ⟨1,f+1,s.seen,false⟩ (NE (.inr (.inl rfl)) a yFa (λ_=>⟨AU,w g⟩)) ?_ rfl rfl;show next s 8=_
    unfold next
    simp[a,b]
theorem uq {n:B1}{cs:List Elem}{kids:List B5}(h:Cb ⟨n,cs,kids⟩=0):Dn cs=false/\(kids=[]->cs≠[]):=by
 unfold Cb at h;simp only at h;split at h
 .rename_i b;omega
 .split at h
  .omega
  .rename_i a
   refine⟨by simpa using a,?_⟩;rintro rfl rfl;simp at h
theorem tY (a:B5):Ep a->Bo a=0->KF a:=by
 refine Fb (λa=>Ep a->Bo a=0->KF a) ?_ a;intro n g kids L h H s o G d hF;obtain⟨E,x⟩:=Ku.1 H;obtain⟨z,l⟩:=uq E;have D:=((D8 _ _ _).1 h).2;have e:∀k∈kids,Gi k.net/\KF k/\Gh (Bj k) 1 0 1 0 (Bq k) (0+forks k):=by
  intro k j;have i:=D k j;refine⟨?_,L k j i (x k j),lx k i 0⟩;obtain⟨R,N,Q⟩:=k;exact((D8 _ _ _).1 i).1
 rw[U6] at d;rw[X0,NF] at hF;rw[Nl,Rw (WG g s o z)];have K:∃b:Pt,(if g=[] then s else⟨1,s.forks,true,true⟩)=b/\b.bits=1/\b.forks=s.forks/\(g≠[]->b=⟨1,s.forks,true,true⟩):=by
  by_cases m:g=[]
  .exact⟨s,if_pos m,o,rfl,λh=>absurd m h⟩
  .exact⟨⟨1,s.forks,true,true⟩,if_neg m,rfl,rfl,λ_=>rfl⟩
 obtain⟨b,v,r,q,A⟩:=K;rw[v]
 match kids,e,l,d,hF with
 | [],_,l,_,_=>
  show some b=_
  rw[A (l rfl)]
 | [k],e,_,d,hF=>
  have J:Ea [k].length 0 [k]=Be k.net++Bj k:=by
   show(([]:List Dj)++(Be k.net++Bj k))++[]=_
   rw[C3,EO]
  obtain⟨I,M,u⟩:=e k AW;have P:max 1 (Gf k.net (Bq k))<=16:=d;have O:s.forks+(forks k:Int)<=8:=hF;rw[J,OE I M b r AU AU AU u,q]
 | k::y::t,e,_,d,hF=>
  have w:Ou (k::y::t)=max (forks k+1) (Ou (y::t)):=rfl;have C:s.forks+1<=8:=by rw[w] at hF;omega
  exact WA (n:=(k::y::t).length) AW s.forks G (k::y::t) 0 AW AW e b r (by rw[if_pos rfl];exact q) (λh=>absurd rfl h) d C hF
def uB {a:B5}(h:Ep a)(d:fine a.net)(g:Bo a=0)(b:Ig a<=16)(j:forks a<=8):run pt0 (Ef a)=some pt0:=by
 unfold Ig at b;have i:=Wm a.net d.2.2 pt0 AZ (by show(0:Int)+Az a.net<=16;omega) (λh=>absurd h AZ);unfold Ef;rw[Rw i];have e:=tY a h g ⟨pt0.bits+1,pt0.forks,pt0.seen,false⟩ rfl AZ AU (by show(0:Int)+forks a<=8;omega);rw[Rw e];rfl
theorem UL:∀(l:List B5),(∀a∈l,Ep a/\fine a.net/\Bo a=0/\Ig a<=16/\forks a<=8)->run pt0 ((l.map Ef).flatten)=some pt0
 | [],_=>rfl
 | a::l,h=>by
  obtain⟨j,g,d,e,i⟩:=h a AW;rw[CN,DV,Rw (uB j g d e i)];exact UL l (λx b=>h x (CH _ b))
def noEnd (l:List Dj):Prop:=∀i∈l,i.code≠11
def Pj {l m:List Dj}(h:noEnd l)(k:noEnd m):noEnd (l++m):=λi hi=>(List.mem_append.1 hi).elim (h i) (k i)
def NN {i:Dj}(h:i.code≠11):noEnd [i]:=λj a=>by rw[List.mem_singleton.1 a];exact h
theorem NP:noEnd []:=λj a=>by cases a
theorem Pz.noEnd:∀{l:List Dj} {a b:List B1},Pz l a b->Stil.noEnd l
 | [],_,_,_=>NP
 | i::r,_,_,h=>by
  intro j d;rcases List.mem_cons.1 d with rfl | d
  .have:=h.2.1;omega
  .exact Pz.noEnd h.2.2.2 j d
theorem s8 (cs:List Elem):noEnd (Gj cs):=by
 intro i hi;obtain⟨c,_,rfl⟩:=List.mem_map.1 hi;show(10:Int)≠11
 decide
def sg (n i:Nat):noEnd (Eb n i):=by
 unfold Eb;split
 .exact NP
 .split
  .exact NN (by show(7:Int)≠11;decide)
  .split
   .exact NN (by show(9:Int)≠11;decide)
   .exact NN (by show(8:Int)≠11;decide)
theorem UH (n:Nat):∀(a:List B5) (i:Nat),(∀k∈a,Gi k.net/\noEnd (Bj k))->noEnd (Ea n i a)
 | [],_,_=>NP
 | k::t,i,h=>by
  rw[Ea];unfold Ho F4;exact Pj (Pj (sg n i) (Pj (Xj (h k AW).1).noEnd (h k AW).2)) (UH n t (i+1) (λx b=>h x (CH _ b)))
theorem oe (a:B5):Ep a->noEnd (Bj a):=by
 refine Fb (λa=>Ep a->noEnd (Bj a)) ?_ a;intro n e kids i h;have d:=((D8 _ _ _).1 h).2;rw[Nl];refine Pj (s8 e) (UH _ kids 0 (λk b=>⟨?_,i k b (d k b)⟩));have g:=d k b;obtain⟨j,l,m⟩:=k;exact((D8 _ _ _).1 g).1
theorem Zv:∀(b:List Dj) (a:List Dj) (e:Dj) (r:List Dj),noEnd b->e.code=11->Es a (b++(e::r))=(a++(b++[e]))::Es [] r
 | [],a,e,r,_,d=>by
  show Es a (e::r)=_
  rw[Es,if_pos d];rfl
 | x::b,a,e,r,h,d=>by
  rw[CY,Es,if_neg (h x AW),Zv b (a++[x]) e r (λi hi=>h i (CH _ hi)) d,C6];rfl
theorem VG:∀(l:List B5),(∀a∈l,Ep a/\fine a.net)->Es [] ((l.map Ef).flatten)=l.map Ef
 | [],_=>rfl
 | a::l,h=>by
  obtain⟨g,d⟩:=h a AW;have b:noEnd (C9 a.net++Bj a):=Pj (Zy a.net d []).noEnd (oe a g);have e:Ef a++(l.map Ef).flatten=(C9 a.net++Bj a)++(Hg 11::(l.map Ef).flatten):=by
   unfold Ef;simp
  rw[CN,DV,e,Zv _ [] (Hg 11) _ b rfl,VG l (λx b=>h x (CH _ b))];congr 1;unfold Ef;simp
theorem ZL {y:B1}(h:(C9 y).length+1<=2*Ac y):(D5 k y).length<=2*Ac y:=by
 by_cases a:y.kind=1
 .rw[Ju k y a,EZ,Cj];omega
 .rw[Ik k y a,CO,EZ];exact h
theorem OJ:∀(r:List B1),(∀y∈r,(C9 y).length+1<=2*Ac y)->((r.map (D5 k)).flatten).length<=2*sizes r
 | [],_=>by simp
 | y::r,h=>by
  have d:=ZL (k:=k) (h y AW);have b:((r.map (D5 k)).flatten).length<=2*sizes r:=OJ r (λz a=>h z (CH _ a));rw[CN,DV,CO,F7];omega
theorem OY (n:B1):shp n->(C9 n).length+1<=2*Ac n:=by
 refine Fv (λn=>shp n->(C9 n).length+1<=2*Ac n) ?_ n;intro k e kids a j;rw[Cj];show _<=2*(1+sizes kids)
 rcases VL j with⟨rfl,rfl⟩ | ⟨o,g,d⟩ | ⟨rfl,_,x,rfl,i⟩
 .rw[Lu,EZ,Tv];omega
 .obtain⟨x,r,rfl⟩:∃x r,kids=x::r:=by
   cases kids with
   | nil=>simp at g
   | cons x r=>exact⟨x,r,rfl⟩
  have l:=a x AW (d x AW);have m:=OJ (k:=k) r (λy b=>a y (CH _ b) (d y (CH _ b)));rw[Jr e x r AU AU,CO,F7];omega
 .have l:=a x AW i
  rw[L6,CO,EZ,F7,Tv];omega
def PE (n:B1)(h:Aj n=0):(C9 n).length+1<=2*Ac n:=OY n (PS n h)
theorem UZ {n:B1}(h:Gi n):(Be n).length<=2*BG n:=by
 unfold Be;have e:=OJ (k:=2) (Bh n) (λy b=>PE y (Sr h y b));have d:sizes (Bh n)<=BG n:=by
  unfold Bh BG;by_cases a:Ai n=true
  .rw[if_pos a,if_pos a];exact B7 _
  .rw[if_neg a,if_neg a]
   split
   .rw[Cj];omega
   .rw[F7,Tv];omega
 omega
def LW (n i:Nat):(Eb n i).length<=1:=by
 unfold Eb;split
 .simp
 .split
  .simp
  .split<;>simp
theorem RZ (n:Nat):∀(a:List B5) (i:Nat),(∀k∈a,Gi k.net/\(Bj k).length+2+2*BG k.net<=2*Ah k)->(Ea n i a).length<=2*H5 a
 | [],_,_=>by simp[Ea]
 | k::t,i,h=>by
  obtain⟨d,j⟩:=h k AW;have l:=LW n i;have g:=UZ d;have m:=RZ n t (i+1) (λx b=>h x (CH _ b));have e:H5 (k::t)=Ah k+H5 t:=by simp[H5]
  rw[Ea,e];unfold Ho F4;rw[CO,CO,CO];omega
theorem WU (a:B5):Ep a->(Bj a).length+2+2*BG a.net<=2*Ah a:=by
 refine Fb (λa=>Ep a->(Bj a).length+2+2*BG a.net<=2*Ah a) ?_ a;intro n d kids m h;have e:=((D8 _ _ _).1 h).2;have p:=RZ kids.length kids 0 (λk b=>⟨by have i:=e k b;obtain⟨g,j,l⟩:=k;exact((D8 g j l).1 i).1,m k b (e k b)⟩);rw[Nl,CO,Dp];have o:(Gj d).length=d.length:=by simp[Gj]
 show _+2+2*BG n<=_
 omega
def ya {a:B5}(h:Ep a)(b:fine a.net):(Ef a).length<=2*Ah a:=by
 have g:=WU a h;have d:=PE a.net b.2.2;have e:BG a.net=Ac a.net:=by unfold BG;rw[if_neg (by rw[N3 b];decide)]
 unfold Ef;rw[CO,CO,EZ];omega
theorem VT:∀(l:List B5),(∀a∈l,Ep a/\fine a.net)->((l.map Ef).flatten).length<=2*Bc l
 | [],_=>by simp
 | a::l,h=>by
  have g:=ya (h a AW).1 (h a AW).2;have d:=VT l (λx b=>h x (CH _ b));have e:Bc (a::l)=Ah a+Bc l:=by simp[Bc]
  rw[CN,DV,CO,e];omega
end Stil
namespace Go.Proofs.YtfeablpbkcgdjaaGreatDoor
open Tryz Go.RowKit Go.Sort Go.BigFrame
theorem rp (b f:Int)(c:Int)(w:World)(g:-1000<=b)(o:b<=1000)(i:-1000<=f)(j:f<=1000):
  Calls prog 153 #[.agg #[.int .i64 b, .int .i64 f], .int .i64 c] w λe p=>e=.returned (.agg #[.int .i64 (if c=1 then b+1 else if c=4\/c=5\/c=11 then b - 1 else b), .int .i64 (if c=7 then f+1 else if c=9 then f - 1 else f)])/\Below w.heap.size w p:=by
 have q:IntKind.i64.wrap (b+1)=b+1:=by rw[IntKind.wrap_i64];omega
 have t:IntKind.i64.wrap (b - 1)=b - 1:=by rw[IntKind.wrap_i64];omega
 have r:IntKind.i64.wrap (f+1)=f+1:=by rw[IntKind.wrap_i64];omega
 have s:IntKind.i64.wrap (f - 1)=f - 1:=by rw[IntKind.wrap_i64];omega
 obtain⟨x,d⟩:∃x:Int,x=if c=1 then b+1 else if c=4\/c=5\/c=11 then b - 1 else b:=⟨_,rfl⟩
 obtain⟨y,a⟩:∃y:Int,y=if c=7 then f+1 else if c=9 then f - 1 else f:=⟨_,rfl⟩
 have l:Hid (x=if c=1 then b+1 else if c=4\/c=5\/c=11 then b - 1 else b):=d;have m:Hid (y=if c=7 then f+1 else if c=9 then f - 1 else f):=a;rw[<-d,<-a];clear d a g o i j;go_enter func153,ntmps153
 go_wp2
 all_goals refine bodyPost_ret (by simp[results,results153,go_sem];rfl) rfl ⟨?_,AX⟩
 all_goals (rw[l.out,m.out];go_light;(try simp only[D3,CJ] at*);simp[*])
theorem e6 {op:Int}(a:op=21\/op=21\/op=21\/op=22\/op=23\/op=24\/op=25\/op=26\/op=26\/op=27\/op=28\/op=29\/op=29\/op=30\/op=31\/op=31\/op=32\/op=33\/op=34\/op=35\/op=36\/op=37)
  (h1:(op==21)=false) (m:(op==22)=false) (h:(op==23)=false) (g:(op==24)=false) (o:(op==25)=false) (l:(op==26)=false) (p:(op==27)=false) (d:(op==28)=false) (e:(op==29)=false) (i:(op==36)=false) (b:(op==37)=false) (j:¬op=30):Stil.arity op=3:=by
 simp only[CJ] at*;rcases a with rfl | rfl | rfl | rfl | rfl | rfl | rfl | rfl | rfl | rfl | rfl | rfl | rfl | rfl | rfl | rfl | rfl | rfl | rfl | rfl | rfl | rfl
 all_goals first | rfl | (exfalso;omega)
def zb {p:Prop}(h:p:=by
 go_region_with (go_at_call 87;refine(Np g _ _ _ A6 AU AU AU).mono ?_;rintro e w6 ⟨a1,rfl,h1,hrd,hgr⟩;obtain⟨hz0,q0,p0,q1,p1⟩:QbE w6 w.heap.size:=qbE;obtain⟨hz1,q2,p2,q3,p3,q4,p4⟩:QbD w6 wa.heap.size d:=qbD;obtain⟨hz2,q5,p5,q6,p6,q7,p7⟩:QbD w6 wb.heap.size f2:=qbD)
 all_goals go_wp2
 all_goals
  refine bodyPost_ret (by simp[results,results58,go_sem,q0,q1,hz0];rfl) rfl ?_;exact⟨_,_,[a1,f2],rfl,AU,Jy [a1,f2] _ AW AU rfl AW,all2 h1 hf2,AW,BD,Av⟩):p:=h
def zP {p:Prop}(h:p:=by
 refine bodyPost_ret (by simp[results,results58,go_sem,q0,q1,hz0];rfl) rfl ?_
 exact⟨_,_,[a1,a2,a3],rfl,AU,Jy [a1,a2,a3] _ AW AU rfl AW,e7 h1 h2 h3,AW,BD,Av⟩):p:=h
def z7 {p:Prop}(h:p:=by
 refine bodyPost_ret (by simp[results,results58,go_sem,q0,q1,hz0];rfl) rfl ?_
 exact⟨_,_,[a1],rfl,AU,Jy [a1] _ AW AU rfl AW,all1 h1,AW,BD,Av⟩):p:=h
def ze0 {p:Prop}(h:p:=by
 refine bodyPost_ret (by simp[results,results58,go_sem,q0,q1,hz0];rfl) rfl ?_
 exact⟨_,_,[a1,a2],rfl,AU,Jy [a1,a2] _ AW AU rfl AW,all2 h1 h2,AW,BD,Av⟩):p:=h
theorem Ql (g P:Nat)(w:World)(hr:Ph w g P)(K:P<=1000000000):
  Calls prog 58 #[.pointer (some ⟨g,0,none⟩)] w λe I=>LA e w I g (P+40) 3:=by
 have N:=Tf hr;go_enter func58,ntmps58;go_upto_if 20 with(first | (go_at_call_of 57 (22:Nat);refine(Zr g _ _ _ [21,21,21,22,23,24,25,26,26,27,28,29,29,30,31,31,32,33,34,35,36,37] _ A6 AU (Dh (by simp[F5,go_sem])) AW BQ AW AW).mono ?_;rintro e G ⟨op,rfl,C,hrd,hgr⟩;simp only[C2,EJ,EK] at C;obtain⟨hz0,q0,p0,q1,p1⟩:QbE G w.heap.size:=qbE) | (go_at_call_of 33 (Value.int IntKind.i64 2);refine(Fe g _ _ _ A6 AU AU AU).mono ?_;rintro e J ⟨x,rfl,m,q,hrd,hgr⟩;obtain⟨hz0,q0,p0,q1,p1⟩:QbE J w.heap.size:=qbE) | (have _:=y;(go_at_call 87;refine(Np g _ _ _ A6 AU AU AU).mono ?_;rintro e wb ⟨f,rfl,u,hrd,hgr⟩;obtain⟨hz0,q0,p0,q1,p1⟩:QbE wb w.heap.size:=qbE;obtain⟨hz1,q2,p2,q3,p3,q4,p4⟩:QbD wb wa.heap.size d:=qbD)) | (go_at_call 87;refine(Np g _ _ _ A6 AU AU AU).mono ?_;rintro e wa ⟨d,rfl,y,hrd,hgr⟩;obtain⟨hz0,q0,p0,q1,p1⟩:QbE wa w.heap.size:=qbE))
 go_cut [] (λwc=>∃f2:Stil.B9,Small f2/\Ph wc g (P+20)/\w.grownBy wc (some g)/\We wc w.heap.size 0 (.slice none 0 0)/\IG wc wa.heap.size d/\IG wc wb.heap.size f2)
 case first=>
  go_wp2_with (go_at_call_of 33 (Value.int IntKind.i64 9);refine(Fe g _ _ _ A6 AU AU AU).mono ?_;rintro e A ⟨x,rfl,m,q,hrd,hgr⟩;obtain⟨hz0,q0,p0,q1,p1⟩:QbE A w.heap.size:=qbE;obtain⟨hz1,q2,p2,q3,p3,q4,p4⟩:QbD A wa.heap.size d:=qbD;obtain⟨hz2,q5,p5,q6,p6,q7,p7⟩:QbD A wb.heap.size f:=qbD)
  .go_meet
   exact⟨⟨f.kind,x,f.p⟩,⟨u.1,⟨by simp only;omega,by simp only;omega⟩,u.2.2⟩,BD,Av,BL,BR,BR⟩
  .go_meet
   exact⟨f,u,BD,Av,BL,BR,BR⟩
 case rest=>
  clear q0 q1 q2 q3 q4 p0 p1 p2 p3 p4 hrd;obtain⟨f2,hf2,hrd,L,⟨hz0,q0,q1,p0,p1⟩,⟨hz1,q2,q3,q4,p2,p3,p4⟩,⟨hz2,q5,q6,q7,p5,p6,p7⟩⟩:=hcut;have M:21<=op/\op<=37:=AU
  have E:Hid (op=21\/op=21\/op=21\/op=22\/op=23\/op=24\/op=25\/op=26\/op=26\/op=27\/op=28\/op=29\/op=29\/op=30\/op=31\/op=31\/op=32\/op=33\/op=34\/op=35\/op=36\/op=37):=C;clear C;by_cases D:op=30
  .subst D
   go_wp2_with (first | (go_at_call_of 33 (Value.int IntKind.i64 3);refine(Fe g _ _ _ A6 AU AU AU).mono ?_;rintro e w3 ⟨x,rfl,m,q,hrd,hgr⟩;obtain⟨hz0,q0,p0,q1,p1⟩:QbE w3 w.heap.size:=qbE) | (go_at_call_of 33 (Value.int IntKind.i64 2);refine(Fe g _ _ _ A6 AU AU AU).mono ?_;rintro e z ⟨x,rfl,m,q,hrd,hgr⟩;obtain⟨hz0,q0,p0,q1,p1⟩:QbE z w.heap.size:=qbE) | (go_at_call_of 57 (5:Nat);refine(Zr g _ _ _ [2,3,4,7,8] _ A6 AU (Dh (by simp[F5,go_sem])) AW BQ AW AW).mono ?_;rintro e s ⟨x,rfl,t,hrd,hgr⟩;simp only[C2,EJ,EK] at t;obtain⟨hz0,q0,p0,q1,p1⟩:QbE s w.heap.size:=qbE) | (have _:=h2;(go_at_call 88;refine(Ua g _ _ A6 AU).mono ?_;rintro e l ⟨a3,rfl,h3,hrd,hgr⟩;obtain⟨hz0,q0,p0,q1,p1⟩:QbE l w.heap.size:=qbE)) | (have _:=h2;(go_at_call 89;refine(Xr g _ _ A6 AU).mono ?_;rintro e l ⟨a3,rfl,h3,hrd,hgr⟩;obtain⟨hz0,q0,p0,q1,p1⟩:QbE l w.heap.size:=qbE)) | (have _:=h1;(go_at_call 88;refine(Ua g _ _ A6 AU).mono ?_;rintro e j ⟨a2,rfl,h2,hrd,hgr⟩;obtain⟨hz0,q0,p0,q1,p1⟩:QbE j w.heap.size:=qbE)) | (have _:=h1;(go_at_call 89;refine(Xr g _ _ A6 AU).mono ?_;rintro e j ⟨a2,rfl,h2,hrd,hgr⟩;obtain⟨hz0,q0,p0,q1,p1⟩:QbE j w.heap.size:=qbE)) | (go_at_call 87;refine(Np g _ _ _ A6 AU AU AU).mono ?_;rintro e w6 ⟨a1,rfl,h1,hrd,hgr⟩;obtain⟨hz0,q0,p0,q1,p1⟩:QbE w6 w.heap.size:=qbE) | (go_at_call 90;refine(Ir _ _).mono ?_;rw[show Stil.arity 30=2 from rfl];rintro e H ⟨rfl,rfl⟩))
   all_goals
    refine bodyPost_ret (by simp[results,results58,go_sem,q0,q1,hz0];rfl) rfl ?_;exact⟨_,_,[a1,a2],rfl,AU,dD 2 (Jy [a1,a2,a3] _ AW AU rfl AW) AW,all2 h1 h2,AW,BD,Av⟩
  .go_wp2_with (first | (go_at_call_of 33 (Value.int IntKind.i64 3);refine(Fe g _ _ _ A6 AU AU AU).mono ?_;rintro e w3 ⟨x,rfl,m,q,hrd,hgr⟩;obtain⟨hz0,q0,p0,q1,p1⟩:QbE w3 w.heap.size:=qbE) | (go_at_call_of 33 (Value.int IntKind.i64 2);refine(Fe g _ _ _ A6 AU AU AU).mono ?_;rintro e z ⟨x,rfl,m,q,hrd,hgr⟩;obtain⟨hz0,q0,p0,q1,p1⟩:QbE z w.heap.size:=qbE) | (go_at_call_of 57 (5:Nat);refine(Zr g _ _ _ [2,3,4,7,8] _ A6 AU (Dh (by simp[F5,go_sem])) AW BQ AW AW).mono ?_;rintro e s ⟨x,rfl,t,hrd,hgr⟩;simp only[C2,EJ,EK] at t;obtain⟨hz0,q0,p0,q1,p1⟩:QbE s w.heap.size:=qbE) | (have _:=h2;(go_at_call 88;refine(Ua g _ _ A6 AU).mono ?_;rintro e l ⟨a3,rfl,h3,hrd,hgr⟩;obtain⟨hz0,q0,p0,q1,p1⟩:QbE l w.heap.size:=qbE)) | (have _:=h2;(go_at_call 89;refine(Xr g _ _ A6 AU).mono ?_;rintro e l ⟨a3,rfl,h3,hrd,hgr⟩;obtain⟨hz0,q0,p0,q1,p1⟩:QbE l w.heap.size:=qbE)) | (have _:=h1;(go_at_call 88;refine(Ua g _ _ A6 AU).mono ?_;rintro e j ⟨a2,rfl,h2,hrd,hgr⟩;obtain⟨hz0,q0,p0,q1,p1⟩:QbE j w.heap.size:=qbE)) | (have _:=h1;(go_at_call 89;refine(Xr g _ _ A6 AU).mono ?_;rintro e j ⟨a2,rfl,h2,hrd,hgr⟩;obtain⟨hz0,q0,p0,q1,p1⟩:QbE j w.heap.size:=qbE)) | (go_at_call 87;refine(Np g _ _ _ A6 AU AU AU).mono ?_;rintro e w6 ⟨a1,rfl,h1,hrd,hgr⟩;obtain⟨hz0,q0,p0,q1,p1⟩:QbE w6 w.heap.size:=qbE) | (go_at_call 90;refine(Ir _ _).mono ?_;(first | rw[show Stil.arity 35=3 from rfl] | rw[e6 E.out BA BA BA BA BA BA BA BA BA BA BA D]);rintro e H ⟨rfl,rfl⟩))
   .refine bodyPost_ret (by simp[results,results58,go_sem,q0,q1,hz0];rfl) rfl ?_
    exact⟨_,_,[d],rfl,AU,Jy [d] _ AW AU rfl AW,all1 y,AW,BD,Av⟩
   .exact z7
   .exact z7
   .go_region_with (go_at_call 87;refine(Np g _ _ _ A6 AU AU AU).mono ?_;rintro e w6 ⟨a1,rfl,h1,hrd,hgr⟩;obtain⟨hz0,q0,p0,q1,p1⟩:QbE w6 w.heap.size:=qbE;obtain⟨hz1,q2,p2,q3,p3,q4,p4⟩:QbD w6 wa.heap.size d:=qbD;obtain⟨hz2,q5,p5,q6,p6,q7,p7⟩:QbD w6 wb.heap.size f2:=qbD)
    all_goals go_wp2
    all_goals
     refine bodyPost_ret (by simp[results,results58,go_sem,q0,q1,hz0];rfl) rfl ?_;exact⟨_,_,[d,a1],rfl,AU,Jy [d,a1] _ AW AU rfl AW,all2 y h1,AW,BD,Av⟩
   .exact z7
   .exact zb
   .exact zb
   .exact zb
   .exact zb
   .exact ze0
   .exact ze0
   .exact zP
   .exact zP
   .exact zP
def zp {p:Prop}(h:p:=by
 refine bodyPost_ret (by simp[results,results61,go_sem,q0,q1,hz0];rfl) rfl ?_
 exact⟨_,_,[d],rfl,AU,Jy [d] _ AW AU rfl AW,all1 hd,AW,BD,Av⟩):p:=h
theorem Hy (g P:Nat)(w:World)(hr:Ph w g P)(hP:P<=1000000000):
  Calls prog 61 #[.pointer (some ⟨g,0,none⟩)] w λe w'=>LA e w w' g (P+20) 3:=by
 have hg:=Tf hr;go_enter func61,ntmps61;go_upto_if 39 with(first | (go_at_call_of 33 (Value.int IntKind.i64 8);refine(Fe g _ _ _ A6 AU AU AU).mono ?_;rintro e w0 ⟨x,rfl,T,U,m,j⟩;obtain⟨hz0,q0,q,q1,l⟩:QbE w0 w.heap.size:=qbE) | (go_at_call 92;refine(cB g _ _ A6 AU).mono ?_;rintro e w1 ⟨d,rfl,hd,m,j⟩;obtain⟨hz0,q0,q,q1,l⟩:QbE w1 w.heap.size:=qbE) | (go_at_call 87;refine(Np g _ _ _ A6 AU AU AU).mono ?_;rintro e w2 ⟨f,rfl,hf,m,j⟩;obtain⟨hz0,q0,q,q1,l⟩:QbE w2 w.heap.size:=qbE) | (have _:=ab;(go_at_call 88;refine(Ua g _ _ A6 AU).mono ?_;rintro e u ⟨f,rfl,ac,m,j⟩;obtain⟨hz0,q0,q,q1,l⟩:QbE u w.heap.size:=qbE;obtain⟨M,A,E,t,y,D,C⟩:QbD u z.heap.size d:=qbD)) | (go_at_call 88;refine(Ua g _ _ A6 AU).mono ?_;rintro e z ⟨d,rfl,ab,m,j⟩;obtain⟨hz0,q0,q,q1,l⟩:QbE z w.heap.size:=qbE) | (have _:=ac;(go_at_call_of 33 (Value.int IntKind.i64 2);refine(Fe g _ _ _ A6 AU AU AU).mono ?_;rintro e Z ⟨x,rfl,T,U,m,j⟩;obtain⟨hz0,q0,q,q1,l⟩:QbE Z w.heap.size:=qbE;obtain⟨M,A,E,t,y,D,C⟩:QbD Z z.heap.size d:=qbD;obtain⟨Q,I,G,K,L,J,H⟩:QbD Z u.heap.size f:=qbD)) | (go_at_call_of 33 (Value.int IntKind.i64 2);refine(Fe g _ _ _ A6 AU AU AU).mono ?_;rintro e w3 ⟨x,rfl,T,U,m,j⟩;obtain⟨hz0,q0,q,q1,l⟩:QbE w3 w.heap.size:=qbE))
 rotate_right 1
 .go_cut [] (λwc=>∃s N:Stil.B9,Small s/\Small N/\Ph wc g (P+18)/\w.grownBy wc (some g)/\We wc w.heap.size 0 (.slice none 0 0)/\IG wc z.heap.size s/\IG wc u.heap.size N)
  case first=>
   go_wp2_with (first | (have _:=R;(go_at_call 89;refine(Xr g _ _ A6 AU).mono ?_;rintro e ws ⟨N,rfl,aa,m,j⟩;obtain⟨hz0,q0,q,q1,l⟩:QbE ws w.heap.size:=qbE;obtain⟨M,A,E,t,y,D,C⟩:QbD ws z.heap.size s:=qbD;obtain⟨Q,I,G,K,L,J,H⟩:QbD ws u.heap.size f:=qbD)) | (go_at_call 89;refine(Xr g _ _ A6 AU).mono ?_;rintro e wr ⟨s,rfl,R,m,j⟩;obtain⟨hz0,q0,q,q1,l⟩:QbE wr w.heap.size:=qbE;obtain⟨M,A,E,t,y,D,C⟩:QbD wr z.heap.size d:=qbD;obtain⟨Q,I,G,K,L,J,H⟩:QbD wr u.heap.size f:=qbD))
   .go_meet
    exact⟨s,N,R,aa,BD,Av,BL,BR,BR⟩
   .go_meet
    exact⟨d,f,ab,ac,BD,Av,BL,BR,BR⟩
  case rest=>
   clear q0 q1 A t D I K J q l E y C G L H m;obtain⟨s,N,R,aa,m,ae,⟨hz0,q0,q1,q,l⟩,⟨M,A,t,D,E,y,C⟩,⟨Q,I,K,J,G,L,H⟩⟩:=hcut;go_upto_if 46 with(go_at_call_of 33 (Value.int IntKind.i64 4);refine(Fe g _ _ _ A6 AU AU AU).mono ?_;rintro e Y ⟨x,rfl,T,U,m,j⟩;obtain⟨hz0,q0,q,q1,l⟩:QbE Y w.heap.size:=qbE;obtain⟨M,A,E,t,y,D,C⟩:QbD Y z.heap.size s:=qbD;obtain⟨Q,I,G,K,L,J,H⟩:QbD Y u.heap.size N:=qbD)
   go_cut [] (λS=>∃O:Stil.B9,Small O/\Ph S g (P+19)/\w.grownBy S (some g)/\We S w.heap.size 0 (.slice none 0 0)/\IG S z.heap.size s/\IG S u.heap.size O)
   case first=>
    go_wp2
    .go_meet
     exact⟨s,R,BD,Av,BL,BR,BR⟩
    .go_meet
     exact⟨N,aa,BD,Av,BL,BR,BR⟩
   case rest=>
    clear q0 q1 A t D I K J q l E y C G L H m;obtain⟨O,ad,m,af,⟨hz0,q0,q1,q,l⟩,⟨M,A,t,D,E,y,C⟩,⟨Q,I,K,J,G,L,H⟩⟩:=hcut
    go_wp2
    go_region_with (go_at_call_of 33 (Value.int IntKind.i64 6);refine(Fe g _ _ _ A6 AU AU AU).mono ?_;rintro e V ⟨x,rfl,T,U,m,j⟩;obtain⟨hz0,q0,q,q1,l⟩:QbE V w.heap.size:=qbE;obtain⟨M,A,E,t,y,D,C⟩:QbD V z.heap.size s:=qbD;obtain⟨Q,I,G,K,L,J,H⟩:QbD V u.heap.size O:=qbD)
    all_goals go_wp2
    all_goals
     refine bodyPost_ret (by simp[results,results61,go_sem,q0,q1,hz0];rfl) rfl ?_;refine⟨_,_,[s,O],rfl,by rw[IntKind.wrap_i64];omega,?_,all2 R ad,AW,BD,Av⟩;first | exact Jy [s,O] _ AW AU rfl AW | exact J6.setAt AU (J6.setAt AU (dG (X:=wc) [s,O] _ ⟨j.os,j.tape,j.output,j.size,j.block⟩ AU AW AU rfl AW))
 .exact zp
 .exact zp
 .exact zp
 .exact zp
 .exact zp
 .refine bodyPost_ret (by simp[results,results61,go_sem,q0,q1,hz0];rfl) rfl ?_
  exact⟨_,_,[d,f],rfl,AU,Jy [d,f] _ AW AU rfl AW,all2 hd hf,AW,BD,Av⟩
