import Derived.Test.YtmnnkedjoecehaaGreatDoorCE6
set_option linter.defProp false
set_option maxHeartbeats 2000000
set_option maxRecDepth 100000
namespace Stil
def run:Pt->List Gf->Option Pt
 | s,[]=>some s
 | s,i::r=>if 0<wrong s i then none else run (next s i.code) r
theorem fu (l:List Gf):∀(s:Pt) (k:Nat),(Iy s k l).1=0↔∃t,run s l=some t/\¬0<t.bits:=by
 induction l with
 | nil=>
  intro s k;rw[Iy,run];by_cases h:0<s.bits
  ·rw[if_pos h]
   constructor
   ·intro a;simp at a
   ·rintro⟨t,b,a⟩
    injection b with b
    subst b;exact absurd h a
  ·rw[if_neg h]
   exact⟨λ_=>⟨s,rfl,h⟩,λ_=>rfl⟩
 | cons i r d=>
  intro s k;rw[Iy,run];by_cases h:0<wrong s i
  ·rw[if_pos h,if_pos h]
   constructor
   ·intro a;simp only at a;omega
   ·rintro⟨t,b,_⟩;cases b
  ·rw[if_neg h,if_neg h]
   exact d _ _
theorem e5 {l:List Gf}:(Et l).1=0↔l.length<=1000/\∃t,run pt0 l=some t/\¬0<t.bits:=by
 unfold Et;by_cases h:1000<l.length
 ·rw[if_pos h]
  constructor
  ·intro a;simp at a
  ·rintro⟨a,_⟩;omega
 ·rw[if_neg h,fu]
  exact⟨λa=>⟨AQ,a⟩,λa=>a.2⟩
def Axx {l:List Gf}(h:(Et l).1=0):Et l=(0,0):=by
 have:=Vk l AQ
 exact Prod.ext this.1 this.2
def opn (k:Int)(n:B8):List B8:=if n.kind=k then n.kids else [n]
def Yq (k:Int)(a b:B8):B8:=⟨k,⟨0,[]⟩,opn k a++opn k b⟩
def Wv (k:Int)(a b:B8):B8:=if a.kind=0 then b else Yq k a b
def Oq (e:Elem):B8:=⟨1,e,[]⟩
def nf (a:B8):B8:=⟨4,⟨0,[]⟩,[a]⟩
def MH:B8:=⟨0,⟨0,[]⟩,[]⟩
def NJ (c:Int)(e:Elem)(d:List B8):List B8:=
 if c=1 then Oq e::d
 else if c=2 then(match d with | a::r=>Wv 2 a (Oq e)::r | []=>[])
 else if c=3 then(match d with | a::r=>Wv 3 a (Oq e)::r | []=>[])
 else if c=4 then(match d with | a::b::r=>Wv 2 b a::r | s=>s)
 else if c=5 then(match d with | a::b::r=>Wv 3 b a::r | s=>s)
 else(match d with | a::r=>nf a::r | []=>[])
def Zh (a:B8)(r:List B8):sizes (a::r)=Ai a+sizes r:=by simp[sizes]
def Of:sizes []=0:=rfl
end Stil
namespace Go.Proofs.YtmnnkedjoecehaaGreatDoor
open Tryz Go.RowKit Go.Sort Go.BigFrame
theorem RF (e:Stil.Elem)(j:Value)(w:World)(i:Dj w j e.args)(u:e.args.length<=1048576):
  Calls prog 68 #[.agg #[AB e.op,j]] w λr q=>∃a c,r=.returned (.agg #[AB e.op,AE a e.args.length c])/\q.ownsRow w.heap.size 111 3 (AE a e.args.length c) e.args.length (Ar e.args)/\AO w q:=by
 have K:=AV (λW (h:AO w W)=>i.below h);obtain⟨o,s,rfl,J⟩:=i;clear J;go_enter func68,ntmps68;go_upto_region 1 with fail
 obtain⟨W,b⟩:=AA ((w.alloc (.cells #[AB e.op,AE o e.args.length s] 46)).alloc (.cells #[AB 0,AG] 46))
 rw[<-b];have y:W.cell? (AL w 0)=some (AB e.op):=by rw[b];simp[go_sem]
 have q1:W.cell? (AL w 1)=some (AE o e.args.length s):=by rw[b];simp[go_sem]
 have A:W.cell? (AK (w.heap.size+1) 0)=some (AB 0):=by rw[b];simp[go_sem]
 have x:W.cell? (AK (w.heap.size+1) 1)=some AG:=by rw[b];simp[go_sem]
 have v0:W.frozen? (AK (w.heap.size+1) 0)=false:=by rw[b];simp[go_sem]
 have z:W.frozen? (AK (w.heap.size+1) 1)=false:=by rw[b];simp[go_sem]
 have m:W.heap.size=w.heap.size+2:=by rw[b];simp
 have d:AO w W:=by rw[b];exact Bi (Aa _ _) _
 have bG:=AV m;have P:w.heap.size<W.heap.size:=AQ
 have L:w.heap.size+1<W.heap.size:=AQ
 clear b m
 go_region_law (refine Su rfl _ _ rfl (w.heap.size+2) _ e.args rfl (by exact(World.ownsRow_lit W #[] 0 yGa A6 rfl).drew) _ _ rfl (K _ (by exact(Bi d _).drew)) u (by have:=bG.out;simp;omega) ?_;intro O G t E;obtain⟨g,l,I⟩:=Af t;subst I;have hb5:=(Aa W _).drew.grown E AU (λk C=>by cases C;exact CG _);have M:w.heap.size+2<=G.heap.size:=yEi;have R:=(hb5.cell (p:=(AL w 0)) yBg).trans y;have Q:=(hb5.cell (p:=(AL w 1)) yBg).trans q1;have D:=(hb5.cell (p:=(AK (w.heap.size+1) 0)) BX).trans A;have H:=(hb5.cell (p:=(AK (w.heap.size+1) 1)) BX).trans x;have N:=(hb5.frozen (p:=(AK (w.heap.size+1) 0)) BX).trans v0;have S:=(hb5.frozen (p:=(AK (w.heap.size+1) 1)) BX).trans z)
 all_goals
  try go_wp2
  refine bodyPost_ret (v:=.agg #[AB e.op,AE g e.args.length l]) (by simp[results,results68,go_sem,D,H]) rfl ⟨g,l,rfl,?_,?_⟩
  ·refine Joins.ownsRow_le (base:=w.heap.size+2) ?_ AQ
   repeat (refine ownsRow_setCell_below ?_ BZ _)
   exact t
  ·have T:=d.trans (hb5.mono d.size)
   exact AW
end Go.Proofs.YtmnnkedjoecehaaGreatDoor
namespace Stil
variable {B B2 F F2 b' f f' n:Nat}{c k:Int}
def Xz:List Gf->List B8->List B8->Prop
 | [],a,t=>a=t
 | i::r,a,t=>1<=i.code/\i.code<7/\needs i.code<=(a.length:Int)/\Xz r (NJ i.code i.one a) t
theorem Xz.append:∀{l m:List Gf} {a b c:List B8},Xz l a b->Xz m b c->Xz (l++m) a c
 | [],_,_,_,_,h,k=>by cases h;exact k
 | _::_,_,_,_,_,h,k=>⟨h.1,h.2.1,h.2.2.1,Xz.append h.2.2.2 k⟩
def ZA {n:B8}(h:fine n):∀x∈n.kids,fine x:=λx a=>
 ⟨((Ql n).1 h.1).2 x a,((O8 n).1 h.2.1).2 x a,Oe h.2.2 x a⟩
theorem xK (g:k=2\/k=3){a y:B8}(i:a.kind≠0)(m:y.kind≠0)(l:y.kind=1->y=Oq y.one)(j:∀b,Xz (Bv y) b (y::b))(b:List B8):
  Xz (Bq k y) (a::b) (Yq k a y::b):=by
 by_cases h:y.kind=1
 ·rw[Na k y h]
  have e:NJ k y.one (a::b)=Yq k a y::b:=by
   have d:Wv k a (Oq y.one)=Yq k a y:=by unfold Wv;rw[if_neg i,<-l h]
   rcases g with rfl | rfl
   ·show Wv 2 a (Oq y.one)::b=_;rw[d]
   ·show Wv 3 a (Oq y.one)::b=_;rw[d]
  refine⟨by show 1<=k;omega,by show k<7;omega,?_,e⟩;show needs k<=((a::b).length:Int)
  rw[CH];rcases g with rfl | rfl
  ·show(1:Int)<=_;omega
  ·show(1:Int)<=_;omega
 ·rw[Jq k y h]
  refine(j (a::b)).append ?_;have e:NJ (k+2) ⟨0,[]⟩ (y::a::b)=Yq k a y::b:=by
   have d:Wv k a y=Yq k a y:=by unfold Wv;rw[if_neg i]
   rcases g with rfl | rfl
   ·show Wv 2 a y::b=_;rw[d]
   ·show Wv 3 a y::b=_;rw[d]
  refine⟨by show 1<=k+2;omega,by show k+2<7;omega,?_,e⟩;show needs (k+2)<=((y::a::b).length:Int)
  rw[CH,CH];rcases g with rfl | rfl
  ·show(2:Int)<=_;omega
  ·show(2:Int)<=_;omega
theorem N6 (e:k=2\/k=3):∀(r:List B8) (a:B8),a.kind≠0->(∀y∈r,y.kind≠0/\y.kind≠k/\(y.kind=1->y=Oq y.one)/\∀b,Xz (Bv y) b (y::b))->∀b,
  Xz ((r.map (Bq k)).flatten) (a::b) ((if r=[] then a else⟨k,⟨0,[]⟩,opn k a++r⟩)::b)
 | [],a,_,_,b=>rfl
 | y::r,a,m,h,b=>by
  obtain⟨s,g,j,i⟩:=h y AU;rw[CQ,D3];refine(xK e m s j i b).append ?_;have l:(Yq k a y).kind≠0:=by show k≠0;omega
  have:=N6 e r (Yq k a y) l (λz t=>h z (CN _ t)) b
  have q:opn k (Yq k a y)=opn k a++[y]:=by
   unfold opn;rw[if_pos (show(Yq k a y).kind=k from rfl)];show opn k a++opn k y=_
   unfold opn;rw[if_neg g]
  have o:Yq k a y=⟨k,⟨0,[]⟩,opn k a++[y]⟩:=by
   show(⟨k,⟨0,[]⟩,opn k a++opn k y⟩:B8)=_
   congr 2;unfold opn;rw[if_neg g]
  rw[if_neg AU];by_cases d:r=[]
  ·subst d
   rw[if_pos rfl] at this;rw[<-o];exact this
  ·rw[if_neg d,q,EI] at this
   exact this
theorem Zw {n:B8}(h:fine n):n.kind≠0:=by
 obtain⟨k,e,kids⟩:=n;rcases F5 h.2.2 with⟨a,_⟩ | ⟨a,_⟩ | ⟨a,_⟩
 ·show k≠0;omega
 ·show k≠0;omega
 ·show k≠0;omega
theorem Vs {n:B8}(h:fine n)(h1:n.kind=1):n=Oq n.one:=by
 obtain⟨k,e,kids⟩:=n;obtain rfl:k=1:=h1;rcases F5 h.2.2 with⟨_,rfl⟩ | ⟨h1,_⟩ | ⟨h1,_⟩
 ·rfl
 ·omega
 ·omega
theorem PK (n:B8):fine n->∀a,Xz (Bv n) a (n::a):=by
 refine Fp (λn=>fine n->∀a,Xz (Bv n) a (n::a)) ?_ n;intro k e kids g h a;have b:=ZA h;rcases F5 h.2.2 with⟨rfl,rfl⟩ | ⟨m,s,_⟩ | ⟨rfl,j,x,rfl,_⟩
 ·rw[Oy]
  exact⟨by show(1:Int)<=1;decide,by show(1:Int)<7;decide,by show(0:Int)<=_;omega,rfl⟩
 ·obtain⟨x,r,rfl⟩:∃x r,kids=x::r:=by
   cases kids with
   | nil=>simp at s
   | cons x r=>exact⟨x,r,rfl⟩
  have l:=(Ql _).1 h.1;have i:k=2\/k=3:=m;obtain⟨t,hd⟩:=l.1 i;have o:r≠[]:=by rintro rfl;exact t rfl
  rw[Mc e x r AQ AQ];refine(g x AU (b x AU) a).append ?_;have:=N6 i r x (Zw (b x AU)) (λy d=>⟨Zw (b y (CN _ d)),hd y (CN _ d),Vs (b y (CN _ d)),g y (CN _ d) (b y (CN _ d))⟩) a
  rw[if_neg o] at this;have q:opn k x=[x]:=by unfold opn;rw[if_neg (hd x AU)]
  have j:e=⟨0,[]⟩:=((O8 _).1 h.2.1).1 i;rw[q] at this;rw[j];exact this
 ·rw[Oz]
  refine(g x AU (b x AU) a).append ?_;rw[j];exact⟨AY,AY,by show(1:Int)<=((x::a).length:Int);rw[CH];omega,rfl⟩
theorem sq {n:B8}(h:Ht n):Xz (Dl n) [MH] [n]:=by
 unfold Dl Cj;by_cases g:Am n=true
 ·rw[if_pos g,Yw g]
  exact rfl
 ·have d:=h.resolve_left g
  rw[if_neg g];have one:∀x:B8,fine x->Xz (Bq 2 x) [MH] [x]:=by
   intro x m;by_cases a:x.kind=1
   ·rw[Na 2 x a]
    refine⟨by show(1:Int)<=2;decide,by show(2:Int)<7;decide,by show(1:Int)<=1;decide,?_⟩;show Wv 2 MH (Oq x.one)::[]=[x]
    rw[<-Vs m a];rfl
   ·rw[Jq 2 x a]
    refine(PK x m [MH]).append ?_;exact⟨by show(1:Int)<=4;decide,by show(4:Int)<7;decide,by show(2:Int)<=2;decide,rfl⟩
  by_cases j:n.kind=2
  ·rw[if_pos j]
   obtain⟨k,e,kids⟩:=n;obtain rfl:k=2:=j;rcases F5 d.2.2 with⟨a,_⟩ | ⟨_,s,_⟩ | ⟨a,_⟩
   ·omega
   ·obtain⟨x,r,rfl⟩:∃x r,kids=x::r:=by
     cases kids with
     | nil=>simp at s
     | cons x r=>exact⟨x,r,rfl⟩
    have b:=ZA d;have l:=((Ql _).1 d.1).1 (.inl rfl);have o:r≠[]:=by rintro rfl;exact l.1 rfl
    show Xz (((x::r).map (Bq 2)).flatten) _ _
    rw[CQ,D3];refine(one x (b x AU)).append ?_;have:=N6 (.inl rfl) r x (Zw (b x AU)) (λy i=>⟨Zw (b y (CN _ i)),l.2 y (CN _ i),Vs (b y (CN _ i)),PK y (b y (CN _ i))⟩) []
    rw[if_neg o] at this;have q:opn 2 x=[x]:=by unfold opn;rw[if_neg (l.2 x AU)]
    have t:e=⟨0,[]⟩:=((O8 _).1 d.2.1).1 (.inl rfl);rw[q] at this;rw[t];exact this
   ·omega
  ·rw[if_neg j]
   show Xz ([Bq 2 n].flatten) _ _
   rw[D3,ND,GI];exact one n d
theorem v9 {a:B9}(h:Qu a):Ht a.net:=by
 obtain⟨n,c,k⟩:=a;exact((Uh n c k).1 h).1
def Jd (n:Nat):Nat->List B9->List Gf
 | _,[]=>[]
 | i,k::t=>I7 n i k++Jd n (i+1) t
theorem V5 (n:Nat):∀(b:List B9) (i:Nat),(b.mapIdx (λj a=>I7 n (i+j) a)).flatten=Jd n i b
 | [],_=>rfl
 | k::t,i=>by
  rw[List.mapIdx_cons,D3,Jd,<-V5 n t (i+1)];congr 3;funext j a;rw[Nat.add_assoc,Nat.add_comm 1 j]
def Tm (n:B8)(cs:List Elem)(kids:List B9):C9 ⟨n,cs,kids⟩=Ig cs++Jd kids.length 0 kids:=by
 rw[Xc,<-V5];congr 3;funext j a;rw[CV]
def step (s:Int × Int)(c:Int):Int × Int:=(if c=1 then s.1+1 else if c=4\/c=5\/c=11 then s.1 - 1 else s.1,if c=7 then s.2+1 else if c=9 then s.2 - 1 else s.2)
def Um:Int × Int->List Gf->List (Int × Int)
 | _,[]=>[]
 | s,i::r=>step s i.code::Um (step s i.code) r
def Xj:Int × Int->List (Int × Int)->Int × Int
 | p,[]=>p
 | p,s::r=>Xj (if p.1<s.1 then s.1 else p.1,if p.2<s.2 then s.2 else p.2) r
def RN (p s:Int × Int):Int × Int:=(if p.1<s.1 then s.1 else p.1,if p.2<s.2 then s.2 else p.2)
def JM:Int × Int->List Gf->Int × Int
 | s,[]=>s
 | s,i::r=>JM (step s i.code) r
theorem US:∀(l m:List Gf) (s:Int × Int),JM s (l++m)=JM (JM s l) m
 | [],_,_=>rfl
 | i::r,m,s=>US r m (step s i.code)
theorem UC:∀(l m:List Gf) (s:Int × Int),Um s (l++m)=Um s l++Um (JM s l) m
 | [],_,_=>rfl
 | i::r,m,s=>by rw[C4,Um,UC r m,Um,JM,C4]
theorem VI:∀(t u:List (Int × Int)) (p:Int × Int),Xj p (t++u)=Xj (Xj p t) u
 | [],_,_=>rfl
 | s::r,u,p=>by rw[C4,Xj,VI r u,Xj]
def hts (b f:Nat):Int × Int:=((b:Int),(f:Int))
def iP (p q b f:Nat):RN (hts p q) (hts b f)=hts (max p b) (max q f):=by
 unfold RN hts;refine Prod.ext ?_ ?_
 ·show(if(p:Int)<b then(b:Int) else p)=((max p b:Nat):Int)
  split<;>omega
 ·show(if(q:Int)<f then(f:Int) else q)=((max q f:Nat):Int)
  split<;>omega
structure G8 (l:List Gf)(b f b' f' B F:Nat):Prop where
 lo1:b<=B
 lo2:f<=F
 hi1:b'<=B
 hi2:f'<=F
 fin:JM (hts b f) l=hts b' f'
 top:∀p q:Nat,b<=p->f<=q->Xj (hts p q) (Um (hts b f) l)=hts (max p B) (max q F)
def G8.nil (b f:Nat):G8 [] b f b f b f:=⟨CG _,CG _,CG _,CG _,rfl,λp q a d=>by rw[Nat.max_eq_left a,Nat.max_eq_left d];rfl⟩
def G8.one {i:Gf}{b:Nat}(h:step (hts b f) i.code=hts b' f'):G8 [i] b f b' f' (max b b') (max f f'):=by
 refine⟨AQ,AQ,AQ,AQ,h,λp q a d=>?_⟩;show RN (hts p q) (step (hts b f) i.code)=_
 rw[h,iP];congr 1<;>omega
def G8.append {l m:List Gf}{b d a:Nat}(h:G8 l b f b' f' B F)(k:G8 m b' f' d a B2 F2):G8 (l++m) b f d a (max B B2) (max F F2):=by
 have t:=h.lo1;have j:=h.lo2;have i:=k.hi1;have s:=k.hi2;refine⟨AQ,AQ,AQ,AQ,by rw[US,h.fin,k.fin],λp q e g=>?_⟩;have o:=h.hi1;have r:=h.hi2;rw[UC,VI,h.top p q e g,h.fin,k.top _ _ AQ AQ];congr 1<;>omega
theorem G8.cast {l:List Gf}{b:Nat}(h:G8 l b f b' f' B F)(h1:B=B2)(a:F=F2):G8 l b f b' f' B2 F2:=by subst h1 a;exact h
def Qk (b x:Nat)(l:List Nat):Cc b (x::l)=max x (Cc b l):=by
 show Cc (max b x) l=_
 rw[Nat.max_comm,Qj]
def ft {n:B8}(h:n.kind=1):Di n=1:=by unfold Di Kp;rw[if_pos h]
def Wa {n:B8}(h:n.kind≠1):Di n=1+Bc n:=by unfold Di Kp;rw[if_neg h]
theorem LR {b:Nat}(h:c=2\/c=3\/c=6\/c=8\/c=10):step (hts b f) c=hts b f:=by
 rcases h with rfl | rfl | rfl | rfl | rfl<;>rfl
theorem vF (d:k=2\/k=3){y:B8}(g:∀b f,G8 (Bv y) b f (b+1) f (b+Bc y) f)(b f:Nat):G8 (Bq k y) (b+1) f (b+1) f (b+Di y) f:=by
 by_cases a:y.kind=1
 ·rw[Na k y a,ft a]
  exact(G8.one (i:=⟨k,y.one⟩) (LR (by rcases d with h | h<;>simp[h]))).cast AQ AQ
 ·rw[Jq k y a,Wa a]
  have j:step (hts (b+1+1) f) (Iw (k+2)).code=hts (b+1) f:=by
   have e:step (hts (b+1+1) f) (Iw (k+2)).code=(((b+1+1:Nat):Int) - 1,(f:Int)):=by rcases d with rfl | rfl<;>rfl
   rw[e];unfold hts;refine Prod.ext ?_ rfl;show((b+1+1:Nat):Int) - 1=((b+1:Nat):Int)
   omega
  have l:=(g (b+1) f).append (G8.one j);have m:=(g (b+1) f).hi1;exact l.cast AQ AQ
theorem NZ (a:k=2\/k=3)(b f:Nat):∀(r:List B8),(∀y∈r,∀b f,G8 (Bv y) b f (b+1) f (b+Bc y) f)->G8 ((r.map (Bq k)).flatten) (b+1) f (b+1) f (b+Cc 1 (r.map Di)) f
 | [],_=>G8.nil _ _
 | y::r,h=>by
  rw[CQ,D3,CQ,Qk];exact((vF a (h y AU) b f).append (NZ a b f r (λz d=>h z (CN _ d)))).cast AQ AQ
theorem XH (n:B8):Vq n->Aj n=0->∀b f,G8 (Bv n) b f (b+1) f (b+Bc n) f:=by
 refine Fp (λn=>Vq n->Aj n=0->∀b f,G8 (Bv n) b f (b+1) f (b+Bc n) f) ?_ n;intro k e kids d h o b f;have g:=((Zu _ _ _).1 h).2;have t:step (hts b f) (1:Int)=hts (b+1) f:=by
  have w:step (hts b f) (1:Int)=((b:Int)+1,(f:Int)):=rfl;rw[w];refine Prod.ext ?_ rfl;show(b:Int)+1=((b+1:Nat):Int)
  omega
 rcases F5 o with⟨rfl,rfl⟩ | ⟨m,s,l⟩ | ⟨rfl,_,x,rfl,u⟩
 ·rw[Oy,Y8]
  exact(G8.one (i:=⟨1,e⟩) t).cast AQ AQ
 ·obtain⟨x,r,rfl⟩:∃x r,kids=x::r:=by
   cases kids with
   | nil=>simp at s
   | cons x r=>exact⟨x,r,rfl⟩
  rw[Mc e x r AQ AQ,Qq e x r AQ];have a:=d x AU (g x AU) (l x AU) b f;have q:=NZ m b f r (λy j=>d y (CN _ j) (g y (CN _ j)) (l y (CN _ j)));have v:=a.hi1;have z:Cc (Bc x) (r.map Di)=max (Bc x) (Cc 1 (r.map Di)):=by
   rw[<-Qj,Nat.max_eq_left AQ]
  exact(a.append q).cast AQ AQ
 ·rw[Oz,Qq e x [] AY]
  have a:=d x AU (g x AU) u b f;have v:=a.hi1;refine(a.append (G8.one (i:=Iw 6) (LR (by simp[Iw])))).cast ?_ AQ;show max (b+Bc x) (max (b+1) (b+1))=b+Bc x
  omega
theorem Xr (f:Nat):∀(a:List Elem),G8 (Ig a) 1 f 1 f 1 f
 | []=>G8.nil _ _
 | c::a=>((G8.one (i:=⟨10,c⟩) (LR (b:=1) (f:=f) AU)).append (Xr f a)).cast AQ AQ
theorem Vf {n:B8}(h:Ht n):∀x∈Cj n,Aj x=0:=by
 intro x a;unfold Cj at a;split at a
 ·cases a
 ·rename_i d
  have b:=h.resolve_left d;split at a
  ·exact Oe b.2.2 x a
  ·rw[List.mem_singleton.1 a];exact b.2.2
def ri {n:B8}(h:Ht n)(f:Nat):G8 (Dl n) 1 f 1 f (Cc 1 ((Cj n).map Di)) f:=by
 unfold Dl;have:=NZ (.inl rfl) 0 f (Cj n) (λy a=>XH y (WJ h y a) (Vf h y a))
 exact this.cast AQ rfl
def OE {k:B9}(h:Ht k.net)(a:G8 (C9 k) 1 f 1 f (Df k) (f+forks k)):G8 (Dl k.net++C9 k) 1 f 1 f (Gz k.net (Df k)) (f+forks k):=by
 have b:=a.lo1;refine((ri h f).append a).cast ?_ AQ;unfold Gz;have e:Cc (Df k) ((Cj k.net).map Di)=max (Df k) (Cc 1 ((Cj k.net).map Di)):=by
  rw[<-Qj,Nat.max_eq_left b]
 omega
def Qn:List B9->Nat
 | []=>0
 | [k]=>forks k
 | k::t=>max (forks k+1) (Qn t)
theorem OL:∀(a:List B9),Cc 0 (bump (a.map forks))=Qn a
 | []=>rfl
 | [k]=>by
  show max 0 (Y7 1 0 (forks k))=forks k
  unfold Y7;rw[if_neg AQ];omega
 | k::y::t=>by
  have d:=OL (y::t);have e:bump ((k::y::t).map forks)=(forks k+1)::bump ((y::t).map forks):=by
   unfold bump;rw[CQ,List.mapIdx_cons];have g:Y7 (forks k::(y::t).map forks).length 0 (forks k)=forks k+1:=by unfold Y7;rw[if_pos AU]
   have b:(λi x=>Y7 (forks k::(y::t).map forks).length (i+1) x)=λi x=>Y7 ((y::t).map forks).length i x:=by
    funext i x;unfold Y7;simp only[CH,CW];by_cases hi:i+1<t.length+1
    ·rw[if_pos AQ,if_pos AQ]
    ·rw[if_neg AQ,if_neg AQ]
   rw[g,b]
  rw[e,Qk,d];rfl
theorem V2 (o:n≠1)(f:Nat):∀(b:List B9) (i:Nat),i+b.length=n->b≠[]->(∀k∈b,Ht k.net/\∀f,G8 (C9 k) 1 f 1 f (Df k) (f+forks k))->
  G8 (Jd n i b) 1 (if i=0 then f else f+1) 1 f (Cc 1 (b.map (λk=>Gz k.net (Df k)))) (max (f+1) (f+Qn b))
 | [],_,_,h,_=>absurd rfl h
 | k::t,i,hi,_,q=>by
  rw[CH] at hi;obtain⟨g,r⟩:=q k AU;rw[Jd];unfold I7 IQ Ew;rw[if_neg o,CQ,Qk];by_cases l:t=[]
  ·subst l
   simp only[CP] at hi;rw[if_neg AQ,if_pos AQ,if_neg AQ,Jd,GI];have d:step (hts 1 (f+1)) (Iw 9).code=hts 1 f:=by
    have e:step (hts 1 (f+1)) (Iw 9).code=((1:Int),((f+1:Nat):Int) - 1):=rfl;rw[e];refine Prod.ext rfl ?_;show((f+1:Nat):Int) - 1=(f:Int)
    omega
   have a:=OE g (r f);have s:=a.lo1;refine((G8.one d).append a).cast ?_ ?_
   ·show max (max 1 1) _=max _ (Cc 1 [])
    show max (max 1 1) _=max _ 1
    omega
   ·show max (max (f+1) f) (f+forks k)=max (f+1) (f+Qn [k])
    show max (max (f+1) f) (f+forks k)=max (f+1) (f+forks k)
    omega
  ·have v:0<t.length:=List.length_pos_iff.2 l
   have m:=V2 o f t (i+1) AQ l (λk g=>q k (CN _ g));rw[if_neg AQ] at m;have a:=OE g (r (f+1));have s:=a.lo1;have u:Qn (k::t)=max (forks k+1) (Qn t):=by
    cases t with
    | nil=>exact absurd rfl l
    | cons y t=>rfl
   rw[u];by_cases j:i=0
   ·rw[if_pos j,if_pos j]
    have d:step (hts 1 f) (Iw 7).code=hts 1 (f+1):=by
     have e:step (hts 1 f) (Iw 7).code=((1:Int),((f:Nat):Int)+1):=rfl;rw[e];refine Prod.ext rfl ?_;show((f:Nat):Int)+1=((f+1:Nat):Int)
     omega
    refine(((G8.one d).append a).append m).cast ?_ ?_
    ·omega
    ·omega
   ·rw[if_neg j,if_neg AQ,if_neg j]
    have d:step (hts 1 (f+1)) (Iw 8).code=hts 1 (f+1):=LR (by simp[Iw]);refine(((G8.one d).append a).append m).cast ?_ ?_
    ·omega
    ·omega
theorem tj (a:B9):E5 a->∀f,G8 (C9 a) 1 f 1 f (Df a) (f+forks a):=by
 refine Fq (λa=>E5 a->∀f,G8 (C9 a) 1 f 1 f (Df a) (f+forks a)) ?_ a;intro n d kids l h f;have g:=((Eg _ _ _).1 h).2;have b:∀k∈kids,Ht k.net/\∀f,G8 (C9 k) 1 f 1 f (Df k) (f+forks k):=by
  intro k e;refine⟨?_,l k e (g k e)⟩;have:=g k e
  obtain⟨q,s,r⟩:=k;exact((Eg _ _ _).1 this).1
 rw[Tm,Xd,Zv,OL]
 match kids,b with
 | [],_=>exact((Xr f d).append (G8.nil 1 f)).cast (by show max 1 1=1;omega) (by show max f f=f+0;omega)
 | [k],b=>
  have i:=OE (b k AU).1 ((b k AU).2 f);have m:Jd [k].length 0 [k]=Dl k.net++C9 k:=by
   show(([]:List Gf)++(Dl k.net++C9 k))++[]=_
   rw[C5,GI]
  have j:=i.lo1;rw[m];refine((Xr f d).append i).cast ?_ ?_
  ·show max 1 _=max 1 _
   rfl
  ·show max f (f+forks k)=f+forks k
   omega
 | k::y::t,b=>
  have hF:=V2 (n:=(k::y::t).length) AU f (k::y::t) 0 AU AU b;rw[if_pos rfl] at hF;have j:=hF.lo1;have o:Qn (k::y::t)=max (forks k+1) (Qn (y::t)):=rfl;refine((Xr f d).append hF).cast ?_ ?_
  ·omega
  ·rw[o]
   omega
theorem U7:∀{l m:List Gf} {s t:Pt},run s l=some t->run s (l++m)=run t m
 | [],_,_,_,h=>by injection h with h;subst h;rfl
 | i::r,m,s,t,h=>by
  rw[run] at h;rw[C4,run];split at h
  ·cases h
  ·rename_i a
   rw[if_neg a];exact U7 h
def I3 {i:Gf}{s:Pt}(h:wrong s i=0):run s [i]=some (next s i.code):=by
 rw[run,if_neg AQ];rfl
def LP {s:Pt}{i:Gf}(d:Qc i=true)(e:i.code<7)(h1:needs i.code<=s.bits)(b:i.code=1->s.bits≠16)(a:s.seen=true->s.bits=low i.code->¬(i.code=3\/i.code=6\/i.code=5)):wrong s i=0:=by
 unfold wrong;rw[if_neg (by rw[d];decide),if_neg AQ,if_neg (by intro h;exact b h.1 h.2),if_neg AQ,if_neg (by intro h;exact a h.1 h.2.1 h.2.2),if_neg AQ,if_neg AQ,if_neg AQ,if_neg AQ]
def kz (s:Pt):next s 1=⟨s.bits+1,s.forks,s.seen,false⟩:=by
 unfold next
 simp
theorem YU (h:c=2\/c=3\/c=6)(s:Pt):next s c=⟨s.bits,s.forks,s.seen,false⟩:=by
 unfold next
 rcases h with rfl | rfl | rfl<;>simp
theorem Ay4 (h:c=4\/c=5)(s:Pt):next s c=⟨s.bits - 1,s.forks,s.seen,false⟩:=by
 unfold next
 rcases h with rfl | rfl<;>simp
def XD (h:c=1\/c=2\/c=3){e:Elem}(he:Dw e.op e.args=true):Qc ⟨c,e⟩=true:=by
 unfold Qc;simp only;rw[if_neg AQ,if_pos AQ];exact he
def QW (h:4<=c)(b:c<=11)(a:c≠10):Qc (Iw c)=true:=by
 unfold Qc Iw;simp only;rw[if_neg AQ,if_neg AQ,if_neg a];rfl
theorem XY {e:Elem}{kids:List B8}(h:Aj ⟨1,e,kids⟩=0):Dw e.op e.args=true:=by
 rw[Ox,if_pos rfl] at h;split at h
 ·omega
 ·split at h
  ·rename_i a;exact a
  ·omega
theorem Azb (g:k=2\/k=3){y:B8}(r:Aj y=0)
  (w:∀s:Pt,0<=s.bits->s.bits+Bc y<=16->(s.seen=true->1<=s.bits)->run s (Bv y)=some ⟨s.bits+1,s.forks,s.seen,false⟩)
  (s:Pt) (h1:1<=s.bits) (o:s.bits+Di y<=17) (j:s.seen=true->2<=s.bits\/k=2):run s (Bq k y)=some ⟨s.bits,s.forks,s.seen,false⟩:=by
 by_cases a:y.kind=1
 ·rw[Na k y a]
  have v:Dw y.one.op y.one.args=true:=by
   obtain⟨u,e,kids⟩:=y;obtain rfl:u=1:=a;exact XY r
  have m:needs k=1:=by rcases g with rfl | rfl<;>rfl
  have l:low k=1:=by rcases g with rfl | rfl<;>rfl
  rw[I3 (LP (XD AQ v) (by show k<7;omega) (by show needs k<=_;omega) (by intro h;exfalso;have d:k=1:=h;omega) ?_)]
  ·show some (next s k)=_
   rw[YU AQ]
  ·intro i b h
   have t:s.bits=low k:=b;have d:k=3\/k=6\/k=5:=h;have:=j i
   omega
 ·rw[Jq k y a]
  rw[Wa a] at o;have q:=w s AQ AQ (λ_=>h1);rw[U7 q];have m:needs (k+2)=2:=by rcases g with rfl | rfl<;>rfl
  have l:k=3->low (k+2)=2:=by rintro rfl;rfl
  rw[I3 (LP (QW AQ AQ AQ) (by show k+2<7;omega) (by show needs (k+2)<=s.bits+1;omega) (by intro h;exfalso;have d:k+2=1:=h;omega) ?_)]
  ·show some (next _ (k+2))=_
   rw[Ay4 AQ];simp
  ·intro i b h
   have t:s.bits+1=low (k+2):=b;have d:k+2=3\/k+2=6\/k+2=5:=h;have z:=j i;have x:=l AQ;omega
theorem PD (d:k=2\/k=3):∀(r:List B8),(∀y∈r,Aj y=0/\∀s:Pt,0<=s.bits->s.bits+Bc y<=16->(s.seen=true->1<=s.bits)->run s (Bv y)=some ⟨s.bits+1,s.forks,s.seen,false⟩)->
  ∀s:Pt,1<=s.bits->s.bits+Cc 1 (r.map Di)<=17->(s.seen=true->2<=s.bits\/k=2)->∃c,run s ((r.map (Bq k)).flatten)=some ⟨s.bits,s.forks,s.seen,c⟩/\(r≠[]->c=false)
 | [],_,s,_,_,_=>⟨s.coil,rfl,λh=>absurd rfl h⟩
 | y::r,h,s,g,i,a=>by
  rw[CQ,Qk] at i;rw[CQ,D3];rw[U7 (Azb d (h y AU).1 (h y AU).2 s g AQ a)];obtain⟨c,e,j⟩:=PD d r (λz l=>h z (CN _ l)) ⟨s.bits,s.forks,s.seen,false⟩ g (by show s.bits+_<=17;omega) a;by_cases b:r=[]
  ·subst b
   exact⟨false,rfl,λ_=>rfl⟩
  ·exact⟨c,e,λ_=>j b⟩
theorem d6 (n:B8):Aj n=0->∀s:Pt,0<=s.bits->s.bits+Bc n<=16->(s.seen=true->1<=s.bits)->run s (Bv n)=some ⟨s.bits+1,s.forks,s.seen,false⟩:=by
 refine Fp (λn=>Aj n=0->∀s:Pt,0<=s.bits->s.bits+Bc n<=16->(s.seen=true->1<=s.bits)->run s (Bv n)=some ⟨s.bits+1,s.forks,s.seen,false⟩) ?_ n;intro k e kids g l s m b d;have z:=l;rcases F5 l with⟨rfl,rfl⟩ | ⟨o,A,a⟩ | ⟨rfl,_,x,rfl,w⟩
 ·rw[Oy]
  rw[Y8] at b;rw[I3 (LP (XD (.inl rfl) (XY z)) (by show(1:Int)<7;decide) (by show(0:Int)<=_;omega) (by intro _;omega) (by intro _ _ h;have q:(1:Int)=3\/(1:Int)=6\/(1:Int)=5:=h;omega))];exact congrArg some (kz s)
 ·obtain⟨x,r,rfl⟩:∃x r,kids=x::r:=by
   cases kids with
   | nil=>simp at A
   | cons x r=>exact⟨x,r,rfl⟩
  rw[Qq e x r AQ] at b;have G:=(XH x (full_of x (a x AU)) (a x AU) 0 0).hi1;have E:Cc (Bc x) (r.map Di)=max (Bc x) (Cc 1 (r.map Di)):=by
   rw[<-Qj,Nat.max_eq_left AQ]
  rw[Mc e x r AQ AQ,U7 (g x AU (a x AU) s m AQ d)];obtain⟨c,C,v⟩:=PD o r (λy i=>⟨a y (CN _ i),g y (CN _ i) (a y (CN _ i))⟩) ⟨s.bits+1,s.forks,s.seen,false⟩ (by show 1<=s.bits+1;omega) (by show s.bits+1+_<=17;omega) (λh=>.inl (by have:=d h;show 2<=s.bits+1;omega));by_cases j:r=[]
  ·subst j;rfl
  ·rw[C,v j]
 ·rw[Qq e x [] AY] at b
  rw[Oz,U7 (g x AU w s m b d)];rw[I3 (LP (QW AY AY AY) (by show(6:Int)<7;decide) (by show(1:Int)<=s.bits+1;omega) (by intro h;have q:(6:Int)=1:=h;omega) ?_)]
  ·exact congrArg some (YU (by simp[Iw]) _)
  ·intro t u _
   have D:s.bits+1=1:=u;have:=d t
   omega
def ru (c:Elem)(cs:List Elem):Dy (c::cs)=(!Gj c.op c.args || Dy cs):=rfl
theorem ZB:∀(a:List Elem) (s:Pt),s.bits=1->Dy a=false->run s (Ig a)=some (if a=[] then s else⟨1,s.forks,true,true⟩)
 | [],s,_,_=>rfl
 | c::a,s,b,h=>by
  rw[ru,Bool.or_eq_false_iff] at h;have e:Gj c.op c.args=true:=by simpa using h.1
  have d:wrong s ⟨10,c⟩=0:=by
   unfold wrong;have g:Qc ⟨10,c⟩=true:=e;have j:needs (10:Int)=1:=rfl;simp only;rw[if_neg (by rw[g];decide),if_neg AQ,if_neg AQ,if_neg AQ,if_neg yFh,if_neg AQ,if_neg AQ,if_neg AQ,if_neg yFh]
  have i:next s 10=⟨1,s.forks,true,true⟩:=by
   unfold next
   simp[b]
  rw[if_neg AU];show run s ([⟨10,c⟩]++Ig a)=_
  rw[U7 (I3 d)];show run (next s 10) (Ig a)=_
  rw[i,ZB a _ rfl h.2];split<;>rfl
def vv {n:B8}(h:Ht n)(s:Pt)(h1:s.bits=1)(b:Cc 1 ((Cj n).map Di)<=16):∃c,run s (Dl n)=some ⟨1,s.forks,s.seen,c⟩:=by
 unfold Dl;obtain⟨c,e,_⟩:=PD (.inl rfl) (Cj n) (λy a=>⟨Vf h y a,d6 y (Vf h y a)⟩) s AQ AQ (λ_=>.inr rfl);rw[h1] at e;exact⟨c,e⟩
def KU (a:B9):Prop:=∀s:Pt,s.bits=1->0<=s.forks->Df a<=16->s.forks+forks a<=8->run s (C9 a)=some ⟨1,s.forks,true,true⟩
theorem P1 {k:B9}(h:Ht k.net)(a:KU k)(s:Pt)(h1:s.bits=1)(i:0<=s.forks)(l:Gz k.net (Df k)<=16)(b:s.forks+forks k<=8)(d:G8 (C9 k) 1 0 1 0 (Df k) (0+forks k)):
  run s (Dl k.net++C9 k)=some ⟨1,s.forks,true,true⟩:=by
 have g:=d.lo1;have e:Gz k.net (Df k)=max (Df k) (Cc 1 ((Cj k.net).map Di)):=by
  unfold Gz;rw[<-Qj,Nat.max_eq_left g]
 obtain⟨c,j⟩:=vv h s h1 AQ;rw[U7 j];exact a ⟨1,s.forks,s.seen,c⟩ rfl i AQ b
theorem OJ {s:Pt}(d:c=7\/c=8\/c=9)(h1:s.bits=1)(b:c=7->s.forks≠8)(a:c≠7->s.forks≠0/\s.coil=true):wrong s (Iw c)=0:=by
 unfold wrong;have e:Qc (Iw c)=true:=QW AQ AQ AQ;have i:needs c=1:=by rcases d with rfl | rfl | rfl<;>rfl
 have g:(Iw c).code=c:=rfl;rw[g];rw[if_neg (by rw[e];decide),if_neg AQ,if_neg AQ,if_neg AQ,if_neg yFh,if_neg (by intro h;exact b h.1 h.2),if_neg (by intro h;exact(a AQ).1 h.2),if_neg AQ,if_neg (by intro h;rw[(a AQ).2] at h;exact absurd h.2 AY)]
theorem Ys (q:n≠1)(f:Int)(u:0<=f):∀(d:List B9) (i:Nat),i+d.length=n->d≠[]->(∀k∈d,Ht k.net/\KU k/\G8 (C9 k) 1 0 1 0 (Df k) (0+forks k))->
  ∀s:Pt,s.bits=1->s.forks=(if i=0 then f else f+1)->(i≠0->s.coil=true)->Cc 1 (d.map (λk=>Gz k.net (Df k)))<=16->f+1<=8->f+Qn d<=8->run s (Jd n i d)=some ⟨1,f,true,true⟩
 | [],_,_,h,_,_,_,_,_,_,_,_=>absurd rfl h
 | k::t,i,hi,_,r,s,a,b,w,A,D,hF=>by
  rw[CH] at hi;obtain⟨j,v,o⟩:=r k AU;rw[CQ,Qk] at A;rw[Jd];unfold I7 IQ Ew;rw[if_neg q];by_cases l:t=[]
  ·subst l
   simp only[CP] at hi;rw[if_neg AQ,if_pos AQ,Jd,GI];rw[if_neg AQ] at b;rw[U7 (I3 (OJ (.inr (.inr rfl)) a yFh (λ_=>⟨AQ,w AQ⟩)))];have m:next s (Iw 9).code=⟨1,f,s.seen,false⟩:=by
    show next s 9=_
    unfold next
    simp[a,b]
   have E:f+(forks k:Int)<=8:=hF;rw[m,P1 j v ⟨1,f,s.seen,false⟩ rfl u AQ E o]
  ·have H:0<t.length:=List.length_pos_iff.2 l
   have G:Qn (k::t)=max (forks k+1) (Qn t):=by
    cases t with
    | nil=>exact absurd rfl l
    | cons y t=>rfl
   rw[G] at hF;have rest:∀c:Int,∀e:Pt,wrong s (Iw c)=0->next s (Iw c).code=e->e.bits=1->e.forks=f+1->run s ([Iw c]++(Dl k.net++C9 k)++Jd n (i+1) t)=some ⟨1,f,true,true⟩:=by
    intro c e C m z x;rw[EI,U7 (I3 C),m,U7 (P1 j v e z AQ AQ AQ o),x];exact Ys q f u t (i+1) AQ l (λk j=>r k (CN _ j)) ⟨1,f+1,true,true⟩ rfl (by rw[if_neg AQ]) (λ_=>rfl) AQ D AQ
   by_cases g:i=0
   ·rw[if_pos g]
    rw[if_pos g] at b;refine rest 7 ⟨1,f+1,true,false⟩ (OJ (.inl rfl) a (λ_=>by omega) (λh=>absurd rfl h)) ?_ rfl rfl;show next s 7=_
    unfold next
    simp[a,b]
   ·rw[if_neg g,if_neg AQ]
    rw[if_neg g] at b;refine rest 8 ⟨1,f+1,s.seen,false⟩ (OJ (.inr (.inl rfl)) a yFh (λ_=>⟨AQ,w g⟩)) ?_ rfl rfl;show next s 8=_
    unfold next
    simp[a,b]
theorem Ayw {n:B8}{cs:List Elem}{kids:List B9}(h:Dc ⟨n,cs,kids⟩=0):Dy cs=false/\(kids=[]->cs≠[]):=by
 unfold Dc at h;simp only at h;split at h
 ·rename_i b;omega
 ·split at h
  ·omega
  ·rename_i a
   refine⟨by simpa using a,?_⟩;rintro rfl rfl;simp at h
theorem Axw (a:B9):E5 a->Cm a=0->KU a:=by
 refine Fq (λa=>E5 a->Cm a=0->KU a) ?_ a;intro n g kids x h w s o E d hF;obtain⟨z,C⟩:=N7.1 w;obtain⟨u,j⟩:=Ayw z;have A:=((Eg _ _ _).1 h).2;have e:∀k∈kids,Ht k.net/\KU k/\G8 (C9 k) 1 0 1 0 (Df k) (0+forks k):=by
  intro k m;have i:=A k m;refine⟨?_,x k m i (C k m),tj k i 0⟩;obtain⟨O,R,P⟩:=k;exact((Eg _ _ _).1 i).1
 rw[Xd] at d;rw[Zv,OL] at hF;rw[Tm,U7 (ZB g s o u)];have I:∃b:Pt,(if g=[] then s else⟨1,s.forks,true,true⟩)=b/\b.bits=1/\b.forks=s.forks/\(g≠[]->b=⟨1,s.forks,true,true⟩):=by
  by_cases l:g=[]
  ·exact⟨s,if_pos l,o,rfl,λh=>absurd l h⟩
  ·exact⟨⟨1,s.forks,true,true⟩,if_neg l,rfl,rfl,λ_=>rfl⟩
 obtain⟨b,M,q,r,G⟩:=I;rw[M]
 match kids,e,j,d,hF with
 | [],_,j,_,_=>
  show some b=_
  rw[G (j rfl)]
 | [k],e,_,d,hF=>
  have J:Jd [k].length 0 [k]=Dl k.net++C9 k:=by
   show(([]:List Gf)++(Dl k.net++C9 k))++[]=_
   rw[C5,GI]
  obtain⟨H,v,D⟩:=e k AU;have N:max 1 (Gz k.net (Df k))<=16:=d;have Q:s.forks+(forks k:Int)<=8:=hF;rw[J,P1 H v b q AQ AQ AQ D,r]
 | k::y::t,e,_,d,hF=>
  have L:Qn (k::y::t)=max (forks k+1) (Qn (y::t)):=rfl;have K:s.forks+1<=8:=by rw[L] at hF;omega
  exact Ys (n:=(k::y::t).length) AU s.forks E (k::y::t) 0 AU AU e b q (by rw[if_pos rfl];exact r) (λh=>absurd rfl h) d K hF
def Ayd {a:B9}(h:E5 a)(b:fine a.net)(e:Cm a=0)(d:Jc a<=16)(j:forks a<=8):run pt0 (Ea a)=some pt0:=by
 unfold Jc at d;have i:=d6 a.net b.2.2 pt0 AY (by show(0:Int)+Bc a.net<=16;omega) (λh=>absurd h AY);unfold Ea;rw[U7 i];have g:=Axw a h e ⟨pt0.bits+1,pt0.forks,pt0.seen,false⟩ rfl AY AQ (by show(0:Int)+forks a<=8;omega);rw[U7 g];rfl
theorem WW:∀(l:List B9),(∀a∈l,E5 a/\fine a.net/\Cm a=0/\Jc a<=16/\forks a<=8)->run pt0 ((l.map Ea).flatten)=some pt0
 | [],_=>rfl
 | a::l,h=>by
  obtain⟨i,d,b,g,e⟩:=h a AU;rw[CQ,D3,U7 (Ayd i d b g e)];exact WW l (λx j=>h x (CN _ j))
def noEnd (l:List Gf):Prop:=∀i∈l,i.code≠11
def Ri {l m:List Gf}(h:noEnd l)(k:noEnd m):noEnd (l++m):=λi hi=>(List.mem_append.1 hi).elim (h i) (k i)
def OW {i:Gf}(h:i.code≠11):noEnd [i]:=λj a=>by rw[List.mem_singleton.1 a];exact h
theorem OX:noEnd []:=λj a=>by cases a
theorem Xz.noEnd:∀{l:List Gf} {a b:List B8},Xz l a b->Stil.noEnd l
 | [],_,_,_=>OX
 | i::r,_,_,h=>by
  intro j d;rcases List.mem_cons.1 d with rfl | d
  ·have:=h.2.1;omega
  ·exact Xz.noEnd h.2.2.2 j d
theorem Awb (cs:List Elem):noEnd (Ig cs):=by
 intro i hi;obtain⟨c,_,rfl⟩:=List.mem_map.1 hi;show(10:Int)≠11
 decide
def Avx (n i:Nat):noEnd (Ew n i):=by
 unfold Ew;split
 ·exact OX
 ·split
  ·exact OW (by show(7:Int)≠11;decide)
  ·split
   ·exact OW (by show(9:Int)≠11;decide)
   ·exact OW (by show(8:Int)≠11;decide)
theorem WT (n:Nat):∀(a:List B9) (i:Nat),(∀k∈a,Ht k.net/\noEnd (C9 k))->noEnd (Jd n i a)
 | [],_,_=>OX
 | k::t,i,h=>by
  rw[Jd];unfold I7 IQ;exact Ri (Ri (Avx n i) (Ri (sq (h k AU).1).noEnd (h k AU).2)) (WT n t (i+1) (λx b=>h x (CN _ b)))
theorem wH (a:B9):E5 a->noEnd (C9 a):=by
 refine Fq (λa=>E5 a->noEnd (C9 a)) ?_ a;intro n i kids g h;have d:=((Eg _ _ _).1 h).2;rw[Tm];refine Ri (Awb i) (WT _ kids 0 (λk b=>⟨?_,g k b (d k b)⟩));have e:=d k b;obtain⟨j,m,l⟩:=k;exact((Eg _ _ _).1 e).1
theorem TX:∀(b:List Gf) (a:List Gf) (e:Gf) (r:List Gf),noEnd b->e.code=11->Eh a (b++(e::r))=(a++(b++[e]))::Eh [] r
 | [],a,e,r,_,d=>by
  show Eh a (e::r)=_
  rw[Eh,if_pos d];rfl
 | x::b,a,e,r,h,d=>by
  rw[C4,Eh,if_neg (h x AU),TX b (a++[x]) e r (λi hi=>h i (CN _ hi)) d,EI];rfl
theorem YC:∀(l:List B9),(∀a∈l,E5 a/\fine a.net)->Eh [] ((l.map Ea).flatten)=l.map Ea
 | [],_=>rfl
 | a::l,h=>by
  obtain⟨g,d⟩:=h a AU;have b:noEnd (Bv a.net++C9 a):=Ri (PK a.net d []).noEnd (wH a g);have e:Ea a++(l.map Ea).flatten=(Bv a.net++C9 a)++(Iw 11::(l.map Ea).flatten):=by
   unfold Ea;simp
  rw[CQ,D3,e,TX _ [] (Iw 11) _ b rfl,YC l (λx b=>h x (CN _ b))];congr 1;unfold Ea;simp
theorem gC {y:B8}(h:(Bv y).length+1<=2*Ai y):(Bq k y).length<=2*Ai y:=by
 by_cases a:y.kind=1
 ·rw[Na k y a,EF,Ej];omega
 ·rw[Jq k y a,CO,EF];exact h
theorem PX:∀(r:List B8),(∀y∈r,(Bv y).length+1<=2*Ai y)->((r.map (Bq k)).flatten).length<=2*sizes r
 | [],_=>by simp
 | y::r,h=>by
  have d:=gC (k:=k) (h y AU);have b:((r.map (Bq k)).flatten).length<=2*sizes r:=PX r (λz a=>h z (CN _ a));rw[CQ,D3,CO,Zh];omega
theorem QT (n:B8):shp n->(Bv n).length+1<=2*Ai n:=by
 refine Fp (λn=>shp n->(Bv n).length+1<=2*Ai n) ?_ n;intro k e kids a g;rw[Ej];show _<=2*(1+sizes kids)
 rcases YH g with⟨rfl,rfl⟩ | ⟨m,j,b⟩ | ⟨rfl,_,x,rfl,i⟩
 ·rw[Oy,EF,Of];omega
 ·obtain⟨x,r,rfl⟩:∃x r,kids=x::r:=by
   cases kids with
   | nil=>simp at j
   | cons x r=>exact⟨x,r,rfl⟩
  have l:=a x AU (b x AU);have o:=PX (k:=k) r (λy d=>a y (CN _ d) (b y (CN _ d)));rw[Mc e x r AQ AQ,CO,Zh];omega
 ·have l:=a x AU i
  rw[Oz,CO,EF,Zh,Of];omega
def QY (n:B8)(h:Aj n=0):(Bv n).length+1<=2*Ai n:=QT n (RE n h)
theorem W6 {n:B8}(h:Ht n):(Dl n).length<=2*BK n:=by
 unfold Dl;have e:=PX (k:=2) (Cj n) (λy b=>QY y (Vf h y b));have d:sizes (Cj n)<=BK n:=by
  unfold Cj BK;by_cases a:Am n=true
  ·rw[if_pos a,if_pos a];exact CG _
  ·rw[if_neg a,if_neg a]
   split
   ·rw[Ej];omega
   ·rw[Zh,Of];omega
 omega
def i9 (n i:Nat):(Ew n i).length<=1:=by
 unfold Ew;split
 ·simp
 ·split
  ·simp
  ·split<;>simp
theorem UM (n:Nat):∀(a:List B9) (i:Nat),(∀k∈a,Ht k.net/\(C9 k).length+2+2*BK k.net<=2*Ak k)->(Jd n i a).length<=2*Iu a
 | [],_,_=>by simp[Jd]
 | k::t,i,h=>by
  obtain⟨b,l⟩:=h k AU;have m:=i9 n i;have j:=W6 b;have g:=UM n t (i+1) (λx d=>h x (CN _ d));have e:Iu (k::t)=Ak k+Iu t:=by simp[Iu]
  rw[Jd,e];unfold I7 IQ;rw[CO,CO,CO];omega
theorem ZJ (a:B9):E5 a->(C9 a).length+2+2*BK a.net<=2*Ak a:=by
 refine Fq (λa=>E5 a->(C9 a).length+2+2*BK a.net<=2*Ak a) ?_ a;intro n e kids l h;have d:=((Eg _ _ _).1 h).2;have p:=UM kids.length kids 0 (λk b=>⟨by have g:=d k b;obtain⟨i,m,j⟩:=k;exact((Eg i m j).1 g).1,l k b (d k b)⟩);rw[Tm,CO,Cf];have o:(Ig e).length=e.length:=by simp[Ig]
 show _+2+2*BK n<=_
 omega
def g6 {a:B9}(h:E5 a)(b:fine a.net):(Ea a).length<=2*Ak a:=by
 have e:=ZJ a h;have g:=QY a.net b.2.2;have d:BK a.net=Ai a.net:=by unfold BK;rw[if_neg (by rw[PR b];decide)]
 unfold Ea;rw[CO,CO,EF];omega
theorem YD:∀(l:List B9),(∀a∈l,E5 a/\fine a.net)->((l.map Ea).flatten).length<=2*Aw l
 | [],_=>by simp
 | a::l,h=>by
  have g:=g6 (h a AU).1 (h a AU).2;have d:=YD l (λx b=>h x (CN _ b));have e:Aw (a::l)=Ak a+Aw l:=by simp[Aw]
  rw[CQ,D3,CO,e];omega
def wI (l:List B9)(j:Nat)(h:j<l.length):Aw (l.take (j+1))=Aw (l.take j)+Aw [l[j]]:=by
 unfold Aw;rw[EB h,CU,GF]
def YG (l:List B9)(j:Nat):Aw (l.take j)<=Aw l:=by
 unfold Aw;have h:=(IA j l).symm;conv=>rhs;rw[h,CU,GF]
 omega
def gj (l:List B9)(j:Nat)(h:j<l.length):Aw [l[j]]<=Aw l:=by
 have:=wI l j h
 have:=YG l (j+1)
 omega
theorem Ta:∀(l:List B9) (k:Nat),(∀x∈l,D9 x=0)->Dx l k=(0,0)
 | [],_,_=>rfl
 | a::r,k,h=>by
  rw[Dx,h a AU,if_neg AQ];exact Ta r _ (λy hy=>h y BN)
theorem TP:∀(l:List B9) (k:Nat),(Dx l k).1≠0->∃j,∃h:j<l.length,Dx l k=(D9 l[j],k+j)/\0<D9 l[j]/\∀i (hi:i<j),D9 l[i]=0
 | [],_,h=>absurd rfl h
 | a::r,k,h=>by
  rw[Dx] at h ⊢;have m:=Px a;by_cases b:0<D9 a
  ·rw[if_pos b]
   exact⟨0,AU,AU,b,λi hi=>absurd hi AQ⟩
  ·rw[if_neg b] at h ⊢
   obtain⟨j,o,e,d,g⟩:=TP r (k+1) h;refine⟨j+1,by simp;omega,?_,by simpa using d,λi hi=>?_⟩
   ·rw[e];simp;omega
   ·cases i with
    | zero=>simp;omega
    | succ i=>simpa using g i AQ
def ZC {l:List B9}{j:Nat}(h:j<l.length)(a:Aw l<=400):Ah [l[j]]=if 0<D9 l[j] then(D9 l[j],0) else(0,0):=by
 have:=gj l j h
 unfold Ah;rw[if_neg Ax,Dx];split<;>rfl
theorem vm (l:List B9):(Ah l).1=0/\(∀i (h:i<l.length),Ah [l[i]]=(0,0)/\(Ah (l.take (i+1))).1=0)\/(Ah l).1=1\/(∃h:(Ah l).2<l.length,0<(Ah l).1/\(Ah l).1≠1/\Ah [l[(Ah l).2]]=((Ah l).1,0)/\∀i (_h:i<(Ah l).2) (a:i<l.length),Ah [l[i]]=(0,0)/\(Ah (l.take (i+1))).1=0):=by
 by_cases o:40<l.length\/400<Aw l
 ·refine .inr (.inl ?_)
  unfold Ah;rw[if_pos o]
 have z:l.length<=40:=AQ
 have s:Aw l<=400:=AQ
 have e:Ah l=Dx l 0:=by unfold Ah;rw[if_neg o]
 have q:∀n,(∀i (hi:i<n) (a:i<l.length),D9 l[i]=0)->∀i (h:i<n) (a:i<l.length),Ah [l[i]]=(0,0)/\(Ah (l.take (i+1))).1=0:=by
  intro n g i hi a;refine⟨by rw[ZC a s,g i hi a,if_neg AQ],?_⟩;have hts:=YG l (i+1);unfold Ah;rw[if_neg (by rw[FP];omega),Ta];intro x v;obtain⟨j,b,rfl⟩:=List.mem_iff_getElem.1 v;rw[FP] at b;rw[List.getElem_take];exact g j AQ AQ
 by_cases d:(Dx l 0).1=0
 ·refine .inl ⟨by rw[e];exact d,λi hi=>q l.length (λj _ a=>(Vr l 0 d).2 _ (CJ a)) i hi hi⟩
 ·obtain⟨j,b,r,t,u⟩:=TP l 0 d
  by_cases m:(Ah l).1=1
  ·exact .inr (.inl m)
  ·have y:(Ah l).1=D9 l[j]:=by rw[e,r]
   have A:(Ah l).2=j:=by rw[e,r];simp
   refine .inr (.inr ⟨AQ,AQ,m,?_,λi hi a=>q j (λi hi _=>u i hi) i AQ a⟩);have w:l[(Ah l).2]'AQ=l[j]:=by congr 1
   rw[w,ZC b s,if_pos t,y]
structure mo (a:B9):Prop where
 fineA:E5 a
 net:fine a.net
 norm:Qu a
 right:Cm a=0
 size:Ak a<=400
def Uc {l:List B9}(r:∀x∈l,Dh x)(h:(Ah l).1=0):(∀a∈Aq l,mo a)/\Aw (Aq l)<=400/\(Ah (Aq l)).1=0:=by
 obtain⟨o,s,_⟩:=rL r h;have d:(Ah (Aq l)).1=0:=by rw[o]
 have i:=Ny d;refine⟨λa b=>?_,i.2.2.1,d⟩;obtain⟨j,m⟩:=Vo l a b;obtain⟨t,q⟩:=Kz d b;have e:Aq l=l.map Bo:=by unfold Aq;rw[if_pos h]
 have g:Qu a:=by
  rw[e] at b;obtain⟨x,p,rfl⟩:=List.mem_map.1 b;exact UE x (Kz h p).1
 refine⟨j,(v9 g).resolve_left (by rw[m];decide),g,(i.2.2.2 a b).2,q⟩
def PE {l:List B9}(h:(Ah l).1≠0):Ho l=[]/\Jo l=0/\Ia l=0:=by
 have e:Aq l=[]:=by unfold Aq;rw[if_neg h]
 unfold Ho Jo Ia;rw[e];exact⟨rfl,rfl,rfl⟩
theorem Xi {l:List B9}(e:∀x∈l,Dh x):(Ho l).length<=800:=by
 by_cases h:(Ah l).1=0
 ·obtain⟨d,g,_⟩:=Uc e h
  have:=YD (Aq l) (λa b=>⟨(d a b).fineA,(d a b).net⟩)
  show((Aq l).map Ea).flatten.length<=800
  omega
 ·rw[(PE h).1];exact DZ _
theorem We:∀(l:List Nat) (b x:Nat),x∈l->x<=Cc b l
 | [],_,_,h=>by cases h
 | y::r,b,x,h=>by
  rw[Qk];rcases List.mem_cons.1 h with rfl | h
  ·exact K7 _ _
  ·exact CM (We r b x h) (M6 _ _)
theorem yt {l:List B9}(d:∀x∈l,Dh x)(i:Jo l<=16)(q:Ia l<=8):Et (Ho l)=(0,0):=by
 by_cases h:(Ah l).1=0
 ·obtain⟨e,m,_⟩:=Uc d h
  refine Axx (e5.2 ⟨by have:=Xi d;omega,pt0,WW (Aq l) (λa b=>?_),AY⟩);have g:=e a b;have j:Jc a<=Jo l:=We _ _ _ (FC b);have o:forks a<=Ia l:=We _ _ _ (FC b);exact⟨g.fineA,g.net,g.right,AQ,AQ⟩
 ·rw[(PE h).1]
  rfl
theorem tW {l:List B9}(d:∀x∈l,Dh x)(i:Jo l<=16)(j:Ia l<=8):L6 (Ho l)=(Aq l).map Ea:=by
 unfold L6;rw[yt d i j,if_neg AY];by_cases h:(Ah l).1=0
 ·obtain⟨g,_⟩:=Uc d h
  exact YC (Aq l) (λa b=>⟨(g a b).fineA,(g a b).net⟩)
 ·have e:Aq l=[]:=by unfold Aq;rw[if_neg h]
  rw[(PE h).1,e];rfl
def Gq (l:List B9):List Gf × Int:=if 0<(Ah l).1 then([],1) else if 16<Jo l\/8<Ia l then([],2) else(Ho l,0)
def RG {l:List B9}(h:(Ah l).1=0)(a:Jo l<=16)(b:Ia l<=8):Gq l=(Ho l,0):=by
 unfold Gq;rw[if_neg AQ,if_neg AQ]
theorem RH {l:List B9}(h:(Gq l).2=0):(Ah l).1=0/\Jo l<=16/\Ia l<=8:=by
 unfold Gq at h;split at h
 ·simp at h
 ·rename_i a
  split at h
  ·simp at h
  ·have:=(NY l).1
   exact⟨AQ,AQ,AQ⟩
def Yv {a:B9}(h:(Ah [a]).1=0):Aq [a]=[Bo a]:=by
 unfold Aq;rw[if_pos h];rfl
def fq {l:List B9}(h:(Gq l).2=0){a:B9}(d:a∈l)(h1:(Ah [a]).1=0):Gq [a]=(Ea (Bo a),0):=by
 obtain⟨g,i,r⟩:=RH h;have e:Aq l=l.map Bo:=by unfold Aq;rw[if_pos g]
 have b:Bo a∈Aq l:=by rw[e];exact FC d
 have j:Jc (Bo a)<=Jo l:=We _ _ _ (FC b);have m:forks (Bo a)<=Ia l:=We _ _ _ (FC b);have o:Jo [a]=Jc (Bo a):=by
  unfold Jo;rw[Yv h1];show max 0 (Jc (Bo a))=_
  omega
 have q:Ia [a]=forks (Bo a):=by
  unfold Ia;rw[Yv h1];show max 0 (forks (Bo a))=_
  omega
 rw[RG h1 AQ AQ];unfold Ho;rw[Yv h1];simp
theorem yP {l:List B9}(o:∀x∈l,Dh x)(h:(Gq l).2=0):L6 (Gq l).1=l.map (λa=>Ea (Bo a))/\∀i (hi:i<l.length),Gq [l[i]]=(Ea (Bo l[i]),0):=by
 obtain⟨m,d,j⟩:=RH h;have e:Aq l=l.map Bo:=by unfold Aq;rw[if_pos m]
 refine⟨?_,λi hi=>fq h (CJ hi) ?_⟩
 ·rw[RG m d j]
  show L6 (Ho l)=_
  rw[tW o d j,e,EZ];rfl
 ·rcases vm l with⟨_,g⟩ | b | b
  ·rw[(g i hi).1]
  ·omega
  ·obtain⟨b,g⟩:=b
   simp_all
