import Derived.Test.YtobbpffcggchmaaGreatDoorKe
import Derived.Test.YtobbpffcggchmaaGreatDoorGp
import Derived.Test.YtobbpffcggchmaaGreatDoorCE6
import Derived.Test.YtobbpffcggchmaaGreatDoorLWN
import Derived.Test.YtobbpffcggchmaaGreatDoorHk
import Derived.Test.YtobbpffcggchmaaGreatDoorFRe
namespace Stil
variable {B B2 F F2 b' f f':Nat}{c k:Int}
def As1 (n:Net):Prop:=Cj n/\(n.kind=0->Bl n=true)
def A8r (c:Nat)(st:List Net):Prop:=(∀n∈st,As1 n)/\sizes st<=c
theorem A5s {n:Net}(h:Xc n):As1 n:=⟨h.1,λa=>by have:=h.2;omega⟩
theorem Awo {c:Nat}{st:List Net}(h:Uh c st):A8r c st:=⟨λn a=>A5s (h.1 n a),h.2⟩
def Zh:List F7->List Net->List Net->Prop
 | [],a,t=>a=t
 | i::r,a,t=>1<=i.code/\i.code<7/\needs i.code<=(a.length:Int)/\Zh r (Ib i.code i.one a) t
theorem Zh.append:∀{l m:List F7} {a b c:List Net},Zh l a b->Zh m b c->Zh (l++m) a c
 | [],_,_,_,_,h,k=>by cases h;exact k
 | _::_,_,_,_,_,h,k=>⟨h.1,h.2.1,h.2.2.1,Zh.append h.2.2.2 k⟩
theorem Al7 {n:Net}(h:fine n):∀x∈n.kids,fine x:=λx a=>
 ⟨((J5 n).1 h.1).2 x a,((Gn n).1 h.2.1).2 x a,Qc h.2.2 x a⟩
theorem As8 (d:k=2\/k=3){a y:Net}(h:a.kind≠0)(l:y.kind≠0)(j:y.kind=1->y=D6 y.one)(i:∀st,Zh (Az y) st (y::st))(st:List Net):
  Zh (Dq k y) (a::st) (Jd k a y::st):=by
 by_cases g:y.kind=1
 ·rw[Iz k y g]
  have e:Ib k y.one (a::st)=Jd k a y::st:=by
   have b:Ff k a (D6 y.one)=Jd k a y:=by unfold Ff;rw[if_neg h,<-j g]
   rcases d with rfl | rfl
   ·show Ff 2 a (D6 y.one)::st=_;rw[b]
   ·show Ff 3 a (D6 y.one)::st=_;rw[b]
  refine⟨by show 1<=k;omega,by show k<7;omega,?_,e⟩;show needs k<=((a::st).length:Int)
  rw[A84];rcases d with rfl | rfl
  ·show(1:Int)<=_;omega
  ·show(1:Int)<=_;omega
 ·rw[Hg k y g]
  refine(i (a::st)).append ?_;have e:Ib (k+2) ⟨0,[]⟩ (y::a::st)=Jd k a y::st:=by
   have b:Ff k a y=Jd k a y:=by unfold Ff;rw[if_neg h]
   rcases d with rfl | rfl
   ·show Ff 2 a y::st=_;rw[b]
   ·show Ff 3 a y::st=_;rw[b]
  refine⟨by show 1<=k+2;omega,by show k+2<7;omega,?_,e⟩;show needs (k+2)<=((y::a::st).length:Int)
  rw[A84,A84];rcases d with rfl | rfl
  ·show(2:Int)<=_;omega
  ·show(2:Int)<=_;omega
theorem Aha (e:k=2\/k=3):∀(r:List Net) (a:Net),a.kind≠0->(∀y∈r,y.kind≠0/\y.kind≠k/\(y.kind=1->y=D6 y.one)/\∀b,Zh (Az y) b (y::b))->∀b,
  Zh ((r.map (Dq k)).flatten) (a::b) ((if r=[] then a else⟨k,⟨0,[]⟩,opn k a++r⟩)::b)
 | [],a,_,_,b=>rfl
 | y::r,a,j,h,b=>by
  obtain⟨s,g,q,n⟩:=h y spz;rw[A9l,Bag];refine(As8 e j s q n b).append ?_;have o:(Jd k a y).kind≠0:=by show k≠0;omega
  have:=Aha e r (Jd k a y) o (λz i=>h z (A87 _ i)) b
  have m:opn k (Jd k a y)=opn k a++[y]:=by
   unfold opn;rw[if_pos (show(Jd k a y).kind=k from rfl)];show opn k a++opn k y=_
   unfold opn;rw[if_neg g]
  have l:Jd k a y=⟨k,⟨0,[]⟩,opn k a++[y]⟩:=by
   show(⟨k,⟨0,[]⟩,opn k a++opn k y⟩:Net)=_
   congr 2;unfold opn;rw[if_neg g]
  rw[if_neg spz];by_cases d:r=[]
  ·subst d
   rw[if_pos rfl] at this;rw[<-l];exact this
  ·rw[if_neg d,m,A9r] at this
   exact this
theorem Abl {n:Net}(h:fine n):n.kind≠0:=by
 obtain⟨k,e,kids⟩:=n;rcases F8 h.2.2 with⟨a,_⟩ | ⟨a,_⟩ | ⟨a,_⟩
 ·show k≠0;omega
 ·show k≠0;omega
 ·show k≠0;omega
theorem Agk {n:Net}(h:fine n)(h1:n.kind=1):n=D6 n.one:=by
 obtain⟨k,e,kids⟩:=n;obtain rfl:k=1:=h1;rcases F8 h.2.2 with⟨_,rfl⟩ | ⟨h1,_⟩ | ⟨h1,_⟩
 ·rfl
 ·omega
 ·omega
theorem Aya (n:Net):fine n->∀a,Zh (Az n) a (n::a):=by
 refine Et (λn=>fine n->∀a,Zh (Az n) a (n::a)) ?_ n;intro k e kids j h a;have b:=Al7 h;rcases F8 h.2.2 with⟨rfl,rfl⟩ | ⟨s,m,_⟩ | ⟨rfl,g,x,rfl,_⟩
 ·rw[Jp]
  exact⟨by show(1:Int)<=1;decide,by show(1:Int)<7;decide,by show(0:Int)<=_;omega,rfl⟩
 ·obtain⟨x,r,rfl⟩:∃x r,kids=x::r:=by
   cases kids with
   | nil=>simp at m
   | cons x r=>exact⟨x,r,rfl⟩
  have t:=(J5 _).1 h.1;have i:k=2\/k=3:=s;obtain⟨q,hd⟩:=t.1 i;have o:r≠[]:=by rintro rfl;exact q rfl
  rw[H7 e x r omz omz];refine(j x spz (b x spz) a).append ?_;have:=Aha i r x (Abl (b x spz)) (λy d=>⟨Abl (b y (A87 _ d)),hd y (A87 _ d),Agk (b y (A87 _ d)),j y (A87 _ d) (b y (A87 _ d))⟩) a
  rw[if_neg o] at this;have l:opn k x=[x]:=by unfold opn;rw[if_neg (hd x spz)]
  have g:e=⟨0,[]⟩:=((Gn _).1 h.2.1).1 i;rw[l] at this;rw[g];exact this
 ·rw[Jq]
  refine(j x spz (b x spz) a).append ?_;rw[g];exact⟨dcz,dcz,by show(1:Int)<=((x::a).length:Int);rw[A84];omega,rfl⟩
theorem Apz {a:Arm}(h:Oy a):Kz a.net:=by
 obtain⟨n,c,k⟩:=a;exact((Po n c k).1 h).1
def Vk (n:Nat):Nat->List Arm->List F7
 | _,[]=>[]
 | i,k::t=>Tz n i k++Vk n (i+1) t
theorem Ae2 (n:Nat):∀(b:List Arm) (i:Nat),(b.mapIdx (λj a=>Tz n (i+j) a)).flatten=Vk n i b
 | [],_=>rfl
 | k::t,i=>by
  rw[List.mapIdx_cons,Bag,Vk,<-Ae2 n t (i+1)];congr 3;funext j a;rw[Nat.add_assoc,Nat.add_comm 1 j]
theorem Aij (n:Net)(cs:List Elem)(kids:List Arm):Iu ⟨n,cs,kids⟩=Vr cs++Vk kids.length 0 kids:=by
 rw[U6,<-Ae2];congr 3;funext j a;rw[A9c]
def Ape:Int × Int->List F7->Int × Int
 | s,[]=>s
 | s,i::r=>Ape (step s i.code) r
theorem Acf:∀(l m:List F7) (s:Int × Int),Ape s (l++m)=Ape (Ape s l) m
 | [],_,_=>rfl
 | i::r,m,s=>Acf r m (step s i.code)
theorem Abx:∀(l m:List F7) (s:Int × Int),Rn s (l++m)=Rn s l++Rn (Ape s l) m
 | [],_,_=>rfl
 | i::r,m,s=>by rw[A9t,Rn,Abx r m,Rn,Ape,A9t]
theorem Aed:∀(t u:List (Int × Int)) (p:Int × Int),Va p (t++u)=Va (Va p t) u
 | [],_,_=>rfl
 | s::r,u,p=>by rw[A9t,Va,Aed r u,Va]
def hts (b f:Nat):Int × Int:=((b:Int),(f:Int))
theorem A12 (p q b f:Nat):Axy (hts p q) (hts b f)=hts (max p b) (max q f):=by
 unfold Axy hts;refine Prod.ext ?_ ?_
 ·show(if(p:Int)<b then(b:Int) else p)=((max p b:Nat):Int)
  split<;>omega
 ·show(if(q:Int)<f then(f:Int) else q)=((max q f:Nat):Int)
  split<;>omega
structure Md (l:List F7)(b f b' f' B F:Nat):Prop where
 lo1:b<=B
 lo2:f<=F
 hi1:b'<=B
 hi2:f'<=F
 fin:Ape (hts b f) l=hts b' f'
 top:∀p q:Nat,b<=p->f<=q->Va (hts p q) (Rn (hts b f) l)=hts (max p B) (max q F)
theorem Md.nil (b f:Nat):Md [] b f b f b f:=⟨A88 _,A88 _,A88 _,A88 _,rfl,λp q a d=>by rw[Nat.max_eq_left a,Nat.max_eq_left d];rfl⟩
theorem Md.one {i:F7}{b:Nat}(h:step (hts b f) i.code=hts b' f'):Md [i] b f b' f' (max b b') (max f f'):=by
 refine⟨omz,omz,omz,omz,h,λp q a d=>?_⟩;show Axy (hts p q) (step (hts b f) i.code)=_
 rw[h,A12];congr 1<;>omega
theorem Md.append {l m:List F7}{b b2 a:Nat}(h:Md l b f b' f' B F)(k:Md m b' f' b2 a B2 F2):Md (l++m) b f b2 a (max B B2) (max F F2):=by
 have n:=h.lo1;have s:=h.lo2;have o:=k.hi1;have g:=k.hi2;refine⟨omz,omz,omz,omz,by rw[Acf,h.fin,k.fin],λp q e d=>?_⟩;have j:=h.hi1;have i:=h.hi2;rw[Abx,Aed,h.top p q e d,h.fin,k.top _ _ omz omz];congr 1<;>omega
theorem Md.cast {l:List F7}{b:Nat}(h:Md l b f b' f' B F)(h1:B=B2)(a:F=F2):Md l b f b' f' B2 F2:=by subst h1 a;exact h
theorem Aep (b x:Nat)(l:List Nat):H8 b (x::l)=max x (H8 b l):=by
 show H8 (max b x) l=_
 rw[Nat.max_comm,Rh]
theorem Aii {n:Net}(h:n.kind=1):E5 n=1:=by unfold E5 Aqb;rw[if_pos h]
theorem Xv {n:Net}(h:n.kind≠1):E5 n=1+Du n:=by unfold E5 Aqb;rw[if_neg h]
theorem Akm {b:Nat}(h:c=2\/c=3\/c=6\/c=8\/c=10):step (hts b f) c=hts b f:=by
 rcases h with rfl | rfl | rfl | rfl | rfl<;>rfl
theorem Aoi (g:k=2\/k=3){y:Net}(d:∀b f,Md (Az y) b f (b+1) f (b+Du y) f)(b f:Nat):Md (Dq k y) (b+1) f (b+1) f (b+E5 y) f:=by
 by_cases a:y.kind=1
 ·rw[Iz k y a,Aii a]
  exact(Md.one (i:=⟨k,y.one⟩) (Akm (by rcases g with h | h<;>simp[h]))).cast omz omz
 ·rw[Hg k y a,Xv a]
  have j:step (hts (b+1+1) f) (O6 (k+2)).code=hts (b+1) f:=by
   have e:step (hts (b+1+1) f) (O6 (k+2)).code=(((b+1+1:Nat):Int) - 1,(f:Int)):=by rcases g with rfl | rfl<;>rfl
   rw[e];unfold hts;refine Prod.ext ?_ rfl;show((b+1+1:Nat):Int) - 1=((b+1:Nat):Int)
   omega
  have l:=(d (b+1) f).append (Md.one j);have m:=(d (b+1) f).hi1;exact l.cast omz omz
theorem Ad9 (a:k=2\/k=3)(b f:Nat):∀(r:List Net),(∀y∈r,∀b f,Md (Az y) b f (b+1) f (b+Du y) f)->Md ((r.map (Dq k)).flatten) (b+1) f (b+1) f (b+H8 1 (r.map E5)) f
 | [],_=>Md.nil _ _
 | y::r,h=>by
  rw[A9l,Bag,A9l,Aep];exact((Aoi a (h y spz) b f).append (Ad9 a b f r (λz d=>h z (A87 _ d)))).cast omz omz
theorem Asx (n:Net):Xe n->Bc n=0->∀b f,Md (Az n) b f (b+1) f (b+Du n) f:=by
 refine Et (λn=>Xe n->Bc n=0->∀b f,Md (Az n) b f (b+1) f (b+Du n) f) ?_ n;intro k e kids j h u b f;have g:=((Abk _ _ _).1 h).2;have v:step (hts b f) (1:Int)=hts (b+1) f:=by
  have t:step (hts b f) (1:Int)=((b:Int)+1,(f:Int)):=rfl;rw[t];refine Prod.ext ?_ rfl;show(b:Int)+1=((b+1:Nat):Int)
  omega
 rcases F8 u with⟨rfl,rfl⟩ | ⟨w,m,l⟩ | ⟨rfl,_,x,rfl,o⟩
 ·rw[Jp,A0k]
  exact(Md.one (i:=⟨1,e⟩) v).cast omz omz
 ·obtain⟨x,r,rfl⟩:∃x r,kids=x::r:=by
   cases kids with
   | nil=>simp at m
   | cons x r=>exact⟨x,r,rfl⟩
  rw[H7 e x r omz omz,Uy e x r omz];have a:=j x spz (g x spz) (l x spz) b f;have s:=Ad9 w b f r (λy d=>j y (A87 _ d) (g y (A87 _ d)) (l y (A87 _ d)));have q:=a.hi1;have z:H8 (Du x) (r.map E5)=max (Du x) (H8 1 (r.map E5)):=by
   rw[<-Rh,Nat.max_eq_left omz]
  exact(a.append s).cast omz omz
 ·rw[Jq,Uy e x [] dcz]
  have a:=j x spz (g x spz) o b f;have q:=a.hi1;refine(a.append (Md.one (i:=O6 6) (Akm (by simp[O6])))).cast ?_ omz;show max (b+Du x) (max (b+1) (b+1))=b+Du x
  omega
def shp:Net->Prop
 | ⟨k,_,kids⟩=>((k=1/\kids=[])\/((k=2\/k=3)/\0<kids.length)\/(k=4/\kids.length=1))/\∀p∈kids.map shp,p
theorem Akn (k:Int)(e:Elem)(kids:List Net):shp ⟨k,e,kids⟩↔((k=1/\kids=[])\/((k=2\/k=3)/\0<kids.length)\/(k=4/\kids.length=1))/\∀x∈kids,shp x:=by rw[shp,all_map]
theorem Awq {n:Net}(h:shp n):∀x∈n.kids,shp x:=by obtain⟨_,_,_⟩:=n;exact((Akn _ _ _).1 h).2
theorem Ady {e:Elem}{kids:List Net}(h:shp ⟨k,e,kids⟩):(k=1/\kids=[])\/((k=2\/k=3)/\0<kids.length/\∀x∈kids,shp x)\/(k=4/\True/\∃x,kids=[x]/\shp x):=by
 obtain⟨a | ⟨a,b⟩ | ⟨a,b⟩,d⟩:=(Akn _ _ _).1 h
 ·exact .inl a
 ·exact .inr (.inl ⟨a,b,d⟩)
 ·obtain⟨x,rfl⟩:=List.length_eq_one_iff.1 b
  exact .inr (.inr ⟨a,trivial,x,rfl,d x spz⟩)
theorem A61 (n:Net):Bc n=0->shp n:=by
 refine Et (λn=>Bc n=0->shp n) ?_ n;intro k e kids g l;refine(Akn _ _ _).2 ?_;rcases F8 l with⟨a,rfl⟩ | ⟨a,j,i⟩ | ⟨a,_,x,rfl,b⟩
 ·exact⟨.inl ⟨a,rfl⟩,λ_ h=>by cases h⟩
 ·exact⟨.inr (.inl ⟨a,j⟩),λx b=>g x b (i x b)⟩
 ·exact⟨.inr (.inr ⟨a,rfl⟩),λy d=>by obtain rfl:=List.mem_singleton.1 d;exact g y d b⟩
def few (q:Nat):Net->Prop
 | ⟨_,e,kids⟩=>e.args.length<=q/\∀p∈kids.map (few q),p
theorem Ara (q:Nat)(k:Int)(e:Elem)(kids:List Net):few q ⟨k,e,kids⟩↔e.args.length<=q/\∀x∈kids,few q x:=by rw[few,all_map]
theorem Am3 {n:Net}(h:Kz n):∀x∈Ij n,Bc x=0:=by
 intro x a;unfold Ij at a;split at a
 ·cases a
 ·rename_i d
  have b:=h.resolve_left d;split at a
  ·exact Qc b.2.2 x a
  ·rw[List.mem_singleton.1 a];exact b.2.2
theorem Ahe (h:c=1\/c=2\/c=3){e:Elem}(a:Af e.op e.args=true):Hu ⟨c,e⟩=true:=by
 unfold Hu;simp only;rw[if_neg omz,if_pos omz];exact a
theorem Ax4 (h:4<=c)(b:c<=11)(a:c≠10):Hu (O6 c)=true:=by
 unfold Hu O6;simp only;rw[if_neg omz,if_neg omz,if_neg a];rfl
theorem Abr {e:Elem}{kids:List Net}(h:Bc ⟨1,e,kids⟩=0):Af e.op e.args=true:=by
 rw[Jo,if_pos rfl] at h;split at h
 ·omega
 ·split at h
  ·rename_i a;exact a
  ·omega
theorem A2o {y:Net}(h:(Az y).length+1<=2*Aj y):(Dq k y).length<=2*Aj y:=by
 by_cases a:y.kind=1
 ·rw[Iz k y a,A93,D9];omega
 ·rw[Hg k y a,A83,A93];exact h
theorem Air:∀(r:List Net),(∀y∈r,(Az y).length+1<=2*Aj y)->((r.map (Dq k)).flatten).length<=2*sizes r
 | [],_=>by simp
 | y::r,h=>by
  have b:=A2o (k:=k) (h y spz);have d:=Air r (λz a=>h z (A87 _ a));rw[A9l,Bag,A83,Dv];omega
theorem Ail (n:Net):shp n->(Az n).length+1<=2*Aj n:=by
 refine Et (λn=>shp n->(Az n).length+1<=2*Aj n) ?_ n;intro k e kids a l;rw[D9];show _<=2*(1+sizes kids)
 rcases Ady l with⟨rfl,rfl⟩ | ⟨o,j,d⟩ | ⟨rfl,_,x,rfl,i⟩
 ·rw[Jp,A93,Ol];omega
 ·obtain⟨x,r,rfl⟩:∃x r,kids=x::r:=by
   cases kids with
   | nil=>simp at j
   | cons x r=>exact⟨x,r,rfl⟩
  have g:=a x spz (d x spz);have m:=Air (k:=k) r (λy b=>a y (A87 _ b) (d y (A87 _ b)));rw[H7 e x r omz omz,A83,Dv];omega
 ·have g:=a x spz i
  rw[Jq,A83,A93,Dv,Ol];omega
theorem Aoh (n:Net)(h:Bc n=0):(Az n).length+1<=2*Aj n:=Ail n (A61 n h)
theorem Au3 {n:Net}(h:Kz n):(Ir n).length<=2*nsz n:=by
 unfold Ir;have e:=Air (k:=2) (Ij n) (λy b=>Aoh y (Am3 h y b));have d:sizes (Ij n)<=nsz n:=by
  unfold Ij nsz;by_cases a:Bl n=true
  ·rw[if_pos a,if_pos a];exact A88 _
  ·rw[if_neg a,if_neg a]
   split
   ·rw[D9];omega
   ·rw[Dv,Ol];omega
 omega
theorem A23 (n i:Nat):(Hz n i).length<=1:=by
 unfold Hz;split
 ·simp
 ·split
  ·simp
  ·split<;>simp
theorem Acb (n:Nat):∀(a:List Arm) (i:Nat),(∀k∈a,Kz k.net/\(Iu k).length+2+2*nsz k.net<=2*Ed k)->(Vk n i a).length<=2*Jv a
 | [],_,_=>by simp[Vk]
 | k::t,i,h=>by
  obtain⟨b,m⟩:=h k spz;have j:=A23 n i;have l:=Au3 b;have g:=Acb n t (i+1) (λx d=>h x (A87 _ d));have e:Jv (k::t)=Ed k+Jv t:=by simp[Jv]
  rw[Vk,e];unfold Tz A2u;rw[A83,A83,A83];omega
theorem A07 (a:Arm):Ht a->(Iu a).length+2+2*nsz a.net<=2*Ed a:=by
 refine I9 (λa=>Ht a->(Iu a).length+2+2*nsz a.net<=2*Ed a) ?_ a;intro n e kids j h;have d:=((Ic _ _ _).1 h).2;have o:=Acb kids.length kids 0 (λk b=>⟨by have m:=d k b;obtain⟨g,l,i⟩:=k;exact((Ic g l i).1 m).1,j k b (d k b)⟩);rw[Aij,A83,Ey];have p:(Vr e).length=e.length:=by simp[Vr]
 show _+2+2*nsz n<=_
 omega
theorem A1f {a:Arm}(h:Ht a)(b:fine a.net):(J9 a).length<=2*Ed a:=by
 have d:=A07 a h;have g:=Aoh a.net b.2.2;have e:nsz a.net=Aj a.net:=by unfold nsz;rw[if_neg (by rw[Aaj b];decide)]
 unfold J9;rw[A83,A83,A93];omega
theorem Ak6:∀(l:List Arm),(∀a∈l,Ht a/\fine a.net)->((l.map J9).flatten).length<=2*Ce l
 | [],_=>by simp
 | a::l,h=>by
  have d:=A1f (h a spz).1 (h a spz).2;have g:=Ak6 l (λx b=>h x (A87 _ b));have e:Ce (a::l)=Ed a+Ce l:=by simp[Ce]
  rw[A9l,Bag,A83,e];omega
end Stil
set_option maxHeartbeats 4000000
set_option maxRecDepth 100000
namespace Go.Proofs.YtobbpffcggchmaaGreatDoor
open Tryz
open Stil
open Go.RowKit Go.Sort Go.BigFrame
variable {W:World}{av kv:Value}{k op:Int}{r:Nat}
theorem A2v:(prog.info? 30).map (λi=>(i.zero,i.size,i.bytes))=some (some (.agg #[.int .i64 0, .int .i64 0, .slice none 0 0, .slice none 0 0]),4,64):=krz
def TSF (n:Stil.Net):Prop:=Ac5 n/\Stil.shp n/\Stil.few 3 n
def Afn (e:Ending)(w w':World)(g Q N:Nat):Prop:=∃(n:Stil.Net) (av kv:Value),e=.returned (.agg #[.int .i64 n.kind, .int .i64 n.one.op,av,kv])/\Ej (λb=>w.heap.size<=b) w' av n.one.args/\Mc (λb=>w.heap.size<=b) w' kv n.kids/\TSF n/\Xb n<=N/\Kq w' g Q/\w.grownBy w' (some g)
def As6:Nat->Nat
 | 0=>50
 | m+1=>3*As6 m+50
def A0v:Nat->Nat
 | 0=>10
 | m+1=>3*A0v m+10
theorem A2m (m:Nat):50<=As6 m:=by cases m<;>simp[As6]
theorem A2l (m:Nat):10<=A0v m:=by cases m<;>simp[A0v]
theorem Aby {a:List Stil.Dev}(e:-1000000<=k/\k<=1000000)(g:-1000000<=op/\op<=1000000)(b:∀d∈a,Small d)(hl:a.length<=40):Ac5 ⟨k,⟨op,a⟩,[]⟩:=(Aau _ _ _).2 ⟨e,⟨g,b,A9f hl dcz⟩,λ_ h=>by cases h⟩
theorem Awk {ns:List Stil.Net}(a:-1000000<=k/\k<=1000000)(h:∀n∈ns,Ac5 n):Ac5 ⟨k,⟨0,[]⟩,ns⟩:=(Aau _ _ _).2 ⟨a,⟨⟨dcz,dcz⟩,λ_ h=>yBb,spz⟩,h⟩
theorem Ads {a:List Stil.Dev}(h:Ac5 ⟨1,⟨op,a⟩,[]⟩)(hl:a.length<=3):TSF ⟨1,⟨op,a⟩,[]⟩:=⟨h,(Akn _ _ _).2 ⟨.inl ⟨rfl,rfl⟩,λ_ h=>by cases h⟩,(Ara _ _ _ _).2 ⟨hl,λ_ h=>by cases h⟩⟩
theorem Ap9 {ns:List Stil.Net}(b:(k=2\/k=3)/\0<ns.length\/k=4/\ns.length=1)(h:∀n∈ns,TSF n):TSF ⟨k,⟨0,[]⟩,ns⟩:=⟨Awk omz λn a=>(h n a).1,(Akn _ _ _).2 ⟨.inr b,λn a=>(h n a).2.1⟩,(Ara _ _ _ _).2 ⟨Ban _,λn a=>(h n a).2.2⟩⟩
theorem Ayd {s:Nat}{w:World}(h:s<=r):∀b,b<w.heap.size->r<b->s<b:=λ_ _ a=>Nat.lt_of_le_of_lt h a
theorem A2p {w:World}:∀b,b<w.heap.size->r<b->r<=b:=λ_ _ h=>Bcc h
theorem A2i {P:Nat->Prop}{cs:Array Value}{ns:List Stil.Net}{b:Nat}(d:b=W.heap.size)(h:RowOf 4 (Am9 P W) cs.toList ns)(i:P b)(hl:ns.length<=1000):Mc P (W.alloc (.cells cs 30)) (.slice (some ⟨b,0,none⟩) ns.length ns.length) ns:=by
 subst d;have g:=World.ownsRow_lit (base:=W.heap.size) (e:=30) (size:=4) W cs ns.length omz yAe (by have:=h.1;simpa using this);refine Z9 g (h.imp λcs a _ j=>j.keep (Bf.of_below (Aa _ _))) (λb d=>?_);have:W.heap.size=b:=by simpa[Value.ownBlock] using d
 exact this ▸ i
def A0o (w:World)(b:Nat)(k op:Int)(av kv:Value):Prop:=b<w.heap.size/\w.cell? ⟨b,0,none⟩=some (.int .i64 k)/\w.cell? ⟨b,1,none⟩=some (.int .i64 op)/\w.cell? ⟨b,2,none⟩=some av/\w.cell? ⟨b,3,none⟩=some kv/\w.frozen? ⟨b,0,none⟩=false/\w.frozen? ⟨b,1,none⟩=false/\w.frozen? ⟨b,2,none⟩=false/\w.frozen? ⟨b,3,none⟩=false
theorem nbA {b:Nat}(h:A0o W b k op av kv:=by refine⟨ltA,?_,?_,?_,?_,?_,?_,?_,?_⟩<;>first | (exact cfA;done) | (repeat (first | with_reducible assumption | with_reducible refine Ru.trans ?_ | with_reducible refine Uo.trans ?_ | with_reducible refine(Jw ltA).trans ?_ | (simp[go_sem];done)))):A0o W b k op av kv:=h
theorem A0o.grownO {w w':World}{b:Nat}{r:Option Nat}(h:A0o w b k op av kv)(hg:w.grownBy w' r)(hr:r≠some b):A0o w' b k op av kv:=by
 obtain⟨g,i⟩:=h;have e:w'.heap[b]?=w.heap[b]?:=hg.block b g (λx=>hr x.symm);have d:∀o,w'.cell? ⟨b,o,none⟩=w.cell? ⟨b,o,none⟩:=λo=>by unfold World.cell?;rw[e]
 have a:∀o,w'.frozen? ⟨b,o,none⟩=w.frozen? ⟨b,o,none⟩:=λo=>by unfold World.frozen?;rw[e]
 refine⟨A82 g hg.size,?_⟩;rw[d,d,d,d,a,a,a,a];exact i
theorem A1c (g P:Nat)(w:World)(hr:Kq w g P)(N:P<=100000000):
  Calls prog 16 #[.pointer (some ⟨g,0,none⟩), .int .i64 0] w λe J=>Afn e w J g (P+50) 10:=by
 have hg:=Sr hr;go_enter func16,ntmps16
 go_wp2_with (first | (go_at_call_of 13 (Value.int IntKind.i64 7);refine(Gm g _ _ _ raA omz omz omz).mono ?_;rintro e l ⟨x,rfl,O,K,C,j⟩;have M:w.heap.size<l.heap.size:=A82 ltA j.size;obtain⟨n,u,q1,z,m,A,t,E⟩:l.cell? ⟨w.heap.size,0,none⟩=some (.int .i64 0)/\l.frozen? ⟨w.heap.size,0,none⟩=false/\l.cell? ⟨w.heap.size,1,none⟩=some (.int .i64 0)/\l.frozen? ⟨w.heap.size,1,none⟩=false/\l.cell? ⟨w.heap.size,2,none⟩=some (.slice none 0 0)/\l.frozen? ⟨w.heap.size,2,none⟩=false/\l.cell? ⟨w.heap.size,3,none⟩=some (.slice none 0 0)/\l.frozen? ⟨w.heap.size,3,none⟩=false:=⟨gcA j,gfA j,gcA j,gfA j,gcA j,gfA j,gcA j,gfA j⟩) | (go_at_call 18;refine(Ro g _ _ raA omz).mono ?_;rintro e d ⟨op,v,H,rfl,G,q,I,D,C,i⟩;have y:=q;obtain⟨aa,Q,rfl,_,_⟩:=y;have L:w.heap.size<d.heap.size:=A82 ltA i.size;obtain⟨n,u,q1,z,m,A,t,E⟩:d.cell? ⟨w.heap.size,0,none⟩=some (.int .i64 0)/\d.frozen? ⟨w.heap.size,0,none⟩=false/\d.cell? ⟨w.heap.size,1,none⟩=some (.int .i64 0)/\d.frozen? ⟨w.heap.size,1,none⟩=false/\d.cell? ⟨w.heap.size,2,none⟩=some (.slice none 0 0)/\d.frozen? ⟨w.heap.size,2,none⟩=false/\d.cell? ⟨w.heap.size,3,none⟩=some (.slice none 0 0)/\d.frozen? ⟨w.heap.size,3,none⟩=false:=⟨gcA i,gfA i,gcA i,gfA i,gcA i,gfA i,gcA i,gfA i⟩))
 refine bodyPost_ret (by simp[results,results16,go_sem,n,q1,m,t];rfl) rfl ?_;exact⟨⟨1,⟨op,H⟩,[]⟩,_,_,rfl,Ej.mono (((Pg q).mono (Ayd (s:=w.heap.size) omz)).keep kpA) A2p,Aq0 _ _,Ads (Aby dcz G I omz) D,by rw[Vf];simp;omega,rlA,glA⟩
theorem A1b (m:Nat)(ih:∀(d:Int) (g P:Nat) (w:World),d=m->Kq w g P->P+As6 m<=100000000->Calls prog 16 #[.pointer (some ⟨g,0,none⟩), .int .i64 d] w λe w'=>Afn e w w' g (P+As6 m) (A0v m))
  (d:Int) (g P:Nat) (w:World) (hd:d=m+1) (hm:m<=100) (hr:Kq w g P) (hP:P+As6 (m+1)<=100000000):
  Calls prog 16 #[.pointer (some ⟨g,0,none⟩), .int .i64 d] w λe w'=>Afn e w w' g (P+As6 (m+1)) (A0v (m+1)):=by
 have hg:=Sr hr;have aL:=A2m m;have aF:=A2l m;have e1:As6 (m+1)=3*As6 m+50:=rfl;have e2:A0v (m+1)=3*A0v m+10:=rfl;rw[e1] at hP;rw[e1,e2];clear e1 e2;obtain⟨c,hc⟩:∃c,c=As6 m:=⟨_,rfl⟩
 obtain⟨N,hN⟩:∃N,N=A0v m:=⟨_,rfl⟩
 rw[<-hc] at ih aL hP;rw[<-hN] at ih aF;rw[<-hc,<-hN];have IH:Hid (∀(d:Int) (g P:Nat) (w:World),d=m->Kq w g P->P+c<=100000000->Calls prog 16 #[.pointer (some ⟨g,0,none⟩), .int .i64 d] w λe w'=>Afn e w w' g (P+c) N):=ih;clear ih hc hN;have aP:decide (d<=0)=false:=by rw[Baq];omega
 obtain⟨i0,hi,aN,aM,aC⟩:=info_parts A2v;go_enter func16,ntmps16;go_upto_if 37 with(first | (go_at_call_of 13 (Value.int IntKind.i64 7);refine(Gm g _ _ _ raA omz omz omz).mono ?_;rintro e l ⟨k,rfl,aR,aQ,H,R⟩;have ah:w.heap.size<l.heap.size:=A82 ltA R.size;obtain⟨D,O,q1,I,A,L,C,Q⟩:l.cell? ⟨w.heap.size,0,none⟩=some (.int .i64 0)/\l.frozen? ⟨w.heap.size,0,none⟩=false/\l.cell? ⟨w.heap.size,1,none⟩=some (.int .i64 0)/\l.frozen? ⟨w.heap.size,1,none⟩=false/\l.cell? ⟨w.heap.size,2,none⟩=some (.slice none 0 0)/\l.frozen? ⟨w.heap.size,2,none⟩=false/\l.cell? ⟨w.heap.size,3,none⟩=some (.slice none 0 0)/\l.frozen? ⟨w.heap.size,3,none⟩=false:=⟨gcA R,gfA R,gcA R,gfA R,gcA R,gfA R,gcA R,gfA R⟩) | (go_at_call 18;refine(Ro g _ _ raA omz).mono ?_;rintro e S ⟨op,v,ds,rfl,aG,hv,hs,hl,H,J⟩;have aw:=hv;obtain⟨aa,cc,rfl,_,_⟩:=aw;have V:w.heap.size<S.heap.size:=A82 ltA J.size;obtain⟨D,O,q1,I,A,L,C,Q⟩:S.cell? ⟨w.heap.size,0,none⟩=some (.int .i64 0)/\S.frozen? ⟨w.heap.size,0,none⟩=false/\S.cell? ⟨w.heap.size,1,none⟩=some (.int .i64 0)/\S.frozen? ⟨w.heap.size,1,none⟩=false/\S.cell? ⟨w.heap.size,2,none⟩=some (.slice none 0 0)/\S.frozen? ⟨w.heap.size,2,none⟩=false/\S.cell? ⟨w.heap.size,3,none⟩=some (.slice none 0 0)/\S.frozen? ⟨w.heap.size,3,none⟩=false:=⟨gcA J,gfA J,gcA J,gfA J,gcA J,gfA J,gcA J,gfA J⟩) | (go_at_call 16;refine(IH _ g _ _ omz raA omz).mono ?_;rintro e G ⟨q,av,kv,rfl,ae,af,aj,aD,H,K⟩;have V:w.heap.size<G.heap.size:=A82 ltA K.size;obtain⟨D,O,q1,I,A,L,C,Q⟩:G.cell? ⟨w.heap.size,0,none⟩=some (.int .i64 0)/\G.frozen? ⟨w.heap.size,0,none⟩=false/\G.cell? ⟨w.heap.size,1,none⟩=some (.int .i64 0)/\G.frozen? ⟨w.heap.size,1,none⟩=false/\G.cell? ⟨w.heap.size,2,none⟩=some (.slice none 0 0)/\G.frozen? ⟨w.heap.size,2,none⟩=false/\G.cell? ⟨w.heap.size,3,none⟩=some (.slice none 0 0)/\G.frozen? ⟨w.heap.size,3,none⟩=false:=⟨gcA K,gfA K,gcA K,gfA K,gcA K,gfA K,gcA K,gfA K⟩) | (go_at_call_of 13 (Value.int IntKind.i64 2);refine(Gm g _ _ _ raA omz omz omz).mono ?_;rintro e wc ⟨aZ,rfl,aI,a5,H,x⟩;have V:w.heap.size<wc.heap.size:=A82 ltA x.size;have ac:l.heap.size<wc.heap.size:=A82 ltA x.size;obtain⟨D,O,q1,I,A,L,C,Q,X,p4,q5,p5,Y,p6,Z,p7⟩:wc.cell? ⟨w.heap.size,0,none⟩=some (.int .i64 0)/\wc.frozen? ⟨w.heap.size,0,none⟩=false/\wc.cell? ⟨w.heap.size,1,none⟩=some (.int .i64 0)/\wc.frozen? ⟨w.heap.size,1,none⟩=false/\wc.cell? ⟨w.heap.size,2,none⟩=some (.slice none 0 0)/\wc.frozen? ⟨w.heap.size,2,none⟩=false/\wc.cell? ⟨w.heap.size,3,none⟩=some (.slice none 0 0)/\wc.frozen? ⟨w.heap.size,3,none⟩=false/\wc.cell? ⟨l.heap.size,0,none⟩=some (.int .i64 (2+k % 2))/\wc.frozen? ⟨l.heap.size,0,none⟩=false/\wc.cell? ⟨l.heap.size,1,none⟩=some (.int .i64 0)/\wc.frozen? ⟨l.heap.size,1,none⟩=false/\wc.cell? ⟨l.heap.size,2,none⟩=some (.slice none 0 0)/\wc.frozen? ⟨l.heap.size,2,none⟩=false/\wc.cell? ⟨l.heap.size,3,none⟩=some (.slice none 0 0)/\wc.frozen? ⟨l.heap.size,3,none⟩=false:=⟨gcA x,gfA x,gcA x,gfA x,gcA x,gfA x,gcA x,gfA x,gcA x,gfA x,gcA x,gfA x,gcA x,gfA x,gcA x,gfA x⟩) | (go_at_call_of 13 (Value.int IntKind.i64 8);refine(Gm g _ _ _ raA omz omz omz).mono ?_;rintro e z ⟨aU,rfl,aW,a3,H,y⟩;have V:w.heap.size<z.heap.size:=A82 ltA y.size;have ac:l.heap.size<z.heap.size:=A82 ltA y.size;obtain⟨D,O,q1,I,A,L,C,Q,X,p4,q5,p5,Y,p6,Z,p7⟩:z.cell? ⟨w.heap.size,0,none⟩=some (.int .i64 0)/\z.frozen? ⟨w.heap.size,0,none⟩=false/\z.cell? ⟨w.heap.size,1,none⟩=some (.int .i64 0)/\z.frozen? ⟨w.heap.size,1,none⟩=false/\z.cell? ⟨w.heap.size,2,none⟩=some (.slice none 0 0)/\z.frozen? ⟨w.heap.size,2,none⟩=false/\z.cell? ⟨w.heap.size,3,none⟩=some (.slice none 0 0)/\z.frozen? ⟨w.heap.size,3,none⟩=false/\z.cell? ⟨l.heap.size,0,none⟩=some (.int .i64 (2+k % 2))/\z.frozen? ⟨l.heap.size,0,none⟩=false/\z.cell? ⟨l.heap.size,1,none⟩=some (.int .i64 0)/\z.frozen? ⟨l.heap.size,1,none⟩=false/\z.cell? ⟨l.heap.size,2,none⟩=some (.slice none 0 0)/\z.frozen? ⟨l.heap.size,2,none⟩=false/\z.cell? ⟨l.heap.size,3,none⟩=some (.slice none 0 0)/\z.frozen? ⟨l.heap.size,3,none⟩=false:=⟨gcA y,gfA y,gcA y,gfA y,gcA y,gfA y,gcA y,gfA y,gcA y,gfA y,gcA y,gfA y,gcA y,gfA y,gcA y,gfA y⟩))
 ·refine bodyPost_ret (by simp[results,results16,go_sem,D,q1,A,C];rfl) rfl ?_
  exact⟨⟨1,⟨op,ds⟩,[]⟩,_,_,rfl,Ej.mono (((Pg hv).mono (Ayd (s:=w.heap.size) omz)).keep kpA) A2p,Aq0 _ _,Ads (Aby dcz aG hs omz) hl,by rw[Vf];simp;omega,rlA,glA⟩
 ·refine bodyPost_ret (by simp[results,results16,go_sem,D,q1,A,C,V];rfl) rfl ?_
  have ag:RowOf 4 (Am9 (λb=>w.heap.size<b) G) [.int .i64 q.kind, .int .i64 q.one.op,av,kv] [q]:=RowOf.one rfl ⟨av,kv,rfl,ae.mono (λ_ _ h=>A82 ah h),af.mono (λ_ _ h=>A82 ah h)⟩;refine⟨⟨4,⟨0,[]⟩,[q]⟩,_,_,rfl,Ajh _ _,Mc.mono (A2i (P:=λb=>w.heap.size<b) (cs:=#[.int .i64 q.kind, .int .i64 q.one.op,av,kv]) (ns:=[q]) spz (ag.imp λ_ _ _ h=>h.keep kpA) omz spz) A2p,Ap9 (.inr ⟨rfl,rfl⟩) (λn M=>by simp at M;subst M;exact aj),by rw[Vf];simp;omega,rlA,glA⟩
 ·go_cut [7] (λsm wq=>∃T:Nat,sm=.int .i64 T/\1<=T/\T<=3/\Kq wq g (P+3)/\w.grownBy wq (some g)/\A0o wq w.heap.size 0 0 (.slice none 0 0) (.slice none 0 0)/\A0o wq l.heap.size (2+k % 2) 0 (.slice none 0 0) (.slice none 0 0))
  case first=>
   go_wp2
   ·go_meet
    exact⟨1,rfl,omz,omz,rlA,glA,nbA,nbA⟩
   ·go_meet
    obtain⟨yn,rfl⟩:=Baj aI;exact⟨2+yn,by go_num,omz,omz,rlA,glA,nbA,nbA⟩
  case rest=>
   clear D q1 A C X q5 Y Z O I L Q p4 p5 p6 p7 H;obtain⟨T,rfl,aY,jh,H,an,ai,al⟩:=hcut
   go_wp2
   go_loopw [8] (λi wr=>∃(j:Nat) (ns:List Stil.Net) (v:Value) (xs:List Value),j<=T/\i=.int .i64 j/\ns.length=j/\A0o wr w.heap.size 0 0 (.slice none 0 0) (.slice none 0 0)/\A0o wr l.heap.size (2+k % 2) 0 (.slice none 0 0) v/\wr.ownsRow (l.heap.size+1) 30 4 v j xs/\RowOf 4 (Am9 (Off l.heap.size v) wr) xs ns/\(∀n∈ns,TSF n)/\(ns.map Xb).sum<=j*N/\Kq wr g (P+3+j*c)/\w.grownBy wr (some g)) (λi _=>T - (intOf i).toNat)
   case atStart=>exact⟨0,[],_,[],omz,rfl,rfl,ai,al,⟨rfl,Or.inl ⟨rfl,rfl⟩⟩,RowOf.nil _ _,λ_ h=>yBb,spz,by simpa using H,an⟩
   case round=>
    obtain⟨j,ns,v,xs,hj,rfl,au,ai,al,E,ag,dV,aT,H,an⟩:=hrel;obtain⟨V,D,q1,A,C,O,I,L,Q⟩:=ai;obtain⟨ac,X,q5,Y,Z,p4,p5,p6,p7⟩:=al;by_cases aS:j<T
    ·have ar:(j+1)*c<=3*c:=Bak c omz
     rw[Bbn] at ar;obtain⟨ab,tC,ak,_⟩:=Iy E;subst ak;go_upto_region 13 with fail
     go_region_law (first | (refine Eo rfl _ _ 28 rfl (l.heap.size+1) 30 i0 (.agg #[.int .i64 0, .int .i64 0, .slice none 0 0, .slice none 0 0]) 4 64 underlying28 hi aN aM aC rfl dcz _ _ _ rfl (az.alloc _) _ _ _ [.int .i64 q.kind, .int .i64 q.one.op, .slice a1 q.one.args.length c1, .slice a2 q.kids.length c2] rfl rfl yBg (by intro aO hu;simp at hu;rcases hu with rfl | rfl | rfl | rfl<;>rfl) yAe omz (by rw[World.size_alloc];omega) ?_;intro v' w6 ap aH mD;obtain⟨ay,ax,aB,_⟩:=Iy ap;subst aB;have aJ:A0o (t.alloc (.cells #[.int .i64 q.kind, .int .i64 q.one.op, .slice a1 q.one.args.length c1, .slice a2 q.kids.length c2] 30)) w.heap.size 0 0 (.slice none 0 0) (.slice none 0 0):=nbA;have aE:A0o (t.alloc (.cells #[.int .i64 q.kind, .int .i64 q.one.op, .slice a1 q.one.args.length c1, .slice a2 q.kids.length c2] 30)) l.heap.size (2+k % 2) 0 (.slice none 0 0) (.slice ab j tC):=nbA;clear D q1 A C X q5 Y Z O I L Q p4 p5 p6 p7;obtain⟨V,D,q1,A,C,O,I,L,Q⟩:=aJ.grownO aH (λe=>by have:=E.lt _ e;omega);obtain⟨ac,X,q5,Y,Z,p4,p5,p6,p7⟩:=aE.grownO aH (λe=>by have:=E.lt _ e;omega)) | (go_simp;go_at_call 16;refine(IH _ g _ _ (by first | omega | (rw[IntKind.wrap_i64];omega)) raA omz).mono ?_;rintro e t ⟨q,av,kv,rfl,ae,af,aj,aD,H,iL⟩;have u:wr.grownBy t (some g):=⟨iL.os,iL.tape,iL.output,iL.size,iL.block⟩;have mg:=ae;have jl:=af;obtain⟨a1,c1,rfl,_,_⟩:=mg;obtain⟨a2,c2,rfl,_,_⟩:=jl;have az:=Ku E u omz;have V:w.heap.size<t.heap.size:=A82 ltA u.size;have ac:l.heap.size<t.heap.size:=A82 ltA u.size;obtain⟨D,O,q1,I,A,L,C,Q,X,p4,q5,p5,Y,p6,Z,p7⟩:t.cell? ⟨w.heap.size,0,none⟩=some (.int .i64 0)/\t.frozen? ⟨w.heap.size,0,none⟩=false/\t.cell? ⟨w.heap.size,1,none⟩=some (.int .i64 0)/\t.frozen? ⟨w.heap.size,1,none⟩=false/\t.cell? ⟨w.heap.size,2,none⟩=some (.slice none 0 0)/\t.frozen? ⟨w.heap.size,2,none⟩=false/\t.cell? ⟨w.heap.size,3,none⟩=some (.slice none 0 0)/\t.frozen? ⟨w.heap.size,3,none⟩=false/\t.cell? ⟨l.heap.size,0,none⟩=some (.int .i64 (2+k % 2))/\t.frozen? ⟨l.heap.size,0,none⟩=false/\t.cell? ⟨l.heap.size,1,none⟩=some (.int .i64 0)/\t.frozen? ⟨l.heap.size,1,none⟩=false/\t.cell? ⟨l.heap.size,2,none⟩=some (.slice none 0 0)/\t.frozen? ⟨l.heap.size,2,none⟩=false/\t.cell? ⟨l.heap.size,3,none⟩=some (.slice ab j tC)/\t.frozen? ⟨l.heap.size,3,none⟩=false:=⟨gcA u,gfA u,gcA u,gfA u,gcA u,gfA u,gcA u,gfA u,gcA u,gfA u,gcA u,gfA u,gcA u,gfA u,gcA u,gfA u⟩))
     all_goals go_wp2
     all_goals
      have aK:Bf (Off l.heap.size (.slice ab j tC)) wr (t.alloc (.cells #[.int .i64 q.kind, .int .i64 q.one.op, .slice a1 q.one.args.length c1, .slice a2 q.kids.length c2] 30)):=(Bf.of_grown u (λb U e=>by have:=U.1;simp only[A96] at e;omega)).trans (Bf.of_below (Aa _ _));have ao:∀b,b<t.heap.size->wr.drew.heap.size<=b->Off l.heap.size (.slice ab j tC) b:=λb _ U=>⟨by have:wr.heap.size<=b:=U;omega,λe=>by have h1:=(E.lt _ e).2;have:wr.heap.size<=b:=U;omega⟩
      have aA:=Aog (ag.imp λ_ _ _ h=>h.keep aK) (Am9.keep (w:=t) ⟨_,_,rfl,ae.mono ao,af.mono ao⟩ (Bf.of_below (Aa _ _))) rfl aH mD;refine⟨⟨j+1,ns++[q], .slice ay (j+1) ax,_,omz,by go_num,by simp[au],nbA,nbA,ownsRow_setCell_below ap (Baa _) _,aA.imp (λ_ _ _ h=>h.keep (Bf.set (by simp[Off]) _)),?_,?_,?_,?_⟩,by simp[intOf];omega⟩
      ·intro n M
       rcases List.mem_append.1 M with M | M
       ·exact dV n M
       ·simp at M;subst M;exact aj
      ·have es:((ns++[q]).map Xb).sum=(ns.map Xb).sum+Xb q:=by simp
       rw[es,Bbn];omega
      ·exact U9 (Zy (P5 (E8 H _) aH (λk hk=>by have:=E.lt _ hk;omega)) omz _) (by rw[Bbn];omega)
      ·exact A4b (Bcc ah) (Tn (X5 (Abj an u) _) aH (λk hk=>by have:=E.lt _ hk;omega)) _
    ·obtain⟨ab,tC,ak,_⟩:=Iy E
     subst ak
     go_wp2
     have aV:j=T:=omz
     have ar:j*c<=3*c:=Bak c omz;have aX:j*N<=3*N:=Bak N omz;have hk:Mc (λb=>w.heap.size<b) wr (.slice ab j tC) ns:=by
      subst au;exact Z9 E (ag.imp λ_ _ _ h=>h.mono λb _ U=>by have:=U.1;omega) (λb U=>by have:=(E.lt _ U).1;omega)
     refine bodyPost_ret (by simp[results,results16,go_sem,D,q1,A,C];rfl) rfl ?_;refine⟨⟨2+k % 2,⟨0,[]⟩,ns⟩,_,_,rfl,Ajh _ _,Mc.mono (hk.keep kpA) A2p,Ap9 (.inl ⟨omz,omz⟩) dV,?_,rlA,glA⟩;rw[Vf];simp;omega
theorem Aqf:∀(m:Nat) (d:Int) (g P:Nat) (w:World),m<=100->d=m->Kq w g P->P+As6 m<=100000000->Calls prog 16 #[.pointer (some ⟨g,0,none⟩), .int .i64 d] w λe i=>Afn e w i g (P+As6 m) (A0v m)
 | 0,d,g,P,w,_,hd,a,b=>by
  subst hd;exact A1c g P w a omz
 | m+1,d,g,P,w,j,hd,a,b=>A1b m (λd g P w hd a b=>Aqf m d g P w omz hd a b) d g P w (by simpa using hd) omz a b
end Go.Proofs.YtobbpffcggchmaaGreatDoor
