import Derived.Test.YtfeablpbkcgdjaaGreatDoorM33
import Derived.Test.YtfeablpbkcgdjaaGreatDoorGU
set_option linter.defProp false
namespace Stil
variable {k:Int}
def shp:B1->Prop
 | ⟨k,_,kids⟩=>((k=1/\kids=[])\/((k=2\/k=3)/\0<kids.length)\/(k=4/\kids.length=1))/\∀p∈kids.map shp,p
def PT (k:Int)(e:Elem)(kids:List B1):shp ⟨k,e,kids⟩↔((k=1/\kids=[])\/((k=2\/k=3)/\0<kids.length)\/(k=4/\kids.length=1))/\∀x∈kids,shp x:=by rw[shp,all_map]
def b9 {n:B1}(h:shp n):∀x∈n.kids,shp x:=by obtain⟨_,_,_⟩:=n;exact((PT _ _ _).1 h).2
def VL {e:Elem}{kids:List B1}(h:shp ⟨k,e,kids⟩):(k=1/\kids=[])\/((k=2\/k=3)/\0<kids.length/\∀x∈kids,shp x)\/(k=4/\True/\∃x,kids=[x]/\shp x):=by
 obtain⟨a | ⟨a,b⟩ | ⟨a,b⟩,c⟩:=(PT _ _ _).1 h
 .exact .inl a
 .exact .inr (.inl ⟨a,b,c⟩)
 .obtain⟨x,rfl⟩:=List.length_eq_one_iff.1 b
  exact .inr (.inr ⟨a,trivial,x,rfl,c x AW⟩)
theorem PS (n:B1):Aj n=0->shp n:=by
 refine Fv (λn=>Aj n=0->shp n) ?_ n;intro k e kids d f;refine(PT _ _ _).2 ?_;rcases Fg f with⟨a,rfl⟩ | ⟨a,i,g⟩ | ⟨a,_,x,rfl,b⟩
 .exact⟨.inl ⟨a,rfl⟩,λ_ h=>by cases h⟩
 .exact⟨.inr (.inl ⟨a,i⟩),λx b=>d x b (g x b)⟩
 .exact⟨.inr (.inr ⟨a,rfl⟩),λy c=>by obtain rfl:=List.mem_singleton.1 c;exact d y c b⟩
def step (s:Int × Int)(c:Int):Int × Int:=(if c=1 then s.1+1 else if c=4\/c=5\/c=11 then s.1 - 1 else s.1,if c=7 then s.2+1 else if c=9 then s.2 - 1 else s.2)
def Qw:Int × Int->List Dj->List (Int × Int)
 | _,[]=>[]
 | s,i::r=>step s i.code::Qw (step s i.code) r
def Vb:Int × Int->List (Int × Int)->Int × Int
 | p,[]=>p
 | p,s::r=>Vb (if p.1<s.1 then s.1 else p.1,if p.2<s.2 then s.2 else p.2) r
def PV (p s:Int × Int):Int × Int:=(if p.1<s.1 then s.1 else p.1,if p.2<s.2 then s.2 else p.2)
theorem Jb {l:List B5}(h:∀x∈l,Ba x):(∀x∈Af l,Ba x)/\Bc (Af l)<=400/\(Af l).length<=40:=by
 unfold Af;by_cases h0:(Am l).1=0
 .rw[if_pos h0]
  have hx:=λx hx=>Xu x (h x hx) yFe
  refine⟨λx e=>?_,?_,?_⟩
  .obtain⟨y,c,rfl⟩:=List.mem_map.1 e
   exact(hx y c).1
  .refine CB ?_ (Jk h0).2.2.1
   clear h h0;unfold Bc;induction l with
   | nil=>simp
   | cons x r d=>
    have a:=(hx x AW).2;have b:=d (λy c=>hx y (CH _ c));simp only[CN,Da] at b ⊢;omega
  .rw[CP];exact(Jk h0).2.1
 .rw[if_neg h0]
  exact⟨(λx hx=>by cases hx),by simp[Bc],AW⟩
def UpR:List (List Dj)->List B5->Prop
 | [],a=>a=[]
 | c::d,a=>∃x b i,a=x::b/\DW 1001 [] c x [i]/\UpR d b
def FW (xs:List B5):List B5 × Int:=if 0<(Am xs).1 then([],2) else(xs,0)
def Ky:B5->Prop
 | ⟨n,c,kids⟩=>Gi n/\(∀p∈kids.map Ky,p)/\∀a,kids=[a]->¬(c=[]\/Ai a.net=true)
def O6 (n:B1)(c:List Elem)(kids:List B5):Ky ⟨n,c,kids⟩↔Gi n/\(∀x∈kids,Ky x)/\∀a,kids=[a]->¬(c=[]\/Ai a.net=true):=by rw[Ky,all_map]
theorem pL {n:B1}(h:Gi n):netOf n=n:=by
 unfold netOf;split
 .rfl
 .rename_i a
  exact LO (h.resolve_left a)
def kj (a:B5):Ky a->Dv a=a:=by
 refine Fb (λa=>Ky a->Dv a=a) ?_ a;intro n c kids g h;obtain⟨i,f,d⟩:=(O6 _ _ _).1 h;have e:kids.map Dv=kids:=by
  have:kids.map Dv=kids.map id:=JY λx b=>g x b (f x b)
  rw[this,List.map_id]
 rw[Na,pL i,e];exact Yx _ d
def rO {l:List B5}(h:H5 l<=0):l=[]:=by
 have:=Nu l
 exact List.eq_nil_of_length_eq_zero AU
theorem RV:∀(f:Nat) (b:B5),H5 b.kids<=f->Gi b.net->(∀x∈b.kids,Ky x)->Ky (Ie f b)
 | 0,⟨n,s,kids⟩,c,a,_=>by
  simp only at c a;obtain rfl:=rO c;rw[Ie];exact(O6 _ _ _).2 ⟨a,λx r=>(by cases r),λj e=>(by cases e)⟩
 | f+1,⟨n,s,kids⟩,c,a,d=>by
  simp only at c a d;rw[Ie];split
  .rename_i j e
   simp only at e;subst e;split
   .obtain⟨o,i,l⟩:=j
    have m:=(O6 _ _ _).1 (d ⟨o,i,l⟩ AW);have q:=J4 ⟨o,i,l⟩;rw[Nn] at c;simp only at q;exact RV f _ yCd (U7 a m.1) m.2.1
   .rename_i g
    exact(O6 _ _ _).2 ⟨a,d,λk e=>by
     simp only[List.cons.injEq,F3] at e;subst e
     exact g⟩
  .rename_i g
   exact(O6 _ _ _).2 ⟨a,d,λk e=>absurd e (g k)⟩
def RQ (a:B5):Jo a->Ky (Dv a):=by
 refine Fb (λa=>Jo a->Ky (Dv a)) ?_ a;intro n c kids e h;have d:=(Oz _ _ _).1 h;rw[Na];unfold joined;refine RV _ _ (B7 _) (Qp d.1) λx f=>?_
 obtain⟨y,b,rfl⟩:=List.mem_map.1 f;exact e y b (d.2 y b)
def ie {a:B5}(h:Jo a):Dv (Dv a)=Dv a:=kj _ (RQ a h)
def Rb {n:B1}(h:Gi n):Ai n=true\/Aj n=0:=h.imp id λh=>h.2.2
theorem Rn {a:B5}:Cb a=0↔(Ai a.net=true\/Aj a.net=0)/\Dn a.coils=false/\¬(a.coils.length=0/\a.kids.length=0):=by
 have j:=Ji a.net;unfold Cb;constructor
 .intro h
  have c:¬(Ai a.net=false/\0<Aj a.net):=λb=>by rw[if_pos b] at h;omega
  rw[if_neg c] at h;cases b:Dn a.coils with
  | true=>rw[b,if_pos rfl] at h;omega
  | false=>
   rw[b,if_neg Ek] at h;refine⟨?_,rfl,λd=>by rw[if_pos d] at h;omega⟩;cases g:Ai a.net with
   | true=>exact .inl rfl
   | false=>
    have e:¬0<Aj a.net:=λx=>c ⟨g,x⟩
    exact .inr AU
 .rintro⟨c,d,i⟩
  have e:¬(Ai a.net=false/\0<Aj a.net):=by
   rintro⟨f,l⟩;rcases c with h | h
   .rw[h] at f;exact Bool.noConfusion f
   .omega
  rw[if_neg e,d,if_neg Ek,if_neg i]
def Ku {n:B1}{c:List Elem}{kids:List B5}:Bo ⟨n,c,kids⟩=0↔Cb ⟨n,c,kids⟩=0/\∀x∈kids,Bo x=0:=by
 have d:=O0 ⟨n,c,kids⟩;rw[Vq];constructor
 .intro h
  have a:Cb ⟨n,c,kids⟩=0:=by split at h<;>omega
  rw[if_neg AU] at h;exact⟨a,λx f=>Vh _ (λy hy=>by obtain⟨z,_,rfl⟩:=List.mem_map.1 hy;exact(Pg z).1) h _ (List.mem_map.2 ⟨x,f,rfl⟩)⟩
 .rintro⟨a,b⟩
  rw[if_neg AU];simp only;clear a d;induction kids with
  | nil=>rfl
  | cons x r e=>
   rw[CN,Ap,b x AW,if_neg AU];exact e (λy hy=>b y Bw)
def gi (a b:List Elem):Dn (a++b)=(Dn a || Dn b):=by simp[Dn]
theorem RU:∀(f:Nat) (b:B5),Ep b->Bo b=0->Bo (Ie f b)=0
 | 0,_,_,h=>h
 | f+1,⟨n,s,kids⟩,o,h=>by
  rw[Ie];split
  .rename_i m e
   simp only at e;subst e;split
   .have a:=Z8 o
    refine RU f _ a.1 ?_;obtain⟨r,l,q⟩:=m;have i:=Ku.1 h;have d:=Ku.1 (i.2 ⟨r,l,q⟩ AW);obtain⟨_,g,_⟩:=Rn.1 i.1;obtain⟨_,c,j⟩:=Rn.1 d.1;simp only at g c j;refine Ku.2 ⟨Rn.2 ⟨Rb (U7 a.2.1 a.2.2),?_,?_⟩,d.2⟩
    .simp only
     rw[gi,g,c];rfl
    .simp only[CO]
     omega
   .exact h
  .exact h
def kO (a:B5):Bo a=0->Bo (Dv a)=0:=by
 refine Fb (λa=>Bo a=0->Bo (Dv a)=0) ?_ a;intro n c kids j h;have e:=(Oz _ _ _).1 (TN _ h);obtain⟨l,i⟩:=Ku.1 h;obtain⟨_,f,g⟩:=Rn.1 l;simp only at f g;rw[Na];unfold joined;refine RU _ _ ((D8 _ _ _).2 ⟨Qp e.1,λx d=>?_⟩) (Ku.2 ⟨Rn.2 ⟨Rb (Qp e.1),f,by simpa using g⟩,λx d=>?_⟩)
 .obtain⟨y,b,rfl⟩:=List.mem_map.1 d
  exact Rz y (e.2 y b)
 .obtain⟨y,b,rfl⟩:=List.mem_map.1 d
  exact j y b (i y b)
theorem pZ {l:List B5}(h1:l.length<=40)(b:Bc l<=400)(a:∀x∈l,Ey x=0):Am l=(0,0):=by
 unfold Am;rw[if_neg AU];clear h1 b
 suffices ∀k,Ec l k=(0,0) from this 0
 induction l with
 | nil=>intro k;rfl
 | cons x r c=>
  intro k;rw[Ec,a x AW,if_neg AU];exact c (λy hy=>a y Bw) _
def pj {a:B5}(h1:Ai a.net=false)(b:Bo a=0):Ey a=0:=by
 unfold Ey;rw[h1,b];rfl
theorem Ve {l:List B5}(i:∀x∈l,Ba x)(h:(Am l).1=0):Am (Af l)=(0,0)/\Bc (Af l)<=Bc l/\(Af l).length=l.length/\Af (Af l)=Af l/\∀x∈Af l,Ba x:=by
 obtain⟨_,n,q,d⟩:=Jk h;have e:Af l=l.map Dv:=by unfold Af;rw[if_pos h]
 have f:=λx a=>Xu x (i x a) (by have:=(Jh h a).2;omega)
 have j:Bc (Af l)<=Bc l:=by
  rw[e];unfold Bc;rw[FY];exact WW _ _ _ λx a=>(f x a).2
 have c:Am (Af l)=(0,0):=by
  refine pZ (by rw[e,CP];exact n) AU λx a=>?_
  rw[e] at a;obtain⟨y,b,rfl⟩:=List.mem_map.1 a;exact pj (SH (Jh h b).1 (d y b).1) (kO y (d y b).2)
 refine⟨c,j,by rw[e,CP],?_,λx a=>?_⟩
 .obtain⟨m,g⟩:∃m,m=Af l:=⟨_,rfl⟩
  have o:Af (Af l)=(Af l).map Dv:=by
   rw[<-g] at c ⊢;unfold Af;rw[if_pos (by rw[c])]
  rw[o,e,FY];exact JY λx a=>ie (Jh h a).1
 .rw[e] at a
  obtain⟨y,b,rfl⟩:=List.mem_map.1 a;exact(f y b).1
def Pz:List Dj->List B1->List B1->Prop
 | [],a,t=>a=t
 | i::r,a,t=>1<=i.code/\i.code<7/\needs i.code<=(a.length:Int)/\Pz r (E1 i.code i.one a) t
theorem Pz.append:∀{l m:List Dj} {a b c:List B1},Pz l a b->Pz m b c->Pz (l++m) a c
 | [],_,_,_,_,h,k=>by cases h;exact k
 | _::_,_,_,_,_,h,k=>⟨h.1,h.2.1,h.2.2.1,Pz.append h.2.2.2 k⟩
theorem Pz.net:∀{l r:List Dj} {a t:List B1} {n:B1} {b:List Dj},Pz l a t->D4 t r n b->D4 a (l++r) n b
 | [],_,_,_,_,_,h,k=>by cases h;exact k
 | _::_,_,_,_,_,_,h,k=>by
  rw[CY,D4,if_pos h.2.1];exact⟨h.1,h.2.2.1,Pz.net h.2.2.2 k⟩
def WE {n:B1}(h:fine n):∀x∈n.kids,fine x:=λx a=>
 ⟨((Om n).1 h.1).2 x a,((L9 n).1 h.2.1).2 x a,Lc h.2.2 x a⟩
theorem rK (c:k=2\/k=3){a y:B1}(f:a.kind≠0)(i:y.kind≠0)(h:y.kind=1->y=H8 y.one)(g:∀st,Pz (C9 y) st (y::st))(st:List B1):
  Pz (D5 k y) (a::st) (Q3 k a y::st):=by
 by_cases d:y.kind=1
 .rw[Ju k y d]
  have e:E1 k y.one (a::st)=Q3 k a y::st:=by
   have b:Kv k a (H8 y.one)=Q3 k a y:=by unfold Kv;rw[if_neg f,<-h d]
   rcases c with rfl | rfl
   .show Kv 2 a (H8 y.one)::st=_;rw[b]
   .show Kv 3 a (H8 y.one)::st=_;rw[b]
  refine⟨by show 1<=k;omega,by show k<7;omega,?_,e⟩;show needs k<=((a::st).length:Int)
  rw[CC];rcases c with rfl | rfl
  .show(1:Int)<=_;omega
  .show(1:Int)<=_;omega
 .rw[Ik k y d]
  refine(g (a::st)).append ?_;have e:E1 (k+2) ⟨0,[]⟩ (y::a::st)=Q3 k a y::st:=by
   have b:Kv k a y=Q3 k a y:=by unfold Kv;rw[if_neg f]
   rcases c with rfl | rfl
   .show Kv 2 a y::st=_;rw[b]
   .show Kv 3 a y::st=_;rw[b]
  refine⟨by show 1<=k+2;omega,by show k+2<7;omega,?_,e⟩;show needs (k+2)<=((y::a::st).length:Int)
  rw[CC,CC];rcases c with rfl | rfl
  .show(2:Int)<=_;omega
  .show(2:Int)<=_;omega
theorem M5 (c:k=2\/k=3):∀(r:List B1) (a:B1),a.kind≠0->(∀y∈r,y.kind≠0/\y.kind≠k/\(y.kind=1->y=H8 y.one)/\∀b,Pz (C9 y) b (y::b))->∀b,
  Pz ((r.map (D5 k)).flatten) (a::b) ((if r=[] then a else⟨k,⟨0,[]⟩,opn k a++r⟩)::b)
 | [],a,_,_,b=>rfl
 | y::r,a,j,h,b=>by
  obtain⟨n,e,l,i⟩:=h y AW;rw[CN,DV];refine(rK c j n l i b).append ?_;have o:(Q3 k a y).kind≠0:=by show k≠0;omega
  have:=M5 c r (Q3 k a y) o (λz m=>h z (CH _ m)) b
  have f:opn k (Q3 k a y)=opn k a++[y]:=by
   unfold opn;rw[if_pos (show(Q3 k a y).kind=k from rfl)];show opn k a++opn k y=_
   unfold opn;rw[if_neg e]
  have g:Q3 k a y=⟨k,⟨0,[]⟩,opn k a++[y]⟩:=by
   show(⟨k,⟨0,[]⟩,opn k a++opn k y⟩:B1)=_
   congr 2;unfold opn;rw[if_neg e]
  rw[if_neg AW];by_cases d:r=[]
  .subst d
   rw[if_pos rfl] at this;rw[<-g];exact this
  .rw[if_neg d,f,C6] at this
   exact this
theorem Ul {n:B1}(h:fine n):n.kind≠0:=by
 obtain⟨k,e,kids⟩:=n;rcases Fg h.2.2 with⟨a,_⟩ | ⟨a,_⟩ | ⟨a,_⟩
 .show k≠0;omega
 .show k≠0;omega
 .show k≠0;omega
theorem Tm {n:B1}(h:fine n)(h1:n.kind=1):n=H8 n.one:=by
 obtain⟨k,e,kids⟩:=n;obtain rfl:k=1:=h1;rcases Fg h.2.2 with⟨_,rfl⟩ | ⟨h1,_⟩ | ⟨h1,_⟩
 .rfl
 .omega
 .omega
theorem Zy (n:B1):fine n->∀a,Pz (C9 n) a (n::a):=by
 refine Fv (λn=>fine n->∀a,Pz (C9 n) a (n::a)) ?_ n;intro k e kids g h a;have b:=WE h;rcases Fg h.2.2 with⟨rfl,rfl⟩ | ⟨o,m,_⟩ | ⟨rfl,d,x,rfl,_⟩
 .rw[Lu]
  exact⟨by show(1:Int)<=1;decide,by show(1:Int)<7;decide,by show(0:Int)<=_;omega,rfl⟩
 .obtain⟨x,r,rfl⟩:∃x r,kids=x::r:=by
   cases kids with
   | nil=>simp at m
   | cons x r=>exact⟨x,r,rfl⟩
  have i:=(Om _).1 h.1;have f:k=2\/k=3:=o;obtain⟨q,hd⟩:=i.1 f;have j:r≠[]:=by rintro rfl;exact q rfl
  rw[Jr e x r AU AU];refine(g x AW (b x AW) a).append ?_;have:=M5 f r x (Ul (b x AW)) (λy c=>⟨Ul (b y (CH _ c)),hd y (CH _ c),Tm (b y (CH _ c)),g y (CH _ c) (b y (CH _ c))⟩) a
  rw[if_neg j] at this;have l:opn k x=[x]:=by unfold opn;rw[if_neg (hd x AW)]
  have d:e=⟨0,[]⟩:=((L9 _).1 h.2.1).1 f;rw[l] at this;rw[d];exact this
 .rw[L6]
  refine(g x AW (b x AW) a).append ?_;rw[d];exact⟨AZ,AZ,by show(1:Int)<=((x::a).length:Int);rw[CC];omega,rfl⟩
theorem D4.stop {l:List Dj}(n:B1)(h:7<=E8 l):D4 [n] l n l:=by
 cases l with
 | nil=>exact absurd h AZ
 | cons i r=>
  rw[D4,if_neg (by have a:7<=i.code:=h;omega)];exact⟨rfl,rfl⟩
theorem Rq.stop {m:List Dj}(h0:E8 m≠0)(h:E8 m≠10):∀(a:List Elem),Rq (Gj a++m) a m
 | []=>by
  show Rq m [] m
  cases m with
  | nil=>exact absurd rfl h0
  | cons i r=>rw[Rq,if_neg (show ¬i.code=10 from h)];exact⟨rfl,rfl⟩
 | c::a=>by
  show Rq (⟨10,c⟩::(Gj a++m)) (c::a) m
  rw[Rq,if_pos rfl];exact⟨a,rfl,Rq.stop h0 h a⟩
theorem Pz.head {l:List Dj}{a b:List B1}(h:Pz l a b)(c:l≠[])(x:List Dj):1<=E8 (l++x)/\E8 (l++x)<7:=by
 cases l with
 | nil=>exact absurd rfl c
 | cons i r=>exact⟨h.1,h.2.1⟩
theorem Xj {n:B1}(h:Gi n):Pz (Be n) [Hz] [n]:=by
 unfold Be Bh;by_cases d:Ai n=true
 .rw[if_pos d,W9 d]
  exact rfl
 .have a:=h.resolve_left d
  rw[if_neg d];have one:∀x:B1,fine x->Pz (D5 2 x) [Hz] [x]:=by
   intro x j;by_cases c:x.kind=1
   .rw[Ju 2 x c]
    refine⟨by show(1:Int)<=2;decide,by show(2:Int)<7;decide,by show(1:Int)<=1;decide,?_⟩;show Kv 2 Hz (H8 x.one)::[]=[x]
    rw[<-Tm j c];rfl
   .rw[Ik 2 x c]
    refine(Zy x j [Hz]).append ?_;exact⟨by show(1:Int)<=4;decide,by show(4:Int)<7;decide,by show(2:Int)<=2;decide,rfl⟩
  by_cases g:n.kind=2
  .rw[if_pos g]
   obtain⟨k,e,kids⟩:=n;obtain rfl:k=2:=g;rcases Fg a.2.2 with⟨c,_⟩ | ⟨_,q,_⟩ | ⟨c,_⟩
   .omega
   .obtain⟨x,r,rfl⟩:∃x r,kids=x::r:=by
     cases kids with
     | nil=>simp at q
     | cons x r=>exact⟨x,r,rfl⟩
    have b:=WE a;have i:=((Om _).1 a.1).1 (.inl rfl);have l:r≠[]:=by rintro rfl;exact i.1 rfl
    show Pz (((x::r).map (D5 2)).flatten) _ _
    rw[CN,DV];refine(one x (b x AW)).append ?_;have:=M5 (.inl rfl) r x (Ul (b x AW)) (λy f=>⟨Ul (b y (CH _ f)),i.2 y (CH _ f),Tm (b y (CH _ f)),Zy y (b y (CH _ f))⟩) []
    rw[if_neg l] at this;have o:opn 2 x=[x]:=by unfold opn;rw[if_neg (i.2 x AW)]
    have m:e=⟨0,[]⟩:=((L9 _).1 a.2.1).1 (.inl rfl);rw[o] at this;rw[m];exact this
   .omega
  .rw[if_neg g]
   show Pz ([D5 2 n].flatten) _ _
   rw[DV,JX,EO];exact one n a
theorem Y8 {a:B5}(h:Ky a):Gi a.net:=by
 obtain⟨n,c,k⟩:=a;exact((O6 n c k).1 h).1
def Ea (n:Nat):Nat->List B5->List Dj
 | _,[]=>[]
 | i,k::t=>Ho n i k++Ea n (i+1) t
theorem TI (n:Nat):∀(b:List B5) (i:Nat),(b.mapIdx (λj a=>Ho n (i+j) a)).flatten=Ea n i b
 | [],_=>rfl
 | k::t,i=>by
  rw[List.mapIdx_cons,DV,Ea,<-TI n t (i+1)];congr 3;funext j a;rw[Nat.add_assoc,Nat.add_comm 1 j]
def Nl (n:B1)(cs:List Elem)(kids:List B5):Bj ⟨n,cs,kids⟩=Gj cs++Ea kids.length 0 kids:=by
 rw[U5,<-TI];congr 3;funext j a;rw[Cd]
def JJ (r:List Dj):Prop:=E8 r=8\/E8 r=9\/E8 r=11
theorem TX {P:List Dj->B5->List Dj->Prop}{n:Nat}(e:n≠1):∀(a:List B5) (i:Nat),i+a.length=n->a≠[]->(∀k∈a,∀r,JJ r->P (Be k.net++(Bj k++r)) k r)->∀r,JJ r->J5 P a (Ea n i a++r) r
 | [],_,_,h,_,_,_=>absurd rfl h
 | k::t,i,hi,_,f,r,g=>by
  rw[CC] at hi;rw[Ea];unfold Ho F4 Eb;rw[if_neg e];by_cases b:t=[]
  .subst b
   simp only[CM] at hi;rw[if_neg AU,if_pos AU];have:=f k AW r g
   show J5 P [k] (Hg 9::((Be k.net++Bj k)++Ea n (i+1) []++r)) r
   rw[J5,if_pos rfl];refine⟨rfl,?_⟩;rw[Ea,EO,C6];exact this
  .have u:0<t.length:=List.length_pos_iff.2 b
   have m:JJ (Ea n (i+1) t++r):=by
    obtain⟨y,d,rfl⟩:∃y d,t=y::d:=by
     cases t with
     | nil=>exact absurd rfl b
     | cons y d=>exact⟨y,d,rfl⟩
    rw[Ea];unfold Ho F4 Eb;rw[if_neg e,if_neg AU];split
    .exact .inr (.inl rfl)
    .exact .inl rfl
   have s:=f k AW _ m;have l:=TX e t (i+1) AU b (λk o=>f k (CH _ o)) r g;have step:∀c:Int,(c=7\/c=8)->J5 P (k::t) (Hg c::((Be k.net++Bj k)++Ea n (i+1) t++r)) r:=by
    intro c q;rw[J5,if_neg b];refine⟨q,Ea n (i+1) t++r,?_,l⟩;rw[C6,C6];exact s
   by_cases j:i=0
   .rw[if_pos j]
    exact step 7 (.inl rfl)
   .rw[if_neg j,if_neg AU]
    exact step 8 (.inr rfl)
theorem xE (a:B5):Ky a->∀f,Ah a<=f->∀g L,Pz L g [a.net]->∀r,JJ r->DW f g (L++(Bj a++r)) a r:=by
 refine Fb (λa=>Ky a->∀f,Ah a<=f->∀g L,Pz L g [a.net]->∀r,JJ r->DW f g (L++(Bj a++r)) a r) ?_ a;intro n b kids M h f Q g L F r d;obtain⟨N,l,u⟩:=(O6 _ _ _).1 h;have G:=J4 ⟨n,b,kids⟩;obtain⟨i,rfl⟩:∃i,f=i+1:=⟨f - 1,AU⟩
 have P:H5 kids<=i:=by have O:1+H5 kids<=Ah ⟨n,b,kids⟩:=G;omega
 have j:∀k∈kids,∀r,JJ r->DW i [Hz] (Be k.net++(Bj k++r)) k r:=by
  intro k o r d;have R:Ah k<=H5 kids:=Em Ah kids k o;have m:Gi k.net:=Y8 (l k o);exact M k o (l k o) i AU [Hz] (Be k.net) (Xj m) r d
 have y:E8 r≠0:=by rcases d with h | h | h<;>omega
 rw[Nl,C6];have fin:E8 (Ea kids.length 0 kids++r)≠0->E8 (Ea kids.length 0 kids++r)≠10->(b=[]->7<=E8 (Ea kids.length 0 kids++r))->
   JR (DW i [Hz]) kids (Ea kids.length 0 kids++r) r->DW (i+1) g (L++(Gj b++(Ea kids.length 0 kids++r))) ⟨n,b,kids⟩ r:=by
  intro J E C B;refine⟨Gj b++(Ea kids.length 0 kids++r),Ea kids.length 0 kids++r,F.net (D4.stop n ?_),Rq.stop J E b,B⟩;cases b with
  | nil=>exact C rfl
  | cons c b=>show(7:Int)<=10;decide
 match kids,l,u,j,fin with
 | [],_,_,_,fin=>
  refine fin y ?_ (λ_=>?_) (.inl ⟨d,rfl,rfl⟩)
  .show E8 r≠10
   rcases d with h | h | h<;>omega
  .show 7<=E8 r
   rcases d with h | h | h<;>omega
 | [k],l,u,j,fin=>
  have w:=u k rfl;have H:b≠[]:=λh=>w (.inl h)
  have I:¬Ai k.net=true:=λh=>w (.inr h)
  have m:Gi k.net:=Y8 (l k AW);have v:=Xj m;have A:Be k.net≠[]:=by
   intro e;rw[e] at v;have D:Hz=k.net:=by
    have z:[Hz]=[k.net]:=v;injection z
   exact Ul (m.resolve_left I) (by rw[<-D];rfl)
  have K:Ea [k].length 0 [k]++r=Be k.net++(Bj k++r):=by
   show(([]:List Dj)++(Be k.net++Bj k))++[]++r=_
   rw[C3,EO,C6]
  have s:=v.head A (Bj k++r);rw[K] at fin ⊢;exact fin AU AU (λh=>absurd h H) (.inr (.inl ⟨s.1,s.2,k,rfl,j k AW r d⟩))
 | k::q::t,_,_,j,fin=>
  have x:(k::q::t).length≠1:=AW
  have hF:=TX x (k::q::t) 0 AW AW j r d;have s:E8 (Ea (k::q::t).length 0 (k::q::t)++r)=7:=by
   rw[Ea];unfold Ho F4 Eb;rw[if_neg x,if_pos rfl];rfl
  exact fin AU AU (λ_=>by omega) (.inr (.inr ⟨s,hF⟩))
def pu {a:B5}(h:Ky a)(b:fine a.net){f:Nat}(c:Ah a<=f):DW f [] (Ef a) a [Hg 11]:=
 xE a h f c [] (C9 a.net) (Zy a.net b []) [Hg 11] (.inr (.inr rfl))
end Stil
namespace Go.Proofs.YtfeablpbkcgdjaaGreatDoor
open Go.RowKit Go.Sort Go.BigFrame
def JO (w:World)(b o:Nat)(i:Stil.Dj):Prop:=w.cell? ⟨b,o,none⟩=some (.int .i64 i.code)/\w.cell? ⟨b,o+1,none⟩=some (.int .i64 i.one.op)/\∃a,w.cell? ⟨b,o+2,none⟩=some a/\Ak w a i.one.args
def Hu (w:World)(v:Value)(l:List Stil.Dj):Prop:=∃a cap,v=.slice a l.length cap/\∀i (h:i<l.length),∃b o,a=some ⟨b,o,none⟩/\b<w.heap.size/\JO w b (o+i*3) l[i]
def JO.below {w w':World}{b o:Nat}{i:Stil.Dj}(h:JO w b o i)(a:Below w.heap.size w w')(c:b<w.heap.size):JO w' b o i:=by
 obtain⟨j,g,d,f,e⟩:=h;exact⟨by rw[a.cell (p:=⟨b,o,none⟩) c];exact j,by rw[a.cell (p:=⟨b,o+1,none⟩) c];exact g,d,by rw[a.cell (p:=⟨b,o+2,none⟩) c];exact f,e.below a⟩
def Hu.below {w w':World}{v:Value}{l:List Stil.Dj}(h:Hu w v l)(hb:Below w.heap.size w w'):Hu w' v l:=by
 exact zBa
def GV (w:World)(b:Nat)(s:Stil.Pt):Prop:=b<w.heap.size/\w.cell? ⟨b,0,none⟩=some (.int .i64 s.bits)/\w.cell? ⟨b,1,none⟩=some (.int .i64 s.forks)/\w.cell? ⟨b,2,none⟩=some (.bool s.seen)/\w.cell? ⟨b,3,none⟩=some (.bool s.coil)/\
 w.frozen? ⟨b,0,none⟩=false/\w.frozen? ⟨b,1,none⟩=false/\w.frozen? ⟨b,2,none⟩=false/\w.frozen? ⟨b,3,none⟩=false
def GV.below {w w':World}{b:Nat}{s:Stil.Pt}(h:GV w b s)(a:Below w.heap.size w w'):GV w' b s:=by
 obtain⟨c,l,i,f,e,j,g,m,d⟩:=h
 exact⟨B8 c a.size,(a.cell (p:=⟨b,0,none⟩) c).trans l,(a.cell (p:=⟨b,1,none⟩) c).trans i,(a.cell (p:=⟨b,2,none⟩) c).trans f,(a.cell (p:=⟨b,3,none⟩) c).trans e,
  (a.frozen (p:=⟨b,0,none⟩) c).trans j,(a.frozen (p:=⟨b,1,none⟩) c).trans g,(a.frozen (p:=⟨b,2,none⟩) c).trans m,(a.frozen (p:=⟨b,3,none⟩) c).trans d⟩
theorem Lj {W:World}{p q:Addr}{v:Value}:(W.setCell p v).frozen? q=W.frozen? q:=by simp[go_sem]
theorem GV.stored {w:World}{b:Nat}{s:Stil.Pt}(h:GV w b s)(t:Stil.Pt):GV ((((w.setCell ⟨b,0,none⟩ (.int .i64 t.bits)).setCell ⟨b,1,none⟩ (.int .i64 t.forks)).setCell ⟨b,2,none⟩ (.bool t.seen)).setCell ⟨b,3,none⟩ (.bool t.coil)) b t:=by
 obtain⟨e,f,d,c,a,j,i,l,g⟩:=h;refine⟨?_,?_,?_,?_,?_,?_,?_,?_,?_⟩
 .exact B8 e (CB (Jm _ _ _) (CB (Jm _ _ _) (CB (Jm _ _ _) (Jm _ _ _))))
 .exact(Eg AU).trans ((Eg AU).trans ((Eg AU).trans (Fp f)))
 .exact(Eg AU).trans ((Eg AU).trans (Fp ((Eg AU).trans d)))
 .exact(Eg AU).trans (Fp ((Eg AU).trans ((Eg AU).trans c)))
 .exact Fp ((Eg AU).trans ((Eg AU).trans ((Eg AU).trans a)))
 all_goals exact Lj.trans (Lj.trans (Lj.trans (Lj.trans BA)))
