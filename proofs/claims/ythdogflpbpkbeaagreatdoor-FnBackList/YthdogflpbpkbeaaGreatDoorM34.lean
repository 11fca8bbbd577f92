import Derived.Test.YthdogflpbpkbeaaGreatDoorM40
import Derived.Test.YthdogflpbpkbeaaGreatDoorCB6
set_option linter.defProp false
namespace Stil
variable {c k:Int}
def run:Pt->AP->Option Pt
 |s,[]=>some s
 |s,i::r=>if 0<wrong s i then none else run (next s i.code) r
theorem jr(l:AP):∀(s:Pt)(k:Nat),(Gf s k l).1=0↔∃t,run s l=some t/\¬0<t.bits:=by
 induction l with
 |nil=>intro s k;rw[Gf,run];by_cases h:0<s.bits;{rw[BR h];constructor;{intro b;simp at b};rintro⟨t,a,b⟩;(injection a with a);subst a;exact absurd h b};rw[BQ h];exact⟨λ_=>⟨s,rfl,h⟩,λ_=>rfl⟩
 |cons i r d=>intro s k;rw[Gf,run];by_cases h:0<wrong s i;{rw[BR h,BR h];constructor;{intro b;simp only at b;omega};rintro⟨t,a,_⟩;cases a};rw[BQ h,BQ h];exact d _ _
def Aun(a b:AP):∀s,run s (a++b)=(run s a).bind λt=>run t b:=by induction a with|nil=>intro s;rfl|cons i r d=>intro s;rw[EA,run,run];split;{rfl};exact d _
theorem lJ(l:AP):∀(s t:Pt),s.good->run s l=some t->t.good:=by induction l with|nil=>intro s t g h;injection h with h;subst h;exact g|cons i r a=>intro s t g h;rw[run]at h;split at h;{cases h};rename_i d;have b:=Om s i;exact a _ _ (Vu g BS) h
theorem OA{s:Pt}{i:Ar}(h:wrong s i=0)(d:i.code≠11):0<(next s i.code).bits:=by
 have⟨e,a,_⟩:=Iu h;unfold next
 rw[BQ d];unfold needs at a;show 0<(if i.code=1 then s.bits+1 else if i.code=4\/i.code=5 then s.bits - 1 else s.bits);split
 .rename_i b;rw[BR b]at a;omega
 rename_i b;rw[BQ b]at a;split at a<;>split<;>omega
def ek(s:Pt){i:Ar}(h:i.code=11):next s i.code=pt0:=by
 unfold next
 rw[BR h]
theorem dz(l:AP):∀(a:AP)(s:Pt),run pt0 a=some s->(∀x∈a,x.code≠11)->(a=[]\/0<s.bits)->(∃t,run s l=some t/\¬0<t.bits)->
  (Dp a l).flatten=a++l/\(∀b,Dp a (l++b)=Dp a l++Dp [] b)/\∀r∈Dp a l,run pt0 r=some pt0/\∃y i,r=y++[i]/\i.code=11/\∀x∈y,x.code≠11:=by
 induction l with
 |nil=>
  rintro a s v g w⟨t,d,f⟩;injection d with d
  subst d;have F:a=[]:=by rcases w with h|h;exact h;exact absurd h f
  subst F;exact⟨rfl,λb=>rfl,λr A=>by cases A⟩
 |cons i r z=>
  rintro a s v g w⟨t,d,f⟩;rw[run]at d;split at d;{cases d};rename_i C;have G:=Om s i;have E:wrong s i=0:=BS;have m:run pt0 (a++[i])=some (next s i.code):=by rw[Aun,v];show run s [i]=_;rw[run,BQ C,run]
  by_cases e:i.code=11;{have B:=ek s e;rw[B]at d m;have⟨n,j,o⟩:=z [] pt0 rfl BU (.inl rfl) ⟨t,d,f⟩;rw[Dp,BR e];refine⟨by rw[ER,n];simp,λb=>by rw[EA,Dp,BR e,j,EA],λq u=>?_⟩;rcases BD.1 u with rfl|u;{exact⟨m,a,i,rfl,e,g⟩};exact o q u};have⟨n,j,o⟩:=z (a++[i]) (next s i.code) m (λx D=>by rcases BI.1 D with h|h;exact g x h;rwa[BB.1 h]) (.inr (OA E e)) ⟨t,d,f⟩;rw[Dp,BQ e];exact⟨by rw[n];simp,λb=>by rw[EA,Dp,BQ e,j],o⟩
def kf(xs:AP)(i:Ar)(h:i.code=11):∀a,(∀x∈xs,x.code≠11)->Dp a (xs++[i])=[a++xs++[i]]:=by induction xs with|nil=>intro a _;rw[ED,Dp,BR h,Dp];simp|cons x r d=>intro a b;rw[EA,Dp,BQ (b x BU),d _ (λy hy=>b y DJ)];simp
theorem Ua{l:AP}:(Az l).1=0↔l.length<=1000/\∃t,run pt0 l=some t/\¬0<t.bits:=by
 unfold Az;by_cases h:1000<l.length
 .rw[BR h];constructor;{intro a;simp at a};rintro⟨a,_⟩;omega
 rw[BQ h,jr];exact⟨λa=>⟨BS,a⟩,λa=>a.2⟩
def cA{l:AP}(h:(Az l).1=0):Az l=(0,0):=by have:=N7 l BS;exact Prod.ext this.1 this.2
def Y0{l:AP}(h:(Az l).1=0):(Ej l).flatten=l/\∀r∈Ej l,Az r=(0,0)/\(Ej r).length=1:=by
 have⟨s,n⟩:=Ua.1 h;have⟨g,_,j⟩:=dz l [] pt0 rfl BU (.inl rfl) n;have e:Ej l=Dp [] l:=by unfold Ej;rw[BQ BS]
 rw[e];refine⟨by simpa using g,λr a=>?_⟩;obtain⟨m,b,i,rfl,o,f⟩:=j r a;have d:=(VZ l [] _ a).2.2;have q:(Az (b++[i])).1=0:=Ua.2 ⟨by simp at d⊢;omega,pt0,m,BX⟩;refine⟨cA q,?_⟩;unfold Ej;rw[BQ BS,kf b i o [] f];rfl
def opn(k:Int)(n:DK):Ξ:=if n.kind=k then n.K else [n]
def Jv(k:Int)(a b:DK):DK:=⟨k,⟨0,[]⟩,opn k a++opn k b⟩
def Gz(k:Int)(a b:DK):DK:=if a.kind=0 then b else Jv k a b
def Fe(e:Elem):DK:=⟨1,e,[]⟩
def II(a:DK):DK:=⟨4,⟨0,[]⟩,[a]⟩
def Ha:DK:=⟨0,⟨0,[]⟩,[]⟩
def Lt(c:Int)(e:Elem)(st:Ξ):Ξ:=
 if c=1 then Fe e::st
 else if c=2 then(match st with|a::r=>Gz 2 a (Fe e)::r|[]=>[])
 else if c=3 then(match st with|a::r=>Gz 3 a (Fe e)::r|[]=>[])
 else if c=4 then(match st with|a::b::r=>Gz 2 b a::r|s=>s)
 else if c=5 then(match st with|a::b::r=>Gz 3 b a::r|s=>s)
 else(match st with|a::r=>II a::r|[]=>[])
def fq(n:DK):Prop:=Ci n/\1<=n.kind
def F6(a:DK)(r:Ξ):sizes (a::r)=Ad a+sizes r:=xCg
def Tq:sizes []=0:=rfl
def Q4(k:Int)(a:DK):sizes (opn k a)<=Ad a:=by
 unfold opn;split
 .rw[Dn];omega
 rw[F6,Tq];omega
def eW{a:DK}(h:Ci a):∀x∈opn k a,Ci x:=by
 unfold opn;split
 .exact(Ea h).2.2.2
 intro x b;rwa[BB.1 b]
def lj(k:Int)(a b:DK):Ad (Jv k a b)<=1+Ad a+Ad b:=by rw[Dn];have e:=Q4 k a;have f:=Q4 k b;have d:=Ov (opn k a) (opn k b);show 1+sizes (opn k a++opn k b)<=_;omega
theorem Q6:Elem.fits ⟨0,[]⟩:=⟨⟨BU,BU⟩,BU,(λd hd=>by cases hd)⟩
theorem lp{a b:DK}(g:i64 k)(e:Ci a)(f:Ci b)(m:Ad a+Ad b<=1000000):Ci (Jv k a b):=by
 unfold Jv;rw[G6];refine⟨g,Q6,?_,λx d=>?_⟩
 .have i:=Q4 k a;have j:=Q4 k b;have l:=Ov (opn k a) (opn k b);have h:=Gg (opn k a++opn k b);omega
 rcases BI.1 d with d|d
 .exact eW e x d
 exact eW f x d
def fR(k:Int)(a b:DK):Ad (Gz k a b)<=1+Ad a+Ad b:=by
 unfold Gz;split
 .omega
 exact lj k a b
theorem va{e:Elem}(h:e.fits):fq (Fe e):=by unfold Fe;refine⟨?_,by show(1:Int)<=1;decide⟩;rw[G6];exact⟨⟨BX,BX⟩,h,BU,(λd hd=>by cases hd)⟩
def V5(e:Elem):Ad (Fe e)=1:=by rw[Dn];rfl
def kl(a:DK):Ad (II a)=1+Ad a:=by rw[Dn];show 1+sizes [a]=_;rw[F6,Tq];omega
def X5:Ξ->AP->DK->AP->Prop
 |_,[],_,_=>False
 |st,i::r,n,a=>if i.code<7 then 1<=i.code/\needs i.code<=(st.length:Int)/\X5 (Lt i.code i.O st) r n a else st=[n]/\a=i::r
def Lp:AP->Ω->AP->Prop
 |[],_,_=>False
 |i::r,d,a=>if i.code=10 then ∃b,d=i.O::b/\Lp r b a else d=[]/\a=i::r
def Ip(P:AP->DL->AP->Prop):Ek->AP->AP->Prop
 |a::b,i::l,r=>if b=[] then i.code=9/\P l a r else(i.code=7\/i.code=8)/\∃m,P l a m/\Ip P b m r
 |_,_,_=>False
def Dx:AP->Int
 |[]=>0
 |i::_=>i.code
def K3(P:AP->DL->AP->Prop)(ks:Ek)(l r:AP):Prop:=
 ((Dx l=8\/Dx l=9\/Dx l=11)/\ks=[]/\r=l)\/(1<=Dx l/\Dx l<7/\∃a,ks=[a]/\P l a r)\/(Dx l=7/\Ip P ks l r)
def Wl:Nat->Ξ->AP->DL->AP->Prop
 |0,_,_,_,_=>False
 |n+1,e,l,a,r=>∃d b,X5 e l a.N d/\Lp d a.C b/\K3 (Wl n [Ha]) a.K b r
theorem X5.suffix:∀{l:AP}{b:Ξ}{n:DK}{a:AP},X5 b l n a->a<:+l/\7<=Dx a
 |[],_,_,_,h=>h.elim
 |i::r,b,n,a,h=>by
  rw[X5]at h;split at h
  .have⟨d,e⟩:=X5.suffix h.2.2
   exact⟨d.trans (List.suffix_cons i r),e⟩
  .rename_i f
   rw[h.2];exact⟨List.suffix_refl _,by show 7<=i.code;omega⟩
theorem Lp.suffix:∀{l:AP}{b:Ω}{a:AP},Lp l b a->a<:+l/\Dx a≠10/\b.length+a.length=l.length
 |[],_,_,h=>h.elim
 |i::r,b,a,h=>by
  rw[Lp]at h;split at h
  .obtain⟨g,rfl,h⟩:=h
   have⟨d,e,j⟩:=Lp.suffix h;exact⟨d.trans (List.suffix_cons i r),e,yBf⟩
  .rename_i f
   obtain⟨rfl,rfl⟩:=h;exact⟨List.suffix_refl _,f,BU⟩
theorem Ip.suffix{P:AP->DL->AP->Prop}(d:∀l a r,P l a r->r<:+l):∀{f:Ek}{l r:AP},Ip P f l r->r<:+l/\r.length<l.length
 |[],_,_,h=>by simp[Ip]at h
 |_::_,[],_,h=>by simp[Ip]at h
 |a::f,i::l,r,h=>by
  rw[Ip]at h;split at h
  .have b:=d _ _ _ h.2
   exact⟨b.trans (List.suffix_cons i l),by have:=b.length_le;simp only[DT];omega⟩
  .obtain⟨_,m,b,g⟩:=h
   have j:=Ip.suffix d g;have e:=d _ _ _ b;exact⟨(j.1.trans e).trans (List.suffix_cons i l),by have:=e.length_le;simp only[DT];omega⟩
theorem K3.suffix{P:AP->DL->AP->Prop}(b:∀l a r,P l a r->r<:+l){ks:Ek}{l r:AP}(h:K3 P ks l r):r<:+l:=by
 rcases h with⟨_,_,rfl⟩|⟨_,_,a,_,h⟩|⟨_,h⟩
 .exact List.suffix_refl _
 .exact b _ _ _ h
 exact(Ip.suffix b h).1
theorem Wl.suffix:∀{n:Nat}{b:Ξ}{l:AP}{a:DL}{r:AP},Wl n b l a r->r<:+l
 |0,_,_,_,_,h=>h.elim
 |n+1,b,l,a,r,h=>by
  obtain⟨i,g,d,e,f⟩:=h;exact((K3.suffix (λl a r h=>Wl.suffix h) f).trans e.suffix.1).trans d.suffix.1
theorem X5.more(x:AP):∀{l:AP}{d:Ξ}{n:DK}{b:AP},X5 d l n b->X5 d (l++x) n (b++x)
 |[],_,_,_,h=>h.elim
 |i::r,d,n,b,h=>by
  rw[X5]at h;rw[EA,X5];split at h
  .rename_i a
   rw[BR a];exact⟨h.1,h.2.1,X5.more x h.2.2⟩
  .rename_i a
   rw[BQ a,h.2];exact⟨h.1,rfl⟩
theorem Lp.more(x:AP):∀{l:AP}{d:Ω}{b:AP},Lp l d b->Lp (l++x) d (b++x)
 |[],_,_,h=>h.elim
 |i::r,d,b,h=>by
  rw[Lp]at h;rw[EA,Lp];split at h
  .rename_i a
   rw[BR a];obtain⟨f,e,h⟩:=h;exact⟨f,e,Lp.more x h⟩
  .rename_i a
   rw[BQ a,h.2];exact⟨h.1,rfl⟩
theorem Ip.more{P:AP->DL->AP->Prop}(x:AP)(e:∀l a r,P l a r->P (l++x) a (r++x)):∀{d:Ek}{l r:AP},Ip P d l r->Ip P d (l++x) (r++x)
 |[],_,_,h=>by simp[Ip]at h
 |_::_,[],_,h=>by simp[Ip]at h
 |a::d,i::l,r,h=>by
  rw[Ip]at h;rw[EA,Ip];split at h
  .rename_i b
   rw[BR b];exact⟨h.1,e _ _ _ h.2⟩
  .rename_i b
   rw[BQ b];obtain⟨j,m,f,g⟩:=h;exact⟨j,m++x,e _ _ _ f,Ip.more x e g⟩
theorem Pq{l:AP}(x:AP)(h:Dx l≠0):Dx (l++x)=Dx l:=by cases l with|nil=>exact absurd rfl h|cons i r=>rfl
theorem Wl.more(x:AP):∀{n:Nat}{f:Ξ}{l:AP}{a:DL}{r:AP},Wl n f l a r->Wl n f (l++x) a (r++x)
 |0,_,_,_,_,h=>h.elim
 |n+1,f,l,a,r,h=>by
  obtain⟨o,j,g,i,m⟩:=h;refine⟨o++x,j++x,g.more x,i.more x,?_⟩;rcases m with⟨d,e,rfl⟩|⟨q,d,b,e,h⟩|⟨d,h⟩
  .exact .inl ⟨by rwa[Pq x BS],e,rfl⟩
  .exact .inr (.inl ⟨by rwa[Pq x BS],by rwa[Pq x BS],b,e,Wl.more x h⟩)
  .exact .inr (.inr ⟨by rwa[Pq x BS],Ip.more x (λ_ _ _ h=>Wl.more x h) h⟩)
def E7(s:Pt)(l:AP):Prop:=s.good/\∃t,run s l=some t/\¬0<t.bits
theorem E7.cons{s:Pt}{i:Ar}{r:AP}(h:E7 s (i::r)):wrong s i=0/\E7 (next s i.code) r:=by
 obtain⟨g,t,a,d⟩:=h;rw[run]at a;have e:=Om s i;split at a
 .cases a
 have b:wrong s i=0:=by omega
 exact⟨b,Vu g b,t,a,d⟩
theorem E7.ne{s:Pt}{l:AP}(h:E7 s l)(d:0<s.bits):l≠[]:=by
 rintro rfl;obtain⟨_,t,a,b⟩:=h;injection a with a
 subst a;exact b d
def b8{s:Pt}(h:c<7):(next s c).bits=(if c=1 then s.bits+1 else if c=4\/c=5 then s.bits - 1 else s.bits)/\(next s c).forks=s.forks:=by
 unfold next
 rw[BQ BS];exact⟨rfl,by show(if c=7 then s.forks+1 else if c=9 then s.forks - 1 else s.forks)=s.forks;rw[BQ BS,BQ BS]⟩
theorem UN{e:Elem}{st:Ξ}(h1:1<=c)(l:c<7)(d:needs c<=(st.length:Int)):((Lt c e st).length:Int)=if c=1 then(st.length:Int)+1 else if c=4\/c=5 then(st.length:Int) - 1 else st.length:=by
 unfold needs at d;unfold Lt;by_cases f:c=1
 .simp[f]
 rw[BQ f]at d⊢;rw[BQ f];cases st with
 |nil=>simp only[DW]at d;split at d<;>omega|cons a r=>by_cases h:c=2;{simp[h]};by_cases i:c=3;{simp[i]};by_cases j:c=4;{subst j;cases r with|nil=>simp at d|cons b r=>simp};by_cases g:c=5;{subst g;cases r with|nil=>simp at d|cons b r=>simp};simp[h,i,j,g]
theorem ep:∀(l:AP)(s:Pt)(st:Ξ),E7 s l->s.bits=(st.length:Int)->l≠[]->∃n d b,X5 st l n d/\E7 b d/\b.bits=1/\b.forks=s.forks
 |[],_,_,_,_,t=>absurd rfl t
 |i::r,s,st,h,a,_=>by
  have⟨m,g⟩:=h.cons;have⟨A,B,_,C,_⟩:=Iu m;have j:=U5 A;by_cases f:i.code<7
  .have o:=b8 (s:=s) f
   have q:=UN (e:=i.O) (st:=st) j.1 f BS;have v:=OA m BS;have⟨n,d,b,y,u,z,w⟩:=ep r (next s i.code) (Lt i.code i.O st) g (by rw[o.1,q,a]) (g.ne v);exact⟨n,d,b,by rw[X5,BR f];exact⟨j.1,BS,y⟩,u,z,by rw[w,o.2]⟩
  .have x:s.bits=1:=by
    have:needs i.code=1:=by unfold needs;rw[BQ BS,BQ BS]
    omega
   match st,a with
   |[],a=>simp at a;omega
   |[n],_=>exact⟨n,i::r,s,by rw[X5,BQ f];exact⟨rfl,rfl⟩,h,x,rfl⟩
   |_::_::_,a=>simp only[DT]at a;omega
theorem cX:∀(l:AP)(s:Pt),E7 s l->s.bits=1->∃d b a,Lp l d b/\E7 a b/\a.bits=1/\a.forks=s.forks
 |[],s,h,f=>absurd rfl (h.ne BS)
 |i::r,s,h,f=>by
  have⟨t,m⟩:=h.cons;by_cases e:i.code=10
  .have g:(next s i.code).bits=1/\(next s i.code).forks=s.forks:=by
    unfold next
    rw[BQ BS];simp[e,f]
   have⟨d,b,a,n,o,q,j⟩:=cX r (next s i.code) m g.1;exact⟨i.O::d,b,a,by rw[Lp,BR e];exact⟨d,rfl,n⟩,o,q,by rw[j,g.2]⟩
  .exact⟨[],i::r,s,by rw[Lp,BQ e];exact⟨rfl,rfl⟩,h,f,rfl⟩
def KZ(F:Int)(r:AP):Prop:=(Dx r=8\/Dx r=9\/Dx r=11)/\∃s,E7 s r/\s.bits=1/\s.forks=F
theorem g7{F:Int}{r:AP}(h:KZ F r)(hF:0<F):∃i b,r=i::b/\(i.code=8\/i.code=9):=by
 obtain⟨a,s,d,g,j⟩:=h;cases r with
 |nil=>simp[Dx]at a|cons i b=>have⟨e,_⟩:=d.cons;have f:=(Iu e).2.2.2.2.2.2.2.1;refine⟨i,b,rfl,?_⟩;have a:i.code=8\/i.code=9\/i.code=11:=a;rcases a with h|h|h;{exact .inl h};{exact .inr h};exact absurd ⟨h,BS⟩ f
theorem gy{r:AP}(h:KZ 0 r):∃i b,r=i::b/\i.code=11/\E7 pt0 b:=by
 obtain⟨a,s,j,m,f⟩:=h;cases r with
 |nil=>simp[Dx]at a
 |cons i b=>
  have⟨l,d⟩:=j.cons;have g:=(Iu l).2.2.2.2.2.2.1;have a:i.code=8\/i.code=9\/i.code=11:=a;have e:i.code=11:=by rcases a with h|h|h;{exact absurd ⟨.inl h,f⟩ g};{exact absurd ⟨.inr h,f⟩ g};exact h
  rw[ek s e]at d;exact⟨i,b,rfl,e,d⟩
theorem gi{P:AP->DL->AP->Prop}{N:Nat}(u:∀l s,l.length<=N->E7 s l->s.bits=1->∃a r,P l a r/\r<:+l/\KZ s.forks r):
  ∀(M:Nat)(i:Ar)(l:AP)(s:Pt)(F:Int),l.length<=M->l.length<=N->E7 s (i::l)->s.bits=1->0<=F->(i.code=7/\s.forks=F\/(i.code=8\/i.code=9)/\s.forks=F+1)->∃n r,n≠[]/\Ip P n (i::l) r/\KZ F r:=by
 intro M;induction M with
 |zero=>intro i l s F J q h g hF hi;exfalso;have⟨v,f⟩:=h.cons;have K:l=[]:=BL.1 BS;refine f.ne (OA v ?_) K;rcases hi with⟨h,_⟩|⟨h|h,_⟩<;>omega
 |succ M C=>
  intro i l s F J q h g hF hi;have⟨v,f⟩:=h.cons;by_cases w:i.code=9
  .have e:(next s i.code).bits=1/\(next s i.code).forks=F:=by
    have d:s.forks=F+1:=by rcases hi with⟨h,_⟩|⟨_,h⟩<;>omega
    unfold next
    rw[BQ BS];simp[w,g,d]
   have⟨a,r,o,t,b⟩:=u l _ q f e.1;refine⟨[a],r,BU,?_,by rwa[e.2]at b⟩;rw[Ip,BR rfl];exact⟨w,o⟩
  have x:i.code=7\/i.code=8:=by rcases hi with⟨h,_⟩|⟨h|h,_⟩<;>omega
  have e:(next s i.code).bits=1/\(next s i.code).forks=F+1:=by (unfold next);rw[BQ BS];rcases x with h|h;{have d:s.forks=F:=(by rcases hi with⟨_,h⟩|⟨h|h,_⟩<;>omega);simp[h,g,d]};have d:s.forks=F+1:=(by rcases hi with⟨h,_⟩|⟨_,h⟩<;>omega);simp[h,g,d]
  have⟨a,m,o,t,b⟩:=u l _ q f e.1;rw[e.2]at b;obtain⟨j,G,rfl,E⟩:=g7 b BS;have H:=t.length_le;simp only[DT]at H;obtain⟨_,B,I,z,y⟩:=b;have⟨n,r,L,D,A⟩:=C j G B F BS BS I z hF (.inr ⟨E,y⟩);refine⟨a::n,r,BU,?_,A⟩;rw[Ip,BQ L];exact⟨x,_,o,D⟩
theorem nI:∀(N:Nat)(l:AP)(s:Pt)(j:Ξ),l.length<=N->E7 s l->s.bits=(j.length:Int)->l≠[]->∃a r,Wl (N+1) j l a r/\KZ s.forks r:=by
 intro N;induction N with
 |zero=>intro l s j A _ _ u;exact absurd (BL.1 BS) u
 |succ N S=>
  intro l s j A h q u;have⟨n,t,K,G,M,U,R⟩:=ep l s j h q u;have⟨y,w,g,H,d,o,J⟩:=cX t K M U;have C:=G.suffix;have m:=H.suffix;have Z:=C.1.length_le;have V:=d.ne BS;have D:∀(l:AP)(s:Pt),l.length<=N->E7 s l->s.bits=1->∃a r,Wl (N+1) [Ha] l a r/\r<:+l/\KZ s.forks r:=λl s A h q=>by have⟨a,r,b,f⟩:=S l s [Ha] A h (by rw[q];rfl) (h.ne BS);exact⟨a,r,b,b.suffix,f⟩
  have key:∃e r,K3 (Wl (N+1) [Ha]) e w r/\KZ g.forks r:=by
   cases w with
   |nil=>exact absurd rfl V
   |cons i r=>
    have⟨Q,Y⟩:=d.cons;have L:=U5 (Iu Q).1;have aa:i.code≠10:=m.2.1;have F:=m.2.2;simp only[DT]at F;have T:=d.1.2.2.1;by_cases W:i.code<7
    .have X:y≠[]:=by
      rintro rfl;have O:=m.1;have I:t=i::r:=(List.IsSuffix.eq_of_length O (by simp only[DT,DW]at F⊢;omega)).symm;have z:=C.2;rw[I]at z;have z:7<=i.code:=z;omega
     have ab:0<y.length:=List.length_pos_iff.2 X;have⟨a,x,b,_,v⟩:=D (i::r) g yBf d o;exact⟨[a],x,.inr (.inl ⟨L.1,W,a,rfl,b⟩),v⟩
    by_cases B:i.code=7;{have⟨e,x,b,f,v⟩:=gi D r.length i r g g.forks (DN _) BS d o T (.inl ⟨B,rfl⟩);exact⟨e,x,.inr (.inr ⟨B,f⟩),v⟩};have E:i.code=8\/i.code=9\/i.code=11:=(by omega);exact⟨[],i::r,.inl ⟨E,rfl,rfl⟩,E,g,d,o,rfl⟩
  obtain⟨e,r,b,f⟩:=key;exact⟨⟨n,y,e⟩,r,⟨t,w,G,H,b⟩,by rwa[<-R,<-J]⟩
def X4(n:DK):Prop:=Ci n/\(n.kind=0->Aj n=true)
def GH(c:Nat)(st:Ξ):Prop:=(∀n∈st,X4 n)/\sizes st<=c
def pZ{n:DK}(h:fq n):X4 n:=⟨h.1,λa=>by have:=h.2;omega⟩
theorem uZ:Ci Ha:=by unfold Ha;rw[G6];exact⟨⟨BX,BX⟩,Q6,BU,(λd hd=>by cases hd)⟩
def uY:Ad Ha=1:=by rw[Dn];rfl
def Au6:X4 Ha:=⟨uZ,λ_=>rfl⟩
theorem VC{a b:DK}(j:k=2\/k=3)(f:X4 a)(d:X4 b)(g:Ad a+Ad b<=1000000):X4 (Gz k a b):=by
 unfold Gz;split
 .exact d
 have i:i64 k:=by rcases j with rfl|rfl<;>exact⟨BX,BX⟩
 exact⟨lp i f.1 d.1 g,λe=>by have e:k=0:=e;omega⟩
theorem PU{e:Elem}{st:Ξ}{s:Nat}(v:e.fits)(h:GH s st)(z:s<=900000):GH (s+2) (Lt c e st):=by
 obtain⟨f,g⟩:=h;have o:=pZ (va v);have y:=V5 e;have u:∀a,X4 a->X4 (II a):=λa i=>by refine⟨?_,λq=>by have q:(4:Int)=0:=q;omega⟩;unfold II;rw[G6];exact⟨⟨BX,BX⟩,Q6,BU,λx w=>by rw[BB.1 w];exact i.1⟩
 have one:∀k a r,(k=2\/k=3)->X4 a->(∀n∈r,X4 n)->sizes (a::r)<=s->GH (s+2) (Gz k a (Fe e)::r):=λk a r m i j l=>by rw[F6]at l;have:=fR k a (Fe e);refine⟨λn d=>?_,by rw[F6];omega⟩;rcases BD.1 d with rfl|d;{exact VC m i o BS};exact j n d
 have two:∀k a b r,(k=2\/k=3)->X4 a->X4 b->(∀n∈r,X4 n)->sizes (a::b::r)<=s->GH (s+2) (Gz k b a::r):=λk a b r m i t j l=>by rw[F6,F6]at l;have:=fR k b a;refine⟨λn d=>?_,by rw[F6];omega⟩;rcases BD.1 d with rfl|d;{exact VC m t i BS};exact j n d
 have nil:GH (s+2) []:=⟨(λn d=>by cases d),xCg⟩;unfold Lt;split
 .exact⟨λn d=>(BD.1 d).elim (λe=>by rwa[e]) (f n),by rw[F6];omega⟩
 split
 .split;{exact one 2 _ _ (.inl rfl) (f _ BU) (λn d=>f n xCw) g};exact nil
 split
 .split;{exact one 3 _ _ (.inr rfl) (f _ BU) (λn d=>f n xCw) g};exact nil
 split
 .split;{exact two 2 _ _ _ (.inl rfl) (f _ BU) (f _ BU) (λn d=>f n xCw) g};exact⟨f,BS⟩
 split
 .split;{exact two 3 _ _ _ (.inr rfl) (f _ BU) (f _ BU) (λn d=>f n xCw) g};exact⟨f,BS⟩
 split
 .rename_i a r;rw[F6]at g;have:=kl a;refine⟨λn d=>?_,by rw[F6];omega⟩;rcases BD.1 d with rfl|d;{exact u a (f a BU)};exact f n xCw
 exact nil
def X8:GH 1 [Ha]:=⟨λn a=>by rw[BB.1 a];exact Au6,by rw[F6,Tq,uY];omega⟩
theorem mI:GH 0 []:=⟨(λn a=>by cases a),xCg⟩
theorem X5.ok:∀{l:AP}{d:Ξ}{n:DK}{b:AP}{s:Nat},X5 d l n b->GH s d->(∀i∈l,i.fits)->s+2*l.length<=900000->X4 n/\Ad n+2*b.length<=s+2*l.length
 |[],_,_,_,_,h,_,_,_=>h.elim
 |i::r,d,n,b,s,h,a,e,j=>by
  rw[X5]at h;simp only[DT]at j⊢;split at h
  .have f:=X5.ok h.2.2 (PU (e i BU).2 a BS) (λx hx=>e x Cd) BS
   exact⟨f.1,BS⟩
  .obtain⟨rfl,rfl⟩:=h
   have g:=a.2;rw[F6,Tq]at g;exact⟨a.1 n BU,yBf⟩
theorem Lp.fits:∀{l:AP}{b:Ω}{e:AP},Lp l b e->(∀i∈l,i.fits)->∀c∈b,c.fits
 |[],_,_,h,_=>h.elim
 |i::r,b,e,h,d=>by
  rw[Lp]at h;split at h
  .obtain⟨f,rfl,h⟩:=h
   intro c a;rcases BD.1 a with rfl|a
   .exact(d i BU).2
   .exact Lp.fits h (λx hx=>d x Cd) c a
  .obtain⟨rfl,rfl⟩:=h
   exact(λc a=>by cases a)
def UK(l:AP)(a:DL)(r:AP)(s:Nat):Prop:=Ba a/\Ah a+4*r.length<=s+1+4*l.length
theorem Ip.fine{P:AP->DL->AP->Prop}{L:Nat}(f:∀l a r,l.length<=L->(∀i∈l,i.fits)->P l a r->UK l a r 1/\r<:+l):∀{b:Ek}{l r:AP},l.length<=L->(∀i∈l,i.fits)->Ip P b l r->(∀x∈b,Ba x)/\Aw b+4*r.length<=4*l.length/\b.length<=l.length
 |[],_,_,_,_,h=>by simp[Ip]at h
 |_::_,[],_,_,_,h=>by simp[Ip]at h
 |a::b,i::l,r,n,e,h=>by
  rw[Ip]at h;simp only[DT]at n⊢;have s:Aw (a::b)=Ah a+Aw b:=by simp[Aw]
  rw[s];split at h
  .rename_i u
   subst u;have d:=(f l a r BS (λx hx=>e x Cd) h.2).1;have q:Aw []=0:=rfl;rw[q];refine⟨λx hx=>by rw[BB.1 hx];exact d.1,by have:=d.2;omega,BU⟩
  .obtain⟨_,m,d,o⟩:=h
   have⟨g,j⟩:=f l a m BS (λx hx=>e x Cd) d;have v:=j.length_le;have⟨t,y,w⟩:=Ip.fine f BS (λx hx=>e x (by simp[j.subset hx])) o;refine⟨λx hx=>?_,by have:=g.2;omega,BS⟩;rcases BD.1 hx with rfl|hx
   .exact g.1
   .exact t x hx
theorem Wl.fine:∀{n:Nat}{v:Ξ}{l:AP}{a:DL}{r:AP}{s:Nat},Wl n v l a r->GH s v->(∀i∈l,i.fits)->s<=1->l.length<=1000->UK l a r s
 |0,_,_,_,_,_,h,_,_,_,_=>h.elim
 |n+1,v,l,a,r,s,h,J,d,U,E=>by
  obtain⟨N,H,y,z,I⟩:=h;have f:=y.suffix;have m:=z.suffix;have O:=f.1.length_le;have j:=m.2.2;have o:=y.ok J d BS;have A:=z.fits (λi hi=>d i (f.1.subset hi));have B:=λi hi=>d i (f.1.subset (m.1.subset hi))
  have w:(∀x∈a.K,Ba x)/\Aw a.K+4*r.length<=4*H.length+(if a.C=[] then 0 else 2)/\a.K.length<=1000:=by
   rcases I with⟨_,e,rfl⟩|⟨_,R,b,e,h⟩|⟨_,h⟩
   .rw[e]
    exact⟨(λx t=>by cases t),by show 0+_<=_;omega,BU⟩
   .rw[e]
    have C:=Wl.fine (s:=1) h X8 B BS BS;have q:a.C≠[]:=by
     intro M;rw[M]at j;have G:=(List.IsSuffix.eq_of_length m.1 xCn).symm;have u:=f.2;rw[G]at u;omega
    rw[BQ q];have F:Aw [b]=Ah b:=by simp[Aw]
    rw[F];exact⟨λx t=>by rw[BB.1 t];exact C.1,by have:=C.2;omega,BU⟩
   .have⟨u,V,S⟩:=Ip.fine (L:=1000) (λl a r E d h=>⟨Wl.fine (s:=1) h X8 d BS E,h.suffix⟩) BS B h
    exact⟨u,BS,BS⟩
  obtain⟨an,g,D⟩:=a;simp only at o A w j;refine⟨?_,?_⟩
  .rw[Ep]
   exact⟨o.1.1,BS,A,BS,w.1⟩
  .have K:Ah ⟨an,g,D⟩=1+g.length+(if Aj an then 0 else Ad an)+Aw D:=by rw[Ah];rfl
   rw[K];have T:(if Aj an then 0 else Ad an)<=Ad an:=by split<;>omega
   have Q:=o.2;have W:=w.2.1;have X:(if g=[] then 0 else 2)<=2*g.length:=by
    split
    .omega
    .rename_i q
     have:=List.length_pos_iff.2 q
     omega
   omega
end Stil
namespace Go.Co
section
variable {P : AY}
@[simp]theorem Ahl(h):Calm P (Extern.Rtype.ofHandle h):=by unfold Extern.Rtype.ofHandle;exact B9
@[simp]theorem Ajv(t):Calm P (Extern.Rtype.handle t):=by unfold Extern.Rtype.handle;exact B9
@[simp]theorem Aju(what t):Calm P (Extern.Rtype.noPack what t):=by unfold Extern.Rtype.noPack;exact B9
@[simp]theorem Aey(what t):Calm P (Extern.Rtype.noPackHeld what t):=by unfold Extern.Rtype.noPackHeld;exact B9
@[simp]theorem Ael(what t):Calm P (Extern.Rtype.noPackNamed what t):=by unfold Extern.Rtype.noPackNamed;exact B9
@[simp]theorem Adf(what t):Calm P (Extern.Rtype.noPackMethods what t):=by unfold Extern.Rtype.noPackMethods;exact B9
@[simp]theorem Ali(t):Calm P (Extern.Rtype.spelt t):=by unfold Extern.Rtype.spelt;exact B9
@[simp]theorem Alh(t):Calm P (Extern.Rtype.under t):=by unfold Extern.Rtype.under;exact B9
@[simp]theorem Al6(t):Calm P (Extern.Rtype.kind t):=by unfold Extern.Rtype.kind;exact B9
@[simp]theorem Ah9(t):Calm P (Extern.Rtype.hasName t):=by unfold Extern.Rtype.hasName;exact B9
@[simp]theorem Alj(t):Calm P (Extern.Rtype.elem? t):=by unfold Extern.Rtype.elem?;exact B9
@[simp]theorem Aez(T V):Calm P (Extern.Rtype.implements T V):=by unfold Extern.Rtype.implements;exact B9
@[simp]theorem Zy(T V):Calm P (Extern.Rtype.directlyAssignable T V):=by unfold Extern.Rtype.directlyAssignable;exact B9
@[simp]theorem Aa9(t):Calm P (Extern.ReflectliteType.toType t):=by unfold Extern.ReflectliteType.toType;exact B9
def zfa{p:Prop}(h:p:=by repeat' first|exact Ae|exact Or.inl rfl|assumption|(simp;done)|refine Calm.bind ?_ (λ_=>?_)|dsimp only|refine Calm.map ?_|split|intro _):p:=h
@[simp]theorem Aat(x0):Calm P (Extern.ReflectliteType.ofRtype x0):=by
 unfold Extern.ReflectliteType.ofRtype;cases x0;case agg a=>
  (rcases a with⟨_|⟨d,_|⟨b,_⟩⟩⟩);all_goals
  exact zfa
 all_goals exact cmC
@[simp]theorem Aa8(x0):Calm P (Extern.ReflectliteType.typeOf x0):=by
 unfold Extern.ReflectliteType.typeOf;rcases x0 with⟨_|⟨a,_|⟨d,_|⟨b,l⟩⟩⟩⟩
 case cons.nil=>cases a<;>(repeat' first
   |exact Ae
   |exact Or.inl rfl
   |assumption
   |(simp;done)
   |refine Calm.bind ?_ (λ_=>?_)
   |dsimp only
   |refine Calm.map ?_
   |split
   | intro _)
 all_goals exact cmC
def zDa{p:Prop}(h:p:=by repeat' first|exact Ae|exact Or.inl rfl|assumption|(simp;done)|exact h1 _|refine Calm.bind ?_ (λ_=>?_)|dsimp only|refine Calm.map ?_|split|intro _):p:=h
theorem Pe{f:AZ->Sem AW}(h1:∀t,Calm P (f t))(a:δ):Calm P (Extern.ReflectliteType.method f a):=by unfold Extern.ReflectliteType.method;rcases a with⟨_|⟨d,_|⟨e,_|⟨b,l⟩⟩⟩⟩;all_goals exact zDa
@[simp]theorem Acr(t):Calm P (Extern.ReflectliteType.elem t):=by unfold Extern.ReflectliteType.elem;exact cmG
@[simp]theorem Acp(t):Calm P (Extern.ReflectliteType.name t):=by unfold Extern.ReflectliteType.name;exact B9
@[simp]theorem Aas(t):Calm P (Extern.ReflectliteType.pkgPath t):=by unfold Extern.ReflectliteType.pkgPath;exact B9
theorem Oe(what:String){f:AZ->TypeId->Sem Bool}(b:∀t u,Calm P (f t u))(a:δ):Calm P (Extern.ReflectliteType.relation what f a):=by
 unfold Extern.ReflectliteType.relation;rcases a with⟨_|⟨g,_|⟨d,_|⟨e,l⟩⟩⟩⟩
 case cons.cons.nil=>cases d<;>(repeat' first
   |exact Ae
   |exact Or.inl rfl
   |assumption
   |(simp;done)
   |exact b _ _
   |refine Calm.bind ?_ (λ_=>?_)
   |dsimp only
   |refine Calm.map ?_
   |split
   | intro _)
 all_goals exact cmC
@[simp]theorem Ze(u t):Calm P (Extern.ReflectliteType.implements_ u t):=by unfold Extern.ReflectliteType.implements_;exact B9
@[simp]theorem X6(u t):Calm P (Extern.ReflectliteType.assignableTo u t):=by unfold Extern.ReflectliteType.assignableTo;exact B9
theorem Nz{f:AZ->Sem AW}(h1:∀t,Calm P (f t))(a:δ):Calm P (Extern.ReflectliteType.abiMethod f a):=by unfold Extern.ReflectliteType.abiMethod;rcases a with⟨_|⟨d,_|⟨e,_|⟨b,l⟩⟩⟩⟩;all_goals exact zDa
@[simp]theorem Adg(t a flags):Calm P (Extern.ReflectliteValue.mk t a flags):=by unfold Extern.ReflectliteValue.mk;exact B9
@[simp]theorem Aar(x0):Calm P (Extern.ReflectliteValue.unpack x0):=by unfold Extern.ReflectliteValue.unpack;exact B9
@[simp]theorem Yq{α:Type}(method:String)(k:Nat):Calm P (Extern.ReflectliteValue.valueError method k:Sem α):=by unfold Extern.ReflectliteValue.valueError;exact B9
@[simp]theorem Zh(x0):Calm P (Extern.ReflectliteValue.partsAny x0):=by
 unfold Extern.ReflectliteValue.partsAny;cases x0;case agg f=>
  rcases f with⟨_|⟨i,_|⟨b,_|⟨e,_|⟨j,l⟩⟩⟩⟩⟩;case cons.cons.cons.nil=>(cases e<;>first|exact Or.inl rfl|skip);(rename_i d a;cases d<;>first|exact Or.inl rfl|skip);rcases a with(_|a)|a;{exact Ae};all_goals (cases b<;>first|exact Or.inl rfl|skip);rename_i g;cases g<;>first|exact Or.inl rfl|(exact Calm.bind BU λ_=>Ae)
  all_goals
  exact zfa
 all_goals exact cmC
@[simp]theorem Aa6(x):Calm P (Extern.ReflectliteValue.parts x):=by unfold Extern.ReflectliteValue.parts;exact B9
def zBa{p:Prop}(h:p:=by repeat' first|exact Ae|exact Or.inl rfl|assumption|(simp;done)|exact h2 _ _ _ _|refine Calm.bind ?_ (λ_=>?_)|dsimp only|refine Calm.map ?_|split|intro _):p:=h
theorem Ot{zero:Sem AW}{f:AZ->Addr->Nat->Nat->Sem AW}(h0:Calm P zero)(h2:∀t a x y,Calm P (f t a x y))(b:δ):Calm P (Extern.ReflectliteValue.method zero f b):=by unfold Extern.ReflectliteValue.method;rcases b with⟨_|⟨e,_|⟨g,_|⟨d,l⟩⟩⟩⟩;all_goals exact zBa
theorem Nv{zero:Sem AW}{f:AZ->Addr->Nat->Nat->Sem AW}(h0:Calm P zero)(h2:∀t a x y,Calm P (f t a x y))(b:δ):Calm P (Extern.ReflectliteValue.methodAny zero f b):=by unfold Extern.ReflectliteValue.methodAny;rcases b with⟨_|⟨e,_|⟨g,_|⟨d,l⟩⟩⟩⟩;all_goals exact zBa
@[simp]theorem Aa7(t a x k):Calm P (Extern.ReflectliteValue.isNil t a x k):=by unfold Extern.ReflectliteValue.isNil;exact cmG
@[simp]theorem Aco(t a x k):Calm P (Extern.ReflectliteValue.len t a x k):=by unfold Extern.ReflectliteValue.len;exact cmG
@[simp]theorem Ab9(t a x k):Calm P (Extern.ReflectliteValue.elem t a x k):=by unfold Extern.ReflectliteValue.elem;exact cmG
@[simp]theorem Acn(x0):Calm P (Extern.ReflectliteValue.set x0):=by unfold Extern.ReflectliteValue.set;rcases x0 with⟨_|⟨b,_|⟨d,_|⟨a,l⟩⟩⟩⟩;all_goals exact cmC
@[simp]theorem Zd(x0):Calm P (Extern.ReflectliteValue.errorText x0):=by
 unfold Extern.ReflectliteValue.errorText;rcases x0 with⟨_|⟨a,_|⟨d,_|⟨b,l⟩⟩⟩⟩;case cons.nil=>
  cases a
  case pointer o=>cases o<;>(repeat' first
   |exact Ae
   |exact Or.inl rfl
   |assumption
   |(simp;done)
   |refine Calm.bind ?_ (λ_=>?_)
   |dsimp only
   |refine Calm.map ?_
   |split
   | intro _)
  all_goals
  exact zfa
 all_goals exact cmC
@[simp]theorem Ae0(x0):Calm P (Extern.AbiNoEscape.same x0):=by unfold Extern.AbiNoEscape.same;rcases x0 with⟨_|⟨b,_|⟨d,_|⟨a,l⟩⟩⟩⟩;all_goals exact cmC
@[simp]theorem X7(ps rs x0):Calm P (Extern.BytealgMakeNoZero.makeNoZero ps rs x0):=by
 unfold Extern.BytealgMakeNoZero.makeNoZero;rcases x0 with⟨_|⟨a,_|⟨d,_|⟨b,l⟩⟩⟩⟩;case cons.nil=>
  cases a
  case int k n=>cases k<;>(repeat' first
   |exact Ae
   |exact Or.inl rfl
   |assumption
   |(simp;done)
   |refine Calm.bind ?_ (λ_=>?_)
   |dsimp only
   |refine Calm.map ?_
   |split
   | intro _)
  all_goals
  exact zfa
 all_goals exact cmC
@[simp]theorem Aek(s):Calm P (Extern.RuntimeError.text s):=by unfold Extern.RuntimeError.text;exact B9
@[simp]theorem Zx(x0):Calm P (Extern.RuntimeError.boundsError x0):=by
 unfold Extern.RuntimeError.boundsError;rcases x0 with⟨_|⟨e,_|⟨n,_|⟨u,l⟩⟩⟩⟩;case cons.nil=>
  cases e;case agg f=>
   rcases f with⟨_|⟨i,_|⟨m,_|⟨d,_|⟨j,_|⟨r,l⟩⟩⟩⟩⟩⟩;case cons.cons.cons.cons.nil=>(cases i<;>first|exact Or.inl rfl|skip);(cases m<;>first|exact Or.inl rfl|skip);(cases d<;>first|exact Or.inl rfl|skip);(cases j<;>first|exact Or.inl rfl|skip);(rename_i q x t y b s code;have key:∀(o:Option String)(g:String->String),Calm P (match o with|some a=>Extern.RuntimeError.text (g a)|none=>stuck "boundsError: no such code"):=λo g=>by cases o<;>first|exact Or.inl rfl|exact Ae);exact key ((if(b && decide (x<0))=true then Extern.RuntimeError.boundsNegErrorFmts else Extern.RuntimeError.boundsErrorFmts)[code.toNat]?) (λa=> "runtime error: " ++(a.replace "%x" (toString (if b=true then x else IntKind.u64.wrap x))).replace "%y" (toString y))
   all_goals
   exact cmC
  all_goals
  exact zfa
 all_goals exact cmC
@[simp]theorem Aa5(v):Calm P (Extern.RuntimeError.described v):=by unfold Extern.RuntimeError.described;exact B9
@[simp]theorem Aa4(i):Calm P (Extern.RuntimeError.pkgpathOf i):=by unfold Extern.RuntimeError.pkgpathOf;exact B9
@[simp]theorem Xl(args):Calm P (Extern.RuntimeError.typeAssertionError args):=by unfold Extern.RuntimeError.typeAssertionError;exact B9
@[simp]theorem Wp(x0):Calm P (Extern.RuntimeError.unhashableTypeError x0):=by
 unfold Extern.RuntimeError.unhashableTypeError;rcases x0 with⟨_|⟨a,_|⟨g,_|⟨f,l⟩⟩⟩⟩;case cons.nil=>
  cases a;case agg b=>
   (rcases b with⟨_|⟨e,_|⟨d,_⟩⟩⟩);all_goals
   exact cmC
  all_goals
  exact zfa
 all_goals exact cmC
@[simp]theorem Acm(x0):Calm P (Extern.RuntimeError.nothing x0):=by exact Ae
end
end Go.Co
namespace Go.Proofs.YthdogflpbpkbeaaGreatDoor
open Tryz Go.Co
def MG:List (String × (δ->Sem AW)):=Extern.ReflectliteValue.rows++(Extern.ReflectliteType.rows++(Extern.AbiNoEscape.rows++Extern.RuntimeError.rows))
def vM(P:AY):∀p∈MG,∀args,Go.Co.Calm P (p.2 args):=by
 intro p a args;simp only[MG,Extern.ReflectliteValue.rows,Extern.ReflectliteType.rows,Extern.AbiNoEscape.rows,Extern.RuntimeError.rows,FZ,EN,FK,FM]at a;rcases a with a|a|a|a
 .rcases a with rfl|rfl|rfl|rfl|rfl|rfl|rfl|rfl|rfl|rfl;all_goals dsimp only
  all_goals first|(simp;done)|(refine Ot ?_ (λ_ _ _ _=>?_) _<;>first|exact Ae|(simp;done))|(refine Nv ?_ (λ_ _ _ _=>?_) _<;>first|exact Ae|(simp;done))
 .rcases a with rfl|rfl|rfl|rfl|rfl|rfl|rfl|rfl|rfl|rfl|rfl|rfl;all_goals dsimp only
  all_goals first|(simp;done)|(refine Pe (λ_=>?_) _<;>first|(simp;done)|(refine Go.Co.Calm.bind BU λ_=>?_;first|(simp;done)|(refine Go.Co.Calm.bind BU λ_=>?_;exact Ae)))|(refine Oe _ (λ_ _=>?_) _<;>(simp;done))|(refine Nz (λ_=>?_) _<;>first|(simp;done)|(refine Go.Co.Calm.bind BU λ_=>?_;first|exact Ae|(simp;done)|(refine Go.Co.Calm.bind BU λ_=>?_;exact Ae)))|(refine Go.Co.Calm.bind BU λ_=>?_;exact Ae)
 .rcases a with rfl|rfl|rfl|rfl;all_goals dsimp only
  all_goals first|(simp;done)|exact Ae
 rcases a with rfl|rfl|rfl|rfl|rfl|rfl|rfl|rfl|rfl|rfl|rfl|rfl|rfl|rfl|rfl;all_goals dsimp only
 all_goals first|(simp;done)|exact Ae|(refine Go.Co.Calm.bind BU λ_=>?_;first|exact Ae|(refine Go.Co.Calm.bind BU λ_=>?_;exact Ae))
def SS(fn:Func):Option (δ->Sem AW):=match MG.lookup fn.name with
 |some e=>some e
 |none=>if fn.name= "internal/bytealg.MakeNoZero" then some (Extern.BytealgMakeNoZero.makeNoZero fn.params fn.resultTypes) else none
def vQ(P:AY)(fn:Func)(e:δ->Sem AW)(h:SS fn=some e)(args:δ):Go.Co.Calm P (e args):=by
 unfold SS at h;split at h
 .rename_i f b;cases h;have:(fn.name,e)∈MG:=by
   clear args
   revert b
   generalize MG=l;induction l with
   |nil=>intro h;cases h
   |cons p l d=>intro h;rw[List.lookup_cons]at h;split at h;{rename_i a;cases h;rw[E4]at a;rw[a];exact E6};exact Da _ (d h)
  exact vM P _ this args
 split at h
 .cases h;simp
 cases h
def Azb:(prog.funcs.toList.all λa=>!(a.name== "runtime.NumGoroutine"))=true:=BW
def Aza:((prog.funcs.toList.filter λa=>a.body.isNone).all λa=>(Extern.findNext a).isNone)=true:=BW
def Azc:(prog.funcs.toList.filter λa=>a.body.isNone).map Extern.find=(prog.funcs.toList.filter λa=>a.body.isNone).map SS:=BW
def okP:OkP prog:=by
 have b:∀(f:Nat)(a:Func),prog.funcs[f]?=some a->a∈prog.funcs.toList:=λf a h=>by rw[<-Array.getElem?_toList]at h;exact LO h
 refine⟨λf a h=>?_,λf a h d=>?_,λf a e h d g args=>?_⟩
 .have:=List.all_eq_true.1 Azb a (b f a h);simpa using this
 .have:=List.all_eq_true.1 Aza a (List.mem_filter.2 ⟨b f a h,d⟩);simpa using this
 have:=List.map_inj_left.1 Azc a (List.mem_filter.2 ⟨b f a h,d⟩);rw[this]at g;exact vQ _ a e g args
end Go.Proofs.YthdogflpbpkbeaaGreatDoor
namespace Stil
variable {k:Int}
def shp:DK->Prop
 |⟨k,_,kids⟩=>((k=1/\kids=[])\/((k=2\/k=3)/\0<kids.length)\/(k=4/\kids.length=1))/\∀p∈kids.map shp,p
def TG(k:Int)(e:Elem)(kids:Ξ):shp ⟨k,e,kids⟩↔((k=1/\kids=[])\/((k=2\/k=3)/\0<kids.length)\/(k=4/\kids.length=1))/\∀x∈kids,shp x:=by rw[shp,all_map]
def oU{n:DK}(h:shp n):∀x∈n.K,shp x:=by obtain⟨_,_,_⟩:=n;exact((TG _ _ _).1 h).2
def cB{e:Elem}{kids:Ξ}(h:shp ⟨k,e,kids⟩):(k=1/\kids=[])\/((k=2\/k=3)/\0<kids.length/\∀x∈kids,shp x)\/(k=4/\True/\∃x,kids=[x]/\shp x):=by
 obtain⟨a|⟨a,b⟩|⟨a,b⟩,d⟩:=(TG _ _ _).1 h
 .exact .inl a
 .exact .inr (.inl ⟨a,b,d⟩)
 obtain⟨x,rfl⟩:=List.length_eq_one_iff.1 b;exact .inr (.inr ⟨a,trivial,x,rfl,d x BU⟩)
theorem TF(n:DK):Ap n=0->shp n:=by
 refine Gp (λn=>Ap n=0->shp n) ?_ n;intro k e kids d j;refine(TG _ _ _).2 ?_;rcases F8 j with⟨a,rfl⟩|⟨a,i,g⟩|⟨a,_,x,rfl,b⟩
 .exact⟨.inl ⟨a,rfl⟩,λ_ h=>by cases h⟩
 .exact⟨.inr (.inl ⟨a,i⟩),λx b=>d x b (g x b)⟩
 exact⟨.inr (.inr ⟨a,rfl⟩),λy f=>by obtain rfl:=BB.1 f;exact d y f b⟩
theorem Kt{l:Ek}(h:∀x∈l,Ba x):(∀x∈Ai l,Ba x)/\Aw (Ai l)<=400/\(Ai l).length<=40:=by
 unfold Ai;by_cases h0:(Am l).1=0
 .rw[BR h0];have hx:=λx hx=>Y6 x (h x hx) yGc;refine⟨λx f=>?_,?_,?_⟩;{obtain⟨y,d,rfl⟩:=BM.1 f;exact(hx y d).1}
  .refine DU ?_ (Nu h0).2.2.1;clear h h0;unfold Aw;induction l with
   |nil=>simp|cons x r e=>have a:=(hx x BU).2;have b:=e (λy d=>hx y (Da _ d));simp only[DZ,FO]at b⊢;omega
  rw[Db];exact(Nu h0).2.1
 rw[BQ h0];exact⟨(λx hx=>by cases hx),by simp[Aw],BU⟩
def Ig:DL->Prop
 |⟨n,c,kids⟩=>Gu n/\(∀p∈kids.map Ig,p)/\∀a,kids=[a]->¬(c=[]\/Aj a.N=true)
def J6(n:DK)(c:Ω)(kids:Ek):Ig ⟨n,c,kids⟩↔Gu n/\(∀x∈kids,Ig x)/\∀a,kids=[a]->¬(c=[]\/Aj a.N=true):=by rw[Ig,all_map]
theorem Au9{n:DK}(h:Gu n):U8 n=n:=by
 unfold U8;split
 .rfl
 rename_i a;exact NI (h.resolve_left a)
def WJ(a:DL):Ig a->D6 a=a:=by
 refine Fz (λa=>Ig a->D6 a=a) ?_ a;intro n c kids d h;have⟨e,f,i⟩:=(J6 _ _ _).1 h;have g:kids.map D6=kids:=by have:kids.map D6=kids.map id:=LN λx b=>d x b (f x b);rw[this,List.map_id]
 rw[O0,Au9 e,g];exact QF _ i
def Avf{l:Ek}(h:Ja l<=0):l=[]:=by have:=Po l;exact List.eq_nil_of_length_eq_zero BS
theorem WV:∀(f:Nat)(b:DL),Ja b.K<=f->Gu b.N->(∀x∈b.K,Ig x)->Ig (Jf f b)
 |0,⟨n,t,kids⟩,d,a,_=>by
  simp only at d a;obtain rfl:=Avf d;rw[Jf];exact(J6 _ _ _).2 ⟨a,λx s=>(by cases s),λq e=>(by cases e)⟩
 |f+1,⟨n,t,kids⟩,d,a,g=>by
  simp only at d a g;rw[Jf];split
  .rename_i q e
   simp only at e;subst e;split
   .obtain⟨m,o,l⟩:=q
    have j:=(J6 _ _ _).1 (g ⟨m,o,l⟩ BU);have r:=Nj ⟨m,o,l⟩;rw[RS]at d;simp only at r;exact WV f _ yCi (W9 a j.1) j.2.1
   .rename_i i
    exact(J6 _ _ _).2 ⟨a,g,λk e=>by
     simp only[List.cons.injEq,Hj]at e;subst e
     exact i⟩
  .rename_i i
   exact(J6 _ _ _).2 ⟨a,g,λk e=>absurd e (i k)⟩
def WR(a:DL):Ls a->Ig (D6 a):=by refine Fz (λa=>Ls a->Ig (D6 a)) ?_ a;intro n c kids e h;have d:=(Qm _ _ _).1 h;rw[O0];unfold joined;refine WV _ _ (DN _) (S9 d.1) λx f=>?_;obtain⟨y,b,rfl⟩:=BM.1 f;exact e y b (d.2 y b)
def tW{a:DL}(h:Ls a):D6 (D6 a)=D6 a:=WJ _ (WR a h)
def WZ{n:DK}(h:Gu n):Aj n=true\/Ap n=0:=h.imp id λh=>h.2.2
theorem Uj{a:DL}:C9 a=0↔(Aj a.N=true\/Ap a.N=0)/\Dt a.C=false/\¬(a.C.length=0/\a.K.length=0):=by
 have m:=Ld a.N;unfold C9;constructor
 .intro h;have d:¬(Aj a.N=false/\0<Ap a.N):=λb=>by rw[BR b]at h;omega
  rw[BQ d]at h;cases b:Dt a.C with
  |true=>rw[b,BR rfl]at h;omega
  |false=>
   rw[b,BQ GK]at h;refine⟨?_,rfl,λe=>by rw[BR e]at h;omega⟩;cases i:Aj a.N with
   |true=>exact .inl rfl|false=>have f:¬0<Ap a.N:=λx=>d ⟨i,x⟩;exact .inr BS
 rintro⟨d,e,j⟩;have f:¬(Aj a.N=false/\0<Ap a.N):=by rintro⟨g,l⟩;rcases d with h|h;{rw[h]at g;exact Bool.noConfusion g};omega
 rw[BQ f,e,BQ GK,BQ j]
def I4{n:DK}{c:Ω}{kids:Ek}:Cb ⟨n,c,kids⟩=0↔C9 ⟨n,c,kids⟩=0/\∀x∈kids,Cb x=0:=by
 have f:=Qn ⟨n,c,kids⟩;rw[Xm];constructor
 .intro h;have a:C9 ⟨n,c,kids⟩=0:=by split at h<;>omega
  rw[BQ BS]at h;exact⟨a,λx e=>Xg _ (λy hy=>by obtain⟨z,_,rfl⟩:=BM.1 hy;exact(Qw z).1) h _ (BM.2 ⟨x,e,rfl⟩)⟩
 rintro⟨a,b⟩;rw[BQ BS];simp only;clear a f;induction kids with
 |nil=>rfl|cons x r d=>rw[DZ,A7,b x BU,BQ BS];exact d (λy hy=>b y DJ)
def sR(a b:Ω):Dt (a++b)=(Dt a || Dt b):=by simp[Dt]
theorem WU:∀(f:Nat)(b:DL),Et b->Cb b=0->Cb (Jf f b)=0
 |0,_,_,h=>h
 |f+1,⟨n,t,kids⟩,l,h=>by
  rw[Jf];split
  .rename_i s e
   simp only at e;subst e;split
   .have a:=NV l
    refine WU f _ a.1 ?_;obtain⟨q,r,m⟩:=s;have d:=I4.1 h;have g:=I4.1 (d.2 ⟨q,r,m⟩ BU);have⟨_,j,_⟩:=Uj.1 d.1;have⟨_,i,o⟩:=Uj.1 g.1;simp only at j i o;refine I4.2 ⟨Uj.2 ⟨WZ (W9 a.2.1 a.2.2),?_,?_⟩,g.2⟩
    .simp only
     rw[sR,j,i];rfl
    .simp only[DV]
     omega
   .exact h
  .exact h
def uX(a:DL):Cb a=0->Cb (D6 a)=0:=by
 refine Fz (λa=>Cb a=0->Cb (D6 a)=0) ?_ a;intro n c kids i h;have d:=(Qm _ _ _).1 (YB _ h);have⟨j,l⟩:=I4.1 h;have⟨_,f,g⟩:=Uj.1 j;simp only at f g;rw[O0];unfold joined;refine WU _ _ ((Ee _ _ _).2 ⟨S9 d.1,λx e=>?_⟩) (I4.2 ⟨Uj.2 ⟨WZ (S9 d.1),f,by simpa using g⟩,λx e=>?_⟩)
 .obtain⟨y,b,rfl⟩:=BM.1 e;exact Uu y (d.2 y b)
 obtain⟨y,b,rfl⟩:=BM.1 e;exact i y b (l y b)
theorem Auj{l:Ek}(h1:l.length<=40)(d:Aw l<=400)(a:∀x∈l,Fv x=0):Am l=(0,0):=by
 unfold Am;rw[BQ BS];clear h1 d
 suffices ∀k,Es l k=(0,0) from this 0
 induction l with|nil=>intro k;rfl|cons x r b=>intro k;rw[Es,a x BU,BQ BS];exact b (λy hy=>a y DJ) _
def Auk{a:DL}(h1:Aj a.N=false)(b:Cb a=0):Fv a=0:=by unfold Fv;rw[h1,b];rfl
theorem tU{l:Ek}(i:∀x∈l,Ba x)(h:(Am l).1=0):Am (Ai l)=(0,0)/\Aw (Ai l)<=Aw l/\(Ai l).length=l.length/\Ai (Ai l)=Ai l/\∀x∈Ai l,Ba x:=by
 have⟨_,n,r,g⟩:=Nu h;have e:Ai l=l.map D6:=by unfold Ai;rw[BR h]
 have f:=λx a=>Y6 x (i x a) (by have:=(Lc h a).2;omega);have o:Aw (Ai l)<=Aw l:=by rw[e];unfold Aw;rw[IW];exact dk _ _ _ λx a=>(f x a).2
 have d:Am (Ai l)=(0,0):=by refine Auj (by rwa[e,Db]) BS λx a=>?_;rw[e]at a;obtain⟨y,b,rfl⟩:=BM.1 a;exact Auk (Wc (Lc h b).1 (g y b).1) (uX y (g y b).2)
 refine⟨d,o,by rw[e,Db],?_,λx a=>?_⟩
 .have⟨m,q⟩:=AA (Ai l);have j:Ai (Ai l)=(Ai l).map D6:=by rw[<-q]at d⊢;unfold Ai;rw[BR (by rw[d])]
  rw[j,e,IW];exact LN λx a=>tW (Lc h a).1
 rw[e]at a;obtain⟨y,b,rfl⟩:=BM.1 a;exact(f y b).1
def Rl:AP->Ξ->Ξ->Prop
 |[],a,t=>a=t
 |i::r,a,t=>1<=i.code/\i.code<7/\needs i.code<=(a.length:Int)/\Rl r (Lt i.code i.O a) t
theorem Rl.append:∀{l m:AP}{a b c:Ξ},Rl l a b->Rl m b c->Rl (l++m) a c
 |[],_,_,_,_,h,k=>by cases h;exact k
 |_::_,_,_,_,_,h,k=>⟨h.1,h.2.1,h.2.2.1,Rl.append h.2.2.2 k⟩
theorem Rl.N:∀{l r:AP}{b t:Ξ}{n:DK}{a:AP},Rl l b t->X5 t r n a->X5 b (l++r) n a
 |[],_,_,_,_,_,h,k=>by cases h;exact k
 |_::_,_,_,_,_,_,h,k=>by
  rw[EA,X5,BR h.2.1];exact⟨h.1,h.2.2.1,Rl.N h.2.2.2 k⟩
def RX{n:DK}(h:fine n):∀x∈n.K,fine x:=λx a=>
 ⟨((J3 n).1 h.1).2 x a,((Jp n).1 h.2.1).2 x a,N8 h.2.2 x a⟩
theorem Avc(d:k=2\/k=3){a y:DK}(g:a.kind≠0)(j:y.kind≠0)(i:y.kind=1->y=Fe y.O)(h:∀st,Rl (Cf y) st (y::st))(st:Ξ):
  Rl (Dq k y) (a::st) (Jv k a y::st):=by
 by_cases f:y.kind=1
 .rw[Ji k y f];have e:Lt k y.O (a::st)=Jv k a y::st:=by have b:Gz k a (Fe y.O)=Jv k a y:=(by unfold Gz;rw[BQ g,<-i f]);rcases d with rfl|rfl;{show Gz 2 a (Fe y.O)::st=_;rw[b]};show Gz 3 a (Fe y.O)::st=_;rw[b]
  refine⟨by show 1<=k;omega,by show k<7;omega,?_,e⟩;show needs k<=((a::st).length:Int);rw[DT];rcases d with rfl|rfl;{show(1:Int)<=_;omega};show(1:Int)<=_;omega
 rw[Il k y f];refine(h (a::st)).append ?_;have e:Lt (k+2) ⟨0,[]⟩ (y::a::st)=Jv k a y::st:=by
  have b:Gz k a y=Jv k a y:=by unfold Gz;rw[BQ g]
  rcases d with rfl|rfl;{show Gz 2 a y::st=_;rw[b]};show Gz 3 a y::st=_;rw[b]
 refine⟨by show 1<=k+2;omega,by show k+2<7;omega,?_,e⟩;show needs (k+2)<=((y::a::st).length:Int);rw[DT,DT];rcases d with rfl|rfl
 .show(2:Int)<=_;omega
 show(2:Int)<=_;omega
theorem QV(f:k=2\/k=3):∀(r:Ξ)(a:DK),a.kind≠0->(∀y∈r,y.kind≠0/\y.kind≠k/\(y.kind=1->y=Fe y.O)/\∀b,Rl (Cf y) b (y::b))->∀b,
  Rl ((r.map (Dq k)).flatten) (a::b) ((if r=[] then a else⟨k,⟨0,[]⟩,opn k a++r⟩)::b)
 |[],a,_,_,b=>rfl
 |y::r,a,g,h,b=>by
  have⟨n,e,i,l⟩:=h y BU;rw[DZ,ER];refine(Avc f g n i l b).append ?_;have o:(Jv k a y).kind≠0:=by show k≠0;omega
  have:=QV f r (Jv k a y) o (λz m=>h z (Da _ m)) b
  have q:opn k (Jv k a y)=opn k a++[y]:=by
   unfold opn;rw[BR (show(Jv k a y).kind=k from rfl)];show opn k a++opn k y=_
   unfold opn;rw[BQ e]
  have j:Jv k a y=⟨k,⟨0,[]⟩,opn k a++[y]⟩:=by
   show(⟨k,⟨0,[]⟩,opn k a++opn k y⟩:DK)=_
   congr 2;unfold opn;rw[BQ e]
  rw[BQ BU];by_cases d:r=[]
  .subst d
   rw[BR rfl]at this;rw[<-j];exact this
  .rw[BQ d,q,EJ]at this
   exact this
theorem Qi{n:DK}(h:fine n):n.kind≠0:=by
 obtain⟨k,e,kids⟩:=n;rcases F8 h.2.2 with⟨a,_⟩|⟨a,_⟩|⟨a,_⟩
 .show k≠0;omega
 .show k≠0;omega
 show k≠0;omega
theorem Va{n:DK}(h:fine n)(h1:n.kind=1):n=Fe n.O:=by
 obtain⟨k,e,kids⟩:=n;obtain rfl:k=1:=h1;rcases F8 h.2.2 with⟨_,rfl⟩|⟨h1,_⟩|⟨h1,_⟩
 .rfl
 .omega
 omega
theorem NU(n:DK):fine n->∀a,Rl (Cf n) a (n::a):=by
 refine Gp (λn=>fine n->∀a,Rl (Cf n) a (n::a)) ?_ n;intro k e kids f h a;have b:=RX h;rcases F8 h.2.2 with⟨rfl,rfl⟩|⟨l,o,_⟩|⟨rfl,g,x,rfl,_⟩
 .rw[L6];exact⟨by show(1:Int)<=1;decide,by show(1:Int)<7;decide,by show(0:Int)<=_;omega,rfl⟩
 .obtain⟨x,r,rfl⟩:∃x r,kids=x::r:=by
   cases kids with
   |nil=>simp at o
   |cons x r=>exact⟨x,r,rfl⟩
  have m:=(J3 _).1 h.1;have i:k=2\/k=3:=l;have⟨s,hd⟩:=m.1 i;have j:r≠[]:=by rintro rfl;exact s rfl
  rw[Jh e x r BS BS];refine(f x BU (b x BU) a).append ?_;have:=QV i r x (Qi (b x BU)) (λy d=>⟨Qi (b y (Da _ d)),hd y (Da _ d),Va (b y (Da _ d)),f y (Da _ d) (b y (Da _ d))⟩) a
  rw[BQ j]at this;have q:opn k x=[x]:=by unfold opn;rw[BQ (hd x BU)]
  have g:e=⟨0,[]⟩:=((Jp _).1 h.2.1).1 i;rw[q]at this;rw[g];exact this
 rw[L8];refine(f x BU (b x BU) a).append ?_;rw[g];exact⟨BX,BX,by show(1:Int)<=((x::a).length:Int);rw[DT];omega,rfl⟩
theorem X5.stop{l:AP}(n:DK)(h:7<=Dx l):X5 [n] l n l:=by cases l with|nil=>exact absurd h BX|cons i r=>rw[X5,BQ (by have a:7<=i.code:=h;omega)];exact⟨rfl,rfl⟩
theorem Lp.stop{m:AP}(h0:Dx m≠0)(h:Dx m≠10):∀(a:Ω),Lp (G9 a++m) a m
 |[]=>by
  show Lp m [] m
  cases m with
  |nil=>exact absurd rfl h0
  |cons i r=>rw[Lp,BQ (show ¬i.code=10 from h)];exact⟨rfl,rfl⟩
 |c::a=>by
  show Lp (⟨10,c⟩::(G9 a++m)) (c::a) m
  rw[Lp,BR rfl];exact⟨a,rfl,Lp.stop h0 h a⟩
theorem Rl.head{l:AP}{a b:Ξ}(h:Rl l a b)(d:l≠[])(x:AP):1<=Dx (l++x)/\Dx (l++x)<7:=by cases l with|nil=>exact absurd rfl d|cons i r=>exact⟨h.1,h.2.1⟩
theorem Yt{n:DK}(h:Gu n):Rl (Bc n) [Ha] [n]:=by
 unfold Bc Bv;by_cases f:Aj n=true
 .rw[BR f,U7 f];exact rfl
 have a:=h.resolve_left f;rw[BQ f];have one:∀x:DK,fine x->Rl (Dq 2 x) [Ha] [x]:=by intro x l;by_cases b:x.kind=1;{rw[Ji 2 x b];refine⟨by show(1:Int)<=2;decide,by show(2:Int)<7;decide,by show(1:Int)<=1;decide,?_⟩;show Gz 2 Ha (Fe x.O)::[]=[x];rw[<-Va l b];rfl};rw[Il 2 x b];refine(NU x l [Ha]).append ?_;exact⟨by show(1:Int)<=4;decide,by show(4:Int)<7;decide,by show(2:Int)<=2;decide,rfl⟩
 by_cases i:n.kind=2
 .rw[BR i];obtain⟨k,e,kids⟩:=n;obtain rfl:k=2:=i;rcases F8 a.2.2 with⟨b,_⟩|⟨_,o,_⟩|⟨b,_⟩;{omega}
  .obtain⟨x,r,rfl⟩:∃x r,kids=x::r:=by
    cases kids with
    |nil=>simp at o
    |cons x r=>exact⟨x,r,rfl⟩
   have d:=RX a;have j:=((J3 _).1 a.1).1 (.inl rfl);have m:r≠[]:=by rintro rfl;exact j.1 rfl
   show Rl (((x::r).map (Dq 2)).flatten) _ _
   rw[DZ,ER];refine(one x (d x BU)).append ?_;have:=QV (.inl rfl) r x (Qi (d x BU)) (λy g=>⟨Qi (d y (Da _ g)),j.2 y (Da _ g),Va (d y (Da _ g)),NU y (d y (Da _ g))⟩) []
   rw[BQ m]at this;have s:opn 2 x=[x]:=by unfold opn;rw[BQ (j.2 x BU)]
   have q:e=⟨0,[]⟩:=((Jp _).1 a.2.1).1 (.inl rfl);rw[s]at this;rw[q];exact this
  omega
 rw[BQ i];show Rl ([Dq 2 n].flatten) _ _;rw[ER,M6,EZ];exact one n a
theorem QK{a:DL}(h:Ig a):Gu a.N:=by obtain⟨n,c,k⟩:=a;exact((J6 n c k).1 h).1
def D8(n:Nat):Nat->Ek->AP
 |_,[]=>[]
 |i,k::t=>H5 n i k++D8 n (i+1) t
theorem XZ(n:Nat):∀(b:Ek)(i:Nat),(b.mapIdx (λj a=>H5 n (i+j) a)).flatten=D8 n i b
 |[],_=>rfl
 |k::t,i=>by
  rw[List.mapIdx_cons,ER,D8,<-XZ n t (i+1)];congr 3;funext j a;rw[Nat.add_assoc,Nat.add_comm 1 j]
def Nl(n:DK)(cs:Ω)(kids:Ek):Bz ⟨n,cs,kids⟩=G9 cs++D8 kids.length 0 kids:=by rw[Wv,<-XZ];congr 3;funext j a;rw[EF]
def Ym(r:AP):Prop:=Dx r=8\/Dx r=9\/Dx r=11
theorem ZU{P:AP->DL->AP->Prop}{n:Nat}(e:n≠1):∀(a:Ek)(i:Nat),i+a.length=n->a≠[]->(∀k∈a,∀r,Ym r->P (Bc k.N++(Bz k++r)) k r)->∀r,Ym r->Ip P a (D8 n i a++r) r
 |[],_,_,h,_,_,_=>absurd rfl h
 |k::t,i,hi,_,f,r,g=>by
  rw[DT]at hi;rw[D8];unfold H5 G2 En;rw[BQ e];by_cases b:t=[]
  .subst b
   simp only[DW]at hi;rw[BQ BS,BR BS];have:=f k BU r g
   show Ip P [k] (Gh 9::((Bc k.N++Bz k)++D8 n (i+1) []++r)) r
   rw[Ip,BR rfl];refine⟨rfl,?_⟩;rw[D8,EZ,EJ];exact this
  .have u:0<t.length:=List.length_pos_iff.2 b
   have o:Ym (D8 n (i+1) t++r):=by
    obtain⟨y,d,rfl⟩:∃y d,t=y::d:=by
     cases t with
     |nil=>exact absurd rfl b
     |cons y d=>exact⟨y,d,rfl⟩
    rw[D8];unfold H5 G2 En;rw[BQ e,BQ BS];split
    .exact .inr (.inl rfl)
    .exact .inl rfl
   have l:=f k BU _ o;have m:=ZU e t (i+1) BS b (λk s=>f k (Da _ s)) r g;have step:∀c:Int,(c=7\/c=8)->Ip P (k::t) (Gh c::((Bc k.N++Bz k)++D8 n (i+1) t++r)) r:=by
    intro c q;rw[Ip,BQ b];refine⟨q,D8 n (i+1) t++r,?_,m⟩;rwa[EJ,EJ]
   by_cases j:i=0
   .rw[BR j]
    exact step 7 (.inl rfl)
   .rw[BQ j,BQ BS]
    exact step 8 (.inr rfl)
theorem j9(a:DL):Ig a->∀f,Ah a<=f->∀i L,Rl L i [a.N]->∀r,Ym r->Wl f i (L++(Bz a++r)) a r:=by
 refine Fz (λa=>Ig a->∀f,Ah a<=f->∀i L,Rl L i [a.N]->∀r,Ym r->Wl f i (L++(Bz a++r)) a r) ?_ a;intro n b kids H h f N i L y r d;have⟨O,l,v⟩:=(J6 _ _ _).1 h;have D:=Nj ⟨n,b,kids⟩;obtain⟨g,rfl⟩:∃g,f=g+1:=⟨f - 1,BS⟩;have R:Ja kids<=g:=by have Q:1+Ja kids<=Ah ⟨n,b,kids⟩:=D;omega
 have j:∀k∈kids,∀r,Ym r->Wl g [Ha] (Bc k.N++(Bz k++r)) k r:=by intro k s r d;have S:Ah k<=Ja kids:=Fa Ah kids k s;have m:Gu k.N:=QK (l k s);exact H k s (l k s) g BS [Ha] (Bc k.N) (Yt m) r d
 have M:Dx r≠0:=by rcases d with h|h|h<;>omega
 rw[Nl,EJ];have fin:Dx (D8 kids.l 0 kids++r)≠0->Dx (D8 kids.l 0 kids++r)≠10->(b=[]->7<=Dx (D8 kids.l 0 kids++r))->
   K3 (Wl g [Ha]) kids (D8 kids.l 0 kids++r) r->Wl (g+1) i (L++(G9 b++(D8 kids.l 0 kids++r))) ⟨n,b,kids⟩ r:=by
  intro F B J I;refine⟨G9 b++(D8 kids.l 0 kids++r),D8 kids.l 0 kids++r,y.N (X5.stop n ?_),Lp.stop F B b,I⟩;cases b with
  |nil=>exact J rfl
  |cons c b=>show(7:Int)<=10;decide
 match kids,l,v,j,fin with
 |[],_,_,_,fin=>refine fin M ?_ (λ_=>?_) (.inl ⟨d,rfl,rfl⟩);{show Dx r≠10;rcases d with h|h|h<;>omega};show 7<=Dx r;rcases d with h|h|h<;>omega
 |[k],l,v,j,fin=>
  have w:=v k rfl;have C:b≠[]:=λh=>w (.inl h);have A:¬Aj k.N=true:=λh=>w (.inr h);have m:Gu k.N:=QK (l k BU);have u:=Yt m;have G:Bc k.N≠[]:=by (intro e;rw[e]at u;have z:Ha=k.N:=by have E:[Ha]=[k.N]:=u;injection E);exact Qi (m.resolve_left A) (by rw[<-z];rfl)
  have K:D8 [k].l 0 [k]++r=Bc k.N++(Bz k++r):=by show(([]:AP)++(Bc k.N++Bz k))++[]++r=_;rw[ED,EZ,EJ]
  have q:=u.head G (Bz k++r);rw[K]at fin⊢;exact fin BS BS (λh=>absurd h C) (.inr (.inl ⟨q.1,q.2,k,rfl,j k BU r d⟩))
 |k::o::t,_,_,j,fin=>
  have x:(k::o::t).l≠1:=BU;have hF:=ZU x (k::o::t) 0 BU BU j r d;have q:Dx (D8 (k::o::t).l 0 (k::o::t)++r)=7:=by rw[D8];unfold H5 G2 En;rw[BQ x,BR rfl];rfl
  exact fin BS BS (λ_=>by omega) (.inr (.inr ⟨q,hF⟩))
def Aul{a:DL}(h:Ig a)(b:fine a.N){f:Nat}(d:Ah a<=f):Wl f [] (Ed a) a [Gh 11]:=
 j9 a h f d [] (Cf a.N) (NU a.N b []) [Gh 11] (.inr (.inr rfl))
def step(s:Int × Int)(c:Int):Int × Int:=(if c=1 then s.1+1 else if c=4\/c=5\/c=11 then s.1 - 1 else s.1,if c=7 then s.2+1 else if c=9 then s.2 - 1 else s.2)
def Dz:Int × Int->AP->List (Int × Int)
 |_,[]=>[]
 |s,i::r=>step s i.code::Dz (step s i.code) r
def He(l:AP):List (Int × Int):=if 1000<l.length then [] else Dz (0,0) l
def Sj(l:AP):∀s,(Dz s l).length=l.length:=by induction l with|nil=>intro s;rfl|cons i r a=>intro s;rw[Dz,DT,a,DT]
def Fq:Int × Int->List (Int × Int)->Int × Int
 |p,[]=>p
 |p,s::r=>Fq (if p.1<s.1 then s.1 else p.1,if p.2<s.2 then s.2 else p.2) r
def Hf(l:AP):Int × Int:=Fq (0,0) (He l)
def S8(t:List (Int × Int)):∀p,p.1<=(Fq p t).1/\p.2<=(Fq p t).2:=by induction t with|nil=>intro p;exact⟨Int.le_refl _,Int.le_refl _⟩|cons s r a=>intro p;have:=a (if p.1<s.1 then s.1 else p.1,if p.2<s.2 then s.2 else p.2);rw[Fq];simp only at this;constructor;{refine Int.le_trans ?_ this.1;split<;>omega};refine Int.le_trans ?_ this.2;split<;>omega
def om(t:List (Int × Int))(B F:Int)(h:∀s∈t,s.1<=B/\s.2<=F):∀p,p.1<=B->p.2<=F->(Fq p t).1<=B/\(Fq p t).2<=F:=by induction t with|nil=>intro p a b;exact⟨a,b⟩|cons s r d=>intro p a b;have e:=h s BU;rw[Fq];refine d (λx hx=>h x Cd) _ ?_ ?_;{simp only;split<;>omega};simp only;split<;>omega
theorem Atz(l:AP):∀(s:Pt)(k:Nat),s.good->(Gf s k l).1=0->∀x∈Dz (s.bits,s.forks) l,x.1<=16/\x.2<=8:=by
 induction l with
 |nil=>intro s k _ _ x a;cases a
 |cons i r f=>
  intro s k g h x a;have j:=Om s i;rw[Gf]at h;have d:wrong s i=0:=by split at h;{simp only at h;omega};omega
  rw[BQ BS]at h;have e:step (s.bits,s.forks) i.code=((next s i.code).bits,(next s i.code).forks):=by rw[<-behind_next g d];rfl
  have b:=Vu g d;rw[Dz,e]at a;rcases BD.1 a with rfl|a;{exact⟨b.2.1,b.2.2.2.1⟩};exact f _ (k+1) b h x a
theorem cL{l:AP}(h:(Az l).1=0):(Hf l).1<=16/\(Hf l).2<=8/\(l.length=0\/0<(Hf l).1):=by
 have d:¬1000<l.l:=by intro b;unfold Az at h;rw[BR b]at h;simp at h
 have e:Az l=Gf pt0 0 l:=by unfold Az;rw[BQ d]
 have j:He l=Dz (0,0) l:=by unfold He;rw[BQ d]
 rw[e]at h;unfold Hf;rw[j];have⟨f,b⟩:=om (Dz (0,0) l) 16 8 (Atz l pt0 0 J2 h) (0,0) BU BU;refine⟨f,b,?_⟩;cases l with
 |nil=>exact .inl rfl
 |cons i r=>
  right;have o:=Om pt0 i;rw[Gf]at h;have m:wrong pt0 i=0:=by split at h;{simp only at h;omega};omega
  have⟨g,a,_⟩:=Iu m;have n:=U5 g;have hi:i.code=1:=by by_cases hi:i.code=1;{exact hi};exfalso;unfold needs at a;rw[BQ hi]at a;simp only[pt0]at a;split at a<;>omega
  rw[Dz,Fq];have:=(S8 (Dz (step (0,0) i.code) r) (if(0:Int)<(step (0,0) i.code).1 then(step (0,0) i.code).1 else 0,if(0:Int)<(step (0,0) i.code).2 then(step (0,0) i.code).2 else 0)).1;simp only[step,hi]at this⊢;simp at this⊢;omega
def stFrom:Int × Int->AP->Nat->Int × Int
 |s,_,0=>s
 |s,[],_+1=>s
 |s,i::r,j+1=>stFrom (step s i.code) r j
theorem Wy(s:Int × Int)(l:AP):stFrom s l 0=s:=by cases l<;>rfl
theorem P3(l:AP):∀(s:Int × Int)(j:Nat)(h:j<l.length),stFrom s l (j+1)=step (stFrom s l j) l[j].code:=by
 induction l with
 |nil=>intro s j h;simp at h
 |cons i r a=>
  intro s j h;cases j with
  |zero=>show stFrom (step s i.code) r 0=_;rw[Wy];rfl|succ j=>have b:j<r.l:=C4;show stFrom (step s i.code) r (j+1)=step (stFrom (step s i.code) r j) r[j].code;exact a _ j b
theorem Ax0(l:AP):∀(s:Int × Int)(j:Nat),j<l.length->(Dz s l)[j]?=some (stFrom s l (j+1)):=by
 induction l with
 |nil=>intro s j h;simp at h
 |cons i r a=>
  intro s j h;rw[Dz];cases j with
  |zero=>show some _=some (stFrom (step s i.code) r 0);rw[Wy]|succ j=>show(Dz (step s i.code) r)[j]?=some (stFrom (step s i.code) r (j+1));exact a _ j C4
def YM(l:List Ar)(j:Nat)(h:j<l.length):(Dz (0,0) l).take (j+1)=(Dz (0,0) l).take j++[step (stFrom (0,0) l j) l[j].code]:=by
 have a:j<(Dz (0,0) l).length:=by rw[Sj];exact h
 rw[EK a];congr 2;have:=Ax0 l (0,0) j h;rw[FA a,P3 l (0,0) j h]at this;exact E1 this
theorem dn(l:AP):∀(s:Int × Int)(j:Nat),s.1 - j<=(stFrom s l j).1/\(stFrom s l j).1<=s.1+j/\s.2 - j<=(stFrom s l j).2/\(stFrom s l j).2<=s.2+j:=by
 induction l with
 |nil=>intro s j;cases j<;>simp only[stFrom]<;>omega
 |cons i r a=>
  intro s j;cases j with
  |zero=>rw[Wy];omega|succ j=>have b:s.1 - 1<=(step s i.code).1/\(step s i.code).1<=s.1+1:=(by unfold step;simp only;split;{omega};split<;>omega);have d:s.2 - 1<=(step s i.code).2/\(step s i.code).2<=s.2+1:=(by unfold step;simp only;split;{omega};split<;>omega);have e:=a (step s i.code) j;show s.1 - ((j+1:Nat):Int)<=(stFrom (step s i.code) r j).1/\(stFrom (step s i.code) r j).1<=s.1+((j+1:Nat):Int)/\s.2 - ((j+1:Nat):Int)<=(stFrom (step s i.code) r j).2/\(stFrom (step s i.code) r j).2<=s.2+((j+1:Nat):Int);omega
def LG(p s:Int × Int):Int × Int:=(if p.1<s.1 then s.1 else p.1,if p.2<s.2 then s.2 else p.2)
def Ay8(t:List (Int × Int))(s:Int × Int):∀p,Fq p (t++[s])=LG (Fq p t) s:=by induction t with|nil=>intro p;rfl|cons x r a=>intro p;rw[EA,Fq,a,Fq]
def Ay7(t:List (Int × Int))(j:Nat)(h:j<t.length):Fq (0,0) (t.take (j+1))=LG (Fq (0,0) (t.take j)) t[j]:=by rw[EK h,Ay8]
theorem vv(l:AP):∀s∈He l,-2000<=s.1/\s.1<=2000/\-2000<=s.2/\s.2<=2000:=by
 intro s a;unfold He at a;by_cases h:1000<l.l
 .rw[BR h]at a;cases a
 rw[BQ h]at a;obtain⟨j,b,rfl⟩:=List.getElem_of_mem a;have f:j<l.l:=by rwa[Sj]at b
 have e:=YM l j f;rw[EK b]at e;have g:=List.append_cancel_left e;injection g with i _
 have d:=dn l (0,0) (j+1);rw[P3 l (0,0) j f]at d;rw[i];simp only at d;omega
def UpR:List (AP)->Ek->Prop
 |[],a=>a=[]
 |c::d,a=>∃x b i,a=x::b/\Wl 1001 [] c x [i]/\UpR d b
theorem lE{c xs:AP}{i:Ar}(g:c=xs++[i])(q:run pt0 c=some pt0)(_hi:i.code=11)(hx:∀y∈xs,y.code≠11)(hl:c.length<=1000):∃x,Wl 1001 [] c x [i]:=by
 have n:E7 pt0 c:=⟨J2,pt0,q,BX⟩;have⟨x,r,a,m⟩:=nI 1000 c pt0 [] hl n rfl (by rw[g];simp);obtain⟨j,f,rfl,o,_⟩:=gy m;have e:=a.suffix;have l:f=[]/\j=i:=by rw[g]at e;obtain⟨t,d⟩:=e;rcases List.eq_nil_or_concat f with rfl|⟨s,k,rfl⟩;{have b:=List.append_inj' d rfl;exact⟨rfl,by injection b.2⟩};exfalso;rw[List.concat_eq_append,<-EA,<-EJ]at d;have b:=List.append_inj' d rfl;exact hx j (by rw[<-b.1];simp) o
 rw[l.1,l.2]at a;exact⟨x,a⟩
theorem fZ:∀(b:List (AP)),(∀c∈b,run pt0 c=some pt0/\c.length<=1000/\∃a i,c=a++[i]/\i.code=11/\∀x∈a,x.code≠11)->∃a,UpR b a
 |[],_=>⟨[],rfl⟩
 |c::b,h=>by
  have⟨e,f,o,i,m,d,n⟩:=h c BU;have⟨x,g⟩:=lE m e d n f;have⟨a,l⟩:=fZ b (λc j=>h c (by simp[j]));exact⟨x::a,x,a,i,rfl,g,l⟩
theorem UpR.len:∀{a:List (AP)}{b:Ek},UpR a b->b.length=a.length
 |[],_,h=>by rw[h];rfl
 |c::a,_,⟨x,b,i,e,_,d⟩=>by rw[e,DT,DT,UpR.len d]
theorem UpR.at:∀{a:List (AP)}{b:Ek}(_:UpR a b)(j:Nat)(d:j<a.length)(f:j<b.length),∃i,Wl 1001 [] a[j] b[j] [i]
 |[],_,_,_,d,_=>by simp at d
 |c::a,_,⟨x,b,i,e,g,h⟩,0,_,_=>by subst e;exact⟨i,g⟩
 |c::a,_,⟨x,b,i,e,g,h⟩,j+1,d,f=>by subst e;exact UpR.at h j xBt (by simpa using f)
theorem UpR.fine:∀{b:List (AP)}{a:Ek},UpR b a->(∀c∈b,c.length<=1000/\0<c.length/\∀i∈c,i.fits)->(∀x∈a,Ba x)/\Aw a<=4*b.flatten.length
 |[],_,h,_=>by rw[h];exact⟨(λx o=>by cases o),by simp[Aw]⟩
 |c::b,_,⟨x,a,i,e,q,m⟩,h=>by
  subst e;have⟨g,u,j⟩:=h c BU;have f:=q.fine mI j BS g;have⟨n,t⟩:=UpR.fine m (λc l=>h c (by simp[l]));refine⟨λy d=>?_,?_⟩
  .rcases BD.1 d with rfl|d
   .exact f.1
   .exact n y d
  .have r:Aw (x::a)=Ah x+Aw a:=by simp[Aw]
   have s:=f.2;rw[r,ER,DV];simp only[FV]at s;omega
def FT(xs:Ek):Ek × Int:=if 0<(Am xs).1 then([],2) else(xs,0)
theorem kO{l:AP}(h:(Az l).1=0)(o:∀x∈l,x.fits):∃b,UpR (Ej l) b/\(∀x∈b,Ba x)/\Aw b<=4000/\b.length<=1000/\l.length<=1000/\(Ej l).flatten=l:=by
 have j:=(Ua.1 h).1;have n:=(Y0 h).1;have f:Ej l=Dp [] l:=by unfold Ej;rw[BQ BS]
 have e:=(dz l [] pt0 rfl (λx d=>by cases d) (.inl rfl) (Ua.1 h).2).2.2;rw[<-f]at e;have g:=λc a=>VZ l [] c (by rwa[<-f]);have m:∀c∈Ej l,c.length<=1000:=λc a=>by have:=(g c a).2.2;simp at this;omega
 have⟨b,d⟩:=fZ (Ej l) (λc a=>⟨(e c a).1,m c a,(e c a).2⟩);have⟨q,r⟩:=d.fine (λc a=>⟨m c a,(g c a).1,λi hi=>o i (((g c a).2.1 i hi).elim (λh=>by cases h) id)⟩);refine⟨b,d,q,?_,?_,j,n⟩
 .rw[n]at r;omega
 rw[d.len,f];exact DU (tQ l []) j
