import Derived.Test.YtobbpffcggchmaaGreatDoorCI3
import Derived.Test.YtobbpffcggchmaaGreatDoorKe
namespace Stil
variable {k:Int}
def Dh (k:Int)(l:List Net):List Net:=l.flatMap λn=>if n.kind=k then n.kids else [n]
def Gj (k:Int)(a:List Net):Net:=if h:a.length=1 then a[0] else⟨k,⟨0,[]⟩,a⟩
def Ci:Net->Net
 | ⟨k,e,kids⟩=>if k=2\/k=3 then Gj k (Dh k (kids.map Ci)) else⟨k,e,kids.map Ci⟩
theorem J4 (k:Int)(e:Elem)(kids:List Net):Ci ⟨k,e,kids⟩=if k=2\/k=3 then Gj k (Dh k (kids.map Ci)) else⟨k,e,kids.map Ci⟩:=by rw[Ci]
theorem Ky (k:Int)(a b:List Net):Dh k (a++b)=Dh k a++Dh k b:=by simp[Dh]
theorem Oe (k:Int)(n:Net):Dh k [n]=if n.kind=k then n.kids else [n]:=by simp[Dh]
def sizes (l:List Net):Nat:=(l.map Aj).sum
theorem H6 (a b:List Net):sizes (a++b)=sizes a+sizes b:=by simp[sizes]
theorem D9 (n:Net):Aj n=1+sizes n.kids:=by obtain⟨k,e,kids⟩:=n;exact Oa k e kids
theorem Fz (l:List Net):l.length<=sizes l:=by
 induction l with
 | nil=>simp[sizes]
 | cons x r a=>
  have:=D9 x
  simp only[sizes,A9l,Bac,A84] at a ⊢;omega
theorem Nk (k:Int)(l:List Net):sizes (Dh k l)<=sizes l:=by
 induction l with
 | nil=>simp[Dh,sizes]
 | cons x r a=>
  have e:x::r=[x]++r:=rfl;rw[e,Ky,H6,H6,Oe];have h:sizes (if x.kind=k then x.kids else [x])<=sizes [x]:=by
   have b:sizes [x]=Aj x:=by simp[sizes]
   split
   ·have:=D9 x;omega
   ·exact A88 _
  omega
theorem Ach (k:Int)(a:List Net):Aj (Gj k a)<=1+sizes a:=by
 unfold Gj;split
 ·rename_i h
  have b:=Hr Aj a a[0] (A9a _);unfold sizes;omega
 ·rw[D9];exact A88 _
theorem Ab1 (n:Net):Aj (Ci n)<=Aj n:=by
 refine Et (λn=>Aj (Ci n)<=Aj n) ?_ n;intro k e kids a;have i:sizes (kids.map Ci)<=sizes kids:=by
  clear n;induction kids with
  | nil=>simp[sizes]
  | cons x r g=>
   have f:=a x spz;have b:=g (λy d=>a y (A87 _ d));simp only[sizes,A9l,Bac] at b ⊢;omega
 rw[J4];have j:Aj ⟨k,e,kids⟩=1+sizes kids:=D9 _;split
 ·have f:=Ach k (Dh k (kids.map Ci))
  have b:=Nk k (kids.map Ci);omega
 ·rw[D9]
  simp only;omega
theorem Ahg (l:List Net):sizes (l.map Ci)<=sizes l:=by
 induction l with
 | nil=>simp[sizes]
 | cons x r a=>
  have b:=Ab1 x;simp only[sizes,A9l,Bac] at a ⊢;omega
theorem Ar6 (l:List Net)(n:Nat):sizes (l.take n)<=sizes l:=by
 have h:=H6 (l.take n) (l.drop n);rw[Bbu] at h;omega
theorem Vl (l:List Int)(h:∀x∈l,0<=x)(b:Bv l=0):∀x∈l,x=0:=by
 induction l with
 | nil=>intro x a;cases a
 | cons y r e=>
  unfold Bv at b;have f:=h y spz;split at b
  ·omega
  ·intro x a
   rcases List.mem_cons.1 a with rfl | a
   ·omega
   ·exact e (λz d=>h z (by simp[d])) b x a
theorem F8 {e:Elem}{kids:List Net}(h:Bc ⟨k,e,kids⟩=0):
  (k=1/\kids=[])\/((k=2\/k=3)/\0<kids.length/\∀x∈kids,Bc x=0)\/(k=4/\e=⟨0,[]⟩/\∃x,kids=[x]/\Bc x=0):=by
 rw[Jo] at h;by_cases d:k=1
 ·rw[if_pos d] at h
  refine .inl ⟨d,?_⟩;by_cases a:0<kids.length
  ·rw[if_pos a] at h;omega
  ·exact List.length_eq_zero_iff.1 omz
 ·rw[if_neg d] at h
  by_cases a:Xn k e.op e.args.length kids.length=true
  ·rw[if_pos a] at h;omega
  ·rw[if_neg a] at h
   have o:=Vl _ (λx b=>by obtain⟨n,_,rfl⟩:=List.mem_map.1 b;exact(Nh n).1) h;have f:=λx b=>o _ (List.mem_map.2 ⟨x,b,rfl⟩)
   simp only[Xn,Bool.or_eq_true,decide_eq_true_eq,bne_iff_ne,ne_eq,Bbk,Bool.and_eq_true,not_or,not_and,Decidable.not_not] at a;obtain⟨⟨⟨⟨⟨r,s⟩,i⟩,l⟩,q⟩,m⟩:=a;by_cases g:k=4
   ·refine .inr (.inr ⟨g,?_,?_⟩)
    ·obtain⟨op,args⟩:=e
     simp only at i l;have:args=[]:=List.length_eq_zero_iff.1 omz;subst this;subst i;rfl
    ·have t:=m g
     have j:kids.length=1:=omz
     obtain⟨x,rfl⟩:=List.length_eq_one_iff.1 j;exact⟨x,rfl,f x spz⟩
   ·exact .inr (.inl ⟨omz,omz,f⟩)
theorem Atd {e:Elem}{kids:List Net}{c:Nat}(h:Aj ⟨k,e,kids⟩<=c):sizes (kids.map Ci)<=c/\∀x∈kids,Aj x<=c:=by
 have a:=Ahg kids;rw[Oa] at h;refine⟨by unfold sizes at a ⊢;omega,λx b=>?_⟩;have:=Hr Aj kids x b
 omega
def opn (k:Int)(n:Net):List Net:=if n.kind=k then n.kids else [n]
def Jd (k:Int)(a b:Net):Net:=⟨k,⟨0,[]⟩,opn k a++opn k b⟩
def Ff (k:Int)(a b:Net):Net:=if a.kind=0 then b else Jd k a b
def D6 (e:Elem):Net:=⟨1,e,[]⟩
def Abb (a:Net):Net:=⟨4,⟨0,[]⟩,[a]⟩
def Je:Net:=⟨0,⟨0,[]⟩,[]⟩
def Ib (c:Int)(e:Elem)(st:List Net):List Net:=
 if c=1 then D6 e::st
 else if c=2 then(match st with | a::r=>Ff 2 a (D6 e)::r | []=>[])
 else if c=3 then(match st with | a::r=>Ff 3 a (D6 e)::r | []=>[])
 else if c=4 then(match st with | a::b::r=>Ff 2 b a::r | s=>s)
 else if c=5 then(match st with | a::b::r=>Ff 3 b a::r | s=>s)
 else(match st with | a::r=>Abb a::r | []=>[])
def En:List Net->List F7->Option (List Net)
 | st,[]=>some st
 | st,i::r=>if Hu i=false\/7<=i.code\/(st.length:Int)<needs i.code then none else En (Ib i.code i.one st) r
def Xd:Option (List Net)->Net × Bool
 | some [n]=>if 400<Aj n then(Je,false) else(n,true)
 | _=>(Je,false)
def Bg (l:List F7):Net × Bool:=if 1000<l.length then(Je,false) else Xd (En [] l)
theorem Aat (l:List F7)(st:List Net)(j:Nat)(h:j<l.length):En st (l.drop j)=if Hu l[j]=false\/7<=l[j].code\/(st.length:Int)<needs l[j].code then none else En (Ib l[j].code l[j].one st) (l.drop (j+1)):=by
 rw[Bas h];rfl
theorem Ack (l:List F7)(st:List Net)(j:Nat)(h:l.length<=j):En st (l.drop j)=some st:=by
 rw[Bav h];rfl
def Xc (n:Net):Prop:=Cj n/\1<=n.kind
theorem Dv (a:Net)(r:List Net):sizes (a::r)=Aj a+sizes r:=by simp[sizes]
theorem Ol:sizes []=0:=rfl
theorem Qe (k:Int)(a:Net):sizes (opn k a)<=Aj a:=by
 unfold opn;split
 ·rw[D9];omega
 ·rw[Dv,Ol];omega
theorem Aqv {a:Net}(h:Cj a):∀x∈opn k a,Cj x:=by
 unfold opn;split
 ·exact(Es h).2.2.2
 ·intro x b
  rw[List.mem_singleton.1 b];exact h
theorem A1y (k:Int)(a b:Net):Aj (Jd k a b)<=1+Aj a+Aj b:=by
 rw[D9];have d:=Qe k a;have f:=Qe k b;have e:=H6 (opn k a) (opn k b);show 1+sizes (opn k a++opn k b)<=_
 omega
theorem Adm:Elem.fits ⟨0,[]⟩:=⟨⟨spz,spz⟩,spz,(λd hd=>by cases hd)⟩
theorem A1z {a b:Net}(g:i64 k)(e:Cj a)(f:Cj b)(i:Aj a+Aj b<=1000000):Cj (Jd k a b):=by
 unfold Jd;rw[Gt];refine⟨g,Adm,?_,λx d=>?_⟩
 ·have j:=Qe k a
  have m:=Qe k b;have l:=H6 (opn k a) (opn k b);have h:=Fz (opn k a++opn k b);omega
 ·rcases List.mem_append.1 d with d | d
  ·exact Aqv e x d
  ·exact Aqv f x d
theorem Adg {a b:Net}(g:k=2\/k=3)(d:Xc a)(f:Xc b)(e:Aj a+Aj b<=1000000):Xc (Ff k a b):=by
 unfold Ff;rw[if_neg (by have:=d.2;omega)];have i:i64 k:=by rcases g with rfl | rfl<;>exact⟨dcz,dcz⟩
 exact⟨A1z i d.1 f.1 e,by show 1<=k;omega⟩
theorem Adf (k:Int)(a b:Net):Aj (Ff k a b)<=1+Aj a+Aj b:=by
 unfold Ff;split
 ·omega
 ·exact A1y k a b
theorem Al9 {e:Elem}(h:e.fits):Xc (D6 e):=by
 unfold D6;refine⟨?_,by show(1:Int)<=1;decide⟩;rw[Gt];exact⟨⟨dcz,dcz⟩,h,spz,(λd hd=>by cases hd)⟩
theorem Qn (e:Elem):Aj (D6 e)=1:=by rw[D9];rfl
theorem A2e {a:Net}(h:Xc a):Xc (Abb a):=by
 unfold Abb;refine⟨?_,by show(1:Int)<=4;decide⟩;rw[Gt];exact⟨⟨dcz,dcz⟩,Adm,spz,λx b=>by rw[List.mem_singleton.1 b];exact h.1⟩
theorem A2d (a:Net):Aj (Abb a)=1+Aj a:=by
 rw[D9];show 1+sizes [a]=_
 rw[Dv,Ol];omega
def Uh (c:Nat)(st:List Net):Prop:=(∀n∈st,Xc n)/\sizes st<=c
theorem Ao9 {c:Int}{e:Elem}{st:List Net}{s:Nat}(j:e.fits)(h:Uh s st)(l:s<=900000):Uh (s+2) (Ib c e st):=by
 obtain⟨f,g⟩:=h;have i:=Al9 j;have m:=Qn e;unfold Ib;split
 ·exact⟨λn d=>(List.mem_cons.1 d).elim (λe=>by rw[e];exact i) (f n),by rw[Dv];omega⟩
 ·split
  ·split
   ·rename_i a r
    rw[Dv] at g;have:=Adf 2 a (D6 e)
    refine⟨λn d=>?_,by rw[Dv];omega⟩;rcases List.mem_cons.1 d with rfl | d
    ·exact Adg (.inl rfl) (f a spz) i omz
    ·exact f n (by simp[d])
   ·exact⟨(λn d=>by cases d),by simp[sizes]⟩
  ·split
   ·split
    ·rename_i a r
     rw[Dv] at g;have:=Adf 3 a (D6 e)
     refine⟨λn d=>?_,by rw[Dv];omega⟩;rcases List.mem_cons.1 d with rfl | d
     ·exact Adg (.inr rfl) (f a spz) i omz
     ·exact f n (by simp[d])
    ·exact⟨(λn d=>by cases d),by simp[sizes]⟩
   ·split
    ·split
     ·rename_i a b r
      rw[Dv,Dv] at g;have:=Adf 2 b a
      refine⟨λn d=>?_,by rw[Dv];omega⟩;rcases List.mem_cons.1 d with rfl | d
      ·exact Adg (.inl rfl) (f b spz) (f a spz) omz
      ·exact f n (by simp[d])
     ·exact⟨f,omz⟩
    ·split
     ·split
      ·rename_i a b r
       rw[Dv,Dv] at g;have:=Adf 3 b a
       refine⟨λn d=>?_,by rw[Dv];omega⟩;rcases List.mem_cons.1 d with rfl | d
       ·exact Adg (.inr rfl) (f b spz) (f a spz) omz
       ·exact f n (by simp[d])
      ·exact⟨f,omz⟩
     ·split
      ·rename_i a r
       rw[Dv] at g;have:=A2d a
       refine⟨λn d=>?_,by rw[Dv];omega⟩;rcases List.mem_cons.1 d with rfl | d
       ·exact A2e (f a spz)
       ·exact f n (by simp[d])
      ·exact⟨(λn d=>by cases d),by simp[sizes]⟩
theorem Am5:∀(l:List F7) (b:List Net) (s:Nat),(∀i∈l,i.fits)->Uh s b->s+2*l.length<=900000->∀a,En b l=some a->Uh 900000 a
 | [],b,s,_,h,d,a,e=>by
  rw[En] at e;cases e;exact⟨h.1,by have:=h.2;simp at d;omega⟩
 | i::r,b,s,f,h,d,a,e=>by
  rw[En] at e;split at e
  ·cases e
  ·simp only[A84] at d
   exact Am5 r _ (s+2) (λx hx=>f x yBj) (Ao9 (f i spz).2 h omz) omz a e
theorem Acj {l:List F7}(e:∀i∈l,i.fits):Cj (Bg l).1/\Aj (Bg l).1<=401:=by
 have a:Cj Je/\Aj Je<=401:=by
  unfold Je;refine⟨?_,by rw[Oa];simp⟩;rw[Gt];exact⟨⟨dcz,dcz⟩,Adm,spz,(λd hd=>by cases hd)⟩
 unfold Bg;split
 ·exact a
 ·unfold Xd
  split
  ·rename_i n b
   split
   ·exact a
   ·have h:=Am5 l [] 0 e ⟨(λn b=>by cases b),by simp[sizes]⟩ omz _ b
    exact⟨(h.1 n spz).1,by simp only;omega⟩
  ·exact a
end Stil
namespace Go.Proofs.YtobbpffcggchmaaGreatDoor
open Go.RowKit Go.Sort Go.BigFrame
variable {base base':Nat}{u v x:Value}{w':World}
def Aside (u v:Value):Prop:=u.ownBlock=none\/u.ownBlock≠v.ownBlock
theorem Aside.symm (h:Aside u v):Aside v u:=by
 rcases h with h | h
 ·by_cases e:v.ownBlock=none
  ·exact .inl e
  ·exact .inr (by rw[h];exact e)
 ·exact .inr (λe=>h e.symm)
theorem Aside.no {k:Nat}(h:Aside u v)(hu:u.ownBlock=some k)(a:v.ownBlock=some k):False:=by
 rcases h with h | h
 ·rw[hu] at h;cases h
 ·exact h (by rw[hu,a])
theorem Eg {y:Value}{n:Nat}(hx:∀k,x.ownBlock=some k->k<n)(d:∀k,y.ownBlock=some k->n<=k):Aside x y:=by
 by_cases e:x.ownBlock=none
 ·exact .inl e
 ·obtain⟨k,a⟩:=Option.ne_none_iff_exists'.1 e
  refine .inr (λb=>?_);rw[a] at b;have g:=hx k a;have f:=d k b.symm;omega
structure Ah where
 kind:Int
 op:Int
 ds:List Stil.Dev
 av:Value
 kv:Value
 kids:List Ah
theorem Xy (P:Ah->Prop)(h:∀k op a b d kids,(∀x∈kids,P x)->P ⟨k,op,a,b,d,kids⟩):∀n,P n
 | ⟨k,op,a,b,d,kids⟩=>h k op a b d kids (λx _=>Xy P h x)
def Ah.net:Ah->Stil.Net
 | ⟨k,op,ds,_,_,kids⟩=>⟨k,⟨op,ds⟩,kids.map Ah.net⟩
theorem Ah.net_eq (m:Ah):m.net=⟨m.kind,⟨m.op,m.ds⟩,m.kids.map Ah.net⟩:=by obtain⟨k,op,ds,av,kv,kids⟩:=m;rw[Ah.net]
def Ah.vals:Ah->List Value
 | ⟨_,_,_,av,kv,kids⟩=>av::kv::(kids.map Ah.vals).flatten
def Bq (a:List Ah):List Value:=(a.map Ah.vals).flatten
theorem Ah.vals_eq (m:Ah):m.vals=m.av::m.kv::Bq m.kids:=by obtain⟨k,op,ds,av,kv,kids⟩:=m;rw[Ah.vals];rfl
theorem Cb (a b:List Ah):Bq (a++b)=Bq a++Bq b:=by simp[Bq]
theorem Dt (m:Ah):Bq [m]=m.vals:=by simp[Bq]
theorem Jf {d:List Ah}:x∈Bq d↔∃m∈d,x∈m.vals:=by
 simp only[Bq,List.mem_flatten,A9n];constructor
 ·rintro⟨_,⟨m,a,rfl⟩,b⟩;exact⟨m,a,b⟩
 ·rintro⟨m,a,b⟩;exact⟨_,⟨m,a,rfl⟩,b⟩
def Ah.cells (m:Ah):List Value:=[.int .i64 m.kind, .int .i64 m.op,m.av,m.kv]
def Fp (a:List Ah):List Value:=a.flatMap Ah.cells
theorem Aad (a b:List Ah):Fp (a++b)=Fp a++Fp b:=by simp[Fp]
theorem X0 (a:List Ah):(Fp a).length=a.length*4:=by
 induction a with
 | nil=>rfl
 | cons m r b=>
  have e:Fp (m::r)=m.cells++Fp r:=rfl;rw[e,A83,b];simp[Ah.cells];omega
theorem Gx:∀(a:List Ah) (i:Nat) (h:i<a.length),(Fp a)[i*4]?=some (.int .i64 a[i].kind)/\(Fp a)[i*4+1]?=some (.int .i64 a[i].op)/\(Fp a)[i*4+2]?=some a[i].av/\(Fp a)[i*4+3]?=some a[i].kv
 | [],_,h=>by simp at h
 | m::r,0,_=>⟨rfl,rfl,rfl,rfl⟩
 | m::r,i+1,h=>by
  obtain⟨f,g,d,b⟩:=Gx r i yBc;have e:Fp (m::r)=.int .i64 m.kind::.int .i64 m.op::m.av::m.kv::Fp r:=rfl;have j:(i+1)*4=i*4+1+1+1+1:=omz
  rw[e,j];exact⟨by simpa using f,by simpa using g,by simpa using d,by simpa using b⟩
def MOk (w:World)(base:Nat):Ah->Prop
 | ⟨_,_,a,d,b,kids⟩=>w.ownsRow base 34 3 d a.length (Am a)/\w.ownsRow base 30 4 b kids.length (Fp kids)/\∀p∈kids.map (MOk w base),p
theorem Ee (w:World)(base:Nat)(m:Ah):MOk w base m↔w.ownsRow base 34 3 m.av m.ds.length (Am m.ds)/\w.ownsRow base 30 4 m.kv m.kids.length (Fp m.kids)/\∀x∈m.kids,MOk w base x:=by
 obtain⟨k,op,a,b,d,kids⟩:=m;rw[MOk,Stil.all_map]
theorem MOk.map {w:World}(m:Ah)(h:MOk w base m)(b:∀(e:TypeId) (s n:Nat) (v:Value) (a:List Value),v∈m.vals->w.ownsRow base e s v n a->w'.ownsRow base' e s v n a):MOk w' base' m:=by
 revert h b
 refine Xy (λm=>MOk w base m->(∀(e:TypeId) (s n:Nat) (v:Value) (a:List Value),v∈m.vals->w.ownsRow base e s v n a->w'.ownsRow base' e s v n a)->MOk w' base' m) ?_ m;intro k op j i l kids g h b;rw[Ee] at h ⊢;simp only[Ah.vals_eq] at b;refine⟨b _ _ _ _ _ spz h.1,b _ _ _ _ _ spz h.2.1,λx d=>g x d (h.2.2 x d) (λe s n v a f=>b e s n v a ?_)⟩;exact A87 _ (A87 _ (Jf.2 ⟨x,d,f⟩))
theorem MOk.below {w:World}{m:Ah}(h:MOk w base m)(b:Below w.heap.size w w'):MOk w' base m:=MOk.map m h (λ_ _ _ _ _ _ a=>ownsRow_below a b)
theorem MOk.kept {w:World}{m:Ah}(h:MOk w base m)(hg:w.grownBy w' x.ownBlock)(b:∀u∈m.vals,Aside u x):MOk w' base m:=MOk.map m h (λ_ _ _ _ _ a d=>d.kept hg (b _ a))
theorem MOk.le {w:World}{m:Ah}(h:MOk w base m)(hl:base'<=base):MOk w base' m:=MOk.map m h (λ_ _ _ _ _ _ a=>Joins.ownsRow_le a hl)
theorem MOk.lt {w:World}(m:Ah)(h:MOk w base m):∀x∈m.vals,∀k,x.ownBlock=some k->base<=k/\k<w.heap.size:=by
 revert h
 refine Xy (λm=>MOk w base m->∀x∈m.vals,∀k,x.ownBlock=some k->base<=k/\k<w.heap.size) ?_ m;intro k op g f i kids e h x a j b;rw[Ee] at h;rw[Ah.vals_eq] at a;simp only[A9o] at a;rcases a with rfl | rfl | a
 ·exact h.1.lt j b
 ·exact h.2.1.lt j b
 ·obtain⟨y,d,a⟩:=Jf.1 a
  exact e y d (h.2.2 y d) x a j b
def I7 (w:World)(base:Nat)(m:Ah):Prop:=MOk w base m/\m.vals.Pairwise Aside
theorem I7.below {w:World}{m:Ah}(h:I7 w base m)(a:Below w.heap.size w w'):I7 w' base m:=⟨h.1.below a,h.2⟩
theorem I7.le {w:World}{m:Ah}(h:I7 w base m)(hl:base'<=base):I7 w base' m:=⟨h.1.le hl,h.2⟩
def Gq (w:World)(base:Nat)(v:Value)(a:List Ah):Prop:=w.ownsRow base 30 4 v a.length (Fp a)/\(∀m∈a,MOk w base m)/\(v::Bq a).Pairwise Aside
theorem Gq.nil (w:World)(base:Nat):Gq w base (.slice none 0 0) []:=⟨World.ownsRow_nil _ _ _ _,(λm a=>by cases a),Baw _ _⟩
theorem Gq.below {w:World}{a:List Ah}(h:Gq w base v a)(b:Below w.heap.size w w'):Gq w' base v a:=⟨ownsRow_below h.1 b,λm d=>(h.2.1 m d).below b,h.2.2⟩
theorem Gq.le {w:World}{a:List Ah}(h:Gq w base v a)(hl:base'<=base):Gq w base' v a:=⟨Joins.ownsRow_le h.1 hl,λm b=>(h.2.1 m b).le hl,h.2.2⟩
theorem Gq.lt {w:World}{b:List Ah}(h:Gq w base v b):∀x∈v::Bq b,∀k,x.ownBlock=some k->base<=k/\k<w.heap.size:=by
 intro x a k d;rcases List.mem_cons.1 a with rfl | a
 ·exact h.1.lt k d
 ·obtain⟨m,e,a⟩:=Jf.1 a
  exact(h.2.1 m e).lt m x a k d
theorem Gq.add {w:World}{i:Value}{d f:List Ah}(h:Gq w base v d)(o:∀m∈f,MOk w base m)(g:(v::(Bq d++Bq f)).Pairwise Aside)
  (q:w'.ownsRow base 30 4 i (d.length+f.length) (Fp d++Fp f)) (hg:w.grownBy w' v.ownBlock) (s:i.ownBlock=v.ownBlock\/i.ownBlock=some w.heap.size):Gq w' base i (d++f):=by
 rw[A9p] at g;have r:∀x∈Bq d++Bq f,∀k,x.ownBlock=some k->k<w.heap.size:=by
  intro x b k j;rcases List.mem_append.1 b with b | b
  ·exact(h.lt x (A87 _ b) k j).2
  ·obtain⟨m,a,b⟩:=Jf.1 b
   exact((o m a).lt m x b k j).2
 refine⟨by rw[A83,Aad];exact q,λm a=>?_,?_⟩
 ·rcases List.mem_append.1 a with a | a
  ·exact(h.2.1 m a).kept hg (λu hu=>(g.1 u (A9e _ (Jf.2 ⟨m,a,hu⟩))).symm)
  ·exact(o m a).kept hg (λu hu=>(g.1 u (A9b _ (Jf.2 ⟨m,a,hu⟩))).symm)
 ·rw[Cb,A9p]
  refine⟨λy n=>?_,g.2⟩;rcases s with e | e
  ·rcases g.1 y n with h0 | h0
   ·exact .inl yCb
   ·exact .inr yCb
  ·refine .inr (λl=>?_)
   rw[e] at l;have:=r y n _ l.symm
   omega
theorem Gq.apart {w w1:World}{g e:List Ah}{b1:Nat}(h:Gq w base v g)(o:∀m∈e,MOk w1 b1 m)(n:w.heap.size<=b1)(l:(Bq e).Pairwise Aside):(v::(Bq g++Bq e)).Pairwise Aside:=by
 have i:=h.lt;have b:∀y∈Bq e,∀k,y.ownBlock=some k->w.heap.size<=k:=by
  intro y b k d;obtain⟨m,q,b⟩:=Jf.1 b;exact A9f n ((o m q).lt m y b k d).1
 have f:=h.2.2;rw[A9p] at f ⊢;refine⟨λy a=>?_,List.pairwise_append.2 ⟨f.2,l,λx j y a=>Eg (λk d=>(i x (A87 _ j) k d).2) (b y a)⟩⟩;rcases List.mem_append.1 a with a | a
 ·exact f.1 y a
 ·exact Eg (λk d=>(i v spz k d).2) (b y a)
theorem I7.kids {w:World}{m:Ah}(h:I7 w base m):(∀x∈m.kids,MOk w base x)/\(Bq m.kids).Pairwise Aside:=by
 refine⟨((Ee w base m).1 h.1).2.2,?_⟩;have a:=h.2;rw[Ah.vals_eq,A9p,A9p] at a;exact a.2.2
theorem Gq.one {w:World}{a:List Ah}(h:Gq w base v a)(i:Nat)(hi:i<a.length):I7 w base a[i]:=by
 refine⟨h.2.1 _ (A9a hi),?_⟩;have b:=(List.pairwise_cons.1 h.2.2).2;unfold Bq at b;rw[List.pairwise_flatten] at b;exact b.1 _ (List.mem_map.2 ⟨_,A9a hi,rfl⟩)
theorem Gq.net {w:World}{b:Value}{a:List Ah}(k op:Int)(d:List Stil.Dev)(h:Gq w base v a)(e:w.ownsRow base 34 3 b d.length (Am d))(hd:∀x∈v::Bq a,Aside b x):I7 w base ⟨k,op,d,b,v,a⟩:=by
 refine⟨(Ee _ _ _).2 ⟨e,h.1,h.2.1⟩,?_⟩;rw[Ah.vals_eq,A9p];exact⟨hd,h.2.2⟩
theorem Le (x:Value):Aside (.slice none 0 0) x:=.inl rfl
theorem MOk.from {w:World}(m:Ah)(h:MOk w base m):I5 base w m.av m.net.one.args/\Vx base w m.kv m.net.kids:=by
 revert h
 refine Xy (λm=>MOk w base m->I5 base w m.av m.net.one.args/\Vx base w m.kv m.net.kids) ?_ m;intro k op C B E kids A h;rw[Ee] at h;rw[Ah.net_eq];refine⟨I5.of_owns h.1,?_⟩;simp only at h ⊢;by_cases D:kids.length=0
 ·obtain⟨a,cap,rfl⟩:=Ac h.2.1
  exact⟨a,cap,spz,λi hi=>absurd hi yAb⟩
 ·obtain⟨g,cap,y,t,j,_,b⟩:=Cf h.2.1 omz
  subst y;refine⟨_,cap,spz,λi hi=>⟨g,0,rfl,t,j,?_⟩⟩;have d:i<kids.length:=by simpa using hi
  obtain⟨f,r,o,n⟩:=Gx kids i d;obtain⟨z,q⟩:=A _ (A9a d) (h.2.2 _ (A9a d));rw[Bat,Afp,A9c];have e:=Ah.net_eq kids[i];have l:kids[i].net.kind=kids[i].kind:=by rw[e]
  have s:kids[i].net.one.op=kids[i].op:=by rw[e]
  rw[l,s];exact⟨b _ _ f,b _ _ r,⟨_,b _ _ o,z⟩,⟨_,b _ _ n,q⟩⟩
end Go.Proofs.YtobbpffcggchmaaGreatDoor
namespace Stil
variable {c:Nat}{k:Int}
def V5:Net->Prop
 | ⟨k,_,kids⟩=>((k=2\/k=3)->kids.length≠1/\∀x∈kids,x.kind≠k)/\∀p∈kids.map V5,p
theorem J5 (n:Net):V5 n↔((n.kind=2\/n.kind=3)->n.kids.length≠1/\∀x∈n.kids,x.kind≠n.kind)/\∀x∈n.kids,V5 x:=by
 obtain⟨k,e,kids⟩:=n;rw[V5,all_map]
theorem Ao5 (k:Int)(l:List Net)(h:∀x∈l,x.kind≠k):Dh k l=l:=by
 induction l with
 | nil=>rfl
 | cons x r a=>
  have e:x::r=[x]++r:=rfl;rw[e,Ky,Oe,if_neg (h x spz),a (λy b=>h y (A87 _ b))]
theorem Aja (k:Int)(f:k=2\/k=3)(l:List Net)(h:∀x∈l,V5 x):∀x∈Dh k l,x.kind≠k/\V5 x:=by
 intro x a;obtain⟨y,d,a⟩:=List.mem_flatMap.1 a;have b:=(J5 y).1 (h y d);split at a
 ·rename_i e
  refine⟨?_,b.2 x a⟩;have:=(b.1 (by rw[e];exact f)).2 x a
  rwa [e] at this
 ·rename_i e
  rw[List.mem_singleton.1 a];exact⟨e,h y d⟩
theorem Aod (n:Net):V5 (Ci n):=by
 refine Et (λn=>V5 (Ci n)) ?_ n;intro k e kids g;have d:∀x∈kids.map Ci,V5 x:=by
  intro x a;obtain⟨y,i,rfl⟩:=List.mem_map.1 a;exact g y i
 rw[J4];split
 ·rename_i b
  have hF:=Aja k b _ d;unfold Gj;split
  ·exact(hF _ (A9a _)).2
  ·rename_i f
   rw[J5];exact⟨λ_=>⟨f,λx a=>(hF x a).1⟩,λx a=>(hF x a).2⟩
 ·rename_i b
  rw[J5];exact⟨λh=>absurd h b,d⟩
def J7:Net->Prop
 | ⟨k,e,kids⟩=>((k=2\/k=3)->e=⟨0,[]⟩)/\∀p∈kids.map J7,p
theorem Gn (n:Net):J7 n↔((n.kind=2\/n.kind=3)->n.one=⟨0,[]⟩)/\∀x∈n.kids,J7 x:=by
 obtain⟨k,e,kids⟩:=n;rw[J7,all_map]
theorem Ab0 (n:Net):J7 (Ci n):=by
 refine Et (λn=>J7 (Ci n)) ?_ n;intro k e kids g;have d:∀x∈kids.map Ci,J7 x:=by
  intro x a;obtain⟨y,b,rfl⟩:=List.mem_map.1 a;exact g y b
 have hF:∀x∈Dh k (kids.map Ci),J7 x:=by
  intro x a;obtain⟨y,b,a⟩:=List.mem_flatMap.1 a;have i:=(Gn y).1 (d y b);split at a
  ·exact i.2 x a
  ·rw[List.mem_singleton.1 a];exact d y b
 rw[J4];split
 ·unfold Gj
  split
  ·exact hF _ (A9a _)
  ·rw[Gn]
   exact⟨λ_=>rfl,hF⟩
 ·rename_i f
  rw[Gn];exact⟨λh=>absurd h f,d⟩
theorem Ax9 (n:Net):V5 n->J7 n->Ci n=n:=by
 refine Et (λn=>V5 n->J7 n->Ci n=n) ?_ n;intro k e kids g h j;have a:=(J5 _).1 h;have d:=(Gn _).1 j;simp only at a d;have i:kids.map Ci=kids:=by
  have:kids.map Ci=kids.map id:=Bbo (λx f=>g x f (a.2 x f) (d.2 x f));rw[this,List.map_id]
 rw[J4,i];split
 ·rename_i b
  rw[Ao5 k kids (a.1 b).2];unfold Gj;rw[dif_neg (a.1 b).1,d.1 b]
 ·rfl
theorem Aiq {a:List Net}(m:k=2\/k=3)(d:0<a.length)(h:∀x∈a,Bc x=0):Bc ⟨k,⟨0,[]⟩,a⟩=0:=by
 rw[Jo,if_neg omz];have b:Xn k 0 0 a.length=false:=by
  unfold Xn;have l:decide (k<2)=false:=by rw[Baq];omega
  have j:decide (4<k)=false:=by rw[Baq];omega
  have i:((a.length:Int)==0)=false:=by rw[A95];omega
  have e:(k==4)=false:=by rw[A95];omega
  simp[l,j,i,e]
 rw[if_neg (by simp only[A85,b];exact Bai)];clear d b;induction a with
 | nil=>rfl
 | cons x r g=>
  rw[A9l,Bv,if_neg (by rw[h x spz];omega)];exact g (λy f=>h y (A87 _ f))
theorem Ase {n:Net}(h:Bc n=0)(a:n.kind=2\/n.kind=3):0<n.kids.length/\∀x∈n.kids,Bc x=0:=by
 obtain⟨k,e,kids⟩:=n;simp only at a ⊢;rcases F8 h with⟨b,_⟩ | ⟨_,f,d⟩ | ⟨b,_⟩
 ·omega
 ·exact⟨f,d⟩
 ·omega
theorem Atu (g:k=2\/k=3){l:List Net}(f:0<l.length)(h:∀x∈l,Bc x=0):0<(Dh k l).length/\∀x∈Dh k l,Bc x=0:=by
 have d:∀x∈l,0<(Dh k [x]).length/\∀y∈Dh k [x],Bc y=0:=by
  intro x b;rw[Oe];split
  ·rename_i e
   exact Ase (h x b) (by rw[e];exact g)
  ·exact⟨spz,λy a=>by rw[List.mem_singleton.1 a];exact h x b⟩
 refine⟨?_,λy a=>?_⟩
 ·obtain⟨x,r,rfl⟩:=Bca (List.ne_nil_of_length_pos f)
  have e:x::r=[x]++r:=rfl;rw[e,Ky,A83];have:=(d x spz).1
  omega
 ·obtain⟨x,b,a⟩:=List.mem_flatMap.1 a
  refine(d x b).2 y ?_;rw[Oe];exact a
theorem Aps (a:k=2\/k=3){l:List Net}(e:0<l.length)(h:∀x∈l,Bc x=0):Bc (Gj k (Dh k l))=0:=by
 obtain⟨d,b⟩:=Atu a e h;unfold Gj;split
 ·exact b _ (A9a _)
 ·exact Aiq a d b
theorem Ass (n:Net):Bc n=0->Bc (Ci n)=0:=by
 refine Et (λn=>Bc n=0->Bc (Ci n)=0) ?_ n;intro k e kids f h;have g:=h;rw[J4];rcases F8 h with⟨rfl,rfl⟩ | ⟨d,l,i⟩ | ⟨rfl,rfl,x,rfl,a⟩
 ·rw[if_neg omz];exact g
 ·rw[if_pos d]
  refine Aps d (by simpa using l) (λx a=>?_);obtain⟨y,b,rfl⟩:=List.mem_map.1 a;exact f y b (i y b)
 ·rw[if_neg omz]
  have b:=f x spz a;rw[Jo,if_neg omz];have j:Xn 4 (⟨0,[]⟩:Elem).op (⟨0,[]⟩:Elem).args.length ([x].map Ci).length=false:=rrz
  rw[if_neg (by rw[j];exact Bai)];simp only[A9l,A97,Bv];rw[if_neg omz]
def fine (n:Net):Prop:=V5 n/\J7 n/\Bc n=0
theorem Ael {n:Net}(h:Bc n=0):fine (Ci n):=⟨Aod n,Ab0 n,Ass n h⟩
theorem Al6 {n:Net}(h:fine n):Ci n=n:=Ax9 n h.1 h.2.1
def none0:Net:=⟨0,⟨0,[]⟩,[]⟩
theorem Abe {n:Net}(h:Bl n=true):n=none0:=by
 obtain⟨k,⟨op,args⟩,kids⟩:=n;simp only[Bl,Bool.and_eq_true,Bbk] at h;obtain⟨⟨⟨b,f⟩,d⟩,a⟩:=h;have g:=List.length_eq_zero_iff.1 d;have e:=List.length_eq_zero_iff.1 a;subst g e b f;rfl
theorem Aaj {n:Net}(h:fine n):Bl n=false:=by
 cases d:Bl n with
 | false=>rfl
 | true=>
  have e:=Abe d;have a:=h.2.2;rw[e] at a;unfold none0 at a;rcases F8 a with⟨b,_⟩ | ⟨b,_⟩ | ⟨b,_⟩<;>omega
def Ny (a b:Net):Net:=if Bl a then b else if Bl b then a else Gj 2 (Dh 2 [a,b])
theorem Ah8 {l:List Net}(b:0<l.length)(h:∀x∈l,fine x):fine (Gj 2 (Dh 2 l)):=by
 have d:l.map Ci=l:=by
  have:l.map Ci=l.map id:=Bbo (λx a=>Al6 (h x a));rw[this,List.map_id]
 have e:Gj 2 (Dh 2 l)=Ci ⟨2,⟨0,[]⟩,l⟩:=by rw[J4,if_pos (.inl rfl),d]
 rw[e];exact Ael (Aiq (.inl rfl) b (λx a=>(h x a).2.2))
def Kz (n:Net):Prop:=Bl n=true\/fine n
theorem U7 {a b:Net}(e:Kz a)(f:Kz b):Kz (Ny a b):=by
 unfold Ny;split
 ·exact f
 ·rename_i g
  split
  ·exact e
  ·rename_i i
   refine .inr (Ah8 spz (λx d=>?_));rcases List.mem_cons.1 d with rfl | d
   ·rcases e with h | h
    ·exact absurd h g
    ·exact h
   ·rw[List.mem_singleton.1 d]
    rcases f with h | h
    ·exact absurd h i
    ·exact h
def Jv (l:List Arm):Nat:=(l.map Ed).sum
def Hy:Nat->Arm->Arm
 | 0,a=>a
 | f+1,a=>match a.kids with
  | [b]=>if a.coils=[]\/Bl b.net=true then Hy f ⟨Ny a.net b.net,a.coils++b.coils,b.kids⟩ else a
  | _=>a
theorem Pj (a:Arm):1+Jv a.kids<=Ed a:=by
 obtain⟨n,c,kids⟩:=a;rw[Abu];unfold Jv;simp only;omega
theorem Alq (f:Nat):∀a:Arm,Jv a.kids<=f->Hy f a=Hy (f+1) a:=by
 induction f with
 | zero=>
  intro a h;rw[Hy];conv=>rhs;rw[Hy]
  split
  ·rename_i b e
   rw[e] at h;have:=Pj b
   simp[Jv] at h;omega
  ·rfl
 | succ f d=>
  intro a h;rw[Hy];conv=>rhs;rw[Hy]
  split
  ·rename_i b e
   split
   ·refine d _ ?_
    rw[e] at h;have:=Pj b
    simp only[Jv,A9l,A97,Bac,Bbe] at h this ⊢;omega
   ·rfl
  ·rfl
def joined (a:Arm):Arm:=Hy (Jv a.kids) a
theorem Ate (a:Arm):∀f,Jv a.kids<=f->Hy f a=joined a:=by
 intro f h;obtain⟨d,rfl⟩:=Nat.exists_eq_add_of_le h;clear h;induction d with
 | zero=>rfl
 | succ d b=>rw[<-Nat.add_assoc,<-Alq _ a omz];exact b
theorem Aoo (n:Net)(c:List Elem)(a:Arm)(h:c=[]\/Bl a.net=true):joined ⟨n,c,[a]⟩=joined ⟨Ny n a.net,c++a.coils,a.kids⟩:=by
 have d:Jv [a]=Ed a:=by simp[Jv]
 have e:=Pj a;unfold joined;simp only;rw[d];obtain⟨f,b⟩:∃f,Ed a=f+1:=⟨Ed a - 1,omz⟩
 rw[b,Hy];simp only;rw[if_pos h];exact Ate _ f (by simp only;omega)
theorem Y1 (a:Arm)(h:∀b,a.kids=[b]->¬(a.coils=[]\/Bl b.net=true)):joined a=a:=by
 unfold joined;cases d:Jv a.kids with
 | zero=>rfl
 | succ f=>
  rw[Hy];split
  ·rename_i b e
   rw[if_neg (h b e)]
  ·rfl
def D5:Arm->Arm
 | ⟨n,a,kids⟩=>joined ⟨if Bl n then n else Ci n,a,kids.map D5⟩
theorem Asv (n:Net)(a:List Elem)(kids:List Arm):D5 ⟨n,a,kids⟩=joined ⟨if Bl n then n else Ci n,a,kids.map D5⟩:=by rw[D5]
theorem Atx:(⟨0,[]⟩:Elem).fits:=⟨by show i64 0;unfold i64;omega,spz,spz⟩
theorem Al5 {l:List Net}(h:∀x∈l,Cj x):∀x∈Dh k l,Cj x:=by
 intro x a;obtain⟨y,b,a⟩:=List.mem_flatMap.1 a;split at a
 ·exact(Es (h y b)).2.2.2 x a
 ·rw[List.mem_singleton.1 a];exact h y b
theorem Ah7 (a:i64 k){l:List Net}(h:∀x∈l,Cj x)(hl:l.length<=1048576):Cj (Gj k l):=by
 unfold Gj;split
 ·exact h _ (A9a _)
 ·exact(Gt _ _ _).2 ⟨a,Atx,hl,h⟩
theorem Anu {a b:Net}(e:Cj a)(f:Cj b)(g:Aj a+Aj b<=1000000):Cj (Ny a b):=by
 unfold Ny;split
 ·exact f
 ·split
  ·exact e
  ·refine Ah7 yCi (Al5 (λx d=>?_)) ?_
   ·rcases List.mem_cons.1 d with rfl | d
    ·exact e
    ·rw[List.mem_singleton.1 d];exact f
   ·have i:=Fz (Dh 2 [a,b])
    have l:=Nk 2 [a,b];have j:sizes [a,b]=Aj a+Aj b:=by simp[sizes]
    omega
def nsz (n:Net):Nat:=if Bl n then 0 else Aj n
theorem Ax6 (n:Net):nsz n<=Aj n:=by unfold nsz;split<;>omega
theorem size_le (n:Net):Aj n<=1+nsz n:=by
 unfold nsz;split
 ·rename_i h
  rw[Abe h];show Aj ⟨0,⟨0,[]⟩,[]⟩<=_
  rw[Oa];simp
 ·omega
theorem Anr (a b:Net):nsz (Ny a b)<=nsz a+nsz b+1:=by
 unfold Ny;split
 ·omega
 ·rename_i d
  split
  ·omega
  ·rename_i e
   refine A9f (Ax6 _) ?_;have h:=Ach 2 (Dh 2 [a,b]);have f:=Nk 2 [a,b];have g:sizes [a,b]=Aj a+Aj b:=by simp[sizes]
   have j:nsz a=Aj a:=if_neg d;have i:nsz b=Aj b:=if_neg e;omega
theorem Ey (n:Net)(c:List Elem)(kids:List Arm):Ed ⟨n,c,kids⟩=1+c.length+nsz n+Jv kids:=by rw[Abu];rfl
def Abh (c:Nat)(b:Arm):Prop:=D7 b/\Ed b<=c
theorem Aer (l:List Arm):l.length<=Jv l:=by
 unfold Jv;induction l with
 | nil=>simp
 | cons x r a=>
  have:=Pj x
  simp only[A84,A9l,Bac];omega
theorem Aes (k:Arm):Jv [k]=Ed k:=by simp[Jv]
theorem Ayr {n:Net}{cs:List Elem}{a:Arm}(h:Abh c ⟨n,cs,[a]⟩)(r:c<=900000):Abh c ⟨Ny n a.net,cs++a.coils,a.kids⟩/\sizes [n,a.net]<=999999/\Cj n/\Cj a.net/\cs.length+a.coils.length<=1000000/\Jv a.kids<Jv [a]:=by
 obtain⟨i,g⟩:=h;rw[Ey,Aes] at g;obtain⟨f,l,j⟩:=a;rw[Ey] at g;rw[Aes,Ey];simp only;have e:=(Gh _ _ _).1 i;have d:=(Gh _ _ _).1 (e.2.2.2.2 ⟨f,l,j⟩ spz);have m:=size_le n;have q:=size_le f;have o:=Anr n f;refine⟨⟨(Gh _ _ _).2 ⟨Anu e.1 d.1 omz,by rw[A83];omega,λx b=>?_,d.2.2.2⟩,?_⟩,by simp[sizes];omega,e.1,d.1,omz,omz⟩
 ·rcases List.mem_append.1 b with b | b
  ·exact e.2.2.1 x b
  ·exact d.2.2.1 x b
 ·rw[Ey,A83];omega
theorem Ahk (a:c<=900000):∀(f:Nat) (b:Arm),Abh c b->Abh c (Hy f b)
 | 0,b,h=>h
 | f+1,⟨n,d,kids⟩,h=>by
  rw[Hy];split
  ·rename_i g e
   simp only at e;subst e;split
   ·exact Ahk a f _ (Ayr h a).1
   ·exact h
  ·exact h
theorem Ayq (a:c<=900000)(b:Arm)(h:Abh c b):Abh c (joined b):=Ahk a _ b h
theorem Asu (n:Net):Cj n->Aj n<=1000000->Cj (Ci n):=by
 refine Et (λn=>Cj n->Aj n<=1000000->Cj (Ci n)) ?_ n;intro k e kids f h g;rw[J4];have a:=(Gt _ _ _).1 h;have j:sizes kids<Aj ⟨k,e,kids⟩:=by rw[D9];simp only;omega
 have b:∀x∈kids.map Ci,Cj x:=by
  intro x b;obtain⟨y,d,rfl⟩:=List.mem_map.1 b;have:Aj y<=sizes kids:=Hr Aj kids y d;exact f y d (a.2.2.2 y d) omz
 split
 ·refine Ah7 a.1 (Al5 b) ?_
  have l:=Fz (Dh k (kids.map Ci));have i:=Nk k (kids.map Ci);have m:=Ahg kids;omega
 ·exact(Gt _ _ _).2 ⟨a.1,a.2.1,by rw[A9j];exact a.2.2.1,b⟩
def Wh (n:Net):Net:=if Bl n then n else Ci n
theorem As4 {n:Net}(h:Cj n)(a:nsz n<=900000):Cj (Wh n):=by
 unfold Wh;split
 ·exact h
 ·exact Asu n h (by have:=size_le n;omega)
theorem As2 (n:Net):nsz (Wh n)<=nsz n:=by
 unfold Wh;split
 ·exact A88 _
 ·rename_i h
  have e:nsz n=Aj n:=if_neg h;rw[e];exact A9f (Ax6 _) (Ab1 n)
theorem N8 (n:Net)(c:List Elem)(kids:List Arm):D5 ⟨n,c,kids⟩=joined ⟨Wh n,c,kids.map D5⟩:=Asv n c kids
theorem Arw {n:Net}{c:List Elem}{kids:List Arm}(g:D7 ⟨n,c,kids⟩)(i:Ed ⟨n,c,kids⟩<=900000)(f:∀x∈kids,Abh (Ed x) (D5 x)):Abh (Ed ⟨n,c,kids⟩) ⟨Wh n,c,kids.map D5⟩:=by
 have d:=(Gh _ _ _).1 g;rw[Ey] at i ⊢;have o:=As2 n;have m:Jv (kids.map D5)<=Jv kids:=by
  clear g i d;induction kids with
  | nil=>simp
  | cons x r l=>
   have a:=(f x spz).2;have b:=l (λy e=>f y (A87 _ e));simp only[Jv,A9l,Bac] at b ⊢;omega
 refine⟨(Gh _ _ _).2 ⟨As4 d.1 omz,d.2.1,d.2.2.1,by rw[A9j];exact d.2.2.2.1,λx j=>?_⟩,by rw[Ey];omega⟩;obtain⟨y,e,rfl⟩:=List.mem_map.1 j;exact(f y e).1
theorem Abd (a:Arm):D7 a->Ed a<=900000->Abh (Ed a) (D5 a):=by
 refine I9 (λa=>D7 a->Ed a<=900000->Abh (Ed a) (D5 a)) ?_ a;intro n c kids f e b;rw[N8];have g:=(Gh _ _ _).1 e;refine Ayq b _ (Arw e b (λx d=>f x d (g.2.2.2.2 x d) ?_));have:Ed x<=Jv kids:=Hr Ed kids x d;rw[Ey] at b;omega
def Ht:Arm->Prop
 | ⟨n,_,kids⟩=>Kz n/\∀p∈kids.map Ht,p
theorem Ic (n:Net)(c:List Elem)(kids:List Arm):Ht ⟨n,c,kids⟩↔Kz n/\∀x∈kids,Ht x:=by rw[Ht,all_map]
theorem Aaf {n:Net}{cs:List Elem}{a:Arm}(h:Ht ⟨n,cs,[a]⟩):Ht ⟨Ny n a.net,cs++a.coils,a.kids⟩/\Kz n/\Kz a.net:=by
 obtain⟨e,g,f⟩:=a;have b:=(Ic _ _ _).1 h;have d:=(Ic _ _ _).1 (b.2 ⟨e,g,f⟩ spz);exact⟨(Ic _ _ _).2 ⟨U7 b.1 d.1,d.2⟩,b.1,d.1⟩
theorem Ab9:∀(f:Nat) (b:Arm),Ht b->Ht (Hy f b)
 | 0,b,h=>h
 | f+1,⟨n,a,kids⟩,h=>by
  rw[Hy];split
  ·rename_i d e
   simp only at e;subst e;split
   ·exact Ab9 f _ (Aaf h).1
   ·exact h
  ·exact h
theorem Aop (b:Arm)(h:Ht b):Ht (joined b):=Ab9 _ b h
theorem Rf {n:Net}(h:Bl n=true\/Bc n=0):Kz (Wh n):=by
 unfold Wh;split
 ·rename_i a;exact .inl a
 ·rename_i a
  rcases h with h | h
  ·exact absurd h a
  ·exact .inr (Ael h)
def Ju:Arm->Prop
 | ⟨n,_,kids⟩=>(Bl n=true\/Bc n=0)/\∀p∈kids.map Ju,p
theorem Pm (n:Net)(c:List Elem)(kids:List Arm):Ju ⟨n,c,kids⟩↔(Bl n=true\/Bc n=0)/\∀x∈kids,Ju x:=by rw[Ju,all_map]
theorem Tf (a:Arm):Ju a->Ht (D5 a):=by
 refine I9 (λa=>Ju a->Ht (D5 a)) ?_ a;intro n c kids e h;have b:=(Pm _ _ _).1 h;rw[N8];refine Aop _ ((Ic _ _ _).2 ⟨Rf b.1,λx f=>?_⟩);obtain⟨y,d,rfl⟩:=List.mem_map.1 f;exact e y d (b.2 y d)
theorem Afi (a:Arm):Fv a=0->Ju a:=by
 refine I9 (λa=>Fv a=0->Ju a) ?_ a;intro n c kids f h;rw[Zc] at h;have b:Cm ⟨n,c,kids⟩=0:=by
  have:=Pn ⟨n,c,kids⟩
  split at h<;>omega
 rw[if_neg omz] at h;refine(Pm _ _ _).2 ⟨?_,λx d=>f x d ?_⟩
 ·unfold Cm at b
  simp only at b;cases e:Bl n with
  | true=>exact .inl rfl
  | false=>
   refine .inr ?_;have:=Nh n
   simp only[e] at b;split at b
   ·simp at*;omega
   ·simp at*;omega
 ·exact Vl _ (λy g=>by obtain⟨z,_,rfl⟩:=List.mem_map.1 g;exact(Uc z).1) h _ (List.mem_map.2 ⟨x,d,rfl⟩)
def Bh (l:List Arm):List Arm:=if(Dc l).1=0 then l.map D5 else []
theorem Ym:∀(l:List Arm) (k:Nat),(Gf l k).1=0->(Gf l k).2=0/\∀x∈l,F9 x=0
 | [],_,_=>⟨rfl,λx b=>by cases b⟩
 | a::r,k,h=>by
  rw[Gf] at h ⊢;have g:=Ad5 a;by_cases d:0<F9 a
  ·rw[if_pos d] at h;simp only at h;omega
  ·rw[if_neg d] at h ⊢
   obtain⟨e,f⟩:=Ym r (k+1) h;refine⟨e,λx b=>?_⟩;rcases List.mem_cons.1 b with rfl | b
   ·omega
   ·exact f x b
theorem Awz {a:Arm}(h:F9 a=0):Bl a.net=false/\Fv a=0:=by
 unfold F9 at h;cases b:Bl a.net with
 | true=>rw[b] at h;simp at h
 | false=>rw[b] at h;exact⟨rfl,by simpa using h⟩
theorem Og {l:List Arm}(h:(Dc l).1=0):(Dc l).2=0/\l.length<=40/\Ce l<=400/\∀x∈l,Bl x.net=false/\Fv x=0:=by
 unfold Dc at h ⊢;by_cases a:40<l.length\/400<Ce l
 ·rw[if_pos a] at h;simp at h
 ·rw[if_neg a] at h ⊢
  obtain⟨b,d⟩:=Ym l 0 h;exact⟨b,omz,omz,λx e=>Awz (d x e)⟩
theorem Apw {l:List Arm}{x:Arm}(hx:x∈l):Ed x<=Ce l:=Hr Ed l x hx
theorem Ls {l:List Arm}(h:(Dc l).1=0){x:Arm}(hx:x∈l):Ju x/\Ed x<=400:=by
 obtain⟨_,_,b,a⟩:=Og h;exact⟨Afi x (a x hx).2,A9f (Apw hx) b⟩
end Stil
