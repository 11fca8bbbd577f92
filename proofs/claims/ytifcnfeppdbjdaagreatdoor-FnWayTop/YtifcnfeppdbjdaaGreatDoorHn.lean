import Derived.Test.YtifcnfeppdbjdaaGreatDoorS30
namespace Stil
variable {B B2 F F2 b' f f':Nat}{k:Int}
theorem xT (l:List Io):∀(s:Pt) (k:Nat),0<=(F8 s k l).1/\(F8 s k l).1<=9/\(F8 s k l).2<=k+l.length:=by
 induction l with
 | nil=>intro s k;rw[F8];split<;>simp
 | cons i r b=>
  intro s k;rw[F8];have a:=NP s i;split
  ·exact⟨a.1,AQ,AU⟩
  ·have:=b (next s i.code) (k+1)
   exact⟨this.1,this.2.1,by simp;omega⟩
theorem sT (l:List Io):0<=(Ee l).1/\(Ee l).1<=9/\(Ee l).2<=l.length:=by
 unfold Ee;split
 ·simp
 ·have:=xT l pt0 0
  simpa using this
def step (s:Int × Int)(c:Int):Int × Int:=(if c=1 then s.1+1 else if c=4\/c=5\/c=11 then s.1 - 1 else s.1,if c=7 then s.2+1 else if c=9 then s.2 - 1 else s.2)
def Eb:Int × Int->List Io->List (Int × Int)
 | _,[]=>[]
 | s,i::r=>step s i.code::Eb (step s i.code) r
def I4 (l:List Io):List (Int × Int):=if 1000<l.length then [] else Eb (0,0) l
theorem Sv (l:List Io):∀s,(Eb s l).length=l.length:=by
 induction l with
 | nil=>intro s;rfl
 | cons i r a=>intro s;rw[Eb,CH,a,CH]
def F9:Int × Int->List (Int × Int)->Int × Int
 | p,[]=>p
 | p,s::r=>F9 (if p.1<s.1 then s.1 else p.1,if p.2<s.2 then s.2 else p.2) r
def Sz (l:List Io):Int × Int:=F9 (0,0) (I4 l)
theorem kq (t:List (Int × Int)):∀p,p.1<=(F9 p t).1/\p.2<=(F9 p t).2:=by
 induction t with
 | nil=>intro p;exact⟨Int.le_refl _,Int.le_refl _⟩
 | cons s r a=>
  intro p;have:=a (if p.1<s.1 then s.1 else p.1,if p.2<s.2 then s.2 else p.2)
  rw[F9];simp only at this;constructor
  ·refine Int.le_trans ?_ this.1
   split<;>omega
  ·refine Int.le_trans ?_ this.2
   split<;>omega
theorem ko (t:List (Int × Int))(B F:Int)(h:∀s∈t,s.1<=B/\s.2<=F):∀p,p.1<=B->p.2<=F->(F9 p t).1<=B/\(F9 p t).2<=F:=by
 induction t with
 | nil=>intro p a b;exact⟨a,b⟩
 | cons s r c=>
  intro p a b;have d:=h s AU;rw[F9];refine c (λx hx=>h x BS) _ ?_ ?_
  ·simp only;split<;>omega
  ·simp only;split<;>omega
theorem xP (l:List Io):∀(s:Pt) (k:Nat),s.good->(F8 s k l).1=0->∀x∈Eb (s.bits,s.forks) l,x.1<=16/\x.2<=8:=by
 induction l with
 | nil=>intro s k _ _ x a;cases a
 | cons i r d=>
  intro s k g h x a;have j:=NP s i;rw[F8] at h;have c:wrong s i=0:=by
   split at h
   ·simp only at h;omega
   ·omega
  rw[if_neg AQ] at h;have e:step (s.bits,s.forks) i.code=((next s i.code).bits,(next s i.code).forks):=by rw[<-behind_next g c];rfl
  have b:=YE g c;rw[Eb,e] at a;rcases List.mem_cons.1 a with rfl | a
  ·exact⟨b.2.1,b.2.2.2.1⟩
  ·exact d _ (k+1) b h x a
theorem Ayn {l:List Io}(h:(Ee l).1=0):(Sz l).1<=16/\(Sz l).2<=8/\(l.length=0\/0<(Sz l).1):=by
 have c:¬1000<l.length:=by
  intro b;unfold Ee at h;rw[if_pos b] at h;simp at h
 have e:Ee l=F8 pt0 0 l:=by unfold Ee;rw[if_neg c]
 have j:I4 l=Eb (0,0) l:=by unfold I4;rw[if_neg c]
 rw[e] at h;unfold Sz;rw[j];obtain⟨g,b⟩:=ko (Eb (0,0) l) 16 8 (xP l pt0 0 NE h) (0,0) AU AU;refine⟨g,b,?_⟩;cases l with
 | nil=>exact .inl rfl
 | cons i r=>
  right;have n:=NP pt0 i;rw[F8] at h;have d:wrong pt0 i=0:=by
   split at h
   ·simp only at h;omega
   ·omega
  obtain⟨m,a,_⟩:=OA d;have o:=MB m;have hi:i.code=1:=by
   by_cases hi:i.code=1
   ·exact hi
   ·exfalso
    unfold needs at a;rw[if_neg hi] at a;simp only[pt0] at a;split at a<;>omega
  rw[Eb,F9];have:=(kq (Eb (step (0,0) i.code) r) (if(0:Int)<(step (0,0) i.code).1 then(step (0,0) i.code).1 else 0,if(0:Int)<(step (0,0) i.code).2 then(step (0,0) i.code).2 else 0)).1
  simp only[step,hi] at this ⊢;simp at this ⊢;omega
def stFrom:Int × Int->List Io->Nat->Int × Int
 | s,_,0=>s
 | s,[],_+1=>s
 | s,i::r,j+1=>stFrom (step s i.code) r j
theorem Wn (s:Int × Int)(l:List Io):stFrom s l 0=s:=by cases l<;>rfl
theorem NQ (l:List Io):∀(s:Int × Int) (j:Nat) (h:j<l.length),stFrom s l (j+1)=step (stFrom s l j) l[j].code:=by
 induction l with
 | nil=>intro s j h;simp at h
 | cons i r a=>
  intro s j h;cases j with
  | zero=>
   show stFrom (step s i.code) r 0=_
   rw[Wn];rfl
  | succ j=>
   have b:j<r.length:=by simpa using h
   show stFrom (step s i.code) r (j+1)=step (stFrom (step s i.code) r j) r[j].code
   exact a _ j b
theorem Axd (l:List Io):∀(s:Int × Int) (j:Nat),j<l.length->(Eb s l)[j]?=some (stFrom s l (j+1)):=by
 induction l with
 | nil=>intro s j h;simp at h
 | cons i r a=>
  intro s j h;rw[Eb];cases j with
  | zero=>show some _=some (stFrom (step s i.code) r 0);rw[Wn]
  | succ j=>
   show(Eb (step s i.code) r)[j]?=some (stFrom (step s i.code) r (j+1))
   exact a _ j BR
theorem WG (l:List Io)(j:Nat)(h:j<l.length):(Eb (0,0) l).take (j+1)=(Eb (0,0) l).take j++[step (stFrom (0,0) l j) l[j].code]:=by
 have a:j<(Eb (0,0) l).length:=by rw[Sv];exact h
 rw[D2 a];congr 2;have:=Axd l (0,0) j h
 rw[DX a,NQ l (0,0) j h] at this;exact DG this
theorem YW (l:List Io):∀(s:Int × Int) (j:Nat),s.1 - j<=(stFrom s l j).1/\(stFrom s l j).1<=s.1+j/\s.2 - j<=(stFrom s l j).2/\(stFrom s l j).2<=s.2+j:=by
 induction l with
 | nil=>
  intro s j;cases j<;>simp only[stFrom]<;>omega
 | cons i r a=>
  intro s j;cases j with
  | zero=>rw[Wn];omega
  | succ j=>
   have c:s.1 - 1<=(step s i.code).1/\(step s i.code).1<=s.1+1:=by
    unfold step;simp only;split
    ·omega
    ·split<;>omega
   have d:s.2 - 1<=(step s i.code).2/\(step s i.code).2<=s.2+1:=by
    unfold step;simp only;split
    ·omega
    ·split<;>omega
   have b:=a (step s i.code) j;show s.1 - ((j+1:Nat):Int)<=(stFrom (step s i.code) r j).1/\(stFrom (step s i.code) r j).1<=s.1+((j+1:Nat):Int)/\s.2 - ((j+1:Nat):Int)<=(stFrom (step s i.code) r j).2/\(stFrom (step s i.code) r j).2<=s.2+((j+1:Nat):Int)
   omega
def JV (p s:Int × Int):Int × Int:=(if p.1<s.1 then s.1 else p.1,if p.2<s.2 then s.2 else p.2)
theorem Aym (t:List (Int × Int))(s:Int × Int):∀p,F9 p (t++[s])=JV (F9 p t) s:=by
 induction t with
 | nil=>intro p;rfl
 | cons x r a=>intro p;rw[C4,F9,a,F9]
theorem Ayl (t:List (Int × Int))(j:Nat)(h:j<t.length):F9 (0,0) (t.take (j+1))=JV (F9 (0,0) (t.take j)) t[j]:=by
 rw[D2 h,Aym]
theorem tG (l:List Io):∀s∈I4 l,-2000<=s.1/\s.1<=2000/\-2000<=s.2/\s.2<=2000:=by
 intro s a;unfold I4 at a;by_cases h:1000<l.length
 ·rw[if_pos h] at a;cases a
 ·rw[if_neg h] at a
  obtain⟨j,b,rfl⟩:=List.getElem_of_mem a;have d:j<l.length:=by rw[Sv] at b;exact b
  have e:=WG l j d;rw[D2 b] at e;have i:=List.append_cancel_left e;injection i with g _
  have c:=YW l (0,0) (j+1);rw[NQ l (0,0) j d] at c;rw[g];simp only at c;omega
def JD:Int × Int->List Io->Int × Int
 | s,[]=>s
 | s,i::r=>JD (step s i.code) r
theorem TP:∀(l m:List Io) (s:Int × Int),JD s (l++m)=JD (JD s l) m
 | [],_,_=>rfl
 | i::r,m,s=>TP r m (step s i.code)
theorem TW:∀(l m:List Io) (s:Int × Int),Eb s (l++m)=Eb s l++Eb (JD s l) m
 | [],_,_=>rfl
 | i::r,m,s=>by rw[C4,Eb,TW r m,Eb,JD,C4]
theorem UX:∀(t u:List (Int × Int)) (p:Int × Int),F9 p (t++u)=F9 (F9 p t) u
 | [],_,_=>rfl
 | s::r,u,p=>by rw[C4,F9,UX r u,F9]
def hts (b f:Nat):Int × Int:=((b:Int),(f:Int))
theorem gx (p q b f:Nat):JV (hts p q) (hts b f)=hts (max p b) (max q f):=by
 unfold JV hts;refine Prod.ext ?_ ?_
 ·show(if(p:Int)<b then(b:Int) else p)=((max p b:Nat):Int)
  split<;>omega
 ·show(if(q:Int)<f then(f:Int) else q)=((max q f:Nat):Int)
  split<;>omega
structure Gu (l:List Io)(b f b' f' B F:Nat):Prop where
 lo1:b<=B
 lo2:f<=F
 hi1:b'<=B
 hi2:f'<=F
 fin:JD (hts b f) l=hts b' f'
 top:∀p q:Nat,b<=p->f<=q->F9 (hts p q) (Eb (hts b f) l)=hts (max p B) (max q F)
theorem Gu.nil (b f:Nat):Gu [] b f b f b f:=⟨CG _,CG _,CG _,CG _,rfl,λp q c a=>by rw[Nat.max_eq_left c,Nat.max_eq_left a];rfl⟩
theorem Gu.one {i:Io}{b:Nat}(h:step (hts b f) i.code=hts b' f'):Gu [i] b f b' f' (max b b') (max f f'):=by
 refine⟨AQ,AQ,AQ,AQ,h,λp q c a=>?_⟩;show JV (hts p q) (step (hts b f) i.code)=_
 rw[h,gx];congr 1<;>omega
theorem Gu.append {l m:List Io}{b a c:Nat}(h:Gu l b f b' f' B F)(k:Gu m b' f' a c B2 F2):Gu (l++m) b f a c (max B B2) (max F F2):=by
 have i:=h.lo1;have o:=h.lo2;have g:=k.hi1;have s:=k.hi2;refine⟨AQ,AQ,AQ,AQ,by rw[TP,h.fin,k.fin],λp q d e=>?_⟩;have n:=h.hi1;have j:=h.hi2;rw[TW,UX,h.top p q d e,h.fin,k.top _ _ AQ AQ];congr 1<;>omega
theorem Gu.cast {l:List Io}{b:Nat}(h:Gu l b f b' f' B F)(h1:B=B2)(a:F=F2):Gu l b f b' f' B2 F2:=by subst h1 a;exact h
theorem Mc (b x:Nat)(l:List Nat):Bo b (x::l)=max x (Bo b l):=by
 show Bo (max b x) l=_
 rw[Nat.max_comm,Qd]
theorem fk {n:B9}(h:n.kind=1):Di n=1:=by unfold Di KR;rw[if_pos h]
theorem WH {n:B9}(h:n.kind≠1):Di n=1+Bf n:=by unfold Di KR;rw[if_neg h]
theorem LJ {b:Nat}{c:Int}(h:c=2\/c=3\/c=6\/c=8\/c=10):step (hts b f) c=hts b f:=by
 rcases h with rfl | rfl | rfl | rfl | rfl<;>rfl
theorem vE (c:k=2\/k=3){y:B9}(d:∀b f,Gu (Dc y) b f (b+1) f (b+Bf y) f)(b f:Nat):Gu (Df k y) (b+1) f (b+1) f (b+Di y) f:=by
 by_cases a:y.kind=1
 ·rw[Qz k y a,fk a]
  exact(Gu.one (i:=⟨k,y.one⟩) (LJ (by rcases c with h | h<;>simp[h]))).cast AQ AQ
 ·rw[Oc k y a,WH a]
  have j:step (hts (b+1+1) f) (I9 (k+2)).code=hts (b+1) f:=by
   have e:step (hts (b+1+1) f) (I9 (k+2)).code=(((b+1+1:Nat):Int) - 1,(f:Int)):=by rcases c with rfl | rfl<;>rfl
   rw[e];unfold hts;refine Prod.ext ?_ rfl;show((b+1+1:Nat):Int) - 1=((b+1:Nat):Int)
   omega
  have g:=(d (b+1) f).append (Gu.one j);have l:=(d (b+1) f).hi1;exact g.cast AQ AQ
theorem NS (a:k=2\/k=3)(b f:Nat):∀(r:List B9),(∀y∈r,∀b f,Gu (Dc y) b f (b+1) f (b+Bf y) f)->Gu ((r.map (Df k)).flatten) (b+1) f (b+1) f (b+Bo 1 (r.map Di)) f
 | [],_=>Gu.nil _ _
 | y::r,h=>by
  rw[CP,EB,CP,Mc];exact((vE a (h y AU) b f).append (NS a b f r (λz c=>h z (CQ _ c)))).cast AQ AQ
theorem OI (n:B9):Ve n->Ai n=0->∀b f,Gu (Dc n) b f (b+1) f (b+Bf n) f:=by
 refine Gf (λn=>Ve n->Ai n=0->∀b f,Gu (Dc n) b f (b+1) f (b+Bf n) f) ?_ n;intro k e kids d h q b f;have g:=((Zf _ _ _).1 h).2;have o:step (hts b f) (1:Int)=hts (b+1) f:=by
  have w:step (hts b f) (1:Int)=((b:Int)+1,(f:Int)):=rfl;rw[w];refine Prod.ext ?_ rfl;show(b:Int)+1=((b+1:Nat):Int)
  omega
 rcases H6 q with⟨rfl,rfl⟩ | ⟨u,l,j⟩ | ⟨rfl,_,x,rfl,s⟩
 ·rw[Qb,Yr]
  exact(Gu.one (i:=⟨1,e⟩) o).cast AQ AQ
 ·obtain⟨x,r,rfl⟩:∃x r,kids=x::r:=by
   cases kids with
   | nil=>simp at l
   | cons x r=>exact⟨x,r,rfl⟩
  rw[O0 e x r AQ AQ,Qj e x r AQ];have a:=d x AU (g x AU) (j x AU) b f;have m:=NS u b f r (λy c=>d y (CQ _ c) (g y (CQ _ c)) (j y (CQ _ c)));have t:=a.hi1;have z:Bo (Bf x) (r.map Di)=max (Bf x) (Bo 1 (r.map Di)):=by
   rw[<-Qd,Nat.max_eq_left AQ]
  exact(a.append m).cast AQ AQ
 ·rw[Qc,Qj e x [] AY]
  have a:=d x AU (g x AU) s b f;have t:=a.hi1;refine(a.append (Gu.one (i:=I9 6) (LJ (by simp[I9])))).cast ?_ AQ;show max (b+Bf x) (max (b+1) (b+1))=b+Bf x
  omega
theorem Xb (f:Nat):∀(a:List Elem),Gu (Iu a) 1 f 1 f 1 f
 | []=>Gu.nil _ _
 | c::a=>((Gu.one (i:=⟨10,c⟩) (LJ (b:=1) (f:=f) AU)).append (Xb f a)).cast AQ AQ
theorem U5 {n:B9}(h:Iq n):∀x∈Ci n,Ai x=0:=by
 intro x a;unfold Ci at a;split at a
 ·cases a
 ·rename_i c
  have b:=h.resolve_left c;split at a
  ·exact Pj b.2.2 x a
  ·rw[List.mem_singleton.1 a];exact b.2.2
theorem rp {n:B9}(h:Iq n)(f:Nat):Gu (Dy n) 1 f 1 f (Bo 1 ((Ci n).map Di)) f:=by
 unfold Dy;have:=NS (.inl rfl) 0 f (Ci n) (λy a=>OI y (VC h y a) (U5 h y a))
 exact this.cast AQ rfl
theorem Nn {k:B8}(h:Iq k.net)(a:Gu (Dl k) 1 f 1 f (C9 k) (f+forks k)):Gu (Dy k.net++Dl k) 1 f 1 f (Ha k.net (C9 k)) (f+forks k):=by
 have b:=a.lo1;refine((rp h f).append a).cast ?_ AQ;unfold Ha;have e:Bo (C9 k) ((Ci k.net).map Di)=max (C9 k) (Bo 1 ((Ci k.net).map Di)):=by
  rw[<-Qd,Nat.max_eq_left b]
 omega
def Qg:List B8->Nat
 | []=>0
 | [k]=>forks k
 | k::t=>max (forks k+1) (Qg t)
theorem N6:∀(a:List B8),Bo 0 (bump (a.map forks))=Qg a
 | []=>rfl
 | [k]=>by
  show max 0 (Yq 1 0 (forks k))=forks k
  unfold Yq;rw[if_neg AQ];omega
 | k::y::t=>by
  have d:=N6 (y::t);have e:bump ((k::y::t).map forks)=(forks k+1)::bump ((y::t).map forks):=by
   unfold bump;rw[CP,List.mapIdx_cons];have b:Yq (forks k::(y::t).map forks).length 0 (forks k)=forks k+1:=by unfold Yq;rw[if_pos AU]
   have c:(λi x=>Yq (forks k::(y::t).map forks).length (i+1) x)=λi x=>Yq ((y::t).map forks).length i x:=by
    funext i x;unfold Yq;simp only[CH,CW];by_cases hi:i+1<t.length+1
    ·rw[if_pos AQ,if_pos AQ]
    ·rw[if_neg AQ,if_neg AQ]
   rw[b,c]
  rw[e,Mc,d];rfl
theorem VL {n:Nat}(m:n≠1)(f:Nat):∀(a:List B8) (i:Nat),i+a.length=n->a≠[]->(∀k∈a,Iq k.net/\∀f,Gu (Dl k) 1 f 1 f (C9 k) (f+forks k))->
  Gu (Jy n i a) 1 (if i=0 then f else f+1) 1 f (Bo 1 (a.map (λk=>Ha k.net (C9 k)))) (max (f+1) (f+Qg a))
 | [],_,_,h,_=>absurd rfl h
 | k::t,i,hi,_,o=>by
  rw[CH] at hi;obtain⟨j,q⟩:=o k AU;rw[Jy];unfold Jn JE Ff;rw[if_neg m,CP,Mc];by_cases d:t=[]
  ·subst d
   simp only[CO] at hi;rw[if_neg AQ,if_pos AQ,if_neg AQ,Jy,G4];have c:step (hts 1 (f+1)) (I9 9).code=hts 1 f:=by
    have e:step (hts 1 (f+1)) (I9 9).code=((1:Int),((f+1:Nat):Int) - 1):=rfl;rw[e];refine Prod.ext rfl ?_;show((f+1:Nat):Int) - 1=(f:Int)
    omega
   have b:=Nn j (q f);have u:=b.lo1;refine((Gu.one c).append b).cast ?_ ?_
   ·show max (max 1 1) _=max _ (Bo 1 [])
    show max (max 1 1) _=max _ 1
    omega
   ·show max (max (f+1) f) (f+forks k)=max (f+1) (f+Qg [k])
    show max (max (f+1) f) (f+forks k)=max (f+1) (f+forks k)
    omega
  ·have w:0<t.length:=List.length_pos_iff.2 d
   have l:=VL m f t (i+1) AQ d (λk j=>o k (CQ _ j));rw[if_neg AQ] at l;have b:=Nn j (q (f+1));have u:=b.lo1;have s:Qg (k::t)=max (forks k+1) (Qg t):=by
    cases t with
    | nil=>exact absurd rfl d
    | cons y t=>rfl
   rw[s];by_cases g:i=0
   ·rw[if_pos g,if_pos g]
    have c:step (hts 1 f) (I9 7).code=hts 1 (f+1):=by
     have e:step (hts 1 f) (I9 7).code=((1:Int),((f:Nat):Int)+1):=rfl;rw[e];refine Prod.ext rfl ?_;show((f:Nat):Int)+1=((f+1:Nat):Int)
     omega
    refine(((Gu.one c).append b).append l).cast ?_ ?_
    ·omega
    ·omega
   ·rw[if_neg g,if_neg AQ,if_neg g]
    have c:step (hts 1 (f+1)) (I9 8).code=hts 1 (f+1):=LJ (by simp[I9]);refine(((Gu.one c).append b).append l).cast ?_ ?_
    ·omega
    ·omega
theorem UH (a:B8):E8 a->∀f,Gu (Dl a) 1 f 1 f (C9 a) (f+forks a):=by
 refine Gl (λa=>E8 a->∀f,Gu (Dl a) 1 f 1 f (C9 a) (f+forks a)) ?_ a;intro n c kids l h f;have e:=((En _ _ _).1 h).2;have b:∀k∈kids,Iq k.net/\∀f,Gu (Dl k) 1 f 1 f (C9 k) (f+forks k):=by
  intro k d;refine⟨?_,l k d (e k d)⟩;have:=e k d
  obtain⟨s,o,q⟩:=k;exact((En _ _ _).1 this).1
 rw[Wi,Wl,Zg,N6]
 match kids,b with
 | [],_=>exact((Xb f c).append (Gu.nil 1 f)).cast (by show max 1 1=1;omega) (by show max f f=f+0;omega)
 | [k],b=>
  have g:=Nn (b k AU).1 ((b k AU).2 f);have i:Jy [k].length 0 [k]=Dy k.net++Dl k:=by
   show(([]:List Io)++(Dy k.net++Dl k))++[]=_
   rw[C5,G4]
  have m:=g.lo1;rw[i];refine((Xb f c).append g).cast ?_ ?_
  ·show max 1 _=max 1 _
   rfl
  ·show max f (f+forks k)=f+forks k
   omega
 | k::y::t,b=>
  have hF:=VL (n:=(k::y::t).length) AU f (k::y::t) 0 AU AU b;rw[if_pos rfl] at hF;have m:=hF.lo1;have j:Qg (k::y::t)=max (forks k+1) (Qg (y::t)):=rfl;refine((Xb f c).append hF).cast ?_ ?_
  ·omega
  ·rw[j]
   omega
theorem uR {a:B8}(h:E8 a)(c:fine a.net):Gu (Ez a) 0 0 0 0 (Jh a) (forks a):=by
 have e:=OI a.net (full_of _ c.2.2) c.2.2 0 0;have b:=UH a h 0;have d:step (hts 1 0) (I9 11).code=hts 0 0:=rfl;have g:=b.lo1;refine(e.append (b.append (Gu.one d))).cast ?_ AQ;unfold Jh;omega
theorem TX:∀(l:List B8),(∀a∈l,E8 a/\fine a.net)->Gu ((l.map Ez).flatten) 0 0 0 0 (Bo 0 (l.map Jh)) (Bo 0 (l.map forks))
 | [],_=>Gu.nil _ _
 | a::l,h=>by
  rw[CP,EB,CP,CP,Mc,Mc];exact(uR (h a AU).1 (h a AU).2).append (TX l (λx b=>h x (CQ _ b)))
end Stil
set_option maxHeartbeats 4000000
set_option maxRecDepth 100000
namespace Go.Proofs.YtifcnfeppdbjdaaGreatDoor
open Tryz Stil Go.RowKit Go.Sort Go.BigFrame
variable {W W':World}{lo:Nat}{r:Option Nat}{v:Value}
theorem Wg (b f:Int)(c:Int)(w:World)(m:-1000<=b)(l:b<=1000)(g:-1000<=f)(j:f<=1000):
  Calls prog 55 #[.agg #[AB b,AB f],AB c] w (AN w (.agg #[AB (if c=1 then b+1 else if c=4\/c=5\/c=11 then b - 1 else b),AB (if c=7 then f+1 else if c=9 then f - 1 else f)])):=by
 have u:IntKind.i64.wrap (b+1)=b+1:=by rw[IntKind.wrap_i64];omega
 have t:IntKind.i64.wrap (b - 1)=b - 1:=by rw[IntKind.wrap_i64];omega
 have q:IntKind.i64.wrap (f+1)=f+1:=by rw[IntKind.wrap_i64];omega
 have s:IntKind.i64.wrap (f - 1)=f - 1:=by rw[IntKind.wrap_i64];omega
 obtain⟨x,d⟩:∃x:Int,x=if c=1 then b+1 else if c=4\/c=5\/c=11 then b - 1 else b:=⟨_,rfl⟩
 obtain⟨y,a⟩:∃y:Int,y=if c=7 then f+1 else if c=9 then f - 1 else f:=⟨_,rfl⟩
 have o:Hid (x=if c=1 then b+1 else if c=4\/c=5\/c=11 then b - 1 else b):=d;have i:Hid (y=if c=7 then f+1 else if c=9 then f - 1 else f):=a;rw[<-d,<-a];clear d a m l g j;go_enter func55,ntmps55
 go_wp2
 all_goals refine bodyPost_ret (by simp[results,results55,go_sem];rfl) rfl ⟨?_,AW⟩
 all_goals (rw[o.out,i.out];go_light;(try simp only[EC,CS] at*);simp[*])
def Nz (l:List (Int × Int)):List Value:=l.flatMap λs=>[AB s.1,AB s.2]
theorem x7:(prog.info? 31).map (λi=>(i.zero,i.size,i.bytes))=some (some (.agg #[AB 0,AB 0]),2,16):=AX
def Yw (w:World)(b:Nat)(s:Int × Int):Prop:=b<w.heap.size/\w.cell? ⟨b,0,none⟩=some (AB s.1)/\w.cell? ⟨b,1,none⟩=some (AB s.2)/\w.frozen? ⟨b,0,none⟩=false/\w.frozen? ⟨b,1,none⟩=false
theorem Yw.grown {w w':World}{b:Nat}{s:Int × Int}(h:Yw w b s)(hg:w.grownBy w' r)(hr:r≠some b):Yw w' b s:=by
 obtain⟨d,g⟩:=h;have e:w'.heap[b]?=w.heap[b]?:=hg.block b d (λx=>hr x.symm);have c:∀o,w'.cell? (AK b o)=w.cell? (AK b o):=λo=>by unfold World.cell?;rw[e]
 have a:∀o,w'.frozen? (AK b o)=w.frozen? (AK b o):=λo=>by unfold World.frozen?;rw[e]
 refine⟨CB d hg.size,?_⟩;rw[c,c,a,a];exact g
theorem sB (l:List (Int × Int))(s:Int × Int):Nz (l++[s])=Nz l++[AB s.1,AB s.2]:=by simp[Nz]
theorem vd (l:List Stil.Io)(v:Value)(w:World)(hv:Hw w v l)(hl:l.length<=1048576):
  Calls prog 26 #[v] w λe g=>∃(a:Option Addr) (c:Nat),e=.returned (.slice a (I4 l).length c)/\g.ownsRow w.heap.size 31 2 (.slice a (I4 l).length c) (I4 l).length (Nz (I4 l))/\AO w g:=by
 obtain⟨i0,hi,af,ac,ak⟩:=info_parts x7;have HV:Hid (∀W,AO w W->Hw W v l):=λW h=>hv.below h
 obtain⟨a0,c0,rfl,-⟩:=hv;by_cases aa:1000<l.length
 ·have t:Hid (I4 l=[]):=if_pos aa
  rw[t.out];clear t;go_enter func26,ntmps26
  go_wp2
  go_ret;exact⟨none,0,rfl,World.ownsRow_nil _ _ _ _,Below.refl _ _⟩
 have t:Hid (I4 l=Eb (0,0) l):=if_neg aa;rw[t.out];have L:=Sv l (0,0);have ae:Hid ((Eb (0,0) l).length=l.length):=L;rw[L];clear t L;go_enter func26,ntmps26
 go_wp2
 go_loopw [3,12] (λtr i wr=>∃(j:Nat) (a:Option Addr) (c:Nat),j<=l.length/\i=AB j/\tr=AE a j c/\wr.ownsRow (w.heap.size+1) 31 2 (AE a j c) j (Nz ((Eb (0,0) l).take j))/\Yw wr w.heap.size (Stil.stFrom (0,0) l j)/\AO w wr) (λ_ i _=>l.length - (intOf i).toNat)
 case atStart=>
  refine⟨0,none,0,AQ,rfl,rfl,World.ownsRow_nil _ _ _ _,?_,AW⟩;rw[Wn];exact⟨AU,by simp[go_sem],by simp[go_sem],by simp[go_sem],by simp[go_sem]⟩
 case round=>
  obtain⟨j,a,c,hj,rfl,rfl,y,G,A⟩:=hrel;by_cases M:j<l.length
  ·have D:Hid (wr.ownsRow (w.heap.size+1) 31 2 (AE a j c) j (Nz ((Eb (0,0) l).take j))):=y
   have J:Hid (Yw wr w.heap.size (Stil.stFrom (0,0) l j)):=G;obtain⟨a',c',e',Y⟩:=HV wr A;cases e';obtain⟨b,o,rfl,ao,x0,x1,av,x2,ai⟩:=Y j M;obtain⟨q1,q2,rfl,-⟩:=ai;have N:=YW l (0,0) j;simp only at N;have C:Hid ((Eb (0,0) l).take (j+1)=(Eb (0,0) l).take j++[Stil.step (Stil.stFrom (0,0) l j) l[j].code]):=WG l j M;have I:Hid (Stil.stFrom (0,0) l (j+1)=Stil.step (Stil.stFrom (0,0) l j) l[j].code):=NQ l (0,0) j M;obtain⟨⟨B,F⟩,P⟩:∃s,s=Stil.stFrom (0,0) l j:=⟨_,rfl⟩
   rw[<-P] at C I J N G;obtain⟨x,Q⟩:=AA (l[j])
   rw[<-Q] at C I x0 x1 x2;obtain⟨hz,E,H,O,K⟩:=G;simp only at E H N;have R:∀W,Calls prog 55 #[.agg #[AB B,AB F],AB x.code] W (AN W (.agg #[AB (Stil.step (B,F) x.code).1,AB (Stil.step (B,F) x.code).2])):=λW=>Wg B F x.code W AQ AQ AQ AQ
   have ab:Hid (∀W,Calls prog 55 #[.agg #[AB B,AB F],AB x.code] W (AN W (.agg #[AB (Stil.step (B,F) x.code).1,AB (Stil.step (B,F) x.code).2]))):=R;obtain⟨S,hS⟩:=AA (Stil.step (B,F) x.code)
   rw[<-hS] at ab C I;clear P Q hS R Y y;go_upto_region 9 with(go_at_call 55;refine(ab _).mono ?_;rintro e w3 ⟨rfl,T⟩;obtain⟨ah,E,H,O,K⟩:=Yw.grown (r:=none) (J.grown (r:=none) (grown_below (Aa _ _) _) AU) (grown_below T _) AU)
   have jr:AO wr w3:=AW;have aj:AO w w3:=A.trans (jr.mono A.size);obtain⟨d,q⟩:=AA ((w3.setCell (AL w 0) (AB S.1)).setCell (AL w 1) (AB S.2))
   have vC:Yw d w.heap.size S:=by
    rw[q];exact⟨by simp;omega,(Fa AQ).trans (Hm E),Hm ((Fa AQ).trans H),Gw.trans (Gw.trans O),Gw.trans (Gw.trans K)⟩
   have al:AO w d:=by rw[q];exact Dj (CG _) (Dj (CG _) aj _) _
   have X:Hid (d.ownsRow (w.heap.size+1) 31 2 (AE a j c) j (Nz ((Eb (0,0) l).take j))):=by
    rw[q];exact ownsRow_setCell_below (ownsRow_setCell_below (ownsRow_below D jr) (by show w.heap.size<_;omega) _) (by show w.heap.size<_;omega) _
   have nI:Hid (Yw d w.heap.size S):=vC;rw[<-q];obtain⟨an,E,H,-,-⟩:=vC;clear q D J T O K ah
   go_wp2_with (at_builtin;refine wpList_append_own_at _ rfl _ _ 64 rfl (w.heap.size+1) 31 i0 (.agg #[AB 0,AB 0]) 2 16 underlying64 hi af ac ak rfl AY _ _ _ rfl (X.alloc _) _ _ _ [AB S.1,AB S.2] rfl rfl BP yDd A6 AQ Bm ?_;intro v' w6 V Z bT aW;obtain⟨rW,rM,ag,_⟩:=Hg V;subst ag)
   have U:∀k,(Value.slice a j c).ownBlock=some k->w.heap.size+1<=k:=λk z=>(X.lt k z).1
   refine⟨⟨j+1,rW,rM,AQ,by go_num,rfl,?_,?_,?_⟩,by simp[intOf];omega⟩
   ·rw[C.out,sB];exact V
   ·rw[I.out]
    exact(nI.grown (r:=none) (grown_below (Aa _ _) _) AU).grown Z (λe=>by have:=U _ e;omega)
   ·have m:w.grownBy w6 none:=J5 (grown_below (Bd al _) none) Z (λk z=>by have:=U k z;omega)
    exact⟨m.os,m.tape,m.output,m.size,λk z=>m.block k z AU⟩
  ·obtain rfl:j=l.length:=by omega
   have HE:Hid ((Eb (0,0) l).take l.length=Eb (0,0) l):=EA (by rw[ae.out];exact CG _);rw[HE.out] at y;have D:Hid (wr.ownsRow (w.heap.size+1) 31 2 (AE a l.length c) l.length (Nz (Eb (0,0) l))):=y;clear y G
   go_wp2
   go_ret;exact⟨a,c,rfl,Joins.ownsRow_le D AQ,A⟩
def FT (lo:Nat)(W:World)(v:Value)(t:List (Int × Int)):Prop:=∃a c,v=AE a t.length c/\∀i (h:i<t.length),∃b,a=some ⟨b,0,none⟩/\lo<=b/\b<W.heap.size/\W.cell? ⟨b,i*2,none⟩=some (AB t[i].1)/\W.cell? ⟨b,i*2+1,none⟩=some (AB t[i].2)
theorem FT.grown {t:List (Int × Int)}(h:FT lo W v t)(hg:W.grownBy W' r)(hr:∀k,r=some k->k<lo):FT lo W' v t:=by
 obtain⟨a,c,m,n⟩:=h;refine⟨a,c,m,λi hi=>?_⟩;obtain⟨b,l,q,d,j,p⟩:=n i hi;have e:W'.heap[b]?=W.heap[b]?:=hg.block b d (λe=>by have:=hr b e.symm;omega);have g:∀o,W'.cell? (AK b o)=W.cell? (AK b o):=λo=>by unfold World.cell?;rw[e]
 exact⟨b,l,q,CB d hg.size,(g _).trans j,(g _).trans p⟩
theorem FT.below {t:List (Int × Int)}(h:FT lo W v t)(a:AO W W'):FT lo W' v t:=h.grown (grown_below a none) (λ_ h=>by cases h)
theorem WI (t:List (Int × Int)):∀i (h:i<t.length),(Nz t)[i*2]?=some (AB t[i].1)/\(Nz t)[i*2+1]?=some (AB t[i].2):=by
 induction t with
 | nil=>intro i h;simp at h
 | cons s r c=>
  intro i h;have e:Nz (s::r)=[AB s.1,AB s.2]++Nz r:=rfl;cases i with
  | zero=>rw[e];exact⟨rfl,rfl⟩
  | succ i=>
   have:=c i BR
   rw[e,MV Ax,MV Ax];have a:(i+1)*2 - 2=i*2:=AQ
   have b:(i+1)*2+1 - 2=i*2+1:=AQ
   simp only[CH,CO,CV,Nat.reduceAdd,J1];rw[a,b];exact this
theorem tn (t:List (Int × Int)):(Nz t).length=t.length*2:=by
 induction t with
 | nil=>rfl
 | cons s r a=>
  have e:Nz (s::r)=[AB s.1,AB s.2]++Nz r:=rfl;rw[e,CM,a];simp only[CH,CO];omega
theorem xe {base:Nat}{a:Option Addr}{c:Nat}{t:List (Int × Int)}(h:W.ownsRow base 31 2 (AE a t.length c) t.length (Nz t)):FT base W (AE a t.length c) t:=by
 refine⟨a,c,rfl,λi hi=>?_⟩;obtain⟨b,n,g,d,j,_,_⟩:=Cb h AQ;injection g with e o l
 subst e l;have m:=tn t;exact⟨b,rfl,d,j,(h.cellAt (i*2) (by rw[<-h.1];omega)).trans (WI t i hi).1,(h.cellAt (i*2+1) (by rw[<-h.1];omega)).trans (WI t i hi).2⟩
theorem yW (l:List Stil.Io)(v:Value)(w:World)(X:Hw w v l)(hl:l.length<=1048576):
  Calls prog 10 #[v] w (AN w (.agg #[AB (Sz l).1,AB (Sz l).2])):=by
 have J:Hid (∀W,AO w W->Hw W v l):=λW h=>X.below h
 obtain⟨a0,Z,rfl,-⟩:=X;have xQ:Hid (∀s∈I4 l,-2000<=s.1/\s.1<=2000/\-2000<=s.2/\s.2<=2000):=tG l;have hn:(I4 l).length<=1000:=by
  unfold I4;split
  ·simp
  ·rw[Sv];omega
 unfold Sz;obtain⟨t,C⟩:=AA (I4 l)
 have O:Hid (∀W,AO w W->Calls prog 26 #[AE a0 l.length Z] W λe o=>∃(a:Option Addr) (c:Nat),e=.returned (AE a t.length c)/\FT W.heap.size o (AE a t.length c) t/\AO W o):=λW h=>(vd l _ W (J W h) hl).mono λe o ⟨a,c,L,M,h3⟩=>by
  rw[<-C] at L M;exact⟨a,c,L,xe M,h3⟩
 rw[<-C] at xQ hn ⊢;clear C J;go_enter func10,ntmps10
 go_wp2_with (go_at_call 26;refine(O _ AW).mono ?_;rintro e w3 ⟨a,c,rfl,d,u⟩)
 have Y:w.heap.size+2<=w3.heap.size:=by have:=u.size;simp at this;omega
 have K:Hid (FT (w.heap.size+2) w3 (AE a t.length c) t):=by
  have h:=d;simp only[World.size_alloc] at h;exact h
 have S:AO w w3:=AW;have U:Hid (AO w w3):=S;have y:Hid (Yw w3 w.heap.size (0,0)):=Yw.grown (r:=none) (w:=(w.alloc (Obj.cells #[Value.int IntKind.i64 0,Value.int IntKind.i64 0] 31)).alloc (Obj.cells #[Value.int IntKind.i64 0,Value.int IntKind.i64 0] 31)) ⟨by simp;omega,by simp[go_sem],by simp[go_sem],by simp[go_sem],by simp[go_sem]⟩ (grown_below u _) AU;have E:Hid (Yw w3 (w.heap.size+1) (0,0)):=Yw.grown (r:=none) (w:=(w.alloc (Obj.cells #[Value.int IntKind.i64 0,Value.int IntKind.i64 0] 31)).alloc (Obj.cells #[Value.int IntKind.i64 0,Value.int IntKind.i64 0] 31)) ⟨AU,by simp[go_sem],by simp[go_sem],by simp[go_sem],by simp[go_sem]⟩ (grown_below u _) AU;clear d u S O;go_loopw [9] (λi wr=>∃j:Nat,j<=t.length/\i=AB (j:Int)/\Yw wr w.heap.size (0,0)/\Yw wr (w.heap.size+1) (F9 (0,0) (t.take j))/\FT (w.heap.size+2) wr (AE a t.length c) t/\AO w wr) (λi _=>t.length - (intOf i).toNat)
 case atStart=>exact⟨0,DI _,rfl,y.out,E.out,K.out,U.out⟩
 case round=>
  clear y E K U Y;obtain⟨j,hj,rfl,A,m,d,hB⟩:=hrel;by_cases z:j<t.length
  ·have G:Hid (F9 (0,0) (t.take (j+1))=JV (F9 (0,0) (t.take j)) t[j]):=Ayl t j z
   obtain⟨a',c',e',V⟩:=id d;cases e';obtain⟨b,rfl,af,ae,T,Q⟩:=V j z;have aa:Hid (FT (w.heap.size+2) wr (AE (some (AK b 0)) t.length c) t):=d;have y:Hid (Yw wr w.heap.size (0,0)):=A;obtain⟨⟨S1,S2⟩,hS⟩:∃s,s=t[j]:=⟨_,rfl⟩
   obtain⟨⟨P1,P2⟩,g⟩:∃s,s=F9 (0,0) (t.take j):=⟨_,rfl⟩
   rw[<-hS] at T Q G;rw[<-g] at m G;have E:Hid (Yw wr (w.heap.size+1) (P1,P2)):=m;obtain⟨ab,q,x,R,N⟩:=m;simp only at q x T Q;clear hS g V d A;have ag:w.heap.size+1≠wr.heap.size:=AQ
   go_wp2
   have ac:∀(H D:Int),Yw ((wr.setCell (AK (w.heap.size+1) 0) (AB H)).setCell (AK (w.heap.size+1) 1) (AB D)) (w.heap.size+1) (H,D):=λH D=>⟨by simp;omega,(Fa AQ).trans (Hm q),Hm ((Fa AQ).trans x),Gw.trans (Gw.trans R),Gw.trans (Gw.trans N)⟩
   refine⟨⟨j+1,z,AU,?_,?_,?_,?_⟩,by simp[intOf];omega⟩
   ·exact((y.grown (Yg _ _ _ _) AU).grown (Yg _ _ _ _) AU).grown (r:=none) (grown_below (Aa _ _) _) AU
   ·rw[G.out]
    exact(ac _ _).grown (r:=none) (grown_below (Aa _ _) _) AU
   ·exact((aa.grown (Yg _ _ _ _) (λk I=>by simp at I;omega)).grown (Yg _ _ _ _) (λk I=>by simp at I;omega)).below (Aa _ _)
   ·exact Bd (Dj AU (Dj AU hB _) _) _
  ·obtain rfl:j=t.length:=by omega
   have HE:Hid (t.take t.length=t):=Gk ..;rw[HE.out] at m;obtain⟨P,g⟩:∃s,s=F9 (0,0) t:=⟨_,rfl⟩
   rw[<-g] at m;have HP:Hid (F9 (0,0) t=P):=g.symm;clear g;obtain⟨ah,q,x,R,N⟩:=A;obtain⟨ab,d0,d1,q0,q1⟩:=m;clear d
   go_wp2
   have z2:(wr.setCell (AL w 0) (AB P.1)).cell? (AL w 0)=some (AB P.1):=Hm q;have z1:((wr.setCell (AL w 0) (AB P.1)).setCell (AL w 1) (AB P.2)).cell? (AL w 1)=some (AB P.2):=Hm ((Fa AQ).trans x);refine bodyPost_ret (by simp[results,results10,go_sem,z2,z1];rfl) rfl ⟨?_,AW⟩;rw[HP.out]
