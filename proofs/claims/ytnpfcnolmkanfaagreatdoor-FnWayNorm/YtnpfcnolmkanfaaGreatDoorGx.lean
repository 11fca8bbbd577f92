import Derived.Test.YtnpfcnolmkanfaaGreatDoorGl
namespace Stil
variable {c:Nat}{k:Int}
def V5:Net->Prop
 | ⟨k,_,kids⟩=>((k=2\/k=3)->kids.length≠1/\∀x∈kids,x.kind≠k)/\∀p∈kids.map V5,p
theorem Ya (n:Net):V5 n↔((n.kind=2\/n.kind=3)->n.kids.length≠1/\∀x∈n.kids,x.kind≠n.kind)/\∀x∈n.kids,V5 x:=by
 obtain⟨k,e,kids⟩:=n;rw[V5,all_map]
theorem Aob (k:Int)(l:List Net)(h:∀x∈l,x.kind≠k):Bz k l=l:=by
 induction l with
 | nil=>rfl
 | cons x r a=>
  have e:x::r=[x]++r:=rfl;rw[e,Kv,Nz,if_neg (h x spz),a (λy b=>h y (A56 _ b))]
theorem Aio (k:Int)(f:k=2\/k=3)(l:List Net)(h:∀x∈l,V5 x):∀x∈Bz k l,x.kind≠k/\V5 x:=by
 intro x a;obtain⟨y,b,a⟩:=List.mem_flatMap.1 a;have d:=(Ya y).1 (h y b);split at a
 ·rename_i e
  refine⟨?_,d.2 x a⟩;have:=(d.1 (by rw[e];exact f)).2 x a
  rwa [e] at this
 ·rename_i e
  rw[List.mem_singleton.1 a];exact⟨e,h y b⟩
theorem Ann (n:Net):V5 (Au n):=by
 refine Gf (λn=>V5 (Au n)) ?_ n;intro k e kids g;have d:∀x∈kids.map Au,V5 x:=by
  intro x a;obtain⟨y,i,rfl⟩:=List.mem_map.1 a;exact g y i
 rw[Iu];split
 ·rename_i b
  have hF:=Aio k b _ d;unfold E5;split
  ·exact(hF _ (A59 _)).2
  ·rename_i f
   rw[Ya];exact⟨λ_=>⟨f,λx a=>(hF x a).1⟩,λx a=>(hF x a).2⟩
 ·rename_i b
  rw[Ya];exact⟨λh=>absurd h b,d⟩
def Rx:Net->Prop
 | ⟨k,e,kids⟩=>((k=2\/k=3)->e=⟨0,[]⟩)/\∀p∈kids.map Rx,p
theorem Vm (n:Net):Rx n↔((n.kind=2\/n.kind=3)->n.one=⟨0,[]⟩)/\∀x∈n.kids,Rx x:=by
 obtain⟨k,e,kids⟩:=n;rw[Rx,all_map]
theorem Akn (n:Net):Rx (Au n):=by
 refine Gf (λn=>Rx (Au n)) ?_ n;intro k e kids g;have d:∀x∈kids.map Au,Rx x:=by
  intro x a;obtain⟨y,b,rfl⟩:=List.mem_map.1 a;exact g y b
 have hF:∀x∈Bz k (kids.map Au),Rx x:=by
  intro x a;obtain⟨y,b,a⟩:=List.mem_flatMap.1 a;have i:=(Vm y).1 (d y b);split at a
  ·exact i.2 x a
  ·rw[List.mem_singleton.1 a];exact d y b
 rw[Iu];split
 ·unfold E5
  split
  ·exact hF _ (A59 _)
  ·rw[Vm]
   exact⟨λ_=>rfl,hF⟩
 ·rename_i f
  rw[Vm];exact⟨λh=>absurd h f,d⟩
theorem Awh (n:Net):V5 n->Rx n->Au n=n:=by
 refine Gf (λn=>V5 n->Rx n->Au n=n) ?_ n;intro k e kids h g j;have a:=(Ya _).1 g;have d:=(Vm _).1 j;simp only at a d;have i:kids.map Au=kids:=by
  have:kids.map Au=kids.map id:=A8l (λx b=>h x b (a.2 x b) (d.2 x b));rw[this,List.map_id]
 rw[Iu,i];split
 ·rename_i f
  rw[Aob k kids (a.1 f).2];unfold E5;rw[dif_neg (a.1 f).1,d.1 f]
 ·rfl
theorem Apf {ks:List Net}(l:k=2\/k=3)(d:0<ks.length)(h:∀x∈ks,Az x=0):Az ⟨k,⟨0,[]⟩,ks⟩=0:=by
 rw[Oy,if_neg omz];have a:We k 0 0 ks.length=false:=by
  unfold We;have e:decide (k<2)=false:=by rw[A7o];omega
  have b:decide (4<k)=false:=by rw[A7o];omega
  have g:((ks.length:Int)==0)=false:=by rw[A64];omega
  have f:(k==4)=false:=by rw[A64];omega
  simp[e,b,g,f]
 rw[if_neg (by simp only[A54,a];exact A7h)];clear d a;induction ks with
 | nil=>rfl
 | cons x r i=>
  rw[A6k,A8,if_neg (by rw[h x spz];omega)];exact i (λy j=>h y (A56 _ j))
theorem Aq1 {n:Net}(h:Az n=0)(a:n.kind=2\/n.kind=3):0<n.kids.length/\∀x∈n.kids,Az x=0:=by
 obtain⟨k,e,kids⟩:=n;simp only at a ⊢;rcases Jo h with⟨b,_⟩ | ⟨_,f,d⟩ | ⟨b,_⟩
 ·omega
 ·exact⟨f,d⟩
 ·omega
theorem Asf (g:k=2\/k=3){l:List Net}(f:0<l.length)(h:∀x∈l,Az x=0):0<(Bz k l).length/\∀x∈Bz k l,Az x=0:=by
 have d:∀x∈l,0<(Bz k [x]).length/\∀y∈Bz k [x],Az y=0:=by
  intro x b;rw[Nz];split
  ·rename_i e
   exact Aq1 (h x b) (by rw[e];exact g)
  ·exact⟨spz,λy a=>by rw[List.mem_singleton.1 a];exact h x b⟩
 refine⟨?_,λy a=>?_⟩
 ·obtain⟨x,r,rfl⟩:=A87 (List.ne_nil_of_length_pos f)
  have e:x::r=[x]++r:=rfl;rw[e,Kv,A52];have:=(d x spz).1
  omega
 ·obtain⟨x,b,a⟩:=List.mem_flatMap.1 a
  refine(d x b).2 y ?_;rw[Nz];exact a
theorem Aos (a:k=2\/k=3){l:List Net}(d:0<l.length)(h:∀x∈l,Az x=0):Az (E5 k (Bz k l))=0:=by
 obtain⟨e,b⟩:=Asf a d h;unfold E5;split
 ·exact b _ (A59 _)
 ·exact Apf a e b
theorem Arc (n:Net):Az n=0->Az (Au n)=0:=by
 refine Gf (λn=>Az n=0->Az (Au n)=0) ?_ n;intro k e kids f h;have g:=h;rw[Iu];rcases Jo h with⟨rfl,rfl⟩ | ⟨d,l,j⟩ | ⟨rfl,rfl,x,rfl,a⟩
 ·rw[if_neg omz];exact g
 ·rw[if_pos d]
  refine Aos d (by simpa using l) (λx a=>?_);obtain⟨y,b,rfl⟩:=List.mem_map.1 a;exact f y b (j y b)
 ·rw[if_neg omz]
  have b:=f x spz a;rw[Oy,if_neg omz];have i:We 4 (⟨0,[]⟩:Elem).op (⟨0,[]⟩:Elem).args.length ([x].map Au).length=false:=rrz
  rw[if_neg (by rw[i];exact A7h)];simp only[A6k,A66,A8];rw[if_neg omz]
def fine (n:Net):Prop:=V5 n/\Rx n/\Az n=0
theorem Ad8 {n:Net}(h:Az n=0):fine (Au n):=⟨Ann n,Akn n,Arc n h⟩
theorem Aat {n:Net}(h:fine n):Au n=n:=Awh n h.1 h.2.1
def none0:Net:=⟨0,⟨0,[]⟩,[]⟩
theorem Abq {n:Net}(h:Ar n=true):n=none0:=by
 obtain⟨k,⟨op,args⟩,kids⟩:=n;simp only[Ar,Bool.and_eq_true,A8h] at h;obtain⟨⟨⟨d,g⟩,f⟩,e⟩:=h;have b:=List.length_eq_zero_iff.1 f;have a:=List.length_eq_zero_iff.1 e;subst b a d g;rfl
theorem Aew {n:Net}(h:fine n):Ar n=false:=by
 cases d:Ar n with
 | false=>rfl
 | true=>
  have e:=Abq d;have a:=h.2.2;rw[e] at a;unfold none0 at a;rcases Jo a with⟨b,_⟩ | ⟨b,_⟩ | ⟨b,_⟩<;>omega
def Ko (a b:Net):Net:=if Ar a then b else if Ar b then a else E5 2 (Bz 2 [a,b])
theorem Ahl {l:List Net}(b:0<l.length)(h:∀x∈l,fine x):fine (E5 2 (Bz 2 l)):=by
 have d:l.map Au=l:=by
  have:l.map Au=l.map id:=A8l (λx a=>Aat (h x a));rw[this,List.map_id]
 have e:E5 2 (Bz 2 l)=Au ⟨2,⟨0,[]⟩,l⟩:=by rw[Iu,if_pos (.inl rfl),d]
 rw[e];exact Ad8 (Apf (.inl rfl) b (λx a=>(h x a).2.2))
def Jq (n:Net):Prop:=Ar n=true\/fine n
theorem U5 {a b:Net}(f:Jq a)(e:Jq b):Jq (Ko a b):=by
 unfold Ko;split
 ·exact e
 ·rename_i g
  split
  ·exact f
  ·rename_i i
   refine .inr (Ahl spz (λx d=>?_));rcases List.mem_cons.1 d with rfl | d
   ·rcases f with h | h
    ·exact absurd h g
    ·exact h
   ·rw[List.mem_singleton.1 d]
    rcases e with h | h
    ·exact absurd h i
    ·exact h
def Ig (l:List Arm):Nat:=(l.map Aw).sum
def Ir:Nat->Arm->Arm
 | 0,a=>a
 | f+1,a=>match a.kids with
  | [b]=>if a.coils=[]\/Ar b.net=true then Ir f ⟨Ko a.net b.net,a.coils++b.coils,b.kids⟩ else a
  | _=>a
theorem La (a:Arm):1+Ig a.kids<=Aw a:=by
 obtain⟨n,c,kids⟩:=a;rw[Rj];unfold Ig;simp only;omega
theorem Aky (f:Nat):∀a:Arm,Ig a.kids<=f->Ir f a=Ir (f+1) a:=by
 induction f with
 | zero=>
  intro a h;rw[Ir];conv=>rhs;rw[Ir]
  split
  ·rename_i b e
   rw[e] at h;have:=La b
   simp[Ig] at h;omega
  ·rfl
 | succ f d=>
  intro a h;rw[Ir];conv=>rhs;rw[Ir]
  split
  ·rename_i b e
   split
   ·refine d _ ?_
    rw[e] at h;have:=La b
    simp only[Ig,A6k,A66,A7b,A8b] at h this ⊢;omega
   ·rfl
  ·rfl
def joined (a:Arm):Arm:=Ir (Ig a.kids) a
theorem Arw (a:Arm):∀f,Ig a.kids<=f->Ir f a=joined a:=by
 intro f h;obtain⟨d,rfl⟩:=Nat.exists_eq_add_of_le h;clear h;induction d with
 | zero=>rfl
 | succ d b=>rw[<-Nat.add_assoc,<-Aky _ a omz];exact b
theorem Aej (n:Net)(c:List Elem)(a:Arm)(h:c=[]\/Ar a.net=true):joined ⟨n,c,[a]⟩=joined ⟨Ko n a.net,c++a.coils,a.kids⟩:=by
 have d:Ig [a]=Aw a:=by simp[Ig]
 have e:=La a;unfold joined;simp only;rw[d];obtain⟨f,b⟩:∃f,Aw a=f+1:=⟨Aw a - 1,omz⟩
 rw[b,Ir];simp only;rw[if_pos h];exact Arw _ f (by simp only;omega)
theorem Ru (a:Arm)(h:∀b,a.kids=[b]->¬(a.coils=[]\/Ar b.net=true)):joined a=a:=by
 unfold joined;cases d:Ig a.kids with
 | zero=>rfl
 | succ f=>
  rw[Ir];split
  ·rename_i b e
   rw[if_neg (h b e)]
  ·rfl
def Dc:Arm->Arm
 | ⟨n,a,kids⟩=>joined ⟨if Ar n then n else Au n,a,kids.map Dc⟩
theorem Arf (n:Net)(a:List Elem)(kids:List Arm):Dc ⟨n,a,kids⟩=joined ⟨if Ar n then n else Au n,a,kids.map Dc⟩:=by rw[Dc]
theorem Asj:(⟨0,[]⟩:Elem).fits:=⟨by show i64 0;unfold i64;omega,spz,spz⟩
theorem Ak9 {l:List Net}(h:∀x∈l,Dt x):∀x∈Bz k l,Dt x:=by
 intro x a;obtain⟨y,b,a⟩:=List.mem_flatMap.1 a;split at a
 ·exact(Ei (h y b)).2.2.2 x a
 ·rw[List.mem_singleton.1 a];exact h y b
theorem Ahk (a:i64 k){l:List Net}(h:∀x∈l,Dt x)(hl:l.length<=1048576):Dt (E5 k l):=by
 unfold E5;split
 ·exact h _ (A59 _)
 ·exact(Lh _ _ _).2 ⟨a,Asj,hl,h⟩
theorem Am1 {a b:Net}(f:Dt a)(e:Dt b)(g:Am a+Am b<=1000000):Dt (Ko a b):=by
 unfold Ko;split
 ·exact e
 ·split
  ·exact f
  ·refine Ahk yDc (Ak9 (λx d=>?_)) ?_
   ·rcases List.mem_cons.1 d with rfl | d
    ·exact f
    ·rw[List.mem_singleton.1 d];exact e
   ·have i:=Ku (Bz 2 [a,b])
    have l:=Jw 2 [a,b];have j:sizes [a,b]=Am a+Am b:=by simp[sizes]
    omega
def nsz (n:Net):Nat:=if Ar n then 0 else Am n
theorem A1v (n:Net):nsz n<=Am n:=by unfold nsz;split<;>omega
theorem size_le (n:Net):Am n<=1+nsz n:=by
 unfold nsz;split
 ·rename_i h
  rw[Abq h];show Am ⟨0,⟨0,[]⟩,[]⟩<=_
  rw[Oz];simp
 ·omega
theorem Amz (a b:Net):nsz (Ko a b)<=nsz a+nsz b+1:=by
 unfold Ko;split
 ·omega
 ·rename_i d
  split
  ·omega
  ·rename_i e
   refine A6e (A1v _) ?_;have j:=Acm 2 (Bz 2 [a,b]);have h:=Jw 2 [a,b];have i:sizes [a,b]=Am a+Am b:=by simp[sizes]
   have g:nsz a=Am a:=if_neg d;have f:nsz b=Am b:=if_neg e;omega
theorem Dp (n:Net)(c:List Elem)(kids:List Arm):Aw ⟨n,c,kids⟩=1+c.length+nsz n+Ig kids:=by rw[Rj];rfl
def Yl (c:Nat)(b:Arm):Prop:=Cm b/\Aw b<=c
theorem Rt (l:List Arm):l.length<=Ig l:=by
 unfold Ig;induction l with
 | nil=>simp
 | cons x r a=>
  have:=La x
  simp only[A53,A6k,A7b];omega
theorem Aei (k:Arm):Ig [k]=Aw k:=by simp[Ig]
theorem Anx {n:Net}{cs:List Elem}{a:Arm}(h:Yl c ⟨n,cs,[a]⟩)(q:c<=900000):Yl c ⟨Ko n a.net,cs++a.coils,a.kids⟩/\sizes [n,a.net]<=999999/\Dt n/\Dt a.net/\cs.length+a.coils.length<=1000000/\Ig a.kids<Ig [a]:=by
 obtain⟨i,g⟩:=h;rw[Dp,Aei] at g;obtain⟨f,l,j⟩:=a;rw[Dp] at g;rw[Aei,Dp];simp only;have e:=(Gi _ _ _).1 i;have d:=(Gi _ _ _).1 (e.2.2.2.2 ⟨f,l,j⟩ spz);have m:=size_le n;have r:=size_le f;have o:=Amz n f;refine⟨⟨(Gi _ _ _).2 ⟨Am1 e.1 d.1 omz,by rw[A52];omega,λx b=>?_,d.2.2.2⟩,?_⟩,by simp[sizes];omega,e.1,d.1,omz,omz⟩
 ·rcases List.mem_append.1 b with b | b
  ·exact e.2.2.1 x b
  ·exact d.2.2.1 x b
 ·rw[Dp,A52];omega
theorem Ag1 (a:c<=900000):∀(f:Nat) (b:Arm),Yl c b->Yl c (Ir f b)
 | 0,b,h=>h
 | f+1,⟨n,g,kids⟩,h=>by
  rw[Ir];split
  ·rename_i d e
   simp only at e;subst e;split
   ·exact Ag1 a f _ (Anx h a).1
   ·exact h
  ·exact h
theorem Awz (a:c<=900000)(b:Arm)(h:Yl c b):Yl c (joined b):=Ag1 a _ b h
theorem Ard (n:Net):Dt n->Am n<=1000000->Dt (Au n):=by
 refine Gf (λn=>Dt n->Am n<=1000000->Dt (Au n)) ?_ n;intro k e kids f h g;rw[Iu];have a:=(Lh _ _ _).1 h;have m:sizes kids<Am ⟨k,e,kids⟩:=by rw[Ep];simp only;omega
 have b:∀x∈kids.map Au,Dt x:=by
  intro x b;obtain⟨y,d,rfl⟩:=List.mem_map.1 b;have:Am y<=sizes kids:=Ed Am kids y d;exact f y d (a.2.2.2 y d) omz
 split
 ·refine Ahk a.1 (Ak9 b) ?_
  have i:=Ku (Bz k (kids.map Au));have j:=Jw k (kids.map Au);have l:=Agw kids;omega
 ·exact(Lh _ _ _).2 ⟨a.1,a.2.1,by rw[A6i];exact a.2.2.1,b⟩
def Sm (n:Net):Net:=if Ar n then n else Au n
theorem Arp {n:Net}(h:Dt n)(a:nsz n<=900000):Dt (Sm n):=by
 unfold Sm;split
 ·exact h
 ·exact Ard n h (by have:=size_le n;omega)
theorem Arn (n:Net):nsz (Sm n)<=nsz n:=by
 unfold Sm;split
 ·exact A57 _
 ·rename_i h
  have e:nsz n=Am n:=if_neg h;rw[e];exact A6e (A1v _) (Ab5 n)
theorem Nu (n:Net)(c:List Elem)(kids:List Arm):Dc ⟨n,c,kids⟩=joined ⟨Sm n,c,kids.map Dc⟩:=Arf n c kids
theorem Ajl {n:Net}{c:List Elem}{kids:List Arm}(g:Cm ⟨n,c,kids⟩)(i:Aw ⟨n,c,kids⟩<=900000)(f:∀x∈kids,Yl (Aw x) (Dc x)):Yl (Aw ⟨n,c,kids⟩) ⟨Sm n,c,kids.map Dc⟩:=by
 have d:=(Gi _ _ _).1 g;rw[Dp] at i ⊢;have m:=Arn n;have o:Ig (kids.map Dc)<=Ig kids:=by
  clear g i d;induction kids with
  | nil=>simp
  | cons x r l=>
   have a:=(f x spz).2;have b:=l (λy e=>f y (A56 _ e));simp only[Ig,A6k,A7b] at b ⊢;omega
 refine⟨(Gi _ _ _).2 ⟨Arp d.1 omz,d.2.1,d.2.2.1,by rw[A6i];exact d.2.2.2.1,λx j=>?_⟩,by rw[Dp];omega⟩;obtain⟨y,e,rfl⟩:=List.mem_map.1 j;exact(f y e).1
theorem X5 (a:Arm):Cm a->Aw a<=900000->Yl (Aw a) (Dc a):=by
 refine Fz (λa=>Cm a->Aw a<=900000->Yl (Aw a) (Dc a)) ?_ a;intro n c kids f e d;rw[Nu];have g:=(Gi _ _ _).1 e;refine Awz d _ (Ajl e d (λx b=>f x b (g.2.2.2.2 x b) ?_));have:Aw x<=Ig kids:=Ed Aw kids x b;rw[Dp] at d;omega
def Gm:Arm->Prop
 | ⟨n,_,kids⟩=>Jq n/\∀p∈kids.map Gm,p
theorem Gu (n:Net)(c:List Elem)(kids:List Arm):Gm ⟨n,c,kids⟩↔Jq n/\∀x∈kids,Gm x:=by rw[Gm,all_map]
theorem Aan {n:Net}{cs:List Elem}{a:Arm}(h:Gm ⟨n,cs,[a]⟩):Gm ⟨Ko n a.net,cs++a.coils,a.kids⟩/\Jq n/\Jq a.net:=by
 obtain⟨g,f,e⟩:=a;have b:=(Gu _ _ _).1 h;have d:=(Gu _ _ _).1 (b.2 ⟨g,f,e⟩ spz);exact⟨(Gu _ _ _).2 ⟨U5 b.1 d.1,d.2⟩,b.1,d.1⟩
theorem Acd:∀(f:Nat) (b:Arm),Gm b->Gm (Ir f b)
 | 0,b,h=>h
 | f+1,⟨n,d,kids⟩,h=>by
  rw[Ir];split
  ·rename_i a e
   simp only at e;subst e;split
   ·exact Acd f _ (Aan h).1
   ·exact h
  ·exact h
theorem Anw (b:Arm)(h:Gm b):Gm (joined b):=Acd _ b h
theorem Rh {n:Net}(h:Ar n=true\/Az n=0):Jq (Sm n):=by
 unfold Sm;split
 ·rename_i a;exact .inl a
 ·rename_i a
  rcases h with h | h
  ·exact absurd h a
  ·exact .inr (Ad8 h)
def J5:Arm->Prop
 | ⟨n,_,kids⟩=>(Ar n=true\/Az n=0)/\∀p∈kids.map J5,p
theorem O9 (n:Net)(c:List Elem)(kids:List Arm):J5 ⟨n,c,kids⟩↔(Ar n=true\/Az n=0)/\∀x∈kids,J5 x:=by rw[J5,all_map]
theorem Td (a:Arm):J5 a->Gm (Dc a):=by
 refine Fz (λa=>J5 a->Gm (Dc a)) ?_ a;intro n c kids f h;have b:=(O9 _ _ _).1 h;rw[Nu];refine Anw _ ((Gu _ _ _).2 ⟨Rh b.1,λx e=>?_⟩);obtain⟨y,d,rfl⟩:=List.mem_map.1 e;exact f y d (b.2 y d)
theorem Afe (a:Arm):Cf a=0->J5 a:=by
 refine Fz (λa=>Cf a=0->J5 a) ?_ a;intro n c kids e h;rw[Vo] at h;have b:Ci ⟨n,c,kids⟩=0:=by
  have:=Pe ⟨n,c,kids⟩
  split at h<;>omega
 rw[if_neg omz] at h;refine(O9 _ _ _).2 ⟨?_,λx d=>e x d ?_⟩
 ·unfold Ci at b
  simp only at b;cases g:Ar n with
  | true=>exact .inl rfl
  | false=>
   refine .inr ?_;have:=Jv n
   simp only[g] at b;split at b
   ·simp at*;omega
   ·simp at*;omega
 ·exact Vd _ (λy f=>by obtain⟨z,_,rfl⟩:=List.mem_map.1 f;exact(Po z).1) h _ (List.mem_map.2 ⟨x,d,rfl⟩)
def A7 (l:List Arm):List Arm:=if(Bf l).1=0 then l.map Dc else []
theorem Yz:∀(l:List Arm) (k:Nat),(D9 l k).1=0->(D9 l k).2=0/\∀x∈l,Ej x=0
 | [],_,_=>⟨rfl,λx b=>by cases b⟩
 | a::r,k,h=>by
  rw[D9] at h ⊢;have g:=Rq a;by_cases d:0<Ej a
  ·rw[if_pos d] at h;simp only at h;omega
  ·rw[if_neg d] at h ⊢
   obtain⟨e,f⟩:=Yz r (k+1) h;refine⟨e,λx b=>?_⟩;rcases List.mem_cons.1 b with rfl | b
   ·omega
   ·exact f x b
theorem Avo {a:Arm}(h:Ej a=0):Ar a.net=false/\Cf a=0:=by
 unfold Ej at h;cases b:Ar a.net with
 | true=>rw[b] at h;simp at h
 | false=>rw[b] at h;exact⟨rfl,by simpa using h⟩
theorem Lp {l:List Arm}(h:(Bf l).1=0):(Bf l).2=0/\l.length<=40/\Bv l<=400/\∀x∈l,Ar x.net=false/\Cf x=0:=by
 unfold Bf at h ⊢;by_cases a:40<l.length\/400<Bv l
 ·rw[if_pos a] at h;simp at h
 ·rw[if_neg a] at h ⊢
  obtain⟨d,e⟩:=Yz l 0 h;exact⟨d,omz,omz,λx b=>Avo (e x b)⟩
theorem Xg:∀(l:List Arm) (k:Nat),0<=(D9 l k).1/\(D9 l k).1<=5
 | [],_=>by rw[D9];simp
 | a::r,k=>by
  rw[D9];have b:=Rq a;split
  ·exact b
  ·exact Xg r (k+1)
theorem Vk (l:List Arm):0<=(Bf l).1/\(Bf l).1<=5:=by
 unfold Bf;split
 ·simp
 ·exact Xg l 0
theorem Zp {l:List Arm}{x:Arm}(hx:x∈l):Aw x<=Bv l:=Ed Aw l x hx
theorem Ju {l:List Arm}(h:(Bf l).1=0){x:Arm}(hx:x∈l):J5 x/\Aw x<=400:=by
 obtain⟨_,_,b,a⟩:=Lp h;exact⟨Afe x (a x hx).2,A6e (Zp hx) b⟩
def Ff (b:Nat)(l:List Nat):Nat:=l.foldl max b
theorem Aee (b:Nat)(l:List Nat)(x:Nat):Ff b (l++[x])=max (Ff b l) x:=by simp[Ff]
theorem Agy:∀(l:List Nat) (b c:Nat),Ff (max b c) l=max b (Ff c l)
 | [],_,_=>rfl
 | x::r,b,c=>by
  show Ff (max (max b c) x) r=max b (Ff (max c x) r)
  rw[Nat.max_assoc,Agy r]
theorem Anr (l:List Nat)(b:Nat):Ff b l=max b (Ff 0 l):=by
 have:=Agy l b 0
 rwa [Nat.max_zero] at this
theorem Aef:∀(l:List Nat) (b c:Nat),b<=c->(∀x∈l,x<=c)->Ff b l<=c
 | [],_,_,h,_=>h
 | x::r,b,c,h,a=>Aef r (max b x) c (Nat.max_le.2 ⟨h,a x spz⟩) (λy d=>a y (A56 _ d))
theorem Aed {b:Nat}{l:List Nat}{j:Nat}(h:j<l.length):Ff b (l.take (j+1))=max (Ff b (l.take j)) l[j]:=by
 rw[A6l h,Aee]
def Aqi (n i x:Nat):Nat:=if i+1<n then x+1 else x
def bump (a:List Nat):List Nat:=a.mapIdx (λi x=>Aqi a.length i x)
theorem Ajj (a:List Nat):(bump a).length=a.length:=by simp[bump]
theorem Aqh (a:List Nat)(i:Nat)(h:i<(bump a).length):(bump a)[i]=Aqi a.length i (a[i]'(by rwa [Ajj] at h)):=by simp[bump]
theorem Ayo (a:List Nat)(z:Nat):bump (a++[z])=a.map (·+1)++[z]:=by
 apply List.ext_getElem
 ·simp[bump]
 ·intro i b e
  rw[Aqh];unfold Aqi;have d:i<a.length+1:=by simpa[Ajj] using b
  by_cases hi:i<a.length
  ·rw[if_pos (by rw[A52,A62];omega),A9d hi,A9d (by simpa using hi),A7q]
  ·obtain rfl:i=a.length:=by omega
   rw[if_neg (by rw[A52,A62];omega)];simp
def forks:Arm->Nat
 | ⟨_,_,kids⟩=>Ff 0 (bump (kids.map forks))
theorem Aim (n:Net)(c:List Elem)(kids:List Arm):forks ⟨n,c,kids⟩=Ff 0 (bump (kids.map forks)):=by rw[forks]
theorem Axp (n:Net)(c:List Elem):forks ⟨n,c,[]⟩=0:=by rw[Aim];rfl
theorem Ase (n:Net)(c:List Elem)(init:List Arm)(z:Arm):forks ⟨n,c,init++[z]⟩=Ff (forks z) (init.map (λk=>1+forks k)):=by
 rw[Aim,A6g,A7x,Ayo,Aee,Anr _ (forks z),Nat.max_comm];congr 2;rw[A8c];refine A8l (λx _=>?_);show forks x+1=1+forks x
 omega
theorem A0o (a:Arm):forks a<=Aw a:=by
 refine Fz (λa=>forks a<=Aw a) ?_ a;intro n c kids e;rw[Aim];refine Aef _ _ _ (A7l _) (λx d=>?_);obtain⟨i,hi,rfl⟩:=List.getElem_of_mem d;rw[Aqh];have b:i<kids.length:=by rw[Ajj,A6i] at hi;exact hi
 rw[A7q];have f:=e kids[i] (A59 b);have g:Aw kids[i]<=Ig kids:=Ed Aw kids _ (A59 b);rw[Dp];unfold Aqi;split<;>omega
def Au9 (k:Int)(b:Nat):Nat:=if k=1 then 1 else 1+b
def Ajm (k:Int)(ks:List Int)(a:List Nat):Nat:=if k=1 then 1 else Ff (a.headD 0) ((List.zipWith Au9 ks a).drop 1)
def Eu:Net->Nat
 | ⟨k,_,kids⟩=>Ajm k (kids.map Net.kind) (kids.map Eu)
def Oa (n:Net):Nat:=Au9 n.kind (Eu n)
theorem Xn (k:Int)(e:Elem)(kids:List Net):Eu ⟨k,e,kids⟩=Ajm k (kids.map Net.kind) (kids.map Eu):=by rw[Eu]
theorem Al8 (e:Elem)(kids:List Net):Eu ⟨1,e,kids⟩=1:=by rw[Xn];rfl
theorem Ahn (e:Elem)(x:Net)(r:List Net)(h:k≠1):Eu ⟨k,e,x::r⟩=Ff (Eu x) (r.map Oa):=by
 rw[Xn];unfold Ajm;rw[if_neg h];simp only[A6k,List.headD_cons,A9g,List.drop_succ_cons,A9b];congr 1;rw[List.zipWith_map,List.zipWith_self];rfl
theorem Amu {n:Net}(h:Eu n<=c):Oa n<=1+c:=by
 unfold Oa Au9;split<;>omega
theorem Al9 (n:Net):Eu n<=Am n:=by
 refine Gf (λn=>Eu n<=Am n) ?_ n;intro k e kids f;rw[Ep];simp only;by_cases b:k=1
 ·rw[b,Al8];omega
 ·cases kids with
  | nil=>
   rw[Xn];unfold Ajm;rw[if_neg b];simp[Ff]
  | cons x r=>
   rw[Ahn e x r b];have d:∀y∈x::r,Am y<=sizes (x::r):=λy a=>Ed Am _ y a
   refine Aef _ _ _ (A6e (f x spz) (by have:=d x spz;omega)) (λz g=>?_);obtain⟨y,a,rfl⟩:=List.mem_map.1 g;have i:=Amu (f y (A56 _ a));have j:=d y (A56 _ a);omega
def Eh (n:Net):List Net:=if Ar n then [] else if n.kind=2 then n.kids else [n]
def Xe (n:Net)(t:Nat):Nat:=Ff t ((Eh n).map Oa)
def H8:Arm->Nat
 | ⟨_,_,kids⟩=>Ff 1 (List.zipWith Xe (kids.map Arm.net) (kids.map H8))
theorem Amv (n:Net)(c:List Elem)(kids:List Arm):H8 ⟨n,c,kids⟩=Ff 1 (kids.map (λk=>Xe k.net (H8 k))):=by
 rw[H8,List.zipWith_map,List.zipWith_self]
theorem Al7 (n:Net):∀x∈Eh n,Am x<=nsz n:=by
 intro x a;unfold Eh at a;split at a
 ·cases a
 ·rename_i h
  have e:nsz n=Am n:=if_neg h;rw[e];split at a
  ·rw[Ep n]
   have:Am x<=sizes n.kids:=Ed Am _ x a;omega
  ·rw[List.mem_singleton.1 a];exact A57 _
def U7 (a:Arm):Nat:=max (Eu a.net) (H8 a)
def Nj (l:List Arm):Nat:=Ff 0 ((A7 l).map U7)
def Jl (l:List Arm):Nat:=Ff 0 ((A7 l).map forks)
def Xf:Net->Prop
 | ⟨k,_,kids⟩=>(k≠1->kids≠[])/\∀p∈kids.map Xf,p
theorem Abw (k:Int)(e:Elem)(kids:List Net):Xf ⟨k,e,kids⟩↔(k≠1->kids≠[])/\∀x∈kids,Xf x:=by rw[Xf,all_map]
theorem full_of (n:Net):Az n=0->Xf n:=by
 refine Gf (λn=>Az n=0->Xf n) ?_ n;intro k e kids d h;rw[Abw];rcases Jo h with⟨rfl,rfl⟩ | ⟨_,f,i⟩ | ⟨_,_,x,rfl,a⟩
 ·exact⟨λh=>absurd rfl h,(λx a=>by cases a)⟩
 ·exact⟨(λ_ b=>by rw[b] at f;simp at f),λx a=>d x a (i x a)⟩
 ·exact⟨(λ_ b=>by cases b),λy g=>by rw[List.mem_singleton.1 g];exact d x spz a⟩
theorem Uf {n:Net}(h:Az n=0):∀x∈n.kids,Az x=0:=by
 obtain⟨k,e,kids⟩:=n;rcases Jo h with⟨_,rfl⟩ | ⟨_,_,d⟩ | ⟨_,_,x,rfl,a⟩
 ·intro x a;cases a
 ·exact d
 ·intro y b;rw[List.mem_singleton.1 b];exact a
theorem Aot {n:Net}(h:Jq n):∀x∈Eh n,Xf x:=by
 intro x a;unfold Eh at a;split at a
 ·cases a
 ·rename_i d
  have b:=h.resolve_left d;split at a
  ·exact full_of x (Uf b.2.2 x a)
  ·rw[List.mem_singleton.1 a];exact full_of n b.2.2
theorem Am0 {a b:Net}(h:Ar a=false)(f:Jq b)(g:fine a):Ar (Ko a b)=false:=by
 have e:=U5 (.inr g) f;unfold Ko at e ⊢;rw[if_neg yDf] at e ⊢;split
 ·exact h
 ·rename_i i
  rw[if_neg i] at e;refine Aew (Ahl spz (λx d=>?_));rcases List.mem_cons.1 d with rfl | d
  ·exact g
  ·rw[List.mem_singleton.1 d]
   exact f.resolve_left i
theorem Aek:∀(f:Nat) (b:Arm),Gm b->Ar b.net=false->Ar (Ir f b).net=false
 | 0,_,_,h=>h
 | f+1,⟨n,i,kids⟩,d,h=>by
  rw[Ir];split
  ·rename_i g e
   simp only at e h;subst e;split
   ·have a:=Aan d
    refine Aek f _ a.1 ?_;exact Am0 h a.2.2 (a.2.1.resolve_left yDf)
   ·exact h
  ·exact h
theorem Ad9 {a:Arm}(hr:J5 a)(h:Ar a.net=false):Ar (Dc a).net=false:=by
 obtain⟨n,c,kids⟩:=a;have b:=(O9 _ _ _).1 hr;rw[Nu];simp only at h;refine Aek _ _ ((Gu _ _ _).2 ⟨Rh b.1,λx d=>?_⟩) ?_
 ·obtain⟨y,e,rfl⟩:=List.mem_map.1 d
  exact Td y (b.2 y e)
 ·show Ar (Sm n)=false
  unfold Sm;rw[if_neg yDf];exact Aew (Ad8 (b.1.resolve_left yDf))
theorem Yu (l:List Arm):∀x∈A7 l,Gm x/\Ar x.net=false:=by
 intro x a;unfold A7 at a;by_cases b:(Bf l).1=0
 ·rw[if_pos b] at a
  obtain⟨y,e,rfl⟩:=List.mem_map.1 a;have d:=(Ju b e).1;exact⟨Td y d,Ad9 d ((Lp b).2.2.2 y e).1⟩
 ·rw[if_neg b] at a;cases a
end Stil
