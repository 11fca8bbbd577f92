import Derived.Test.YtmnnkedjoecehaaGreatDoorGr
set_option linter.defProp false
namespace Stil
variable {c:Nat}{k:Int}
def X9:B8->Prop
 | ⟨k,_,kids⟩=>((k=2\/k=3)->kids.length≠1/\∀x∈kids,x.kind≠k)/\∀p∈kids.map X9,p
theorem Ql (n:B8):X9 n↔((n.kind=2\/n.kind=3)->n.kids.length≠1/\∀x∈n.kids,x.kind≠n.kind)/\∀x∈n.kids,X9 x:=by
 obtain⟨k,e,kids⟩:=n;rw[X9,all_map]
def uj (k:Int)(l:List B8)(h:∀x∈l,x.kind≠k):Ce k l=l:=by
 induction l with
 | nil=>rfl
 | cons x r b=>
  have e:x::r=[x]++r:=rfl;rw[e,Nc,Pm,if_neg (h x AU),b (λy a=>h y (CN _ a))]
theorem ql (k:Int)(f:k=2\/k=3)(l:List B8)(h:∀x∈l,X9 x):∀x∈Ce k l,x.kind≠k/\X9 x:=by
 intro x a;obtain⟨y,d,a⟩:=List.mem_flatMap.1 a;have b:=(Ql y).1 (h y d);split at a
 ·rename_i e
  refine⟨?_,b.2 x a⟩;have:=(b.1 (by rw[e];exact f)).2 x a
  rwa [e] at this
 ·rename_i e
  rw[List.mem_singleton.1 a];exact⟨e,h y d⟩
theorem vA (n:B8):X9 (Au n):=by
 refine Fp (λn=>X9 (Au n)) ?_ n;intro k e kids g;have d:∀x∈kids.map Au,X9 x:=by
  intro x a;obtain⟨y,f,rfl⟩:=List.mem_map.1 a;exact g y f
 rw[Jj];split
 ·rename_i b
  have hF:=ql k b _ d;unfold F8;split
  ·exact(hF _ (CJ _)).2
  ·rename_i i
   rw[Ql];exact⟨λ_=>⟨i,λx a=>(hF x a).1⟩,λx a=>(hF x a).2⟩
 ·rename_i b
  rw[Ql];exact⟨λh=>absurd h b,d⟩
def Ut:B8->Prop
 | ⟨k,e,kids⟩=>((k=2\/k=3)->e=⟨0,[]⟩)/\∀p∈kids.map Ut,p
theorem O8 (n:B8):Ut n↔((n.kind=2\/n.kind=3)->n.one=⟨0,[]⟩)/\∀x∈n.kids,Ut x:=by
 obtain⟨k,e,kids⟩:=n;rw[Ut,all_map]
theorem sY (n:B8):Ut (Au n):=by
 refine Fp (λn=>Ut (Au n)) ?_ n;intro k e kids g;have d:∀x∈kids.map Au,Ut x:=by
  intro x a;obtain⟨y,b,rfl⟩:=List.mem_map.1 a;exact g y b
 have hF:∀x∈Ce k (kids.map Au),Ut x:=by
  intro x a;obtain⟨y,b,a⟩:=List.mem_flatMap.1 a;have f:=(O8 y).1 (d y b);split at a
  ·exact f.2 x a
  ·rw[List.mem_singleton.1 a];exact d y b
 rw[Jj];split
 ·unfold F8
  split
  ·exact hF _ (CJ _)
  ·rw[O8]
   exact⟨λ_=>rfl,hF⟩
 ·rename_i i
  rw[O8];exact⟨λh=>absurd h i,d⟩
theorem Ay3 (n:B8):X9 n->Ut n->Au n=n:=by
 refine Fp (λn=>X9 n->Ut n->Au n=n) ?_ n;intro k e kids i j h;have a:=(Ql _).1 j;have b:=(O8 _).1 h;simp only at a b;have g:kids.map Au=kids:=by
  have:kids.map Au=kids.map id:=JU (λx f=>i x f (a.2 x f) (b.2 x f));rw[this,List.map_id]
 rw[Jj,g];split
 ·rename_i d
  rw[uj k kids (a.1 d).2];unfold F8;rw[dif_neg (a.1 d).1,b.1 d]
 ·rfl
theorem ZX {ks:List B8}(l:k=2\/k=3)(g:0<ks.length)(h:∀x∈ks,Aj x=0):Aj ⟨k,⟨0,[]⟩,ks⟩=0:=by
 rw[Ox,if_neg AQ];have a:Ye k 0 0 ks.length=false:=by
  unfold Ye;have f:decide (k<2)=false:=by rw[Ft];omega
  have j:decide (4<k)=false:=by rw[Ft];omega
  have d:((ks.length:Int)==0)=false:=by rw[CS];omega
  have i:(k==4)=false:=by rw[CS];omega
  simp[f,j,d,i]
 rw[if_neg (by simp only[CP,a];exact FV)];clear g a;induction ks with
 | nil=>rfl
 | cons x r e=>
  rw[CQ,Az,if_neg (by rw[h x AU];omega)];exact e (λy b=>h y (CN _ b))
theorem ye {n:B8}(h:Aj n=0)(d:n.kind=2\/n.kind=3):0<n.kids.length/\∀x∈n.kids,Aj x=0:=by
 obtain⟨k,e,kids⟩:=n;simp only at d ⊢;rcases F5 h with⟨f,_⟩ | ⟨_,b,a⟩ | ⟨f,_⟩
 ·omega
 ·exact⟨b,a⟩
 ·omega
theorem Avy (f:k=2\/k=3){l:List B8}(g:0<l.length)(h:∀x∈l,Aj x=0):0<(Ce k l).length/\∀x∈Ce k l,Aj x=0:=by
 have d:∀x∈l,0<(Ce k [x]).length/\∀y∈Ce k [x],Aj y=0:=by
  intro x b;rw[Pm];split
  ·rename_i e
   exact ye (h x b) (by rw[e];exact f)
  ·exact⟨AU,λy a=>by rw[List.mem_singleton.1 a];exact h x b⟩
 refine⟨?_,λy a=>?_⟩
 ·obtain⟨x,r,rfl⟩:=M3 (List.ne_nil_of_length_pos g)
  have e:x::r=[x]++r:=rfl;rw[e,Nc,CO];have:=(d x AU).1
  omega
 ·obtain⟨x,b,a⟩:=List.mem_flatMap.1 a
  refine(d x b).2 y ?_;rw[Pm];exact a
def vu (b:k=2\/k=3){l:List B8}(e:0<l.length)(h:∀x∈l,Aj x=0):Aj (F8 k (Ce k l))=0:=by
 obtain⟨d,a⟩:=Avy b e h;unfold F8;split
 ·exact a _ (CJ _)
 ·exact ZX b d a
theorem zT (n:B8):Aj n=0->Aj (Au n)=0:=by
 refine Fp (λn=>Aj n=0->Aj (Au n)=0) ?_ n;intro k e kids d h;have i:=h;rw[Jj];rcases F5 h with⟨rfl,rfl⟩ | ⟨f,j,l⟩ | ⟨rfl,rfl,x,rfl,b⟩
 ·rw[if_neg AQ];exact i
 ·rw[if_pos f]
  refine vu f (by simpa using j) (λx b=>?_);obtain⟨y,a,rfl⟩:=List.mem_map.1 b;exact d y a (l y a)
 ·rw[if_neg AQ]
  have a:=d x AU b;rw[Ox,if_neg AQ];have g:Ye 4 (⟨0,[]⟩:Elem).op (⟨0,[]⟩:Elem).args.length ([x].map Au).length=false:=Ab
  rw[if_neg (by rw[g];exact FV)];simp only[CQ,C6,Az];rw[if_neg AQ]
def fine (n:B8):Prop:=X9 n/\Ut n/\Aj n=0
def OU {n:B8}(h:Aj n=0):fine (Au n):=⟨vA n,sY n,zT n h⟩
def LX {n:B8}(h:fine n):Au n=n:=Ay3 n h.1 h.2.1
def none0:B8:=⟨0,⟨0,[]⟩,[]⟩
theorem Yw {n:B8}(h:Am n=true):n=none0:=by
 obtain⟨k,⟨op,args⟩,kids⟩:=n;simp only[Am,Bool.and_eq_true,ED] at h;obtain⟨⟨⟨f,b⟩,a⟩,e⟩:=h;have d:=List.length_eq_zero_iff.1 a;have g:=List.length_eq_zero_iff.1 e;subst d g f b;rfl
theorem PR {n:B8}(h:fine n):Am n=false:=by
 cases d:Am n with
 | false=>rfl
 | true=>
  have e:=Yw d;have a:=h.2.2;rw[e] at a;unfold none0 at a;rcases F5 a with⟨b,_⟩ | ⟨b,_⟩ | ⟨b,_⟩<;>omega
def L8 (a b:B8):B8:=if Am a then b else if Am b then a else F8 2 (Ce 2 [a,b])
def Wz {l:List B8}(d:0<l.length)(h:∀x∈l,fine x):fine (F8 2 (Ce 2 l)):=by
 have b:l.map Au=l:=by
  have:l.map Au=l.map id:=JU (λx a=>LX (h x a));rw[this,List.map_id]
 have e:F8 2 (Ce 2 l)=Au ⟨2,⟨0,[]⟩,l⟩:=by rw[Jj,if_pos (.inl rfl),b]
 rw[e];exact OU (ZX (.inl rfl) d (λx a=>(h x a).2.2))
def Ht (n:B8):Prop:=Am n=true\/fine n
theorem Xe {a b:B8}(f:Ht a)(e:Ht b):Ht (L8 a b):=by
 unfold L8;split
 ·exact e
 ·rename_i i
  split
  ·exact f
  ·rename_i g
   refine .inr (Wz AU (λx d=>?_));rcases List.mem_cons.1 d with rfl | d
   ·rcases f with h | h
    ·exact absurd h i
    ·exact h
   ·rw[List.mem_singleton.1 d]
    rcases e with h | h
    ·exact absurd h g
    ·exact h
def Iu (l:List B9):Nat:=(l.map Ak).sum
def Jh:Nat->B9->B9
 | 0,a=>a
 | f+1,a=>match a.kids with
  | [b]=>if a.coils=[]\/Am b.net=true then Jh f ⟨L8 a.net b.net,a.coils++b.coils,b.kids⟩ else a
  | _=>a
theorem Np (a:B9):1+Iu a.kids<=Ak a:=by
 obtain⟨n,c,kids⟩:=a;rw[Ug];unfold Iu;simp only;omega
theorem sn (f:Nat):∀a:B9,Iu a.kids<=f->Jh f a=Jh (f+1) a:=by
 induction f with
 | zero=>
  intro a h;rw[Jh];conv=>rhs;rw[Jh]
  split
  ·rename_i b e
   rw[e] at h;have:=Np b
   simp[Iu] at h;omega
  ·rfl
 | succ f d=>
  intro a h;rw[Jh];conv=>rhs;rw[Jh]
  split
  ·rename_i b e
   split
   ·refine d _ ?_
    rw[e] at h;have:=Np b
    simp only[Iu,CQ,C6,DO,GH] at h this ⊢;omega
   ·rfl
  ·rfl
def joined (a:B9):B9:=Jh (Iu a.kids) a
def Ava (a:B9):∀f,Iu a.kids<=f->Jh f a=joined a:=by
 intro f h;obtain⟨d,rfl⟩:=Nat.exists_eq_add_of_le h;clear h;induction d with
 | zero=>rfl
 | succ d b=>rw[<-Nat.add_assoc,<-sn _ a AQ];exact b
def VT (n:B8)(c:List Elem)(a:B9)(h:c=[]\/Am a.net=true):joined ⟨n,c,[a]⟩=joined ⟨L8 n a.net,c++a.coils,a.kids⟩:=by
 have b:Iu [a]=Ak a:=by simp[Iu]
 have e:=Np a;unfold joined;simp only;rw[b];obtain⟨f,d⟩:∃f,Ak a=f+1:=⟨Ak a - 1,AQ⟩
 rw[d,Jh];simp only;rw[if_pos h];exact Ava _ f (by simp only;omega)
theorem Uo (a:B9)(h:∀b,a.kids=[b]->¬(a.coils=[]\/Am b.net=true)):joined a=a:=by
 unfold joined;cases d:Iu a.kids with
 | zero=>rfl
 | succ f=>
  rw[Jh];split
  ·rename_i b e
   rw[if_neg (h b e)]
  ·rfl
def Bo:B9->B9
 | ⟨n,a,kids⟩=>joined ⟨if Am n then n else Au n,a,kids.map Bo⟩
def Aux (n:B8)(a:List Elem)(kids:List B9):Bo ⟨n,a,kids⟩=joined ⟨if Am n then n else Au n,a,kids.map Bo⟩:=by rw[Bo]
def Av1:(⟨0,[]⟩:Elem).fits:=⟨by show i64 0;unfold i64;omega,AU,AU⟩
def Y2 {l:List B8}(h:∀x∈l,Dz x):∀x∈Ce k l,Dz x:=by
 intro x a;obtain⟨y,b,a⟩:=List.mem_flatMap.1 a;split at a
 ·exact(D5 (h y b)).2.2.2 x a
 ·rw[List.mem_singleton.1 a];exact h y b
def Ww (a:i64 k){l:List B8}(h:∀x∈l,Dz x)(hl:l.length<=1048576):Dz (F8 k l):=by
 unfold F8;split
 ·exact h _ (CJ _)
 ·exact(Lc _ _ _).2 ⟨a,Av1,hl,h⟩
theorem uA {a b:B8}(f:Dz a)(e:Dz b)(i:Ai a+Ai b<=1000000):Dz (L8 a b):=by
 unfold L8;split
 ·exact e
 ·split
  ·exact f
  ·refine Ww yDg (Y2 (λx d=>?_)) ?_
   ·rcases List.mem_cons.1 d with rfl | d
    ·exact f
    ·rw[List.mem_singleton.1 d];exact e
   ·have l:=Jl (Ce 2 [a,b])
    have j:=Le 2 [a,b];have g:sizes [a,b]=Ai a+Ai b:=by simp[sizes]
    omega
def BK (n:B8):Nat:=if Am n then 0 else Ai n
def SQ (n:B8):BK n<=Ai n:=by unfold BK;split<;>omega
theorem size_le (n:B8):Ai n<=1+BK n:=by
 unfold BK;split
 ·rename_i h
  rw[Yw h];show Ai ⟨0,⟨0,[]⟩,[]⟩<=_
  rw[Qi];simp
 ·omega
theorem tt (a b:B8):BK (L8 a b)<=BK a+BK b+1:=by
 unfold L8;split
 ·omega
 ·rename_i e
  split
  ·omega
  ·rename_i d
   refine CM (SQ _) ?_;have f:=UU 2 (Ce 2 [a,b]);have i:=Le 2 [a,b];have g:sizes [a,b]=Ai a+Ai b:=by simp[sizes]
   have h:BK a=Ai a:=if_neg e;have j:BK b=Ai b:=if_neg d;omega
def Cf (n:B8)(c:List Elem)(kids:List B9):Ak ⟨n,c,kids⟩=1+c.length+BK n+Iu kids:=by rw[Ug];rfl
def Z9 (c:Nat)(b:B9):Prop:=Dh b/\Ak b<=c
def Oj (l:List B9):l.length<=Iu l:=by
 unfold Iu;induction l with
 | nil=>simp
 | cons x r a=>
  have:=Np x
  simp only[CH,CQ,DO];omega
def PO (k:B9):Iu [k]=Ak k:=by simp[Iu]
theorem Qf {n:B8}{cs:List Elem}{a:B9}(h:Z9 c ⟨n,cs,[a]⟩)(r:c<=900000):Z9 c ⟨L8 n a.net,cs++a.coils,a.kids⟩/\sizes [n,a.net]<=999999/\Dz n/\Dz a.net/\cs.length+a.coils.length<=1000000/\Iu a.kids<Iu [a]:=by
 obtain⟨j,g⟩:=h;rw[Cf,PO] at g;obtain⟨f,l,i⟩:=a;rw[Cf] at g;rw[PO,Cf];simp only;have d:=(Fz _ _ _).1 j;have e:=(Fz _ _ _).1 (d.2.2.2.2 ⟨f,l,i⟩ AU);have q:=size_le n;have o:=size_le f;have m:=tt n f;refine⟨⟨(Fz _ _ _).2 ⟨uA d.1 e.1 AQ,by rw[CO];omega,λx b=>?_,e.2.2.2⟩,?_⟩,by simp[sizes];omega,d.1,e.1,AQ,AQ⟩
 ·rcases List.mem_append.1 b with b | b
  ·exact d.2.2.1 x b
  ·exact e.2.2.1 x b
 ·rw[Cf,CO];omega
theorem XK (a:c<=900000):∀(f:Nat) (b:B9),Z9 c b->Z9 c (Jh f b)
 | 0,b,h=>h
 | f+1,⟨n,g,kids⟩,h=>by
  rw[Jh];split
  ·rename_i d e
   simp only at e;subst e;split
   ·exact XK a f _ (Qf h a).1
   ·exact h
  ·exact h
def Azm (a:c<=900000)(b:B9)(h:Z9 c b):Z9 c (joined b):=XK a _ b h
theorem Auw (n:B8):Dz n->Ai n<=1000000->Dz (Au n):=by
 refine Fp (λn=>Dz n->Ai n<=1000000->Dz (Au n)) ?_ n;intro k e kids f h g;rw[Jj];have a:=(Lc _ _ _).1 h;have m:sizes kids<Ai ⟨k,e,kids⟩:=by rw[Ej];simp only;omega
 have b:∀x∈kids.map Au,Dz x:=by
  intro x b;obtain⟨y,d,rfl⟩:=List.mem_map.1 b;have:Ai y<=sizes kids:=Eb Ai kids y d;exact f y d (a.2.2.2 y d) AQ
 split
 ·refine Ww a.1 (Y2 b) ?_
  have l:=Jl (Ce k (kids.map Au));have j:=Le k (kids.map Au);have i:=XF kids;omega
 ·exact(Lc _ _ _).2 ⟨a.1,a.2.1,by rw[CW];exact a.2.2.1,b⟩
def U2 (n:B8):B8:=if Am n then n else Au n
def wx {n:B8}(h:Dz n)(a:BK n<=900000):Dz (U2 n):=by
 unfold U2;split
 ·exact h
 ·exact Auw n h (by have:=size_le n;omega)
theorem wm (n:B8):BK (U2 n)<=BK n:=by
 unfold U2;split
 ·exact CG _
 ·rename_i h
  have e:BK n=Ai n:=if_neg h;rw[e];exact CM (SQ _) (UD n)
def Pg (n:B8)(c:List Elem)(kids:List B9):Bo ⟨n,c,kids⟩=joined ⟨U2 n,c,kids.map Bo⟩:=Aux n c kids
theorem QB {n:B8}{c:List Elem}{kids:List B9}(i:Dh ⟨n,c,kids⟩)(g:Ak ⟨n,c,kids⟩<=900000)(f:∀x∈kids,Z9 (Ak x) (Bo x)):Z9 (Ak ⟨n,c,kids⟩) ⟨U2 n,c,kids.map Bo⟩:=by
 have d:=(Fz _ _ _).1 i;rw[Cf] at g ⊢;have o:=wm n;have m:Iu (kids.map Bo)<=Iu kids:=by
  clear i g d;induction kids with
  | nil=>simp
  | cons x r l=>
   have a:=(f x AU).2;have b:=l (λy e=>f y (CN _ e));simp only[Iu,CQ,DO] at b ⊢;omega
 refine⟨(Fz _ _ _).2 ⟨wx d.1 AQ,d.2.1,d.2.2.1,by rw[CW];exact d.2.2.2.1,λx j=>?_⟩,by rw[Cf];omega⟩;obtain⟨y,e,rfl⟩:=List.mem_map.1 j;exact(f y e).1
theorem Zo (a:B9):Dh a->Ak a<=900000->Z9 (Ak a) (Bo a):=by
 refine Fq (λa=>Dh a->Ak a<=900000->Z9 (Ak a) (Bo a)) ?_ a;intro n c kids g e b;rw[Pg];have f:=(Fz _ _ _).1 e;refine Azm b _ (QB e b (λx d=>g x d (f.2.2.2.2 x d) ?_));have:Ak x<=Iu kids:=Eb Ak kids x d;rw[Cf] at b;omega
def E5:B9->Prop
 | ⟨n,_,kids⟩=>Ht n/\∀p∈kids.map E5,p
def Eg (n:B8)(c:List Elem)(kids:List B9):E5 ⟨n,c,kids⟩↔Ht n/\∀x∈kids,E5 x:=by rw[E5,all_map]
def LM {n:B8}{cs:List Elem}{a:B9}(h:E5 ⟨n,cs,[a]⟩):E5 ⟨L8 n a.net,cs++a.coils,a.kids⟩/\Ht n/\Ht a.net:=by
 obtain⟨e,g,f⟩:=a;have d:=(Eg _ _ _).1 h;have b:=(Eg _ _ _).1 (d.2 ⟨e,g,f⟩ AU);exact⟨(Eg _ _ _).2 ⟨Xe d.1 b.1,b.2⟩,d.1,b.1⟩
theorem UJ:∀(f:Nat) (b:B9),E5 b->E5 (Jh f b)
 | 0,b,h=>h
 | f+1,⟨n,d,kids⟩,h=>by
  rw[Jh];split
  ·rename_i a e
   simp only at e;subst e;split
   ·exact UJ f _ (LM h).1
   ·exact h
  ·exact h
def vQ (b:B9)(h:E5 b):E5 (joined b):=UJ _ b h
theorem Ud {n:B8}(h:Am n=true\/Aj n=0):Ht (U2 n):=by
 unfold U2;split
 ·rename_i a;exact .inl a
 ·rename_i a
  rcases h with h | h
  ·exact absurd h a
  ·exact .inr (OU h)
def Lp:B9->Prop
 | ⟨n,_,kids⟩=>(Am n=true\/Aj n=0)/\∀p∈kids.map Lp,p
def Qr (n:B8)(c:List Elem)(kids:List B9):Lp ⟨n,c,kids⟩↔(Am n=true\/Aj n=0)/\∀x∈kids,Lp x:=by rw[Lp,all_map]
theorem Vb (a:B9):Lp a->E5 (Bo a):=by
 refine Fq (λa=>Lp a->E5 (Bo a)) ?_ a;intro n c kids e h;have d:=(Qr _ _ _).1 h;rw[Pg];refine vQ _ ((Eg _ _ _).2 ⟨Ud d.1,λx f=>?_⟩);obtain⟨y,b,rfl⟩:=List.mem_map.1 f;exact e y b (d.2 y b)
theorem WN (a:B9):Cm a=0->Lp a:=by
 refine Fq (λa=>Cm a=0->Lp a) ?_ a;intro n c kids g h;rw[Xv] at h;have b:Dc ⟨n,c,kids⟩=0:=by
  have:=Qs ⟨n,c,kids⟩
  split at h<;>omega
 rw[if_neg AQ] at h;refine(Qr _ _ _).2 ⟨?_,λx d=>g x d ?_⟩
 ·unfold Dc at b
  simp only at b;cases e:Am n with
  | true=>exact .inl rfl
  | false=>
   refine .inr ?_;have:=La n
   simp only[e] at b;split at b
   ·simp at*;omega
   ·simp at*;omega
 ·exact Xm _ (λy f=>by obtain⟨z,_,rfl⟩:=List.mem_map.1 f;exact(Q7 z).1) h _ (List.mem_map.2 ⟨x,d,rfl⟩)
def Aq (l:List B9):List B9:=if(Ah l).1=0 then l.map Bo else []
theorem Vr:∀(l:List B9) (k:Nat),(Dx l k).1=0->(Dx l k).2=0/\∀x∈l,D9 x=0
 | [],_,_=>⟨rfl,λx b=>by cases b⟩
 | a::r,k,h=>by
  rw[Dx] at h ⊢;have g:=Px a;by_cases d:0<D9 a
  ·rw[if_pos d] at h;simp only at h;omega
  ·rw[if_neg d] at h ⊢
   obtain⟨f,e⟩:=Vr r (k+1) h;refine⟨f,λx b=>?_⟩;rcases List.mem_cons.1 b with rfl | b
   ·omega
   ·exact e x b
theorem Ayc {a:B9}(h:D9 a=0):Am a.net=false/\Cm a=0:=by
 unfold D9 at h;cases b:Am a.net with
 | true=>rw[b] at h;simp at h
 | false=>rw[b] at h;exact⟨rfl,by simpa using h⟩
theorem Ny {l:List B9}(h:(Ah l).1=0):(Ah l).2=0/\l.length<=40/\Aw l<=400/\∀x∈l,Am x.net=false/\Cm x=0:=by
 unfold Ah at h ⊢;by_cases a:40<l.length\/400<Aw l
 ·rw[if_pos a] at h;simp at h
 ·rw[if_neg a] at h ⊢
  obtain⟨d,b⟩:=Vr l 0 h;exact⟨d,AQ,AQ,λx e=>Ayc (b x e)⟩
theorem Yy:∀(l:List B9) (k:Nat),0<=(Dx l k).1/\(Dx l k).1<=5
 | [],_=>by rw[Dx];simp
 | a::r,k=>by
  rw[Dx];have b:=Px a;split
  ·exact b
  ·exact Yy r (k+1)
def NY (l:List B9):0<=(Ah l).1/\(Ah l).1<=5:=by
 unfold Ah;split
 ·simp
 ·exact Yy l 0
def Uw {l:List B9}{x:B9}(hx:x∈l):Ak x<=Aw l:=Eb Ak l x hx
def Kz {l:List B9}(h:(Ah l).1=0){x:B9}(hx:x∈l):Lp x/\Ak x<=400:=by
 obtain⟨_,_,b,a⟩:=Ny h;exact⟨WN x (a x hx).2,CM (Uw hx) b⟩
def Cc (b:Nat)(l:List Nat):Nat:=l.foldl max b
def VR (b:Nat)(l:List Nat)(x:Nat):Cc b (l++[x])=max (Cc b l) x:=by simp[Cc]
theorem Qj:∀(l:List Nat) (b c:Nat),Cc (max b c) l=max b (Cc c l)
 | [],_,_=>rfl
 | x::r,b,c=>by
  show Cc (max (max b c) x) r=max b (Cc (max c x) r)
  rw[Nat.max_assoc,Qj r]
def NU (l:List Nat)(b:Nat):Cc b l=max b (Cc 0 l):=by
 have:=Qj l b 0
 rwa [Nat.max_zero] at this
theorem PN:∀(l:List Nat) (b c:Nat),b<=c->(∀x∈l,x<=c)->Cc b l<=c
 | [],_,_,h,_=>h
 | x::r,b,c,h,a=>PN r (max b x) c (Nat.max_le.2 ⟨h,a x AU⟩) (λy d=>a y (CN _ d))
def Me {b:Nat}{l:List Nat}{j:Nat}(h:j<l.length):Cc b (l.take (j+1))=max (Cc b (l.take j)) l[j]:=by
 rw[EB h,VR]
def Y7 (n i x:Nat):Nat:=if i+1<n then x+1 else x
def bump (a:List Nat):List Nat:=a.mapIdx (λi x=>Y7 a.length i x)
def KR (a:List Nat):(bump a).length=a.length:=by simp[bump]
def QA (a:List Nat)(i:Nat)(h:i<(bump a).length):(bump a)[i]=Y7 a.length i (a[i]'(by rwa [KR] at h)):=by simp[bump]
theorem f6 (a:List Nat)(z:Nat):bump (a++[z])=a.map (·+1)++[z]:=by
 apply List.ext_getElem
 ·simp[bump]
 ·intro i b d
  rw[QA];unfold Y7;have e:i<a.length+1:=by simpa[KR] using b
  by_cases hi:i<a.length
  ·rw[if_pos (by rw[CO,EF];omega),NC hi,NC (by simpa using hi),EH]
  ·obtain rfl:i=a.length:=by omega
   rw[if_neg (by rw[CO,EF];omega)];simp
def forks:B9->Nat
 | ⟨_,_,kids⟩=>Cc 0 (bump (kids.map forks))
def Zv (n:B8)(c:List Elem)(kids:List B9):forks ⟨n,c,kids⟩=Cc 0 (bump (kids.map forks)):=by rw[forks]
def fE (n:B8)(c:List Elem):forks ⟨n,c,[]⟩=0:=by rw[Zv];rfl
def Avw (n:B8)(c:List Elem)(init:List B9)(z:B9):forks ⟨n,c,init++[z]⟩=Cc (forks z) (init.map (λk=>1+forks k)):=by
 rw[Zv,CU,G3,f6,VR,NU _ (forks z),Nat.max_comm];congr 2;rw[EZ];refine JU (λx _=>?_);show forks x+1=1+forks x
 omega
theorem ZN (a:B9):forks a<=Ak a:=by
 refine Fq (λa=>forks a<=Ak a) ?_ a;intro n c kids d;rw[Zv];refine PN _ _ _ (DZ _) (λx e=>?_);obtain⟨i,hi,rfl⟩:=List.getElem_of_mem e;rw[QA];have b:i<kids.length:=by rw[KR,CW] at hi;exact hi
 rw[EH];have g:=d kids[i] (CJ b);have f:Ak kids[i]<=Iu kids:=Eb Ak kids _ (CJ b);rw[Cf];unfold Y7;split<;>omega
def Kp (k:Int)(b:Nat):Nat:=if k=1 then 1 else 1+b
def MJ (k:Int)(ks:List Int)(a:List Nat):Nat:=if k=1 then 1 else Cc (a.headD 0) ((List.zipWith Kp ks a).drop 1)
def Bc:B8->Nat
 | ⟨k,_,kids⟩=>MJ k (kids.map B8.kind) (kids.map Bc)
def Di (n:B8):Nat:=Kp n.kind (Bc n)
def Y9 (k:Int)(e:Elem)(kids:List B8):Bc ⟨k,e,kids⟩=MJ k (kids.map B8.kind) (kids.map Bc):=by rw[Bc]
def Y8 (e:Elem)(kids:List B8):Bc ⟨1,e,kids⟩=1:=by rw[Y9];rfl
def Qq (e:Elem)(x:B8)(r:List B8)(h:k≠1):Bc ⟨k,e,x::r⟩=Cc (Bc x) (r.map Di):=by
 rw[Y9];unfold MJ;rw[if_neg h];simp only[CQ,List.headD_cons,ez,List.drop_succ_cons,NA];congr 1;rw[List.zipWith_map,List.zipWith_self];rfl
def ti {n:B8}(h:Bc n<=c):Di n<=1+c:=by
 unfold Di Kp;split<;>omega
theorem UW (n:B8):Bc n<=Ai n:=by
 refine Fp (λn=>Bc n<=Ai n) ?_ n;intro k e kids f;rw[Ej];simp only;by_cases b:k=1
 ·rw[b,Y8];omega
 ·cases kids with
  | nil=>
   rw[Y9];unfold MJ;rw[if_neg b];simp[Cc]
  | cons x r=>
   rw[Qq e x r b];have d:∀y∈x::r,Ai y<=sizes (x::r):=λy a=>Eb Ai _ y a
   refine PN _ _ _ (CM (f x AU) (by have:=d x AU;omega)) (λz g=>?_);obtain⟨y,a,rfl⟩:=List.mem_map.1 g;have j:=ti (f y (CN _ a));have i:=d y (CN _ a);omega
def Cj (n:B8):List B8:=if Am n then [] else if n.kind=2 then n.kids else [n]
def Gz (n:B8)(t:Nat):Nat:=Cc t ((Cj n).map Di)
def Df:B9->Nat
 | ⟨_,_,kids⟩=>Cc 1 (List.zipWith Gz (kids.map B9.net) (kids.map Df))
def Xd (n:B8)(c:List Elem)(kids:List B9):Df ⟨n,c,kids⟩=Cc 1 (kids.map (λk=>Gz k.net (Df k))):=by
 rw[Df,List.zipWith_map,List.zipWith_self]
theorem Ln (n:B8):∀x∈Cj n,Ai x<=BK n:=by
 intro x a;unfold Cj at a;split at a
 ·cases a
 ·rename_i h
  have e:BK n=Ai n:=if_neg h;rw[e];split at a
  ·rw[Ej n]
   have:Ai x<=sizes n.kids:=Eb Ai _ x a;omega
  ·rw[List.mem_singleton.1 a];exact CG _
def Jc (a:B9):Nat:=max (Bc a.net) (Df a)
def Jo (l:List B9):Nat:=Cc 0 ((Aq l).map Jc)
def Ia (l:List B9):Nat:=Cc 0 ((Aq l).map forks)
def Vq:B8->Prop
 | ⟨k,_,kids⟩=>(k≠1->kids≠[])/\∀p∈kids.map Vq,p
def Zu (k:Int)(e:Elem)(kids:List B8):Vq ⟨k,e,kids⟩↔(k≠1->kids≠[])/\∀x∈kids,Vq x:=by rw[Vq,all_map]
theorem full_of (n:B8):Aj n=0->Vq n:=by
 refine Fp (λn=>Aj n=0->Vq n) ?_ n;intro k e kids d h;rw[Zu];rcases F5 h with⟨rfl,rfl⟩ | ⟨_,f,i⟩ | ⟨_,_,x,rfl,a⟩
 ·exact⟨λh=>absurd rfl h,(λx a=>by cases a)⟩
 ·exact⟨(λ_ b=>by rw[b] at f;simp at f),λx a=>d x a (i x a)⟩
 ·exact⟨(λ_ b=>by cases b),λy g=>by rw[List.mem_singleton.1 g];exact d x AU a⟩
theorem Oe {n:B8}(h:Aj n=0):∀x∈n.kids,Aj x=0:=by
 obtain⟨k,e,kids⟩:=n;rcases F5 h with⟨_,rfl⟩ | ⟨_,_,d⟩ | ⟨_,_,x,rfl,a⟩
 ·intro x a;cases a
 ·exact d
 ·intro y b;rw[List.mem_singleton.1 b];exact a
theorem WJ {n:B8}(h:Ht n):∀x∈Cj n,Vq x:=by
 intro x a;unfold Cj at a;split at a
 ·cases a
 ·rename_i d
  have b:=h.resolve_left d;split at a
  ·exact full_of x (Oe b.2.2 x a)
  ·rw[List.mem_singleton.1 a];exact full_of n b.2.2
theorem fX {n:B8}(h:fine n):1<=n.kind/\n.kind<=4:=by
 obtain⟨k,e,kids⟩:=n;rcases F5 h.2.2 with⟨a,_⟩ | ⟨a,_⟩ | ⟨a,_⟩<;>(simp only;omega)
theorem tw {a b:B8}(h:Am a=false)(f:Ht b)(i:fine a):Am (L8 a b)=false:=by
 have d:=Xe (.inr i) f;unfold L8 at d ⊢;rw[if_neg yDi] at d ⊢;split
 ·exact h
 ·rename_i g
  rw[if_neg g] at d;refine PR (Wz AU (λx e=>?_));rcases List.mem_cons.1 e with rfl | e
  ·exact i
  ·rw[List.mem_singleton.1 e]
   exact f.resolve_left g
theorem VU:∀(f:Nat) (b:B9),E5 b->Am b.net=false->Am (Jh f b).net=false
 | 0,_,_,h=>h
 | f+1,⟨n,i,kids⟩,d,h=>by
  rw[Jh];split
  ·rename_i g e
   simp only at e h;subst e;split
   ·have a:=LM d
    refine VU f _ a.1 ?_;exact tw h a.2.2 (a.2.1.resolve_left yDi)
   ·exact h
  ·exact h
theorem Up {a:B9}(hr:Lp a)(h:Am a.net=false):Am (Bo a).net=false:=by
 obtain⟨n,c,kids⟩:=a;have b:=(Qr _ _ _).1 hr;rw[Pg];simp only at h;refine VU _ _ ((Eg _ _ _).2 ⟨Ud b.1,λx e=>?_⟩) ?_
 ·obtain⟨y,d,rfl⟩:=List.mem_map.1 e
  exact Vb y (b.2 y d)
 ·show Am (U2 n)=false
  unfold U2;rw[if_neg yDi];exact PR (OU (b.1.resolve_left yDi))
theorem Vo (l:List B9):∀x∈Aq l,E5 x/\Am x.net=false:=by
 intro x a;unfold Aq at a;by_cases b:(Ah l).1=0
 ·rw[if_pos b] at a
  obtain⟨y,d,rfl⟩:=List.mem_map.1 a;have e:=(Kz b d).1;exact⟨Vb y e,Up e ((Ny b).2.2.2 y d).1⟩
 ·rw[if_neg b] at a;cases a
def Qu:B9->Prop
 | ⟨n,c,kids⟩=>Ht n/\(∀p∈kids.map Qu,p)/\∀a,kids=[a]->¬(c=[]\/Am a.net=true)
def Uh (n:B8)(c:List Elem)(kids:List B9):Qu ⟨n,c,kids⟩↔Ht n/\(∀x∈kids,Qu x)/\∀a,kids=[a]->¬(c=[]\/Am a.net=true):=by rw[Qu,all_map]
theorem wv {n:B8}(h:Ht n):U2 n=n:=by
 unfold U2;split
 ·rfl
 ·rename_i a
  exact LX (h.resolve_left a)
theorem sw (a:B9):Qu a->Bo a=a:=by
 refine Fq (λa=>Qu a->Bo a=a) ?_ a;intro n c kids g h;obtain⟨i,f,d⟩:=(Uh _ _ _).1 h;have e:kids.map Bo=kids:=by
  have:kids.map Bo=kids.map id:=JU λx b=>g x b (f x b)
  rw[this,List.map_id]
 rw[Pg,wv i,e];exact Uo _ d
def xf {l:List B9}(h:Iu l<=0):l=[]:=by
 have:=Oj l
 exact List.eq_nil_of_length_eq_zero AQ
theorem UI:∀(f:Nat) (b:B9),Iu b.kids<=f->Ht b.net->(∀x∈b.kids,Qu x)->Qu (Jh f b)
 | 0,⟨n,s,kids⟩,d,a,_=>by
  simp only at d a;obtain rfl:=xf d;rw[Jh];exact(Uh _ _ _).2 ⟨a,λx t=>(by cases t),λo e=>(by cases e)⟩
 | f+1,⟨n,s,kids⟩,d,a,g=>by
  simp only at d a g;rw[Jh];split
  ·rename_i o e
   simp only at e;subst e;split
   ·obtain⟨l,q,m⟩:=o
    have j:=(Uh _ _ _).1 (g ⟨l,q,m⟩ AU);have r:=Np ⟨l,q,m⟩;rw[PO] at d;simp only at r;exact UI f _ (by simp only;omega) (Xe a j.1) j.2.1
   ·rename_i i
    exact(Uh _ _ _).2 ⟨a,g,λk e=>by
     simp only[List.cons.injEq,FG] at e;subst e
     exact i⟩
  ·rename_i i
   exact(Uh _ _ _).2 ⟨a,g,λk e=>absurd e (i k)⟩
theorem UE (a:B9):Lp a->Qu (Bo a):=by
 refine Fq (λa=>Lp a->Qu (Bo a)) ?_ a;intro n c kids e h;have d:=(Qr _ _ _).1 h;rw[Pg];unfold joined;refine UI _ _ (CG _) (Ud d.1) λx f=>?_
 obtain⟨y,b,rfl⟩:=List.mem_map.1 f;exact e y b (d.2 y b)
def rN {a:B9}(h:Lp a):Bo (Bo a)=Bo a:=sw _ (UE a h)
def UN {n:B8}(h:Ht n):Am n=true\/Aj n=0:=h.imp id λh=>h.2.2
theorem Uy {a:B9}:Dc a=0↔(Am a.net=true\/Aj a.net=0)/\Dy a.coils=false/\¬(a.coils.length=0/\a.kids.length=0):=by
 have l:=La a.net;unfold Dc;constructor
 ·intro h
  have b:¬(Am a.net=false/\0<Aj a.net):=λd=>by rw[if_pos d] at h;omega
  rw[if_neg b] at h;cases d:Dy a.coils with
  | true=>rw[d,if_pos rfl] at h;omega
  | false=>
   rw[d,if_neg FV] at h;refine⟨?_,rfl,λe=>by rw[if_pos e] at h;omega⟩;cases i:Am a.net with
   | true=>exact .inl rfl
   | false=>
    have g:¬0<Aj a.net:=λx=>b ⟨i,x⟩
    exact .inr AQ
 ·rintro⟨b,e,j⟩
  have g:¬(Am a.net=false/\0<Aj a.net):=by
   rintro⟨f,m⟩;rcases b with h | h
   ·rw[h] at f;exact Bool.noConfusion f
   ·omega
  rw[if_neg g,e,if_neg FV,if_neg j]
def N7 {n:B8}{c:List Elem}{kids:List B9}:Cm ⟨n,c,kids⟩=0↔Dc ⟨n,c,kids⟩=0/\∀x∈kids,Cm x=0:=by
 have d:=Qs ⟨n,c,kids⟩;rw[Xv];constructor
 ·intro h
  have a:Dc ⟨n,c,kids⟩=0:=by split at h<;>omega
  rw[if_neg AQ] at h;exact⟨a,λx f=>Xm _ (λy hy=>by obtain⟨z,_,rfl⟩:=List.mem_map.1 hy;exact(Q7 z).1) h _ (List.mem_map.2 ⟨x,f,rfl⟩)⟩
 ·rintro⟨a,b⟩
  rw[if_neg AQ];simp only;clear a d;induction kids with
  | nil=>rfl
  | cons x r e=>
   rw[CQ,Az,b x AU,if_neg AQ];exact e (λy hy=>b y BN)
def pK (a b:List Elem):Dy (a++b)=(Dy a || Dy b):=by simp[Dy]
theorem UH:∀(f:Nat) (b:B9),E5 b->Cm b=0->Cm (Jh f b)=0
 | 0,_,_,h=>h
 | f+1,⟨n,t,kids⟩,r,h=>by
  rw[Jh];split
  ·rename_i q e
   simp only at e;subst e;split
   ·have a:=LM r
    refine UH f _ a.1 ?_;obtain⟨l,s,o⟩:=q;have i:=N7.1 h;have g:=N7.1 (i.2 ⟨l,s,o⟩ AU);obtain⟨_,j,_⟩:=Uy.1 i.1;obtain⟨_,d,m⟩:=Uy.1 g.1;simp only at j d m;refine N7.2 ⟨Uy.2 ⟨UN (Xe a.2.1 a.2.2),?_,?_⟩,g.2⟩
    ·simp only
     rw[pK,j,d];rfl
    ·simp only[CO]
     omega
   ·exact h
  ·exact h
theorem sZ (a:B9):Cm a=0->Cm (Bo a)=0:=by
 refine Fq (λa=>Cm a=0->Cm (Bo a)=0) ?_ a;intro n c kids j h;have d:=(Qr _ _ _).1 (WN _ h);obtain⟨l,i⟩:=N7.1 h;obtain⟨_,g,f⟩:=Uy.1 l;simp only at g f;rw[Pg];unfold joined;refine UH _ _ ((Eg _ _ _).2 ⟨Ud d.1,λx e=>?_⟩) (N7.2 ⟨Uy.2 ⟨UN (Ud d.1),g,by simpa using f⟩,λx e=>?_⟩)
 ·obtain⟨y,b,rfl⟩:=List.mem_map.1 e
  exact Vb y (d.2 y b)
 ·obtain⟨y,b,rfl⟩:=List.mem_map.1 e
  exact j y b (i y b)
theorem xp {l:List B9}(h1:l.length<=40)(b:Aw l<=400)(a:∀x∈l,D9 x=0):Ah l=(0,0):=by
 unfold Ah;rw[if_neg AQ];clear h1 b
 suffices ∀k,Dx l k=(0,0) from this 0
 induction l with
 | nil=>intro k;rfl
 | cons x r d=>
  intro k;rw[Dx,a x AU,if_neg AQ];exact d (λy hy=>a y BN) _
def yC {a:B9}(h1:Am a.net=false)(b:Cm a=0):D9 a=0:=by
 unfold D9;rw[h1,b];rfl
theorem rL {l:List B9}(o:∀x∈l,Dh x)(h:(Ah l).1=0):Ah (Aq l)=(0,0)/\Aw (Aq l)<=Aw l/\(Aq l).length=l.length/\Aq (Aq l)=Aq l/\∀x∈Aq l,Dh x:=by
 obtain⟨_,j,r,f⟩:=Ny h;have e:Aq l=l.map Bo:=by unfold Aq;rw[if_pos h]
 have g:=λx a=>Zo x (o x a) (by have:=(Kz h a).2;omega)
 have i:Aw (Aq l)<=Aw l:=by
  rw[e];unfold Aw;rw[EZ];exact ZS _ _ _ λx a=>(g x a).2
 have d:Ah (Aq l)=(0,0):=by
  refine xp (by rw[e,CW];exact j) AQ λx a=>?_
  rw[e] at a;obtain⟨y,b,rfl⟩:=List.mem_map.1 a;exact yC (Up (Kz h b).1 (f y b).1) (sZ y (f y b).2)
 refine⟨d,i,by rw[e,CW],?_,λx a=>?_⟩
 ·obtain⟨m,n⟩:=AA (Aq l)
  have q:Aq (Aq l)=(Aq l).map Bo:=by
   rw[<-n] at d ⊢;unfold Aq;rw[if_pos (by rw[d])]
  rw[q,e,EZ];exact JU λx a=>rN (Kz h a).1
 ·rw[e] at a
  obtain⟨y,b,rfl⟩:=List.mem_map.1 a;exact(g y b).1
end Stil
namespace Go.Proofs.YtmnnkedjoecehaaGreatDoor
open Go.RowKit Go.Sort Go.BigFrame
