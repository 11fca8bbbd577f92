import Derived.Test.YtifcnfeppdbjdaaGreatDoorGr
namespace Stil
variable {c:Nat}{k:Int}
def Xr:B9->Prop
 | ⟨k,_,kids⟩=>((k=2\/k=3)->kids.length≠1/\∀x∈kids,x.kind≠k)/\∀p∈kids.map Xr,p
theorem Zc (n:B9):Xr n↔((n.kind=2\/n.kind=3)->n.kids.length≠1/\∀x∈n.kids,x.kind≠n.kind)/\∀x∈n.kids,Xr x:=by
 obtain⟨k,e,kids⟩:=n;rw[Xr,all_map]
theorem vu (k:Int)(l:List B9)(h:∀x∈l,x.kind≠k):Cc k l=l:=by
 induction l with
 | nil=>rfl
 | cons x r b=>
  have e:x::r=[x]++r:=rfl;rw[e,Me,O8,if_neg (h x AU),b (λy a=>h y (CQ _ a))]
theorem rK (k:Int)(f:k=2\/k=3)(l:List B9)(h:∀x∈l,Xr x):∀x∈Cc k l,x.kind≠k/\Xr x:=by
 intro x a;obtain⟨y,b,a⟩:=List.mem_flatMap.1 a;have d:=(Zc y).1 (h y b);split at a
 ·rename_i e
  refine⟨?_,d.2 x a⟩;have:=(d.1 (by rw[e];exact f)).2 x a
  rwa [e] at this
 ·rename_i e
  rw[List.mem_singleton.1 a];exact⟨e,h y b⟩
theorem tZ (n:B9):Xr (Ap n):=by
 refine Gf (λn=>Xr (Ap n)) ?_ n;intro k e kids i;have d:∀x∈kids.map Ap,Xr x:=by
  intro x a;obtain⟨y,g,rfl⟩:=List.mem_map.1 a;exact i y g
 rw[Jq];split
 ·rename_i b
  have hF:=rK k b _ d;unfold Gj;split
  ·exact(hF _ (CN _)).2
  ·rename_i f
   rw[Zc];exact⟨λ_=>⟨f,λx a=>(hF x a).1⟩,λx a=>(hF x a).2⟩
 ·rename_i b
  rw[Zc];exact⟨λh=>absurd h b,d⟩
def Ui:B9->Prop
 | ⟨k,e,kids⟩=>((k=2\/k=3)->e=⟨0,[]⟩)/\∀p∈kids.map Ui,p
theorem Xf (n:B9):Ui n↔((n.kind=2\/n.kind=3)->n.one=⟨0,[]⟩)/\∀x∈n.kids,Ui x:=by
 obtain⟨k,e,kids⟩:=n;rw[Ui,all_map]
theorem sY (n:B9):Ui (Ap n):=by
 refine Gf (λn=>Ui (Ap n)) ?_ n;intro k e kids i;have d:∀x∈kids.map Ap,Ui x:=by
  intro x a;obtain⟨y,b,rfl⟩:=List.mem_map.1 a;exact i y b
 have hF:∀x∈Cc k (kids.map Ap),Ui x:=by
  intro x a;obtain⟨y,b,a⟩:=List.mem_flatMap.1 a;have g:=(Xf y).1 (d y b);split at a
  ·exact g.2 x a
  ·rw[List.mem_singleton.1 a];exact d y b
 rw[Jq];split
 ·unfold Gj
  split
  ·exact hF _ (CN _)
  ·rw[Xf]
   exact⟨λ_=>rfl,hF⟩
 ·rename_i f
  rw[Xf];exact⟨λh=>absurd h f,d⟩
theorem Ayw (n:B9):Xr n->Ui n->Ap n=n:=by
 refine Gf (λn=>Xr n->Ui n->Ap n=n) ?_ n;intro k e kids j g h;have a:=(Zc _).1 g;have b:=(Xf _).1 h;simp only at a b;have i:kids.map Ap=kids:=by
  have:kids.map Ap=kids.map id:=JL (λx f=>j x f (a.2 x f) (b.2 x f));rw[this,List.map_id]
 rw[Jq,i];split
 ·rename_i d
  rw[vu k kids (a.1 d).2];unfold Gj;rw[dif_neg (a.1 d).1,b.1 d]
 ·rfl
theorem ZG {ks:List B9}(l:k=2\/k=3)(i:0<ks.length)(h:∀x∈ks,Ai x=0):Ai ⟨k,⟨0,[]⟩,ks⟩=0:=by
 rw[Oq,if_neg AQ];have a:Xx k 0 0 ks.length=false:=by
  unfold Xx;have d:decide (k<2)=false:=by rw[FQ];omega
  have f:decide (4<k)=false:=by rw[FQ];omega
  have e:((ks.length:Int)==0)=false:=by rw[CS];omega
  have j:(k==4)=false:=by rw[CS];omega
  simp[d,f,e,j]
 rw[if_neg (by simp only[CO,a];exact FO)];clear i a;induction ks with
 | nil=>rfl
 | cons x r g=>
  rw[CP,Ar,if_neg (by rw[h x AU];omega)];exact g (λy b=>h y (CQ _ b))
theorem ye {n:B9}(h:Ai n=0)(a:n.kind=2\/n.kind=3):0<n.kids.length/\∀x∈n.kids,Ai x=0:=by
 obtain⟨k,e,kids⟩:=n;simp only at a ⊢;rcases H6 h with⟨d,_⟩ | ⟨_,f,b⟩ | ⟨d,_⟩
 ·omega
 ·exact⟨f,b⟩
 ·omega
theorem Avo (f:k=2\/k=3){l:List B9}(g:0<l.length)(h:∀x∈l,Ai x=0):0<(Cc k l).length/\∀x∈Cc k l,Ai x=0:=by
 have d:∀x∈l,0<(Cc k [x]).length/\∀y∈Cc k [x],Ai y=0:=by
  intro x b;rw[O8];split
  ·rename_i e
   exact ye (h x b) (by rw[e];exact f)
  ·exact⟨AU,λy a=>by rw[List.mem_singleton.1 a];exact h x b⟩
 refine⟨?_,λy a=>?_⟩
 ·obtain⟨x,r,rfl⟩:=MW (List.ne_nil_of_length_pos g)
  have e:x::r=[x]++r:=rfl;rw[e,Me,CM];have:=(d x AU).1
  omega
 ·obtain⟨x,b,a⟩:=List.mem_flatMap.1 a
  refine(d x b).2 y ?_;rw[O8];exact a
theorem vx (b:k=2\/k=3){l:List B9}(e:0<l.length)(h:∀x∈l,Ai x=0):Ai (Gj k (Cc k l))=0:=by
 obtain⟨d,a⟩:=Avo b e h;unfold Gj;split
 ·exact a _ (CN _)
 ·exact ZG b d a
theorem Aun (n:B9):Ai n=0->Ai (Ap n)=0:=by
 refine Gf (λn=>Ai n=0->Ai (Ap n)=0) ?_ n;intro k e kids f h;have j:=h;rw[Jq];rcases H6 h with⟨rfl,rfl⟩ | ⟨d,l,g⟩ | ⟨rfl,rfl,x,rfl,b⟩
 ·rw[if_neg AQ];exact j
 ·rw[if_pos d]
  refine vx d (by simpa using l) (λx b=>?_);obtain⟨y,a,rfl⟩:=List.mem_map.1 b;exact f y a (g y a)
 ·rw[if_neg AQ]
  have a:=f x AU b;rw[Oq,if_neg AQ];have i:Xx 4 (⟨0,[]⟩:Elem).op (⟨0,[]⟩:Elem).args.length ([x].map Ap).length=false:=Ao
  rw[if_neg (by rw[i];exact FO)];simp only[CP,C3,Ar];rw[if_neg AQ]
def fine (n:B9):Prop:=Xr n/\Ui n/\Ai n=0
theorem PD {n:B9}(h:Ai n=0):fine (Ap n):=⟨tZ n,sY n,Aun n h⟩
theorem LF {n:B9}(h:fine n):Ap n=n:=Ayw n h.1 h.2.1
def none0:B9:=⟨0,⟨0,[]⟩,[]⟩
theorem IZ {n:B9}(h:Am n=true):n=none0:=by
 obtain⟨k,⟨op,args⟩,kids⟩:=n;simp only[Am,Bool.and_eq_true,EC] at h;obtain⟨⟨⟨b,f⟩,a⟩,e⟩:=h;have d:=List.length_eq_zero_iff.1 a;have g:=List.length_eq_zero_iff.1 e;subst d g b f;rfl
theorem PO {n:B9}(h:fine n):Am n=false:=by
 cases d:Am n with
 | false=>rfl
 | true=>
  have e:=IZ d;have a:=h.2.2;rw[e] at a;unfold none0 at a;rcases H6 a with⟨b,_⟩ | ⟨b,_⟩ | ⟨b,_⟩<;>omega
def Lu (a b:B9):B9:=if Am a then b else if Am b then a else Gj 2 (Cc 2 [a,b])
theorem XD {l:List B9}(d:0<l.length)(h:∀x∈l,fine x):fine (Gj 2 (Cc 2 l)):=by
 have b:l.map Ap=l:=by
  have:l.map Ap=l.map id:=JL (λx a=>LF (h x a));rw[this,List.map_id]
 have e:Gj 2 (Cc 2 l)=Ap ⟨2,⟨0,[]⟩,l⟩:=by rw[Jq,if_pos (.inl rfl),b]
 rw[e];exact PD (ZG (.inl rfl) d (λx a=>(h x a).2.2))
def Iq (n:B9):Prop:=Am n=true\/fine n
theorem Wp {a b:B9}(e:Iq a)(f:Iq b):Iq (Lu a b):=by
 unfold Lu;split
 ·exact f
 ·rename_i g
  split
  ·exact e
  ·rename_i i
   refine .inr (XD AU (λx d=>?_));rcases List.mem_cons.1 d with rfl | d
   ·rcases e with h | h
    ·exact absurd h g
    ·exact h
   ·rw[List.mem_singleton.1 d]
    rcases f with h | h
    ·exact absurd h i
    ·exact h
def I5 (l:List B8):Nat:=(l.map Aj).sum
def Jo:Nat->B8->B8
 | 0,a=>a
 | f+1,a=>match a.kids with
  | [b]=>if a.coils=[]\/Am b.net=true then Jo f ⟨Lu a.net b.net,a.coils++b.coils,b.kids⟩ else a
  | _=>a
theorem Nh (a:B8):1+I5 a.kids<=Aj a:=by
 obtain⟨n,c,kids⟩:=a;rw[Tt];unfold I5;simp only;omega
theorem sn (f:Nat):∀a:B8,I5 a.kids<=f->Jo f a=Jo (f+1) a:=by
 induction f with
 | zero=>
  intro a h;rw[Jo];conv=>rhs;rw[Jo]
  split
  ·rename_i b e
   rw[e] at h;have:=Nh b
   simp[I5] at h;omega
  ·rfl
 | succ f d=>
  intro a h;rw[Jo];conv=>rhs;rw[Jo]
  split
  ·rename_i b e
   split
   ·refine d _ ?_
    rw[e] at h;have:=Nh b
    simp only[I5,CP,C3,DW,FH] at h this ⊢;omega
   ·rfl
  ·rfl
def joined (a:B8):B8:=Jo (I5 a.kids) a
theorem x6 (a:B8):∀f,I5 a.kids<=f->Jo f a=joined a:=by
 intro f h;obtain⟨d,rfl⟩:=Nat.exists_eq_add_of_le h;clear h;induction d with
 | zero=>rfl
 | succ d b=>rw[<-Nat.add_assoc,<-sn _ a AQ];exact b
theorem UL (n:B9)(c:List Elem)(a:B8)(h:c=[]\/Am a.net=true):joined ⟨n,c,[a]⟩=joined ⟨Lu n a.net,c++a.coils,a.kids⟩:=by
 have d:I5 [a]=Aj a:=by simp[I5]
 have e:=Nh a;unfold joined;simp only;rw[d];obtain⟨f,b⟩:∃f,Aj a=f+1:=⟨Aj a - 1,AQ⟩
 rw[b,Jo];simp only;rw[if_pos h];exact x6 _ f (by simp only;omega)
theorem Ue (a:B8)(h:∀b,a.kids=[b]->¬(a.coils=[]\/Am b.net=true)):joined a=a:=by
 unfold joined;cases d:I5 a.kids with
 | zero=>rfl
 | succ f=>
  rw[Jo];split
  ·rename_i b e
   rw[if_neg (h b e)]
  ·rfl
def Dt:B8->B8
 | ⟨n,a,kids⟩=>joined ⟨if Am n then n else Ap n,a,kids.map Dt⟩
theorem Aup (n:B9)(a:List Elem)(kids:List B8):Dt ⟨n,a,kids⟩=joined ⟨if Am n then n else Ap n,a,kids.map Dt⟩:=by rw[Dt]
theorem Avt:(⟨0,[]⟩:Elem).fits:=⟨by show i64 0;unfold i64;omega,AU,AU⟩
theorem YG {l:List B9}(h:∀x∈l,Dw x):∀x∈Cc k l,Dw x:=by
 intro x a;obtain⟨y,b,a⟩:=List.mem_flatMap.1 a;split at a
 ·exact(Dz (h y b)).2.2.2 x a
 ·rw[List.mem_singleton.1 a];exact h y b
theorem XC (a:i64 k){l:List B9}(h:∀x∈l,Dw x)(hl:l.length<=1048576):Dw (Gj k l):=by
 unfold Gj;split
 ·exact h _ (CN _)
 ·exact(Lc _ _ _).2 ⟨a,Avt,hl,h⟩
theorem uD {a b:B9}(e:Dw a)(f:Dw b)(l:Af a+Af b<=1000000):Dw (Lu a b):=by
 unfold Lu;split
 ·exact f
 ·split
  ·exact e
  ·refine XC yDh (YG (λx d=>?_)) ?_
   ·rcases List.mem_cons.1 d with rfl | d
    ·exact e
    ·rw[List.mem_singleton.1 d];exact f
   ·have i:=Js (Cc 2 [a,b])
    have j:=Ld 2 [a,b];have g:sizes [a,b]=Af a+Af b:=by simp[sizes]
    omega
def BK (n:B9):Nat:=if Am n then 0 else Af n
theorem SI (n:B9):BK n<=Af n:=by unfold BK;split<;>omega
theorem size_le (n:B9):Af n<=1+BK n:=by
 unfold BK;split
 ·rename_i h
  rw[IZ h];show Af ⟨0,⟨0,[]⟩,[]⟩<=_
  rw[Qa];simp
 ·omega
theorem tt (a b:B9):BK (Lu a b)<=BK a+BK b+1:=by
 unfold Lu;split
 ·omega
 ·rename_i d
  split
  ·omega
  ·rename_i e
   refine CJ (SI _) ?_;have f:=TR 2 (Cc 2 [a,b]);have j:=Ld 2 [a,b];have h:sizes [a,b]=Af a+Af b:=by simp[sizes]
   have g:BK a=Af a:=if_neg d;have i:BK b=Af b:=if_neg e;omega
theorem Ce (n:B9)(c:List Elem)(kids:List B8):Aj ⟨n,c,kids⟩=1+c.length+BK n+I5 kids:=by rw[Tt];rfl
def Zo (c:Nat)(b:B8):Prop:=Dh b/\Aj b<=c
theorem Og (l:List B8):l.length<=I5 l:=by
 unfold I5;induction l with
 | nil=>simp
 | cons x r a=>
  have:=Nh x
  simp only[CH,CP,DW];omega
theorem OW (k:B8):I5 [k]=Aj k:=by simp[I5]
theorem QY {n:B9}{cs:List Elem}{a:B8}(h:Zo c ⟨n,cs,[a]⟩)(q:c<=900000):Zo c ⟨Lu n a.net,cs++a.coils,a.kids⟩/\sizes [n,a.net]<=999999/\Dw n/\Dw a.net/\cs.length+a.coils.length<=1000000/\I5 a.kids<I5 [a]:=by
 obtain⟨i,g⟩:=h;rw[Ce,OW] at g;obtain⟨f,l,j⟩:=a;rw[Ce] at g;rw[OW,Ce];simp only;have d:=(F7 _ _ _).1 i;have e:=(F7 _ _ _).1 (d.2.2.2.2 ⟨f,l,j⟩ AU);have o:=size_le n;have r:=size_le f;have m:=tt n f;refine⟨⟨(F7 _ _ _).2 ⟨uD d.1 e.1 AQ,by rw[CM];omega,λx b=>?_,e.2.2.2⟩,?_⟩,by simp[sizes];omega,d.1,e.1,AQ,AQ⟩
 ·rcases List.mem_append.1 b with b | b
  ·exact d.2.2.1 x b
  ·exact e.2.2.1 x b
 ·rw[Ce,CM];omega
theorem V1 (a:c<=900000):∀(f:Nat) (b:B8),Zo c b->Zo c (Jo f b)
 | 0,b,h=>h
 | f+1,⟨n,g,kids⟩,h=>by
  rw[Jo];split
  ·rename_i d e
   simp only at e;subst e;split
   ·exact V1 a f _ (QY h a).1
   ·exact h
  ·exact h
theorem Azf (a:c<=900000)(b:B8)(h:Zo c b):Zo c (joined b):=V1 a _ b h
theorem Auo (n:B9):Dw n->Af n<=1000000->Dw (Ap n):=by
 refine Gf (λn=>Dw n->Af n<=1000000->Dw (Ap n)) ?_ n;intro k e kids f h m;rw[Jq];have a:=(Lc _ _ _).1 h;have g:sizes kids<Af ⟨k,e,kids⟩:=by rw[Eg];simp only;omega
 have b:∀x∈kids.map Ap,Dw x:=by
  intro x b;obtain⟨y,d,rfl⟩:=List.mem_map.1 b;have:Af y<=sizes kids:=D9 Af kids y d;exact f y d (a.2.2.2 y d) AQ
 split
 ·refine XC a.1 (YG b) ?_
  have i:=Js (Cc k (kids.map Ap));have l:=Ld k (kids.map Ap);have j:=Vi kids;omega
 ·exact(Lc _ _ _).2 ⟨a.1,a.2.1,by rw[CW];exact a.2.2.1,b⟩
def Us (n:B9):B9:=if Am n then n else Ap n
theorem Auv {n:B9}(h:Dw n)(a:BK n<=900000):Dw (Us n):=by
 unfold Us;split
 ·exact h
 ·exact Auo n h (by have:=size_le n;omega)
theorem Aut (n:B9):BK (Us n)<=BK n:=by
 unfold Us;split
 ·exact CG _
 ·rename_i h
  have e:BK n=Af n:=if_neg h;rw[e];exact CJ (SI _) (TY n)
theorem Oz (n:B9)(c:List Elem)(kids:List B8):Dt ⟨n,c,kids⟩=joined ⟨Us n,c,kids.map Dt⟩:=Aup n c kids
theorem QG {n:B9}{c:List Elem}{kids:List B8}(g:Dh ⟨n,c,kids⟩)(i:Aj ⟨n,c,kids⟩<=900000)(f:∀x∈kids,Zo (Aj x) (Dt x)):Zo (Aj ⟨n,c,kids⟩) ⟨Us n,c,kids.map Dt⟩:=by
 have d:=(F7 _ _ _).1 g;rw[Ce] at i ⊢;have m:=Aut n;have o:I5 (kids.map Dt)<=I5 kids:=by
  clear g i d;induction kids with
  | nil=>simp
  | cons x r l=>
   have a:=(f x AU).2;have b:=l (λy e=>f y (CQ _ e));simp only[I5,CP,DW] at b ⊢;omega
 refine⟨(F7 _ _ _).2 ⟨Auv d.1 AQ,d.2.1,d.2.2.1,by rw[CW];exact d.2.2.2.1,λx j=>?_⟩,by rw[Ce];omega⟩;obtain⟨y,e,rfl⟩:=List.mem_map.1 j;exact(f y e).1
theorem Y8 (a:B8):Dh a->Aj a<=900000->Zo (Aj a) (Dt a):=by
 refine Gl (λa=>Dh a->Aj a<=900000->Zo (Aj a) (Dt a)) ?_ a;intro n c kids g e d;rw[Oz];have f:=(F7 _ _ _).1 e;refine Azf d _ (QG e d (λx b=>g x b (f.2.2.2.2 x b) ?_));have:Aj x<=I5 kids:=D9 Aj kids x b;rw[Ce] at d;omega
def E8:B8->Prop
 | ⟨n,_,kids⟩=>Iq n/\∀p∈kids.map E8,p
theorem En (n:B9)(c:List Elem)(kids:List B8):E8 ⟨n,c,kids⟩↔Iq n/\∀x∈kids,E8 x:=by rw[E8,all_map]
theorem LO {n:B9}{cs:List Elem}{a:B8}(h:E8 ⟨n,cs,[a]⟩):E8 ⟨Lu n a.net,cs++a.coils,a.kids⟩/\Iq n/\Iq a.net:=by
 obtain⟨f,g,e⟩:=a;have b:=(En _ _ _).1 h;have d:=(En _ _ _).1 (b.2 ⟨f,g,e⟩ AU);exact⟨(En _ _ _).2 ⟨Wp b.1 d.1,d.2⟩,b.1,d.1⟩
theorem UB:∀(f:Nat) (b:B8),E8 b->E8 (Jo f b)
 | 0,b,h=>h
 | f+1,⟨n,d,kids⟩,h=>by
  rw[Jo];split
  ·rename_i a e
   simp only at e;subst e;split
   ·exact UB f _ (LO h).1
   ·exact h
  ·exact h
theorem vV (b:B8)(h:E8 b):E8 (joined b):=UB _ b h
theorem Tn {n:B9}(h:Am n=true\/Ai n=0):Iq (Us n):=by
 unfold Us;split
 ·rename_i a;exact .inl a
 ·rename_i a
  rcases h with h | h
  ·exact absurd h a
  ·exact .inr (PD h)
def Ll:B8->Prop
 | ⟨n,_,kids⟩=>(Am n=true\/Ai n=0)/\∀p∈kids.map Ll,p
theorem Qk (n:B9)(c:List Elem)(kids:List B8):Ll ⟨n,c,kids⟩↔(Am n=true\/Ai n=0)/\∀x∈kids,Ll x:=by rw[Ll,all_map]
theorem U2 (a:B8):Ll a->E8 (Dt a):=by
 refine Gl (λa=>Ll a->E8 (Dt a)) ?_ a;intro n c kids f h;have b:=(Qk _ _ _).1 h;rw[Oz];refine vV _ ((En _ _ _).2 ⟨Tn b.1,λx e=>?_⟩);obtain⟨y,d,rfl⟩:=List.mem_map.1 e;exact f y d (b.2 y d)
theorem VF (a:B8):Cf a=0->Ll a:=by
 refine Gl (λa=>Cf a=0->Ll a) ?_ a;intro n c kids g h;rw[Xg] at h;have b:Cj ⟨n,c,kids⟩=0:=by
  have:=Ql ⟨n,c,kids⟩
  split at h<;>omega
 rw[if_neg AQ] at h;refine(Qk _ _ _).2 ⟨?_,λx d=>g x d ?_⟩
 ·unfold Cj at b
  simp only at b;cases f:Am n with
  | true=>exact .inl rfl
  | false=>
   refine .inr ?_;have:=La n
   simp only[f] at b;split at b
   ·simp at*;omega
   ·simp at*;omega
 ·exact Wv _ (λy e=>by obtain⟨z,_,rfl⟩:=List.mem_map.1 e;exact(Qs z).1) h _ (List.mem_map.2 ⟨x,d,rfl⟩)
def Aq (l:List B8):List B8:=if(Aw l).1=0 then l.map Dt else []
theorem Z5:∀(l:List B8) (k:Nat),(Ep l k).1=0->(Ep l k).2=0/\∀x∈l,Fg x=0
 | [],_,_=>⟨rfl,λx b=>by cases b⟩
 | a::r,k,h=>by
  rw[Ep] at h ⊢;have g:=Ud a;by_cases d:0<Fg a
  ·rw[if_pos d] at h;simp only at h;omega
  ·rw[if_neg d] at h ⊢
   obtain⟨e,f⟩:=Z5 r (k+1) h;refine⟨e,λx b=>?_⟩;rcases List.mem_cons.1 b with rfl | b
   ·omega
   ·exact f x b
theorem Axy {a:B8}(h:Fg a=0):Am a.net=false/\Cf a=0:=by
 unfold Fg at h;cases b:Am a.net with
 | true=>rw[b] at h;simp at h
 | false=>rw[b] at h;exact⟨rfl,by simpa using h⟩
theorem Ns {l:List B8}(h:(Aw l).1=0):(Aw l).2=0/\l.length<=40/\Bz l<=400/\∀x∈l,Am x.net=false/\Cf x=0:=by
 unfold Aw at h ⊢;by_cases a:40<l.length\/400<Bz l
 ·rw[if_pos a] at h;simp at h
 ·rw[if_neg a] at h ⊢
  obtain⟨b,e⟩:=Z5 l 0 h;exact⟨b,AQ,AQ,λx d=>Axy (e x d)⟩
theorem Yh:∀(l:List B8) (k:Nat),0<=(Ep l k).1/\(Ep l k).1<=5
 | [],_=>by rw[Ep];simp
 | a::r,k=>by
  rw[Ep];have b:=Ud a;split
  ·exact b
  ·exact Yh r (k+1)
theorem Xd (l:List B8):0<=(Aw l).1/\(Aw l).1<=5:=by
 unfold Aw;split
 ·simp
 ·exact Yh l 0
theorem Uk {l:List B8}{x:B8}(hx:x∈l):Aj x<=Bz l:=D9 Aj l x hx
theorem Kz {l:List B8}(h:(Aw l).1=0){x:B8}(hx:x∈l):Ll x/\Aj x<=400:=by
 obtain⟨_,_,a,b⟩:=Ns h;exact⟨VF x (b x hx).2,CJ (Uk hx) a⟩
def Bo (b:Nat)(l:List Nat):Nat:=l.foldl max b
theorem VB (b:Nat)(l:List Nat)(x:Nat):Bo b (l++[x])=max (Bo b l) x:=by simp[Bo]
theorem Qd:∀(l:List Nat) (b c:Nat),Bo (max b c) l=max b (Bo c l)
 | [],_,_=>rfl
 | x::r,b,c=>by
  show Bo (max (max b c) x) r=max b (Bo (max c x) r)
  rw[Nat.max_assoc,Qd r]
theorem NV (l:List Nat)(b:Nat):Bo b l=max b (Bo 0 l):=by
 have:=Qd l b 0
 rwa [Nat.max_zero] at this
theorem OU:∀(l:List Nat) (b c:Nat),b<=c->(∀x∈l,x<=c)->Bo b l<=c
 | [],_,_,h,_=>h
 | x::r,b,c,h,a=>OU r (max b x) c (Nat.max_le.2 ⟨h,a x AU⟩) (λy d=>a y (CQ _ d))
theorem L9 {b:Nat}{l:List Nat}{j:Nat}(h:j<l.length):Bo b (l.take (j+1))=max (Bo b (l.take j)) l[j]:=by
 rw[D2 h,VB]
def Yq (n i x:Nat):Nat:=if i+1<n then x+1 else x
def bump (a:List Nat):List Nat:=a.mapIdx (λi x=>Yq a.length i x)
theorem KE (a:List Nat):(bump a).length=a.length:=by simp[bump]
theorem QF (a:List Nat)(i:Nat)(h:i<(bump a).length):(bump a)[i]=Yq a.length i (a[i]'(by rwa [KE] at h)):=by simp[bump]
theorem eZ (a:List Nat)(z:Nat):bump (a++[z])=a.map (·+1)++[z]:=by
 apply List.ext_getElem
 ·simp[bump]
 ·intro i b d
  rw[QF];unfold Yq;have e:i<a.length+1:=by simpa[KE] using b
  by_cases hi:i<a.length
  ·rw[if_pos (by rw[CM,ED];omega),eS hi,eS (by simpa using hi),EI]
  ·obtain rfl:i=a.length:=by omega
   rw[if_neg (by rw[CM,ED];omega)];simp
def forks:B8->Nat
 | ⟨_,_,kids⟩=>Bo 0 (bump (kids.map forks))
theorem Zg (n:B9)(c:List Elem)(kids:List B8):forks ⟨n,c,kids⟩=Bo 0 (bump (kids.map forks)):=by rw[forks]
theorem Az6 (n:B9)(c:List Elem):forks ⟨n,c,[]⟩=0:=by rw[Zg];rfl
theorem Avn (n:B9)(c:List Elem)(init:List B8)(z:B8):forks ⟨n,c,init++[z]⟩=Bo (forks z) (init.map (λk=>1+forks k)):=by
 rw[Zg,CU,GU,eZ,VB,NV _ (forks z),Nat.max_comm];congr 2;rw[FI];refine JL (λx _=>?_);show forks x+1=1+forks x
 omega
theorem ZV (a:B8):forks a<=Aj a:=by
 refine Gl (λa=>forks a<=Aj a) ?_ a;intro n c kids e;rw[Zg];refine OU _ _ _ (DI _) (λx d=>?_);obtain⟨i,hi,rfl⟩:=List.getElem_of_mem d;rw[QF];have b:i<kids.length:=by rw[KE,CW] at hi;exact hi
 rw[EI];have f:=e kids[i] (CN b);have g:Aj kids[i]<=I5 kids:=D9 Aj kids _ (CN b);rw[Ce];unfold Yq;split<;>omega
def KR (k:Int)(b:Nat):Nat:=if k=1 then 1 else 1+b
def ML (k:Int)(ks:List Int)(a:List Nat):Nat:=if k=1 then 1 else Bo (a.headD 0) ((List.zipWith KR ks a).drop 1)
def Bf:B9->Nat
 | ⟨k,_,kids⟩=>ML k (kids.map B9.kind) (kids.map Bf)
def Di (n:B9):Nat:=KR n.kind (Bf n)
theorem Yt (k:Int)(e:Elem)(kids:List B9):Bf ⟨k,e,kids⟩=ML k (kids.map B9.kind) (kids.map Bf):=by rw[Bf]
theorem Yr (e:Elem)(kids:List B9):Bf ⟨1,e,kids⟩=1:=by rw[Yt];rfl
theorem Qj (e:Elem)(x:B9)(r:List B9)(h:k≠1):Bf ⟨k,e,x::r⟩=Bo (Bf x) (r.map Di):=by
 rw[Yt];unfold ML;rw[if_neg h];simp only[CP,List.headD_cons,eT,List.drop_succ_cons,M5];congr 1;rw[List.zipWith_map,List.zipWith_self];rfl
theorem tH {n:B9}(h:Bf n<=c):Di n<=1+c:=by
 unfold Di KR;split<;>omega
theorem TS (n:B9):Bf n<=Af n:=by
 refine Gf (λn=>Bf n<=Af n) ?_ n;intro k e kids f;rw[Eg];simp only;by_cases b:k=1
 ·rw[b,Yr];omega
 ·cases kids with
  | nil=>
   rw[Yt];unfold ML;rw[if_neg b];simp[Bo]
  | cons x r=>
   rw[Qj e x r b];have d:∀y∈x::r,Af y<=sizes (x::r):=λy a=>D9 Af _ y a
   refine OU _ _ _ (CJ (f x AU) (by have:=d x AU;omega)) (λz g=>?_);obtain⟨y,a,rfl⟩:=List.mem_map.1 g;have i:=tH (f y (CQ _ a));have j:=d y (CQ _ a);omega
def Ci (n:B9):List B9:=if Am n then [] else if n.kind=2 then n.kids else [n]
def Ha (n:B9)(t:Nat):Nat:=Bo t ((Ci n).map Di)
def C9:B8->Nat
 | ⟨_,_,kids⟩=>Bo 1 (List.zipWith Ha (kids.map B8.net) (kids.map C9))
theorem Wl (n:B9)(c:List Elem)(kids:List B8):C9 ⟨n,c,kids⟩=Bo 1 (kids.map (λk=>Ha k.net (C9 k))):=by
 rw[C9,List.zipWith_map,List.zipWith_self]
theorem LS (n:B9):∀x∈Ci n,Af x<=BK n:=by
 intro x a;unfold Ci at a;split at a
 ·cases a
 ·rename_i h
  have e:BK n=Af n:=if_neg h;rw[e];split at a
  ·rw[Eg n]
   have:Af x<=sizes n.kids:=D9 Af _ x a;omega
  ·rw[List.mem_singleton.1 a];exact CG _
def Jh (a:B8):Nat:=max (Bf a.net) (C9 a)
def Jm (l:List B8):Nat:=Bo 0 ((Aq l).map Jh)
def Hz (l:List B8):Nat:=Bo 0 ((Aq l).map forks)
def Ve:B9->Prop
 | ⟨k,_,kids⟩=>(k≠1->kids≠[])/\∀p∈kids.map Ve,p
theorem Zf (k:Int)(e:Elem)(kids:List B9):Ve ⟨k,e,kids⟩↔(k≠1->kids≠[])/\∀x∈kids,Ve x:=by rw[Ve,all_map]
theorem full_of (n:B9):Ai n=0->Ve n:=by
 refine Gf (λn=>Ai n=0->Ve n) ?_ n;intro k e kids f h;rw[Zf];rcases H6 h with⟨rfl,rfl⟩ | ⟨_,d,g⟩ | ⟨_,_,x,rfl,a⟩
 ·exact⟨λh=>absurd rfl h,(λx a=>by cases a)⟩
 ·exact⟨(λ_ b=>by rw[b] at d;simp at d),λx a=>f x a (g x a)⟩
 ·exact⟨(λ_ b=>by cases b),λy i=>by rw[List.mem_singleton.1 i];exact f x AU a⟩
theorem Pj {n:B9}(h:Ai n=0):∀x∈n.kids,Ai x=0:=by
 obtain⟨k,e,kids⟩:=n;rcases H6 h with⟨_,rfl⟩ | ⟨_,_,b⟩ | ⟨_,_,x,rfl,a⟩
 ·intro x a;cases a
 ·exact b
 ·intro y d;rw[List.mem_singleton.1 d];exact a
theorem VC {n:B9}(h:Iq n):∀x∈Ci n,Ve x:=by
 intro x a;unfold Ci at a;split at a
 ·cases a
 ·rename_i d
  have b:=h.resolve_left d;split at a
  ·exact full_of x (Pj b.2.2 x a)
  ·rw[List.mem_singleton.1 a];exact full_of n b.2.2
theorem ej {n:B9}(h:fine n):1<=n.kind/\n.kind<=4:=by
 obtain⟨k,e,kids⟩:=n;rcases H6 h.2.2 with⟨a,_⟩ | ⟨a,_⟩ | ⟨a,_⟩<;>(simp only;omega)
theorem tw {a b:B9}(h:Am a=false)(g:Iq b)(f:fine a):Am (Lu a b)=false:=by
 have e:=Wp (.inr f) g;unfold Lu at e ⊢;rw[if_neg yDj] at e ⊢;split
 ·exact h
 ·rename_i i
  rw[if_neg i] at e;refine PO (XD AU (λx d=>?_));rcases List.mem_cons.1 d with rfl | d
  ·exact f
  ·rw[List.mem_singleton.1 d]
   exact g.resolve_left i
theorem UM:∀(f:Nat) (b:B8),E8 b->Am b.net=false->Am (Jo f b).net=false
 | 0,_,_,h=>h
 | f+1,⟨n,i,kids⟩,d,h=>by
  rw[Jo];split
  ·rename_i g e
   simp only at e h;subst e;split
   ·have a:=LO d
    refine UM f _ a.1 ?_;exact tw h a.2.2 (a.2.1.resolve_left yDj)
   ·exact h
  ·exact h
theorem UZ {a:B8}(hr:Ll a)(h:Am a.net=false):Am (Dt a).net=false:=by
 obtain⟨n,c,kids⟩:=a;have b:=(Qk _ _ _).1 hr;rw[Oz];simp only at h;refine UM _ _ ((En _ _ _).2 ⟨Tn b.1,λx e=>?_⟩) ?_
 ·obtain⟨y,d,rfl⟩:=List.mem_map.1 e
  exact U2 y (b.2 y d)
 ·show Am (Us n)=false
  unfold Us;rw[if_neg yDj];exact PO (PD (b.1.resolve_left yDj))
theorem Vb (l:List B8):∀x∈Aq l,E8 x/\Am x.net=false:=by
 intro x a;unfold Aq at a;by_cases b:(Aw l).1=0
 ·rw[if_pos b] at a
  obtain⟨y,d,rfl⟩:=List.mem_map.1 a;have e:=(Kz b d).1;exact⟨U2 y e,UZ e ((Ns b).2.2.2 y d).1⟩
 ·rw[if_neg b] at a;cases a
def Qm:B8->Prop
 | ⟨n,c,kids⟩=>Iq n/\(∀p∈kids.map Qm,p)/\∀a,kids=[a]->¬(c=[]\/Am a.net=true)
theorem Tu (n:B9)(c:List Elem)(kids:List B8):Qm ⟨n,c,kids⟩↔Iq n/\(∀x∈kids,Qm x)/\∀a,kids=[a]->¬(c=[]\/Am a.net=true):=by rw[Qm,all_map]
theorem Auu {n:B9}(h:Iq n):Us n=n:=by
 unfold Us;split
 ·rfl
 ·rename_i a
  exact LF (h.resolve_left a)
theorem tR (a:B8):Qm a->Dt a=a:=by
 refine Gl (λa=>Qm a->Dt a=a) ?_ a;intro n c kids i h;obtain⟨d,f,e⟩:=(Tu _ _ _).1 h;have g:kids.map Dt=kids:=by
  have:kids.map Dt=kids.map id:=JL λx b=>i x b (f x b)
  rw[this,List.map_id]
 rw[Oz,Auu d,g];exact Ue _ e
theorem xw {l:List B8}(h:I5 l<=0):l=[]:=by
 have:=Og l
 exact List.eq_nil_of_length_eq_zero AQ
theorem UA:∀(f:Nat) (b:B8),I5 b.kids<=f->Iq b.net->(∀x∈b.kids,Qm x)->Qm (Jo f b)
 | 0,⟨n,r,kids⟩,d,a,_=>by
  simp only at d a;obtain rfl:=xw d;rw[Jo];exact(Tu _ _ _).2 ⟨a,λx s=>(by cases s),λj e=>(by cases e)⟩
 | f+1,⟨n,r,kids⟩,d,a,g=>by
  simp only at d a g;rw[Jo];split
  ·rename_i j e
   simp only at e;subst e;split
   ·obtain⟨o,l,m⟩:=j
    have q:=(Tu _ _ _).1 (g ⟨o,l,m⟩ AU);have t:=Nh ⟨o,l,m⟩;rw[OW] at d;simp only at t;exact UA f _ (by simp only;omega) (Wp a q.1) q.2.1
   ·rename_i i
    exact(Tu _ _ _).2 ⟨a,g,λk e=>by
     simp only[List.cons.injEq,E0] at e;subst e
     exact i⟩
  ·rename_i i
   exact(Tu _ _ _).2 ⟨a,g,λk e=>absurd e (i k)⟩
theorem Ta (a:B8):Ll a->Qm (Dt a):=by
 refine Gl (λa=>Ll a->Qm (Dt a)) ?_ a;intro n c kids f h;have b:=(Qk _ _ _).1 h;rw[Oz];unfold joined;refine UA _ _ (CG _) (Tn b.1) λx e=>?_
 obtain⟨y,d,rfl⟩:=List.mem_map.1 e;exact f y d (b.2 y d)
theorem qq {a:B8}(h:Ll a):Dt (Dt a)=Dt a:=tR _ (Ta a h)
theorem UE {n:B9}(h:Iq n):Am n=true\/Ai n=0:=h.imp id λh=>h.2.2
theorem Um {a:B8}:Cj a=0↔(Am a.net=true\/Ai a.net=0)/\Dv a.coils=false/\¬(a.coils.length=0/\a.kids.length=0):=by
 have l:=La a.net;unfold Cj;constructor
 ·intro h
  have b:¬(Am a.net=false/\0<Ai a.net):=λd=>by rw[if_pos d] at h;omega
  rw[if_neg b] at h;cases d:Dv a.coils with
  | true=>rw[d,if_pos rfl] at h;omega
  | false=>
   rw[d,if_neg FO] at h;refine⟨?_,rfl,λe=>by rw[if_pos e] at h;omega⟩;cases j:Am a.net with
   | true=>exact .inl rfl
   | false=>
    have g:¬0<Ai a.net:=λx=>b ⟨j,x⟩
    exact .inr AQ
 ·rintro⟨b,e,i⟩
  have g:¬(Am a.net=false/\0<Ai a.net):=by
   rintro⟨f,m⟩;rcases b with h | h
   ·rw[h] at f;exact Bool.noConfusion f
   ·omega
  rw[if_neg g,e,if_neg FO,if_neg i]
theorem Nv {n:B9}{c:List Elem}{kids:List B8}:Cf ⟨n,c,kids⟩=0↔Cj ⟨n,c,kids⟩=0/\∀x∈kids,Cf x=0:=by
 have d:=Ql ⟨n,c,kids⟩;rw[Xg];constructor
 ·intro h
  have a:Cj ⟨n,c,kids⟩=0:=by split at h<;>omega
  rw[if_neg AQ] at h;exact⟨a,λx e=>Wv _ (λy hy=>by obtain⟨z,_,rfl⟩:=List.mem_map.1 hy;exact(Qs z).1) h _ (List.mem_map.2 ⟨x,e,rfl⟩)⟩
 ·rintro⟨a,b⟩
  rw[if_neg AQ];simp only;clear a d;induction kids with
  | nil=>rfl
  | cons x r f=>
   rw[CP,Ar,b x AU,if_neg AQ];exact f (λy hy=>b y Bt)
theorem pK (a b:List Elem):Dv (a++b)=(Dv a || Dv b):=by simp[Dv]
theorem T9:∀(f:Nat) (b:B8),E8 b->Cf b=0->Cf (Jo f b)=0
 | 0,_,_,h=>h
 | f+1,⟨n,t,kids⟩,l,h=>by
  rw[Jo];split
  ·rename_i m e
   simp only at e;subst e;split
   ·have a:=LO l
    refine T9 f _ a.1 ?_;obtain⟨r,o,q⟩:=m;have i:=Nv.1 h;have j:=Nv.1 (i.2 ⟨r,o,q⟩ AU);obtain⟨_,d,_⟩:=Um.1 i.1;obtain⟨_,g,s⟩:=Um.1 j.1;simp only at d g s;refine Nv.2 ⟨Um.2 ⟨UE (Wp a.2.1 a.2.2),?_,?_⟩,j.2⟩
    ·simp only
     rw[pK,d,g];rfl
    ·simp only[CM]
     omega
   ·exact h
  ·exact h
theorem sZ (a:B8):Cf a=0->Cf (Dt a)=0:=by
 refine Gl (λa=>Cf a=0->Cf (Dt a)=0) ?_ a;intro n c kids l h;have e:=(Qk _ _ _).1 (VF _ h);obtain⟨i,j⟩:=Nv.1 h;obtain⟨_,f,g⟩:=Um.1 i;simp only at f g;rw[Oz];unfold joined;refine T9 _ _ ((En _ _ _).2 ⟨Tn e.1,λx d=>?_⟩) (Nv.2 ⟨Um.2 ⟨UE (Tn e.1),f,by simpa using g⟩,λx d=>?_⟩)
 ·obtain⟨y,b,rfl⟩:=List.mem_map.1 d
  exact U2 y (e.2 y b)
 ·obtain⟨y,b,rfl⟩:=List.mem_map.1 d
  exact l y b (j y b)
theorem wj {l:List B8}(h1:l.length<=40)(b:Bz l<=400)(a:∀x∈l,Fg x=0):Aw l=(0,0):=by
 unfold Aw;rw[if_neg AQ];clear h1 b
 suffices ∀k,Ep l k=(0,0) from this 0
 induction l with
 | nil=>intro k;rfl
 | cons x r d=>
  intro k;rw[Ep,a x AU,if_neg AQ];exact d (λy hy=>a y Bt) _
theorem wm {a:B8}(h1:Am a.net=false)(b:Cf a=0):Fg a=0:=by
 unfold Fg;rw[h1,b];rfl
theorem qn {l:List B8}(i:∀x∈l,Dh x)(h:(Aw l).1=0):Aw (Aq l)=(0,0)/\Bz (Aq l)<=Bz l/\(Aq l).length=l.length/\Aq (Aq l)=Aq l/\∀x∈Aq l,Dh x:=by
 obtain⟨_,j,r,f⟩:=Ns h;have e:Aq l=l.map Dt:=by unfold Aq;rw[if_pos h]
 have g:=λx a=>Y8 x (i x a) (by have:=(Kz h a).2;omega)
 have q:Bz (Aq l)<=Bz l:=by
  rw[e];unfold Bz;rw[FI];exact YV _ _ _ λx a=>(g x a).2
 have d:Aw (Aq l)=(0,0):=by
  refine wj (by rw[e,CW];exact j) AQ λx a=>?_
  rw[e] at a;obtain⟨y,b,rfl⟩:=List.mem_map.1 a;exact wm (UZ (Kz h b).1 (f y b).1) (sZ y (f y b).2)
 refine⟨d,q,by rw[e,CW],?_,λx a=>?_⟩
 ·obtain⟨m,o⟩:=AA (Aq l)
  have n:Aq (Aq l)=(Aq l).map Dt:=by
   rw[<-o] at d ⊢;unfold Aq;rw[if_pos (by rw[d])]
  rw[n,e,FI];exact JL λx a=>qq (Kz h a).1
 ·rw[e] at a
  obtain⟨y,b,rfl⟩:=List.mem_map.1 a;exact(g y b).1
end Stil
namespace Go.Proofs.YtifcnfeppdbjdaaGreatDoor
open Go.RowKit Go.Sort Go.BigFrame
