import Derived.Test.YthdogflpbpkbeaaGreatDoorHid0
set_option linter.defProp false
namespace Stil
variable {c:Nat}{k:Int}
structure Ar where
 code:Int
 O:Elem
 abbrev _root_.AP:=List Ar
def Ar.fits(i:Ar):Prop:=i64 i.code/\i.O.fits
def listWords:List (List UInt8):=[[],[108,100],[97,110,100],[111,114],[97,110,98],[111,114,98],[105,110,118],[109,112,115],[109,114,100],[109,112,112],[99,111,105,108],[101,110,100]]
def rI(e:Elem):Bool:=e.op==0 && e.args.length==0
def Jz(i:Ar):Bool:=if i.code<1\/11<i.code then false else if i.code<=3 then Df i.O.op i.O.args else if i.code=10 then Gi i.O.op i.O.args else rI i.O
structure Pt where
 bits:Int
 forks:Int
 seen:Bool
 coil:Bool
def pt0:Pt:=⟨0,0,false,false⟩
def needs(c:Int):Int:=if c=1 then 0 else if c=4\/c=5 then 2 else 1
def low(c:Int):Int:=if c=5 then 2 else 1
def wrong(s:Pt)(i:Ar):Int:=
 if Jz i=false then 2
 else if s.bits<needs i.code then 3
 else if i.code=1/\s.bits=16 then 4
 else if 7<=i.code/\1<s.bits then 5
 else if s.seen=true/\s.bits=low i.code/\(i.code=3\/i.code=6\/i.code=5) then 6
 else if i.code=7/\s.forks=8 then 7
 else if(i.code=8\/i.code=9)/\s.forks=0 then 7
 else if i.code=11/\0<s.forks then 7
 else if(i.code=8\/i.code=9\/i.code=11)/\s.coil=false then 8
 else 0
def next(s:Pt)(c:Int):Pt:=
 if c=11 then pt0
 else⟨if c=1 then s.bits+1 else if c=4\/c=5 then s.bits - 1 else s.bits,if c=7 then s.forks+1 else if c=9 then s.forks - 1 else s.forks,s.seen || c==10 || c==7,c==10⟩
def Gf:Pt->Nat->AP->Int × Nat
 |s,k,[]=>if 0<s.bits then(9,k) else(0,0)
 |s,k,i::r=>if 0<wrong s i then(wrong s i,k) else Gf (next s i.code) (k+1) r
def Az(l:AP):Int × Nat:=if 1000<l.length then(1,0) else Gf pt0 0 l
def VU(l:AP)(s:Pt)(j:Nat)(h:j<l.length):Gf s j (l.drop j)=if 0<wrong s l[j] then(wrong s l[j],j) else Gf (next s l[j].code) (j+1) (l.drop (j+1)):=by rw[GL h];rfl
def WN(l:AP)(s:Pt)(j:Nat)(h:l.length<=j):Gf s j (l.drop j)=if 0<s.bits then(9,j) else(0,0):=by rw[IU h];rfl
def Pt.good(s:Pt):Prop:=0<=s.bits/\s.bits<=16/\0<=s.forks/\s.forks<=8/\(s.bits=0->s=pt0)
def J2:pt0.good:=⟨BX,BX,BX,BX,λ_=>rfl⟩
def Om(s:Pt)(i:Ar):0<=wrong s i/\wrong s i<=8:=by
 unfold wrong;repeat' split
 all_goals omega
theorem U5{i:Ar}(h:Jz i=true):1<=i.code/\i.code<=11:=by
 unfold Jz at h;split at h
 .cases h
 omega
theorem Iu{s:Pt}{i:Ar}(h:wrong s i=0):Jz i=true/\needs i.code<=s.bits/\¬(i.code=1/\s.bits=16)/\¬(7<=i.code/\1<s.bits)/\¬(s.seen=true/\s.bits=low i.code/\(i.code=3\/i.code=6\/i.code=5))/\
  ¬(i.code=7/\s.forks=8)/\¬((i.code=8\/i.code=9)/\s.forks=0)/\¬(i.code=11/\0<s.forks)/\¬((i.code=8\/i.code=9\/i.code=11)/\s.coil=false):=by
 unfold wrong at h;split at h
 .omega
 rename_i j;split at h
 .omega
 rename_i m;split at h
 .omega
 rename_i b;split at h
 .omega
 rename_i e;split at h
 .omega
 rename_i a;split at h
 .omega
 rename_i g;split at h
 .omega
 rename_i f;split at h
 .omega
 rename_i l;split at h
 .omega
 rename_i d;exact⟨xCn,BS,b,e,a,g,f,l,d⟩
theorem Vu{s:Pt}{i:Ar}(g:s.good)(h:wrong s i=0):(next s i.code).good:=by
 have⟨o,f,q,u,_,r,v,_,_⟩:=Iu h;obtain⟨a,b,c,d,e⟩:=g;have t:=U5 o;unfold next
 by_cases l:i.code=11
 .rw[BR l];exact J2
 rw[BQ l];unfold needs at f;refine⟨?_,?_,?_,?_,?_⟩
 .show 0<=(if i.code=1 then s.bits+1 else if i.code=4\/i.code=5 then s.bits - 1 else s.bits);split;{omega};split<;>omega
 .show(if i.code=1 then s.bits+1 else if i.code=4\/i.code=5 then s.bits - 1 else s.bits)<=16;split;{omega};split<;>omega
 .show 0<=(if i.code=7 then s.forks+1 else if i.code=9 then s.forks - 1 else s.forks);split;{omega};split<;>omega
 .show(if i.code=7 then s.forks+1 else if i.code=9 then s.forks - 1 else s.forks)<=8;split;{omega};split<;>omega
 intro p;exfalso;have j:(if i.code=1 then s.bits+1 else if i.code=4\/i.code=5 then s.bits - 1 else s.bits)=0:=p;by_cases n:i.code=1
 .rw[BR n]at j;clear f;omega
 rw[BQ n]at j f;by_cases m:i.code=4\/i.code=5
 .rw[BR m]at j f;omega
 rw[BQ m]at j f;omega
def rule(k:Nat)(s:Pt)(i:Ar):Bool:=
 match k with
 |0=>!Jz i
 |1=>decide (s.bits<needs i.code)
 |2=>decide (i.code=1) && decide (s.bits=16)
 |3=>if i.code=7\/i.code=8\/i.code=9\/i.code=10\/i.code=11 then decide (1<s.bits) else false
 |4=>if i.code=3\/i.code=6 then s.seen && decide (s.bits=1) else if i.code=5 then s.seen && decide (s.bits=2) else false
 |5=>if i.code=7 then decide (s.forks=8) else if i.code=8\/i.code=9 then decide (s.forks=0) else if i.code=11 then decide (s.forks≠0) else false
 |_=>if i.code=8\/i.code=9\/i.code=11 then !s.coil else false
theorem Wa{s:Pt}(i:Ar)(_g0:0<=s.bits)(g:0<=s.forks):
  wrong s i=if rule 0 s i then 2 else if rule 1 s i then 3 else if rule 2 s i then 4 else if rule 3 s i then 5 else if rule 4 s i then 6 else if rule 5 s i then 7 else if rule 6 s i then 8 else 0:=by
 cases a:Jz i with
 |true=>
  have d:=U5 a;have b:i.code=1\/i.code=2\/i.code=3\/i.code=4\/i.code=5\/i.code=6\/i.code=7\/i.code=8\/i.code=9\/i.code=10\/i.code=11:=BS;rcases b with h|h|h|h|h|h|h|h|h|h|h;all_goals simp[wrong,rule,needs,low,a,h]
  all_goals grind
 |false=>simp[wrong,rule,a]
def behind(s:Pt)(c:Int):Pt:=⟨if c=1 then s.bits+1 else if c=4\/c=5\/c=11 then s.bits - 1 else s.bits,if c=7 then s.forks+1 else if c=9 then s.forks - 1 else s.forks,decide (c≠11) && (s.seen || c==10 || c==7),c==10⟩
theorem behind_next{s:Pt}{i:Ar}(g:s.good)(h:wrong s i=0):behind s i.code=next s i.code:=by
 have⟨m,n,_,r,_,_,_,o,_⟩:=Iu h;obtain⟨a,b,c,d,e⟩:=g;have q:=U5 m;unfold next behind
 by_cases f:i.code=11
 .rw[BR f];have l:s.bits=1:=by have:needs i.code=1:=(by rw[f];rfl);omega
  have j:s.forks=0:=BS;simp[f,l,j,pt0]
 rw[BQ f];simp[f]
def i7{s:Pt}(g:s.good):(s=pt0)↔s.bits<=0:=by
 constructor
 .rintro rfl;decide
 intro h;exact g.2.2.2.2 (by have:=g.1;omega)
theorem vr{s:Pt}{i:Ar}(g:s.good)(k:Nat)(e:k<7)(a:∀q,q<k->rule q s i=false)(b:rule k s i=true):wrong s i=(k+2:Nat):=by
 rw[Wa i g.1 g.2.2.1];have d:k=0\/k=1\/k=2\/k=3\/k=4\/k=5\/k=6:=BS;rcases d with rfl|rfl|rfl|rfl|rfl|rfl|rfl
 .simp[b]
 .simp[a 0 BS,b]
 .simp[a 0 BS,a 1 BS,b]
 .simp[a 0 BS,a 1 BS,a 2 BS,b]
 .simp[a 0 BS,a 1 BS,a 2 BS,a 3 BS,b]
 .simp[a 0 BS,a 1 BS,a 2 BS,a 3 BS,a 4 BS,b]
 simp[a 0 BS,a 1 BS,a 2 BS,a 3 BS,a 4 BS,a 5 BS,b]
def Atx{s:Pt}{i:Ar}(g:s.good)(a:∀q,q<7->rule q s i=false):wrong s i=0:=by rw[Wa i g.1 g.2.2.1];simp[a 0 BS,a 1 BS,a 2 BS,a 3 BS,a 4 BS,a 5 BS,a 6 BS]
theorem tC(l:AP):∀(s:Pt)(k:Nat),¬0<(Gf s k l).1->(Gf s k l).1=0/\(Gf s k l).2=0:=by induction l with|nil=>intro s k h;unfold Gf at h⊢;by_cases a:0<s.bits;{rw[BR a]at h;exact absurd (show(0:Int)<9 by decide) h};rw[BQ a];exact⟨rfl,rfl⟩|cons i r b=>intro s k h;unfold Gf at h⊢;by_cases a:0<wrong s i;{rw[BR a]at h;exact absurd a h};rw[BQ a]at h⊢;exact b _ _ h
theorem N7(l:AP)(h:¬0<(Az l).1):(Az l).1=0/\(Az l).2=0:=by
 unfold Az at h⊢;by_cases a:1000<l.l
 .rw[BR a]at h;exact absurd (show(0:Int)<1 by decide) h
 rw[BQ a]at h⊢;exact tC l _ _ h
def Dp:AP->AP->List (AP)
 |_,[]=>[]
 |cs,i::r=>if i.code=11 then(cs++[i])::Dp [] r else Dp (cs++[i]) r
def s7(cs l:AP)(j:Nat)(h:j<l.length):Dp cs (l.drop j)=if l[j].code=11 then(cs++[l[j]])::Dp [] (l.drop (j+1)) else Dp (cs++[l[j]]) (l.drop (j+1)):=by rw[GL h];rfl
def Ej(l:AP):List (AP):=if 0<(Az l).1 then [] else Dp [] l
theorem Wx{l:AP}(h:(Az l).1=0):l.length<=1000:=by
 unfold Az at h;by_cases a:1000<l.length
 .rw[BR a]at h;exact absurd h BX
 omega
theorem VZ(l:AP):∀(b r:AP),r∈Dp b l->0<r.length/\(∀x∈r,x∈b\/x∈l)/\r.length<=b.length+l.length:=by induction l with|nil=>intro b r h;simp[Dp]at h|cons i t j=>intro b r h;rw[Dp]at h;by_cases g:i.code=11;{rw[BR g]at h;rcases BD.1 h with rfl|h;{refine⟨BU,λx a=>?_,BU⟩;rcases BI.1 a with a|a;{exact .inl a};exact .inr (by simp[BB.1 a])};have⟨d,e,f⟩:=j [] r h;refine⟨d,λx a=>?_,by simp at f⊢;omega⟩;rcases e x a with h|h;{cases h};exact .inr (Da _ h)};rw[BQ g]at h;have⟨d,e,f⟩:=j (b++[i]) r h;refine⟨d,λx a=>?_,by simp at f⊢;omega⟩;rcases e x a with h|h;{rcases BI.1 h with h|h;{exact .inl h};exact .inr (by simp[BB.1 h])};exact .inr (Da _ h)
def tQ(l:AP):∀a:AP,(Dp a l).length<=l.length:=by induction l with|nil=>intro a;simp[Dp]|cons i t b=>intro a;rw[Dp];split;{have:=b [];simp;omega};have:=b (a++[i]);simp;omega
def Dw(k:Int)(l:Ξ):Ξ:=l.flatMap λn=>if n.kind=k then n.K else [n]
def Jo(k:Int)(ks:Ξ):DK:=if h:ks.length=1 then ks[0] else⟨k,⟨0,[]⟩,ks⟩
def Ce:DK->DK
 |⟨k,e,kids⟩=>if k=2\/k=3 then Jo k (Dw k (kids.map Ce)) else⟨k,e,kids.map Ce⟩
def Jy(k:Int)(e:Elem)(kids:Ξ):Ce ⟨k,e,kids⟩=if k=2\/k=3 then Jo k (Dw k (kids.map Ce)) else⟨k,e,kids.map Ce⟩:=by rw[Ce]
def Na(k:Int)(a b:Ξ):Dw k (a++b)=Dw k a++Dw k b:=by simp[Dw]
def O8(k:Int)(n:DK):Dw k [n]=if n.kind=k then n.K else [n]:=by simp[Dw]
def sizes(l:Ξ):Nat:=(l.map Ad).sum
def Ov(a b:Ξ):sizes (a++b)=sizes a+sizes b:=xCg
theorem Dn(n:DK):Ad n=1+sizes n.K:=by obtain⟨k,e,kids⟩:=n;exact Qg k e kids
def Gg(l:Ξ):l.length<=sizes l:=by induction l with|nil=>simp[sizes]|cons x r a=>have:=Dn x;simp only[sizes,DZ,FO,DT]at a⊢;omega
def Lh(k:Int)(l:Ξ):sizes (Dw k l)<=sizes l:=by
 induction l with
 |nil=>simp[Dw,sizes]
 |cons x r a=>
  have e:x::r=[x]++r:=rfl;rw[e,Na,Ov,Ov,O8];have h:sizes (if x.kind=k then x.K else [x])<=sizes [x]:=by have b:sizes [x]=Ad x:=xCg;split;{have:=Dn x;omega};exact DN _
  omega
theorem WE(k:Int)(ks:Ξ):Ad (Jo k ks)<=1+sizes ks:=by
 unfold Jo;split
 .rename_i h;have a:=Fa Ad ks ks[0] (DY _);unfold sizes;omega
 rw[Dn];exact DN _
theorem WQ(n:DK):Ad (Ce n)<=Ad n:=by
 refine Gp (λn=>Ad (Ce n)<=Ad n) ?_ n;intro k e kids a;have i:sizes (kids.map Ce)<=sizes kids:=by
  clear n;induction kids with
  |nil=>simp[sizes]|cons x r f=>have d:=a x BU;have b:=f (λy g=>a y (Da _ g));simp only[sizes,DZ,FO]at b⊢;omega
 rw[Jy];have j:Ad ⟨k,e,kids⟩=1+sizes kids:=Dn _;split
 .have d:=WE k (Dw k (kids.map Ce));have b:=Lh k (kids.map Ce);omega
 rw[Dn];simp only;omega
def YI(l:Ξ):sizes (l.map Ce)<=sizes l:=by induction l with|nil=>simp[sizes]|cons x r a=>have b:=WQ x;simp only[sizes,DZ,FO]at a⊢;omega
def YP(l:Ξ)(n:Nat):sizes (l.take n)<=sizes l:=by have h:=Ov (l.take n) (l.drop n);rw[KC]at h;omega
def gj(k:Int)(l:Ξ)(n:Nat):(Dw k ((l.take n).map Ce)).length<=sizes (l.map Ce):=by have b:=Gg (Dw k ((l.take n).map Ce));have d:=Lh k ((l.take n).map Ce);have a:=YP (l.map Ce) n;rw[<-List.map_take]at a;omega
def gl(k:Int)(l:Ξ)(j:Nat)(h:j<l.length):Dw k ((l.take (j+1)).map Ce)=Dw k ((l.take j).map Ce)++(if(Ce l[j]).kind=k then(Ce l[j]).K else [Ce l[j]]):=by rw[EK h,D4,Na];congr 1;exact O8 k _
theorem Xg(l:ζ)(h:∀x∈l,0<=x)(h0:A7 l=0):∀x∈l,x=0:=by
 induction l with
 |nil=>intro x a;cases a
 |cons y r b=>unfold A7 at h0;have e:=h y BU;split at h0;{omega};intro x a;rcases BD.1 a with rfl|a;{omega};exact b (λz d=>h z xCw) h0 x a
theorem F8{e:Elem}{kids:Ξ}(h:Ap ⟨k,e,kids⟩=0):
  (k=1/\kids=[])\/((k=2\/k=3)/\0<kids.length/\∀x∈kids,Ap x=0)\/(k=4/\e=⟨0,[]⟩/\∃x,kids=[x]/\Ap x=0):=by
 rw[Ku]at h;by_cases b:k=1
 .rw[BR b]at h;refine .inl ⟨b,?_⟩;by_cases a:0<kids.l;{rw[BR a]at h;omega};exact BL.1 BS
 rw[BQ b]at h;by_cases a:V9 k e.op e.args.l kids.l=true
 .rw[BR a]at h;omega
 rw[BQ a]at h;have o:=Xg _ (λx d=>by obtain⟨n,_,rfl⟩:=BM.1 d;exact(Ld n).1) h;have i:=λx d=>o _ (BM.2 ⟨x,d,rfl⟩);simp only[V9,Bool.or_eq_true,decide_eq_true_eq,bne_iff_ne,ne_eq,E4,Bool.and_eq_true,not_or,not_and,Decidable.not_not]at a;obtain⟨⟨⟨⟨⟨s,r⟩,g⟩,m⟩,q⟩,j⟩:=a;by_cases f:k=4
 .refine .inr (.inr ⟨f,?_,?_⟩);{obtain⟨op,args⟩:=e;simp only at g m;have:args=[]:=BL.1 BS;subst this;subst g;rfl};have t:=j f;have l:kids.l=1:=BS;obtain⟨x,rfl⟩:=List.length_eq_one_iff.1 l;exact⟨x,rfl,i x BU⟩
 exact .inr (.inl ⟨BS,BS,i⟩)
def YK{e:Elem}{kids:Ξ}(h:Ad ⟨k,e,kids⟩<=c):sizes (kids.map Ce)<=c/\∀x∈kids,Ad x<=c:=by have a:=YI kids;rw[Qg]at h;refine⟨by unfold sizes at a⊢;omega,λx b=>?_⟩;have:=Fa Ad kids x b;omega
def Xv:DK->Prop
 |⟨k,_,kids⟩=>((k=2\/k=3)->kids.length≠1/\∀x∈kids,x.kind≠k)/\∀p∈kids.map Xv,p
theorem J3(n:DK):Xv n↔((n.kind=2\/n.kind=3)->n.K.length≠1/\∀x∈n.K,x.kind≠n.kind)/\∀x∈n.K,Xv x:=by obtain⟨k,e,kids⟩:=n;rw[Xv,all_map]
def zn(k:Int)(l:Ξ)(h:∀x∈l,x.kind≠k):Dw k l=l:=by induction l with|nil=>rfl|cons x r a=>have e:x::r=[x]++r:=rfl;rw[e,Na,O8,BQ (h x BU),a (λy b=>h y (Da _ b))]
theorem tn(k:Int)(f:k=2\/k=3)(l:Ξ)(h:∀x∈l,Xv x):∀x∈Dw k l,x.kind≠k/\Xv x:=by
 intro x a;have⟨y,d,a⟩:=List.mem_flatMap.1 a;have b:=(J3 y).1 (h y d);split at a
 .rename_i e;refine⟨?_,b.2 x a⟩;have:=(b.1 (by rwa[e])).2 x a;rwa [e]at this
 rename_i e;rw[BB.1 a];exact⟨e,h y d⟩
theorem wO(n:DK):Xv (Ce n):=by
 refine Gp (λn=>Xv (Ce n)) ?_ n;intro k e kids f;have d:∀x∈kids.map Ce,Xv x:=by intro x a;obtain⟨y,i,rfl⟩:=BM.1 a;exact f y i
 rw[Jy];split
 .rename_i b;have hF:=tn k b _ d;unfold Jo;split;{exact(hF _ (DY _)).2};rename_i g;rw[J3];exact⟨λ_=>⟨g,λx a=>(hF x a).1⟩,λx a=>(hF x a).2⟩
 rename_i b;rw[J3];exact⟨λh=>absurd h b,d⟩
def Uc:DK->Prop
 |⟨k,e,kids⟩=>((k=2\/k=3)->e=⟨0,[]⟩)/\∀p∈kids.map Uc,p
theorem Jp(n:DK):Uc n↔((n.kind=2\/n.kind=3)->n.O=⟨0,[]⟩)/\∀x∈n.K,Uc x:=by obtain⟨k,e,kids⟩:=n;rw[Uc,all_map]
theorem uW(n:DK):Uc (Ce n):=by
 refine Gp (λn=>Uc (Ce n)) ?_ n;intro k e kids f;have d:∀x∈kids.map Ce,Uc x:=by intro x a;obtain⟨y,b,rfl⟩:=BM.1 a;exact f y b
 have hF:∀x∈Dw k (kids.map Ce),Uc x:=by intro x a;have⟨y,b,a⟩:=List.mem_flatMap.1 a;have g:=(Jp y).1 (d y b);split at a;{exact g.2 x a};rw[BB.1 a];exact d y b
 rw[Jy];split
 .unfold Jo;split;{exact hF _ (DY _)};rw[Jp];exact⟨λ_=>rfl,hF⟩
 rename_i i;rw[Jp];exact⟨λh=>absurd h i,d⟩
theorem Azf(n:DK):Xv n->Uc n->Ce n=n:=by
 refine Gp (λn=>Xv n->Uc n->Ce n=n) ?_ n;intro k e kids g h i;have a:=(J3 _).1 h;have d:=(Jp _).1 i;simp only at a d;have j:kids.map Ce=kids:=by have:kids.map Ce=kids.map id:=LN (λx b=>g x b (a.2 x b) (d.2 x b));rw[this,List.map_id]
 rw[Jy,j];split
 .rename_i f;rw[zn k kids (a.1 f).2];unfold Jo;rw[dif_neg (a.1 f).1,d.1 f]
 rfl
theorem SB{ks:Ξ}(j:k=2\/k=3)(h0:0<ks.length)(h:∀x∈ks,Ap x=0):Ap ⟨k,⟨0,[]⟩,ks⟩=0:=by
 rw[Ku,BQ BS];have a:V9 k 0 0 ks.length=false:=by unfold V9;have b:decide (k<2)=false:=xCp;have d:decide (4<k)=false:=xCp;have e:((ks.length:Int)==0)=false:=xAh;have g:(k==4)=false:=xAh;simp[b,d,e,g]
 rw[BQ (by simp only[DW,a];exact GK)];clear h0 a;induction ks with
 |nil=>rfl|cons x r f=>rw[DZ,A7,BQ (by rw[h x BU];omega)];exact f (λy i=>h y (Da _ i))
theorem Aup{n:DK}(h:Ap n=0)(f:n.kind=2\/n.kind=3):0<n.K.length/\∀x∈n.K,Ap x=0:=by
 obtain⟨k,e,kids⟩:=n;simp only at f⊢;rcases F8 h with⟨a,_⟩|⟨_,b,d⟩|⟨a,_⟩
 .omega
 .exact⟨b,d⟩
 omega
theorem Awa(f:k=2\/k=3){l:Ξ}(h0:0<l.length)(h:∀x∈l,Ap x=0):0<(Dw k l).length/\∀x∈Dw k l,Ap x=0:=by
 have d:∀x∈l,0<(Dw k [x]).length/\∀y∈Dw k [x],Ap y=0:=by intro x b;rw[O8];split;{rename_i e;exact Aup (h x b) (by rwa[e])};exact⟨BU,λy a=>by rw[BB.1 a];exact h x b⟩
 refine⟨?_,λy a=>?_⟩
 .obtain⟨x,r,rfl⟩:=PL (List.ne_nil_of_length_pos h0);have e:x::r=[x]++r:=rfl;rw[e,Na,DV];have:=(d x BU).1;omega
 have⟨x,b,a⟩:=List.mem_flatMap.1 a;refine(d x b).2 y ?_;rwa[O8]
def Ari(b:k=2\/k=3){l:Ξ}(h0:0<l.length)(h:∀x∈l,Ap x=0):Ap (Jo k (Dw k l))=0:=by
 have⟨d,a⟩:=Awa b h0 h;unfold Jo;split
 .exact a _ (DY _)
 exact SB b d a
theorem Au2(n:DK):Ap n=0->Ap (Ce n)=0:=by
 refine Gp (λn=>Ap n=0->Ap (Ce n)=0) ?_ n;intro k e kids d h;have g:=h;rw[Jy];rcases F8 h with⟨rfl,rfl⟩|⟨f,j,l⟩|⟨rfl,rfl,x,rfl,a⟩
 .rwa[BQ BS]
 .rw[BR f];refine Ari f xCn (λx a=>?_);obtain⟨y,b,rfl⟩:=BM.1 a;exact d y b (l y b)
 rw[BQ BS];have b:=d x BU a;rw[Ku,BQ BS];have i:V9 4 (⟨0,[]⟩:Elem).op (⟨0,[]⟩:Elem).args.l ([x].map Ce).l=false:=Br;rw[BQ (by rw[i];exact GK)];simp only[DZ,FI,A7];rw[BQ BS]
def fine(n:DK):Prop:=Xv n/\Uc n/\Ap n=0
def RD{n:DK}(h:Ap n=0):fine (Ce n):=⟨wO n,uW n,Au2 n h⟩
def NI{n:DK}(h:fine n):Ce n=n:=Azf n h.1 h.2.1
def none0:DK:=⟨0,⟨0,[]⟩,[]⟩
theorem U7{n:DK}(h:Aj n=true):n=none0:=by obtain⟨k,⟨op,args⟩,kids⟩:=n;simp only[Aj,Bool.and_eq_true,E4]at h;obtain⟨⟨⟨d,e⟩,g⟩,b⟩:=h;have a:=BL.1 g;have f:=BL.1 b;subst a f d e;rfl
theorem Yl{n:DK}(h:fine n):Aj n=false:=by cases d:Aj n with|false=>rfl|true=>have e:=U7 d;have a:=h.2.2;rw[e]at a;unfold none0 at a;rcases F8 a with⟨b,_⟩|⟨b,_⟩|⟨b,_⟩<;>omega
def Jq(a b:DK):DK:=if Aj a then b else if Aj b then a else Jo 2 (Dw 2 [a,b])
def Z0{l:Ξ}(h0:0<l.length)(h:∀x∈l,fine x):fine (Jo 2 (Dw 2 l)):=by
 have b:l.map Ce=l:=by have:l.map Ce=l.map id:=LN (λx a=>NI (h x a));rw[this,List.map_id]
 have e:Jo 2 (Dw 2 l)=Ce ⟨2,⟨0,[]⟩,l⟩:=by rw[Jy,BR (.inl rfl),b]
 rw[e];exact RD (SB (.inl rfl) h0 (λx a=>(h x a).2.2))
def Gu(n:DK):Prop:=Aj n=true\/fine n
theorem W9{a b:DK}(e:Gu a)(f:Gu b):Gu (Jq a b):=by
 unfold Jq;split
 .exact f
 rename_i g;split
 .exact e
 rename_i i;refine .inr (Z0 BU (λx d=>?_));rcases BD.1 d with rfl|d
 .rcases e with h|h;{exact absurd h g};exact h
 rw[BB.1 d];rcases f with h|h
 .exact absurd h i
 exact h
def Ja(l:Ek):Nat:=(l.map Ah).sum
def Jf:Nat->DL->DL
 |0,a=>a
 |f+1,a=>match a.K with
  |[b]=>if a.C=[]\/Aj b.N=true then Jf f ⟨Jq a.N b.N,a.C++b.C,b.K⟩ else a
  |_=>a
theorem Nj(a:DL):1+Ja a.K<=Ah a:=by obtain⟨n,c,kids⟩:=a;rw[Ti];unfold Ja;simp only;omega
theorem vi(f:Nat):∀a:DL,Ja a.K<=f->Jf f a=Jf (f+1) a:=by
 induction f with
 |zero=>
  intro a h;rw[Jf];conv=>rhs;rw[Jf]
  split;{rename_i b e;rw[e]at h;have:=Nj b;simp[Ja]at h;omega};rfl
 |succ f d=>
  intro a h;rw[Jf];conv=>rhs;rw[Jf]
  split;{rename_i b e;split;{refine d _ ?_;rw[e]at h;have:=Nj b;simp only[Ja,DZ,FI,FO,M1]at h this⊢;omega};rfl};rfl
def joined(a:DL):DL:=Jf (Ja a.K) a
def Avh(a:DL):∀f,Ja a.K<=f->Jf f a=joined a:=by
 intro f h;obtain⟨d,rfl⟩:=Nat.exists_eq_add_of_le h;clear h;induction d with
 |zero=>rfl|succ d b=>rwa[<-Nat.add_assoc,<-vi _ a BS]
def XL(n:DK)(c:Ω)(kid:DL)(h:c=[]\/Aj kid.N=true):joined ⟨n,c,[kid]⟩=joined ⟨Jq n kid.N,c++kid.C,kid.K⟩:=by
 have b:Ja [kid]=Ah kid:=by simp[Ja]
 have d:=Nj kid;unfold joined;simp only;rw[b];obtain⟨f,a⟩:∃f,Ah kid=f+1:=⟨Ah kid - 1,BS⟩;rw[a,Jf];simp only;rw[BR h];exact Avh _ f yCi
theorem QF(a:DL)(h:∀b,a.K=[b]->¬(a.C=[]\/Aj b.N=true)):joined a=a:=by
 unfold joined;cases d:Ja a.K with
 |zero=>rfl|succ f=>rw[Jf];split;{rename_i b e;rw[BQ (h b e)]};rfl
def D6:DL->DL
 |⟨n,a,kids⟩=>joined ⟨if Aj n then n else Ce n,a,kids.map D6⟩
def Au4(n:DK)(a:Ω)(kids:Ek):D6 ⟨n,a,kids⟩=joined ⟨if Aj n then n else Ce n,a,kids.map D6⟩:=by rw[D6]
def Awe:(⟨0,[]⟩:Elem).fits:=⟨by show i64 0;unfold i64;omega,BU,BU⟩
def cV{l:Ξ}(h:∀x∈l,Ci x):∀x∈Dw k l,Ci x:=by
 intro x a;have⟨y,b,a⟩:=List.mem_flatMap.1 a;split at a
 .exact(Ea (h y b)).2.2.2 x a
 rw[BB.1 a];exact h y b
def Zs(a:i64 k){l:Ξ}(h:∀x∈l,Ci x)(hl:l.length<=1048576):Ci (Jo k l):=by
 unfold Jo;split
 .exact h _ (DY _)
 exact(G6 _ _ _).2 ⟨a,Awe,hl,h⟩
theorem wv{a b:DK}(e:Ci a)(f:Ci b)(l:Ad a+Ad b<=1000000):Ci (Jq a b):=by
 unfold Jq;split
 .exact f
 split
 .exact e
 refine Zs yCh (cV (λx d=>?_)) ?_
 .rcases BD.1 d with rfl|d;{exact e};rwa[BB.1 d]
 have g:=Gg (Dw 2 [a,b]);have i:=Lh 2 [a,b];have j:sizes [a,b]=Ad a+Ad b:=xCg;omega
def CM(n:DK):Nat:=if Aj n then 0 else Ad n
def UZ(n:DK):CM n<=Ad n:=by unfold CM;split<;>omega
theorem size_le(n:DK):Ad n<=1+CM n:=by
 unfold CM;split
 .rename_i h;rw[U7 h];show Ad ⟨0,⟨0,[]⟩,[]⟩<=_;rw[Qg];simp
 omega
theorem wj(a b:DK):CM (Jq a b)<=CM a+CM b+1:=by
 unfold Jq;split
 .omega
 rename_i d;split
 .omega
 rename_i e;refine DU (UZ _) ?_;have i:=WE 2 (Dw 2 [a,b]);have g:=Lh 2 [a,b];have j:sizes [a,b]=Ad a+Ad b:=xCg;have f:CM a=Ad a:=BQ d;have h:CM b=Ad b:=BQ e;omega
def Dy(n:DK)(c:Ω)(kids:Ek):Ah ⟨n,c,kids⟩=1+c.length+CM n+Ja kids:=by rw[Ti];rfl
def GO(c:Nat)(b:DL):Prop:=Ba b/\Ah b<=c
def Po(l:Ek):l.length<=Ja l:=by
 unfold Ja;induction l with
 |nil=>simp|cons x r a=>have:=Nj x;simp only[DT,DZ,FO];omega
def RS(k:DL):Ja [k]=Ah k:=by simp[Ja]
theorem TB{n:DK}{cs:Ω}{kid:DL}(h:GO c ⟨n,cs,[kid]⟩)(l:c<=900000):GO c ⟨Jq n kid.N,cs++kid.C,kid.K⟩/\sizes [n,kid.N]<=999999/\Ci n/\Ci kid.N/\cs.length+kid.C.length<=1000000/\Ja kid.K<Ja [kid]:=by
 obtain⟨g,f⟩:=h;rw[Dy,RS]at f;obtain⟨e,j,i⟩:=kid;rw[Dy]at f;rw[RS,Dy];simp only;have d:=(Ep _ _ _).1 g;have b:=(Ep _ _ _).1 (d.2.2.2.2 ⟨e,j,i⟩ BU);have m:=size_le n;have o:=size_le e;have q:=wj n e;refine⟨⟨(Ep _ _ _).2 ⟨wv d.1 b.1 BS,xCr,λx a=>?_,b.2.2.2⟩,?_⟩,by simp[sizes];omega,d.1,b.1,BS,BS⟩
 .rcases BI.1 a with a|a;{exact d.2.2.1 x a};exact b.2.2.1 x a
 rw[Dy,DV];omega
theorem ZH(a:c<=900000):∀(f:Nat)(b:DL),GO c b->GO c (Jf f b)
 |0,b,h=>h
 |f+1,⟨n,d,kids⟩,h=>by
  rw[Jf];split
  .rename_i g e
   simp only at e;subst e;split
   .exact ZH a f _ (TB h a).1
   .exact h
  .exact h
def Az1(a:c<=900000)(b:DL)(h:GO c b):GO c (joined b):=ZH a _ b h
theorem Au3(n:DK):Ci n->Ad n<=1000000->Ci (Ce n):=by
 refine Gp (λn=>Ci n->Ad n<=1000000->Ci (Ce n)) ?_ n;intro k e kids f h l;rw[Jy];have a:=(G6 _ _ _).1 h;have m:sizes kids<Ad ⟨k,e,kids⟩:=by rw[Dn];simp only;omega
 have b:∀x∈kids.map Ce,Ci x:=by intro x b;obtain⟨y,d,rfl⟩:=BM.1 b;have:Ad y<=sizes kids:=Fa Ad kids y d;exact f y d (a.2.2.2 y d) BS
 split
 .refine Zs a.1 (cV b) ?_;have g:=Gg (Dw k (kids.map Ce));have i:=Lh k (kids.map Ce);have j:=YI kids;omega
 exact(G6 _ _ _).2 ⟨a.1,a.2.1,by rw[Db];exact a.2.2.1,b⟩
def U8(n:DK):DK:=if Aj n then n else Ce n
def Ava{n:DK}(h:Ci n)(a:CM n<=900000):Ci (U8 n):=by
 unfold U8;split
 .exact h
 exact Au3 n h (by have:=size_le n;omega)
theorem Au8(n:DK):CM (U8 n)<=CM n:=by
 unfold U8;split
 .exact DN _
 rename_i h;have e:CM n=Ad n:=BQ h;rw[e];exact DU (UZ _) (WQ n)
def O0(n:DK)(c:Ω)(kids:Ek):D6 ⟨n,c,kids⟩=joined ⟨U8 n,c,kids.map D6⟩:=Au4 n c kids
theorem SL{n:DK}{c:Ω}{kids:Ek}(g:Ba ⟨n,c,kids⟩)(i:Ah ⟨n,c,kids⟩<=900000)(f:∀x∈kids,GO (Ah x) (D6 x)):GO (Ah ⟨n,c,kids⟩) ⟨U8 n,c,kids.map D6⟩:=by
 have d:=(Ep _ _ _).1 g;rw[Dy]at i⊢;have m:=Au8 n;have o:Ja (kids.map D6)<=Ja kids:=by
  clear g i d;induction kids with
  |nil=>simp|cons x r j=>have a:=(f x BU).2;have b:=j (λy e=>f y (Da _ e));simp only[Ja,DZ,FO]at b⊢;omega
 refine⟨(Ep _ _ _).2 ⟨Ava d.1 BS,d.2.1,d.2.2.1,by rw[Db];exact d.2.2.2.1,λx l=>?_⟩,by rw[Dy];omega⟩;obtain⟨y,e,rfl⟩:=BM.1 l;exact(f y e).1
theorem Y6(a:DL):Ba a->Ah a<=900000->GO (Ah a) (D6 a):=by refine Fz (λa=>Ba a->Ah a<=900000->GO (Ah a) (D6 a)) ?_ a;intro n c kids f e d;rw[O0];have g:=(Ep _ _ _).1 e;refine Az1 d _ (SL e d (λx b=>f x b (g.2.2.2.2 x b) ?_));have:Ah x<=Ja kids:=Fa Ah kids x b;rw[Dy]at d;omega
def Et:DL->Prop
 |⟨n,_,kids⟩=>Gu n/\∀p∈kids.map Et,p
def Ee(n:DK)(c:Ω)(kids:Ek):Et ⟨n,c,kids⟩↔Gu n/\∀x∈kids,Et x:=by rw[Et,all_map]
def NV{n:DK}{cs:Ω}{kid:DL}(h:Et ⟨n,cs,[kid]⟩):Et ⟨Jq n kid.N,cs++kid.C,kid.K⟩/\Gu n/\Gu kid.N:=by obtain⟨f,e,d⟩:=kid;have a:=(Ee _ _ _).1 h;have b:=(Ee _ _ _).1 (a.2 ⟨f,e,d⟩ BU);exact⟨(Ee _ _ _).2 ⟨W9 a.1 b.1,b.2⟩,a.1,b.1⟩
theorem WW:∀(f:Nat)(b:DL),Et b->Et (Jf f b)
 |0,b,h=>h
 |f+1,⟨n,a,kids⟩,h=>by
  rw[Jf];split
  .rename_i d e
   simp only at e;subst e;split
   .exact WW f _ (NV h).1
   .exact h
  .exact h
def yW(b:DL)(h:Et b):Et (joined b):=WW _ b h
theorem S9{n:DK}(h:Aj n=true\/Ap n=0):Gu (U8 n):=by
 unfold U8;split
 .rename_i a;exact .inl a
 rename_i a;rcases h with h|h
 .exact absurd h a
 exact .inr (RD h)
def Ls:DL->Prop
 |⟨n,_,kids⟩=>(Aj n=true\/Ap n=0)/\∀p∈kids.map Ls,p
def Qm(n:DK)(c:Ω)(kids:Ek):Ls ⟨n,c,kids⟩↔(Aj n=true\/Ap n=0)/\∀x∈kids,Ls x:=by rw[Ls,all_map]
theorem Uu(a:DL):Ls a->Et (D6 a):=by refine Fz (λa=>Ls a->Et (D6 a)) ?_ a;intro n c kids e h;have d:=(Qm _ _ _).1 h;rw[O0];refine yW _ ((Ee _ _ _).2 ⟨S9 d.1,λx f=>?_⟩);obtain⟨y,b,rfl⟩:=BM.1 f;exact e y b (d.2 y b)
theorem YB(a:DL):Cb a=0->Ls a:=by
 refine Fz (λa=>Cb a=0->Ls a) ?_ a;intro n c kids e h;rw[Xm]at h;have b:C9 ⟨n,c,kids⟩=0:=by have:=Qn ⟨n,c,kids⟩;split at h<;>omega
 rw[BQ BS]at h;refine(Qm _ _ _).2 ⟨?_,λx d=>e x d ?_⟩
 .unfold C9 at b;simp only at b;cases f:Aj n with
  |true=>exact .inl rfl|false=>refine .inr ?_;have:=Ld n;simp only[f]at b;split at b;{simp at*;omega};simp at*;omega
 exact Xg _ (λy g=>by obtain⟨z,_,rfl⟩:=BM.1 g;exact(Qw z).1) h _ (BM.2 ⟨x,d,rfl⟩)
def Ai(l:Ek):Ek:=if(Am l).1=0 then l.map D6 else []
theorem Zr:∀(l:Ek)(k:Nat),(Es l k).1=0->(Es l k).2=0/\∀x∈l,Fv x=0
 |[],_,_=>⟨rfl,λx b=>by cases b⟩
 |a::r,k,h=>by
  rw[Es]at h⊢;have g:=Tt a;by_cases d:0<Fv a
  .rw[BR d]at h;simp only at h;omega
  .rw[BQ d]at h⊢
   have⟨e,f⟩:=Zr r (k+1) h;refine⟨e,λx b=>?_⟩;rcases BD.1 b with rfl|b
   .omega
   .exact f x b
theorem Ayq{a:DL}(h:Fv a=0):Aj a.N=false/\Cb a=0:=by
 unfold Fv at h;cases b:Aj a.N with
 |true=>rw[b]at h;simp at h|false=>rw[b]at h;exact⟨rfl,C4⟩
theorem Nu{l:Ek}(h:(Am l).1=0):(Am l).2=0/\l.length<=40/\Aw l<=400/\∀x∈l,Aj x.N=false/\Cb x=0:=by
 unfold Am at h⊢;by_cases a:40<l.l\/400<Aw l
 .rw[BR a]at h;simp at h
 rw[BQ a]at h⊢;have⟨b,d⟩:=Zr l 0 h;exact⟨b,BS,BS,λx e=>Ayq (d x e)⟩
theorem Yj:∀(l:Ek)(k:Nat),0<=(Es l k).1/\(Es l k).1<=5
 |[],_=>by rw[Es];simp
 |a::r,k=>by
  rw[Es];have b:=Tt a;split
  .exact b
  .exact Yj r (k+1)
def Qk(l:Ek):0<=(Am l).1/\(Am l).1<=5:=by
 unfold Am;split
 .simp
 exact Yj l 0
def Uh{l:Ek}{x:DL}(hx:x∈l):Ah x<=Aw l:=Fa Ah l x hx
def Lc{l:Ek}(h:(Am l).1=0){x:DL}(hx:x∈l):Ls x/\Ah x<=400:=by have⟨_,_,b,a⟩:=Nu h;exact⟨YB x (a x hx).2,DU (Uh hx) b⟩
def A8(b:Nat)(l:Γ):Nat:=l.foldl max b
def XK(b:Nat)(l:Γ)(x:Nat):A8 b (l++[x])=max (A8 b l) x:=by simp[A8]
def Vv(b:Nat)(l r:Γ):A8 b (l++r)=A8 (A8 b l) r:=by simp[A8]
theorem I5:∀(l:Γ)(b c:Nat),A8 (max b c) l=max b (A8 c l)
 |[],_,_=>rfl
 |x::r,b,c=>by
  show A8 (max (max b c) x) r=max b (A8 (max c x) r)
  rw[Nat.max_assoc,I5 r]
def QE(l:Γ)(b:Nat):A8 b l=max b (A8 0 l):=by have:=I5 l b 0;rwa [Nat.max_zero]at this
theorem Yh:∀(l:Γ)(b c:Nat),b<=c->(∀x∈l,x<=c)->A8 b l<=c
 |[],_,_,h,_=>h
 |x::r,b,c,h,a=>Yh r (max b x) c (Nat.max_le.2 ⟨h,a x BU⟩) (λy d=>a y (Da _ d))
def Mc{b:Nat}{l:Γ}{j:Nat}(h:j<l.length):A8 b (l.take (j+1))=max (A8 b (l.take j)) l[j]:=by rw[EK h,XK]
def Yr(n i x:Nat):Nat:=if i+1<n then x+1 else x
def bump(fs:Γ):Γ:=fs.mapIdx (λi x=>Yr fs.length i x)
def L2(fs:Γ):(bump fs).length=fs.length:=by simp[bump]
def SK(fs:Γ)(i:Nat)(h:i<(bump fs).length):(bump fs)[i]=Yr fs.length i (fs[i]'(by rwa [L2]at h)):=by simp[bump]
theorem jF(fs:Γ)(z:Nat):bump (fs++[z])=fs.map (·+1)++[z]:=by
 apply List.ext_getElem
 .simp[bump]
 intro i a d;rw[SK];unfold Yr;have b:i<fs.length+1:=by simpa[L2]using a
 by_cases hi:i<fs.length
 .rw[BR (by rw[DV,FV];omega),Beq hi,Beq yEh,Fo]
 obtain rfl:i=fs.length:=by omega
 rw[BQ (by rw[DV,FV];omega)];simp
def forks:DL->Nat
 |⟨_,_,kids⟩=>A8 0 (bump (kids.map forks))
def Uy(n:DK)(c:Ω)(kids:Ek):forks ⟨n,c,kids⟩=A8 0 (bump (kids.map forks)):=by rw[forks]
def cS(n:DK)(c:Ω):forks ⟨n,c,[]⟩=0:=by rw[Uy];rfl
def Av8(n:DK)(c:Ω)(init:Ek)(z:DL):forks ⟨n,c,init++[z]⟩=A8 (forks z) (init.map (λk=>1+forks k)):=by rw[Uy,D4,Bdf,jF,XK,QE _ (forks z),Nat.max_comm];congr 2;rw[IW];refine LN (λx _=>?_);show forks x+1=1+forks x;omega
theorem eK(a:DL):forks a<=Ah a:=by
 refine Fz (λa=>forks a<=Ah a) ?_ a;intro n c kids d;rw[Uy];refine Yh _ _ _ (EH _) (λx e=>?_);obtain⟨i,hi,rfl⟩:=List.getElem_of_mem e;rw[SK];have b:i<kids.length:=by rwa[L2,Db]at hi
 rw[Fo];have f:=d kids[i] (DY b);have g:Ah kids[i]<=Ja kids:=Fa Ah kids _ (DY b);rw[Dy];unfold Yr;split<;>omega
def MO(k:Int)(b:Nat):Nat:=if k=1 then 1 else 1+b
def OM(k:Int)(ks:ζ)(bs:Γ):Nat:=if k=1 then 1 else A8 (bs.headD 0) ((List.zipWith MO ks bs).drop 1)
def Ak:DK->Nat
 |⟨k,_,kids⟩=>OM k (kids.map DK.kind) (kids.map Ak)
def Au(n:DK):Nat:=MO n.kind (Ak n)
def Yu(k:Int)(e:Elem)(kids:Ξ):Ak ⟨k,e,kids⟩=OM k (kids.map DK.kind) (kids.map Ak):=by rw[Ak]
def V8(e:Elem)(kids:Ξ):Ak ⟨1,e,kids⟩=1:=by rw[Yu];rfl
def Ll(e:Elem)(x:DK)(r:Ξ)(h:k≠1):Ak ⟨k,e,x::r⟩=A8 (Ak x) (r.map Au):=by rw[Yu];unfold OM;rw[BQ h];simp only[DZ,List.headD_cons,gg,List.drop_succ_cons,PN];congr 1;rw[List.zipWith_map,List.zipWith_self];rfl
def vy{n:DK}(h:Ak n<=c):Au n<=1+c:=by unfold Au MO;split<;>omega
theorem WG(n:DK):Ak n<=Ad n:=by
 refine Gp (λn=>Ak n<=Ad n) ?_ n;intro k e kids d;rw[Dn];simp only;by_cases b:k=1
 .rw[b,V8];omega
 cases kids with
 |nil=>rw[Yu];unfold OM;rw[BQ b];simp[A8]|cons x r=>rw[Ll e x r b];have f:∀y∈x::r,Ad y<=sizes (x::r):=λy a=>Fa Ad _ y a;refine Yh _ _ _ (DU (d x BU) (by have:=f x BU;omega)) (λz g=>?_);obtain⟨y,a,rfl⟩:=BM.1 g;have i:=vy (d y (Da _ a));have j:=f y (Da _ a);omega
def Bv(n:DK):Ξ:=if Aj n then [] else if n.kind=2 then n.K else [n]
def Gs(n:DK)(t:Nat):Nat:=A8 t ((Bv n).map Au)
def Bq:DL->Nat
 |⟨_,_,kids⟩=>A8 1 (List.zipWith Gs (kids.map DL.N) (kids.map Bq))
def Oq(n:DK)(c:Ω)(kids:Ek):Bq ⟨n,c,kids⟩=A8 1 (kids.map (λk=>Gs k.N (Bq k))):=by rw[Bq,List.zipWith_map,List.zipWith_self]
theorem NW(n:DK):∀x∈Bv n,Ad x<=CM n:=by
 intro x a;unfold Bv at a;split at a
 .cases a
 rename_i h;have e:CM n=Ad n:=BQ h;rw[e];split at a
 .rw[Dn n];have:Ad x<=sizes n.K:=Fa Ad _ x a;omega
 rw[BB.1 a];exact DN _
def Hm(a:DL):Nat:=max (Ak a.N) (Bq a)
def G7(l:Ek):Nat:=A8 0 ((Ai l).map Hm)
def Fg(l:Ek):Nat:=A8 0 ((Ai l).map forks)
def Tu:DK->Prop
 |⟨k,_,kids⟩=>(k≠1->kids≠[])/\∀p∈kids.map Tu,p
def Za(k:Int)(e:Elem)(kids:Ξ):Tu ⟨k,e,kids⟩↔(k≠1->kids≠[])/\∀x∈kids,Tu x:=by rw[Tu,all_map]
theorem full_of(n:DK):Ap n=0->Tu n:=by
 refine Gp (λn=>Ap n=0->Tu n) ?_ n;intro k e kids d h;rw[Za];rcases F8 h with⟨rfl,rfl⟩|⟨_,f,i⟩|⟨_,_,x,rfl,a⟩
 .exact⟨λh=>absurd rfl h,(λx a=>by cases a)⟩
 .exact⟨(λ_ b=>by rw[b]at f;simp at f),λx a=>d x a (i x a)⟩
 exact⟨(λ_ b=>by cases b),λy g=>by rw[BB.1 g];exact d x BU a⟩
theorem N8{n:DK}(h:Ap n=0):∀x∈n.K,Ap x=0:=by
 obtain⟨k,e,kids⟩:=n;rcases F8 h with⟨_,rfl⟩|⟨_,_,d⟩|⟨_,_,x,rfl,a⟩
 .intro x a;cases a
 .exact d
 intro y b;rwa[BB.1 b]
theorem YA{n:DK}(h:Gu n):∀x∈Bv n,Tu x:=by
 intro x a;unfold Bv at a;split at a
 .cases a
 rename_i d;have b:=h.resolve_left d;split at a
 .exact full_of x (N8 b.2.2 x a)
 rw[BB.1 a];exact full_of n b.2.2
theorem gv{n:DK}(h:fine n):1<=n.kind/\n.kind<=4:=by obtain⟨k,e,kids⟩:=n;rcases F8 h.2.2 with⟨a,_⟩|⟨a,_⟩|⟨a,_⟩<;>(simp only;omega)
theorem wm{a b:DK}(h:Aj a=false)(i:Gu b)(f:fine a):Aj (Jq a b)=false:=by
 have e:=W9 (.inr f) i;unfold Jq at e⊢;rw[BQ yGd]at e⊢;split
 .exact h
 rename_i g;rw[BQ g]at e;refine Yl (Z0 BU (λx d=>?_));rcases BD.1 d with rfl|d
 .exact f
 rw[BB.1 d];exact i.resolve_left g
theorem XM:∀(f:Nat)(b:DL),Et b->Aj b.N=false->Aj (Jf f b).N=false
 |0,_,_,h=>h
 |f+1,⟨n,g,kids⟩,d,h=>by
  rw[Jf];split
  .rename_i i e
   simp only at e h;subst e;split
   .have a:=NV d
    refine XM f _ a.1 ?_;exact wm h a.2.2 (a.2.1.resolve_left yGd)
   .exact h
  .exact h
theorem Wc{a:DL}(hr:Ls a)(h:Aj a.N=false):Aj (D6 a).N=false:=by
 obtain⟨n,c,kids⟩:=a;have b:=(Qm _ _ _).1 hr;rw[O0];simp only at h;refine XM _ _ ((Ee _ _ _).2 ⟨S9 b.1,λx d=>?_⟩) ?_
 .obtain⟨y,e,rfl⟩:=BM.1 d;exact Uu y (b.2 y e)
 show Aj (U8 n)=false;unfold U8;rw[BQ yGd];exact Yl (RD (b.1.resolve_left yGd))
theorem U6(l:Ek):∀x∈Ai l,Et x/\Aj x.N=false:=by
 intro x a;unfold Ai at a;by_cases b:(Am l).1=0
 .rw[BR b]at a;obtain⟨y,e,rfl⟩:=BM.1 a;have d:=(Lc b e).1;exact⟨Uu y d,Wc d ((Nu b).2.2.2 y e).1⟩
 rw[BQ b]at a;cases a
def Gh(c:Int):Ar:=⟨c,⟨0,[]⟩⟩
def TD(k:Int)(n:DK)(l:AP):AP:=if n.kind=1 then [⟨k,n.O⟩] else l++[Gh (k+2)]
def PV(k:Int)(o:Elem)(kids:Ξ)(a:List (AP)):AP:=
 if k=1 then [⟨1,o⟩] else if k=4 then a.headD []++[Gh 6] else a.headD []++((List.zipWith (TD k) kids a).drop 1).flatten
def Cf:DK->AP
 |⟨k,o,kids⟩=>PV k o kids (kids.map Cf)
def QL(k:Int)(o:Elem)(kids:Ξ):Cf ⟨k,o,kids⟩=PV k o kids (kids.map Cf):=by rw[Cf]
def Dq(k:Int)(n:DK):AP:=TD k n (Cf n)
def L6(o:Elem)(kids:Ξ):Cf ⟨1,o,kids⟩=[⟨1,o⟩]:=by rw[QL];rfl
def L8(o:Elem)(x:DK)(r:Ξ):Cf ⟨4,o,x::r⟩=Cf x++[Gh 6]:=by rw[QL];rfl
def Jh(o:Elem)(x:DK)(r:Ξ)(h1:k≠1)(a:k≠4):Cf ⟨k,o,x::r⟩=Cf x++(r.map (Dq k)).flatten:=by rw[QL];unfold PV;rw[BQ h1,BQ a,DZ,List.headD_cons,gg,List.drop_succ_cons,PN,List.zipWith_map_right,List.zipWith_self];rfl
def Ji(k:Int)(n:DK)(h:n.kind=1):Dq k n=[⟨k,n.O⟩]:=BR h
def Il(k:Int)(n:DK)(h:n.kind≠1):Dq k n=Cf n++[Gh (k+2)]:=BQ h
def Bc(n:DK):AP:=((Bv n).map (Dq 2)).flatten
def En(n i:Nat):AP:=if n=1 then [] else if i=0 then [Gh 7] else if i+1=n then [Gh 9] else [Gh 8]
def G9(cs:Ω):AP:=cs.map (λc=>⟨10,c⟩)
def G2(n i:Nat)(a:DL)(t:AP):AP:=En n i++(Bc a.N++t)
def UR(cs:Ω)(kids:Ek)(ts:List (AP)):AP:=
 G9 cs++((List.zipWith (λ(a:DL)t=>(a,t)) kids ts).mapIdx (λi p=>G2 kids.length i p.1 p.2)).flatten
def Bz:DL->AP
 |⟨_,a,kids⟩=>UR a kids (kids.map Bz)
def H5(n i:Nat)(a:DL):AP:=G2 n i a (Bz a)
def Wv(n:DK)(cs:Ω)(kids:Ek):Bz ⟨n,cs,kids⟩=G9 cs++(kids.mapIdx (λi a=>H5 kids.length i a)).flatten:=by
 rw[Bz];unfold UR;congr 2;apply List.ext_getElem
 .simp
 intro i b d;simp[H5]
def Ed(a:DL):AP:=Cf a.N++(Bz a++[Gh 11])
def Ei(l:Ek):AP:=((Ai l).map Ed).flatten
