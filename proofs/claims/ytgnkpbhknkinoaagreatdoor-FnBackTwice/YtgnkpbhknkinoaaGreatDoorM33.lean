import Derived.Test.YtgnkpbhknkinoaaGreatDoorHid0
set_option linter.defProp false
namespace Stil
variable {c:Nat}{k:Int}
structure Aw where
 code:Int
 O:Elem
def Aw.fits(i:Aw):Prop:=i64 i.code/\i.O.fits
def listWords:List (List UInt8):=[[],[108,100],[97,110,100],[111,114],[97,110,98],[111,114,98],[105,110,118],[109,112,115],[109,114,100],[109,112,112],[99,111,105,108],[101,110,100]]
def ot(e:Elem):Bool:=e.op==0 && e.args.length==0
def Ju(i:Aw):Bool:=if i.code<1\/11<i.code then false else if i.code<=3 then Dc i.O.op i.O.args else if i.code=10 then F7 i.O.op i.O.args else ot i.O
structure Pt where
 bits:Int
 forks:Int
 seen:Bool
 coil:Bool
def pt0:Pt:=⟨0,0,false,false⟩
def needs(c:Int):Int:=if c=1 then 0 else if c=4\/c=5 then 2 else 1
def low(c:Int):Int:=if c=5 then 2 else 1
def wrong(s:Pt)(i:Aw):Int:=
 if Ju i=false then 2
 else if s.bits<needs i.code then 3
 else if i.code=1/\s.bits=16 then 4
 else if 7<=i.code/\1<s.bits then 5
 else if s.seen=true/\s.bits=low i.code/\(i.code=3\/i.code=6\/i.code=5) then 6
 else if i.code=7/\s.forks=8 then 7
 else if(i.code=8\/i.code=9)/\s.forks=0 then 7
 else if i.code=11/\0<s.forks then 7
 else if(i.code=8\/i.code=9\/i.code=11)/\s.coil=false then 8
 else 0
def next(s:Pt)(c:Int):Pt:=
 if c=11 then pt0
 else⟨if c=1 then s.bits+1 else if c=4\/c=5 then s.bits - 1 else s.bits,if c=7 then s.forks+1 else if c=9 then s.forks - 1 else s.forks,s.seen || c==10 || c==7,c==10⟩
def Fz:Pt->Nat->List Aw->Int × Nat
 |s,k,[]=>if 0<s.bits then(9,k) else(0,0)
 |s,k,i::r=>if 0<wrong s i then(wrong s i,k) else Fz (next s i.code) (k+1) r
def Be(l:List Aw):Int × Nat:=if 1000<l.length then(1,0) else Fz pt0 0 l
def VC(l:List Aw)(s:Pt)(j:Nat)(h:j<l.length):Fz s j (l.drop j)=if 0<wrong s l[j] then(wrong s l[j],j) else Fz (next s l[j].code) (j+1) (l.drop (j+1)):=by rw[GH h];rfl
def VZ(l:List Aw)(s:Pt)(j:Nat)(h:l.length<=j):Fz s j (l.drop j)=if 0<s.bits then(9,j) else(0,0):=by rw[IJ h];rfl
def Pt.good(s:Pt):Prop:=0<=s.bits/\s.bits<=16/\0<=s.forks/\s.forks<=8/\(s.bits=0->s=pt0)
def JZ:pt0.good:=⟨BZ,BZ,BZ,BZ,λ_=>rfl⟩
def Oh(s:Pt)(i:Aw):0<=wrong s i/\wrong s i<=8:=by
 unfold wrong;repeat' split
 all_goals omega
theorem U1{i:Aw}(h:Ju i=true):1<=i.code/\i.code<=11:=by
 unfold Ju at h;split at h
 .cases h
 omega
theorem Ik{s:Pt}{i:Aw}(h:wrong s i=0):Ju i=true/\needs i.code<=s.bits/\¬(i.code=1/\s.bits=16)/\¬(7<=i.code/\1<s.bits)/\¬(s.seen=true/\s.bits=low i.code/\(i.code=3\/i.code=6\/i.code=5))/\
  ¬(i.code=7/\s.forks=8)/\¬((i.code=8\/i.code=9)/\s.forks=0)/\¬(i.code=11/\0<s.forks)/\¬((i.code=8\/i.code=9\/i.code=11)/\s.coil=false):=by
 unfold wrong at h;split at h
 .omega
 rename_i d;split at h
 .omega
 rename_i m;split at h
 .omega
 rename_i b;split at h
 .omega
 rename_i j;split at h
 .omega
 rename_i f;split at h
 .omega
 rename_i g;split at h
 .omega
 rename_i l;split at h
 .omega
 rename_i a;split at h
 .omega
 rename_i e;exact⟨xBo,BS,b,j,f,g,l,a,e⟩
theorem Vp{s:Pt}{i:Aw}(g:s.good)(h:wrong s i=0):(next s i.code).good:=by
 have⟨o,f,r,v,_,t,q,_,_⟩:=Ik h;obtain⟨a,b,c,d,e⟩:=g;have u:=U1 o;unfold next
 by_cases m:i.code=11
 .rw[BR m];exact JZ
 rw[BQ m];unfold needs at f;refine⟨?_,?_,?_,?_,?_⟩
 .show 0<=(if i.code=1 then s.bits+1 else if i.code=4\/i.code=5 then s.bits - 1 else s.bits);split;{omega};split<;>omega
 .show(if i.code=1 then s.bits+1 else if i.code=4\/i.code=5 then s.bits - 1 else s.bits)<=16;split;{omega};split<;>omega
 .show 0<=(if i.code=7 then s.forks+1 else if i.code=9 then s.forks - 1 else s.forks);split;{omega};split<;>omega
 .show(if i.code=7 then s.forks+1 else if i.code=9 then s.forks - 1 else s.forks)<=8;split;{omega};split<;>omega
 intro p;exfalso;have j:(if i.code=1 then s.bits+1 else if i.code=4\/i.code=5 then s.bits - 1 else s.bits)=0:=p;by_cases n:i.code=1
 .rw[BR n]at j;clear f;omega
 rw[BQ n]at j f;by_cases l:i.code=4\/i.code=5
 .rw[BR l]at j f;omega
 rw[BQ l]at j f;omega
def rule(k:Nat)(s:Pt)(i:Aw):Bool:=
 match k with
 |0=>!Ju i
 |1=>decide (s.bits<needs i.code)
 |2=>decide (i.code=1) && decide (s.bits=16)
 |3=>if i.code=7\/i.code=8\/i.code=9\/i.code=10\/i.code=11 then decide (1<s.bits) else false
 |4=>if i.code=3\/i.code=6 then s.seen && decide (s.bits=1) else if i.code=5 then s.seen && decide (s.bits=2) else false
 |5=>if i.code=7 then decide (s.forks=8) else if i.code=8\/i.code=9 then decide (s.forks=0) else if i.code=11 then decide (s.forks≠0) else false
 |_=>if i.code=8\/i.code=9\/i.code=11 then !s.coil else false
theorem WN{s:Pt}(i:Aw)(_g0:0<=s.bits)(g:0<=s.forks):
  wrong s i=if rule 0 s i then 2 else if rule 1 s i then 3 else if rule 2 s i then 4 else if rule 3 s i then 5 else if rule 4 s i then 6 else if rule 5 s i then 7 else if rule 6 s i then 8 else 0:=by
 cases a:Ju i with
 |true=>
  have d:=U1 a;have b:i.code=1\/i.code=2\/i.code=3\/i.code=4\/i.code=5\/i.code=6\/i.code=7\/i.code=8\/i.code=9\/i.code=10\/i.code=11:=BS;rcases b with h|h|h|h|h|h|h|h|h|h|h;all_goals simp[wrong,rule,needs,low,a,h]
  all_goals grind
 |false=>simp[wrong,rule,a]
def behind(s:Pt)(c:Int):Pt:=⟨if c=1 then s.bits+1 else if c=4\/c=5\/c=11 then s.bits - 1 else s.bits,if c=7 then s.forks+1 else if c=9 then s.forks - 1 else s.forks,decide (c≠11) && (s.seen || c==10 || c==7),c==10⟩
theorem behind_next{s:Pt}{i:Aw}(g:s.good)(h:wrong s i=0):behind s i.code=next s i.code:=by
 have⟨j,n,_,r,_,_,_,o,_⟩:=Ik h;obtain⟨a,b,c,d,e⟩:=g;have q:=U1 j;unfold next behind
 by_cases f:i.code=11
 .rw[BR f];have l:s.bits=1:=by have:needs i.code=1:=(by rw[f];rfl);omega
  have m:s.forks=0:=BS;simp[f,l,m,pt0]
 rw[BQ f];simp[f]
def Az5{s:Pt}(g:s.good):(s=pt0)↔s.bits<=0:=by
 constructor
 .rintro rfl;decide
 intro h;exact g.2.2.2.2 (by have:=g.1;omega)
theorem vL{s:Pt}{i:Aw}(g:s.good)(k:Nat)(e:k<7)(a:∀q,q<k->rule q s i=false)(b:rule k s i=true):wrong s i=(k+2:Nat):=by
 rw[WN i g.1 g.2.2.1];have d:k=0\/k=1\/k=2\/k=3\/k=4\/k=5\/k=6:=BS;rcases d with rfl|rfl|rfl|rfl|rfl|rfl|rfl
 .simp[b]
 .simp[a 0 BS,b]
 .simp[a 0 BS,a 1 BS,b]
 .simp[a 0 BS,a 1 BS,a 2 BS,b]
 .simp[a 0 BS,a 1 BS,a 2 BS,a 3 BS,b]
 .simp[a 0 BS,a 1 BS,a 2 BS,a 3 BS,a 4 BS,b]
 simp[a 0 BS,a 1 BS,a 2 BS,a 3 BS,a 4 BS,a 5 BS,b]
def ya{s:Pt}{i:Aw}(g:s.good)(a:∀q,q<7->rule q s i=false):wrong s i=0:=by rw[WN i g.1 g.2.2.1];simp[a 0 BS,a 1 BS,a 2 BS,a 3 BS,a 4 BS,a 5 BS,a 6 BS]
theorem sB(l:List Aw):∀(s:Pt)(k:Nat),¬0<(Fz s k l).1->(Fz s k l).1=0/\(Fz s k l).2=0:=by induction l with|nil=>intro s k h;unfold Fz at h⊢;by_cases a:0<s.bits;{rw[BR a]at h;exact absurd (show(0:Int)<9 by decide) h};rw[BQ a];exact⟨rfl,rfl⟩|cons i r b=>intro s k h;unfold Fz at h⊢;by_cases a:0<wrong s i;{rw[BR a]at h;exact absurd a h};rw[BQ a]at h⊢;exact b _ _ h
theorem Nw(l:List Aw)(h:¬0<(Be l).1):(Be l).1=0/\(Be l).2=0:=by
 unfold Be at h⊢;by_cases a:1000<l.l
 .rw[BR a]at h;exact absurd (show(0:Int)<1 by decide) h
 rw[BQ a]at h⊢;exact sB l _ _ h
def Dn:List Aw->List Aw->List (List Aw)
 |_,[]=>[]
 |cs,i::r=>if i.code=11 then(cs++[i])::Dn [] r else Dn (cs++[i]) r
def rK(cs l:List Aw)(j:Nat)(h:j<l.length):Dn cs (l.drop j)=if l[j].code=11 then(cs++[l[j]])::Dn [] (l.drop (j+1)) else Dn (cs++[l[j]]) (l.drop (j+1)):=by rw[GH h];rfl
def Ef(l:List Aw):List (List Aw):=if 0<(Be l).1 then [] else Dn [] l
theorem Ws{l:List Aw}(h:(Be l).1=0):l.length<=1000:=by
 unfold Be at h;by_cases a:1000<l.length
 .rw[BR a]at h;exact absurd h BZ
 omega
theorem VI(l:List Aw):∀(b r:List Aw),r∈Dn b l->0<r.length/\(∀x∈r,x∈b\/x∈l)/\r.length<=b.length+l.length:=by induction l with|nil=>intro b r h;simp[Dn]at h|cons i t g=>intro b r h;rw[Dn]at h;by_cases j:i.code=11;{rw[BR j]at h;rcases BD.1 h with rfl|h;{refine⟨BU,λx a=>?_,BU⟩;rcases BI.1 a with a|a;{exact .inl a};exact .inr (by simp[BB.1 a])};have⟨d,e,f⟩:=g [] r h;refine⟨d,λx a=>?_,by simp at f⊢;omega⟩;rcases e x a with h|h;{cases h};exact .inr (DY _ h)};rw[BQ j]at h;have⟨d,e,f⟩:=g (b++[i]) r h;refine⟨d,λx a=>?_,by simp at f⊢;omega⟩;rcases e x a with h|h;{rcases BI.1 h with h|h;{exact .inl h};exact .inr (by simp[BB.1 h])};exact .inr (DY _ h)
def sH(l:List Aw):∀a:List Aw,(Dn a l).length<=l.length:=by induction l with|nil=>intro a;simp[Dn]|cons i t b=>intro a;rw[Dn];split;{have:=b [];simp;omega};have:=b (a++[i]);simp;omega
def Du(k:Int)(l:List DI):List DI:=l.flatMap λn=>if n.kind=k then n.K else [n]
def Jk(k:Int)(ks:List DI):DI:=if h:ks.length=1 then ks[0] else⟨k,⟨0,[]⟩,ks⟩
def Ce:DI->DI
 |⟨k,e,kids⟩=>if k=2\/k=3 then Jk k (Du k (kids.map Ce)) else⟨k,e,kids.map Ce⟩
def Jt(k:Int)(e:Elem)(kids:List DI):Ce ⟨k,e,kids⟩=if k=2\/k=3 then Jk k (Du k (kids.map Ce)) else⟨k,e,kids.map Ce⟩:=by rw[Ce]
def Md(k:Int)(a b:List DI):Du k (a++b)=Du k a++Du k b:=by simp[Du]
def O0(k:Int)(n:DI):Du k [n]=if n.kind=k then n.K else [n]:=by simp[Du]
def sizes(l:List DI):Nat:=(l.map Ac).sum
def Om(a b:List DI):sizes (a++b)=sizes a+sizes b:=xCd
theorem Dk(n:DI):Ac n=1+sizes n.K:=by obtain⟨k,e,kids⟩:=n;exact Qc k e kids
def F5(l:List DI):l.length<=sizes l:=by induction l with|nil=>simp[sizes]|cons x r a=>have:=Dk x;simp only[sizes,DX,FK,DO]at a⊢;omega
def Ld(k:Int)(l:List DI):sizes (Du k l)<=sizes l:=by
 induction l with
 |nil=>simp[Du,sizes]
 |cons x r b=>
  have e:x::r=[x]++r:=rfl;rw[e,Md,Om,Om,O0];have h:sizes (if x.kind=k then x.K else [x])<=sizes [x]:=by have a:sizes [x]=Ac x:=xCd;split;{have:=Dk x;omega};exact DK _
  omega
theorem WL(k:Int)(ks:List DI):Ac (Jk k ks)<=1+sizes ks:=by
 unfold Jk;split
 .rename_i h;have a:=Ey Ac ks ks[0] (DW _);unfold sizes;omega
 rw[Dk];exact DK _
theorem Vn(n:DI):Ac (Ce n)<=Ac n:=by
 refine Gs (λn=>Ac (Ce n)<=Ac n) ?_ n;intro k e kids b;have j:sizes (kids.map Ce)<=sizes kids:=by
  clear n;induction kids with
  |nil=>simp[sizes]|cons x r f=>have d:=b x BU;have a:=f (λy g=>b y (DY _ g));simp only[sizes,DX,FK]at a⊢;omega
 rw[Jt];have i:Ac ⟨k,e,kids⟩=1+sizes kids:=Dk _;split
 .have d:=WL k (Du k (kids.map Ce));have a:=Ld k (kids.map Ce);omega
 rw[Dk];simp only;omega
def YW(l:List DI):sizes (l.map Ce)<=sizes l:=by induction l with|nil=>simp[sizes]|cons x r a=>have b:=Vn x;simp only[sizes,DX,FK]at a⊢;omega
def XT(l:List DI)(n:Nat):sizes (l.take n)<=sizes l:=by have h:=Om (l.take n) (l.drop n);rw[KC]at h;omega
def fi(k:Int)(l:List DI)(n:Nat):(Du k ((l.take n).map Ce)).length<=sizes (l.map Ce):=by have b:=F5 (Du k ((l.take n).map Ce));have d:=Ld k ((l.take n).map Ce);have a:=XT (l.map Ce) n;rw[<-List.map_take]at a;omega
def fj(k:Int)(l:List DI)(j:Nat)(h:j<l.length):Du k ((l.take (j+1)).map Ce)=Du k ((l.take j).map Ce)++(if(Ce l[j]).kind=k then(Ce l[j]).K else [Ce l[j]]):=by rw[ER h,D2,Md];congr 1;exact O0 k _
theorem Xa(l:List Int)(h:∀x∈l,0<=x)(h0:Az l=0):∀x∈l,x=0:=by
 induction l with
 |nil=>intro x a;cases a
 |cons y r d=>unfold Az at h0;have e:=h y BU;split at h0;{omega};intro x a;rcases BD.1 a with rfl|a;{omega};exact d (λz b=>h z (by simp[b])) h0 x a
theorem Fq{e:Elem}{kids:List DI}(h:Am ⟨k,e,kids⟩=0):
  (k=1/\kids=[])\/((k=2\/k=3)/\0<kids.length/\∀x∈kids,Am x=0)\/(k=4/\e=⟨0,[]⟩/\∃x,kids=[x]/\Am x=0):=by
 rw[Kr]at h;by_cases d:k=1
 .rw[BR d]at h;refine .inl ⟨d,?_⟩;by_cases a:0<kids.l;{rw[BR a]at h;omega};exact BL.1 BS
 rw[BQ d]at h;by_cases a:V6 k e.op e.args.l kids.l=true
 .rw[BR a]at h;omega
 rw[BQ a]at h;have l:=Xa _ (λx b=>by obtain⟨n,_,rfl⟩:=BM.1 b;exact(La n).1) h;have f:=λx b=>l _ (BM.2 ⟨x,b,rfl⟩);simp only[V6,Bool.or_eq_true,decide_eq_true_eq,bne_iff_ne,ne_eq,E0,Bool.and_eq_true,not_or,not_and,Decidable.not_not]at a;obtain⟨⟨⟨⟨⟨r,s⟩,g⟩,o⟩,t⟩,m⟩:=a;by_cases i:k=4
 .refine .inr (.inr ⟨i,?_,?_⟩);{obtain⟨op,args⟩:=e;simp only at g o;have:args=[]:=BL.1 BS;subst this;subst g;rfl};have q:=m i;have j:kids.l=1:=BS;obtain⟨x,rfl⟩:=List.length_eq_one_iff.1 j;exact⟨x,rfl,f x BU⟩
 exact .inr (.inl ⟨BS,BS,f⟩)
def YZ{e:Elem}{kids:List DI}(h:Ac ⟨k,e,kids⟩<=c):sizes (kids.map Ce)<=c/\∀x∈kids,Ac x<=c:=by have a:=YW kids;rw[Qc]at h;refine⟨by unfold sizes at a⊢;omega,λx b=>?_⟩;have:=Ey Ac kids x b;omega
def Xo:DI->Prop
 |⟨k,_,kids⟩=>((k=2\/k=3)->kids.length≠1/\∀x∈kids,x.kind≠k)/\∀p∈kids.map Xo,p
theorem Jv(n:DI):Xo n↔((n.kind=2\/n.kind=3)->n.K.length≠1/\∀x∈n.K,x.kind≠n.kind)/\∀x∈n.K,Xo x:=by obtain⟨k,e,kids⟩:=n;rw[Xo,all_map]
def wx(k:Int)(l:List DI)(h:∀x∈l,x.kind≠k):Du k l=l:=by induction l with|nil=>rfl|cons x r a=>have e:x::r=[x]++r:=rfl;rw[e,Md,O0,BQ (h x BU),a (λy b=>h y (DY _ b))]
theorem sX(k:Int)(f:k=2\/k=3)(l:List DI)(h:∀x∈l,Xo x):∀x∈Du k l,x.kind≠k/\Xo x:=by
 intro x a;have⟨y,d,a⟩:=List.mem_flatMap.1 a;have b:=(Jv y).1 (h y d);split at a
 .rename_i e;refine⟨?_,b.2 x a⟩;have:=(b.1 (by rwa[e])).2 x a;rwa [e]at this
 rename_i e;rw[BB.1 a];exact⟨e,h y d⟩
theorem vp(n:DI):Xo (Ce n):=by
 refine Gs (λn=>Xo (Ce n)) ?_ n;intro k e kids f;have d:∀x∈kids.map Ce,Xo x:=by intro x a;obtain⟨y,g,rfl⟩:=BM.1 a;exact f y g
 rw[Jt];split
 .rename_i b;have hF:=sX k b _ d;unfold Jk;split;{exact(hF _ (DW _)).2};rename_i i;rw[Jv];exact⟨λ_=>⟨i,λx a=>(hF x a).1⟩,λx a=>(hF x a).2⟩
 rename_i b;rw[Jv];exact⟨λh=>absurd h b,d⟩
def Tv:DI->Prop
 |⟨k,e,kids⟩=>((k=2\/k=3)->e=⟨0,[]⟩)/\∀p∈kids.map Tv,p
theorem Jl(n:DI):Tv n↔((n.kind=2\/n.kind=3)->n.O=⟨0,[]⟩)/\∀x∈n.K,Tv x:=by obtain⟨k,e,kids⟩:=n;rw[Tv,all_map]
theorem tU(n:DI):Tv (Ce n):=by
 refine Gs (λn=>Tv (Ce n)) ?_ n;intro k e kids g;have d:∀x∈kids.map Ce,Tv x:=by intro x a;obtain⟨y,b,rfl⟩:=BM.1 a;exact g y b
 have hF:∀x∈Du k (kids.map Ce),Tv x:=by intro x a;have⟨y,b,a⟩:=List.mem_flatMap.1 a;have f:=(Jl y).1 (d y b);split at a;{exact f.2 x a};rw[BB.1 a];exact d y b
 rw[Jt];split
 .unfold Jk;split;{exact hF _ (DW _)};rw[Jl];exact⟨λ_=>rfl,hF⟩
 rename_i i;rw[Jl];exact⟨λh=>absurd h i,d⟩
theorem Ayo(n:DI):Xo n->Tv n->Ce n=n:=by
 refine Gs (λn=>Xo n->Tv n->Ce n=n) ?_ n;intro k e kids j g i;have a:=(Jv _).1 g;have f:=(Jl _).1 i;simp only at a f;have h:kids.map Ce=kids:=by have:kids.map Ce=kids.map id:=LJ (λx d=>j x d (a.2 x d) (f.2 x d));rw[this,List.map_id]
 rw[Jt,h];split
 .rename_i b;rw[wx k kids (a.1 b).2];unfold Jk;rw[dif_neg (a.1 b).1,f.1 b]
 rfl
theorem Rb{ks:List DI}(j:k=2\/k=3)(h0:0<ks.length)(h:∀x∈ks,Am x=0):Am ⟨k,⟨0,[]⟩,ks⟩=0:=by
 rw[Kr,BQ BS];have a:V6 k 0 0 ks.length=false:=by unfold V6;have e:decide (k<2)=false:=xCl;have f:decide (4<k)=false:=xCl;have b:((ks.length:Int)==0)=false:=xAf;have g:(k==4)=false:=xAf;simp[e,f,b,g]
 rw[BQ (by simp only[DU,a];exact GF)];clear h0 a;induction ks with
 |nil=>rfl|cons x r d=>rw[DX,Az,BQ (by rw[h x BU];omega)];exact d (λy i=>h y (DY _ i))
theorem Aty{n:DI}(h:Am n=0)(d:n.kind=2\/n.kind=3):0<n.K.length/\∀x∈n.K,Am x=0:=by
 obtain⟨k,e,kids⟩:=n;simp only at d⊢;rcases Fq h with⟨a,_⟩|⟨_,b,f⟩|⟨a,_⟩
 .omega
 .exact⟨b,f⟩
 omega
theorem Avl(f:k=2\/k=3){l:List DI}(h0:0<l.length)(h:∀x∈l,Am x=0):0<(Du k l).length/\∀x∈Du k l,Am x=0:=by
 have d:∀x∈l,0<(Du k [x]).length/\∀y∈Du k [x],Am y=0:=by intro x b;rw[O0];split;{rename_i e;exact Aty (h x b) (by rwa[e])};exact⟨BU,λy a=>by rw[BB.1 a];exact h x b⟩
 refine⟨?_,λy a=>?_⟩
 .obtain⟨x,r,rfl⟩:=PE (List.ne_nil_of_length_pos h0);have e:x::r=[x]++r:=rfl;rw[e,Md,DT];have:=(d x BU).1;omega
 have⟨x,b,a⟩:=List.mem_flatMap.1 a;refine(d x b).2 y ?_;rwa[O0]
def xU(a:k=2\/k=3){l:List DI}(h0:0<l.length)(h:∀x∈l,Am x=0):Am (Jk k (Du k l))=0:=by
 have⟨d,b⟩:=Avl a h0 h;unfold Jk;split
 .exact b _ (DW _)
 exact Rb a d b
theorem Aud(n:DI):Am n=0->Am (Ce n)=0:=by
 refine Gs (λn=>Am n=0->Am (Ce n)=0) ?_ n;intro k e kids d h;have i:=h;rw[Jt];rcases Fq h with⟨rfl,rfl⟩|⟨f,j,l⟩|⟨rfl,rfl,x,rfl,a⟩
 .rwa[BQ BS]
 .rw[BR f];refine xU f (by simpa using j) (λx a=>?_);obtain⟨y,b,rfl⟩:=BM.1 a;exact d y b (l y b)
 rw[BQ BS];have b:=d x BU a;rw[Kr,BQ BS];have g:V6 4 (⟨0,[]⟩:Elem).op (⟨0,[]⟩:Elem).args.l ([x].map Ce).l=false:=Bn;rw[BQ (by rw[g];exact GF)];simp only[DX,FD,Az];rw[BQ BS]
def fine(n:DI):Prop:=Xo n/\Tv n/\Am n=0
def RF{n:DI}(h:Am n=0):fine (Ce n):=⟨vp n,tU n,Aud n h⟩
def NW{n:DI}(h:fine n):Ce n=n:=Ayo n h.1 h.2.1
def none0:DI:=⟨0,⟨0,[]⟩,[]⟩
theorem U3{n:DI}(h:Ai n=true):n=none0:=by obtain⟨k,⟨op,args⟩,kids⟩:=n;simp only[Ai,Bool.and_eq_true,E0]at h;obtain⟨⟨⟨a,b⟩,g⟩,e⟩:=h;have d:=BL.1 g;have f:=BL.1 e;subst d f a b;rfl
theorem Yf{n:DI}(h:fine n):Ai n=false:=by cases d:Ai n with|false=>rfl|true=>have e:=U3 d;have a:=h.2.2;rw[e]at a;unfold none0 at a;rcases Fq a with⟨b,_⟩|⟨b,_⟩|⟨b,_⟩<;>omega
def Jm(a b:DI):DI:=if Ai a then b else if Ai b then a else Jk 2 (Du 2 [a,b])
def ZF{l:List DI}(h0:0<l.length)(h:∀x∈l,fine x):fine (Jk 2 (Du 2 l)):=by
 have b:l.map Ce=l:=by have:l.map Ce=l.map id:=LJ (λx a=>NW (h x a));rw[this,List.map_id]
 have e:Jk 2 (Du 2 l)=Ce ⟨2,⟨0,[]⟩,l⟩:=by rw[Jt,BR (.inl rfl),b]
 rw[e];exact RF (Rb (.inl rfl) h0 (λx a=>(h x a).2.2))
def Gp(n:DI):Prop:=Ai n=true\/fine n
theorem Wu{a b:DI}(f:Gp a)(e:Gp b):Gp (Jm a b):=by
 unfold Jm;split
 .exact e
 rename_i g;split
 .exact f
 rename_i i;refine .inr (ZF BU (λx d=>?_));rcases BD.1 d with rfl|d
 .rcases f with h|h;{exact absurd h g};exact h
 rw[BB.1 d];rcases e with h|h
 .exact absurd h i
 exact h
def I4(l:List DJ):Nat:=(l.map Ah).sum
def Jc:Nat->DJ->DJ
 |0,a=>a
 |f+1,a=>match a.K with
  |[b]=>if a.C=[]\/Ai b.N=true then Jc f ⟨Jm a.N b.N,a.C++b.C,b.K⟩ else a
  |_=>a
theorem Nc(a:DJ):1+I4 a.K<=Ah a:=by obtain⟨n,c,kids⟩:=a;rw[S9];unfold I4;simp only;omega
theorem tt(f:Nat):∀a:DJ,I4 a.K<=f->Jc f a=Jc (f+1) a:=by
 induction f with
 |zero=>
  intro a h;rw[Jc];conv=>rhs;rw[Jc]
  split;{rename_i b e;rw[e]at h;have:=Nc b;simp[I4]at h;omega};rfl
 |succ f d=>
  intro a h;rw[Jc];conv=>rhs;rw[Jc]
  split;{rename_i b e;split;{refine d _ ?_;rw[e]at h;have:=Nc b;simp only[I4,DX,FD,FK,MU]at h this⊢;omega};rfl};rfl
def joined(a:DJ):DJ:=Jc (I4 a.K) a
def Aus(a:DJ):∀f,I4 a.K<=f->Jc f a=joined a:=by
 intro f h;obtain⟨d,rfl⟩:=Nat.exists_eq_add_of_le h;clear h;induction d with
 |zero=>rfl|succ d b=>rwa[<-Nat.add_assoc,<-tt _ a BS]
def WS(n:DI)(c:List Elem)(kid:DJ)(h:c=[]\/Ai kid.N=true):joined ⟨n,c,[kid]⟩=joined ⟨Jm n kid.N,c++kid.C,kid.K⟩:=by
 have b:I4 [kid]=Ah kid:=by simp[I4]
 have d:=Nc kid;unfold joined;simp only;rw[b];obtain⟨f,a⟩:∃f,Ah kid=f+1:=⟨Ah kid - 1,BS⟩;rw[a,Jc];simp only;rw[BR h];exact Aus _ f yCh
theorem P1(a:DJ)(h:∀b,a.K=[b]->¬(a.C=[]\/Ai b.N=true)):joined a=a:=by
 unfold joined;cases d:I4 a.K with
 |zero=>rfl|succ f=>rw[Jc];split;{rename_i b e;rw[BQ (h b e)]};rfl
def Dz:DJ->DJ
 |⟨n,a,kids⟩=>joined ⟨if Ai n then n else Ce n,a,kids.map Dz⟩
def Auf(n:DI)(a:List Elem)(kids:List DJ):Dz ⟨n,a,kids⟩=joined ⟨if Ai n then n else Ce n,a,kids.map Dz⟩:=by rw[Dz]
def Avp:(⟨0,[]⟩:Elem).fits:=⟨by show i64 0;unfold i64;omega,BU,BU⟩
def cK{l:List DI}(h:∀x∈l,Cj x):∀x∈Du k l,Cj x:=by
 intro x a;have⟨y,b,a⟩:=List.mem_flatMap.1 a;split at a
 .exact(D8 (h y b)).2.2.2 x a
 rw[BB.1 a];exact h y b
def ZE(a:i64 k){l:List DI}(h:∀x∈l,Cj x)(hl:l.length<=1048576):Cj (Jk k l):=by
 unfold Jk;split
 .exact h _ (DW _)
 exact(Hg _ _ _).2 ⟨a,Avp,hl,h⟩
theorem vU{a b:DI}(f:Cj a)(e:Cj b)(j:Ac a+Ac b<=1000000):Cj (Jm a b):=by
 unfold Jm;split
 .exact e
 split
 .exact f
 refine ZE yCg (cK (λx d=>?_)) ?_
 .rcases BD.1 d with rfl|d;{exact f};rwa[BB.1 d]
 have g:=F5 (Du 2 [a,b]);have i:=Ld 2 [a,b];have l:sizes [a,b]=Ac a+Ac b:=xCd;omega
def CJ(n:DI):Nat:=if Ai n then 0 else Ac n
def TY(n:DI):CJ n<=Ac n:=by unfold CJ;split<;>omega
theorem size_le(n:DI):Ac n<=1+CJ n:=by
 unfold CJ;split
 .rename_i h;rw[U3 h];show Ac ⟨0,⟨0,[]⟩,[]⟩<=_;rw[Qc];simp
 omega
theorem vS(a b:DI):CJ (Jm a b)<=CJ a+CJ b+1:=by
 unfold Jm;split
 .omega
 rename_i d;split
 .omega
 rename_i e;refine DR (TY _) ?_;have j:=WL 2 (Du 2 [a,b]);have g:=Ld 2 [a,b];have i:sizes [a,b]=Ac a+Ac b:=xCd;have f:CJ a=Ac a:=BQ d;have h:CJ b=Ac b:=BQ e;omega
def Dw(n:DI)(c:List Elem)(kids:List DJ):Ah ⟨n,c,kids⟩=1+c.length+CJ n+I4 kids:=by rw[S9];rfl
def GL(c:Nat)(b:DJ):Prop:=Bh b/\Ah b<=c
def Pi(l:List DJ):l.length<=I4 l:=by
 unfold I4;induction l with
 |nil=>simp|cons x r a=>have:=Nc x;simp only[DO,DX,FK];omega
def QX(k:DJ):I4 [k]=Ah k:=by simp[I4]
theorem SZ{n:DI}{cs:List Elem}{kid:DJ}(h:GL c ⟨n,cs,[kid]⟩)(o:c<=900000):GL c ⟨Jm n kid.N,cs++kid.C,kid.K⟩/\sizes [n,kid.N]<=999999/\Cj n/\Cj kid.N/\cs.length+kid.C.length<=1000000/\I4 kid.K<I4 [kid]:=by
 obtain⟨i,f⟩:=h;rw[Dw,QX]at f;obtain⟨e,j,g⟩:=kid;rw[Dw]at f;rw[QX,Dw];simp only;have d:=(Fa _ _ _).1 i;have b:=(Fa _ _ _).1 (d.2.2.2.2 ⟨e,j,g⟩ BU);have l:=size_le n;have m:=size_le e;have q:=vS n e;refine⟨⟨(Fa _ _ _).2 ⟨vU d.1 b.1 BS,xCn,λx a=>?_,b.2.2.2⟩,?_⟩,by simp[sizes];omega,d.1,b.1,BS,BS⟩
 .rcases BI.1 a with a|a;{exact d.2.2.1 x a};exact b.2.2.1 x a
 rw[Dw,DT];omega
theorem Ys(a:c<=900000):∀(f:Nat)(b:DJ),GL c b->GL c (Jc f b)
 |0,b,h=>h
 |f+1,⟨n,g,kids⟩,h=>by
  rw[Jc];split
  .rename_i d e
   simp only at e;subst e;split
   .exact Ys a f _ (SZ h a).1
   .exact h
  .exact h
def Aza(a:c<=900000)(b:DJ)(h:GL c b):GL c (joined b):=Ys a _ b h
theorem Aue(n:DI):Cj n->Ac n<=1000000->Cj (Ce n):=by
 refine Gs (λn=>Cj n->Ac n<=1000000->Cj (Ce n)) ?_ n;intro k e kids f h j;rw[Jt];have a:=(Hg _ _ _).1 h;have l:sizes kids<Ac ⟨k,e,kids⟩:=by rw[Dk];simp only;omega
 have b:∀x∈kids.map Ce,Cj x:=by intro x b;obtain⟨y,d,rfl⟩:=BM.1 b;have:Ac y<=sizes kids:=Ey Ac kids y d;exact f y d (a.2.2.2 y d) BS
 split
 .refine ZE a.1 (cK b) ?_;have g:=F5 (Du k (kids.map Ce));have i:=Ld k (kids.map Ce);have m:=YW kids;omega
 exact(Hg _ _ _).2 ⟨a.1,a.2.1,by rw[DZ];exact a.2.2.1,b⟩
def U4(n:DI):DI:=if Ai n then n else Ce n
def Aul{n:DI}(h:Cj n)(a:CJ n<=900000):Cj (U4 n):=by
 unfold U4;split
 .exact h
 exact Aue n h (by have:=size_le n;omega)
theorem Auj(n:DI):CJ (U4 n)<=CJ n:=by
 unfold U4;split
 .exact DK _
 rename_i h;have e:CJ n=Ac n:=BQ h;rw[e];exact DR (TY _) (Vn n)
def Ov(n:DI)(c:List Elem)(kids:List DJ):Dz ⟨n,c,kids⟩=joined ⟨U4 n,c,kids.map Dz⟩:=Auf n c kids
theorem SA{n:DI}{c:List Elem}{kids:List DJ}(i:Bh ⟨n,c,kids⟩)(g:Ah ⟨n,c,kids⟩<=900000)(e:∀x∈kids,GL (Ah x) (Dz x)):GL (Ah ⟨n,c,kids⟩) ⟨U4 n,c,kids.map Dz⟩:=by
 have d:=(Fa _ _ _).1 i;rw[Dw]at g⊢;have m:=Auj n;have o:I4 (kids.map Dz)<=I4 kids:=by
  clear i g d;induction kids with
  |nil=>simp|cons x r j=>have a:=(e x BU).2;have b:=j (λy f=>e y (DY _ f));simp only[I4,DX,FK]at b⊢;omega
 refine⟨(Fa _ _ _).2 ⟨Aul d.1 BS,d.2.1,d.2.2.1,by rw[DZ];exact d.2.2.2.1,λx l=>?_⟩,by rw[Dw];omega⟩;obtain⟨y,f,rfl⟩:=BM.1 l;exact(e y f).1
theorem Yy(a:DJ):Bh a->Ah a<=900000->GL (Ah a) (Dz a):=by refine Fv (λa=>Bh a->Ah a<=900000->GL (Ah a) (Dz a)) ?_ a;intro n c kids f e d;rw[Ov];have g:=(Fa _ _ _).1 e;refine Aza d _ (SA e d (λx b=>f x b (g.2.2.2.2 x b) ?_));have:Ah x<=I4 kids:=Ey Ah kids x b;rw[Dw]at d;omega
def Em:DJ->Prop
 |⟨n,_,kids⟩=>Gp n/\∀p∈kids.map Em,p
def Ec(n:DI)(c:List Elem)(kids:List DJ):Em ⟨n,c,kids⟩↔Gp n/\∀x∈kids,Em x:=by rw[Em,all_map]
def NV{n:DI}{cs:List Elem}{kid:DJ}(h:Em ⟨n,cs,[kid]⟩):Em ⟨Jm n kid.N,cs++kid.C,kid.K⟩/\Gp n/\Gp kid.N:=by obtain⟨e,f,d⟩:=kid;have a:=(Ec _ _ _).1 h;have b:=(Ec _ _ _).1 (a.2 ⟨e,f,d⟩ BU);exact⟨(Ec _ _ _).2 ⟨Wu a.1 b.1,b.2⟩,a.1,b.1⟩
theorem WA:∀(f:Nat)(b:DJ),Em b->Em (Jc f b)
 |0,b,h=>h
 |f+1,⟨n,d,kids⟩,h=>by
  rw[Jc];split
  .rename_i a e
   simp only at e;subst e;split
   .exact WA f _ (NV h).1
   .exact h
  .exact h
def vy(b:DJ)(h:Em b):Em (joined b):=WA _ b h
theorem Sl{n:DI}(h:Ai n=true\/Am n=0):Gp (U4 n):=by
 unfold U4;split
 .rename_i a;exact .inl a
 rename_i a;rcases h with h|h
 .exact absurd h a
 exact .inr (RF h)
def Lp:DJ->Prop
 |⟨n,_,kids⟩=>(Ai n=true\/Am n=0)/\∀p∈kids.map Lp,p
def Qi(n:DI)(c:List Elem)(kids:List DJ):Lp ⟨n,c,kids⟩↔(Ai n=true\/Am n=0)/\∀x∈kids,Lp x:=by rw[Lp,all_map]
theorem Uo(a:DJ):Lp a->Em (Dz a):=by refine Fv (λa=>Lp a->Em (Dz a)) ?_ a;intro n c kids e h;have b:=(Qi _ _ _).1 h;rw[Ov];refine vy _ ((Ec _ _ _).2 ⟨Sl b.1,λx f=>?_⟩);obtain⟨y,d,rfl⟩:=BM.1 f;exact e y d (b.2 y d)
theorem Wz(a:DJ):Cb a=0->Lp a:=by
 refine Fv (λa=>Cb a=0->Lp a) ?_ a;intro n c kids f h;rw[Xg]at h;have b:Cm ⟨n,c,kids⟩=0:=by have:=Qj ⟨n,c,kids⟩;split at h<;>omega
 rw[BQ BS]at h;refine(Qi _ _ _).2 ⟨?_,λx d=>f x d ?_⟩
 .unfold Cm at b;simp only at b;cases e:Ai n with
  |true=>exact .inl rfl|false=>refine .inr ?_;have:=La n;simp only[e]at b;split at b;{simp at*;omega};simp at*;omega
 exact Xa _ (λy g=>by obtain⟨z,_,rfl⟩:=BM.1 g;exact(Qr z).1) h _ (BM.2 ⟨x,d,rfl⟩)
def Aj(l:List DJ):List DJ:=if(Ap l).1=0 then l.map Dz else []
theorem Zj:∀(l:List DJ)(k:Nat),(Ej l k).1=0->(Ej l k).2=0/\∀x∈l,Fh x=0
 |[],_,_=>⟨rfl,λx b=>by cases b⟩
 |a::r,k,h=>by
  rw[Ej]at h⊢;have g:=Tj a;by_cases d:0<Fh a
  .rw[BR d]at h;simp only at h;omega
  .rw[BQ d]at h⊢
   have⟨e,f⟩:=Zj r (k+1) h;refine⟨e,λx b=>?_⟩;rcases BD.1 b with rfl|b
   .omega
   .exact f x b
theorem Ax0{a:DJ}(h:Fh a=0):Ai a.N=false/\Cb a=0:=by
 unfold Fh at h;cases b:Ai a.N with
 |true=>rw[b]at h;simp at h|false=>rw[b]at h;exact⟨rfl,C5⟩
theorem Nr{l:List DJ}(h:(Ap l).1=0):(Ap l).2=0/\l.length<=40/\Au l<=400/\∀x∈l,Ai x.N=false/\Cb x=0:=by
 unfold Ap at h⊢;by_cases a:40<l.l\/400<Au l
 .rw[BR a]at h;simp at h
 rw[BQ a]at h⊢;have⟨b,d⟩:=Zj l 0 h;exact⟨b,BS,BS,λx e=>Ax0 (d x e)⟩
theorem Yd:∀(l:List DJ)(k:Nat),0<=(Ej l k).1/\(Ej l k).1<=5
 |[],_=>by rw[Ej];simp
 |a::r,k=>by
  rw[Ej];have b:=Tj a;split
  .exact b
  .exact Yd r (k+1)
def Tu(l:List DJ):0<=(Ap l).1/\(Ap l).1<=5:=by
 unfold Ap;split
 .simp
 exact Yd l 0
def Ud{l:List DJ}{x:DJ}(hx:x∈l):Ah x<=Au l:=Ey Ah l x hx
def Kz{l:List DJ}(h:(Ap l).1=0){x:DJ}(hx:x∈l):Lp x/\Ah x<=400:=by have⟨_,_,a,b⟩:=Nr h;exact⟨Wz x (b x hx).2,DR (Ud hx) a⟩
def A7(b:Nat)(l:List Nat):Nat:=l.foldl max b
def WR(b:Nat)(l:List Nat)(x:Nat):A7 b (l++[x])=max (A7 b l) x:=by simp[A7]
def VL(b:Nat)(l r:List Nat):A7 b (l++r)=A7 (A7 b l) r:=by simp[A7]
theorem Iu:∀(l:List Nat)(b c:Nat),A7 (max b c) l=max b (A7 c l)
 |[],_,_=>rfl
 |x::r,b,c=>by
  show A7 (max (max b c) x) r=max b (A7 (max c x) r)
  rw[Nat.max_assoc,Iu r]
def P0(l:List Nat)(b:Nat):A7 b l=max b (A7 0 l):=by have:=Iu l b 0;rwa [Nat.max_zero]at this
theorem Yb:∀(l:List Nat)(b c:Nat),b<=c->(∀x∈l,x<=c)->A7 b l<=c
 |[],_,_,h,_=>h
 |x::r,b,c,h,a=>Yb r (max b x) c (Nat.max_le.2 ⟨h,a x BU⟩) (λy d=>a y (DY _ d))
def L8{b:Nat}{l:List Nat}{j:Nat}(h:j<l.length):A7 b (l.take (j+1))=max (A7 b (l.take j)) l[j]:=by rw[ER h,WR]
def Yl(n i x:Nat):Nat:=if i+1<n then x+1 else x
def bump(fs:List Nat):List Nat:=fs.mapIdx (λi x=>Yl fs.length i x)
def Ln(fs:List Nat):(bump fs).length=fs.length:=by simp[bump]
def R9(fs:List Nat)(i:Nat)(h:i<(bump fs).length):(bump fs)[i]=Yl fs.length i (fs[i]'(by rwa [Ln]at h)):=by simp[bump]
theorem ff(fs:List Nat)(z:Nat):bump (fs++[z])=fs.map (·+1)++[z]:=by
 apply List.ext_getElem
 .simp[bump]
 intro i a b;rw[R9];unfold Yl;have d:i<fs.length+1:=by simpa[Ln]using a
 by_cases hi:i<fs.length
 .rw[BR (by rw[DT,FQ];omega),Bdv hi,Bdv yEf,FW]
 obtain rfl:i=fs.length:=by omega
 rw[BQ (by rw[DT,FQ];omega)];simp
def forks:DJ->Nat
 |⟨_,_,kids⟩=>A7 0 (bump (kids.map forks))
def Ut(n:DI)(c:List Elem)(kids:List DJ):forks ⟨n,c,kids⟩=A7 0 (bump (kids.map forks)):=by rw[forks]
def cH(n:DI)(c:List Elem):forks ⟨n,c,[]⟩=0:=by rw[Ut];rfl
def Avj(n:DI)(c:List Elem)(init:List DJ)(z:DJ):forks ⟨n,c,init++[z]⟩=A7 (forks z) (init.map (λk=>1+forks k)):=by rw[Ut,D2,Bck,ff,WR,P0 _ (forks z),Nat.max_comm];congr 2;rw[IP];refine LJ (λx _=>?_);show forks x+1=1+forks x;omega
theorem eL(a:DJ):forks a<=Ah a:=by
 refine Fv (λa=>forks a<=Ah a) ?_ a;intro n c kids d;rw[Ut];refine Yb _ _ _ (EI _) (λx e=>?_);obtain⟨i,hi,rfl⟩:=List.getElem_of_mem e;rw[R9];have b:i<kids.length:=by rwa[Ln,DZ]at hi
 rw[FW];have f:=d kids[i] (DW b);have g:Ah kids[i]<=I4 kids:=Ey Ah kids _ (DW b);rw[Dw];unfold Yl;split<;>omega
def MK(k:Int)(b:Nat):Nat:=if k=1 then 1 else 1+b
def OM(k:Int)(ks:List Int)(bs:List Nat):Nat:=if k=1 then 1 else A7 (bs.headD 0) ((List.zipWith MK ks bs).drop 1)
def Ak:DI->Nat
 |⟨k,_,kids⟩=>OM k (kids.map DI.kind) (kids.map Ak)
def Aq(n:DI):Nat:=MK n.kind (Ak n)
def Yn(k:Int)(e:Elem)(kids:List DI):Ak ⟨k,e,kids⟩=OM k (kids.map DI.kind) (kids.map Ak):=by rw[Ak]
def V4(e:Elem)(kids:List DI):Ak ⟨1,e,kids⟩=1:=by rw[Yn];rfl
def Lh(e:Elem)(x:DI)(r:List DI)(h:k≠1):Ak ⟨k,e,x::r⟩=A7 (Ak x) (r.map Aq):=by rw[Yn];unfold OM;rw[BQ h];simp only[DX,List.headD_cons,fa,List.drop_succ_cons,PG];congr 1;rw[List.zipWith_map,List.zipWith_self];rfl
def vQ{n:DI}(h:Ak n<=c):Aq n<=1+c:=by unfold Aq MK;split<;>omega
theorem WM(n:DI):Ak n<=Ac n:=by
 refine Gs (λn=>Ak n<=Ac n) ?_ n;intro k e kids d;rw[Dk];simp only;by_cases b:k=1
 .rw[b,V4];omega
 cases kids with
 |nil=>rw[Yn];unfold OM;rw[BQ b];simp[A7]|cons x r=>rw[Lh e x r b];have f:∀y∈x::r,Ac y<=sizes (x::r):=λy a=>Ey Ac _ y a;refine Yb _ _ _ (DR (d x BU) (by have:=f x BU;omega)) (λz g=>?_);obtain⟨y,a,rfl⟩:=BM.1 g;have i:=vQ (d y (DY _ a));have j:=f y (DY _ a);omega
def Bq(n:DI):List DI:=if Ai n then [] else if n.kind=2 then n.K else [n]
def Gl(n:DI)(t:Nat):Nat:=A7 t ((Bq n).map Aq)
def Bo:DJ->Nat
 |⟨_,_,kids⟩=>A7 1 (List.zipWith Gl (kids.map DJ.N) (kids.map Bo))
def Oi(n:DI)(c:List Elem)(kids:List DJ):Bo ⟨n,c,kids⟩=A7 1 (kids.map (λk=>Gl k.N (Bo k))):=by rw[Bo,List.zipWith_map,List.zipWith_self]
theorem NQ(n:DI):∀x∈Bq n,Ac x<=CJ n:=by
 intro x a;unfold Bq at a;split at a
 .cases a
 rename_i h;have e:CJ n=Ac n:=BQ h;rw[e];split at a
 .rw[Dk n];have:Ac x<=sizes n.K:=Ey Ac _ x a;omega
 rw[BB.1 a];exact DK _
def G9(a:DJ):Nat:=max (Ak a.N) (Bo a)
def Hm(l:List DJ):Nat:=A7 0 ((Aj l).map G9)
def F9(l:List DJ):Nat:=A7 0 ((Aj l).map forks)
def Tm:DI->Prop
 |⟨k,_,kids⟩=>(k≠1->kids≠[])/\∀p∈kids.map Tm,p
def Y3(k:Int)(e:Elem)(kids:List DI):Tm ⟨k,e,kids⟩↔(k≠1->kids≠[])/\∀x∈kids,Tm x:=by rw[Tm,all_map]
theorem full_of(n:DI):Am n=0->Tm n:=by
 refine Gs (λn=>Am n=0->Tm n) ?_ n;intro k e kids d h;rw[Y3];rcases Fq h with⟨rfl,rfl⟩|⟨_,f,g⟩|⟨_,_,x,rfl,a⟩
 .exact⟨λh=>absurd rfl h,(λx a=>by cases a)⟩
 .exact⟨(λ_ b=>by rw[b]at f;simp at f),λx a=>d x a (g x a)⟩
 exact⟨(λ_ b=>by cases b),λy i=>by rw[BB.1 i];exact d x BU a⟩
theorem Ny{n:DI}(h:Am n=0):∀x∈n.K,Am x=0:=by
 obtain⟨k,e,kids⟩:=n;rcases Fq h with⟨_,rfl⟩|⟨_,_,b⟩|⟨_,_,x,rfl,a⟩
 .intro x a;cases a
 .exact b
 intro y d;rwa[BB.1 d]
theorem Ww{n:DI}(h:Gp n):∀x∈Bq n,Tm x:=by
 intro x a;unfold Bq at a;split at a
 .cases a
 rename_i d;have b:=h.resolve_left d;split at a
 .exact full_of x (Ny b.2.2 x a)
 rw[BB.1 a];exact full_of n b.2.2
theorem fm{n:DI}(h:fine n):1<=n.kind/\n.kind<=4:=by obtain⟨k,e,kids⟩:=n;rcases Fq h.2.2 with⟨a,_⟩|⟨a,_⟩|⟨a,_⟩<;>(simp only;omega)
theorem vT{a b:DI}(h:Ai a=false)(g:Gp b)(i:fine a):Ai (Jm a b)=false:=by
 have e:=Wu (.inr i) g;unfold Jm at e⊢;rw[BQ yGc]at e⊢;split
 .exact h
 rename_i f;rw[BQ f]at e;refine Yf (ZF BU (λx d=>?_));rcases BD.1 d with rfl|d
 .exact i
 rw[BB.1 d];exact g.resolve_left f
theorem WT:∀(f:Nat)(b:DJ),Em b->Ai b.N=false->Ai (Jc f b).N=false
 |0,_,_,h=>h
 |f+1,⟨n,i,kids⟩,d,h=>by
  rw[Jc];split
  .rename_i g e
   simp only at e h;subst e;split
   .have a:=NV d
    refine WT f _ a.1 ?_;exact vT h a.2.2 (a.2.1.resolve_left yGc)
   .exact h
  .exact h
theorem Wg{a:DJ}(hr:Lp a)(h:Ai a.N=false):Ai (Dz a).N=false:=by
 obtain⟨n,c,kids⟩:=a;have b:=(Qi _ _ _).1 hr;rw[Ov];simp only at h;refine WT _ _ ((Ec _ _ _).2 ⟨Sl b.1,λx d=>?_⟩) ?_
 .obtain⟨y,e,rfl⟩:=BM.1 d;exact Uo y (b.2 y e)
 show Ai (U4 n)=false;unfold U4;rw[BQ yGc];exact Yf (RF (b.1.resolve_left yGc))
theorem U2(l:List DJ):∀x∈Aj l,Em x/\Ai x.N=false:=by
 intro x a;unfold Aj at a;by_cases b:(Ap l).1=0
 .rw[BR b]at a;obtain⟨y,e,rfl⟩:=BM.1 a;have d:=(Kz b e).1;exact⟨Uo y d,Wg d ((Nr b).2.2.2 y e).1⟩
 rw[BQ b]at a;cases a
def F6(c:Int):Aw:=⟨c,⟨0,[]⟩⟩
def Ss(k:Int)(n:DI)(l:List Aw):List Aw:=if n.kind=1 then [⟨k,n.O⟩] else l++[F6 (k+2)]
def PO(k:Int)(o:Elem)(kids:List DI)(a:List (List Aw)):List Aw:=
 if k=1 then [⟨1,o⟩] else if k=4 then a.headD []++[F6 6] else a.headD []++((List.zipWith (Ss k) kids a).drop 1).flatten
def Cf:DI->List Aw
 |⟨k,o,kids⟩=>PO k o kids (kids.map Cf)
def QK(k:Int)(o:Elem)(kids:List DI):Cf ⟨k,o,kids⟩=PO k o kids (kids.map Cf):=by rw[Cf]
def Dp(k:Int)(n:DI):List Aw:=Ss k n (Cf n)
def Lt(o:Elem)(kids:List DI):Cf ⟨1,o,kids⟩=[⟨1,o⟩]:=by rw[QK];rfl
def Lu(o:Elem)(x:DI)(r:List DI):Cf ⟨4,o,x::r⟩=Cf x++[F6 6]:=by rw[QK];rfl
def Jd(o:Elem)(x:DI)(r:List DI)(h1:k≠1)(a:k≠4):Cf ⟨k,o,x::r⟩=Cf x++(r.map (Dp k)).flatten:=by rw[QK];unfold PO;rw[BQ h1,BQ a,DX,List.headD_cons,fa,List.drop_succ_cons,PG,List.zipWith_map_right,List.zipWith_self];rfl
def Je(k:Int)(n:DI)(h:n.kind=1):Dp k n=[⟨k,n.O⟩]:=BR h
def Ie(k:Int)(n:DI)(h:n.kind≠1):Dp k n=Cf n++[F6 (k+2)]:=BQ h
def A8(n:DI):List Aw:=((Bq n).map (Dp 2)).flatten
def Eh(n i:Nat):List Aw:=if n=1 then [] else if i=0 then [F6 7] else if i+1=n then [F6 9] else [F6 8]
def Gz(cs:List Elem):List Aw:=cs.map (λc=>⟨10,c⟩)
def G0(n i:Nat)(a:DJ)(t:List Aw):List Aw:=Eh n i++(A8 a.N++t)
def UB(cs:List Elem)(kids:List DJ)(ts:List (List Aw)):List Aw:=
 Gz cs++((List.zipWith (λ(a:DJ)t=>(a,t)) kids ts).mapIdx (λi p=>G0 kids.length i p.1 p.2)).flatten
def Bv:DJ->List Aw
 |⟨_,a,kids⟩=>UB a kids (kids.map Bv)
def Ht(n i:Nat)(a:DJ):List Aw:=G0 n i a (Bv a)
def Wq(n:DI)(cs:List Elem)(kids:List DJ):Bv ⟨n,cs,kids⟩=Gz cs++(kids.mapIdx (λi a=>Ht kids.length i a)).flatten:=by
 rw[Bv];unfold UB;congr 2;apply List.ext_getElem
 .simp
 intro i b d;simp[Ht]
def Eb(a:DJ):List Aw:=Cf a.N++(Bv a++[F6 11])
def Ep(l:List DJ):List Aw:=((Aj l).map Eb).flatten
def run:Pt->List Aw->Option Pt
 |s,[]=>some s
 |s,i::r=>if 0<wrong s i then none else run (next s i.code) r
theorem gd(l:List Aw):∀(s:Pt)(k:Nat),(Fz s k l).1=0↔∃t,run s l=some t/\¬0<t.bits:=by
 induction l with
 |nil=>intro s k;rw[Fz,run];by_cases h:0<s.bits;{rw[BR h];constructor;{intro b;simp at b};rintro⟨t,a,b⟩;(injection a with a);subst a;exact absurd h b};rw[BQ h];exact⟨λ_=>⟨s,rfl,h⟩,λ_=>rfl⟩
 |cons i r d=>intro s k;rw[Fz,run];by_cases h:0<wrong s i;{rw[BR h,BR h];constructor;{intro b;simp only at b;omega};rintro⟨t,a,_⟩;cases a};rw[BQ h,BQ h];exact d _ _
def Atw(a b:List Aw):∀s,run s (a++b)=(run s a).bind λt=>run t b:=by induction a with|nil=>intro s;rfl|cons i r d=>intro s;rw[D4,run,run];split;{rfl};exact d _
theorem iz(l:List Aw):∀(s t:Pt),s.good->run s l=some t->t.good:=by induction l with|nil=>intro s t g h;injection h with h;subst h;exact g|cons i r a=>intro s t g h;rw[run]at h;split at h;{cases h};rename_i d;have b:=Oh s i;exact a _ _ (Vp g BS) h
theorem N5{s:Pt}{i:Aw}(h:wrong s i=0)(d:i.code≠11):0<(next s i.code).bits:=by
 have⟨e,a,_⟩:=Ik h;unfold next
 rw[BQ d];unfold needs at a;show 0<(if i.code=1 then s.bits+1 else if i.code=4\/i.code=5 then s.bits - 1 else s.bits);split
 .rename_i b;rw[BR b]at a;omega
 rename_i b;rw[BQ b]at a;split at a<;>split<;>omega
def dx(s:Pt){i:Aw}(h:i.code=11):next s i.code=pt0:=by
 unfold next
 rw[BR h]
theorem dR(l:List Aw):∀(a:List Aw)(s:Pt),run pt0 a=some s->(∀x∈a,x.code≠11)->(a=[]\/0<s.bits)->(∃t,run s l=some t/\¬0<t.bits)->
  (Dn a l).flatten=a++l/\(∀b,Dn a (l++b)=Dn a l++Dn [] b)/\∀r∈Dn a l,run pt0 r=some pt0/\∃y i,r=y++[i]/\i.code=11/\∀x∈y,x.code≠11:=by
 induction l with
 |nil=>
  rintro a s v g w⟨t,d,f⟩;injection d with d
  subst d;have C:a=[]:=by rcases w with h|h;exact h;exact absurd h f
  subst C;exact⟨rfl,λb=>rfl,λr B=>by cases B⟩
 |cons i r z=>
  rintro a s v g w⟨t,d,f⟩;rw[run]at d;split at d;{cases d};rename_i A;have G:=Oh s i;have F:wrong s i=0:=BS;have u:run pt0 (a++[i])=some (next s i.code):=by rw[Atw,v];show run s [i]=_;rw[run,BQ A,run]
  by_cases e:i.code=11;{have E:=dx s e;rw[E]at d u;have⟨j,o,m⟩:=z [] pt0 rfl BU (.inl rfl) ⟨t,d,f⟩;rw[Dn,BR e];refine⟨by rw[EN,j];simp,λb=>by rw[D4,Dn,BR e,o,D4],λq n=>?_⟩;rcases BD.1 n with rfl|n;{exact⟨u,a,i,rfl,e,g⟩};exact m q n};have⟨j,o,m⟩:=z (a++[i]) (next s i.code) u (λx D=>by rcases BI.1 D with h|h;exact g x h;rwa[BB.1 h]) (.inr (N5 F e)) ⟨t,d,f⟩;rw[Dn,BQ e];exact⟨by rw[j];simp,λb=>by rw[D4,Dn,BQ e,o],m⟩
def hH(xs:List Aw)(i:Aw)(h:i.code=11):∀a,(∀x∈xs,x.code≠11)->Dn a (xs++[i])=[a++xs++[i]]:=by induction xs with|nil=>intro a _;rw[EB,Dn,BR h,Dn];simp|cons x r d=>intro a b;rw[D4,Dn,BQ (b x BU),d _ (λy hy=>b y DG)];simp
theorem Tt{l:List Aw}:(Be l).1=0↔l.length<=1000/\∃t,run pt0 l=some t/\¬0<t.bits:=by
 unfold Be;by_cases h:1000<l.length
 .rw[BR h];constructor;{intro a;simp at a};rintro⟨a,_⟩;omega
 rw[BQ h,gd];exact⟨λa=>⟨BS,a⟩,λa=>a.2⟩
def ZQ{l:List Aw}(h:(Be l).1=0):Be l=(0,0):=by have:=Nw l BS;exact Prod.ext this.1 this.2
def Yt{l:List Aw}(h:(Be l).1=0):(Ef l).flatten=l/\∀r∈Ef l,Be r=(0,0)/\(Ef r).length=1:=by
 have⟨s,q⟩:=Tt.1 h;have⟨j,_,n⟩:=dR l [] pt0 rfl BU (.inl rfl) q;have e:Ef l=Dn [] l:=by unfold Ef;rw[BQ BS]
 rw[e];refine⟨by simpa using j,λr b=>?_⟩;obtain⟨f,a,i,rfl,o,m⟩:=n r b;have g:=(VI l [] _ b).2.2;have d:(Be (a++[i])).1=0:=Tt.2 ⟨by simp at g⊢;omega,pt0,f,BZ⟩;refine⟨ZQ d,?_⟩;unfold Ef;rw[BQ BS,hH a i o [] m];rfl
def opn(k:Int)(n:DI):List DI:=if n.kind=k then n.K else [n]
def Jr(k:Int)(a b:DI):DI:=⟨k,⟨0,[]⟩,opn k a++opn k b⟩
def Gw(k:Int)(a b:DI):DI:=if a.kind=0 then b else Jr k a b
def E5(e:Elem):DI:=⟨1,e,[]⟩
def IF(a:DI):DI:=⟨4,⟨0,[]⟩,[a]⟩
def G5:DI:=⟨0,⟨0,[]⟩,[]⟩
def Lr(c:Int)(e:Elem)(st:List DI):List DI:=
 if c=1 then E5 e::st
 else if c=2 then(match st with|a::r=>Gw 2 a (E5 e)::r|[]=>[])
 else if c=3 then(match st with|a::r=>Gw 3 a (E5 e)::r|[]=>[])
 else if c=4 then(match st with|a::b::r=>Gw 2 b a::r|s=>s)
 else if c=5 then(match st with|a::b::r=>Gw 3 b a::r|s=>s)
 else(match st with|a::r=>IF a::r|[]=>[])
def e7(n:DI):Prop:=Cj n/\1<=n.kind
def Fp(a:DI)(r:List DI):sizes (a::r)=Ac a+sizes r:=xCd
def Ti:sizes []=0:=rfl
def Qy(k:Int)(a:DI):sizes (opn k a)<=Ac a:=by
 unfold opn;split
 .rw[Dk];omega
 rw[Fp,Ti];omega
def dk{a:DI}(h:Cj a):∀x∈opn k a,Cj x:=by
 unfold opn;split
 .exact(D8 h).2.2.2
 intro x b;rwa[BB.1 b]
def jN(k:Int)(a b:DI):Ac (Jr k a b)<=1+Ac a+Ac b:=by rw[Dk];have d:=Qy k a;have e:=Qy k b;have f:=Om (opn k a) (opn k b);show 1+sizes (opn k a++opn k b)<=_;omega
theorem QT:Elem.fits ⟨0,[]⟩:=⟨⟨BU,BU⟩,BU,(λd hd=>by cases hd)⟩
theorem gw{a b:DI}(g:i64 k)(f:Cj a)(e:Cj b)(j:Ac a+Ac b<=1000000):Cj (Jr k a b):=by
 unfold Jr;rw[Hg];refine⟨g,QT,?_,λx d=>?_⟩
 .have h:=Qy k a;have i:=Qy k b;have m:=Om (opn k a) (opn k b);have l:=F5 (opn k a++opn k b);omega
 rcases BI.1 d with d|d
 .exact dk f x d
 exact dk e x d
def eD(k:Int)(a b:DI):Ac (Gw k a b)<=1+Ac a+Ac b:=by
 unfold Gw;split
 .omega
 exact jN k a b
theorem uE{e:Elem}(h:e.fits):e7 (E5 e):=by unfold E5;refine⟨?_,by show(1:Int)<=1;decide⟩;rw[Hg];exact⟨⟨BZ,BZ⟩,h,BU,(λd hd=>by cases hd)⟩
def WH(e:Elem):Ac (E5 e)=1:=by rw[Dk];rfl
def j6(a:DI):Ac (IF a)=1+Ac a:=by rw[Dk];show 1+sizes [a]=_;rw[Fp,Ti];omega
def Xx:List DI->List Aw->DI->List Aw->Prop
 |_,[],_,_=>False
 |st,i::r,n,a=>if i.code<7 then 1<=i.code/\needs i.code<=(st.length:Int)/\Xx (Lr i.code i.O st) r n a else st=[n]/\a=i::r
def Ll:List Aw->List Elem->List Aw->Prop
 |[],_,_=>False
 |i::r,a,d=>if i.code=10 then ∃b,a=i.O::b/\Ll r b d else a=[]/\d=i::r
def Ih(P:List Aw->DJ->List Aw->Prop):List DJ->List Aw->List Aw->Prop
 |a::b,i::l,r=>if b=[] then i.code=9/\P l a r else(i.code=7\/i.code=8)/\∃m,P l a m/\Ih P b m r
 |_,_,_=>False
def Dv:List Aw->Int
 |[]=>0
 |i::_=>i.code
def KY(P:List Aw->DJ->List Aw->Prop)(ks:List DJ)(l r:List Aw):Prop:=
 ((Dv l=8\/Dv l=9\/Dv l=11)/\ks=[]/\r=l)\/(1<=Dv l/\Dv l<7/\∃a,ks=[a]/\P l a r)\/(Dv l=7/\Ih P ks l r)
def Wh:Nat->List DI->List Aw->DJ->List Aw->Prop
 |0,_,_,_,_=>False
 |n+1,e,l,a,r=>∃b d,Xx e l a.N b/\Ll b a.C d/\KY (Wh n [G5]) a.K d r
theorem Xx.suffix:∀{l:List Aw}{b:List DI}{n:DI}{a:List Aw},Xx b l n a->a<:+l/\7<=Dv a
 |[],_,_,_,h=>h.elim
 |i::r,b,n,a,h=>by
  rw[Xx]at h;split at h
  .have⟨d,e⟩:=Xx.suffix h.2.2
   exact⟨d.trans (List.suffix_cons i r),e⟩
  .rename_i f
   rw[h.2];exact⟨List.suffix_refl _,by show 7<=i.code;omega⟩
theorem Ll.suffix:∀{l:List Aw}{b:List Elem}{a:List Aw},Ll l b a->a<:+l/\Dv a≠10/\b.length+a.length=l.length
 |[],_,_,h=>h.elim
 |i::r,b,a,h=>by
  rw[Ll]at h;split at h
  .obtain⟨g,rfl,h⟩:=h
   have⟨d,f,j⟩:=Ll.suffix h;exact⟨d.trans (List.suffix_cons i r),f,yBe⟩
  .rename_i e
   obtain⟨rfl,rfl⟩:=h;exact⟨List.suffix_refl _,e,BU⟩
theorem Ih.suffix{P:List Aw->DJ->List Aw->Prop}(d:∀l a r,P l a r->r<:+l):∀{e:List DJ}{l r:List Aw},Ih P e l r->r<:+l/\r.length<l.length
 |[],_,_,h=>by simp[Ih]at h
 |_::_,[],_,h=>by simp[Ih]at h
 |a::e,i::l,r,h=>by
  rw[Ih]at h;split at h
  .have b:=d _ _ _ h.2
   exact⟨b.trans (List.suffix_cons i l),by have:=b.length_le;simp only[DO];omega⟩
  .obtain⟨_,m,b,g⟩:=h
   have j:=Ih.suffix d g;have f:=d _ _ _ b;exact⟨(j.1.trans f).trans (List.suffix_cons i l),by have:=f.length_le;simp only[DO];omega⟩
theorem KY.suffix{P:List Aw->DJ->List Aw->Prop}(b:∀l a r,P l a r->r<:+l){ks:List DJ}{l r:List Aw}(h:KY P ks l r):r<:+l:=by
 rcases h with⟨_,_,rfl⟩|⟨_,_,a,_,h⟩|⟨_,h⟩
 .exact List.suffix_refl _
 .exact b _ _ _ h
 exact(Ih.suffix b h).1
theorem Wh.suffix:∀{n:Nat}{b:List DI}{l:List Aw}{a:DJ}{r:List Aw},Wh n b l a r->r<:+l
 |0,_,_,_,_,h=>h.elim
 |n+1,b,l,a,r,h=>by
  obtain⟨g,i,d,e,f⟩:=h;exact((KY.suffix (λl a r h=>Wh.suffix h) f).trans e.suffix.1).trans d.suffix.1
theorem Xx.more(x:List Aw):∀{l:List Aw}{a:List DI}{n:DI}{b:List Aw},Xx a l n b->Xx a (l++x) n (b++x)
 |[],_,_,_,h=>h.elim
 |i::r,a,n,b,h=>by
  rw[Xx]at h;rw[D4,Xx];split at h
  .rename_i d
   rw[BR d];exact⟨h.1,h.2.1,Xx.more x h.2.2⟩
  .rename_i d
   rw[BQ d,h.2];exact⟨h.1,rfl⟩
theorem Ll.more(x:List Aw):∀{l:List Aw}{a:List Elem}{b:List Aw},Ll l a b->Ll (l++x) a (b++x)
 |[],_,_,h=>h.elim
 |i::r,a,b,h=>by
  rw[Ll]at h;rw[D4,Ll];split at h
  .rename_i d
   rw[BR d];obtain⟨f,e,h⟩:=h;exact⟨f,e,Ll.more x h⟩
  .rename_i d
   rw[BQ d,h.2];exact⟨h.1,rfl⟩
theorem Ih.more{P:List Aw->DJ->List Aw->Prop}(x:List Aw)(d:∀l a r,P l a r->P (l++x) a (r++x)):∀{b:List DJ}{l r:List Aw},Ih P b l r->Ih P b (l++x) (r++x)
 |[],_,_,h=>by simp[Ih]at h
 |_::_,[],_,h=>by simp[Ih]at h
 |a::b,i::l,r,h=>by
  rw[Ih]at h;rw[D4,Ih];split at h
  .rename_i e
   rw[BR e];exact⟨h.1,d _ _ _ h.2⟩
  .rename_i e
   rw[BQ e];obtain⟨j,m,f,g⟩:=h;exact⟨j,m++x,d _ _ _ f,Ih.more x d g⟩
theorem Pj{l:List Aw}(x:List Aw)(h:Dv l≠0):Dv (l++x)=Dv l:=by cases l with|nil=>exact absurd rfl h|cons i r=>rfl
theorem Wh.more(x:List Aw):∀{n:Nat}{f:List DI}{l:List Aw}{a:DJ}{r:List Aw},Wh n f l a r->Wh n f (l++x) a (r++x)
 |0,_,_,_,_,h=>h.elim
 |n+1,f,l,a,r,h=>by
  obtain⟨m,o,g,i,q⟩:=h;refine⟨m++x,o++x,g.more x,i.more x,?_⟩;rcases q with⟨d,e,rfl⟩|⟨j,d,b,e,h⟩|⟨d,h⟩
  .exact .inl ⟨by rwa[Pj x BS],e,rfl⟩
  .exact .inr (.inl ⟨by rwa[Pj x BS],by rwa[Pj x BS],b,e,Wh.more x h⟩)
  .exact .inr (.inr ⟨by rwa[Pj x BS],Ih.more x (λ_ _ _ h=>Wh.more x h) h⟩)
def E4(s:Pt)(l:List Aw):Prop:=s.good/\∃t,run s l=some t/\¬0<t.bits
theorem E4.cons{s:Pt}{i:Aw}{r:List Aw}(h:E4 s (i::r)):wrong s i=0/\E4 (next s i.code) r:=by
 obtain⟨g,t,a,d⟩:=h;rw[run]at a;have e:=Oh s i;split at a
 .cases a
 have b:wrong s i=0:=by omega
 exact⟨b,Vp g b,t,a,d⟩
theorem E4.ne{s:Pt}{l:List Aw}(h:E4 s l)(d:0<s.bits):l≠[]:=by
 rintro rfl;obtain⟨_,t,a,b⟩:=h;injection a with a
 subst a;exact b d
def Z6{s:Pt}{c:Int}(h:c<7):(next s c).bits=(if c=1 then s.bits+1 else if c=4\/c=5 then s.bits - 1 else s.bits)/\(next s c).forks=s.forks:=by
 unfold next
 rw[BQ BS];exact⟨rfl,by show(if c=7 then s.forks+1 else if c=9 then s.forks - 1 else s.forks)=s.forks;rw[BQ BS,BQ BS]⟩
theorem T8{c:Int}{e:Elem}{st:List DI}(h1:1<=c)(l:c<7)(d:needs c<=(st.length:Int)):((Lr c e st).length:Int)=if c=1 then(st.length:Int)+1 else if c=4\/c=5 then(st.length:Int) - 1 else st.length:=by
 unfold needs at d;unfold Lr;by_cases f:c=1
 .simp[f]
 rw[BQ f]at d⊢;rw[BQ f];cases st with
 |nil=>simp only[DU]at d;split at d<;>omega|cons a r=>by_cases i:c=2;{simp[i]};by_cases j:c=3;{simp[j]};by_cases g:c=4;{subst g;cases r with|nil=>simp at d|cons b r=>simp};by_cases h:c=5;{subst h;cases r with|nil=>simp at d|cons b r=>simp};simp[i,j,g,h]
theorem cV:∀(l:List Aw)(s:Pt)(st:List DI),E4 s l->s.bits=(st.length:Int)->l≠[]->∃n d b,Xx st l n d/\E4 b d/\b.bits=1/\b.forks=s.forks
 |[],_,_,_,_,y=>absurd rfl y
 |i::r,s,st,h,a,_=>by
  have⟨g,j⟩:=h.cons;have⟨z,C,_,B,_⟩:=Ik g;have o:=U1 z;by_cases f:i.code<7
  .have m:=Z6 (s:=s) f
   have w:=T8 (e:=i.O) (st:=st) o.1 f BS;have q:=N5 g BS;have⟨n,d,b,t,x,v,A⟩:=cV r (next s i.code) (Lr i.code i.O st) j (by rw[m.1,w,a]) (j.ne q);exact⟨n,d,b,by rw[Xx,BR f];exact⟨o.1,BS,t⟩,x,v,by rw[A,m.2]⟩
  .have u:s.bits=1:=by
    have:needs i.code=1:=by unfold needs;rw[BQ BS,BQ BS]
    omega
   match st,a with
   |[],a=>simp at a;omega
   |[n],_=>exact⟨n,i::r,s,by rw[Xx,BQ f];exact⟨rfl,rfl⟩,h,u,rfl⟩
   |_::_::_,a=>simp only[DO]at a;omega
theorem cL:∀(l:List Aw)(s:Pt),E4 s l->s.bits=1->∃b d a,Ll l b d/\E4 a d/\a.bits=1/\a.forks=s.forks
 |[],s,h,e=>absurd rfl (h.ne BS)
 |i::r,s,h,e=>by
  have⟨t,m⟩:=h.cons;by_cases f:i.code=10
  .have g:(next s i.code).bits=1/\(next s i.code).forks=s.forks:=by
    unfold next
    rw[BQ BS];simp[f,e]
   have⟨b,d,a,n,o,q,j⟩:=cL r (next s i.code) m g.1;exact⟨i.O::b,d,a,by rw[Ll,BR f];exact⟨b,rfl,n⟩,o,q,by rw[j,g.2]⟩
  .exact⟨[],i::r,s,by rw[Ll,BQ f];exact⟨rfl,rfl⟩,h,e,rfl⟩
def KU(F:Int)(r:List Aw):Prop:=(Dv r=8\/Dv r=9\/Dv r=11)/\∃s,E4 s r/\s.bits=1/\s.forks=F
theorem fu{F:Int}{r:List Aw}(h:KU F r)(hF:0<F):∃i b,r=i::b/\(i.code=8\/i.code=9):=by
 obtain⟨a,s,d,g,j⟩:=h;cases r with
 |nil=>simp[Dv]at a|cons i b=>have⟨f,_⟩:=d.cons;have e:=(Ik f).2.2.2.2.2.2.2.1;refine⟨i,b,rfl,?_⟩;have a:i.code=8\/i.code=9\/i.code=11:=a;rcases a with h|h|h;{exact .inl h};{exact .inr h};exact absurd ⟨h,BS⟩ e
theorem ft{r:List Aw}(h:KU 0 r):∃i a,r=i::a/\i.code=11/\E4 pt0 a:=by
 obtain⟨b,s,j,m,f⟩:=h;cases r with
 |nil=>simp[Dv]at b
 |cons i a=>
  have⟨l,g⟩:=j.cons;have d:=(Ik l).2.2.2.2.2.2.1;have b:i.code=8\/i.code=9\/i.code=11:=b;have e:i.code=11:=by rcases b with h|h|h;{exact absurd ⟨.inl h,f⟩ d};{exact absurd ⟨.inr h,f⟩ d};exact h
  rw[dx s e]at g;exact⟨i,a,rfl,e,g⟩
theorem fh{P:List Aw->DJ->List Aw->Prop}{N:Nat}(w:∀l s,l.length<=N->E4 s l->s.bits=1->∃a r,P l a r/\r<:+l/\KU s.forks r):
  ∀(M:Nat)(i:Aw)(l:List Aw)(s:Pt)(F:Int),l.length<=M->l.length<=N->E4 s (i::l)->s.bits=1->0<=F->(i.code=7/\s.forks=F\/(i.code=8\/i.code=9)/\s.forks=F+1)->∃f r,f≠[]/\Ih P f (i::l) r/\KU F r:=by
 intro M;induction M with
 |zero=>intro i l s F y q h n hF hi;exfalso;have⟨u,g⟩:=h.cons;have A:l=[]:=BL.1 BS;refine g.ne (N5 u ?_) A;rcases hi with⟨h,_⟩|⟨h|h,_⟩<;>omega
 |succ M G=>
  intro i l s F y q h n hF hi;have⟨u,g⟩:=h.cons;by_cases v:i.code=9
  .have d:(next s i.code).bits=1/\(next s i.code).forks=F:=by
    have e:s.forks=F+1:=by rcases hi with⟨h,_⟩|⟨_,h⟩<;>omega
    unfold next
    rw[BQ BS];simp[v,n,e]
   have⟨a,r,o,x,b⟩:=w l _ q g d.1;refine⟨[a],r,BU,?_,by rwa[d.2]at b⟩;rw[Ih,BR rfl];exact⟨v,o⟩
  have t:i.code=7\/i.code=8:=by rcases hi with⟨h,_⟩|⟨h|h,_⟩<;>omega
  have d:(next s i.code).bits=1/\(next s i.code).forks=F+1:=by (unfold next);rw[BQ BS];rcases t with h|h;{have e:s.forks=F:=(by rcases hi with⟨_,h⟩|⟨h|h,_⟩<;>omega);simp[h,n,e]};have e:s.forks=F+1:=(by rcases hi with⟨h,_⟩|⟨_,h⟩<;>omega);simp[h,n,e]
  have⟨a,m,o,x,b⟩:=w l _ q g d.1;rw[d.2]at b;obtain⟨j,H,rfl,B⟩:=fu b BS;have L:=x.length_le;simp only[DO]at L;obtain⟨_,C,D,z,J⟩:=b;have⟨f,r,K,E,I⟩:=G j H C F BS BS D z hF (.inr ⟨B,J⟩);refine⟨a::f,r,BU,?_,I⟩;rw[Ih,BQ K];exact⟨t,_,o,E⟩
theorem k7:∀(N:Nat)(l:List Aw)(s:Pt)(f:List DI),l.length<=N->E4 s l->s.bits=(f.length:Int)->l≠[]->∃a r,Wh (N+1) f l a r/\KU s.forks r:=by
 intro N;induction N with
 |zero=>intro l s f q _ _ v;exact absurd (BL.1 BS) v
 |succ N V=>
  intro l s f q h w v;have⟨n,t,I,E,S,M,W⟩:=cV l s f h w v;have⟨u,o,g,F,d,z,P⟩:=cL t I S M;have B:=E.suffix;have m:=F.suffix;have aa:=B.1.length_le;have K:=d.ne BS;have C:∀(l:List Aw)(s:Pt),l.length<=N->E4 s l->s.bits=1->∃a r,Wh (N+1) [G5] l a r/\r<:+l/\KU s.forks r:=λl s q h w=>by have⟨a,r,b,j⟩:=V l s [G5] q h (by rw[w];rfl) (h.ne BS);exact⟨a,r,b,b.suffix,j⟩
  have key:∃e r,KY (Wh (N+1) [G5]) e o r/\KU g.forks r:=by
   cases o with
   |nil=>exact absurd rfl K
   |cons i r=>
    have⟨J,Y⟩:=d.cons;have T:=U1 (Ik J).1;have X:i.code≠10:=m.2.1;have H:=m.2.2;simp only[DO]at H;have R:=d.1.2.2.1;by_cases Q:i.code<7
    .have L:u≠[]:=by
      rintro rfl;have U:=m.1;have O:t=i::r:=(List.IsSuffix.eq_of_length U (by simp only[DO,DU]at H⊢;omega)).symm;have x:=B.2;rw[O]at x;have x:7<=i.code:=x;omega
     have Z:0<u.length:=List.length_pos_iff.2 L;have⟨a,A,b,_,y⟩:=C (i::r) g yBe d z;exact⟨[a],A,.inr (.inl ⟨T.1,Q,a,rfl,b⟩),y⟩
    by_cases D:i.code=7;{have⟨e,A,b,j,y⟩:=fh C r.length i r g g.forks (DK _) BS d z R (.inl ⟨D,rfl⟩);exact⟨e,A,.inr (.inr ⟨D,j⟩),y⟩};have G:i.code=8\/i.code=9\/i.code=11:=(by omega);exact⟨[],i::r,.inl ⟨G,rfl,rfl⟩,G,g,d,z,rfl⟩
  obtain⟨e,r,b,j⟩:=key;exact⟨⟨n,u,e⟩,r,⟨t,o,E,F,b⟩,by rwa[<-W,<-P]⟩
def Xw(n:DI):Prop:=Cj n/\(n.kind=0->Ai n=true)
def Ft(c:Nat)(st:List DI):Prop:=(∀n∈st,Xw n)/\sizes st<=c
def mC{n:DI}(h:e7 n):Xw n:=⟨h.1,λa=>by have:=h.2;omega⟩
theorem tf:Cj G5:=by unfold G5;rw[Hg];exact⟨⟨BZ,BZ⟩,QT,BU,(λd hd=>by cases hd)⟩
def tW:Ac G5=1:=by rw[Dk];rfl
def Auh:Xw G5:=⟨tf,λ_=>rfl⟩
theorem UI{a b:DI}(g:k=2\/k=3)(f:Xw a)(d:Xw b)(i:Ac a+Ac b<=1000000):Xw (Gw k a b):=by
 unfold Gw;split
 .exact d
 have j:i64 k:=by rcases g with rfl|rfl<;>exact⟨BZ,BZ⟩
 exact⟨gw j f.1 d.1 i,λe=>by have e:k=0:=e;omega⟩
theorem PN{c:Int}{e:Elem}{st:List DI}{s:Nat}(t:e.fits)(h:Ft s st)(y:s<=900000):Ft (s+2) (Lr c e st):=by
 obtain⟨f,i⟩:=h;have q:=mC (uE t);have z:=WH e;have u:∀a,Xw a->Xw (IF a):=λa g=>by refine⟨?_,λo=>by have o:(4:Int)=0:=o;omega⟩;unfold IF;rw[Hg];exact⟨⟨BZ,BZ⟩,QT,BU,λx v=>by rw[BB.1 v];exact g.1⟩
 have one:∀k a r,(k=2\/k=3)->Xw a->(∀n∈r,Xw n)->sizes (a::r)<=s->Ft (s+2) (Gw k a (E5 e)::r):=λk a r l g j m=>by rw[Fp]at m;have:=eD k a (E5 e);refine⟨λn d=>?_,by rw[Fp];omega⟩;rcases BD.1 d with rfl|d;{exact UI l g q BS};exact j n d
 have two:∀k a b r,(k=2\/k=3)->Xw a->Xw b->(∀n∈r,Xw n)->sizes (a::b::r)<=s->Ft (s+2) (Gw k b a::r):=λk a b r l g w j m=>by rw[Fp,Fp]at m;have:=eD k b a;refine⟨λn d=>?_,by rw[Fp];omega⟩;rcases BD.1 d with rfl|d;{exact UI l w g BS};exact j n d
 have nil:Ft (s+2) []:=⟨(λn d=>by cases d),xCd⟩;unfold Lr;split
 .exact⟨λn d=>(BD.1 d).elim (λe=>by rwa[e]) (f n),by rw[Fp];omega⟩
 split
 .split;{exact one 2 _ _ (.inl rfl) (f _ BU) (λn d=>f n (by simp[d])) i};exact nil
 split
 .split;{exact one 3 _ _ (.inr rfl) (f _ BU) (λn d=>f n (by simp[d])) i};exact nil
 split
 .split;{exact two 2 _ _ _ (.inl rfl) (f _ BU) (f _ BU) (λn d=>f n (by simp[d])) i};exact⟨f,BS⟩
 split
 .split;{exact two 3 _ _ _ (.inr rfl) (f _ BU) (f _ BU) (λn d=>f n (by simp[d])) i};exact⟨f,BS⟩
 split
 .rename_i a r;rw[Fp]at i;have:=j6 a;refine⟨λn d=>?_,by rw[Fp];omega⟩;rcases BD.1 d with rfl|d;{exact u a (f a BU)};exact f n (by simp[d])
 exact nil
def X0:Ft 1 [G5]:=⟨λn a=>by rw[BB.1 a];exact Auh,by rw[Fp,Ti,tW];omega⟩
theorem j9:Ft 0 []:=⟨(λn a=>by cases a),xCd⟩
theorem Xx.ok:∀{l:List Aw}{b:List DI}{n:DI}{d:List Aw}{s:Nat},Xx b l n d->Ft s b->(∀i∈l,i.fits)->s+2*l.length<=900000->Xw n/\Ac n+2*d.length<=s+2*l.length
 |[],_,_,_,_,h,_,_,_=>h.elim
 |i::r,b,n,d,s,h,a,e,g=>by
  rw[Xx]at h;simp only[DO]at g⊢;split at h
  .have f:=Xx.ok h.2.2 (PN (e i BU).2 a BS) (λx hx=>e x CZ) BS
   exact⟨f.1,BS⟩
  .obtain⟨rfl,rfl⟩:=h
   have j:=a.2;rw[Fp,Ti]at j;exact⟨a.1 n BU,yBe⟩
theorem Ll.fits:∀{l:List Aw}{b:List Elem}{e:List Aw},Ll l b e->(∀i∈l,i.fits)->∀c∈b,c.fits
 |[],_,_,h,_=>h.elim
 |i::r,b,e,h,d=>by
  rw[Ll]at h;split at h
  .obtain⟨f,rfl,h⟩:=h
   intro c a;rcases BD.1 a with rfl|a
   .exact(d i BU).2
   .exact Ll.fits h (λx hx=>d x CZ) c a
  .obtain⟨rfl,rfl⟩:=h
   exact(λc a=>by cases a)
def TU(l:List Aw)(a:DJ)(r:List Aw)(s:Nat):Prop:=Bh a/\Ah a+4*r.length<=s+1+4*l.length
theorem Ih.fine{P:List Aw->DJ->List Aw->Prop}{L:Nat}(e:∀l a r,l.length<=L->(∀i∈l,i.fits)->P l a r->TU l a r 1/\r<:+l):∀{b:List DJ}{l r:List Aw},l.length<=L->(∀i∈l,i.fits)->Ih P b l r->(∀x∈b,Bh x)/\Au b+4*r.length<=4*l.length/\b.length<=l.length
 |[],_,_,_,_,h=>by simp[Ih]at h
 |_::_,[],_,_,_,h=>by simp[Ih]at h
 |a::b,i::l,r,t,f,h=>by
  rw[Ih]at h;simp only[DO]at t⊢;have u:Au (a::b)=Ah a+Au b:=by simp[Au]
  rw[u];split at h
  .rename_i s
   subst s;have d:=(e l a r BS (λx hx=>f x CZ) h.2).1;have o:Au []=0:=rfl;rw[o];refine⟨λx hx=>by rw[BB.1 hx];exact d.1,by have:=d.2;omega,BU⟩
  .obtain⟨_,m,d,q⟩:=h
   have⟨g,j⟩:=e l a m BS (λx hx=>f x CZ) d;have v:=j.length_le;have⟨n,w,y⟩:=Ih.fine e BS (λx hx=>f x (by simp[j.subset hx])) q;refine⟨λx hx=>?_,by have:=g.2;omega,BS⟩;rcases BD.1 hx with rfl|hx
   .exact g.1
   .exact n x hx
theorem Wh.fine:∀{n:Nat}{t:List DI}{l:List Aw}{a:DJ}{r:List Aw}{s:Nat},Wh n t l a r->Ft s t->(∀i∈l,i.fits)->s<=1->l.length<=1000->TU l a r s
 |0,_,_,_,_,_,h,_,_,_,_=>h.elim
 |n+1,t,l,a,r,s,h,H,d,N,z=>by
  obtain⟨Q,G,C,A,M⟩:=h;have f:=C.suffix;have j:=A.suffix;have S:=f.1.length_le;have u:=j.2.2;have w:=C.ok H d BS;have B:=A.fits (λi hi=>d i (f.1.subset hi));have E:=λi hi=>d i (f.1.subset (j.1.subset hi))
  have o:(∀x∈a.K,Bh x)/\Au a.K+4*r.length<=4*G.length+(if a.C=[] then 0 else 2)/\a.K.length<=1000:=by
   rcases M with⟨_,e,rfl⟩|⟨_,U,b,e,h⟩|⟨_,h⟩
   .rw[e]
    exact⟨(λx q=>by cases q),by show 0+_<=_;omega,BU⟩
   .rw[e]
    have D:=Wh.fine (s:=1) h X0 E BS BS;have v:a.C≠[]:=by
     intro K;rw[K]at u;have J:=(List.IsSuffix.eq_of_length j.1 (by simpa using u)).symm;have m:=f.2;rw[J]at m;omega
    rw[BQ v];have I:Au [b]=Ah b:=by simp[Au]
    rw[I];exact⟨λx q=>by rw[BB.1 q];exact D.1,by have:=D.2;omega,BU⟩
   .have⟨m,R,T⟩:=Ih.fine (L:=1000) (λl a r z d h=>⟨Wh.fine (s:=1) h X0 d BS z,h.suffix⟩) BS E h
    exact⟨m,BS,BS⟩
  obtain⟨an,g,y⟩:=a;simp only at w B o u;refine⟨?_,?_⟩
  .rw[Fa]
   exact⟨w.1.1,BS,B,BS,o.1⟩
  .have F:Ah ⟨an,g,y⟩=1+g.length+(if Ai an then 0 else Ac an)+Au y:=by rw[Ah];rfl
   rw[F];have O:(if Ai an then 0 else Ac an)<=Ac an:=by split<;>omega
   have P:=w.2;have V:=o.2.1;have W:(if g=[] then 0 else 2)<=2*g.length:=by
    split
    .omega
    .rename_i v
     have:=List.length_pos_iff.2 v
     omega
   omega
