import Derived.Test.YtfeablpbkcgdjaaGreatDoorGB
set_option linter.defProp false
namespace Stil
variable {c:Nat}{k:Int}
structure Dj where
 code:Int
 one:Elem
def Dj.fits (i:Dj):Prop:=i64 i.code/\i.one.fits
def listWords:List (List UInt8):=[[],[108,100],[97,110,100],[111,114],[97,110,98],[111,114,98],[105,110,118],[109,112,115],[109,114,100],[109,112,112],[99,111,105,108],[101,110,100]]
def eN (e:Elem):Bool:=e.op==0 && e.args.length==0
def Ob (i:Dj):Bool:=if i.code<1\/11<i.code then false else if i.code<=3 then Dl i.one.op i.one.args else if i.code=10 then Fz i.one.op i.one.args else eN i.one
structure Pt where
 bits:Int
 forks:Int
 seen:Bool
 coil:Bool
def pt0:Pt:=⟨0,0,false,false⟩
def needs (c:Int):Int:=if c=1 then 0 else if c=4\/c=5 then 2 else 1
def low (c:Int):Int:=if c=5 then 2 else 1
def wrong (s:Pt)(i:Dj):Int:=
 if Ob i=false then 2
 else if s.bits<needs i.code then 3
 else if i.code=1/\s.bits=16 then 4
 else if 7<=i.code/\1<s.bits then 5
 else if s.seen=true/\s.bits=low i.code/\(i.code=3\/i.code=6\/i.code=5) then 6
 else if i.code=7/\s.forks=8 then 7
 else if(i.code=8\/i.code=9)/\s.forks=0 then 7
 else if i.code=11/\0<s.forks then 7
 else if(i.code=8\/i.code=9\/i.code=11)/\s.coil=false then 8
 else 0
def next (s:Pt)(c:Int):Pt:=
 if c=11 then pt0
 else⟨if c=1 then s.bits+1 else if c=4\/c=5 then s.bits - 1 else s.bits,if c=7 then s.forks+1 else if c=9 then s.forks - 1 else s.forks,s.seen || c==10 || c==7,c==10⟩
def Hr:Pt->Nat->List Dj->Int × Nat
 | s,k,[]=>if 0<s.bits then(9,k) else(0,0)
 | s,k,i::r=>if 0<wrong s i then(wrong s i,k) else Hr (next s i.code) (k+1) r
def Ew (l:List Dj):Int × Nat:=if 1000<l.length then(1,0) else Hr pt0 0 l
def ip (l:List Dj)(s:Pt)(j:Nat)(h:j<l.length):Hr s j (l.drop j)=if 0<wrong s l[j] then(wrong s l[j],j) else Hr (next s l[j].code) (j+1) (l.drop (j+1)):=by
 rw[FZ h];rfl
def j3 (l:List Dj)(s:Pt)(j:Nat)(h:l.length<=j):Hr s j (l.drop j)=if 0<s.bits then(9,j) else(0,0):=by
 rw[GH h];rfl
def Pt.good (s:Pt):Prop:=0<=s.bits/\s.bits<=16/\0<=s.forks/\s.forks<=8/\(s.bits=0->s=pt0)
def QO:pt0.good:=⟨AZ,AZ,AZ,AZ,λ_=>rfl⟩
def lj (s:Pt)(i:Dj):0<=wrong s i/\wrong s i<=8:=by
 unfold wrong;repeat' split
 all_goals omega
theorem PC {i:Dj}(h:Ob i=true):1<=i.code/\i.code<=11:=by
 unfold Ob at h;split at h
 .cases h
 .omega
theorem MZ {s:Pt}{i:Dj}(h:wrong s i=0):Ob i=true/\needs i.code<=s.bits/\¬(i.code=1/\s.bits=16)/\¬(7<=i.code/\1<s.bits)/\¬(s.seen=true/\s.bits=low i.code/\(i.code=3\/i.code=6\/i.code=5))/\
  ¬(i.code=7/\s.forks=8)/\¬((i.code=8\/i.code=9)/\s.forks=0)/\¬(i.code=11/\0<s.forks)/\¬((i.code=8\/i.code=9\/i.code=11)/\s.coil=false):=by
 unfold wrong at h;split at h
 .omega
 rename_i j;split at h
 .omega
 rename_i m;split at h
 .omega
 rename_i f;split at h
 .omega
 rename_i d;split at h
 .omega
 rename_i b;split at h
 .omega
 rename_i g;split at h
 .omega
 rename_i e;split at h
 .omega
 rename_i l;split at h
 .omega
 rename_i a;exact⟨by simpa using j,AU,f,d,b,g,e,l,a⟩
theorem wh {s:Pt}{i:Dj}(g:s.good)(h:wrong s i=0):(next s i.code).good:=by
 obtain⟨o,f,r,q,_,t,v,_,_⟩:=MZ h;obtain⟨a,b,c,d,e⟩:=g;have u:=PC o;unfold next
 by_cases n:i.code=11
 .rw[if_pos n];exact QO
 .rw[if_neg n]
  unfold needs at f;refine⟨?_,?_,?_,?_,?_⟩
  .show 0<=(if i.code=1 then s.bits+1 else if i.code=4\/i.code=5 then s.bits - 1 else s.bits)
   split
   .omega
   .split<;>omega
  .show(if i.code=1 then s.bits+1 else if i.code=4\/i.code=5 then s.bits - 1 else s.bits)<=16
   split
   .omega
   .split<;>omega
  .show 0<=(if i.code=7 then s.forks+1 else if i.code=9 then s.forks - 1 else s.forks)
   split
   .omega
   .split<;>omega
  .show(if i.code=7 then s.forks+1 else if i.code=9 then s.forks - 1 else s.forks)<=8
   split
   .omega
   .split<;>omega
  .intro p
   exfalso;have j:(if i.code=1 then s.bits+1 else if i.code=4\/i.code=5 then s.bits - 1 else s.bits)=0:=p;by_cases m:i.code=1
   .rw[if_pos m] at j;clear f;omega
   .rw[if_neg m] at j f
    by_cases l:i.code=4\/i.code=5
    .rw[if_pos l] at j f;omega
    .rw[if_neg l] at j f;omega
def rule (k:Nat)(s:Pt)(i:Dj):Bool:=
 match k with
 | 0=>!Ob i
 | 1=>decide (s.bits<needs i.code)
 | 2=>decide (i.code=1) && decide (s.bits=16)
 | 3=>if i.code=7\/i.code=8\/i.code=9\/i.code=10\/i.code=11 then decide (1<s.bits) else false
 | 4=>if i.code=3\/i.code=6 then s.seen && decide (s.bits=1) else if i.code=5 then s.seen && decide (s.bits=2) else false
 | 5=>if i.code=7 then decide (s.forks=8) else if i.code=8\/i.code=9 then decide (s.forks=0) else if i.code=11 then decide (s.forks≠0) else false
 | _=>if i.code=8\/i.code=9\/i.code=11 then !s.coil else false
theorem SI {s:Pt}(i:Dj)(_g0:0<=s.bits)(g:0<=s.forks):
  wrong s i=if rule 0 s i then 2 else if rule 1 s i then 3 else if rule 2 s i then 4 else if rule 3 s i then 5 else if rule 4 s i then 6 else if rule 5 s i then 7 else if rule 6 s i then 8 else 0:=by
 cases a:Ob i with
 | true=>
  have d:=PC a;have b:i.code=1\/i.code=2\/i.code=3\/i.code=4\/i.code=5\/i.code=6\/i.code=7\/i.code=8\/i.code=9\/i.code=10\/i.code=11:=AU
  rcases b with h | h | h | h | h | h | h | h | h | h | h
  all_goals simp[wrong,rule,needs,low,a,h]
  all_goals grind
 | false=>simp[wrong,rule,a]
def behind (s:Pt)(c:Int):Pt:=⟨if c=1 then s.bits+1 else if c=4\/c=5\/c=11 then s.bits - 1 else s.bits,if c=7 then s.forks+1 else if c=9 then s.forks - 1 else s.forks,decide (c≠11) && (s.seen || c==10 || c==7),c==10⟩
theorem behind_next {s:Pt}{i:Dj}(g:s.good)(h:wrong s i=0):behind s i.code=next s i.code:=by
 obtain⟨m,q,_,n,_,_,_,r,_⟩:=MZ h;obtain⟨a,b,c,d,e⟩:=g;have o:=PC m;unfold next behind
 by_cases f:i.code=11
 .rw[if_pos f]
  have j:s.bits=1:=by
   have:needs i.code=1:=by rw[f];rfl
   omega
  have l:s.forks=0:=AU
  simp[f,j,l,pt0]
 .rw[if_neg f]
  simp[f]
def wY {s:Pt}(g:s.good):(s=pt0)↔s.bits<=0:=by
 constructor
 .rintro rfl;decide
 .intro h;exact g.2.2.2.2 (by have:=g.1;omega)
theorem lV {s:Pt}{i:Dj}(g:s.good)(k:Nat)(e:k<7)(a:∀q,q<k->rule q s i=false)(b:rule k s i=true):wrong s i=(k+2:Nat):=by
 rw[SI i g.1 g.2.2.1];have d:k=0\/k=1\/k=2\/k=3\/k=4\/k=5\/k=6:=AU
 rcases d with rfl | rfl | rfl | rfl | rfl | rfl | rfl
 .simp[b]
 .simp[a 0 AU,b]
 .simp[a 0 AU,a 1 AU,b]
 .simp[a 0 AU,a 1 AU,a 2 AU,b]
 .simp[a 0 AU,a 1 AU,a 2 AU,a 3 AU,b]
 .simp[a 0 AU,a 1 AU,a 2 AU,a 3 AU,a 4 AU,b]
 .simp[a 0 AU,a 1 AU,a 2 AU,a 3 AU,a 4 AU,a 5 AU,b]
def ox {s:Pt}{i:Dj}(g:s.good)(a:∀q,q<7->rule q s i=false):wrong s i=0:=by
 rw[SI i g.1 g.2.2.1];simp[a 0 AU,a 1 AU,a 2 AU,a 3 AU,a 4 AU,a 5 AU,a 6 AU]
theorem ij (l:List Dj):∀(s:Pt) (k:Nat),¬0<(Hr s k l).1->(Hr s k l).1=0/\(Hr s k l).2=0:=by
 induction l with
 | nil=>
  intro s k h;unfold Hr at h ⊢;by_cases a:0<s.bits
  .rw[if_pos a] at h;exact absurd (show(0:Int)<9 by decide) h
  .rw[if_neg a];exact⟨rfl,rfl⟩
 | cons i r b=>
  intro s k h;unfold Hr at h ⊢;by_cases a:0<wrong s i
  .rw[if_pos a] at h;exact absurd a h
  .rw[if_neg a] at h ⊢;exact b _ _ h
theorem S9 (l:List Dj)(h:¬0<(Ew l).1):(Ew l).1=0/\(Ew l).2=0:=by
 unfold Ew at h ⊢;by_cases a:1000<l.length
 .rw[if_pos a] at h;exact absurd (show(0:Int)<1 by decide) h
 .rw[if_neg a] at h ⊢;exact ij l _ _ h
def Es:List Dj->List Dj->List (List Dj)
 | _,[]=>[]
 | cs,i::r=>if i.code=11 then(cs++[i])::Es [] r else Es (cs++[i]) r
def La (l:List Dj):List (List Dj):=if 0<(Ew l).1 then [] else Es [] l
theorem ix (l:List Dj):∀(b r:List Dj),r∈Es b l->0<r.length/\(∀x∈r,x∈b\/x∈l)/\r.length<=b.length+l.length:=by
 induction l with
 | nil=>intro b r h;simp[Es] at h
 | cons i t j=>
  intro b r h;rw[Es] at h;by_cases g:i.code=11
  .rw[if_pos g] at h
   rcases List.mem_cons.1 h with rfl | h
   .refine⟨AW,λx a=>?_,AW⟩
    rcases List.mem_append.1 a with a | a
    .exact .inl a
    .exact .inr (by simp[List.mem_singleton.1 a])
   .obtain⟨f,e,d⟩:=j [] r h
    refine⟨f,λx a=>?_,by simp at d ⊢;omega⟩;rcases e x a with h | h
    .cases h
    .exact .inr (CH _ h)
  .rw[if_neg g] at h
   obtain⟨f,e,d⟩:=j (b++[i]) r h;refine⟨f,λx a=>?_,by simp at d ⊢;omega⟩;rcases e x a with h | h
   .rcases List.mem_append.1 h with h | h
    .exact .inl h
    .exact .inr (by simp[List.mem_singleton.1 h])
   .exact .inr (CH _ h)
def Dk (k:Int)(l:List B1):List B1:=l.flatMap λn=>if n.kind=k then n.kids else [n]
def Il (k:Int)(ks:List B1):B1:=if h:ks.length=1 then ks[0] else⟨k,⟨0,[]⟩,ks⟩
def Bf:B1->B1
 | ⟨k,e,kids⟩=>if k=2\/k=3 then Il k (Dk k (kids.map Bf)) else⟨k,e,kids.map Bf⟩
def Iu (k:Int)(e:Elem)(kids:List B1):Bf ⟨k,e,kids⟩=if k=2\/k=3 then Il k (Dk k (kids.map Bf)) else⟨k,e,kids.map Bf⟩:=by rw[Bf]
def Jw (k:Int)(a b:List B1):Dk k (a++b)=Dk k a++Dk k b:=by simp[Dk]
def Nh (k:Int)(n:B1):Dk k [n]=if n.kind=k then n.kids else [n]:=by simp[Dk]
def sizes (l:List B1):Nat:=(l.map Ac).sum
def Mc (a b:List B1):sizes (a++b)=sizes a+sizes b:=by simp[sizes]
theorem Cj (n:B1):Ac n=1+sizes n.kids:=by obtain⟨k,e,kids⟩:=n;exact Oi k e kids
def He (l:List B1):l.length<=sizes l:=by
 induction l with
 | nil=>simp[sizes]
 | cons x r a=>
  have:=Cj x
  simp only[sizes,CN,Da,CC] at a ⊢;omega
def Jj (k:Int)(l:List B1):sizes (Dk k l)<=sizes l:=by
 induction l with
 | nil=>simp[Dk,sizes]
 | cons x r b=>
  have e:x::r=[x]++r:=rfl;rw[e,Jw,Mc,Mc,Nh];have h:sizes (if x.kind=k then x.kids else [x])<=sizes [x]:=by
   have a:sizes [x]=Ac x:=by simp[sizes]
   split
   .have:=Cj x;omega
   .exact B7 _
  omega
theorem SA (k:Int)(ks:List B1):Ac (Il k ks)<=1+sizes ks:=by
 unfold Il;split
 .rename_i h
  have a:=Em Ac ks ks[0] (CG _);unfold sizes;omega
 .rw[Cj];exact B7 _
theorem R2 (n:B1):Ac (Bf n)<=Ac n:=by
 refine Fv (λn=>Ac (Bf n)<=Ac n) ?_ n;intro k e kids b;have j:sizes (kids.map Bf)<=sizes kids:=by
  clear n;induction kids with
  | nil=>simp[sizes]
  | cons x r g=>
   have f:=b x AW;have a:=g (λy d=>b y (CH _ d));simp only[sizes,CN,Da] at a ⊢;omega
 rw[Iu];have i:Ac ⟨k,e,kids⟩=1+sizes kids:=Cj _;split
 .have f:=SA k (Dk k (kids.map Bf))
  have a:=Jj k (kids.map Bf);omega
 .rw[Cj]
  simp only;omega
def UQ (l:List B1):sizes (l.map Bf)<=sizes l:=by
 induction l with
 | nil=>simp[sizes]
 | cons x r a=>
  have b:=R2 x;simp only[sizes,CN,Da] at a ⊢;omega
def T9 (l:List B1)(n:Nat):sizes (l.take n)<=sizes l:=by
 have h:=Mc (l.take n) (l.drop n);rw[Ft] at h;omega
def vh (k:Int)(l:List B1)(n:Nat):(Dk k ((l.take n).map Bf)).length<=sizes (l.map Bf):=by
 have d:=He (Dk k ((l.take n).map Bf));have b:=Jj k ((l.take n).map Bf);have a:=T9 (l.map Bf) n;rw[<-List.map_take] at a;omega
def vi (k:Int)(l:List B1)(j:Nat)(h:j<l.length):Dk k ((l.take (j+1)).map Bf)=Dk k ((l.take j).map Bf)++(if(Bf l[j]).kind=k then(Bf l[j]).kids else [Bf l[j]]):=by
 rw[DO h,CX,Jw];congr 1;exact Nh k _
theorem Vh (l:List Int)(h:∀x∈l,0<=x)(h0:Ap l=0):∀x∈l,x=0:=by
 induction l with
 | nil=>intro x a;cases a
 | cons y r d=>
  unfold Ap at h0;have e:=h y AW;split at h0
  .omega
  .intro x a
   rcases List.mem_cons.1 a with rfl | a
   .omega
   .exact d (λz b=>h z (by simp[b])) h0 x a
theorem Fg {e:Elem}{kids:List B1}(h:Aj ⟨k,e,kids⟩=0):
  (k=1/\kids=[])\/((k=2\/k=3)/\0<kids.length/\∀x∈kids,Aj x=0)\/(k=4/\e=⟨0,[]⟩/\∃x,kids=[x]/\Aj x=0):=by
 rw[Lt] at h;by_cases d:k=1
 .rw[if_pos d] at h
  refine .inl ⟨d,?_⟩;by_cases a:0<kids.length
  .rw[if_pos a] at h;omega
  .exact List.length_eq_zero_iff.1 AU
 .rw[if_neg d] at h
  by_cases a:V8 k e.op e.args.length kids.length=true
  .rw[if_pos a] at h;omega
  .rw[if_neg a] at h
   have l:=Vh _ (λx b=>by obtain⟨n,_,rfl⟩:=List.mem_map.1 b;exact(Ji n).1) h;have g:=λx b=>l _ (List.mem_map.2 ⟨x,b,rfl⟩)
   simp only[V8,Bool.or_eq_true,decide_eq_true_eq,bne_iff_ne,ne_eq,D3,Bool.and_eq_true,not_or,not_and,Decidable.not_not] at a;obtain⟨⟨⟨⟨⟨s,q⟩,i⟩,j⟩,t⟩,m⟩:=a;by_cases f:k=4
   .refine .inr (.inr ⟨f,?_,?_⟩)
    .obtain⟨op,args⟩:=e
     simp only at i j;have:args=[]:=List.length_eq_zero_iff.1 AU;subst this;subst i;rfl
    .have r:=m f
     have o:kids.length=1:=AU
     obtain⟨x,rfl⟩:=List.length_eq_one_iff.1 o;exact⟨x,rfl,g x AW⟩
   .exact .inr (.inl ⟨AU,AU,g⟩)
def UT {e:Elem}{kids:List B1}(h:Ac ⟨k,e,kids⟩<=c):sizes (kids.map Bf)<=c/\∀x∈kids,Ac x<=c:=by
 have a:=UQ kids;rw[Oi] at h;refine⟨by unfold sizes at a ⊢;omega,λx b=>?_⟩;have:=Em Ac kids x b
 omega
def Vz:B1->Prop
 | ⟨k,_,kids⟩=>((k=2\/k=3)->kids.length≠1/\∀x∈kids,x.kind≠k)/\∀p∈kids.map Vz,p
theorem Om (n:B1):Vz n↔((n.kind=2\/n.kind=3)->n.kids.length≠1/\∀x∈n.kids,x.kind≠n.kind)/\∀x∈n.kids,Vz x:=by
 obtain⟨k,e,kids⟩:=n;rw[Vz,all_map]
def nm (k:Int)(l:List B1)(h:∀x∈l,x.kind≠k):Dk k l=l:=by
 induction l with
 | nil=>rfl
 | cons x r b=>
  have e:x::r=[x]++r:=rfl;rw[e,Jw,Nh,if_neg (h x AW),b (λy a=>h y (CH _ a))]
theorem jA (k:Int)(f:k=2\/k=3)(l:List B1)(h:∀x∈l,Vz x):∀x∈Dk k l,x.kind≠k/\Vz x:=by
 intro x a;obtain⟨y,d,a⟩:=List.mem_flatMap.1 a;have b:=(Om y).1 (h y d);split at a
 .rename_i e
  refine⟨?_,b.2 x a⟩;have:=(b.1 (by rw[e];exact f)).2 x a
  rwa [e] at this
 .rename_i e
  rw[List.mem_singleton.1 a];exact⟨e,h y d⟩
theorem mw (n:B1):Vz (Bf n):=by
 refine Fv (λn=>Vz (Bf n)) ?_ n;intro k e kids i;have d:∀x∈kids.map Bf,Vz x:=by
  intro x a;obtain⟨y,g,rfl⟩:=List.mem_map.1 a;exact i y g
 rw[Iu];split
 .rename_i b
  have hF:=jA k b _ d;unfold Il;split
  .exact(hF _ (CG _)).2
  .rename_i f
   rw[Om];exact⟨λ_=>⟨f,λx a=>(hF x a).1⟩,λx a=>(hF x a).2⟩
 .rename_i b
  rw[Om];exact⟨λh=>absurd h b,d⟩
def Rf:B1->Prop
 | ⟨k,e,kids⟩=>((k=2\/k=3)->e=⟨0,[]⟩)/\∀p∈kids.map Rf,p
theorem L9 (n:B1):Rf n↔((n.kind=2\/n.kind=3)->n.one=⟨0,[]⟩)/\∀x∈n.kids,Rf x:=by
 obtain⟨k,e,kids⟩:=n;rw[Rf,all_map]
theorem kN (n:B1):Rf (Bf n):=by
 refine Fv (λn=>Rf (Bf n)) ?_ n;intro k e kids i;have d:∀x∈kids.map Bf,Rf x:=by
  intro x a;obtain⟨y,b,rfl⟩:=List.mem_map.1 a;exact i y b
 have hF:∀x∈Dk k (kids.map Bf),Rf x:=by
  intro x a;obtain⟨y,b,a⟩:=List.mem_flatMap.1 a;have f:=(L9 y).1 (d y b);split at a
  .exact f.2 x a
  .rw[List.mem_singleton.1 a];exact d y b
 rw[Iu];split
 .unfold Il
  split
  .exact hF _ (CG _)
  .rw[L9]
   exact⟨λ_=>rfl,hF⟩
 .rename_i g
  rw[L9];exact⟨λh=>absurd h g,d⟩
theorem vE (n:B1):Vz n->Rf n->Bf n=n:=by
 refine Fv (λn=>Vz n->Rf n->Bf n=n) ?_ n;intro k e kids i j h;have a:=(Om _).1 j;have b:=(L9 _).1 h;simp only at a b;have g:kids.map Bf=kids:=by
  have:kids.map Bf=kids.map id:=JY (λx d=>i x d (a.2 x d) (b.2 x d));rw[this,List.map_id]
 rw[Iu,g];split
 .rename_i f
  rw[nm k kids (a.1 f).2];unfold Il;rw[dif_neg (a.1 f).1,b.1 f]
 .rfl
theorem WY {ks:List B1}(j:k=2\/k=3)(h0:0<ks.length)(h:∀x∈ks,Aj x=0):Aj ⟨k,⟨0,[]⟩,ks⟩=0:=by
 rw[Lt,if_neg AU];have a:V8 k 0 0 ks.length=false:=by
  unfold V8;have i:decide (k<2)=false:=by rw[ES];omega
  have b:decide (4<k)=false:=by rw[ES];omega
  have e:((ks.length:Int)==0)=false:=by rw[CJ];omega
  have f:(k==4)=false:=by rw[CJ];omega
  simp[i,b,e,f]
 rw[if_neg (by simp only[CM,a];exact Ek)];clear h0 a;induction ks with
 | nil=>rfl
 | cons x r g=>
  rw[CN,Ap,if_neg (by rw[h x AW];omega)];exact g (λy d=>h y (CH _ d))
theorem qE {n:B1}(h:Aj n=0)(b:n.kind=2\/n.kind=3):0<n.kids.length/\∀x∈n.kids,Aj x=0:=by
 obtain⟨k,e,kids⟩:=n;simp only at b ⊢;rcases Fg h with⟨f,_⟩ | ⟨_,d,a⟩ | ⟨f,_⟩
 .omega
 .exact⟨d,a⟩
 .omega
theorem si (f:k=2\/k=3){l:List B1}(h0:0<l.length)(h:∀x∈l,Aj x=0):0<(Dk k l).length/\∀x∈Dk k l,Aj x=0:=by
 have d:∀x∈l,0<(Dk k [x]).length/\∀y∈Dk k [x],Aj y=0:=by
  intro x b;rw[Nh];split
  .rename_i e
   exact qE (h x b) (by rw[e];exact f)
  .exact⟨AW,λy a=>by rw[List.mem_singleton.1 a];exact h x b⟩
 refine⟨?_,λy a=>?_⟩
 .obtain⟨x,r,rfl⟩:=LM (List.ne_nil_of_length_pos h0)
  have e:x::r=[x]++r:=rfl;rw[e,Jw,CO];have:=(d x AW).1
  omega
 .obtain⟨x,b,a⟩:=List.mem_flatMap.1 a
  refine(d x b).2 y ?_;rw[Nh];exact a
def oR (b:k=2\/k=3){l:List B1}(h0:0<l.length)(h:∀x∈l,Aj x=0):Aj (Il k (Dk k l))=0:=by
 obtain⟨d,a⟩:=si b h0 h;unfold Il;split
 .exact a _ (CG _)
 .exact WY b d a
theorem pA (n:B1):Aj n=0->Aj (Bf n)=0:=by
 refine Fv (λn=>Aj n=0->Aj (Bf n)=0) ?_ n;intro k e kids f h;have i:=h;rw[Iu];rcases Fg h with⟨rfl,rfl⟩ | ⟨d,j,l⟩ | ⟨rfl,rfl,x,rfl,b⟩
 .rw[if_neg AU];exact i
 .rw[if_pos d]
  refine oR d (by simpa using j) (λx b=>?_);obtain⟨y,a,rfl⟩:=List.mem_map.1 b;exact f y a (l y a)
 .rw[if_neg AU]
  have a:=f x AW b;rw[Lt,if_neg AU];have g:V8 4 (⟨0,[]⟩:Elem).op (⟨0,[]⟩:Elem).args.length ([x].map Bf).length=false:=A0
  rw[if_neg (by rw[g];exact Ek)];simp only[CN,EB,Ap];rw[if_neg AU]
def fine (n:B1):Prop:=Vz n/\Rf n/\Aj n=0
def NM {n:B1}(h:Aj n=0):fine (Bf n):=⟨mw n,kN n,pA n h⟩
def LO {n:B1}(h:fine n):Bf n=n:=vE n h.1 h.2.1
def none0:B1:=⟨0,⟨0,[]⟩,[]⟩
theorem W9 {n:B1}(h:Ai n=true):n=none0:=by
 obtain⟨k,⟨op,args⟩,kids⟩:=n;simp only[Ai,Bool.and_eq_true,D3] at h;obtain⟨⟨⟨g,f⟩,d⟩,e⟩:=h;have b:=List.length_eq_zero_iff.1 d;have a:=List.length_eq_zero_iff.1 e;subst b a g f;rfl
theorem N3 {n:B1}(h:fine n):Ai n=false:=by
 cases d:Ai n with
 | false=>rfl
 | true=>
  have e:=W9 d;have a:=h.2.2;rw[e] at a;unfold none0 at a;rcases Fg a with⟨b,_⟩ | ⟨b,_⟩ | ⟨b,_⟩<;>omega
def Ip (a b:B1):B1:=if Ai a then b else if Ai b then a else Il 2 (Dk 2 [a,b])
def UY {l:List B1}(h0:0<l.length)(h:∀x∈l,fine x):fine (Il 2 (Dk 2 l)):=by
 have b:l.map Bf=l:=by
  have:l.map Bf=l.map id:=JY (λx a=>LO (h x a));rw[this,List.map_id]
 have e:Il 2 (Dk 2 l)=Bf ⟨2,⟨0,[]⟩,l⟩:=by rw[Iu,if_pos (.inl rfl),b]
 rw[e];exact NM (WY (.inl rfl) h0 (λx a=>(h x a).2.2))
def Gi (n:B1):Prop:=Ai n=true\/fine n
theorem U7 {a b:B1}(f:Gi a)(e:Gi b):Gi (Ip a b):=by
 unfold Ip;split
 .exact e
 .rename_i i
  split
  .exact f
  .rename_i g
   refine .inr (UY AW (λx d=>?_));rcases List.mem_cons.1 d with rfl | d
   .rcases f with h | h
    .exact absurd h i
    .exact h
   .rw[List.mem_singleton.1 d]
    rcases e with h | h
    .exact absurd h g
    .exact h
def H5 (l:List B5):Nat:=(l.map Ah).sum
def Ie:Nat->B5->B5
 | 0,a=>a
 | f+1,a=>match a.kids with
  | [b]=>if a.coils=[]\/Ai b.net=true then Ie f ⟨Ip a.net b.net,a.coils++b.coils,b.kids⟩ else a
  | _=>a
theorem J4 (a:B5):1+H5 a.kids<=Ah a:=by
 obtain⟨n,c,kids⟩:=a;rw[Qs];unfold H5;simp only;omega
theorem kf (f:Nat):∀a:B5,H5 a.kids<=f->Ie f a=Ie (f+1) a:=by
 induction f with
 | zero=>
  intro a h;rw[Ie];conv=>rhs;rw[Ie]
  split
  .rename_i b e
   rw[e] at h;have:=J4 b
   simp[H5] at h;omega
  .rfl
 | succ f d=>
  intro a h;rw[Ie];conv=>rhs;rw[Ie]
  split
  .rename_i b e
   split
   .refine d _ ?_
    rw[e] at h;have:=J4 b
    simp only[H5,CN,EB,Da,IV] at h this ⊢;omega
   .rfl
  .rfl
def joined (a:B5):B5:=Ie (H5 a.kids) a
def rQ (a:B5):∀f,H5 a.kids<=f->Ie f a=joined a:=by
 intro f h;obtain⟨d,rfl⟩:=Nat.exists_eq_add_of_le h;clear h;induction d with
 | zero=>rfl
 | succ d b=>rw[<-Nat.add_assoc,<-kf _ a AU];exact b
def S3 (n:B1)(c:List Elem)(a:B5)(h:c=[]\/Ai a.net=true):joined ⟨n,c,[a]⟩=joined ⟨Ip n a.net,c++a.coils,a.kids⟩:=by
 have d:H5 [a]=Ah a:=by simp[H5]
 have e:=J4 a;unfold joined;simp only;rw[d];obtain⟨f,b⟩:∃f,Ah a=f+1:=⟨Ah a - 1,AU⟩
 rw[b,Ie];simp only;rw[if_pos h];exact rQ _ f yCd
theorem Yx (a:B5)(h:∀b,a.kids=[b]->¬(a.coils=[]\/Ai b.net=true)):joined a=a:=by
 unfold joined;cases d:H5 a.kids with
 | zero=>rfl
 | succ f=>
  rw[Ie];split
  .rename_i b e
   rw[if_neg (h b e)]
  .rfl
def Dv:B5->B5
 | ⟨n,a,kids⟩=>joined ⟨if Ai n then n else Bf n,a,kids.map Dv⟩
def pC (n:B1)(a:List Elem)(kids:List B5):Dv ⟨n,a,kids⟩=joined ⟨if Ai n then n else Bf n,a,kids.map Dv⟩:=by rw[Dv]
def sq:(⟨0,[]⟩:Elem).fits:=⟨by show i64 0;unfold i64;omega,AW,AW⟩
def WC {l:List B1}(h:∀x∈l,Bi x):∀x∈Dk k l,Bi x:=by
 intro x a;obtain⟨y,b,a⟩:=List.mem_flatMap.1 a;split at a
 .exact(Dw (h y b)).2.2.2 x a
 .rw[List.mem_singleton.1 a];exact h y b
def UX (a:i64 k){l:List B1}(h:∀x∈l,Bi x)(hl:l.length<=1048576):Bi (Il k l):=by
 unfold Il;split
 .exact h _ (CG _)
 .exact(Gn _ _ _).2 ⟨a,sq,hl,h⟩
theorem l6 {a b:B1}(f:Bi a)(e:Bi b)(j:Ac a+Ac b<=1000000):Bi (Ip a b):=by
 unfold Ip;split
 .exact e
 .split
  .exact f
  .refine UX yCc (WC (λx d=>?_)) ?_
   .rcases List.mem_cons.1 d with rfl | d
    .exact f
    .rw[List.mem_singleton.1 d];exact e
   .have l:=He (Dk 2 [a,b])
    have i:=Jj 2 [a,b];have g:sizes [a,b]=Ac a+Ac b:=by simp[sizes]
    omega
def BG (n:B1):Nat:=if Ai n then 0 else Ac n
def QD (n:B1):BG n<=Ac n:=by unfold BG;split<;>omega
theorem size_le (n:B1):Ac n<=1+BG n:=by
 unfold BG;split
 .rename_i h
  rw[W9 h];show Ac ⟨0,⟨0,[]⟩,[]⟩<=_
  rw[Oi];simp
 .omega
theorem lz (a b:B1):BG (Ip a b)<=BG a+BG b+1:=by
 unfold Ip;split
 .omega
 .rename_i e
  split
  .omega
  .rename_i d
   refine CB (QD _) ?_;have h:=SA 2 (Dk 2 [a,b]);have g:=Jj 2 [a,b];have i:sizes [a,b]=Ac a+Ac b:=by simp[sizes]
   have j:BG a=Ac a:=if_neg e;have f:BG b=Ac b:=if_neg d;omega
def Dp (n:B1)(c:List Elem)(kids:List B5):Ah ⟨n,c,kids⟩=1+c.length+BG n+H5 kids:=by rw[Qs];rfl
def Z5 (c:Nat)(b:B5):Prop:=Ba b/\Ah b<=c
def Nu (l:List B5):l.length<=H5 l:=by
 unfold H5;induction l with
 | nil=>simp
 | cons x r a=>
  have:=J4 x
  simp only[CC,CN,Da];omega
def Nn (k:B5):H5 [k]=Ah k:=by simp[H5]
theorem PK {n:B1}{cs:List Elem}{a:B5}(h:Z5 c ⟨n,cs,[a]⟩)(o:c<=900000):Z5 c ⟨Ip n a.net,cs++a.coils,a.kids⟩/\sizes [n,a.net]<=999999/\Bi n/\Bi a.net/\cs.length+a.coils.length<=1000000/\H5 a.kids<H5 [a]:=by
 obtain⟨i,g⟩:=h;rw[Dp,Nn] at g;obtain⟨f,j,l⟩:=a;rw[Dp] at g;rw[Nn,Dp];simp only;have e:=(Eu _ _ _).1 i;have d:=(Eu _ _ _).1 (e.2.2.2.2 ⟨f,j,l⟩ AW);have r:=size_le n;have q:=size_le f;have m:=lz n f;refine⟨⟨(Eu _ _ _).2 ⟨l6 e.1 d.1 AU,by rw[CO];omega,λx b=>?_,d.2.2.2⟩,?_⟩,by simp[sizes];omega,e.1,d.1,AU,AU⟩
 .rcases List.mem_append.1 b with b | b
  .exact e.2.2.1 x b
  .exact d.2.2.1 x b
 .rw[Dp,CO];omega
theorem UU (a:c<=900000):∀(f:Nat) (b:B5),Z5 c b->Z5 c (Ie f b)
 | 0,b,h=>h
 | f+1,⟨n,d,kids⟩,h=>by
  rw[Ie];split
  .rename_i g e
   simp only at e;subst e;split
   .exact UU a f _ (PK h a).1
   .exact h
  .exact h
def uR (a:c<=900000)(b:B5)(h:Z5 c b):Z5 c (joined b):=UU a _ b h
theorem pB (n:B1):Bi n->Ac n<=1000000->Bi (Bf n):=by
 refine Fv (λn=>Bi n->Ac n<=1000000->Bi (Bf n)) ?_ n;intro k e kids f h l;rw[Iu];have a:=(Gn _ _ _).1 h;have g:sizes kids<Ac ⟨k,e,kids⟩:=by rw[Cj];simp only;omega
 have b:∀x∈kids.map Bf,Bi x:=by
  intro x b;obtain⟨y,d,rfl⟩:=List.mem_map.1 b;have:Ac y<=sizes kids:=Em Ac kids y d;exact f y d (a.2.2.2 y d) AU
 split
 .refine UX a.1 (WC b) ?_
  have m:=He (Dk k (kids.map Bf));have j:=Jj k (kids.map Bf);have i:=UQ kids;omega
 .exact(Gn _ _ _).2 ⟨a.1,a.2.1,by rw[CP];exact a.2.2.1,b⟩
def netOf (n:B1):B1:=if Ai n then n else Bf n
def pN {n:B1}(h:Bi n)(a:BG n<=900000):Bi (netOf n):=by
 unfold netOf;split
 .exact h
 .exact pB n h (by have:=size_le n;omega)
theorem pK (n:B1):BG (netOf n)<=BG n:=by
 unfold netOf;split
 .exact B7 _
 .rename_i h
  have e:BG n=Ac n:=if_neg h;rw[e];exact CB (QD _) (R2 n)
def Na (n:B1)(c:List Elem)(kids:List B5):Dv ⟨n,c,kids⟩=joined ⟨netOf n,c,kids.map Dv⟩:=pC n c kids
theorem OP {n:B1}{c:List Elem}{kids:List B5}(g:Ba ⟨n,c,kids⟩)(i:Ah ⟨n,c,kids⟩<=900000)(e:∀x∈kids,Z5 (Ah x) (Dv x)):Z5 (Ah ⟨n,c,kids⟩) ⟨netOf n,c,kids.map Dv⟩:=by
 have d:=(Eu _ _ _).1 g;rw[Dp] at i ⊢;have m:=pK n;have o:H5 (kids.map Dv)<=H5 kids:=by
  clear g i d;induction kids with
  | nil=>simp
  | cons x r j=>
   have a:=(e x AW).2;have b:=j (λy f=>e y (CH _ f));simp only[H5,CN,Da] at b ⊢;omega
 refine⟨(Eu _ _ _).2 ⟨pN d.1 AU,d.2.1,d.2.2.1,by rw[CP];exact d.2.2.2.1,λx l=>?_⟩,by rw[Dp];omega⟩;obtain⟨y,f,rfl⟩:=List.mem_map.1 l;exact(e y f).1
theorem Xu (a:B5):Ba a->Ah a<=900000->Z5 (Ah a) (Dv a):=by
 refine Fb (λa=>Ba a->Ah a<=900000->Z5 (Ah a) (Dv a)) ?_ a;intro n c kids f e b;rw[Na];have g:=(Eu _ _ _).1 e;refine uR b _ (OP e b (λx d=>f x d (g.2.2.2.2 x d) ?_));have:Ah x<=H5 kids:=Em Ah kids x d;rw[Dp] at b;omega
def Ep:B5->Prop
 | ⟨n,_,kids⟩=>Gi n/\∀p∈kids.map Ep,p
def D8 (n:B1)(c:List Elem)(kids:List B5):Ep ⟨n,c,kids⟩↔Gi n/\∀x∈kids,Ep x:=by rw[Ep,all_map]
def Z8 {n:B1}{cs:List Elem}{a:B5}(h:Ep ⟨n,cs,[a]⟩):Ep ⟨Ip n a.net,cs++a.coils,a.kids⟩/\Gi n/\Gi a.net:=by
 obtain⟨e,f,g⟩:=a;have d:=(D8 _ _ _).1 h;have b:=(D8 _ _ _).1 (d.2 ⟨e,f,g⟩ AW);exact⟨(D8 _ _ _).2 ⟨U7 d.1 b.1,b.2⟩,d.1,b.1⟩
theorem RX:∀(f:Nat) (b:B5),Ep b->Ep (Ie f b)
 | 0,b,h=>h
 | f+1,⟨n,a,kids⟩,h=>by
  rw[Ie];split
  .rename_i d e
   simp only at e;subst e;split
   .exact RX f _ (Z8 h).1
   .exact h
  .exact h
def m9 (b:B5)(h:Ep b):Ep (joined b):=RX _ b h
theorem Qp {n:B1}(h:Ai n=true\/Aj n=0):Gi (netOf n):=by
 unfold netOf;split
 .rename_i a;exact .inl a
 .rename_i a
  rcases h with h | h
  .exact absurd h a
  .exact .inr (NM h)
def Jo:B5->Prop
 | ⟨n,_,kids⟩=>(Ai n=true\/Aj n=0)/\∀p∈kids.map Jo,p
def Oz (n:B1)(c:List Elem)(kids:List B5):Jo ⟨n,c,kids⟩↔(Ai n=true\/Aj n=0)/\∀x∈kids,Jo x:=by rw[Jo,all_map]
theorem Rz (a:B5):Jo a->Ep (Dv a):=by
 refine Fb (λa=>Jo a->Ep (Dv a)) ?_ a;intro n c kids e h;have d:=(Oz _ _ _).1 h;rw[Na];refine m9 _ ((D8 _ _ _).2 ⟨Qp d.1,λx f=>?_⟩);obtain⟨y,b,rfl⟩:=List.mem_map.1 f;exact e y b (d.2 y b)
theorem TN (a:B5):Bo a=0->Jo a:=by
 refine Fb (λa=>Bo a=0->Jo a) ?_ a;intro n c kids g h;rw[Vq] at h;have b:Cb ⟨n,c,kids⟩=0:=by
  have:=O0 ⟨n,c,kids⟩
  split at h<;>omega
 rw[if_neg AU] at h;refine(Oz _ _ _).2 ⟨?_,λx d=>g x d ?_⟩
 .unfold Cb at b
  simp only at b;cases e:Ai n with
  | true=>exact .inl rfl
  | false=>
   refine .inr ?_;have:=Ji n
   simp only[e] at b;split at b
   .simp at*;omega
   .simp at*;omega
 .exact Vh _ (λy f=>by obtain⟨z,_,rfl⟩:=List.mem_map.1 f;exact(Pg z).1) h _ (List.mem_map.2 ⟨x,d,rfl⟩)
def Af (l:List B5):List B5:=if(Am l).1=0 then l.map Dv else []
theorem Yg:∀(l:List B5) (k:Nat),(Ec l k).1=0->(Ec l k).2=0/\∀x∈l,Ey x=0
 | [],_,_=>⟨rfl,λx b=>by cases b⟩
 | a::r,k,h=>by
  rw[Ec] at h ⊢;have g:=Qz a;by_cases d:0<Ey a
  .rw[if_pos d] at h;simp only at h;omega
  .rw[if_neg d] at h ⊢
   obtain⟨f,e⟩:=Yg r (k+1) h;refine⟨f,λx b=>?_⟩;rcases List.mem_cons.1 b with rfl | b
   .omega
   .exact e x b
theorem t8 {a:B5}(h:Ey a=0):Ai a.net=false/\Bo a=0:=by
 unfold Ey at h;cases b:Ai a.net with
 | true=>rw[b] at h;simp at h
 | false=>rw[b] at h;exact⟨rfl,by simpa using h⟩
theorem Jk {l:List B5}(h:(Am l).1=0):(Am l).2=0/\l.length<=40/\Bc l<=400/\∀x∈l,Ai x.net=false/\Bo x=0:=by
 unfold Am at h ⊢;by_cases a:40<l.length\/400<Bc l
 .rw[if_pos a] at h;simp at h
 .rw[if_neg a] at h ⊢
  obtain⟨d,b⟩:=Yg l 0 h;exact⟨d,AU,AU,λx e=>t8 (b x e)⟩
theorem Xc:∀(l:List B5) (k:Nat),0<=(Ec l k).1/\(Ec l k).1<=5
 | [],_=>by rw[Ec];simp
 | a::r,k=>by
  rw[Ec];have b:=Qz a;split
  .exact b
  .exact Xc r (k+1)
def Vo (l:List B5):0<=(Am l).1/\(Am l).1<=5:=by
 unfold Am;split
 .simp
 .exact Xc l 0
def Rk {l:List B5}{x:B5}(hx:x∈l):Ah x<=Bc l:=Em Ah l x hx
def Jh {l:List B5}(h:(Am l).1=0){x:B5}(hx:x∈l):Jo x/\Ah x<=400:=by
 obtain⟨_,_,a,b⟩:=Jk h;exact⟨TN x (b x hx).2,CB (Rk hx) a⟩
def Bg (b:Nat)(l:List Nat):Nat:=l.foldl max b
def S1 (b:Nat)(l:List Nat)(x:Nat):Bg b (l++[x])=max (Bg b l) x:=by simp[Bg]
theorem Oj:∀(l:List Nat) (b c:Nat),Bg (max b c) l=max b (Bg c l)
 | [],_,_=>rfl
 | x::r,b,c=>by
  show Bg (max (max b c) x) r=max b (Bg (max c x) r)
  rw[Nat.max_assoc,Oj r]
def Yw (l:List Nat)(b:Nat):Bg b l=max b (Bg 0 l):=by
 have:=Oj l b 0
 rwa [Nat.max_zero] at this
theorem Ni:∀(l:List Nat) (b c:Nat),b<=c->(∀x∈l,x<=c)->Bg b l<=c
 | [],_,_,h,_=>h
 | x::r,b,c,h,a=>Ni r (max b x) c (Nat.max_le.2 ⟨h,a x AW⟩) (λy d=>a y (CH _ d))
def Jt {b:Nat}{l:List Nat}{j:Nat}(h:j<l.length):Bg b (l.take (j+1))=max (Bg b (l.take j)) l[j]:=by
 rw[DO h,S1]
def Xi (n i x:Nat):Nat:=if i+1<n then x+1 else x
def bump (a:List Nat):List Nat:=a.mapIdx (λi x=>Xi a.length i x)
def KB (a:List Nat):(bump a).length=a.length:=by simp[bump]
def OO (a:List Nat)(i:Nat)(h:i<(bump a).length):(bump a)[i]=Xi a.length i (a[i]'(by rwa [KB] at h)):=by simp[bump]
theorem yC (a:List Nat)(z:Nat):bump (a++[z])=a.map (·+1)++[z]:=by
 apply List.ext_getElem
 .simp[bump]
 .intro i b d
  rw[OO];unfold Xi;have e:i<a.length+1:=by simpa[KB] using b
  by_cases hi:i<a.length
  .rw[if_pos (by rw[CO,EZ];omega),fm hi,fm Bn,EU]
  .obtain rfl:i=a.length:=by omega
   rw[if_neg (by rw[CO,EZ];omega)];simp
def forks:B5->Nat
 | ⟨_,_,kids⟩=>Bg 0 (bump (kids.map forks))
def X0 (n:B1)(c:List Elem)(kids:List B5):forks ⟨n,c,kids⟩=Bg 0 (bump (kids.map forks)):=by rw[forks]
def wm (n:B1)(c:List Elem):forks ⟨n,c,[]⟩=0:=by rw[X0];rfl
def sb (n:B1)(c:List Elem)(init:List B5)(z:B5):forks ⟨n,c,init++[z]⟩=Bg (forks z) (init.map (λk=>1+forks k)):=by
 rw[X0,CX,fj,yC,S1,Yw _ (forks z),Nat.max_comm];congr 2;rw[FY];refine JY (λx _=>?_);show forks x+1=1+forks x
 omega
theorem WO (a:B5):forks a<=Ah a:=by
 refine Fb (λa=>forks a<=Ah a) ?_ a;intro n c kids d;rw[X0];refine Ni _ _ _ (DK _) (λx e=>?_);obtain⟨i,hi,rfl⟩:=List.getElem_of_mem e;rw[OO];have b:i<kids.length:=by rw[KB,CP] at hi;exact hi
 rw[EU];have g:=d kids[i] (CG b);have f:Ah kids[i]<=H5 kids:=Em Ah kids _ (CG b);rw[Dp];unfold Xi;split<;>omega
def KT (k:Int)(b:Nat):Nat:=if k=1 then 1 else 1+b
def L2 (k:Int)(ks:List Int)(bs:List Nat):Nat:=if k=1 then 1 else Bg (bs.headD 0) ((List.zipWith KT ks bs).drop 1)
def Az:B1->Nat
 | ⟨k,_,kids⟩=>L2 k (kids.map B1.kind) (kids.map Az)
def Cc (n:B1):Nat:=KT n.kind (Az n)
def Xl (k:Int)(e:Elem)(kids:List B1):Az ⟨k,e,kids⟩=L2 k (kids.map B1.kind) (kids.map Az):=by rw[Az]
def Xk (e:Elem)(kids:List B1):Az ⟨1,e,kids⟩=1:=by rw[Xl];rfl
def Oy (e:Elem)(x:B1)(r:List B1)(h:k≠1):Az ⟨k,e,x::r⟩=Bg (Az x) (r.map Cc):=by
 rw[Xl];unfold L2;rw[if_neg h];simp only[CN,List.headD_cons,RE,List.drop_succ_cons,LN];congr 1;rw[List.zipWith_map,List.zipWith_self];rfl
def lp {n:B1}(h:Az n<=c):Cc n<=1+c:=by
 unfold Cc KT;split<;>omega
theorem SB (n:B1):Az n<=Ac n:=by
 refine Fv (λn=>Az n<=Ac n) ?_ n;intro k e kids d;rw[Cj];simp only;by_cases b:k=1
 .rw[b,Xk];omega
 .cases kids with
  | nil=>
   rw[Xl];unfold L2;rw[if_neg b];simp[Bg]
  | cons x r=>
   rw[Oy e x r b];have f:∀y∈x::r,Ac y<=sizes (x::r):=λy a=>Em Ac _ y a
   refine Ni _ _ _ (CB (d x AW) (by have:=f x AW;omega)) (λz g=>?_);obtain⟨y,a,rfl⟩:=List.mem_map.1 g;have i:=lp (d y (CH _ a));have j:=f y (CH _ a);omega
def Bh (n:B1):List B1:=if Ai n then [] else if n.kind=2 then n.kids else [n]
def Gf (n:B1)(t:Nat):Nat:=Bg t ((Bh n).map Cc)
def Bq:B5->Nat
 | ⟨_,_,kids⟩=>Bg 1 (List.zipWith Gf (kids.map B5.net) (kids.map Bq))
def U6 (n:B1)(c:List Elem)(kids:List B5):Bq ⟨n,c,kids⟩=Bg 1 (kids.map (λk=>Gf k.net (Bq k))):=by
 rw[Bq,List.zipWith_map,List.zipWith_self]
theorem LQ (n:B1):∀x∈Bh n,Ac x<=BG n:=by
 intro x a;unfold Bh at a;split at a
 .cases a
 .rename_i h
  have e:BG n=Ac n:=if_neg h;rw[e];split at a
  .rw[Cj n]
   have:Ac x<=sizes n.kids:=Em Ac _ x a;omega
  .rw[List.mem_singleton.1 a];exact B7 _
def Ig (a:B5):Nat:=max (Az a.net) (Bq a)
def Hq (l:List B5):Nat:=Bg 0 ((Af l).map Ig)
def F9 (l:List B5):Nat:=Bg 0 ((Af l).map forks)
def Q5:B1->Prop
 | ⟨k,_,kids⟩=>(k≠1->kids≠[])/\∀p∈kids.map Q5,p
def Xz (k:Int)(e:Elem)(kids:List B1):Q5 ⟨k,e,kids⟩↔(k≠1->kids≠[])/\∀x∈kids,Q5 x:=by rw[Q5,all_map]
theorem full_of (n:B1):Aj n=0->Q5 n:=by
 refine Fv (λn=>Aj n=0->Q5 n) ?_ n;intro k e kids f h;rw[Xz];rcases Fg h with⟨rfl,rfl⟩ | ⟨_,d,i⟩ | ⟨_,_,x,rfl,a⟩
 .exact⟨λh=>absurd rfl h,(λx a=>by cases a)⟩
 .exact⟨(λ_ b=>by rw[b] at d;simp at d),λx a=>f x a (i x a)⟩
 .exact⟨(λ_ b=>by cases b),λy g=>by rw[List.mem_singleton.1 g];exact f x AW a⟩
theorem Lc {n:B1}(h:Aj n=0):∀x∈n.kids,Aj x=0:=by
 obtain⟨k,e,kids⟩:=n;rcases Fg h with⟨_,rfl⟩ | ⟨_,_,d⟩ | ⟨_,_,x,rfl,a⟩
 .intro x a;cases a
 .exact d
 .intro y b;rw[List.mem_singleton.1 b];exact a
theorem TM {n:B1}(h:Gi n):∀x∈Bh n,Q5 x:=by
 intro x a;unfold Bh at a;split at a
 .cases a
 .rename_i d
  have b:=h.resolve_left d;split at a
  .exact full_of x (Lc b.2.2 x a)
  .rw[List.mem_singleton.1 a];exact full_of n b.2.2
theorem vm {n:B1}(h:fine n):1<=n.kind/\n.kind<=4:=by
 obtain⟨k,e,kids⟩:=n;rcases Fg h.2.2 with⟨a,_⟩ | ⟨a,_⟩ | ⟨a,_⟩<;>(simp only;omega)
theorem l0 {a b:B1}(h:Ai a=false)(f:Gi b)(g:fine a):Ai (Ip a b)=false:=by
 have d:=U7 (.inr g) f;unfold Ip at d ⊢;rw[if_neg yFf] at d ⊢;split
 .exact h
 .rename_i i
  rw[if_neg i] at d;refine N3 (UY AW (λx e=>?_));rcases List.mem_cons.1 e with rfl | e
  .exact g
  .rw[List.mem_singleton.1 e]
   exact f.resolve_left i
theorem S4:∀(f:Nat) (b:B5),Ep b->Ai b.net=false->Ai (Ie f b).net=false
 | 0,_,_,h=>h
 | f+1,⟨n,g,kids⟩,d,h=>by
  rw[Ie];split
  .rename_i i e
   simp only at e h;subst e;split
   .have a:=Z8 d
    refine S4 f _ a.1 ?_;exact l0 h a.2.2 (a.2.1.resolve_left yFf)
   .exact h
  .exact h
theorem SH {a:B5}(hr:Jo a)(h:Ai a.net=false):Ai (Dv a).net=false:=by
 obtain⟨n,c,kids⟩:=a;have b:=(Oz _ _ _).1 hr;rw[Na];simp only at h;refine S4 _ _ ((D8 _ _ _).2 ⟨Qp b.1,λx e=>?_⟩) ?_
 .obtain⟨y,d,rfl⟩:=List.mem_map.1 e
  exact Rz y (b.2 y d)
 .show Ai (netOf n)=false
  unfold netOf;rw[if_neg yFf];exact N3 (NM (b.1.resolve_left yFf))
theorem Ti (l:List B5):∀x∈Af l,Ep x/\Ai x.net=false:=by
 intro x a;unfold Af at a;by_cases b:(Am l).1=0
 .rw[if_pos b] at a
  obtain⟨y,d,rfl⟩:=List.mem_map.1 a;have e:=(Jh b d).1;exact⟨Rz y e,SH e ((Jk b).2.2.2 y d).1⟩
 .rw[if_neg b] at a;cases a
def Hg (c:Int):Dj:=⟨c,⟨0,[]⟩⟩
def PR (k:Int)(n:B1)(l:List Dj):List Dj:=if n.kind=1 then [⟨k,n.one⟩] else l++[Hg (k+2)]
def ML (k:Int)(o:Elem)(kids:List B1)(a:List (List Dj)):List Dj:=
 if k=1 then [⟨1,o⟩] else if k=4 then a.headD []++[Hg 6] else a.headD []++((List.zipWith (PR k) kids a).drop 1).flatten
def C9:B1->List Dj
 | ⟨k,o,kids⟩=>ML k o kids (kids.map C9)
def M8 (k:Int)(o:Elem)(kids:List B1):C9 ⟨k,o,kids⟩=ML k o kids (kids.map C9):=by rw[C9]
def D5 (k:Int)(n:B1):List Dj:=PR k n (C9 n)
def Lu (o:Elem)(kids:List B1):C9 ⟨1,o,kids⟩=[⟨1,o⟩]:=by rw[M8];rfl
def L6 (o:Elem)(x:B1)(r:List B1):C9 ⟨4,o,x::r⟩=C9 x++[Hg 6]:=by rw[M8];rfl
def Jr (o:Elem)(x:B1)(r:List B1)(h1:k≠1)(a:k≠4):C9 ⟨k,o,x::r⟩=C9 x++(r.map (D5 k)).flatten:=by
 rw[M8];unfold ML;rw[if_neg h1,if_neg a,CN,List.headD_cons,RE,List.drop_succ_cons,LN,List.zipWith_map_right,List.zipWith_self];rfl
def Ju (k:Int)(n:B1)(h:n.kind=1):D5 k n=[⟨k,n.one⟩]:=if_pos h
def Ik (k:Int)(n:B1)(h:n.kind≠1):D5 k n=C9 n++[Hg (k+2)]:=if_neg h
def Be (n:B1):List Dj:=((Bh n).map (D5 2)).flatten
def Eb (n i:Nat):List Dj:=if n=1 then [] else if i=0 then [Hg 7] else if i+1=n then [Hg 9] else [Hg 8]
def Gj (cs:List Elem):List Dj:=cs.map (λc=>⟨10,c⟩)
def F4 (n i:Nat)(a:B5)(t:List Dj):List Dj:=Eb n i++(Be a.net++t)
def P3 (cs:List Elem)(kids:List B5)(ts:List (List Dj)):List Dj:=
 Gj cs++((List.zipWith (λ(a:B5) t=>(a,t)) kids ts).mapIdx (λi p=>F4 kids.length i p.1 p.2)).flatten
def Bj:B5->List Dj
 | ⟨_,a,kids⟩=>P3 a kids (kids.map Bj)
def Ho (n i:Nat)(a:B5):List Dj:=F4 n i a (Bj a)
def U5 (n:B1)(cs:List Elem)(kids:List B5):Bj ⟨n,cs,kids⟩=Gj cs++(kids.mapIdx (λi a=>Ho kids.length i a)).flatten:=by
 rw[Bj];unfold P3;congr 2;apply List.ext_getElem
 .simp
 .intro i d b
  simp[Ho]
def Ef (a:B5):List Dj:=C9 a.net++(Bj a++[Hg 11])
def E5 (l:List B5):List Dj:=((Af l).map Ef).flatten
def run:Pt->List Dj->Option Pt
 | s,[]=>some s
 | s,i::r=>if 0<wrong s i then none else run (next s i.code) r
theorem yt (l:List Dj):∀(s:Pt) (k:Nat),(Hr s k l).1=0↔∃t,run s l=some t/\¬0<t.bits:=by
 induction l with
 | nil=>
  intro s k;rw[Hr,run];by_cases h:0<s.bits
  .rw[if_pos h]
   constructor
   .intro a;simp at a
   .rintro⟨t,b,a⟩
    injection b with b
    subst b;exact absurd h a
  .rw[if_neg h]
   exact⟨λ_=>⟨s,rfl,h⟩,λ_=>rfl⟩
 | cons i r d=>
  intro s k;rw[Hr,run];by_cases h:0<wrong s i
  .rw[if_pos h,if_pos h]
   constructor
   .intro a;simp only at a;omega
   .rintro⟨t,b,_⟩;cases b
  .rw[if_neg h,if_neg h]
   exact d _ _
def py (a b:List Dj):∀s,run s (a++b)=(run s a).bind λt=>run t b:=by
 induction a with
 | nil=>intro s;rfl
 | cons i r d=>
  intro s;rw[CY,run,run];split
  .rfl
  .exact d _
theorem ZH {s:Pt}{i:Dj}(h:wrong s i=0)(d:i.code≠11):0<(next s i.code).bits:=by
 obtain⟨e,a,_⟩:=MZ h;unfold next
 rw[if_neg d];unfold needs at a;show 0<(if i.code=1 then s.bits+1 else if i.code=4\/i.code=5 then s.bits - 1 else s.bits)
 split
 .rename_i b
  rw[if_pos b] at a;omega
 .rename_i b
  rw[if_neg b] at a;split at a<;>split<;>omega
def ZI (s:Pt){i:Dj}(h:i.code=11):next s i.code=pt0:=by
 unfold next
 rw[if_pos h]
theorem yW (l:List Dj):∀(a:List Dj) (s:Pt),run pt0 a=some s->(∀x∈a,x.code≠11)->(a=[]\/0<s.bits)->(∃t,run s l=some t/\¬0<t.bits)->
  (Es a l).flatten=a++l/\(∀b,Es a (l++b)=Es a l++Es [] b)/\∀r∈Es a l,run pt0 r=some pt0/\∃y i,r=y++[i]/\i.code=11/\∀x∈y,x.code≠11:=by
 induction l with
 | nil=>
  rintro a s w m v ⟨t,d,f⟩;injection d with d
  subst d;have D:a=[]:=by rcases v with h | h;exact h;exact absurd h f
  subst D;exact⟨rfl,λb=>rfl,λr B=>by cases B⟩
 | cons i r z=>
  rintro a s w m v ⟨t,d,f⟩;rw[run] at d;split at d
  .cases d
  rename_i E;have G:=lj s i;have F:wrong s i=0:=AU
  have j:run pt0 (a++[i])=some (next s i.code):=by
   rw[py,w];show run s [i]=_
   rw[run,if_neg E,run]
  by_cases e:i.code=11
  .have A:=ZI s e
   rw[A] at d j;obtain⟨u,n,o⟩:=z [] pt0 rfl AW (.inl rfl) ⟨t,d,f⟩;rw[Es,if_pos e];refine⟨by rw[DV,u];simp,λb=>by rw[CY,Es,if_pos e,n,CY],λq g=>?_⟩;rcases List.mem_cons.1 g with rfl | g
   .exact⟨j,a,i,rfl,e,m⟩
   .exact o q g
  .obtain⟨u,n,o⟩:=z (a++[i]) (next s i.code) j (λx C=>by rcases List.mem_append.1 C with h | h;exact m x h;rw[List.mem_singleton.1 h];exact e) (.inr (ZH F e)) ⟨t,d,f⟩
   rw[Es,if_neg e];exact⟨by rw[u];simp,λb=>by rw[CY,Es,if_neg e,n],o⟩
def ZA (xs:List Dj)(i:Dj)(h:i.code=11):∀a,(∀x∈xs,x.code≠11)->Es a (xs++[i])=[a++xs++[i]]:=by
 induction xs with
 | nil=>intro a _;rw[C3,Es,if_pos h,Es];simp
 | cons x r d=>
  intro a b;rw[CY,Es,if_neg (b x AW),d _ (λy hy=>b y Bw)];simp
theorem NY {l:List Dj}:(Ew l).1=0↔l.length<=1000/\∃t,run pt0 l=some t/\¬0<t.bits:=by
 unfold Ew;by_cases h:1000<l.length
 .rw[if_pos h]
  constructor
  .intro a;simp at a
  .rintro⟨a,_⟩;omega
 .rw[if_neg h,yt]
  exact⟨λa=>⟨AU,a⟩,λa=>a.2⟩
def VJ {l:List Dj}(h:(Ew l).1=0):Ew l=(0,0):=by
 have:=S9 l AU
 exact Prod.ext this.1 this.2
def oj {l:List Dj}(h:(Ew l).1=0):(La l).flatten=l/\∀r∈La l,Ew r=(0,0)/\(La r).length=1:=by
 obtain⟨s,n⟩:=NY.1 h;obtain⟨o,_,q⟩:=yW l [] pt0 rfl AW (.inl rfl) n;have e:La l=Es [] l:=by unfold La;rw[if_neg AU]
 rw[e];refine⟨by simpa using o,λr b=>?_⟩;obtain⟨d,a,i,rfl,j,f⟩:=q r b;have g:=(ix l [] _ b).2.2;have m:(Ew (a++[i])).1=0:=NY.2 ⟨by simp at g ⊢;omega,pt0,d,AZ⟩;refine⟨VJ m,?_⟩;unfold La;rw[if_neg AU,ZA a i j [] f];rfl
def opn (k:Int)(n:B1):List B1:=if n.kind=k then n.kids else [n]
def Q3 (k:Int)(a b:B1):B1:=⟨k,⟨0,[]⟩,opn k a++opn k b⟩
def Kv (k:Int)(a b:B1):B1:=if a.kind=0 then b else Q3 k a b
def H8 (e:Elem):B1:=⟨1,e,[]⟩
def K6 (a:B1):B1:=⟨4,⟨0,[]⟩,[a]⟩
def Hz:B1:=⟨0,⟨0,[]⟩,[]⟩
def E1 (c:Int)(e:Elem)(st:List B1):List B1:=
 if c=1 then H8 e::st
 else if c=2 then(match st with | a::r=>Kv 2 a (H8 e)::r | []=>[])
 else if c=3 then(match st with | a::r=>Kv 3 a (H8 e)::r | []=>[])
 else if c=4 then(match st with | a::b::r=>Kv 2 b a::r | s=>s)
 else if c=5 then(match st with | a::b::r=>Kv 3 b a::r | s=>s)
 else(match st with | a::r=>K6 a::r | []=>[])
def XR (n:B1):Prop:=Bi n/\1<=n.kind
def F7 (a:B1)(r:List B1):sizes (a::r)=Ac a+sizes r:=by simp[sizes]
def Tv:sizes []=0:=rfl
def Ud (k:Int)(a:B1):sizes (opn k a)<=Ac a:=by
 unfold opn;split
 .rw[Cj];omega
 .rw[F7,Tv];omega
def Wc {a:B1}(h:Bi a):∀x∈opn k a,Bi x:=by
 unfold opn;split
 .exact(Dw h).2.2.2
 .intro x b
  rw[List.mem_singleton.1 b];exact h
def YU (k:Int)(a b:B1):Ac (Q3 k a b)<=1+Ac a+Ac b:=by
 rw[Cj];have f:=Ud k a;have d:=Ud k b;have e:=Mc (opn k a) (opn k b);show 1+sizes (opn k a++opn k b)<=_
 omega
theorem NQ:Elem.fits ⟨0,[]⟩:=⟨⟨AW,AW⟩,AW,(λd hd=>by cases hd)⟩
theorem YV {a b:B1}(g:i64 k)(f:Bi a)(e:Bi b)(l:Ac a+Ac b<=1000000):Bi (Q3 k a b):=by
 unfold Q3;rw[Gn];refine⟨g,NQ,?_,λx d=>?_⟩
 .have m:=Ud k a
  have j:=Ud k b;have h:=Mc (opn k a) (opn k b);have i:=He (opn k a++opn k b);omega
 .rcases List.mem_append.1 d with d | d
  .exact Wc f x d
  .exact Wc e x d
def XE (k:Int)(a b:B1):Ac (Kv k a b)<=1+Ac a+Ac b:=by
 unfold Kv;split
 .omega
 .exact YU k a b
theorem kr {e:Elem}(h:e.fits):XR (H8 e):=by
 unfold H8;refine⟨?_,by show(1:Int)<=1;decide⟩;rw[Gn];exact⟨⟨AZ,AZ⟩,h,AW,(λd hd=>by cases hd)⟩
def kq (e:Elem):Ac (H8 e)=1:=by rw[Cj];rfl
def ZF (a:B1):Ac (K6 a)=1+Ac a:=by
 rw[Cj];show 1+sizes [a]=_
 rw[F7,Tv];omega
def D4:List B1->List Dj->B1->List Dj->Prop
 | _,[],_,_=>False
 | st,i::r,n,a=>if i.code<7 then 1<=i.code/\needs i.code<=(st.length:Int)/\D4 (E1 i.code i.one st) r n a else st=[n]/\a=i::r
def Rq:List Dj->List Elem->List Dj->Prop
 | [],_,_=>False
 | i::r,a,d=>if i.code=10 then ∃b,a=i.one::b/\Rq r b d else a=[]/\d=i::r
def J5 (P:List Dj->B5->List Dj->Prop):List B5->List Dj->List Dj->Prop
 | a::b,i::l,r=>if b=[] then i.code=9/\P l a r else(i.code=7\/i.code=8)/\∃m,P l a m/\J5 P b m r
 | _,_,_=>False
def E8:List Dj->Int
 | []=>0
 | i::_=>i.code
def JR (P:List Dj->B5->List Dj->Prop)(ks:List B5)(l r:List Dj):Prop:=
 ((E8 l=8\/E8 l=9\/E8 l=11)/\ks=[]/\r=l)\/(1<=E8 l/\E8 l<7/\∃a,ks=[a]/\P l a r)\/(E8 l=7/\J5 P ks l r)
def DW:Nat->List B1->List Dj->B5->List Dj->Prop
 | 0,_,_,_,_=>False
 | n+1,e,l,a,r=>∃b d,D4 e l a.net b/\Rq b a.coils d/\JR (DW n [Hz]) a.kids d r
theorem D4.suffix:∀{l:List Dj} {b:List B1} {n:B1} {a:List Dj},D4 b l n a->a<:+l/\7<=E8 a
 | [],_,_,_,h=>h.elim
 | i::r,b,n,a,h=>by
  rw[D4] at h;split at h
  .obtain⟨e,d⟩:=D4.suffix h.2.2
   exact⟨e.trans (List.suffix_cons i r),d⟩
  .rename_i f
   rw[h.2];exact⟨List.suffix_refl _,by show 7<=i.code;omega⟩
theorem Rq.suffix:∀{l:List Dj} {b:List Elem} {a:List Dj},Rq l b a->a<:+l/\E8 a≠10/\b.length+a.length=l.length
 | [],_,_,h=>h.elim
 | i::r,b,a,h=>by
  rw[Rq] at h;split at h
  .obtain⟨j,rfl,h⟩:=h
   obtain⟨e,d,g⟩:=Rq.suffix h;exact⟨e.trans (List.suffix_cons i r),d,by simp only[CC];omega⟩
  .rename_i f
   obtain⟨rfl,rfl⟩:=h;exact⟨List.suffix_refl _,f,AW⟩
theorem J5.suffix {P:List Dj->B5->List Dj->Prop}(d:∀l a r,P l a r->r<:+l):∀{f:List B5} {l r:List Dj},J5 P f l r->r<:+l/\r.length<l.length
 | [],_,_,h=>by simp[J5] at h
 | _::_,[],_,h=>by simp[J5] at h
 | a::f,i::l,r,h=>by
  rw[J5] at h;split at h
  .have b:=d _ _ _ h.2
   exact⟨b.trans (List.suffix_cons i l),by have:=b.length_le;simp only[CC];omega⟩
  .obtain⟨_,m,b,j⟩:=h
   have g:=J5.suffix d j;have e:=d _ _ _ b;exact⟨(g.1.trans e).trans (List.suffix_cons i l),by have:=e.length_le;simp only[CC];omega⟩
theorem JR.suffix {P:List Dj->B5->List Dj->Prop}(b:∀l a r,P l a r->r<:+l){ks:List B5}{l r:List Dj}(h:JR P ks l r):r<:+l:=by
 rcases h with⟨_,_,rfl⟩ | ⟨_,_,a,_,h⟩ | ⟨_,h⟩
 .exact List.suffix_refl _
 .exact b _ _ _ h
 .exact(J5.suffix b h).1
theorem DW.suffix:∀{n:Nat} {b:List B1} {l:List Dj} {a:B5} {r:List Dj},DW n b l a r->r<:+l
 | 0,_,_,_,_,h=>h.elim
 | n+1,b,l,a,r,h=>by
  obtain⟨g,i,f,e,d⟩:=h;exact((JR.suffix (λl a r h=>DW.suffix h) d).trans e.suffix.1).trans f.suffix.1
theorem D4.more (x:List Dj):∀{l:List Dj} {a:List B1} {n:B1} {d:List Dj},D4 a l n d->D4 a (l++x) n (d++x)
 | [],_,_,_,h=>h.elim
 | i::r,a,n,d,h=>by
  rw[D4] at h;rw[CY,D4];split at h
  .rename_i b
   rw[if_pos b];exact⟨h.1,h.2.1,D4.more x h.2.2⟩
  .rename_i b
   rw[if_neg b,h.2];exact⟨h.1,rfl⟩
theorem Rq.more (x:List Dj):∀{l:List Dj} {a:List Elem} {d:List Dj},Rq l a d->Rq (l++x) a (d++x)
 | [],_,_,h=>h.elim
 | i::r,a,d,h=>by
  rw[Rq] at h;rw[CY,Rq];split at h
  .rename_i b
   rw[if_pos b];obtain⟨f,e,h⟩:=h;exact⟨f,e,Rq.more x h⟩
  .rename_i b
   rw[if_neg b,h.2];exact⟨h.1,rfl⟩
theorem J5.more {P:List Dj->B5->List Dj->Prop}(x:List Dj)(d:∀l a r,P l a r->P (l++x) a (r++x)):∀{e:List B5} {l r:List Dj},J5 P e l r->J5 P e (l++x) (r++x)
 | [],_,_,h=>by simp[J5] at h
 | _::_,[],_,h=>by simp[J5] at h
 | a::e,i::l,r,h=>by
  rw[J5] at h;rw[CY,J5];split at h
  .rename_i b
   rw[if_pos b];exact⟨h.1,d _ _ _ h.2⟩
  .rename_i b
   rw[if_neg b];obtain⟨g,m,j,f⟩:=h;exact⟨g,m++x,d _ _ _ j,J5.more x d f⟩
theorem Nv {l:List Dj}(x:List Dj)(h:E8 l≠0):E8 (l++x)=E8 l:=by
 cases l with
 | nil=>exact absurd rfl h
 | cons i r=>rfl
theorem DW.more (x:List Dj):∀{n:Nat} {f:List B1} {l:List Dj} {a:B5} {r:List Dj},DW n f l a r->DW n f (l++x) a (r++x)
 | 0,_,_,_,_,h=>h.elim
 | n+1,f,l,a,r,h=>by
  obtain⟨i,j,q,m,g⟩:=h;refine⟨i++x,j++x,q.more x,m.more x,?_⟩;rcases g with⟨d,e,rfl⟩ | ⟨o,d,b,e,h⟩ | ⟨d,h⟩
  .exact .inl ⟨by rw[Nv x AU];exact d,e,rfl⟩
  .exact .inr (.inl ⟨by rw[Nv x AU];exact o,by rw[Nv x AU];exact d,b,e,DW.more x h⟩)
  .exact .inr (.inr ⟨by rw[Nv x AU];exact d,J5.more x (λ_ _ _ h=>DW.more x h) h⟩)
def Xa (n:B1):Prop:=Bi n/\(n.kind=0->Ai n=true)
def GR (c:Nat)(st:List B1):Prop:=(∀n∈st,Xa n)/\sizes st<=c
def cy {n:B1}(h:XR n):Xa n:=⟨h.1,λa=>by have:=h.2;omega⟩
theorem kY:Bi Hz:=by
 unfold Hz;rw[Gn];exact⟨⟨AZ,AZ⟩,NQ,AW,(λd hd=>by cases hd)⟩
def kS:Ac Hz=1:=by rw[Cj];rfl
def pE:Xa Hz:=⟨kY,λ_=>rfl⟩
theorem QI {a b:B1}(g:k=2\/k=3)(f:Xa a)(d:Xa b)(i:Ac a+Ac b<=1000000):Xa (Kv k a b):=by
 unfold Kv;split
 .exact d
 .have j:i64 k:=by rcases g with rfl | rfl<;>exact⟨AZ,AZ⟩
  exact⟨YV j f.1 d.1 i,λe=>by have e:k=0:=e;omega⟩
theorem ez {c:Int}{e:Elem}{st:List B1}{s:Nat}(v:e.fits)(h:GR s st)(y:s<=900000):GR (s+2) (E1 c e st):=by
 obtain⟨f,i⟩:=h;have o:=cy (kr v);have z:=kq e;have w:∀a,Xa a->Xa (K6 a):=λa g=>by
  refine⟨?_,λq=>by have q:(4:Int)=0:=q;omega⟩;unfold K6;rw[Gn];exact⟨⟨AZ,AZ⟩,NQ,AW,λx u=>by rw[List.mem_singleton.1 u];exact g.1⟩
 have one:∀k a r,(k=2\/k=3)->Xa a->(∀n∈r,Xa n)->sizes (a::r)<=s->GR (s+2) (Kv k a (H8 e)::r):=λk a r l g j m=>by
  rw[F7] at m;have:=XE k a (H8 e)
  refine⟨λn d=>?_,by rw[F7];omega⟩;rcases List.mem_cons.1 d with rfl | d
  .exact QI l g o AU
  .exact j n d
 have two:∀k a b r,(k=2\/k=3)->Xa a->Xa b->(∀n∈r,Xa n)->sizes (a::b::r)<=s->GR (s+2) (Kv k b a::r):=λk a b r l g t j m=>by
  rw[F7,F7] at m;have:=XE k b a
  refine⟨λn d=>?_,by rw[F7];omega⟩;rcases List.mem_cons.1 d with rfl | d
  .exact QI l t g AU
  .exact j n d
 have nil:GR (s+2) []:=⟨(λn d=>by cases d),by simp[sizes]⟩
 unfold E1;split
 .exact⟨λn d=>(List.mem_cons.1 d).elim (λe=>by rw[e];exact o) (f n),by rw[F7];omega⟩
 .split
  .split
   .exact one 2 _ _ (.inl rfl) (f _ AW) (λn d=>f n (by simp[d])) i
   .exact nil
  .split
   .split
    .exact one 3 _ _ (.inr rfl) (f _ AW) (λn d=>f n (by simp[d])) i
    .exact nil
   .split
    .split
     .exact two 2 _ _ _ (.inl rfl) (f _ AW) (f _ AW) (λn d=>f n (by simp[d])) i
     .exact⟨f,AU⟩
    .split
     .split
      .exact two 3 _ _ _ (.inr rfl) (f _ AW) (f _ AW) (λn d=>f n (by simp[d])) i
      .exact⟨f,AU⟩
     .split
      .rename_i a r
       rw[F7] at i;have:=ZF a
       refine⟨λn d=>?_,by rw[F7];omega⟩;rcases List.mem_cons.1 d with rfl | d
       .exact w a (f a AW)
       .exact f n (by simp[d])
      .exact nil
def tD:GR 1 [Hz]:=⟨λn a=>by rw[List.mem_singleton.1 a];exact pE,by rw[F7,Tv,kS];omega⟩
