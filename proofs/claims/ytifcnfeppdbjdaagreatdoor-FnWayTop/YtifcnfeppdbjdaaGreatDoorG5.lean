import Derived.Test.YtifcnfeppdbjdaaGreatDoorHn
namespace Stil
variable {c k:Int}
theorem Uy:∀{l m:List Io} {s t:Pt},run s l=some t->run s (l++m)=run t m
 | [],_,_,_,h=>by injection h with h;subst h;rfl
 | i::r,m,s,t,h=>by
  rw[run] at h;rw[C4,run];split at h
  ·cases h
  ·rename_i a
   rw[if_neg a];exact Uy h
theorem IX {i:Io}{s:Pt}(h:wrong s i=0):run s [i]=some (next s i.code):=by
 rw[run,if_neg AQ];rfl
theorem LH {s:Pt}{i:Io}(d:P5 i=true)(e:i.code<7)(h1:needs i.code<=s.bits)(b:i.code=1->s.bits≠16)(a:s.seen=true->s.bits=low i.code->¬(i.code=3\/i.code=6\/i.code=5)):wrong s i=0:=by
 unfold wrong;rw[if_neg (by rw[d];decide),if_neg AQ,if_neg (by intro h;exact b h.1 h.2),if_neg AQ,if_neg (by intro h;exact a h.1 h.2.1 h.2.2),if_neg AQ,if_neg AQ,if_neg AQ,if_neg AQ]
theorem k7 (s:Pt):next s 1=⟨s.bits+1,s.forks,s.seen,false⟩:=by
 unfold next
 simp
theorem YJ (h:c=2\/c=3\/c=6)(s:Pt):next s c=⟨s.bits,s.forks,s.seen,false⟩:=by
 unfold next
 rcases h with rfl | rfl | rfl<;>simp
theorem Ayx (h:c=4\/c=5)(s:Pt):next s c=⟨s.bits - 1,s.forks,s.seen,false⟩:=by
 unfold next
 rcases h with rfl | rfl<;>simp
theorem Wb (h:c=1\/c=2\/c=3){e:Elem}(a:Du e.op e.args=true):P5 ⟨c,e⟩=true:=by
 unfold P5;simp only;rw[if_neg AQ,if_pos AQ];exact a
theorem QK (h:4<=c)(b:c<=11)(a:c≠10):P5 (I9 c)=true:=by
 unfold P5 I9;simp only;rw[if_neg AQ,if_neg AQ,if_neg a];rfl
theorem XA {e:Elem}{kids:List B9}(h:Ai ⟨1,e,kids⟩=0):Du e.op e.args=true:=by
 rw[Oq,if_pos rfl] at h;split at h
 ·omega
 ·split at h
  ·rename_i a;exact a
  ·omega
theorem Ay4 (f:k=2\/k=3){y:B9}(q:Ai y=0)
  (l:∀s:Pt,0<=s.bits->s.bits+Bf y<=16->(s.seen=true->1<=s.bits)->run s (Dc y)=some ⟨s.bits+1,s.forks,s.seen,false⟩)
  (s:Pt) (h1:1<=s.bits) (v:s.bits+Di y<=17) (i:s.seen=true->2<=s.bits\/k=2):run s (Df k y)=some ⟨s.bits,s.forks,s.seen,false⟩:=by
 by_cases a:y.kind=1
 ·rw[Qz k y a]
  have u:Du y.one.op y.one.args=true:=by
   obtain⟨n,e,kids⟩:=y;obtain rfl:n=1:=a;exact XA q
  have m:needs k=1:=by rcases f with rfl | rfl<;>rfl
  have j:low k=1:=by rcases f with rfl | rfl<;>rfl
  rw[IX (LH (Wb AQ u) (by show k<7;omega) (by show needs k<=_;omega) (by intro h;exfalso;have b:k=1:=h;omega) ?_)]
  ·show some (next s k)=_
   rw[YJ AQ]
  ·intro d g h
   have o:s.bits=low k:=g;have b:k=3\/k=6\/k=5:=h;have:=i d
   omega
 ·rw[Oc k y a]
  rw[WH a] at v;have t:=l s AQ AQ (λ_=>h1);rw[Uy t];have m:needs (k+2)=2:=by rcases f with rfl | rfl<;>rfl
  have j:k=3->low (k+2)=2:=by rintro rfl;rfl
  rw[IX (LH (QK AQ AQ AQ) (by show k+2<7;omega) (by show needs (k+2)<=s.bits+1;omega) (by intro h;exfalso;have b:k+2=1:=h;omega) ?_)]
  ·show some (next _ (k+2))=_
   rw[Ayx AQ];simp
  ·intro d g h
   have o:s.bits+1=low (k+2):=g;have b:k+2=3\/k+2=6\/k+2=5:=h;have w:=i d;have x:=j AQ;omega
theorem OZ (a:k=2\/k=3):∀(r:List B9),(∀y∈r,Ai y=0/\∀s:Pt,0<=s.bits->s.bits+Bf y<=16->(s.seen=true->1<=s.bits)->run s (Dc y)=some ⟨s.bits+1,s.forks,s.seen,false⟩)->
  ∀s:Pt,1<=s.bits->s.bits+Bo 1 (r.map Di)<=17->(s.seen=true->2<=s.bits\/k=2)->∃c,run s ((r.map (Df k)).flatten)=some ⟨s.bits,s.forks,s.seen,c⟩/\(r≠[]->c=false)
 | [],_,s,_,_,_=>⟨s.coil,rfl,λh=>absurd rfl h⟩
 | y::r,h,s,b,j,d=>by
  rw[CP,Mc] at j;rw[CP,EB];rw[Uy (Ay4 a (h y AU).1 (h y AU).2 s b AQ d)];obtain⟨c,e,g⟩:=OZ a r (λz i=>h z (CQ _ i)) ⟨s.bits,s.forks,s.seen,false⟩ b (by show s.bits+_<=17;omega) d;by_cases f:r=[]
  ·subst f
   exact⟨false,rfl,λ_=>rfl⟩
  ·exact⟨c,e,λ_=>g f⟩
theorem ZN (n:B9):Ai n=0->∀s:Pt,0<=s.bits->s.bits+Bf n<=16->(s.seen=true->1<=s.bits)->run s (Dc n)=some ⟨s.bits+1,s.forks,s.seen,false⟩:=by
 refine Gf (λn=>Ai n=0->∀s:Pt,0<=s.bits->s.bits+Bf n<=16->(s.seen=true->1<=s.bits)->run s (Dc n)=some ⟨s.bits+1,s.forks,s.seen,false⟩) ?_ n;intro k e kids g l s j d b;have q:=l;rcases H6 l with⟨rfl,rfl⟩ | ⟨w,o,a⟩ | ⟨rfl,_,x,rfl,v⟩
 ·rw[Qb]
  rw[Yr] at d;rw[IX (LH (Wb (.inl rfl) (XA q)) (by show(1:Int)<7;decide) (by show(0:Int)<=_;omega) (by intro _;omega) (by intro _ _ h;have t:(1:Int)=3\/(1:Int)=6\/(1:Int)=5:=h;omega))];exact congrArg some (k7 s)
 ·obtain⟨x,r,rfl⟩:∃x r,kids=x::r:=by
   cases kids with
   | nil=>simp at o
   | cons x r=>exact⟨x,r,rfl⟩
  rw[Qj e x r AQ] at d;have D:=(OI x (full_of x (a x AU)) (a x AU) 0 0).hi1;have C:Bo (Bf x) (r.map Di)=max (Bf x) (Bo 1 (r.map Di)):=by
   rw[<-Qd,Nat.max_eq_left AQ]
  rw[O0 e x r AQ AQ,Uy (g x AU (a x AU) s j AQ b)];obtain⟨c,A,z⟩:=OZ w r (λy f=>⟨a y (CQ _ f),g y (CQ _ f) (a y (CQ _ f))⟩) ⟨s.bits+1,s.forks,s.seen,false⟩ (by show 1<=s.bits+1;omega) (by show s.bits+1+_<=17;omega) (λh=>.inl (by have:=b h;show 2<=s.bits+1;omega));by_cases i:r=[]
  ·subst i;rfl
  ·rw[A,z i]
 ·rw[Qj e x [] AY] at d
  rw[Qc,Uy (g x AU v s j d b)];rw[IX (LH (QK AY AY AY) (by show(6:Int)<7;decide) (by show(1:Int)<=s.bits+1;omega) (by intro h;have t:(6:Int)=1:=h;omega) ?_)]
  ·exact congrArg some (YJ (by simp[I9]) _)
  ·intro u m _
   have B:s.bits+1=1:=m;have:=b u
   omega
theorem qe (c:Elem)(cs:List Elem):Dv (c::cs)=(!Gt c.op c.args || Dv cs):=rfl
theorem YH:∀(a:List Elem) (s:Pt),s.bits=1->Dv a=false->run s (Iu a)=some (if a=[] then s else⟨1,s.forks,true,true⟩)
 | [],s,_,_=>rfl
 | c::a,s,b,h=>by
  rw[qe,Bool.or_eq_false_iff] at h;have d:Gt c.op c.args=true:=by simpa using h.1
  have f:wrong s ⟨10,c⟩=0:=by
   unfold wrong;have g:P5 ⟨10,c⟩=true:=d;have i:needs (10:Int)=1:=rfl;simp only;rw[if_neg (by rw[g];decide),if_neg AQ,if_neg AQ,if_neg AQ,if_neg yFi,if_neg AQ,if_neg AQ,if_neg AQ,if_neg yFi]
  have e:next s 10=⟨1,s.forks,true,true⟩:=by
   unfold next
   simp[b]
  rw[if_neg AU];show run s ([⟨10,c⟩]++Iu a)=_
  rw[Uy (IX f)];show run (next s 10) (Iu a)=_
  rw[e,YH a _ rfl h.2];split<;>rfl
theorem vy {n:B9}(h:Iq n)(s:Pt)(h1:s.bits=1)(b:Bo 1 ((Ci n).map Di)<=16):∃c,run s (Dy n)=some ⟨1,s.forks,s.seen,c⟩:=by
 unfold Dy;obtain⟨c,e,_⟩:=OZ (.inl rfl) (Ci n) (λy a=>⟨U5 h y a,ZN y (U5 h y a)⟩) s AQ AQ (λ_=>.inr rfl);rw[h1] at e;exact⟨c,e⟩
def KJ (a:B8):Prop:=∀s:Pt,s.bits=1->0<=s.forks->C9 a<=16->s.forks+forks a<=8->run s (Dl a)=some ⟨1,s.forks,true,true⟩
theorem QA {k:B8}(h:Iq k.net)(a:KJ k)(s:Pt)(h1:s.bits=1)(i:0<=s.forks)(j:Ha k.net (C9 k)<=16)(b:s.forks+forks k<=8)(f:Gu (Dl k) 1 0 1 0 (C9 k) (0+forks k)):
  run s (Dy k.net++Dl k)=some ⟨1,s.forks,true,true⟩:=by
 have d:=f.lo1;have e:Ha k.net (C9 k)=max (C9 k) (Bo 1 ((Ci k.net).map Di)):=by
  unfold Ha;rw[<-Qd,Nat.max_eq_left d]
 obtain⟨c,g⟩:=vy h s h1 AQ;rw[Uy g];exact a ⟨1,s.forks,s.seen,c⟩ rfl i AQ b
theorem N5 {s:Pt}(e:c=7\/c=8\/c=9)(h1:s.bits=1)(b:c=7->s.forks≠8)(a:c≠7->s.forks≠0/\s.coil=true):wrong s (I9 c)=0:=by
 unfold wrong;have f:P5 (I9 c)=true:=QK AQ AQ AQ;have g:needs c=1:=by rcases e with rfl | rfl | rfl<;>rfl
 have d:(I9 c).code=c:=rfl;rw[d];rw[if_neg (by rw[f];decide),if_neg AQ,if_neg AQ,if_neg AQ,if_neg yFi,if_neg (by intro h;exact b h.1 h.2),if_neg (by intro h;exact(a AQ).1 h.2),if_neg AQ,if_neg (by intro h;rw[(a AQ).2] at h;exact absurd h.2 AY)]
theorem YF {n:Nat}(o:n≠1)(f:Int)(u:0<=f):∀(a:List B8) (i:Nat),i+a.length=n->a≠[]->(∀k∈a,Iq k.net/\KJ k/\Gu (Dl k) 1 0 1 0 (C9 k) (0+forks k))->
  ∀s:Pt,s.bits=1->s.forks=(if i=0 then f else f+1)->(i≠0->s.coil=true)->Bo 1 (a.map (λk=>Ha k.net (C9 k)))<=16->f+1<=8->f+Qg a<=8->run s (Jy n i a)=some ⟨1,f,true,true⟩
 | [],_,_,h,_,_,_,_,_,_,_,_=>absurd rfl h
 | k::t,i,hi,_,q,s,d,b,v,A,z,hF=>by
  rw[CH] at hi;obtain⟨l,w,x⟩:=q k AU;rw[CP,Mc] at A;rw[Jy];unfold Jn JE Ff;rw[if_neg o];by_cases j:t=[]
  ·subst j
   simp only[CO] at hi;rw[if_neg AQ,if_pos AQ,Jy,G4];rw[if_neg AQ] at b;rw[Uy (IX (N5 (.inr (.inr rfl)) d yFi (λ_=>⟨AQ,v AQ⟩)))];have m:next s (I9 9).code=⟨1,f,s.seen,false⟩:=by
    show next s 9=_
    unfold next
    simp[d,b]
   have C:f+(forks k:Int)<=8:=hF;rw[m,QA l w ⟨1,f,s.seen,false⟩ rfl u AQ C x]
  ·have G:0<t.length:=List.length_pos_iff.2 j
   have D:Qg (k::t)=max (forks k+1) (Qg t):=by
    cases t with
    | nil=>exact absurd rfl j
    | cons y t=>rfl
   rw[D] at hF;have rest:∀c:Int,∀e:Pt,wrong s (I9 c)=0->next s (I9 c).code=e->e.bits=1->e.forks=f+1->run s ([I9 c]++(Dy k.net++Dl k)++Jy n (i+1) t)=some ⟨1,f,true,true⟩:=by
    intro c e B m E F;rw[EV,Uy (IX B),m,Uy (QA l w e E AQ AQ AQ x),F];exact YF o f u t (i+1) AQ j (λk l=>q k (CQ _ l)) ⟨1,f+1,true,true⟩ rfl (by rw[if_neg AQ]) (λ_=>rfl) AQ z AQ
   by_cases g:i=0
   ·rw[if_pos g]
    rw[if_pos g] at b;refine rest 7 ⟨1,f+1,true,false⟩ (N5 (.inl rfl) d (λ_=>by omega) (λh=>absurd rfl h)) ?_ rfl rfl;show next s 7=_
    unfold next
    simp[d,b]
   ·rw[if_neg g,if_neg AQ]
    rw[if_neg g] at b;refine rest 8 ⟨1,f+1,s.seen,false⟩ (N5 (.inr (.inl rfl)) d yFi (λ_=>⟨AQ,v g⟩)) ?_ rfl rfl;show next s 8=_
    unfold next
    simp[d,b]
theorem Ayo {n:B9}{cs:List Elem}{kids:List B8}(h:Cj ⟨n,cs,kids⟩=0):Dv cs=false/\(kids=[]->cs≠[]):=by
 unfold Cj at h;simp only at h;split at h
 ·rename_i b;omega
 ·split at h
  ·omega
  ·rename_i a
   refine⟨by simpa using a,?_⟩;rintro rfl rfl;simp at h
theorem Axi (a:B8):E8 a->Cf a=0->KJ a:=by
 refine Gl (λa=>E8 a->Cf a=0->KJ a) ?_ a;intro n f kids E h x s q v d hF;obtain⟨J,G⟩:=Nv.1 x;obtain⟨A,g⟩:=Ayo J;have F:=((En _ _ _).1 h).2;have e:∀k∈kids,Iq k.net/\KJ k/\Gu (Dl k) 1 0 1 0 (C9 k) (0+forks k):=by
  intro k l;have i:=F k l;refine⟨?_,E k l i (G k l),UH k i 0⟩;obtain⟨P,L,M⟩:=k;exact((En _ _ _).1 i).1
 rw[Wl] at d;rw[Zg,N6] at hF;rw[Wi,Uy (YH f s q A)];have H:∃b:Pt,(if f=[] then s else⟨1,s.forks,true,true⟩)=b/\b.bits=1/\b.forks=s.forks/\(f≠[]->b=⟨1,s.forks,true,true⟩):=by
  by_cases j:f=[]
  ·exact⟨s,if_pos j,q,rfl,λh=>absurd j h⟩
  ·exact⟨⟨1,s.forks,true,true⟩,if_neg j,rfl,rfl,λ_=>rfl⟩
 obtain⟨b,K,m,o,B⟩:=H;rw[K]
 match kids,e,g,d,hF with
 | [],_,g,_,_=>
  show some b=_
  rw[B (g rfl)]
 | [k],e,_,d,hF=>
  have z:Jy [k].length 0 [k]=Dy k.net++Dl k:=by
   show(([]:List Io)++(Dy k.net++Dl k))++[]=_
   rw[C5,G4]
  obtain⟨u,I,w⟩:=e k AU;have N:max 1 (Ha k.net (C9 k))<=16:=d;have O:s.forks+(forks k:Int)<=8:=hF;rw[z,QA u I b m AQ AQ AQ w,o]
 | k::y::t,e,_,d,hF=>
  have C:Qg (k::y::t)=max (forks k+1) (Qg (y::t)):=rfl;have D:s.forks+1<=8:=by rw[C] at hF;omega
  exact YF (n:=(k::y::t).length) AU s.forks v (k::y::t) 0 AU AU e b m (by rw[if_pos rfl];exact o) (λh=>absurd rfl h) d D hF
theorem Axz {a:B8}(h:E8 a)(e:fine a.net)(f:Cf a=0)(d:Jh a<=16)(i:forks a<=8):run pt0 (Ez a)=some pt0:=by
 unfold Jh at d;have g:=ZN a.net e.2.2 pt0 AY (by show(0:Int)+Bf a.net<=16;omega) (λh=>absurd h AY);unfold Ez;rw[Uy g];have b:=Axi a h f ⟨pt0.bits+1,pt0.forks,pt0.seen,false⟩ rfl AY AQ (by show(0:Int)+forks a<=8;omega);rw[Uy b];rfl
theorem WY:∀(l:List B8),(∀a∈l,E8 a/\fine a.net/\Cf a=0/\Jh a<=16/\forks a<=8)->run pt0 ((l.map Ez).flatten)=some pt0
 | [],_=>rfl
 | a::l,h=>by
  obtain⟨b,g,d,i,f⟩:=h a AU;rw[CP,EB,Uy (Axz b g d i f)];exact WY l (λx e=>h x (CQ _ e))
def shp:B9->Prop
 | ⟨k,_,kids⟩=>((k=1/\kids=[])\/((k=2\/k=3)/\0<kids.length)\/(k=4/\kids.length=1))/\∀p∈kids.map shp,p
theorem KT (k:Int)(e:Elem)(kids:List B9):shp ⟨k,e,kids⟩↔((k=1/\kids=[])\/((k=2\/k=3)/\0<kids.length)\/(k=4/\kids.length=1))/\∀x∈kids,shp x:=by rw[shp,all_map]
theorem j3 {n:B9}(h:shp n):∀x∈n.kids,shp x:=by obtain⟨_,_,_⟩:=n;exact((KT _ _ _).1 h).2
theorem XT {e:Elem}{kids:List B9}(h:shp ⟨k,e,kids⟩):(k=1/\kids=[])\/((k=2\/k=3)/\0<kids.length/\∀x∈kids,shp x)\/(k=4/\True/\∃x,kids=[x]/\shp x):=by
 obtain⟨a | ⟨a,b⟩ | ⟨a,b⟩,d⟩:=(KT _ _ _).1 h
 ·exact .inl a
 ·exact .inr (.inl ⟨a,b,d⟩)
 ·obtain⟨x,rfl⟩:=List.length_eq_one_iff.1 b
  exact .inr (.inr ⟨a,trivial,x,rfl,d x AU⟩)
theorem RD (n:B9):Ai n=0->shp n:=by
 refine Gf (λn=>Ai n=0->shp n) ?_ n;intro k e kids f j;refine(KT _ _ _).2 ?_;rcases H6 j with⟨a,rfl⟩ | ⟨a,g,i⟩ | ⟨a,_,x,rfl,b⟩
 ·exact⟨.inl ⟨a,rfl⟩,λ_ h=>by cases h⟩
 ·exact⟨.inr (.inl ⟨a,g⟩),λx b=>f x b (i x b)⟩
 ·exact⟨.inr (.inr ⟨a,rfl⟩),λy d=>by obtain rfl:=List.mem_singleton.1 d;exact f y d b⟩
def few (q:Nat):B9->Prop
 | ⟨_,e,kids⟩=>e.args.length<=q/\∀p∈kids.map (few q),p
theorem SL (q:Nat)(k:Int)(e:Elem)(kids:List B9):few q ⟨k,e,kids⟩↔e.args.length<=q/\∀x∈kids,few q x:=by rw[few,all_map]
theorem hI {y:B9}(h:(Dc y).length+1<=2*Af y):(Df k y).length<=2*Af y:=by
 by_cases a:y.kind=1
 ·rw[Qz k y a,ED,Eg];omega
 ·rw[Oc k y a,CM,ED];exact h
theorem PV:∀(r:List B9),(∀y∈r,(Dc y).length+1<=2*Af y)->((r.map (Df k)).flatten).length<=2*sizes r
 | [],_=>by simp
 | y::r,h=>by
  have b:=hI (k:=k) (h y AU);have d:((r.map (Df k)).flatten).length<=2*sizes r:=PV r (λz a=>h z (CQ _ a));rw[CP,EB,CM,Y1];omega
theorem QS (n:B9):shp n->(Dc n).length+1<=2*Af n:=by
 refine Gf (λn=>shp n->(Dc n).length+1<=2*Af n) ?_ n;intro k e kids a g;rw[Eg];show _<=2*(1+sizes kids)
 rcases XT g with⟨rfl,rfl⟩ | ⟨m,f,d⟩ | ⟨rfl,_,x,rfl,i⟩
 ·rw[Qb,ED,OT];omega
 ·obtain⟨x,r,rfl⟩:∃x r,kids=x::r:=by
   cases kids with
   | nil=>simp at f
   | cons x r=>exact⟨x,r,rfl⟩
  have j:=a x AU (d x AU);have l:=PV (k:=k) r (λy b=>a y (CQ _ b) (d y (CQ _ b)));rw[O0 e x r AQ AQ,CM,Y1];omega
 ·have j:=a x AU i
  rw[Qc,CM,ED,Y1,OT];omega
theorem QM (n:B9)(h:Ai n=0):(Dc n).length+1<=2*Af n:=QS n (RD n h)
theorem XE {n:B9}(h:Iq n):(Dy n).length<=2*BK n:=by
 unfold Dy;have d:=PV (k:=2) (Ci n) (λy b=>QM y (U5 h y b));have e:sizes (Ci n)<=BK n:=by
  unfold Ci BK;by_cases a:Am n=true
  ·rw[if_pos a,if_pos a];exact CG _
  ·rw[if_neg a,if_neg a]
   split
   ·rw[Eg];omega
   ·rw[Y1,OT];omega
 omega
theorem ij (n i:Nat):(Ff n i).length<=1:=by
 unfold Ff;split
 ·simp
 ·split
  ·simp
  ·split<;>simp
theorem UD (n:Nat):∀(a:List B8) (i:Nat),(∀k∈a,Iq k.net/\(Dl k).length+2+2*BK k.net<=2*Aj k)->(Jy n i a).length<=2*I5 a
 | [],_,_=>by simp[Jy]
 | k::t,i,h=>by
  obtain⟨b,j⟩:=h k AU;have g:=ij n i;have f:=XE b;have l:=UD n t (i+1) (λx d=>h x (CQ _ d));have e:I5 (k::t)=Aj k+I5 t:=by simp[I5]
  rw[Jy,e];unfold Jn JE;rw[CM,CM,CM];omega
theorem YT (a:B8):E8 a->(Dl a).length+2+2*BK a.net<=2*Aj a:=by
 refine Gl (λa=>E8 a->(Dl a).length+2+2*BK a.net<=2*Aj a) ?_ a;intro n e kids l h;have d:=((En _ _ _).1 h).2;have m:=UD kids.length kids 0 (λk b=>⟨by have f:=d k b;obtain⟨i,j,g⟩:=k;exact((En i j g).1 f).1,l k b (d k b)⟩);rw[Wi,CM,Ce];have o:(Iu e).length=e.length:=by simp[Iu]
 show _+2+2*BK n<=_
 omega
theorem fW {a:B8}(h:E8 a)(b:fine a.net):(Ez a).length<=2*Aj a:=by
 have f:=YT a h;have d:=QM a.net b.2.2;have e:BK a.net=Af a.net:=by unfold BK;rw[if_neg (by rw[PO b];decide)]
 unfold Ez;rw[CM,CM,ED];omega
theorem XM:∀(l:List B8),(∀a∈l,E8 a/\fine a.net)->((l.map Ez).flatten).length<=2*Bz l
 | [],_=>by simp
 | a::l,h=>by
  have d:=fW (h a AU).1 (h a AU).2;have f:=XM l (λx b=>h x (CQ _ b));have e:Bz (a::l)=Aj a+Bz l:=by simp[Bz]
  rw[CP,EB,CM,e];omega
structure mX (a:B8):Prop where
 fineA:E8 a
 net:fine a.net
 norm:Qm a
 right:Cf a=0
 size:Aj a<=400
theorem Tm {l:List B8}(i:∀x∈l,Dh x)(h:(Aw l).1=0):(∀a∈Aq l,mX a)/\Bz (Aq l)<=400/\(Aw (Aq l)).1=0:=by
 obtain⟨p,s,_⟩:=qn i h;have d:(Aw (Aq l)).1=0:=by rw[p]
 have g:=Ns d;refine⟨λa b=>?_,g.2.2.1,d⟩;obtain⟨m,n⟩:=Vb l a b;obtain⟨q,o⟩:=Kz d b;have e:Aq l=l.map Dt:=by unfold Aq;rw[if_pos h]
 have f:Qm a:=by
  rw[e] at b;obtain⟨x,j,rfl⟩:=List.mem_map.1 b;exact Ta x (Kz h j).1
 refine⟨m,(wN f).resolve_left (by rw[n];decide),f,(g.2.2.2 a b).2,o⟩
theorem LM {l:List B8}(h:(Aw l).1≠0):Hy l=[]/\Jm l=0/\Hz l=0:=by
 have e:Aq l=[]:=by unfold Aq;rw[if_neg h]
 unfold Hy Jm Hz;rw[e];exact⟨rfl,rfl,rfl⟩
theorem P7 {l:List B8}(e:∀x∈l,Dh x):(Hy l).length<=800:=by
 by_cases h:(Aw l).1=0
 ·obtain⟨d,f,_⟩:=Tm e h
  have:=XM (Aq l) (λa b=>⟨(d a b).fineA,(d a b).net⟩)
  show((Aq l).map Ez).flatten.length<=800
  omega
 ·rw[(LM h).1];exact DI _
theorem WX {l:List B8}(d:∀x∈l,Dh x):Sz (Hy l)=hts (Jm l) (Hz l):=by
 by_cases h:(Aw l).1=0
 ·obtain⟨b,g,_⟩:=Tm d h
  have f:=P7 d;have i:=(TX (Aq l) (λa e=>⟨(b a e).fineA,(b a e).net⟩)).top 0 0 (CG _) (CG _);unfold Sz I4;rw[if_neg AQ];show F9 (hts 0 0) (Eb (hts 0 0) ((Aq l).map Ez).flatten)=_
  rw[i,Nat.max_eq_right (DI _),Nat.max_eq_right (DI _)];rfl
 ·obtain⟨b,g,f⟩:=LM h
  rw[b,g,f];rfl
theorem NZ:∀(l:List Nat) (b x:Nat),x∈l->x<=Bo b l
 | [],_,_,h=>by cases h
 | y::r,b,x,h=>by
  rw[Mc];rcases List.mem_cons.1 h with rfl | h
  ·exact Kx _ _
  ·exact CJ (NZ r b x h) (MZ _ _)
theorem yt {l:List B8}(d:∀x∈l,Dh x)(i:Jm l<=16)(f:Hz l<=8):Ee (Hy l)=(0,0):=by
 by_cases h:(Aw l).1=0
 ·obtain⟨e,m,_⟩:=Tm d h
  refine Axj (fB.2 ⟨by have:=P7 d;omega,pt0,WY (Aq l) (λa b=>?_),AY⟩);have g:=e a b;have j:Jh a<=Jm l:=NZ _ _ _ (FX b);have n:forks a<=Hz l:=NZ _ _ _ (FX b);exact⟨g.fineA,g.net,g.right,AQ,AQ⟩
 ·rw[(LM h).1]
  rfl
theorem yv {l:List B8}(b:∀x∈l,Dh x)(h:¬(Jm l<=16/\Hz l<=8)):(Ee (Hy l)).1≠0:=by
 intro d;have a:=Ayn d;rw[WX b] at a;have f:(Jm l:Int)<=16:=a.1;have e:(Hz l:Int)<=8:=a.2.1;omega
def Hu (l:List B8):List Io × Int:=if 0<(Aw l).1 then([],1) else if 16<Jm l\/8<Hz l then([],2) else(Hy l,0)
theorem R7 {l:List B8}(h:(Aw l).1=0)(b:Jm l<=16)(a:Hz l<=8):Hu l=(Hy l,0):=by
 unfold Hu;rw[if_neg AQ,if_neg AQ]
theorem me {l:List B8}(h:(Hu l).2=0):(Aw l).1=0/\Jm l<=16/\Hz l<=8:=by
 unfold Hu at h;split at h
 ·simp at h
 ·rename_i a
  split at h
  ·simp at h
  ·have:=(Xd l).1
   exact⟨AQ,AQ,AQ⟩
end Stil
set_option maxHeartbeats 4000000
set_option maxRecDepth 100000
namespace Go.Proofs.YtifcnfeppdbjdaaGreatDoor
open Tryz Stil Go.RowKit Go.Sort Go.BigFrame
variable {W w':World}{av kv:Value}{k op:Int}{r:Nat}
theorem QB:(prog.info? 59).map (λi=>(i.zero,i.size,i.bytes))=some (some (.agg #[AB 0,AB 0,AG,AG]),4,64):=AX
def M9 (e:Ending)(w w':World)(g Q N:Nat):Prop:=∃(n:Stil.B9) (av kv:Value),e=.returned (.agg #[AB n.kind,AB n.one.op,av,kv])/\Bi (λb=>w.heap.size<=b) w' av n.one.args/\Dp (λb=>w.heap.size<=b) w' kv n.kids/\Kw n/\G9 n<=N/\Ig w' g Q/\w.grownBy w' (some g)
def TSF (n:Stil.B9):Prop:=Kw n/\Stil.shp n/\Stil.few 3 n
def IQ (e:Ending)(w w':World)(g Q N:Nat):Prop:=∃(n:Stil.B9) (av kv:Value),e=.returned (.agg #[AB n.kind,AB n.one.op,av,kv])/\Bi (λb=>w.heap.size<=b) w' av n.one.args/\Dp (λb=>w.heap.size<=b) w' kv n.kids/\TSF n/\G9 n<=N/\Ig w' g Q/\w.grownBy w' (some g)
theorem IQ.out {e:Ending}{w:World}{g Q N:Nat}(h:IQ e w w' g Q N):M9 e w w' g Q N:=by
 obtain⟨n,av,kv,b,f,a,i,d⟩:=h;exact⟨n,av,kv,b,f,a,i.1,d⟩
def EW:Nat->Nat
 | 0=>50
 | m+1=>3*EW m+50
def FV:Nat->Nat
 | 0=>10
 | m+1=>3*FV m+10
theorem hH (m:Nat):50<=EW m:=by cases m<;>simp[EW]
theorem hG (m:Nat):10<=FV m:=by cases m<;>simp[FV]
theorem Ht {a:List Stil.CC}(b:-1000000<=k/\k<=1000000)(e:-1000000<=op/\op<=1000000)(f:∀d∈a,Small d)(hl:a.length<=40):Kw ⟨k,⟨op,a⟩,[]⟩:=(Qv _ _ _).2 ⟨b,⟨e,f,CJ hl AY⟩,λ_ h=>by cases h⟩
theorem XS {ns:List Stil.B9}(a:-1000000<=k/\k<=1000000)(h:∀n∈ns,Kw n):Kw ⟨k,⟨0,[]⟩,ns⟩:=(Qv _ _ _).2 ⟨a,⟨⟨AY,AY⟩,λ_ h=>BE,AU⟩,h⟩
theorem UG {a:List Stil.CC}(h:Kw ⟨1,⟨op,a⟩,[]⟩)(hl:a.length<=3):TSF ⟨1,⟨op,a⟩,[]⟩:=⟨h,(KT _ _ _).2 ⟨.inl ⟨rfl,rfl⟩,λ_ h=>by cases h⟩,(SL _ _ _ _).2 ⟨hl,λ_ h=>by cases h⟩⟩
theorem ZC {ns:List Stil.B9}(b:(k=2\/k=3)/\0<ns.length\/k=4/\ns.length=1)(h:∀n∈ns,TSF n):TSF ⟨k,⟨0,[]⟩,ns⟩:=⟨XS AQ λn a=>(h n a).1,(KT _ _ _).2 ⟨.inr b,λn a=>(h n a).2.1⟩,(SL _ _ _ _).2 ⟨DI _,λn a=>(h n a).2.2⟩⟩
theorem KO {s:Nat}{w:World}(h:s<=r):∀b,b<w.heap.size->r<b->s<b:=λ_ _ a=>Nat.lt_of_le_of_lt h a
theorem FA {w:World}:∀b,b<w.heap.size->r<b->r<=b:=λ_ _ h=>K4 h
theorem ZM {P:Nat->Prop}{cs:Array Value}{ns:List Stil.B9}{b:Nat}(d:b=W.heap.size)(h:RowOf 4 (Zn P W) cs.toList ns)(f:P b)(hl:ns.length<=1000):Dp P (W.alloc (.cells cs 59)) (AE (some (AK b 0)) ns.length ns.length) ns:=by
 subst d;have i:=World.ownsRow_lit (base:=W.heap.size) (e:=59) (size:=4) W cs ns.length AQ A6 yGb;refine Pn i (h.imp λcs a _ g=>g.keep (Ac.of_below (Aa _ _))) (λb d=>?_);have:W.heap.size=b:=by simpa[Value.ownBlock] using d
 exact this ▸ f
def Tv (w:World)(b:Nat)(k op:Int)(av kv:Value):Prop:=b<w.heap.size/\w.cell? ⟨b,0,none⟩=some (AB k)/\w.cell? ⟨b,1,none⟩=some (AB op)/\w.cell? ⟨b,2,none⟩=some av/\w.cell? ⟨b,3,none⟩=some kv/\w.frozen? ⟨b,0,none⟩=false/\w.frozen? ⟨b,1,none⟩=false/\w.frozen? ⟨b,2,none⟩=false/\w.frozen? ⟨b,3,none⟩=false
theorem BL {b:Nat}(h:Tv W b k op av kv:=by refine⟨BU,?_,?_,?_,?_,?_,?_,?_,?_⟩<;>first | (exact cfA;done) | (repeat (first | with_reducible assumption | with_reducible refine Ot.trans ?_ | with_reducible refine Gw.trans ?_ | with_reducible refine(Iw BU).trans ?_ | (simp[go_sem];done)))):Tv W b k op av kv:=h
theorem Tv.grownO {w:World}{b:Nat}{r:Option Nat}(h:Tv w b k op av kv)(hg:w.grownBy w' r)(hr:r≠some b):Tv w' b k op av kv:=by
 obtain⟨f,g⟩:=h;have e:w'.heap[b]?=w.heap[b]?:=hg.block b f (λx=>hr x.symm);have d:∀o,w'.cell? (AK b o)=w.cell? (AK b o):=λo=>by unfold World.cell?;rw[e]
 have a:∀o,w'.frozen? (AK b o)=w.frozen? (AK b o):=λo=>by unfold World.frozen?;rw[e]
 refine⟨CB f hg.size,?_⟩;rw[d,d,d,d,a,a,a,a];exact g
theorem fN (g P:Nat)(w:World)(hr:Ig w g P)(H:P<=100000000):
  Calls prog 133 #[AH g,AB 0] w λe w'=>IQ e w w' g (P+50) 10:=by
 have J:=Va hr;go_enter func133,ntmps133
 go_wp2_with (first | (go_at_call_of 37 (Value.int IntKind.i64 7);refine(Fp g _ _ _ Ab AQ AQ AQ).mono ?_;rintro e q ⟨x,rfl,N,M,z,F⟩;obtain⟨I,f,n,q1,m,l,C,d,t⟩:EN q w.heap.size:=ET) | (go_at_call 68;refine(Jb g _ _ Ab AQ).mono ?_;rintro e D ⟨op,v,A,rfl,E,j,u,B,z,G⟩;have y:=j;obtain⟨aa,L,rfl,_,_⟩:=y;obtain⟨K,f,n,q1,m,l,C,d,t⟩:EN D w.heap.size:=ET))
 refine bodyPost_ret (by simp[results,results133,go_sem,f,q1,l,d];rfl) rfl ?_;exact⟨⟨1,⟨op,A⟩,[]⟩,_,_,rfl,Bi.mono (((Ew j).mono (KO (s:=w.heap.size) AQ)).keep BJ) FA,Jr _ _,UG (Ht AY E u AQ) B,by rw[E5];simp;omega,A2,A0⟩
theorem fL (m:Nat)(ih:∀(d:Int) (g P:Nat) (w:World),d=m->Ig w g P->P+EW m<=100000000->Calls prog 133 #[AH g,AB d] w λe w'=>IQ e w w' g (P+EW m) (FV m))
  (d:Int) (g P:Nat) (w:World) (hd:d=m+1) (hm:m<=100) (hr:Ig w g P) (hP:P+EW (m+1)<=100000000):
  Calls prog 133 #[AH g,AB d] w λe w'=>IQ e w w' g (P+EW (m+1)) (FV (m+1)):=by
 have hg:=Va hr;have aD:=hH m;have aJ:=hG m;have e1:EW (m+1)=3*EW m+50:=rfl;have e2:FV (m+1)=3*FV m+10:=rfl;rw[e1] at hP;rw[e1,e2];clear e1 e2;obtain⟨c,hc⟩:=AA (EW m)
 obtain⟨N,hN⟩:=AA (FV m)
 rw[<-hc] at ih aD hP;rw[<-hN] at ih aJ;rw[<-hc,<-hN];have IH:Hid (∀(d:Int) (g P:Nat) (w:World),d=m->Ig w g P->P+c<=100000000->Calls prog 133 #[AH g,AB d] w λe w'=>IQ e w w' g (P+c) N):=ih;clear ih hc hN;have aZ:decide (d<=0)=false:=by rw[FQ];omega
 obtain⟨i0,hi,aB,aw,aK⟩:=info_parts QB;go_enter func133,ntmps133;go_upto_if 37 with(first | (go_at_call_of 37 (Value.int IntKind.i64 7);refine(Fp g _ _ _ Ab AQ AQ AQ).mono ?_;rintro e t ⟨k,rfl,a9,a7,y,aO⟩;obtain⟨an,q,D,q1,B,l,A,x,E⟩:EN t w.heap.size:=ET) | (go_at_call 68;refine(Jb g _ _ Ab AQ).mono ?_;rintro e wb ⟨op,v,ds,rfl,aM,hv,hs,hl,y,aP⟩;have aH:=hv;obtain⟨aa,cc,rfl,_,_⟩:=aH;obtain⟨I,q,D,q1,B,l,A,x,E⟩:EN wb w.heap.size:=ET) | (go_at_call 133;refine(IH _ g _ _ AQ Ab AQ).mono ?_;rintro e wd ⟨f,av,kv,rfl,ab,ac,ai,ay,y,aY⟩;obtain⟨I,q,D,q1,B,l,A,x,E⟩:EN wd w.heap.size:=ET) | (go_at_call_of 37 (Value.int IntKind.i64 2);refine(Fp g _ _ _ Ab AQ AQ AQ).mono ?_;rintro e wc ⟨ba,rfl,aF,aQ,y,a8⟩;obtain⟨I,q,D,q1,B,l,A,x,E⟩:EN wc w.heap.size:=ET;obtain⟨af,Q,J,K,M,O,R,S,T⟩:FK wc t.heap.size (AB (2+k % 2)) (AB 0) AG AG:=qb4) | (go_at_call_of 37 (Value.int IntKind.i64 8);refine(Fp g _ _ _ Ab AQ AQ AQ).mono ?_;rintro e we ⟨aU,rfl,aX,a5,y,a6⟩;obtain⟨I,q,D,q1,B,l,A,x,E⟩:EN we w.heap.size:=ET;obtain⟨af,Q,J,K,M,O,R,S,T⟩:FK we t.heap.size (AB (2+k % 2)) (AB 0) AG AG:=qb4))
 ·refine bodyPost_ret (by simp[results,results133,go_sem,q,q1,l,x];rfl) rfl ?_
  exact⟨⟨1,⟨op,ds⟩,[]⟩,_,_,rfl,Bi.mono (((Ew hv).mono (KO (s:=w.heap.size) AQ)).keep BJ) FA,Jr _ _,UG (Ht AY aM hs AQ) hl,by rw[E5];simp;omega,A2,A0⟩
 ·refine bodyPost_ret (by simp[results,results133,go_sem,q,q1,l,x,I];rfl) rfl ?_
  have ae:RowOf 4 (Zn (λb=>w.heap.size<b) wd) [AB f.kind,AB f.one.op,av,kv] [f]:=RowOf.one rfl ⟨av,kv,rfl,ab.mono (λ_ _ h=>CB an h),ac.mono (λ_ _ h=>CB an h)⟩;refine⟨⟨4,⟨0,[]⟩,[f]⟩,_,_,rfl,Tc _ _,Dp.mono (ZM (P:=λb=>w.heap.size<b) (cs:=#[AB f.kind,AB f.one.op,av,kv]) (ns:=[f]) AU (ae.imp λ_ _ _ h=>h.keep BJ) AQ AU) FA,ZC (.inr ⟨rfl,rfl⟩) (λn C=>by simp at C;subst C;exact ai),by rw[E5];simp;omega,A2,A0⟩
 ·go_cut [7] (λsm Z=>∃H:Nat,sm=AB H/\1<=H/\H<=3/\Ig Z g (P+3)/\w.grownBy Z (some g)/\Tv Z w.heap.size 0 0 AG AG/\Tv Z t.heap.size (2+k % 2) 0 AG AG)
  case first=>
   go_wp2
   ·go_meet
    exact⟨1,rfl,AQ,AQ,A2,A0,BL,BL⟩
   ·go_meet
    obtain⟨yn,rfl⟩:=FP aF;exact⟨2+yn,by go_num,AQ,AQ,A2,A0,BL,BL⟩
  case rest=>
   clear q q1 l x Q K O S D B A E J M R T y;obtain⟨H,rfl,aV,bb,y,ak,al,aj⟩:=hcut
   go_wp2
   go_loopw [8] (λi wr=>∃(j:Nat) (ns:List Stil.B9) (v:Value) (xs:List Value),j<=H/\i=AB j/\ns.length=j/\Tv wr w.heap.size 0 0 AG AG/\Tv wr t.heap.size (2+k % 2) 0 AG v/\wr.ownsRow (t.heap.size+1) 59 4 v j xs/\RowOf 4 (Zn (CX t.heap.size v) wr) xs ns/\(∀n∈ns,TSF n)/\(ns.map G9).sum<=j*N/\Ig wr g (P+3+j*c)/\w.grownBy wr (some g)) (λi _=>H - (intOf i).toNat)
   case atStart=>exact⟨0,[],_,[],AQ,rfl,rfl,al,aj,⟨rfl,Or.inl ⟨rfl,rfl⟩⟩,RowOf.nil _ _,λ_ h=>BE,AU,by simpa using y,ak⟩
   case round=>
    obtain⟨j,ns,v,xs,hj,rfl,ar,al,aj,z,ae,lQ,aR,y,ak⟩:=hrel;obtain⟨I,q,q1,l,x,D,B,A,E⟩:=al;obtain⟨af,Q,K,O,S,J,M,R,T⟩:=aj;by_cases a3:j<H
    ·have ao:(j+1)*c<=3*c:=FD c AQ
     rw[G3] at ao;obtain⟨L,U,ah,_⟩:=Hg z;subst ah;go_upto_region 13 with fail
     go_region_law (first | (refine Eh rfl _ _ 57 rfl (t.heap.size+1) 59 i0 (.agg #[AB 0,AB 0,AG,AG]) 4 64 underlying57 hi aB aw aK rfl AY _ _ _ rfl (aL.alloc _) _ _ _ [AB f.kind,AB f.one.op,AE a1 f.one.args.length c1,AE a2 f.kids.length c2] rfl rfl BP yCf A6 AQ Bm ?_;intro v' w6 ap V aW;obtain⟨rW,rM,aE,_⟩:=Hg ap;subst aE;have aA:Tv (F.alloc (.cells #[AB f.kind,AB f.one.op,AE a1 f.one.args.length c1,AE a2 f.kids.length c2] 59)) w.heap.size 0 0 AG AG:=BL;have ax:Tv (F.alloc (.cells #[AB f.kind,AB f.one.op,AE a1 f.one.args.length c1,AE a2 f.kids.length c2] 59)) t.heap.size (2+k % 2) 0 AG (AE L j U):=BL;clear q q1 l x Q K O S D B A E J M R T;obtain⟨I,q,q1,l,x,D,B,A,E⟩:=aA.grownO V (λe=>by have:=z.lt _ e;omega);obtain⟨af,Q,K,O,S,J,M,R,T⟩:=ax.grownO V (λe=>by have:=z.lt _ e;omega)) | (go_simp;go_at_call 133;refine(IH _ g _ _ (by first | omega | (rw[IntKind.wrap_i64];omega)) Ab AQ).mono ?_;rintro e F ⟨f,av,kv,rfl,ab,ac,ai,ay,y,X⟩;have ag:wr.grownBy F (some g):=⟨X.os,X.tape,X.output,X.size,X.block⟩;have aI:=ab;have az:=ac;obtain⟨a1,c1,rfl,_,_⟩:=aI;obtain⟨a2,c2,rfl,_,_⟩:=az;have aL:=Bv z ag AQ;obtain⟨I,q,D,q1,B,l,A,x,E⟩:EN F w.heap.size:=ET;obtain⟨af,Q,J,K,M,O,R,S,T⟩:FK F t.heap.size (AB (2+k % 2)) (AB 0) AG (AE L j U):=qb4))
     all_goals go_wp2
     all_goals
      have aG:Ac (CX t.heap.size (AE L j U)) wr (F.alloc (.cells #[AB f.kind,AB f.one.op,AE a1 f.one.args.length c1,AE a2 f.kids.length c2] 59)):=(Ac.of_grown ag (λb G e=>by have:=G.1;simp only[CZ] at e;omega)).trans (Ac.of_below (Aa _ _));have au:∀b,b<F.heap.size->wr.drew.heap.size<=b->CX t.heap.size (AE L j U) b:=λb _ G=>⟨by have:wr.heap.size<=b:=G;omega,λe=>by have h1:=(z.lt _ e).2;have:wr.heap.size<=b:=G;omega⟩
      have kE:=ti (ae.imp λ_ _ _ h=>h.keep aG) (Zn.keep (w:=F) ⟨_,_,rfl,ab.mono au,ac.mono au⟩ (Ac.of_below (Aa _ _))) rfl V aW;refine⟨⟨j+1,ns++[f],AE rW (j+1) rM,_,AQ,by go_num,by simp[ar],BL,BL,ownsRow_setCell_below ap (DV _) _,kE.imp (λ_ _ _ h=>h.keep (Ac.set B7 _)),?_,?_,?_,?_⟩,by simp[intOf];omega⟩
      ·intro n C
       rcases List.mem_append.1 C with C | C
       ·exact lQ n C
       ·simp at C;subst C;exact ai
      ·have es:((ns++[f]).map G9).sum=(ns.map G9).sum+G9 f:=by simp
       rw[es,G3];omega
      ·exact F6 (J8 (Fj (Bl y _) V (λk Y=>by have:=z.lt _ Y;omega)) AQ _) (by rw[G3];omega)
      ·exact Lj (K4 an) (J5 (Ea (D5 ak ag) _) V (λk Y=>by have:=z.lt _ Y;omega)) _
    ·obtain⟨L,U,ah,_⟩:=Hg z
     subst ah
     go_wp2
     have aS:j=H:=AQ
     have ao:j*c<=3*c:=FD c AQ;have aT:j*N<=3*N:=FD N AQ;have Y:Dp (λb=>w.heap.size<b) wr (AE L j U) ns:=by
      subst ar;exact Pn z (ae.imp λ_ _ _ h=>h.mono λb _ G=>by have:=G.1;omega) (λb G=>by have:=(z.lt _ G).1;omega)
     refine bodyPost_ret (by simp[results,results133,go_sem,q,q1,l,x];rfl) rfl ?_;refine⟨⟨2+k % 2,⟨0,[]⟩,ns⟩,_,_,rfl,Tc _ _,Dp.mono (Y.keep BJ) FA,ZC (.inl ⟨AQ,AQ⟩) lQ,?_,A2,A0⟩;rw[E5];simp;omega
theorem YX:∀(m:Nat) (d:Int) (g P:Nat) (w:World),m<=100->d=m->Ig w g P->P+EW m<=100000000->Calls prog 133 #[AH g,AB d] w λe w'=>IQ e w w' g (P+EW m) (FV m)
 | 0,d,g,P,w,_,hd,a,b=>by
  subst hd;exact fN g P w a AQ
 | m+1,d,g,P,w,f,hd,a,b=>fL m (λd g P w hd a b=>YX m d g P w AQ hd a b) d g P w (by simpa using hd) AQ a b
theorem i9 (m:Nat)(d:Int)(g P:Nat)(w:World)(b:m<=100)(hd:d=m)(hr:Ig w g P)(a:P+EW m<=100000000):Calls prog 133 #[AH g,AB d] w λe w'=>M9 e w w' g (P+EW m) (FV m):=(YX m d g P w b hd hr a).mono λ_ _ h=>h.out
theorem OY (n g P:Nat)(w:World)(D:n<=300)(hr:Ig w g P)(hP:P<=100000000):
  Calls prog 38 #[AH g,AB n] w λe w'=>M9 e w w' g (P+6000) 3000:=by
 have hg:=Va hr;go_enter func38,ntmps38
 go_wp2_with ((go_at_call 68;refine(Jb g _ _ Ab AQ).mono ?_;rintro e d ⟨op,v,F,rfl,an,S,Z,hl,G,ao⟩;have ag:=S;obtain⟨aa,cc,rfl,_,_⟩:=ag;obtain⟨aA,u,O,q1,K,s,I,E,Q⟩:EN d w.heap.size:=ET))
 have ae:Bi (λb=>w.heap.size<b) d (AE aa F.length cc) F:=(Ew S).mono (KO AU);go_loopw [6] (λi wr=>∃(j:Nat) (M:Stil.B9) (av kv:Value),1<=j/\(j<=n\/j=1)/\i=AB j/\Tv wr w.heap.size 0 0 AG AG/\Tv wr d.heap.size M.kind M.one.op av kv/\Bi (λb=>w.heap.size<b/\b≠d.heap.size) wr av M.one.args/\Dp (λb=>w.heap.size<b/\b≠d.heap.size) wr kv M.kids/\Kw M/\G9 M<=10*j/\Ig wr g (P+20*j)/\w.grownBy wr (some g)) (λi _=>n - (intOf i).toNat)
 case atStart=>
  refine⟨1,⟨1,⟨op,F⟩,[]⟩,_,_,AQ,AQ,rfl,BL,BL,(ae.mono λb C h=>⟨h,AQ⟩).keep BJ,Jr _ _,Ht AY an Z AQ,by rw[E5];simp;omega,A2,A0⟩
 case round=>
  obtain⟨j,M,av,kv,aw,ar,rfl,aj,ab,x,B,H,ap,G,au⟩:=hrel;obtain⟨ac,u,q1,s,E,O,K,I,Q⟩:=aj;obtain⟨ai,q4,Y,q6,q7,U,p5,p6,p7⟩:=ab;have az:j<=300:=AQ
  obtain⟨y,z,rfl,_⟩:=id x;obtain⟨t,A,rfl,_⟩:=id B;by_cases ay:j<n
  ·go_upto_region 5 with fail
   go_region_with (go_at_call 68;refine(Jb g _ _ Ab AQ).mono ?_;rintro e f ⟨l,v2,m,rfl,V,R,ak,ax,G,q⟩;have X:wr.grownBy f (some g):=⟨q.os,q.tape,q.output,q.size,q.block⟩;have al:=R;obtain⟨T,L,rfl,_,_⟩:=al;obtain⟨ac,u,O,q1,K,s,I,E,Q⟩:EN f w.heap.size:=ET;obtain⟨ai,q4,U,Y,p5,q6,p6,q7,p7⟩:FK f d.heap.size (AB M.kind) (AB M.one.op) (AE y M.one.args.length z) (AE t M.kids.length A):=qb4)
   all_goals go_wp2
   all_goals
    have hK:-1000000<=(2+(j:Int) % 2)/\(2+(j:Int) % 2)<=1000000:=by
     omega
    have N:Ac (λb=>w.heap.size<b/\b≠d.heap.size) wr f:=Ac.of_grown X (λb C e=>by have:=C.1;simp only[CZ] at e;omega);have af:∀b,b<f.heap.size->wr.drew.heap.size - 1<b->w.heap.size<b/\b≠d.heap.size:=λb _ C=>by have e:wr.drew.heap.size=wr.heap.size:=rfl;omega
    have ah:RowOf 4 (Zn (λb=>w.heap.size<b/\b≠d.heap.size) f) [AB 1,AB l,AE T m.length L,AG,AB M.kind,AB M.one.op,AE y M.one.args.length z,AE t M.kids.length A] [⟨1,⟨l,m⟩,[]⟩,M]:=(RowOf.one (cs:=[AB 1,AB l,AE T m.length L,AG]) rfl ⟨_,_,rfl,(Ew R).mono af,Jr _ _⟩).append (RowOf.one (cs:=[AB M.kind,AB M.one.op,AE y M.one.args.length z,AE t M.kids.length A]) rfl ⟨_,_,rfl,x.keep N,B.keep N⟩);refine⟨⟨j+1,⟨(2+(j:Int) % 2),⟨0,[]⟩,[⟨1,⟨l,m⟩,[]⟩,M]⟩,_,_,AQ,AQ,by go_num,BL,(show Tv _ d.heap.size (2+(j:Int) % 2) 0 AG (AE (some (AL f 0)) 2 2) from BL),Tc _ _,ZM (b:=f.heap.size) (ns:=[⟨1,⟨l,m⟩,[]⟩,M]) AU (ah.imp λ_ _ _ h=>h.keep BJ) ⟨AQ,AQ⟩ AU,XS hK (λn D=>?_),?_,A2,A0⟩,by simp[intOf];omega⟩
    ·simp only[DF,Da,DK] at D
     rcases D with rfl | rfl
     ·exact Ht AY V ak AQ
     ·exact H
    ·rw[E5]
     simp[E5 1];omega
  ·go_wp2
   refine bodyPost_ret (by simp[results,results38,go_sem,u,q1,s,E];rfl) rfl ?_;have J:∀b,b<wr.heap.size->w.heap.size<b/\b≠d.heap.size->w.heap.size<b:=λ_ _ h=>h.1
   exact⟨M,_,_,rfl,Bi.mono ((x.mono J).keep BJ) FA,Dp.mono ((B.mono J).keep BJ) FA,H,AQ,A2,A0⟩
