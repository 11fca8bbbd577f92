import Derived.Test.YtgnkpbhknkinoaaGreatDoorG4
set_option linter.defProp false
namespace Go.Proofs.YtgnkpbhknkinoaaGreatDoor
open Tryz Go.RowKit Go.Sort Go.BigFrame
structure Tr where
 ints:List Int
 rows:List (List Tr)
 abbrev Ao:=List (List Tr × List Go.Value)
def Tr.ind{P:Tr->Prop}(h:∀i r,(∀l∈r,∀t∈l,P t)->P ⟨i,r⟩)(t:Tr):P t:=
 Tr.rec (motive_1:=P) (motive_2:=λr=>∀l∈r,∀t∈l,P t) (motive_3:=λl=>∀t∈l,P t) h (λ_ m=>by cases m) (λ_ _ a b=>BA.2 ⟨a,b⟩) (λ_ m=>by cases m) (λ_ _ a b=>BA.2 ⟨a,b⟩) t
def JA:List (List AW->Prop)->List AW->Prop
 |[],xs=>xs=[]
 |p::a,xs=>∃c r,xs=c++r/\p c/\JA a r
def SlP(P:Nat->Prop)(w:AU)(ps:List (List AW->Prop))(v:AW):Prop:=∃a c,v=AE a ps.length c/\ps.length<=c/\(a=none->c=0)/\(ps≠[]->∃b o xs,a=some (AK b o)/\P b/\b<w.heap.size/\JA ps xs/\FT w b o xs)
def G1(P:Nat->Prop)(w:AU):List (List (List AW->Prop))->List AW->Prop
 |[],a=>a=[]
 |ps::b,a=>∃v r,a=v::r/\SlP P w ps v/\G1 P w b r
def TrC(P:Nat->Prop)(w:AU):Tr->List AW->Prop
 |⟨i,r⟩=>λcs=>∃a,cs=i.map (Value.int .i64)++a/\G1 P w (r.attach.map λl=>l.1.attach.map λx=>have:=Nat.lt_trans (MS x.2) (MS l.2);TrC P w x.1) a
abbrev O8(P:Nat->Prop)(w:AU)(l:List Tr)(xs:List AW):Prop:=JA (l.map (TrC P w)) xs
abbrev SlC(P:Nat->Prop)(w:AU)(l:List Tr)(v:AW):Prop:=SlP P w (l.map (TrC P w)) v
abbrev Baj(P:Nat->Prop)(w:AU)(a:List (List Tr))(vs:List AW):Prop:=G1 P w (a.map λl=>l.map (TrC P w)) vs
def Zr(P:Nat->Prop)(w:AU)(i:List Int)(r:List (List Tr))(cs:List AW):TrC P w ⟨i,r⟩ cs↔∃a,cs=i.map (Value.int .i64)++a/\Baj P w r a:=by
 have e:(r.attach.map λl=>l.1.attach.map λx=>TrC P w x.1)=r.map λl=>l.map (TrC P w):=by simp only[List.attach_map_val]
 rw[TrC.eq_1];show(∃a,cs=_/\G1 P w (r.attach.map λl=>l.1.attach.map λx=>TrC P w x.1) a)↔_;rw[e]
def Kp(P Q:Nat->Prop)(w w':AU):Prop:=w.heap.size<=w'.heap.size/\∀b,P b->b<w.heap.size->Q b/\∀o,w'.cell? (AK b o)=w.cell? (AK b o)
theorem JA.imp{f g:Tr->List AW->Prop}:∀(l:List Tr),(∀t∈l,∀c,f t c->g t c)->∀xs,JA (l.map f) xs->JA (l.map g) xs
 |[],_,_,h=>h
 |t::l,h,_,⟨c,r,a,b,j⟩=>⟨c,r,a,h t Av c b,JA.imp l (λt d=>h t (Ax d)) r j⟩
section
variable {c:List AW}{k:Nat}
variable {P Q : Nat -> Prop}{w w' : AU}
def SlP.kp(d:Kp P Q w w'){f g:Tr->List AW->Prop}{l:List Tr}(h:∀t∈l,∀c,f t c->g t c){v:AW}(A:SlP P w (l.map f) v):SlP Q w' (l.map g) v:=by obtain⟨a,c,rfl,F,D,H⟩:=A;refine⟨a,c,BU,by simpa using F,D,λI=>?_⟩;have⟨b,o,xs,z,s,q,C,G⟩:=H (by simpa using I);exact⟨b,o,xs,z,(d.2 b s q).1,DL q d.1,JA.imp l h xs C,λj u E=>((d.2 b s q).2 _).tr (G j u E)⟩
theorem G1.kp(d:Kp P Q w w'){f g:Tr->List AW->Prop}:∀(a:List (List Tr)),(∀l∈a,∀t∈l,∀c,f t c->g t c)->∀b,G1 P w (a.map λl=>l.map f) b->G1 Q w' (a.map λl=>l.map g) b
 |[],_,_,h=>h
 |l::a,h,_,⟨v,r,j,p,q⟩=>⟨v,r,j,p.kp d (h l Av),G1.kp d a (λl s=>h l (Ax s)) r q⟩
def TrC.kp(g:Kp P Q w w'):∀(t:Tr)(cs:List AW),TrC P w t cs->TrC Q w' t cs:=by
 intro t;induction t using Tr.ind with
 |h i r f=>intro cs h;rw[Zr]at h⊢;obtain⟨a,b,d⟩:=h;exact⟨a,b,G1.kp g r f a d⟩
def O8.kp(a:Kp P Q w w'){l:List Tr}{xs:List AW}(h:O8 P w l xs):O8 Q w' l xs:=JA.imp l (λt _=>TrC.kp a t) xs h
theorem O8.app:∀{l m:List Tr}{xs ys:List AW},O8 P w l xs->O8 P w m ys->O8 P w (l++m) (xs++ys)
 |[],_,_,_,h,k=>by cases h;exact k
 |_::_,_,_,_,⟨c,r,a,b,d⟩,k=>⟨c,r++_,by rw[a,EG],b,O8.app d k⟩
theorem O8.O{t:Tr}:O8 P w [t] c↔TrC P w t c:=
 ⟨λ⟨f,r,a,b,d⟩=>by cases d;rwa[a,EW],λh=>⟨c,[],(EW _).symm,h,rfl⟩⟩
theorem G1.len:∀{d:List (List (List AW->Prop))}{b:List AW},G1 P w d b->b.length=d.length/\∀u∈b,u.oneCell'=true
 |[],_,h=>by cases h;simp
 |ps::d,_,⟨v,r,f,⟨a,c,p,_⟩,q⟩=>by
  subst f p;have⟨g,j⟩:=G1.len q;exact⟨by simp[g],BA.2 ⟨rfl,j⟩⟩
def Tr.sz(t:Tr):Nat:=t.ints.length+t.rows.length
theorem TrC.len{t:Tr}(h:TrC P w t c):c.length=t.sz/\∀u∈c,u.oneCell'=true:=by
 obtain⟨i,r⟩:=t;obtain⟨f,rfl,a⟩:=(Zr _ _ _ _ _).1 h;have⟨d,b⟩:=G1.len a;refine⟨by simp[Tr.sz,d],λu hu=>?_⟩;rcases BI.1 hu with hu|hu
 .obtain⟨x,_,rfl⟩:=BM.1 hu;rfl
 exact b u hu
theorem O8.len:∀{l:List Tr}{xs:List AW},O8 P w l xs->(∀t∈l,t.sz=k)->xs.length=l.length*k/\∀u∈xs,u.oneCell'=true
 |[],_,h,_=>by cases h;simp
 |t::l,_,⟨c,r,d,f,s⟩,a=>by
  subst d;have⟨b,p⟩:=f.len;have⟨j,g⟩:=O8.len s λt q=>a t (Ax q)
  rw[a t Av]at b;exact⟨by rw[DT,b,j,DO,Ix,Nat.add_comm],λu hu=>(BI.1 hu).elim (p u) (g u)⟩
theorem O8.get:∀{l:List Tr}{xs:List AW},O8 P w l xs->(∀t∈l,t.sz=k)->∀(i:Nat)(hi:i<l.length),∃c,TrC P w l[i] c/\∀j u,c[j]?=some u->xs[i*k+j]?=some u
 | t::l,_,⟨c,r,g,f,q⟩,b,0,_=>⟨c,f,λj u a=>by
  rw[g,GZ,ED,LL (BO.1 a).1];exact a⟩
 |t::l,_,⟨c,r,g,f,q⟩,b,i+1,hi=>by
  have⟨d,A,s⟩:=O8.get q (λt z=>b t (Ax z)) i yEf;refine⟨d,A,λj u a=>?_⟩;have:=f.len.1
  rw[b t Av]at this;rw[g,I0 (by rw[this,Ix];omega),this,Ix,show i*k+k+j - k=i*k+j by omega];exact s j u a
end
def Sv(w:AU)(bs:List Nat)(ts:Ao):Prop:=(∀b∈bs,b<w.heap.size)/\∀x∈ts,O8 (λb=>b∉bs) w x.1 x.2
def sl(l:List Tr):Tr:=⟨[],[l]⟩
def Iz{P:Nat->Prop}{w:AU}{l:List Tr}{v:AW}:O8 P w [sl l] [v]↔SlC P w l v:=by
 rw[O8.O,sl,Zr];constructor
 .rintro⟨j,a,g,r,b,f,d⟩;cases d;rw[b]at a;cases a;exact f
 exact λh=>⟨[v],rfl,v,[],rfl,h,rfl⟩
section
variable {n o:Nat}{r:Option Nat}{α:Type}
variable {w w' : AU}{bs cs : List Nat}{ts us : Ao}{l m : List Tr}{t : Tr}{xs ys c : List AW}{v u : AW}{k e B t' : Nat}
theorem Sv.grow(h:Sv w bs ts)(hg:w.grownBy w' r)(hr:∀b,r=some b->b∈bs):Sv w' bs ts:=
 ⟨λb a=>DL (h.1 b a) hg.size,λx d=>(h.2 x d).kp ⟨hg.size,λb a f=>⟨a,λ_o=>BE (hg.block b f λe=>a (hr b e.symm))⟩⟩⟩
theorem Sv.bel(h:Sv w bs ts)(a:AO w w'):Sv w' bs ts:=h.grow (grown_below a none) (λb e=>by cases e)
def Sv.alloc(h:Sv w bs ts)(o:Obj):Sv (w.alloc o) bs ts:=h.bel (Aa w o)
theorem Sv.set{b:Nat}{x:AW}(h:Sv w bs ts)(a:b∈bs):Sv (w.setCell (AK b o) x) bs ts:=h.grow (I5 w b o x) (λc e=>by cases e;exact a)
def Sv.drew(h:Sv w bs ts):Sv w.drew bs ts:=h.bel ((BP _ _).drew)
def Sv.sub(h:Sv w bs ts)(d:∀b∈cs,b∈bs)(f:∀x∈us,x∈ts):Sv w cs us:=
 ⟨λb a=>h.1 b (d b a),λx a=>(h.2 x (f x a)).kp ⟨DK _,λb a _=>⟨λg=>a (d b g),λ_=>rfl⟩⟩⟩
theorem Sv.moreG(h:Sv w bs ts)(hg:w.grownBy w' r)(hr:∀b,r=some b->b∈bs)(z:w.heap.size<=n)(g:n<w'.heap.size):Sv w' (n::bs) ts:=by
 have⟨f,s⟩:=h.grow hg hr;have q:=h.2;refine⟨BA.2 ⟨g,f⟩,λx j=>(q x j).kp ⟨hg.size,λb d p=>⟨λa=>?_,λo=>BE (hg.block b p λe=>d (hr b e.symm))⟩⟩⟩;rcases BD.1 a with rfl|a
 .omega
 exact d a
theorem Sv.box(h:Sv w bs ts)(o:Obj):Sv (w.alloc o) (w.heap.size::bs) ts:=h.moreG (grown_below (Aa w o) none) (λb e=>by cases e) (DK _) BU
def Sv.der{y:List Tr × List AW}(h:Sv w bs ts)(a:∀P,(∀x∈ts,O8 P w x.1 x.2)->O8 P w y.1 y.2):Sv w bs (y::ts):=⟨h.1,BA.2 ⟨a _ h.2,h.2⟩⟩
def Sv.cat(h:Sv w bs ts)(h1:(l,xs)∈ts)(b:(m,ys)∈ts):Sv w bs ((l++m,xs++ys)::ts):=h.der (y:=(l++m,xs++ys)) λ_P a=>(a _ h1).app (a _ b)
def Sv.nil(h:Sv w bs ts):Sv w bs (([],[])::ts):=h.der (y:=([],[])) λ_ _=>rfl
def Sv.snil(h:Sv w bs ts):Sv w bs (([sl []],[AG])::ts):=h.der (y:=([sl []],_)) λ_ _=>Iz.2 ⟨none,0,rfl,DK _,λ_=>rfl,λh=>absurd rfl h⟩
def Sv.fst(h:Sv w bs ts)(h1:(t::l,xs)∈ts):∃c r,xs=c++r/\Sv w bs (([t],c)::(l,r)::ts):=by have⟨c,r,a,d,b⟩:=h.2 _ h1;exact⟨c,r,a,h.1,BA.2 ⟨O8.O.2 d,BA.2 ⟨b,h.2⟩⟩⟩
def Sv.len(h:Sv w bs ts)(h1:(l,xs)∈ts)(a:∀t∈l,t.sz=k):xs.length=l.length*k/\∀u∈xs,u.oneCell'=true:=(h.2 _ h1).len a
theorem Sv.ice1{b:Nat}(h:Sv w (b::bs) ts)(g:b∉bs)(d:(l,xs)∈ts)(j:FT w b o xs)(f:l.length<=n):Sv w bs (([sl l],[AE (some (AK b o)) l.length n])::ts):=
 have a:=h.sub (cs:=bs) (λ_ h=>.tail _ h) (λ_ h=>h)
 ⟨a.1,BA.2 ⟨Iz.2 ⟨_,n,by rw[DZ],xAz,(λe=>by cases e),λ_=>⟨b,o,xs,rfl,g,h.1 b Av,a.2 _ d,j⟩⟩,a.2⟩⟩
theorem Sv.ice2(h:Sv w (ob v++bs) ts)(d:(l,xs)∈ts)(hrow:w.ownsRow B e k v l.length xs)(s:∀b,v.ownBlock=some b->b∉bs):Sv w bs (([sl l],[v])::ts):=by
 rcases hrow.2 with⟨rfl,a⟩|⟨g,n,cur,rfl,A,z,f,_⟩
 .obtain rfl:=BL.1 a;exact(h.sub (λb q=>EM _ q) λ_ h=>h).snil
 refine Sv.ice1 (o:=0) (h.sub (λ_ h=>h) λ_ h=>h) (s g rfl) d (λj u hj=>?_) f;rwa[ED,hrow.cellAt j yFb]
def Sv.ice(h:Sv w (ob v++bs) ts)(a:(l,xs)∈ts)(d:w.ownsRow B e k v l.length xs)(f:∀b∈bs,b<B):Sv w bs (([sl l],[v])::ts):=h.ice2 a d λb g a=>by have:=f b a;have:=(d.lt b g).1;omega
theorem Sv.lit(h:Sv w bs ts)(b:(l,xs)∈ts)(ys:Array AW)(e:AZ)(g:ys.toList=xs)(a:n=w.heap.size):Sv (w.alloc (.cells ys e)) bs (([sl l],[AE (some (AK n 0)) l.length l.length])::ts):=by subst a;refine(h.box (.cells ys e)).ice1 (λf=>Kx _ (h.1 _ f)) b (λj u d=>?_) (DK _);subst g;have:=Vy w ys.toList e _ rfl j u d;rwa [KR]at this
def JL(w:AU)(u:AW)(n:Nat)(ys:List AW):Prop:=∃a c,u=AE a n c/\((n=0/\ys=[])\/∃b o,a=some (AK b o)/\b<w.heap.size/\FT w b o ys)
theorem Sv.src(h:Sv w bs ts)(h1:([sl l],[u])∈ts):∃ys,JL w u l.length ys/\Sv w bs ((l,ys)::ts):=by
 obtain⟨a,c,rfl,_,_,p⟩:=Iz.1 (h.2 _ h1);rw[DZ] at*;by_cases d:l=[]
 .subst d;exact⟨[],⟨a,c,rfl,.inl ⟨rfl,rfl⟩⟩,h.nil⟩
 obtain⟨b,o,ys,rfl,_,f,g,j⟩:=p xBo;exact⟨ys,⟨_,c,rfl,.inr ⟨b,o,rfl,f,j⟩⟩,h.1,BA.2 ⟨g,h.2⟩⟩
theorem eV(hrow:w.ownsRow B e k v l.length xs):JL w v l.length xs:=by
 rcases hrow.2 with⟨rfl,a⟩|⟨g,n,cur,rfl,f,d,b,_⟩
 .exact⟨none,0,by rw[a],.inl ⟨a,BL.1 (by rw[hrow.1,a,GZ])⟩⟩
 refine⟨_,n,rfl,.inr ⟨g,0,rfl,(hrow.lt g rfl).2,λj u hj=>?_⟩⟩;rwa[ED,hrow.cellAt j yFb]
theorem l6(w:AU)(c:List AW)(e:AZ):JL (w.alloc (.cells c.toArray e)) (AE (some (AL w 0)) 1 1) 1 c:=⟨_,_,rfl,.inr ⟨_,0,rfl,BU,λj u a=>by have:=Vy w c e _ rfl j u a;rwa [KR]at this⟩⟩
theorem Sv.app(F:AZ)(kd:Kd k t' e)(h:Sv w (ob v++bs) ts)(R:(l,xs)∈ts)(I:(m,ys)∈ts)(M:∀t∈m,t.sz=k)(hu:JL w u m.length ys)(D:w.ownsRow B e k v l.length xs)(U:B<=w.heap.size)(hn:l.length+m.length<=2000000):
  ∃s w',(Builtin.append_ #[t',t'] F #[v,u]).run prog w=.ok s w'/\w'.ownsRow B e k s (l++m).length (xs++ys)/\Sv w' (ob s++bs) ((l++m,xs++ys)::ts)/\w.grownBy w' v.ownBlock/\∀b,b<w.heap.size->v.ownBlock≠some b->s.ownBlock≠some b:=by
 obtain⟨hk,X,i,ad,y,G,hi,hz,S,N,V,L⟩:=kd;obtain⟨a,c,rfl,hu⟩:=hu;have z:=h.cat R I;have⟨J,Y⟩:=h.len I M;by_cases H:m.length=0
 .obtain rfl:=BL.1 H;have ab:ys=[]:=BL.1 (by rw[J];simp);subst ab;have Z:∃C E,v=AE C l.length E/\l.length<=E:=by rcases D.2 with⟨rfl,q⟩|⟨g,n,cur,rfl,_,_,q,_⟩;{exact⟨none,0,by rw[q],by rw[q];exact DK _⟩};exact⟨_,n,rfl,q⟩
  obtain⟨C,E,rfl,ac⟩:=Z;refine⟨_,w,?_,by simpa using D,z,Lc _ _,λb _ h=>h⟩;cases a<;>cases C<;>simp[Builtin.append_,run_underlying G,sizeOf,typeInfo,hi,Builtin.lenOf,Builtin.firstCells,loadCells,loadCellsFrom,go_sem,ac]
 rcases hu with hu|⟨b,o,rfl,-,hc⟩
 .exact absurd hu.1 H
 have f:(l.length+m.length)*y<=2000000*1000:=Nat.mul_le_mul hn V;obtain⟨s,w',O,q,A,-,d⟩:=run_append_own_at (P:=prog) w B t' F e i ad k y G hi hz S N L X v l.length xs D (AK b o) m.length c ys J (λj u T=>by rw[KR];exact hc j u T) Y CH BS U;have K:∀b,v.b=some b->b∈ob v++bs:=λb f=>J0 _ (by simp[ob,f]);refine⟨s,w',O,by rwa[DT],?_,A,λb f aa e=>?_⟩
 .rcases d with d|d;{have:=z.grow A K;rw[ob,<-d]at this;exact this};refine(z.moreG A K (DK _) (q.lt _ d).2).sub (λb f=>?_) λ_ h=>h;rw[ob,d]at f;rcases BI.1 f with f|f;{rw[Option.toList_some,fU]at f;rw[f];exact .head _};exact .tail _ (EM _ f)
 rcases d with d|d
 .exact aa (d ▸ e)
 rw[d]at e;simp only[E9]at e;omega
theorem Js(h:w.ownsRow B e k v n xs):∃a c,v=AE a n c/\n<=c:=by
 rcases h.2 with⟨rfl,b⟩|⟨g,c,cur,rfl,_,_,d,_⟩
 .exact⟨none,0,by rw[b],by rw[b];exact DK _⟩
 exact⟨_,c,rfl,d⟩
theorem Sv.appM{f:α->Tr}{L M:List α}(j:AZ)(s:Kd k t' e)(h:Sv w (ob v++bs) ts)(D:(L.map f,xs)∈ts)(z:(M.map f,ys)∈ts)(A:∀x,(f x).sz=k)(hu:JL w u (M.map f).length ys)(F:w.ownsRow B e k v L.length xs)(G:B<=w.heap.size)(E:L.length+M.length<=2000000):
  ∃d w',(Builtin.append_ #[t',t'] j #[v,u]).run prog w=.ok d w'/\∃a n,d=.slice a (L++M).length n/\w'.ownsRow B e k (.slice a (L++M).length n) (L++M).length (xs++ys)/\Sv w' (ob (.slice a (L++M).length n)++bs) (((L++M).map f,xs++ys)::ts)/\w.grownBy w' v.ownBlock/\∀b,b<w.heap.size->v.ownBlock≠some b->(Value.slice a (L++M).length n).ownBlock≠some b:=by have⟨d,w',q,g,p,H,I⟩:=Sv.app (B:=B) j s h D z (by intro t C;obtain⟨x,_,rfl⟩:=BM.1 C;exact A x) hu (by simpa using F) G (by simpa using E);rw[<-D2,DZ]at g;rw[<-D2]at p;obtain⟨a,n,rfl,_⟩:=Js g;exact⟨_,w',q,a,n,rfl,g,p,H,I⟩
theorem Sv.pushM{f:α->Tr}{L:List α}{x:α}(g:AZ)(q:Kd k t' e)(h:Sv w (ob v++bs) ts)(D:(L.map f,xs)∈ts)(s:([f x],c)∈ts)(z:∀x,(f x).sz=k)(F:w.ownsRow B e k v L.length xs)(K:B<=w.heap.size)(J:L.length<=1900000):
  ∃d w',(Builtin.append_ #[t',t'] g #[v,AE (some (AL w 0)) 1 1]).run prog (w.alloc (.cells c.toArray e))=.ok d w'/\∃a n,d=.slice a (L++[x]).length n/\w'.ownsRow B e k (.slice a (L++[x]).length n) (L++[x]).length (xs++c)/\Sv w' (ob (.slice a (L++[x]).length n)++bs) (((L++[x]).map f,xs++c)::ts)/\w.grownBy w' v.ownBlock/\∀b,b<w.heap.size->v.ownBlock≠some b->(Value.slice a (L++[x]).length n).ownBlock≠some b:=by have⟨d,w',j,a,n,E,A,G,H,C⟩:=Sv.appM (B:=B) (M:=[x]) g q (h.alloc (.cells c.toArray e)) D s z (l6 w c e) (F.alloc _) yBd Bw;exact⟨d,w',j,a,n,E,A,G,Io (grown_below (Aa _ _) _) H,λb I=>C b yBd⟩
end
open Stil
def M4(d:Stil.DN):Tr:=⟨[d.kind,d.n,d.p],[]⟩
abbrev H9(ds:List Stil.DN):List Tr:=ds.map M4
def Qs(e:Stil.Elem):Tr:=⟨[e.op],[H9 e.args]⟩
def Gy:Stil.DI->Tr
 |⟨k,e,kids⟩=>⟨[k,e.op],[H9 e.args,kids.map Gy]⟩
abbrev Fb(l:List Stil.DI):List Tr:=l.map Gy
def J6:Stil.DJ->Tr
 |⟨n,a,kids⟩=>⟨[n.kind,n.O.op],[H9 n.O.args,Fb n.K,a.map Qs,kids.map J6]⟩
abbrev Iy(l:List Stil.DJ):List Tr:=l.map J6
abbrev Ho(l:List Stil.Elem):List Tr:=l.map Qs
def Ol(i:Stil.Aw):Tr:=⟨[i.code,i.O.op],[H9 i.O.args]⟩
abbrev Cc(l:List Stil.Aw):List Tr:=l.map Ol
def cU(n:Stil.DI):Gy n=⟨[n.kind,n.O.op],[H9 n.O.args,Fb n.K]⟩:=by obtain⟨_,_,_⟩:=n;rw[Gy]
def cw(n:Stil.DJ):J6 n=⟨[n.N.kind,n.N.O.op],[H9 n.N.O.args,Fb n.N.K,Ho n.C,Iy n.K]⟩:=by obtain⟨_,_,_⟩:=n;rw[J6]
def Qv(n:Stil.DI):(Gy n).sz=4:=by rw[cU];rfl
def Uj(n:Stil.DJ):(J6 n).sz=6:=by rw[cw];rfl
def UC{α:Type}{f:α->Tr}{k:Nat}(h:∀x,(f x).sz=k)(l:List α):∀t∈l.map f,t.sz=k:=λt a=>by obtain⟨x,_,rfl⟩:=BM.1 a;exact h x
section
variable {v:AW}
variable {P : Nat -> Prop}{w : AU}{c : List AW}
theorem RV{e:Stil.Elem}:TrC P w (Qs e) c↔∃v,c=[AB e.op,v]/\SlC P w (H9 e.args) v:=by rw[Qs,Zr];exact⟨λ⟨_,a,v,_,d,b,f⟩=>by cases f;cases d;exact⟨v,a,b⟩,λ⟨v,a,b⟩=>⟨[v],a,v,[],rfl,b,rfl⟩⟩
theorem Qk{i:Stil.Aw}:TrC P w (Ol i) c↔∃v,c=[AB i.code,AB i.O.op,v]/\SlC P w (H9 i.O.args) v:=by rw[Ol,Zr];exact⟨λ⟨_,a,v,_,d,b,f⟩=>by cases f;cases d;exact⟨v,a,b⟩,λ⟨v,a,b⟩=>⟨[v],a,v,[],rfl,b,rfl⟩⟩
theorem K5{n:Stil.DI}:TrC P w (Gy n) c↔∃v u,c=[AB n.kind,AB n.O.op,v,u]/\SlC P w (H9 n.O.args) v/\SlC P w (Fb n.K) u:=by rw[cU,Zr];exact⟨λ⟨_,a,v,_,f,d,u,_,g,b,h⟩=>by cases h;cases g;cases f;exact⟨v,u,a,d,b⟩,λ⟨v,u,a,d,b⟩=>⟨[v,u],a,v,[u],rfl,d,u,[],rfl,b,rfl⟩⟩
theorem MC{n:Stil.DJ}:TrC P w (J6 n) c↔∃v u x y,c=[AB n.N.kind,AB n.N.O.op,v,u,x,y]/\SlC P w (H9 n.N.O.args) v/\SlC P w (Fb n.N.K) u/\SlC P w (Ho n.C) x/\SlC P w (Iy n.K) y:=by rw[cw,Zr];exact⟨λ⟨_,a,v,_,h,g,u,_,p,f,x,_,s,b,y,_,j,d,q⟩=>by cases q;cases j;cases s;cases p;cases h;exact⟨v,u,x,y,a,g,f,b,d⟩,λ⟨v,u,x,y,a,g,f,b,d⟩=>⟨[v,u,x,y],a,v,_,rfl,g,u,_,rfl,f,x,_,rfl,b,y,[],rfl,d,rfl⟩⟩
def SlP.slice{l:List Tr}(h:SlC P w l v):∃a c,v=AE a l.length c/\l.length<=c/\(a=none->c=0):=by obtain⟨a,c,b,d,f,_⟩:=h;rw[DZ]at b d;exact⟨a,c,b,d,f⟩
theorem SlP.read{α:Type}{d:α->Tr}{k:Nat}{A:Nat->Nat->α->Prop}{l:List α}(h:SlC P w (l.map d) v)(z:∀x,(d x).sz=k)(q:∀x∈l,∀b o c,TrC P w (d x) c->FT w b o c->A b o x):∃a cap,v=AE a l.length cap/\Fo a l.length cap/\∀i(h:i<l.length),∃b o,a=some (AK b o)/\P b/\b<w.heap.size/\A b (o+i*k) l[i]:=by obtain⟨a,n,p,f,G,J⟩:=h;rw[DZ,DZ]at p f;refine⟨a,n,p,⟨f,G⟩,λi hi=>?_⟩;have⟨b,o,xs,s,D,I,C,H⟩:=J (λe=>by rw[List.map_eq_nil_iff,List.map_eq_nil_iff]at e;subst e;cases hi);have⟨c,g,E⟩:=O8.get C (UC z l) i xAz;rw[FW]at g;exact⟨b,o,s,D,I,q _ (DW hi) _ _ c g λj u F=>by rw[Nat.add_assoc];exact H _ _ (E j u F)⟩
theorem Pn{ds:List Stil.DN}(h:SlC P w (H9 ds) v):Jg P w v ds:=h.read (λ_=>rfl) λd _ b o c h a=>by
 rw[M4,Zr]at h;obtain⟨_,rfl,rfl⟩:=h;exact⟨a 0 _ rfl,a 1 _ rfl,a 2 _ rfl⟩
theorem Avq{es:List Stil.Elem}(h:SlC P w (Ho es) v):Py P w v es:=h.read (λ_=>rfl) λd _ b o c h a=>by
 obtain⟨v,rfl,f⟩:=RV.1 h;exact⟨a 0 _ rfl,v,a 1 _ rfl,Pn f⟩
theorem ZA{es:List Stil.Aw}(h:SlC P w (Cc es) v):Gn w v es:=by
 have⟨a,n,j,_,g⟩:=h.read (A:=Zu w) (k:=3) (λ_=>rfl) λd _ b o c h f=>by obtain⟨v,rfl,g⟩:=Qk.1 h;exact⟨f 0 _ rfl,f 1 _ rfl,v,f 2 _ rfl,(Pn g).at⟩
 exact⟨a,n,j,λi hi=>let ⟨b,o,p,_,q⟩:=g i hi;⟨b,o,p,q⟩⟩
theorem kG:∀(n:Stil.DI)(b o:Nat)(c:List AW),TrC P w (Gy n) c->FT w b o c->Ru P w b o n:=by
 intro n;induction n using Gs with
 |h k e kids f=>intro b o c h a;obtain⟨v,u,rfl,d,g⟩:=K5.1 h;exact(NZ _ _ _ _ _).2 ⟨a 0 _ rfl,a 1 _ rfl,⟨v,a 2 _ rfl,Pn d⟩,u,a 3 _ rfl,g.read Qv f⟩
def b8{l:List Stil.DI}(h:SlC P w (Fb l) v):Zt P w v l:=h.read Qv λn _=>kG n
theorem k9:∀(n:Stil.DJ)(b o:Nat)(c:List AW),TrC P w (J6 n) c->FT w b o c->Wi P w b o n:=by
 intro n;induction n using Fv with
 |h n q kids g=>intro b o c h a;obtain⟨v,u,x,y,rfl,d,f,j,p⟩:=MC.1 h;exact(cQ _ _ _ _ _).2 ⟨(NZ _ _ _ _ _).2 ⟨a 0 _ rfl,a 1 _ rfl,⟨v,a 2 _ rfl,Pn d⟩,u,a 3 _ rfl,b8 f⟩,⟨x,a 4 _ rfl,Avq j⟩,y,a 5 _ rfl,p.read Uj g⟩
theorem gl{l:List Stil.DJ}(h:SlC P w (Iy l) v):Uh P w v l:=h.read Uj λn _=>k9 n
end
section
variable {w : AU}{bs : List Nat}{ts : Ao}{i op : Int}{v u x y : AW}{ds : List Stil.DN}{ns : List Stil.DI}{es : List Stil.Elem}{ms : List Stil.DJ}{c : List AW}
theorem Sv.mkE(h:Sv w bs ts)(h1:([sl (H9 ds)],[v])∈ts):Sv w bs (([Qs ⟨op,ds⟩],[AB op,v])::ts):=h.der (y:=([_],_)) λ_ a=>O8.O.2 (RV.2 ⟨v,rfl,Iz.1 (a _ h1)⟩)
theorem Sv.mkI(h:Sv w bs ts)(h1:([sl (H9 ds)],[v])∈ts):Sv w bs (([Ol ⟨i,⟨op,ds⟩⟩],[AB i,AB op,v])::ts):=h.der (y:=([_],_)) λ_ a=>O8.O.2 (Qk.2 ⟨v,rfl,Iz.1 (a _ h1)⟩)
theorem Sv.mkN(h:Sv w bs ts)(h1:([sl (H9 ds)],[v])∈ts)(b:([sl (Fb ns)],[u])∈ts):Sv w bs (([Gy ⟨i,⟨op,ds⟩,ns⟩],[AB i,AB op,v,u])::ts):=h.der (y:=([_],_)) λ_ a=>O8.O.2 (K5.2 ⟨v,u,rfl,Iz.1 (a _ h1),Iz.1 (a _ b)⟩)
def Sv.mkA(h:Sv w bs ts)(h1:([sl (H9 ds)],[v])∈ts)(d:([sl (Fb ns)],[u])∈ts)(f:([sl (Ho es)],[x])∈ts)(b:([sl (Iy ms)],[y])∈ts):Sv w bs (([J6 ⟨⟨i,⟨op,ds⟩,ns⟩,es,ms⟩],[AB i,AB op,v,u,x,y])::ts):=h.der (y:=([_],_)) λ_ a=>O8.O.2 (MC.2 ⟨v,u,x,y,rfl,Iz.1 (a _ h1),Iz.1 (a _ d),Iz.1 (a _ f),Iz.1 (a _ b)⟩)
theorem Sv.opN{n:Stil.DI}(h:Sv w bs ts)(h1:([Gy n],c)∈ts):∃a p b q,c=A3 n a p b q/\Sv w bs (([sl (H9 n.O.args)],[AE a n.O.args.length p])::([sl (Fb n.K)],[AE b n.K.length q])::ts):=by have⟨v,u,g,f,d⟩:=K5.1 (O8.O.1 (h.2 _ h1));obtain⟨a,p,rfl,_⟩:=f.slice;obtain⟨b,q,rfl,_⟩:=d.slice;simp only[DZ]at g f d;exact⟨a,p,b,q,g,h.1,BA.2 ⟨Iz.2 f,BA.2 ⟨Iz.2 d,h.2⟩⟩⟩
theorem Sv.opA{n:Stil.DJ}(h:Sv w bs ts)(h1:([J6 n],c)∈ts):∃a p b q d r f s,c=A6 n a p b q d r f s/\Sv w bs (([sl (H9 n.N.O.args)],[AE a n.N.O.args.length p])::([sl (Fb n.N.K)],[AE b n.N.K.length q])::([sl (Ho n.C)],[AE d n.C.length r])::([sl (Iy n.K)],[AE f n.K.length s])::ts):=by have⟨v,u,x,y,C,z,A,j,g⟩:=MC.1 (O8.O.1 (h.2 _ h1));obtain⟨a,p,rfl,_⟩:=z.slice;obtain⟨b,q,rfl,_⟩:=A.slice;obtain⟨d,r,rfl,_⟩:=j.slice;obtain⟨f,s,rfl,_⟩:=g.slice;simp only[DZ]at C z A j g;exact⟨a,p,b,q,d,r,f,s,C,h.1,BA.2 ⟨Iz.2 z,BA.2 ⟨Iz.2 A,BA.2 ⟨Iz.2 j,BA.2 ⟨Iz.2 g,h.2⟩⟩⟩⟩⟩
def Sv.devs(h:Sv w bs ts)(h1:([sl (H9 ds)],[v])∈ts):Ar w v ds:=(Pn (Iz.1 (h.2 _ h1))).at
def Sv.nets(h:Sv w bs ts)(h1:([sl (Fb ns)],[v])∈ts):Fe w v ns:=(b8 (Iz.1 (h.2 _ h1))).at
def Sv.arms(h:Sv w bs ts)(h1:([sl (Iy ms)],[v])∈ts):Uh (λ_=>True) w v ms:=(gl (Iz.1 (h.2 _ h1))).mo λ_ _ _=>trivial
def Sv.insts{is:List Stil.Aw}(h:Sv w bs ts)(h1:([sl (Cc is)],[v])∈ts):Gn w v is:=ZA (Iz.1 (h.2 _ h1))
theorem kd3:Kd 3 51 111:=LF (y:=24) (z:=.agg #[AB 0,AB 0,AB 0]) BZ underlying51 BW BZ rfl
theorem kdI:Kd 3 23 77:=LF (y:=40) (z:=.agg #[AB 0,AB 0,AG]) BZ underlying23 BW BZ rfl
theorem Q6{P:Nat->Prop}:∀ds:List Stil.DN,O8 P w (H9 ds) (Dh ds)
 |[]=>rfl
 |_d::ds=>⟨_,_,rfl,(Zr _ _ _ _ _).2 ⟨[],rfl,rfl⟩,Q6 ds⟩
theorem Sv.srcDevs(h:Sv w bs ts)(hd:Ar w v ds):JL w v (H9 ds).length (Dh ds)/\Sv w bs ((H9 ds,Dh ds)::ts):=by
 refine⟨?_,h.der (y:=(_,_)) λP _=>Q6 ds⟩;obtain⟨a,cap,rfl,d⟩:=hd;refine⟨a,cap,by rw[DZ],?_⟩;by_cases f:ds.length=0
 .obtain rfl:=BL.1 f;exact .inl ⟨rfl,rfl⟩
 obtain⟨b,o,rfl,z,_⟩:=d 0 BS
 exact .inr ⟨b,o,rfl,z,λj u q=>by
  have:=VQ (b:=b) (o:=o) (λi hi=>by
   have⟨A,C,s,_,g⟩:=d i hi;cases s
   exact g) j u q
  rwa [KR] at this⟩
theorem Sv.copyDevs{N B:Nat}(g:AZ)(h:Sv w (N::bs) ts)(hd:Ar w u ds)(C:w.ownsRow B 111 3 (AE (some (AK N 0)) 0 0) 0 [])(F:∀b∈bs,b<B)(E:B<=w.heap.size)(hl:ds.length<=1900000):
  ∃d w',(Builtin.append_ #[51,51] g #[AE (some (AK N 0)) 0 0,u]).run prog w=.ok d w'/\∃a n,d=AE a ds.length n/\Sv w' bs (([sl (H9 ds)],[AE a ds.length n])::ts)/\w.grownBy w' (some N):=by have⟨D,A⟩:=h.srcDevs hd;obtain⟨d,w',z,a,n,q,j,s,G,-⟩:=Sv.appM (f:=M4) (L:=[]) (v:=AE (some (AK N 0)) 0 0) (bs:=bs) g kd3 A.nil Av (Ax Av) (λ_=>rfl) D C E Bw;rw[EB]at q j s;exact⟨d,w',z,a,n,q,(s.ice Av xAz F).sub (λ_ h=>h) B8,G⟩
end
variable {W:AU}{bs:List Nat}{i o1 o2 o3 o4:Nat}{r:Option Nat}{v v1 v2 v3 v4 v5 x1 x2 x3 x4:AW}
def Af{p:Prop}(h:p):Hid p:=h
def Gu{w:AU}{b:Nat}(h:AO w W)(a:b<w.heap.size):W.cell? (AK b i)=w.cell? (AK b i):=h.cell (p:=(AK b i)) a
def oH{w:AU}{b:Nat}(h:AO w W)(a:b<w.heap.size):W.frozen? (AK b i)=w.frozen? (AK b i):=h.frozen (p:=(AK b i)) a
def Zb{w:AU}{b:Nat}(h:AO w W)(a:b<w.heap.size):b<W.heap.size:=DL a h.size
def C2{b:Nat}(h:W.cell? (AK b i)=some v:=by(refine(Gu (by with_reducible assumption) CN).tr ?_;exact CU))(k:W.frozen? (AK b i)=false:=by(refine(oH (by with_reducible assumption) CN).tr ?_;exact ffA)):QbC W b i v:=⟨h,k⟩
def qcN{b:Nat}(h:W.cell? (AK b i)=some v:=by exact CU)(k:W.frozen? (AK b i)=false:=by exact ffA):QbC W b i v:=⟨h,k⟩
def qN2{b:Nat}{v0:AW}(hz:b<W.heap.size:=by exact CN)(h0:QbC W b 0 v0:=by exact qcN)(h1:QbC W b 1 v1:=by exact qcN):E2 W b v0 v1:=⟨hz,h0.1,h0.2,h1.1,h1.2⟩
def E2.gr{w:AU}{b:Nat}{v0:AW}(h:E2 w b v0 v1)(hg:w.grownBy W r)(hr:r≠some b):E2 W b v0 v1:=by obtain⟨a,j,p,g,q⟩:=h;have f:∀o,W.c (AK b o)=w.c (AK b o):=λo=>BE (hg.block b a λe=>hr e.symm);have d:∀o,W.f (AK b o)=w.f (AK b o):=λo=>World.frozen?_of_block (hg.block b a λe=>hr e.symm);exact⟨DL a hg.size,(f 0).tr j,(d 0).tr p,(f 1).tr g,(d 1).tr q⟩
theorem E2.bel{w:AU}{b:Nat}{v0:AW}(h:E2 w b v0 v1)(a:AO w W):E2 W b v0 v1:=h.gr (grown_below a none) (λe=>by cases e)
def qB4{b:Nat}{v0:AW}(hz:b<W.heap.size:=by(refine Zb (by with_reducible assumption) ?_;exact CN))(h0:QbC W b 0 v0:=by exact C2)(h1:QbC W b 1 v1:=by exact C2)(h2:QbC W b 2 v2:=by exact C2)(h3:QbC W b 3 v3:=by exact C2):Da W b v0 v1 v2 v3:=⟨hz,h0.1,h0.2,h1.1,h1.2,h2.1,h2.2,h3.1,h3.2⟩
def qN4{b:Nat}{v0:AW}(hz:b<W.heap.size:=by exact CN)(h0:QbC W b 0 v0:=by exact qcN)(h1:QbC W b 1 v1:=by exact qcN)(h2:QbC W b 2 v2:=by exact qcN)(h3:QbC W b 3 v3:=by exact qcN):Da W b v0 v1 v2 v3:=⟨hz,h0.1,h0.2,h1.1,h1.2,h2.1,h2.2,h3.1,h3.2⟩
def Da.gr{w:AU}{b:Nat}{v0:AW}(h:Da w b v0 v1 v2 v3)(hg:w.grownBy W r)(hr:r≠some b):Da W b v0 v1 v2 v3:=by obtain⟨f,p,z,g,C,s,j,q,A⟩:=h;have a:∀o,W.c (AK b o)=w.c (AK b o):=λo=>BE (hg.block b f λe=>hr e.symm);have d:∀o,W.f (AK b o)=w.f (AK b o):=λo=>World.frozen?_of_block (hg.block b f λe=>hr e.symm);exact⟨DL f hg.size,(a 0).tr p,(d 0).tr z,(a 1).tr g,(d 1).tr C,(a 2).tr s,(d 2).tr j,(a 3).tr q,(d 3).tr A⟩
theorem Da.bel{w:AU}{b:Nat}{v0:AW}(h:Da w b v0 v1 v2 v3)(a:AO w W):Da W b v0 v1 v2 v3:=h.gr (grown_below a none) (λe=>by cases e)
def qB6{b:Nat}{v0:AW}(hz:b<W.heap.size:=by(refine Zb (by with_reducible assumption) ?_;exact CN))(h0:QbC W b 0 v0:=by exact C2)(h1:QbC W b 1 v1:=by exact C2)(h2:QbC W b 2 v2:=by exact C2)(h3:QbC W b 3 v3:=by exact C2)(h4:QbC W b 4 v4:=by exact C2)(h5:QbC W b 5 v5:=by exact C2):D3 W b v0 v1 v2 v3 v4 v5:=⟨hz,h0.1,h0.2,h1.1,h1.2,h2.1,h2.2,h3.1,h3.2,h4.1,h4.2,h5.1,h5.2⟩
def qN6{b:Nat}{v0:AW}(hz:b<W.heap.size:=by exact CN)(h0:QbC W b 0 v0:=by exact qcN)(h1:QbC W b 1 v1:=by exact qcN)(h2:QbC W b 2 v2:=by exact qcN)(h3:QbC W b 3 v3:=by exact qcN)(h4:QbC W b 4 v4:=by exact qcN)(h5:QbC W b 5 v5:=by exact qcN):D3 W b v0 v1 v2 v3 v4 v5:=⟨hz,h0.1,h0.2,h1.1,h1.2,h2.1,h2.2,h3.1,h3.2,h4.1,h4.2,h5.1,h5.2⟩
def D3.gr{w:AU}{b:Nat}{v0:AW}(h:D3 w b v0 v1 v2 v3 v4 v5)(hg:w.grownBy W r)(hr:r≠some b):D3 W b v0 v1 v2 v3 v4 v5:=by obtain⟨f,q,C,g,G,A,j,z,F,D,p,E,s⟩:=h;have a:∀o,W.c (AK b o)=w.c (AK b o):=λo=>BE (hg.block b f λe=>hr e.symm);have d:∀o,W.f (AK b o)=w.f (AK b o):=λo=>World.frozen?_of_block (hg.block b f λe=>hr e.symm);exact⟨DL f hg.size,(a 0).tr q,(d 0).tr C,(a 1).tr g,(d 1).tr G,(a 2).tr A,(d 2).tr j,(a 3).tr z,(d 3).tr F,(a 4).tr D,(d 4).tr p,(a 5).tr E,(d 5).tr s⟩
theorem D3.bel{w:AU}{b:Nat}{v0:AW}(h:D3 w b v0 v1 v2 v3 v4 v5)(a:AO w W):D3 W b v0 v1 v2 v3 v4 v5:=h.gr (grown_below a none) (λe=>by cases e)
def Sv.set4{w:AU}{ts:Ao}{b:Nat}(h:Sv w bs ts)(a:b∈bs):Sv ((((w.setCell (AK b o1) x1).setCell (AK b o2) x2).setCell (AK b o3) x3).setCell (AK b o4) x4) bs ts:=(((h.set a).set a).set a).set a
def GV(n:Stil.DI)(w:AU)(bs:List Nat)(ts:Ao)(e:Ending)(w':AU):Prop:=∃a p b q,e=.returned (A0 n a p b q)/\Sv w' bs (([Gy n],A3 n a p b q)::ts)/\AO w w'
def GQ{α:Type}(f:α->Tr)(k e:Nat)(L:List α)(w:AU)(bs:List Nat)(ts:Ao)(r:Ending)(w':AU):Prop:=∃a n xs,r=.returned (AE a L.length n)/\w'.ownsRow w.heap.size e k (AE a L.length n) L.length xs/\Sv w' (ob (AE a L.length n)++bs) ((L.map f,xs)::ts)/\AO w w'
def JH(F:FuncId)(x y:Stil.DI):Prop:=∀(a b:AW)(w:AU)(bs:List Nat)(ts:Ao),Sv w bs ts->Ar w a x.O.args->Fe w b x.K->Calls prog F #[.agg #[AB x.kind,AB x.O.op,a,b]] w (GV y w bs ts)
def Bao(n:Stil.DJ)(w:AU)(bs:List Nat)(ts:Ao)(e:Ending)(w':AU):Prop:=∃a p b q d r f s,e=.returned (A4 n a p b q d r f s)/\Sv w' bs (([J6 n],A6 n a p b q d r f s)::ts)/\AO w w'
def LR(F:FuncId)(x y:Stil.DJ):Prop:=∀(b d a f:AW)(w:AU)(bs:List Nat)(ts:Ao),Sv w bs ts->Ar w b x.N.O.args->Fe w d x.N.K->G6 w a x.C->Dx w f x.K->Calls prog F #[.agg #[AB x.N.kind,AB x.N.O.op,b,d,a,f]] w (Bao y w bs ts)
def Sv.set6{w:AU}{ts:Ao}{b o5 o6:Nat}{x5 x6:AW}(h:Sv w bs ts)(a:b∈bs):Sv ((((((w.setCell (AK b o1) x1).setCell (AK b o2) x2).setCell (AK b o3) x3).setCell (AK b o4) x4).setCell (AK b o5) x5).setCell (AK b o6) x6) bs ts:=((h.set4 a).set a).set a
theorem Sv.kidsOf{w:AU}{ts:Ao}{n:Stil.DI}{u x y:AW}(h:Sv w bs ts)(h1:([Gy n],[x,y,v,u])∈ts):∃ys,JL w u (Fb n.K).length ys/\Sv w bs ((Fb n.K,ys)::ts):=by have⟨p,j,d,_,f⟩:=K5.1 (O8.O.1 (h.2 _ h1));cases d;have⟨ys,g,a⟩:=(show Sv w bs (([sl (Fb n.K)],[u])::ts) from⟨h.1,BA.2 ⟨Iz.2 f,h.2⟩⟩).src Av;exact⟨ys,g,a.sub (λ_ h=>h) λz b=>(BD.1 b).elim (λh=>h ▸ .head _) λh=>.tail _ (Ax h)⟩
