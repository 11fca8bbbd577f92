import Derived.Test.YthdogflpbpkbeaaGreatDoorG4
set_option linter.defProp false
namespace Go.Proofs.YthdogflpbpkbeaaGreatDoor
open Tryz Go.RowKit Go.Sort Go.BigFrame
structure Tr where
 ints:List Int
 rows:List (List Tr)
 abbrev Ao:=List (List Tr × List Go.Value)
def Tr.ind{P:Tr->Prop}(h:∀i r,(∀l∈r,∀t∈l,P t)->P ⟨i,r⟩)(t:Tr):P t:=
 Tr.rec (motive_1:=P) (motive_2:=λr=>∀l∈r,∀t∈l,P t) (motive_3:=λl=>∀t∈l,P t) h (λ_ m=>by cases m) (λ_ _ a b=>BA.2 ⟨a,b⟩) (λ_ m=>by cases m) (λ_ _ a b=>BA.2 ⟨a,b⟩) t
def JD:List (Θ->Prop)->Θ->Prop
 |[],xs=>xs=[]
 |p::a,xs=>∃c r,xs=c++r/\p c/\JD a r
def SlP(P:Φ)(w:AU)(ps:List (Θ->Prop))(v:AW):Prop:=∃a c,v=AE a ps.length c/\ps.length<=c/\(a=none->c=0)/\(ps≠[]->∃b o xs,a=some (AK b o)/\P b/\b<w.heap.size/\JD ps xs/\FY w b o xs)
def G4(P:Φ)(w:AU):List (List (Θ->Prop))->Θ->Prop
 |[],a=>a=[]
 |ps::b,a=>∃v r,a=v::r/\SlP P w ps v/\G4 P w b r
def TrC(P:Φ)(w:AU):Tr->Θ->Prop
 |⟨i,r⟩=>λcs=>∃a,cs=i.map (Value.int .i64)++a/\G4 P w (r.attach.map λl=>l.1.attach.map λx=>have:=Nat.lt_trans (M3 x.2) (M3 l.2);TrC P w x.1) a
abbrev Ph(P:Φ)(w:AU)(l:List Tr)(xs:Θ):Prop:=JD (l.map (TrC P w)) xs
abbrev SlC(P:Φ)(w:AU)(l:List Tr)(v:AW):Prop:=SlP P w (l.map (TrC P w)) v
abbrev Bbg(P:Φ)(w:AU)(a:List (List Tr))(vs:Θ):Prop:=G4 P w (a.map λl=>l.map (TrC P w)) vs
def Z4(P:Φ)(w:AU)(i:ζ)(r:List (List Tr))(cs:Θ):TrC P w ⟨i,r⟩ cs↔∃a,cs=i.map (Value.int .i64)++a/\Bbg P w r a:=by
 have e:(r.attach.map λl=>l.1.attach.map λx=>TrC P w x.1)=r.map λl=>l.map (TrC P w):=by simp only[List.attach_map_val]
 rw[TrC.eq_1];show(∃a,cs=_/\G4 P w (r.attach.map λl=>l.1.attach.map λx=>TrC P w x.1) a)↔_;rw[e]
def Kp(P Q:Φ)(w w':AU):Prop:=w.heap.size<=w'.heap.size/\∀b,P b->b<w.heap.size->Q b/\∀o,w'.cell? (AK b o)=w.cell? (AK b o)
theorem JD.imp{f g:Tr->Θ->Prop}:∀(l:List Tr),(∀t∈l,∀c,f t c->g t c)->∀xs,JD (l.map f) xs->JD (l.map g) xs
 |[],_,_,h=>h
 |t::l,h,_,⟨c,r,a,b,d⟩=>⟨c,r,a,h t Av c b,JD.imp l (λt j=>h t (Ax j)) r d⟩
section
variable {c:Θ}{k:Nat}
variable {P Q : Nat -> Prop}{w w' : AU}
def SlP.kp(q:Kp P Q w w'){f g:Tr->Θ->Prop}{l:List Tr}(h:∀t∈l,∀c,f t c->g t c){v:AW}(I:SlP P w (l.map f) v):SlP Q w' (l.map g) v:=by obtain⟨a,c,rfl,A,C,G⟩:=I;refine⟨a,c,BU,by simpa using A,C,λD=>?_⟩;have⟨b,o,xs,E,s,d,z,F⟩:=G (by simpa using D);exact⟨b,o,xs,E,(q.2 b s d).1,DO d q.1,JD.imp l h xs z,λj u H=>((q.2 b s d).2 _).tr (F j u H)⟩
theorem G4.kp(d:Kp P Q w w'){f g:Tr->Θ->Prop}:∀(a:List (List Tr)),(∀l∈a,∀t∈l,∀c,f t c->g t c)->∀b,G4 P w (a.map λl=>l.map f) b->G4 Q w' (a.map λl=>l.map g) b
 |[],_,_,h=>h
 |l::a,h,_,⟨v,r,j,p,q⟩=>⟨v,r,j,p.kp d (h l Av),G4.kp d a (λl s=>h l (Ax s)) r q⟩
def TrC.kp(g:Kp P Q w w'):∀(t:Tr)(cs:Θ),TrC P w t cs->TrC Q w' t cs:=by
 intro t;induction t using Tr.ind with
 |h i r b=>intro cs h;rw[Z4]at h⊢;obtain⟨a,d,f⟩:=h;exact⟨a,d,G4.kp g r b a f⟩
def Ph.kp(a:Kp P Q w w'){l:List Tr}{xs:Θ}(h:Ph P w l xs):Ph Q w' l xs:=JD.imp l (λt _=>TrC.kp a t) xs h
theorem Ph.app:∀{l m:List Tr}{xs ys:Θ},Ph P w l xs->Ph P w m ys->Ph P w (l++m) (xs++ys)
 |[],_,_,_,h,k=>by cases h;exact k
 |_::_,_,_,_,⟨c,r,a,b,d⟩,k=>⟨c,r++_,by rw[a,EJ],b,Ph.app d k⟩
theorem Ph.O{t:Tr}:Ph P w [t] c↔TrC P w t c:=
 ⟨λ⟨f,r,a,b,d⟩=>by cases d;rwa[a,EZ],λh=>⟨c,[],(EZ _).symm,h,rfl⟩⟩
theorem G4.len:∀{d:List (List (Θ->Prop))}{b:Θ},G4 P w d b->b.length=d.length/\∀u∈b,u.oneCell'=true
 |[],_,h=>by cases h;simp
 |ps::d,_,⟨v,r,g,⟨a,c,f,_⟩,j⟩=>by
  subst g f;have⟨q,p⟩:=G4.len j;exact⟨by simp[q],BA.2 ⟨rfl,p⟩⟩
def Tr.sz(t:Tr):Nat:=t.ints.length+t.rows.length
theorem TrC.len{t:Tr}(h:TrC P w t c):c.length=t.sz/\∀u∈c,u.oneCell'=true:=by
 obtain⟨i,r⟩:=t;obtain⟨f,rfl,b⟩:=(Z4 _ _ _ _ _).1 h;have⟨d,a⟩:=G4.len b;refine⟨by simp[Tr.sz,d],λu hu=>?_⟩;rcases BI.1 hu with hu|hu
 .obtain⟨x,_,rfl⟩:=BM.1 hu;rfl
 exact a u hu
theorem Ph.len:∀{l:List Tr}{xs:Θ},Ph P w l xs->(∀t∈l,t.sz=k)->xs.length=l.length*k/\∀u∈xs,u.oneCell'=true
 |[],_,h,_=>by cases h;simp
 |t::l,_,⟨c,r,d,f,g⟩,b=>by
  subst d;have⟨a,p⟩:=f.len;have⟨j,s⟩:=Ph.len g λt q=>b t (Ax q)
  rw[b t Av]at a;exact⟨by rw[DV,a,j,DT,JA,Nat.add_comm],λu hu=>(BI.1 hu).elim (p u) (s u)⟩
theorem Ph.get:∀{l:List Tr}{xs:Θ},Ph P w l xs->(∀t∈l,t.sz=k)->∀(i:Nat)(hi:i<l.length),∃c,TrC P w l[i] c/\∀j u,c[j]?=some u->xs[i*k+j]?=some u
 | t::l,_,⟨c,r,b,f,q⟩,g,0,_=>⟨c,f,λj u a=>by
  rw[b,G0,EF,LR (BO.1 a).1];exact a⟩
 |t::l,_,⟨c,r,b,f,q⟩,g,i+1,hi=>by
  have⟨d,z,s⟩:=Ph.get q (λt A=>g t (Ax A)) i yEh;refine⟨d,z,λj u a=>?_⟩;have:=f.len.1
  rw[g t Av]at this;rw[b,IG (by rw[this,JA];omega),this,JA,show i*k+k+j - k=i*k+j by omega];exact s j u a
end
def Sv(w:AU)(bs:Γ)(ts:Ao):Prop:=(∀b∈bs,b<w.heap.size)/\∀x∈ts,Ph (λb=>b∉bs) w x.1 x.2
def sl(l:List Tr):Tr:=⟨[],[l]⟩
def I9{P:Φ}{w:AU}{l:List Tr}{v:AW}:Ph P w [sl l] [v]↔SlC P w l v:=by
 rw[Ph.O,sl,Z4];constructor
 .rintro⟨j,a,g,r,d,f,b⟩;cases b;rw[d]at a;cases a;exact f
 exact λh=>⟨[v],rfl,v,[],rfl,h,rfl⟩
section
variable {n o:Nat}{r:ε}{α:Type}
variable {w w' : AU}{bs cs : Γ}{ts us : Ao}{l m : List Tr}{t : Tr}{xs ys c : Θ}{v u : AW}{k e B t' : Nat}
theorem Sv.grow(h:Sv w bs ts)(hg:w.grownBy w' r)(hr:∀b,r=some b->b∈bs):Sv w' bs ts:=
 ⟨λb a=>DO (h.1 b a) hg.size,λx d=>(h.2 x d).kp ⟨hg.size,λb a f=>⟨a,λ_o=>BE (hg.block b f λe=>a (hr b e.symm))⟩⟩⟩
theorem Sv.bel(h:Sv w bs ts)(a:AO w w'):Sv w' bs ts:=h.grow (grown_below a none) (λb e=>by cases e)
def Sv.alloc(h:Sv w bs ts)(o:Obj):Sv (w.alloc o) bs ts:=h.bel (Aa w o)
theorem Sv.set{b:Nat}{x:AW}(h:Sv w bs ts)(a:b∈bs):Sv (w.setCell (AK b o) x) bs ts:=h.grow (Ho w b o x) (λc e=>by cases e;exact a)
def Sv.drew(h:Sv w bs ts):Sv w.drew bs ts:=h.bel ((BP _ _).drew)
def Sv.sub(h:Sv w bs ts)(d:∀b∈cs,b∈bs)(g:∀x∈us,x∈ts):Sv w cs us:=
 ⟨λb a=>h.1 b (d b a),λx a=>(h.2 x (g x a)).kp ⟨DN _,λb a _=>⟨λf=>a (d b f),λ_=>rfl⟩⟩⟩
theorem Sv.moreG(h:Sv w bs ts)(hg:w.grownBy w' r)(hr:∀b,r=some b->b∈bs)(z:w.heap.size<=n)(j:n<w'.heap.size):Sv w' (n::bs) ts:=by
 have⟨f,s⟩:=h.grow hg hr;have p:=h.2;refine⟨BA.2 ⟨j,f⟩,λx g=>(p x g).kp ⟨hg.size,λb d q=>⟨λa=>?_,λo=>BE (hg.block b q λe=>d (hr b e.symm))⟩⟩⟩;rcases BD.1 a with rfl|a
 .omega
 exact d a
theorem Sv.box(h:Sv w bs ts)(o:Obj):Sv (w.alloc o) (w.heap.size::bs) ts:=h.moreG (grown_below (Aa w o) none) (λb e=>by cases e) (DN _) BU
def Sv.der{y:List Tr × Θ}(h:Sv w bs ts)(a:∀P,(∀x∈ts,Ph P w x.1 x.2)->Ph P w y.1 y.2):Sv w bs (y::ts):=⟨h.1,BA.2 ⟨a _ h.2,h.2⟩⟩
def Sv.cat(h:Sv w bs ts)(h1:(l,xs)∈ts)(b:(m,ys)∈ts):Sv w bs ((l++m,xs++ys)::ts):=h.der (y:=(l++m,xs++ys)) λ_P a=>(a _ h1).app (a _ b)
def Sv.nil(h:Sv w bs ts):Sv w bs (([],[])::ts):=h.der (y:=([],[])) λ_ _=>rfl
def Sv.snil(h:Sv w bs ts):Sv w bs (([sl []],[AG])::ts):=h.der (y:=([sl []],_)) λ_ _=>I9.2 ⟨none,0,rfl,DN _,λ_=>rfl,λh=>absurd rfl h⟩
def Sv.fst(h:Sv w bs ts)(h1:(t::l,xs)∈ts):∃c r,xs=c++r/\Sv w bs (([t],c)::(l,r)::ts):=by have⟨c,r,b,d,a⟩:=h.2 _ h1;exact⟨c,r,b,h.1,BA.2 ⟨Ph.O.2 d,BA.2 ⟨a,h.2⟩⟩⟩
def Sv.len(h:Sv w bs ts)(h1:(l,xs)∈ts)(a:∀t∈l,t.sz=k):xs.length=l.length*k/\∀u∈xs,u.oneCell'=true:=(h.2 _ h1).len a
theorem Sv.ice1{b:Nat}(h:Sv w (b::bs) ts)(j:b∉bs)(g:(l,xs)∈ts)(d:FY w b o xs)(f:l.length<=n):Sv w bs (([sl l],[AE (some (AK b o)) l.length n])::ts):=
 have a:=h.sub (cs:=bs) (λ_ h=>.tail _ h) (λ_ h=>h)
 ⟨a.1,BA.2 ⟨I9.2 ⟨_,n,by rw[Db],xBc,(λe=>by cases e),λ_=>⟨b,o,xs,rfl,j,h.1 b Av,a.2 _ g,d⟩⟩,a.2⟩⟩
theorem Sv.ice2(h:Sv w (ob v++bs) ts)(d:(l,xs)∈ts)(hrow:w.ownsRow B e k v l.length xs)(q:∀b,v.ownBlock=some b->b∉bs):Sv w bs (([sl l],[v])::ts):=by
 rcases hrow.2 with⟨rfl,s⟩|⟨g,n,cur,rfl,A,z,a,_⟩
 .obtain rfl:=BL.1 s;exact(h.sub (λb f=>EP _ f) λ_ h=>h).snil
 refine Sv.ice1 (o:=0) (h.sub (λ_ h=>h) λ_ h=>h) (q g rfl) d (λj u hj=>?_) a;rwa[EF,hrow.cellAt j yFc]
def Sv.ice(h:Sv w (ob v++bs) ts)(a:(l,xs)∈ts)(d:w.ownsRow B e k v l.length xs)(g:∀b∈bs,b<B):Sv w bs (([sl l],[v])::ts):=h.ice2 a d λb f a=>by have:=g b a;have:=(d.lt b f).1;omega
theorem Sv.lit(h:Sv w bs ts)(d:(l,xs)∈ts)(ys:δ)(e:AZ)(g:ys.toList=xs)(a:n=w.heap.size):Sv (w.alloc (.cells ys e)) bs (([sl l],[AE (some (AK n 0)) l.length l.length])::ts):=by subst a;refine(h.box (.cells ys e)).ice1 (λb=>K4 _ (h.1 _ b)) d (λj u f=>?_) (DN _);subst g;have:=Ub w ys.toList e _ rfl j u f;rwa [KX]at this
def JQ(w:AU)(u:AW)(n:Nat)(ys:Θ):Prop:=∃a c,u=AE a n c/\((n=0/\ys=[])\/∃b o,a=some (AK b o)/\b<w.heap.size/\FY w b o ys)
theorem Sv.src(h:Sv w bs ts)(h1:([sl l],[u])∈ts):∃ys,JQ w u l.length ys/\Sv w bs ((l,ys)::ts):=by
 obtain⟨a,c,rfl,_,_,g⟩:=I9.1 (h.2 _ h1);rw[Db] at*;by_cases d:l=[]
 .subst d;exact⟨[],⟨a,c,rfl,.inl ⟨rfl,rfl⟩⟩,h.nil⟩
 obtain⟨b,o,ys,rfl,_,j,f,p⟩:=g xBt;exact⟨ys,⟨_,c,rfl,.inr ⟨b,o,rfl,j,p⟩⟩,h.1,BA.2 ⟨f,h.2⟩⟩
theorem fY(hrow:w.ownsRow B e k v l.length xs):JQ w v l.length xs:=by
 rcases hrow.2 with⟨rfl,a⟩|⟨g,n,cur,rfl,f,b,d,_⟩
 .exact⟨none,0,by rw[a],.inl ⟨a,BL.1 (by rw[hrow.1,a,G0])⟩⟩
 refine⟨_,n,rfl,.inr ⟨g,0,rfl,(hrow.lt g rfl).2,λj u hj=>?_⟩⟩;rwa[EF,hrow.cellAt j yFc]
theorem oS(w:AU)(c:Θ)(e:AZ):JQ (w.alloc (.cells c.toArray e)) (AE (some (AL w 0)) 1 1) 1 c:=⟨_,_,rfl,.inr ⟨_,0,rfl,BU,λj u a=>by have:=Ub w c e _ rfl j u a;rwa [KX]at this⟩⟩
theorem Sv.app(J:AZ)(S:Kd k t' e)(h:Sv w (ob v++bs) ts)(O:(l,xs)∈ts)(F:(m,ys)∈ts)(hs:∀t∈m,t.sz=k)(hu:JQ w u m.length ys)(z:w.ownsRow B e k v l.length xs)(X:B<=w.heap.size)(N:l.length+m.length<=2000000):
  ∃s w',(Builtin.append_ #[t',t'] J #[v,u]).run prog w=.ok s w'/\w'.ownsRow B e k s (l++m).length (xs++ys)/\Sv w' (ob s++bs) ((l++m,xs++ys)::ts)/\w.grownBy w' v.ownBlock/\∀b,b<w.heap.size->v.ownBlock≠some b->s.ownBlock≠some b:=by
 obtain⟨hk,ac,i,ae,y,K,hi,hz,V,ab,Z,Y⟩:=S;obtain⟨a,c,rfl,hu⟩:=hu;have E:=h.cat O F;have⟨I,M⟩:=h.len F hs;by_cases G:m.length=0
 .obtain rfl:=BL.1 G;have R:ys=[]:=BL.1 (by rw[I];simp);subst R;have aa:∃A D,v=AE A l.length D/\l.length<=D:=by rcases z.2 with⟨rfl,q⟩|⟨g,n,cur,rfl,_,_,q,_⟩;{exact⟨none,0,by rw[q],by rw[q];exact DN _⟩};exact⟨_,n,rfl,q⟩
  obtain⟨A,D,rfl,ad⟩:=aa;refine⟨_,w,?_,by simpa using z,E,Le _ _,λb _ h=>h⟩;cases a<;>cases A<;>simp[Builtin.append_,run_underlying K,sizeOf,typeInfo,hi,Builtin.lenOf,Builtin.firstCells,loadCells,loadCellsFrom,go_sem,ad]
 rcases hu with hu|⟨b,o,rfl,-,U⟩
 .exact absurd hu.1 G
 have d:(l.length+m.length)*y<=2000000*1000:=Nat.mul_le_mul N Z;obtain⟨s,w',L,q,C,-,f⟩:=run_append_own_at (P:=prog) w B t' J e i ae k y K hi hz V ab Y ac v l.length xs z (AK b o) m.length c ys I (λj u hj=>by rw[KX];exact U j u hj) M CH BS X;have H:∀b,v.b=some b->b∈ob v++bs:=λb d=>KA _ (by simp[ob,d]);refine⟨s,w',L,by rwa[DV],?_,C,λb d T e=>?_⟩
 .rcases f with f|f;{have:=E.grow C H;rw[ob,<-f]at this;exact this};refine(E.moreG C H (DN _) (q.lt _ f).2).sub (λb d=>?_) λ_ h=>h;rw[ob,f]at d;rcases BI.1 d with d|d;{rw[Option.toList_some,gZ]at d;rw[d];exact .head _};exact .tail _ (EP _ d)
 rcases f with f|f
 .exact T (f ▸ e)
 rw[f]at e;simp only[FC]at e;omega
theorem Jw(h:w.ownsRow B e k v n xs):∃a c,v=AE a n c/\n<=c:=by
 rcases h.2 with⟨rfl,b⟩|⟨g,c,cur,rfl,_,_,d,_⟩
 .exact⟨none,0,by rw[b],by rw[b];exact DN _⟩
 exact⟨_,c,rfl,d⟩
theorem Sv.appM{f:α->Tr}{L M:List α}(p:AZ)(G:Kd k t' e)(h:Sv w (ob v++bs) ts)(A:(L.map f,xs)∈ts)(F:(M.map f,ys)∈ts)(D:∀x,(f x).sz=k)(hu:JQ w u (M.map f).length ys)(C:w.ownsRow B e k v L.length xs)(H:B<=w.heap.size)(z:L.length+M.length<=2000000):
  ∃g w',(Builtin.append_ #[t',t'] p #[v,u]).run prog w=.ok g w'/\∃a n,g=.slice a (L++M).length n/\w'.ownsRow B e k (.slice a (L++M).length n) (L++M).length (xs++ys)/\Sv w' (ob (.slice a (L++M).length n)++bs) (((L++M).map f,xs++ys)::ts)/\w.grownBy w' v.ownBlock/\∀b,b<w.heap.size->v.ownBlock≠some b->(Value.slice a (L++M).length n).ownBlock≠some b:=by have⟨g,w',s,d,j,q,E⟩:=Sv.app (B:=B) p G h A F (by intro t I;obtain⟨x,_,rfl⟩:=BM.1 I;exact D x) hu (by simpa using C) H (by simpa using z);rw[<-D4,Db]at d;rw[<-D4]at j;obtain⟨a,n,rfl,_⟩:=Jw d;exact⟨_,w',s,a,n,rfl,d,j,q,E⟩
theorem Sv.pushM{f:α->Tr}{L:List α}{x:α}(g:AZ)(F:Kd k t' e)(h:Sv w (ob v++bs) ts)(z:(L.map f,xs)∈ts)(E:([f x],c)∈ts)(C:∀x,(f x).sz=k)(A:w.ownsRow B e k v L.length xs)(K:B<=w.heap.size)(I:L.length<=1900000):
  ∃d w',(Builtin.append_ #[t',t'] g #[v,AE (some (AL w 0)) 1 1]).run prog (w.alloc (.cells c.toArray e))=.ok d w'/\∃a n,d=.slice a (L++[x]).length n/\w'.ownsRow B e k (.slice a (L++[x]).length n) (L++[x]).length (xs++c)/\Sv w' (ob (.slice a (L++[x]).length n)++bs) (((L++[x]).map f,xs++c)::ts)/\w.grownBy w' v.ownBlock/\∀b,b<w.heap.size->v.ownBlock≠some b->(Value.slice a (L++[x]).length n).ownBlock≠some b:=by have⟨d,w',q,a,n,s,G,j,D,H⟩:=Sv.appM (B:=B) (M:=[x]) g F (h.alloc (.cells c.toArray e)) z E C (oS w c e) (A.alloc _) yBb B1;exact⟨d,w',q,a,n,s,G,j,Iy (grown_below (Aa _ _) _) D,λb J=>H b yBb⟩
end
open Stil
def M8(d:Stil.DR):Tr:=⟨[d.kind,d.n,d.p],[]⟩
abbrev Ih(ds:Ψ):List Tr:=ds.map M8
def Qx(e:Stil.Elem):Tr:=⟨[e.op],[Ih e.args]⟩
def G8:Stil.DK->Tr
 |⟨k,e,kids⟩=>⟨[k,e.op],[Ih e.args,kids.map G8]⟩
abbrev Fh(l:Ξ):List Tr:=l.map G8
def J9:Stil.DL->Tr
 |⟨n,a,kids⟩=>⟨[n.kind,n.O.op],[Ih n.O.args,Fh n.K,a.map Qx,kids.map J9]⟩
abbrev I8(l:Ek):List Tr:=l.map J9
abbrev Hy(l:Ω):List Tr:=l.map Qx
def Ou(i:Stil.Ar):Tr:=⟨[i.code,i.O.op],[Ih i.O.args]⟩
abbrev Cc(l:AP):List Tr:=l.map Ou
def eC(n:Stil.DK):G8 n=⟨[n.kind,n.O.op],[Ih n.O.args,Fh n.K]⟩:=by obtain⟨_,_,_⟩:=n;rw[G8]
def eD(n:Stil.DL):J9 n=⟨[n.N.kind,n.N.O.op],[Ih n.N.O.args,Fh n.N.K,Hy n.C,I8 n.K]⟩:=by obtain⟨_,_,_⟩:=n;rw[J9]
def Qz(n:Stil.DK):(G8 n).sz=4:=by rw[eC];rfl
def Un(n:Stil.DL):(J9 n).sz=6:=by rw[eD];rfl
def US{α:Type}{f:α->Tr}{k:Nat}(h:∀x,(f x).sz=k)(l:List α):∀t∈l.map f,t.sz=k:=λt a=>by obtain⟨x,_,rfl⟩:=BM.1 a;exact h x
section
variable {v:AW}
variable {P : Nat -> Prop}{w : AU}{c : Θ}
theorem Rm{e:Stil.Elem}:TrC P w (Qx e) c↔∃v,c=[AB e.op,v]/\SlC P w (Ih e.args) v:=by rw[Qx,Z4];exact⟨λ⟨_,a,v,_,f,b,d⟩=>by cases d;cases f;exact⟨v,a,b⟩,λ⟨v,a,b⟩=>⟨[v],a,v,[],rfl,b,rfl⟩⟩
theorem Qo{i:Stil.Ar}:TrC P w (Ou i) c↔∃v,c=[AB i.code,AB i.O.op,v]/\SlC P w (Ih i.O.args) v:=by rw[Ou,Z4];exact⟨λ⟨_,a,v,_,f,b,d⟩=>by cases d;cases f;exact⟨v,a,b⟩,λ⟨v,a,b⟩=>⟨[v],a,v,[],rfl,b,rfl⟩⟩
theorem K9{n:Stil.DK}:TrC P w (G8 n) c↔∃v u,c=[AB n.kind,AB n.O.op,v,u]/\SlC P w (Ih n.O.args) v/\SlC P w (Fh n.K) u:=by rw[eC,Z4];exact⟨λ⟨_,a,v,_,g,b,u,_,f,d,h⟩=>by cases h;cases f;cases g;exact⟨v,u,a,b,d⟩,λ⟨v,u,a,b,d⟩=>⟨[v,u],a,v,[u],rfl,b,u,[],rfl,d,rfl⟩⟩
theorem MF{n:Stil.DL}:TrC P w (J9 n) c↔∃v u x y,c=[AB n.N.kind,AB n.N.O.op,v,u,x,y]/\SlC P w (Ih n.N.O.args) v/\SlC P w (Fh n.N.K) u/\SlC P w (Hy n.C) x/\SlC P w (I8 n.K) y:=by rw[eD,Z4];exact⟨λ⟨_,a,v,_,p,d,u,_,j,f,x,_,s,g,y,_,q,b,h⟩=>by cases h;cases q;cases s;cases j;cases p;exact⟨v,u,x,y,a,d,f,g,b⟩,λ⟨v,u,x,y,a,d,f,g,b⟩=>⟨[v,u,x,y],a,v,_,rfl,d,u,_,rfl,f,x,_,rfl,g,y,[],rfl,b,rfl⟩⟩
def SlP.slice{l:List Tr}(h:SlC P w l v):∃a c,v=AE a l.length c/\l.length<=c/\(a=none->c=0):=by obtain⟨a,c,b,d,f,_⟩:=h;rw[Db]at b d;exact⟨a,c,b,d,f⟩
theorem SlP.read{α:Type}{d:α->Tr}{k:Nat}{A:Nat->Nat->α->Prop}{l:List α}(h:SlC P w (l.map d) v)(G:∀x,(d x).sz=k)(J:∀x∈l,∀b o c,TrC P w (d x) c->FY w b o c->A b o x):∃a cap,v=AE a l.length cap/\F4 a l.length cap/\∀i(h:i<l.length),∃b o,a=some (AK b o)/\P b/\b<w.heap.size/\A b (o+i*k) l[i]:=by obtain⟨a,n,f,g,E,F⟩:=h;rw[Db,Db]at f g;refine⟨a,n,f,⟨g,E⟩,λi hi=>?_⟩;have⟨b,o,xs,z,D,s,q,C⟩:=F (λe=>by rw[List.map_eq_nil_iff,List.map_eq_nil_iff]at e;subst e;cases hi);have⟨c,p,I⟩:=Ph.get q (US G l) i xBc;rw[Fo]at p;exact⟨b,o,z,D,s,J _ (DY hi) _ _ c p λj u H=>by rw[Nat.add_assoc];exact C _ _ (I j u H)⟩
theorem Py{ds:Ψ}(h:SlC P w (Ih ds) v):Jk P w v ds:=h.read (λ_=>rfl) λd _ b o c h a=>by
 rw[M8,Z4]at h;obtain⟨_,rfl,rfl⟩:=h;exact⟨a 0 _ rfl,a 1 _ rfl,a 2 _ rfl⟩
theorem Awf{es:Ω}(h:SlC P w (Hy es) v):P7 P w v es:=h.read (λ_=>rfl) λd _ b o c h a=>by
 obtain⟨v,rfl,f⟩:=Rm.1 h;exact⟨a 0 _ rfl,v,a 1 _ rfl,Py f⟩
theorem ZI{es:AP}(h:SlC P w (Cc es) v):Eo w v es:=by
 have⟨a,n,p,_,f⟩:=h.read (A:=Z7 w) (k:=3) (λ_=>rfl) λd _ b o c h g=>by obtain⟨v,rfl,f⟩:=Qo.1 h;exact⟨g 0 _ rfl,g 1 _ rfl,v,g 2 _ rfl,(Py f).at⟩
 exact⟨a,n,p,λi hi=>let ⟨b,o,q,_,j⟩:=f i hi;⟨b,o,q,j⟩⟩
theorem mS:∀(n:Stil.DK)(b o:Nat)(c:Θ),TrC P w (G8 n) c->FY w b o c->Ry P w b o n:=by
 intro n;induction n using Gp with
 |h k e kids d=>intro b o c h a;obtain⟨v,u,rfl,f,g⟩:=K9.1 h;exact(NY _ _ _ _ _).2 ⟨a 0 _ rfl,a 1 _ rfl,⟨v,a 2 _ rfl,Py f⟩,u,a 3 _ rfl,g.read Qz d⟩
def b9{l:Ξ}(h:SlC P w (Fh l) v):Z5 P w v l:=h.read Qz λn _=>mS n
theorem nK:∀(n:Stil.DL)(b o:Nat)(c:Θ),TrC P w (J9 n) c->FY w b o c->Wn P w b o n:=by
 intro n;induction n using Fz with
 |h n q kids d=>intro b o c h a;obtain⟨v,u,x,y,rfl,f,j,g,p⟩:=MF.1 h;exact(dc _ _ _ _ _).2 ⟨(NY _ _ _ _ _).2 ⟨a 0 _ rfl,a 1 _ rfl,⟨v,a 2 _ rfl,Py f⟩,u,a 3 _ rfl,b9 j⟩,⟨x,a 4 _ rfl,Awf g⟩,y,a 5 _ rfl,p.read Un d⟩
theorem jS{l:Ek}(h:SlC P w (I8 l) v):Ul P w v l:=h.read Un λn _=>nK n
end
section
variable {w : AU}{bs : Γ}{ts : Ao}{i op : Int}{v u x y : AW}{ds : Ψ}{ns : Ξ}{es : Ω}{ms : Ek}{c : Θ}
theorem Sv.mkE(h:Sv w bs ts)(h1:([sl (Ih ds)],[v])∈ts):Sv w bs (([Qx ⟨op,ds⟩],[AB op,v])::ts):=h.der (y:=([_],_)) λ_ a=>Ph.O.2 (Rm.2 ⟨v,rfl,I9.1 (a _ h1)⟩)
theorem Sv.mkI(h:Sv w bs ts)(h1:([sl (Ih ds)],[v])∈ts):Sv w bs (([Ou ⟨i,⟨op,ds⟩⟩],[AB i,AB op,v])::ts):=h.der (y:=([_],_)) λ_ a=>Ph.O.2 (Qo.2 ⟨v,rfl,I9.1 (a _ h1)⟩)
theorem Sv.mkN(h:Sv w bs ts)(h1:([sl (Ih ds)],[v])∈ts)(b:([sl (Fh ns)],[u])∈ts):Sv w bs (([G8 ⟨i,⟨op,ds⟩,ns⟩],[AB i,AB op,v,u])::ts):=h.der (y:=([_],_)) λ_ a=>Ph.O.2 (K9.2 ⟨v,u,rfl,I9.1 (a _ h1),I9.1 (a _ b)⟩)
def Sv.mkA(h:Sv w bs ts)(h1:([sl (Ih ds)],[v])∈ts)(f:([sl (Fh ns)],[u])∈ts)(b:([sl (Hy es)],[x])∈ts)(d:([sl (I8 ms)],[y])∈ts):Sv w bs (([J9 ⟨⟨i,⟨op,ds⟩,ns⟩,es,ms⟩],[AB i,AB op,v,u,x,y])::ts):=h.der (y:=([_],_)) λ_ a=>Ph.O.2 (MF.2 ⟨v,u,x,y,rfl,I9.1 (a _ h1),I9.1 (a _ f),I9.1 (a _ b),I9.1 (a _ d)⟩)
theorem Sv.opN{n:Stil.DK}(h:Sv w bs ts)(h1:([G8 n],c)∈ts):∃a p b q,c=A3 n a p b q/\Sv w bs (([sl (Ih n.O.args)],[AE a n.O.args.length p])::([sl (Fh n.K)],[AE b n.K.length q])::ts):=by have⟨v,u,g,f,d⟩:=K9.1 (Ph.O.1 (h.2 _ h1));obtain⟨a,p,rfl,_⟩:=f.slice;obtain⟨b,q,rfl,_⟩:=d.slice;simp only[Db]at g f d;exact⟨a,p,b,q,g,h.1,BA.2 ⟨I9.2 f,BA.2 ⟨I9.2 d,h.2⟩⟩⟩
theorem Sv.opA{n:Stil.DL}(h:Sv w bs ts)(h1:([J9 n],c)∈ts):∃a p b q d r f s,c=A6 n a p b q d r f s/\Sv w bs (([sl (Ih n.N.O.args)],[AE a n.N.O.args.length p])::([sl (Fh n.N.K)],[AE b n.N.K.length q])::([sl (Hy n.C)],[AE d n.C.length r])::([sl (I8 n.K)],[AE f n.K.length s])::ts):=by have⟨v,u,x,y,C,j,z,g,A⟩:=MF.1 (Ph.O.1 (h.2 _ h1));obtain⟨a,p,rfl,_⟩:=j.slice;obtain⟨b,q,rfl,_⟩:=z.slice;obtain⟨d,r,rfl,_⟩:=g.slice;obtain⟨f,s,rfl,_⟩:=A.slice;simp only[Db]at C j z g A;exact⟨a,p,b,q,d,r,f,s,C,h.1,BA.2 ⟨I9.2 j,BA.2 ⟨I9.2 z,BA.2 ⟨I9.2 g,BA.2 ⟨I9.2 A,h.2⟩⟩⟩⟩⟩
def Sv.devs(h:Sv w bs ts)(h1:([sl (Ih ds)],[v])∈ts):Aq w v ds:=(Py (I9.1 (h.2 _ h1))).at
def Sv.nets(h:Sv w bs ts)(h1:([sl (Fh ns)],[v])∈ts):Eg w v ns:=(b9 (I9.1 (h.2 _ h1))).at
def Sv.arms(h:Sv w bs ts)(h1:([sl (I8 ms)],[v])∈ts):Ul (λ_=>True) w v ms:=(jS (I9.1 (h.2 _ h1))).mo λ_ _ _=>trivial
def Sv.insts{is:AP}(h:Sv w bs ts)(h1:([sl (Cc is)],[v])∈ts):Eo w v is:=ZI (I9.1 (h.2 _ h1))
theorem kd3:Kd 3 58 153:=LL (y:=24) (z:=.agg #[AB 0,AB 0,AB 0]) BX underlying58 BW BX rfl
theorem kdI:Kd 3 23 73:=LL (y:=40) (z:=.agg #[AB 0,AB 0,AG]) BX underlying23 BW BX rfl
theorem RP{P:Φ}:∀ds:Ψ,Ph P w (Ih ds) (Di ds)
 |[]=>rfl
 |_d::ds=>⟨_,_,rfl,(Z4 _ _ _ _ _).2 ⟨[],rfl,rfl⟩,RP ds⟩
theorem Sv.srcDevs(h:Sv w bs ts)(hd:Aq w v ds):JQ w v (Ih ds).length (Di ds)/\Sv w bs ((Ih ds,Di ds)::ts):=by
 refine⟨?_,h.der (y:=(_,_)) λP _=>RP ds⟩;obtain⟨a,cap,rfl,d⟩:=hd;refine⟨a,cap,by rw[Db],?_⟩;by_cases s:ds.length=0
 .obtain rfl:=BL.1 s;exact .inl ⟨rfl,rfl⟩
 obtain⟨b,o,rfl,q,_⟩:=d 0 BS
 exact .inr ⟨b,o,rfl,q,λj u z=>by
  have:=VQ (b:=b) (o:=o) (λi hi=>by
   have⟨C,A,f,_,g⟩:=d i hi;cases f
   exact g) j u z
  rwa [KX] at this⟩
theorem Sv.copyDevs{N B:Nat}(s:AZ)(h:Sv w (N::bs) ts)(hd:Aq w u ds)(z:w.ownsRow B 153 3 (AE (some (AK N 0)) 0 0) 0 [])(F:∀b∈bs,b<B)(G:B<=w.heap.size)(hl:ds.length<=1900000):
  ∃d w',(Builtin.append_ #[58,58] s #[AE (some (AK N 0)) 0 0,u]).run prog w=.ok d w'/\∃a n,d=AE a ds.length n/\Sv w' bs (([sl (Ih ds)],[AE a ds.length n])::ts)/\w.grownBy w' (some N):=by have⟨D,A⟩:=h.srcDevs hd;obtain⟨d,w',C,a,n,j,q,g,E,-⟩:=Sv.appM (f:=M8) (L:=[]) (v:=AE (some (AK N 0)) 0 0) (bs:=bs) s kd3 A.nil Av (Ax Av) (λ_=>rfl) D z G B1;rw[ED]at j q g;exact⟨d,w',C,a,n,j,(g.ice Av xBc F).sub (λ_ h=>h) B8,E⟩
end
variable {W:AU}{bs:Γ}{i o1 o2 o3 o4:Nat}{r:ε}{v v1 v2 v3 v4 v5 x1 x2 x3 x4:AW}
def Af{p:Prop}(h:p):Hid p:=h
def Gx{w:AU}{b:Nat}(h:AO w W)(a:b<w.heap.size):W.cell? (AK b i)=w.cell? (AK b i):=h.cell (p:=(AK b i)) a
def qV{w:AU}{b:Nat}(h:AO w W)(a:b<w.heap.size):W.frozen? (AK b i)=w.frozen? (AK b i):=h.frozen (p:=(AK b i)) a
def Zi{w:AU}{b:Nat}(h:AO w W)(a:b<w.heap.size):b<W.heap.size:=DO a h.size
def C3{b:Nat}(h:W.cell? (AK b i)=some v:=by(refine(Gx (by with_reducible assumption) CV).tr ?_;exact CJ))(k:W.frozen? (AK b i)=false:=by(refine(qV (by with_reducible assumption) CV).tr ?_;exact CS)):QbC W b i v:=⟨h,k⟩
def qcN{b:Nat}(h:W.cell? (AK b i)=some v:=by exact CJ)(k:W.frozen? (AK b i)=false:=by exact CS):QbC W b i v:=⟨h,k⟩
def qN2{b:Nat}{v0:AW}(hz:b<W.heap.size:=by exact CV)(h0:QbC W b 0 v0:=by exact qcN)(h1:QbC W b 1 v1:=by exact qcN):EU W b v0 v1:=⟨hz,h0.1,h0.2,h1.1,h1.2⟩
def EU.gr{w:AU}{b:Nat}{v0:AW}(h:EU w b v0 v1)(hg:w.grownBy W r)(hr:r≠some b):EU W b v0 v1:=by obtain⟨a,p,q,j,g⟩:=h;have f:∀o,W.c (AK b o)=w.c (AK b o):=λo=>BE (hg.block b a λe=>hr e.symm);have d:∀o,W.f (AK b o)=w.f (AK b o):=λo=>World.frozen?_of_block (hg.block b a λe=>hr e.symm);exact⟨DO a hg.size,(f 0).tr p,(d 0).tr q,(f 1).tr j,(d 1).tr g⟩
theorem EU.bel{w:AU}{b:Nat}{v0:AW}(h:EU w b v0 v1)(a:AO w W):EU W b v0 v1:=h.gr (grown_below a none) (λe=>by cases e)
def qB4{b:Nat}{v0:AW}(hz:b<W.heap.size:=by(refine Zi (by with_reducible assumption) ?_;exact CV))(h0:QbC W b 0 v0:=by exact C3)(h1:QbC W b 1 v1:=by exact C3)(h2:QbC W b 2 v2:=by exact C3)(h3:QbC W b 3 v3:=by exact C3):Dm W b v0 v1 v2 v3:=⟨hz,h0.1,h0.2,h1.1,h1.2,h2.1,h2.2,h3.1,h3.2⟩
def qN4{b:Nat}{v0:AW}(hz:b<W.heap.size:=by exact CV)(h0:QbC W b 0 v0:=by exact qcN)(h1:QbC W b 1 v1:=by exact qcN)(h2:QbC W b 2 v2:=by exact qcN)(h3:QbC W b 3 v3:=by exact qcN):Dm W b v0 v1 v2 v3:=⟨hz,h0.1,h0.2,h1.1,h1.2,h2.1,h2.2,h3.1,h3.2⟩
def Dm.gr{w:AU}{b:Nat}{v0:AW}(h:Dm w b v0 v1 v2 v3)(hg:w.grownBy W r)(hr:r≠some b):Dm W b v0 v1 v2 v3:=by obtain⟨f,A,q,j,g,p,s,z,C⟩:=h;have d:∀o,W.c (AK b o)=w.c (AK b o):=λo=>BE (hg.block b f λe=>hr e.symm);have a:∀o,W.f (AK b o)=w.f (AK b o):=λo=>World.frozen?_of_block (hg.block b f λe=>hr e.symm);exact⟨DO f hg.size,(d 0).tr A,(a 0).tr q,(d 1).tr j,(a 1).tr g,(d 2).tr p,(a 2).tr s,(d 3).tr z,(a 3).tr C⟩
theorem Dm.bel{w:AU}{b:Nat}{v0:AW}(h:Dm w b v0 v1 v2 v3)(a:AO w W):Dm W b v0 v1 v2 v3:=h.gr (grown_below a none) (λe=>by cases e)
def qB6{b:Nat}{v0:AW}(hz:b<W.heap.size:=by(refine Zi (by with_reducible assumption) ?_;exact CV))(h0:QbC W b 0 v0:=by exact C3)(h1:QbC W b 1 v1:=by exact C3)(h2:QbC W b 2 v2:=by exact C3)(h3:QbC W b 3 v3:=by exact C3)(h4:QbC W b 4 v4:=by exact C3)(h5:QbC W b 5 v5:=by exact C3):EB W b v0 v1 v2 v3 v4 v5:=⟨hz,h0.1,h0.2,h1.1,h1.2,h2.1,h2.2,h3.1,h3.2,h4.1,h4.2,h5.1,h5.2⟩
def qN6{b:Nat}{v0:AW}(hz:b<W.heap.size:=by exact CV)(h0:QbC W b 0 v0:=by exact qcN)(h1:QbC W b 1 v1:=by exact qcN)(h2:QbC W b 2 v2:=by exact qcN)(h3:QbC W b 3 v3:=by exact qcN)(h4:QbC W b 4 v4:=by exact qcN)(h5:QbC W b 5 v5:=by exact qcN):EB W b v0 v1 v2 v3 v4 v5:=⟨hz,h0.1,h0.2,h1.1,h1.2,h2.1,h2.2,h3.1,h3.2,h4.1,h4.2,h5.1,h5.2⟩
def EB.gr{w:AU}{b:Nat}{v0:AW}(h:EB w b v0 v1 v2 v3 v4 v5)(hg:w.grownBy W r)(hr:r≠some b):EB W b v0 v1 v2 v3 v4 v5:=by obtain⟨f,F,C,p,g,q,D,E,G,j,s,A,z⟩:=h;have d:∀o,W.c (AK b o)=w.c (AK b o):=λo=>BE (hg.block b f λe=>hr e.symm);have a:∀o,W.f (AK b o)=w.f (AK b o):=λo=>World.frozen?_of_block (hg.block b f λe=>hr e.symm);exact⟨DO f hg.size,(d 0).tr F,(a 0).tr C,(d 1).tr p,(a 1).tr g,(d 2).tr q,(a 2).tr D,(d 3).tr E,(a 3).tr G,(d 4).tr j,(a 4).tr s,(d 5).tr A,(a 5).tr z⟩
theorem EB.bel{w:AU}{b:Nat}{v0:AW}(h:EB w b v0 v1 v2 v3 v4 v5)(a:AO w W):EB W b v0 v1 v2 v3 v4 v5:=h.gr (grown_below a none) (λe=>by cases e)
def Sv.set4{w:AU}{ts:Ao}{b:Nat}(h:Sv w bs ts)(a:b∈bs):Sv ((((w.setCell (AK b o1) x1).setCell (AK b o2) x2).setCell (AK b o3) x3).setCell (AK b o4) x4) bs ts:=(((h.set a).set a).set a).set a
def GZ(n:Stil.DK)(w:AU)(bs:Γ)(ts:Ao)(e:Ending)(w':AU):Prop:=∃a p b q,e=.returned (A0 n a p b q)/\Sv w' bs (([G8 n],A3 n a p b q)::ts)/\AO w w'
def GX{α:Type}(f:α->Tr)(k e:Nat)(L:List α)(w:AU)(bs:Γ)(ts:Ao)(r:Ending)(w':AU):Prop:=∃a n xs,r=.returned (AE a L.length n)/\w'.ownsRow w.heap.size e k (AE a L.length n) L.length xs/\Sv w' (ob (AE a L.length n)++bs) ((L.map f,xs)::ts)/\AO w w'
def JJ(F:FuncId)(x y:Stil.DK):Prop:=∀(a b:AW)(w:AU)(bs:Γ)(ts:Ao),Sv w bs ts->Aq w a x.O.args->Eg w b x.K->Calls prog F #[.agg #[AB x.kind,AB x.O.op,a,b]] w (GZ y w bs ts)
def Bbk(n:Stil.DL)(w:AU)(bs:Γ)(ts:Ao)(e:Ending)(w':AU):Prop:=∃a p b q d r f s,e=.returned (A4 n a p b q d r f s)/\Sv w' bs (([J9 n],A6 n a p b q d r f s)::ts)/\AO w w'
def LY(F:FuncId)(x y:Stil.DL):Prop:=∀(b d a f:AW)(w:AU)(bs:Γ)(ts:Ao),Sv w bs ts->Aq w b x.N.O.args->Eg w d x.N.K->F9 w a x.C->Dj w f x.K->Calls prog F #[.agg #[AB x.N.kind,AB x.N.O.op,b,d,a,f]] w (Bbk y w bs ts)
def Sv.set6{w:AU}{ts:Ao}{b o5 o6:Nat}{x5 x6:AW}(h:Sv w bs ts)(a:b∈bs):Sv ((((((w.setCell (AK b o1) x1).setCell (AK b o2) x2).setCell (AK b o3) x3).setCell (AK b o4) x4).setCell (AK b o5) x5).setCell (AK b o6) x6) bs ts:=((h.set4 a).set a).set a
theorem Sv.kidsOf{w:AU}{ts:Ao}{n:Stil.DK}{u x y:AW}(h:Sv w bs ts)(h1:([G8 n],[x,y,v,u])∈ts):∃ys,JQ w u (Fh n.K).length ys/\Sv w bs ((Fh n.K,ys)::ts):=by have⟨j,p,b,_,a⟩:=K9.1 (Ph.O.1 (h.2 _ h1));cases b;have⟨ys,d,f⟩:=(show Sv w bs (([sl (Fh n.K)],[u])::ts) from⟨h.1,BA.2 ⟨I9.2 a,h.2⟩⟩).src Av;exact⟨ys,d,f.sub (λ_ h=>h) λz g=>(BD.1 g).elim (λh=>h ▸ .head _) λh=>.tail _ (Ax h)⟩
