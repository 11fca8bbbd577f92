import Derived.Test.YtgnkpbhknkinoaaGreatDoorM33
set_option linter.defProp false
namespace Stil
variable {B B2 F F2 b' f' n:Nat}{c k:Int}
def step(s:Int × Int)(c:Int):Int × Int:=(if c=1 then s.1+1 else if c=4\/c=5\/c=11 then s.1 - 1 else s.1,if c=7 then s.2+1 else if c=9 then s.2 - 1 else s.2)
def Hq:Int × Int->List Aw->List (Int × Int)
 |_,[]=>[]
 |s,i::r=>step s i.code::Hq (step s i.code) r
def Qw(l:List Aw):List (Int × Int):=if 1000<l.length then [] else Hq (0,0) l
def Iq:Int × Int->List (Int × Int)->Int × Int
 |p,[]=>p
 |p,s::r=>Iq (if p.1<s.1 then s.1 else p.1,if p.2<s.2 then s.2 else p.2) r
def Jn(l:List Aw):Int × Int:=Iq (0,0) (Qw l)
def SL(t:List (Int × Int)):∀p,p.1<=(Iq p t).1/\p.2<=(Iq p t).2:=by induction t with|nil=>intro p;exact⟨Int.le_refl _,Int.le_refl _⟩|cons s r a=>intro p;have:=a (if p.1<s.1 then s.1 else p.1,if p.2<s.2 then s.2 else p.2);rw[Iq];simp only at this;constructor;{refine Int.le_trans ?_ this.1;split<;>omega};refine Int.le_trans ?_ this.2;split<;>omega
def mZ(t:List (Int × Int))(B F:Int)(h:∀s∈t,s.1<=B/\s.2<=F):∀p,p.1<=B->p.2<=F->(Iq p t).1<=B/\(Iq p t).2<=F:=by induction t with|nil=>intro p a b;exact⟨a,b⟩|cons s r d=>intro p a b;have e:=h s BU;rw[Iq];refine d (λx hx=>h x CZ) _ ?_ ?_;{simp only;split<;>omega};simp only;split<;>omega
theorem yd(l:List Aw):∀(s:Pt)(k:Nat),s.good->(Fz s k l).1=0->∀x∈Hq (s.bits,s.forks) l,x.1<=16/\x.2<=8:=by
 induction l with
 |nil=>intro s k _ _ x a;cases a
 |cons i r f=>
  intro s k g h x a;have j:=Oh s i;rw[Fz]at h;have d:wrong s i=0:=by split at h;{simp only at h;omega};omega
  rw[BQ BS]at h;have e:step (s.bits,s.forks) i.code=((next s i.code).bits,(next s i.code).forks):=by rw[<-behind_next g d];rfl
  have b:=Vp g d;rw[Hq,e]at a;rcases BD.1 a with rfl|a;{exact⟨b.2.1,b.2.2.2.1⟩};exact f _ (k+1) b h x a
theorem Zs{l:List Aw}(h:(Be l).1=0):(Jn l).1<=16/\(Jn l).2<=8/\(l.length=0\/0<(Jn l).1):=by
 have d:¬1000<l.l:=by intro b;unfold Be at h;rw[BR b]at h;simp at h
 have e:Be l=Fz pt0 0 l:=by unfold Be;rw[BQ d]
 have g:Qw l=Hq (0,0) l:=by unfold Qw;rw[BQ d]
 rw[e]at h;unfold Jn;rw[g];have⟨f,b⟩:=mZ (Hq (0,0) l) 16 8 (yd l pt0 0 JZ h) (0,0) BU BU;refine⟨f,b,?_⟩;cases l with
 |nil=>exact .inl rfl
 |cons i r=>
  right;have o:=Oh pt0 i;rw[Fz]at h;have m:wrong pt0 i=0:=by split at h;{simp only at h;omega};omega
  have⟨j,a,_⟩:=Ik m;have q:=U1 j;have hi:i.code=1:=by by_cases hi:i.code=1;{exact hi};exfalso;unfold needs at a;rw[BQ hi]at a;simp only[pt0]at a;split at a<;>omega
  rw[Hq,Iq];have:=(SL (Hq (step (0,0) i.code) r) (if(0:Int)<(step (0,0) i.code).1 then(step (0,0) i.code).1 else 0,if(0:Int)<(step (0,0) i.code).2 then(step (0,0) i.code).2 else 0)).1;simp only[step,hi]at this⊢;simp at this⊢;omega
def S4(p s:Int × Int):Int × Int:=(if p.1<s.1 then s.1 else p.1,if p.2<s.2 then s.2 else p.2)
def shp:DI->Prop
 |⟨k,_,kids⟩=>((k=1/\kids=[])\/((k=2\/k=3)/\0<kids.length)\/(k=4/\kids.length=1))/\∀p∈kids.map shp,p
def S1(k:Int)(e:Elem)(kids:List DI):shp ⟨k,e,kids⟩↔((k=1/\kids=[])\/((k=2\/k=3)/\0<kids.length)\/(k=4/\kids.length=1))/\∀x∈kids,shp x:=by rw[shp,all_map]
def l8{n:DI}(h:shp n):∀x∈n.K,shp x:=by obtain⟨_,_,_⟩:=n;exact((S1 _ _ _).1 h).2
def ZR{e:Elem}{kids:List DI}(h:shp ⟨k,e,kids⟩):(k=1/\kids=[])\/((k=2\/k=3)/\0<kids.length/\∀x∈kids,shp x)\/(k=4/\True/\∃x,kids=[x]/\shp x):=by
 obtain⟨a|⟨a,b⟩|⟨a,b⟩,d⟩:=(S1 _ _ _).1 h
 .exact .inl a
 .exact .inr (.inl ⟨a,b,d⟩)
 obtain⟨x,rfl⟩:=List.length_eq_one_iff.1 b;exact .inr (.inr ⟨a,trivial,x,rfl,d x BU⟩)
theorem S0(n:DI):Am n=0->shp n:=by
 refine Gs (λn=>Am n=0->shp n) ?_ n;intro k e kids d i;refine(S1 _ _ _).2 ?_;rcases Fq i with⟨a,rfl⟩|⟨a,j,g⟩|⟨a,_,x,rfl,b⟩
 .exact⟨.inl ⟨a,rfl⟩,λ_ h=>by cases h⟩
 .exact⟨.inr (.inl ⟨a,j⟩),λx b=>d x b (g x b)⟩
 exact⟨.inr (.inr ⟨a,rfl⟩),λy f=>by obtain rfl:=BB.1 f;exact d y f b⟩
theorem Ko{l:List DJ}(h:∀x∈l,Bh x):(∀x∈Aj l,Bh x)/\Au (Aj l)<=400/\(Aj l).length<=40:=by
 unfold Aj;by_cases h0:(Ap l).1=0
 .rw[BR h0];have hx:=λx hx=>Yy x (h x hx) yGb;refine⟨λx e=>?_,?_,?_⟩;{obtain⟨y,d,rfl⟩:=BM.1 e;exact(hx y d).1}
  .refine DR ?_ (Nr h0).2.2.1;clear h h0;unfold Au;induction l with
   |nil=>simp|cons x r f=>have a:=(hx x BU).2;have b:=f (λy d=>hx y (DY _ d));simp only[DX,FK]at b⊢;omega
  rw[DZ];exact(Nr h0).2.1
 rw[BQ h0];exact⟨(λx hx=>by cases hx),by simp[Au],BU⟩
def H8:DJ->Prop
 |⟨n,c,kids⟩=>Gp n/\(∀p∈kids.map H8,p)/\∀a,kids=[a]->¬(c=[]\/Ai a.N=true)
def Jz(n:DI)(c:List Elem)(kids:List DJ):H8 ⟨n,c,kids⟩↔Gp n/\(∀x∈kids,H8 x)/\∀a,kids=[a]->¬(c=[]\/Ai a.N=true):=by rw[H8,all_map]
theorem Auk{n:DI}(h:Gp n):U4 n=n:=by
 unfold U4;split
 .rfl
 rename_i a;exact NW (h.resolve_left a)
theorem VW(a:DJ):H8 a->Dz a=a:=by
 refine Fv (λa=>H8 a->Dz a=a) ?_ a;intro n c kids g h;have⟨d,f,i⟩:=(Jz _ _ _).1 h;have e:kids.map Dz=kids:=by have:kids.map Dz=kids.map id:=LJ λx b=>g x b (f x b);rw[this,List.map_id]
 rw[Ov,Auk d,e];exact P1 _ i
def Auq{l:List DJ}(h:I4 l<=0):l=[]:=by have:=Pi l;exact List.eq_nil_of_length_eq_zero BS
theorem V5:∀(f:Nat)(b:DJ),I4 b.K<=f->Gp b.N->(∀x∈b.K,H8 x)->H8 (Jc f b)
 |0,⟨n,t,kids⟩,d,a,_=>by
  simp only at d a;obtain rfl:=Auq d;rw[Jc];exact(Jz _ _ _).2 ⟨a,λx s=>(by cases s),λq e=>(by cases e)⟩
 |f+1,⟨n,t,kids⟩,d,a,g=>by
  simp only at d a g;rw[Jc];split
  .rename_i q e
   simp only at e;subst e;split
   .obtain⟨j,l,o⟩:=q
    have m:=(Jz _ _ _).1 (g ⟨j,l,o⟩ BU);have r:=Nc ⟨j,l,o⟩;rw[QX]at d;simp only at r;exact V5 f _ yCh (Wu a m.1) m.2.1
   .rename_i i
    exact(Jz _ _ _).2 ⟨a,g,λk e=>by
     simp only[List.cons.injEq,Hh]at e;subst e
     exact i⟩
  .rename_i i
   exact(Jz _ _ _).2 ⟨a,g,λk e=>absurd e (i k)⟩
theorem Vv(a:DJ):Lp a->H8 (Dz a):=by refine Fv (λa=>Lp a->H8 (Dz a)) ?_ a;intro n c kids e h;have b:=(Qi _ _ _).1 h;rw[Ov];unfold joined;refine V5 _ _ (DK _) (Sl b.1) λx f=>?_;obtain⟨y,d,rfl⟩:=BM.1 f;exact e y d (b.2 y d)
def rx{a:DJ}(h:Lp a):Dz (Dz a)=Dz a:=VW _ (Vv a h)
def WG{n:DI}(h:Gp n):Ai n=true\/Am n=0:=h.imp id λh=>h.2.2
theorem Uf{a:DJ}:Cm a=0↔(Ai a.N=true\/Am a.N=0)/\Dq a.C=false/\¬(a.C.length=0/\a.K.length=0):=by
 have l:=La a.N;unfold Cm;constructor
 .intro h;have b:¬(Ai a.N=false/\0<Am a.N):=λd=>by rw[BR d]at h;omega
  rw[BQ b]at h;cases d:Dq a.C with
  |true=>rw[d,BR rfl]at h;omega
  |false=>
   rw[d,BQ GF]at h;refine⟨?_,rfl,λe=>by rw[BR e]at h;omega⟩;cases i:Ai a.N with
   |true=>exact .inl rfl|false=>have f:¬0<Am a.N:=λx=>b ⟨i,x⟩;exact .inr BS
 rintro⟨b,e,j⟩;have f:¬(Ai a.N=false/\0<Am a.N):=by rintro⟨g,m⟩;rcases b with h|h;{rw[h]at g;exact Bool.noConfusion g};omega
 rw[BQ f,e,BQ GF,BQ j]
def Ir{n:DI}{c:List Elem}{kids:List DJ}:Cb ⟨n,c,kids⟩=0↔Cm ⟨n,c,kids⟩=0/\∀x∈kids,Cb x=0:=by
 have d:=Qj ⟨n,c,kids⟩;rw[Xg];constructor
 .intro h;have a:Cm ⟨n,c,kids⟩=0:=by split at h<;>omega
  rw[BQ BS]at h;exact⟨a,λx f=>Xa _ (λy hy=>by obtain⟨z,_,rfl⟩:=BM.1 hy;exact(Qr z).1) h _ (BM.2 ⟨x,f,rfl⟩)⟩
 rintro⟨a,b⟩;rw[BQ BS];simp only;clear a d;induction kids with
 |nil=>rfl|cons x r e=>rw[DX,Az,b x BU,BQ BS];exact e (λy hy=>b y DG)
def qu(a b:List Elem):Dq (a++b)=(Dq a || Dq b):=by simp[Dq]
theorem V2:∀(f:Nat)(b:DJ),Em b->Cb b=0->Cb (Jc f b)=0
 |0,_,_,h=>h
 |f+1,⟨n,t,kids⟩,r,h=>by
  rw[Jc];split
  .rename_i q e
   simp only at e;subst e;split
   .have a:=NV r
    refine V2 f _ a.1 ?_;obtain⟨l,m,o⟩:=q;have i:=Ir.1 h;have g:=Ir.1 (i.2 ⟨l,m,o⟩ BU);have⟨_,j,_⟩:=Uf.1 i.1;have⟨_,d,s⟩:=Uf.1 g.1;simp only at j d s;refine Ir.2 ⟨Uf.2 ⟨WG (Wu a.2.1 a.2.2),?_,?_⟩,g.2⟩
    .simp only
     rw[qu,j,d];rfl
    .simp only[DT]
     omega
   .exact h
  .exact h
theorem tV(a:DJ):Cb a=0->Cb (Dz a)=0:=by
 refine Fv (λa=>Cb a=0->Cb (Dz a)=0) ?_ a;intro n c kids l h;have d:=(Qi _ _ _).1 (Wz _ h);have⟨i,j⟩:=Ir.1 h;have⟨_,g,f⟩:=Uf.1 i;simp only at g f;rw[Ov];unfold joined;refine V2 _ _ ((Ec _ _ _).2 ⟨Sl d.1,λx e=>?_⟩) (Ir.2 ⟨Uf.2 ⟨WG (Sl d.1),g,xCb⟩,λx e=>?_⟩)
 .obtain⟨y,b,rfl⟩:=BM.1 e;exact Uo y (d.2 y b)
 obtain⟨y,b,rfl⟩:=BM.1 e;exact l y b (j y b)
theorem zO{l:List DJ}(h1:l.length<=40)(b:Au l<=400)(a:∀x∈l,Fh x=0):Ap l=(0,0):=by
 unfold Ap;rw[BQ BS];clear h1 b
 suffices ∀k,Ej l k=(0,0) from this 0
 induction l with|nil=>intro k;rfl|cons x r d=>intro k;rw[Ej,a x BU,BQ BS];exact d (λy hy=>a y DG) _
def zS{a:DJ}(h1:Ai a.N=false)(b:Cb a=0):Fh a=0:=by unfold Fh;rw[h1,b];rfl
theorem ru{l:List DJ}(q:∀x∈l,Bh x)(h:(Ap l).1=0):Ap (Aj l)=(0,0)/\Au (Aj l)<=Au l/\(Aj l).length=l.length/\Aj (Aj l)=Aj l/\∀x∈Aj l,Bh x:=by
 have⟨_,i,s,f⟩:=Nr h;have e:Aj l=l.map Dz:=by unfold Aj;rw[BR h]
 have g:=λx a=>Yy x (q x a) (by have:=(Kz h a).2;omega);have j:Au (Aj l)<=Au l:=by rw[e];unfold Au;rw[IP];exact dM _ _ _ λx a=>(g x a).2
 have d:Ap (Aj l)=(0,0):=by refine zO (by rwa[e,DZ]) BS λx a=>?_;rw[e]at a;obtain⟨y,b,rfl⟩:=BM.1 a;exact zS (Wg (Kz h b).1 (f y b).1) (tV y (f y b).2)
 refine⟨d,j,by rw[e,DZ],?_,λx a=>?_⟩
 .have⟨m,o⟩:=AA (Aj l);have r:Aj (Aj l)=(Aj l).map Dz:=by rw[<-o]at d⊢;unfold Aj;rw[BR (by rw[d])]
  rw[r,e,IP];exact LJ λx a=>rx (Kz h a).1
 rw[e]at a;obtain⟨y,b,rfl⟩:=BM.1 a;exact(g y b).1
def Rh:List Aw->List DI->List DI->Prop
 |[],a,t=>a=t
 |i::r,a,t=>1<=i.code/\i.code<7/\needs i.code<=(a.length:Int)/\Rh r (Lr i.code i.O a) t
theorem Rh.append:∀{l m:List Aw}{a b c:List DI},Rh l a b->Rh m b c->Rh (l++m) a c
 |[],_,_,_,_,h,k=>by cases h;exact k
 |_::_,_,_,_,_,h,k=>⟨h.1,h.2.1,h.2.2.1,Rh.append h.2.2.2 k⟩
theorem Rh.N:∀{l r:List Aw}{a t:List DI}{n:DI}{b:List Aw},Rh l a t->Xx t r n b->Xx a (l++r) n b
 |[],_,_,_,_,_,h,k=>by cases h;exact k
 |_::_,_,_,_,_,_,h,k=>by
  rw[D4,Xx,BR h.2.1];exact⟨h.1,h.2.2.1,Rh.N h.2.2.2 k⟩
def RO{n:DI}(h:fine n):∀x∈n.K,fine x:=λx a=>
 ⟨((Jv n).1 h.1).2 x a,((Jl n).1 h.2.1).2 x a,Ny h.2.2 x a⟩
theorem Aun(d:k=2\/k=3){a y:DI}(g:a.kind≠0)(j:y.kind≠0)(i:y.kind=1->y=E5 y.O)(h:∀st,Rh (Cf y) st (y::st))(st:List DI):
  Rh (Dp k y) (a::st) (Jr k a y::st):=by
 by_cases f:y.kind=1
 .rw[Je k y f];have e:Lr k y.O (a::st)=Jr k a y::st:=by have b:Gw k a (E5 y.O)=Jr k a y:=(by unfold Gw;rw[BQ g,<-i f]);rcases d with rfl|rfl;{show Gw 2 a (E5 y.O)::st=_;rw[b]};show Gw 3 a (E5 y.O)::st=_;rw[b]
  refine⟨by show 1<=k;omega,by show k<7;omega,?_,e⟩;show needs k<=((a::st).length:Int);rw[DO];rcases d with rfl|rfl;{show(1:Int)<=_;omega};show(1:Int)<=_;omega
 rw[Ie k y f];refine(h (a::st)).append ?_;have e:Lr (k+2) ⟨0,[]⟩ (y::a::st)=Jr k a y::st:=by
  have b:Gw k a y=Jr k a y:=by unfold Gw;rw[BQ g]
  rcases d with rfl|rfl;{show Gw 2 a y::st=_;rw[b]};show Gw 3 a y::st=_;rw[b]
 refine⟨by show 1<=k+2;omega,by show k+2<7;omega,?_,e⟩;show needs (k+2)<=((y::a::st).length:Int);rw[DO,DO];rcases d with rfl|rfl
 .show(2:Int)<=_;omega
 show(2:Int)<=_;omega
theorem QH(f:k=2\/k=3):∀(r:List DI)(a:DI),a.kind≠0->(∀y∈r,y.kind≠0/\y.kind≠k/\(y.kind=1->y=E5 y.O)/\∀b,Rh (Cf y) b (y::b))->∀b,
  Rh ((r.map (Dp k)).flatten) (a::b) ((if r=[] then a else⟨k,⟨0,[]⟩,opn k a++r⟩)::b)
 |[],a,_,_,b=>rfl
 |y::r,a,l,h,b=>by
  have⟨o,d,i,s⟩:=h y BU;rw[DX,EN];refine(Aun f l o i s b).append ?_;have q:(Jr k a y).kind≠0:=by show k≠0;omega
  have:=QH f r (Jr k a y) q (λz g=>h z (DY _ g)) b
  have m:opn k (Jr k a y)=opn k a++[y]:=by
   unfold opn;rw[BR (show(Jr k a y).kind=k from rfl)];show opn k a++opn k y=_
   unfold opn;rw[BQ d]
  have j:Jr k a y=⟨k,⟨0,[]⟩,opn k a++[y]⟩:=by
   show(⟨k,⟨0,[]⟩,opn k a++opn k y⟩:DI)=_
   congr 2;unfold opn;rw[BQ d]
  rw[BQ BU];by_cases e:r=[]
  .subst e
   rw[BR rfl]at this;rw[<-j];exact this
  .rw[BQ e,m,EG]at this
   exact this
theorem Qe{n:DI}(h:fine n):n.kind≠0:=by
 obtain⟨k,e,kids⟩:=n;rcases Fq h.2.2 with⟨a,_⟩|⟨a,_⟩|⟨a,_⟩
 .show k≠0;omega
 .show k≠0;omega
 show k≠0;omega
theorem U6{n:DI}(h:fine n)(h1:n.kind=1):n=E5 n.O:=by
 obtain⟨k,e,kids⟩:=n;obtain rfl:k=1:=h1;rcases Fq h.2.2 with⟨_,rfl⟩|⟨h1,_⟩|⟨h1,_⟩
 .rfl
 .omega
 omega
theorem NU(n:DI):fine n->∀a,Rh (Cf n) a (n::a):=by
 refine Gs (λn=>fine n->∀a,Rh (Cf n) a (n::a)) ?_ n;intro k e kids i h a;have b:=RO h;rcases Fq h.2.2 with⟨rfl,rfl⟩|⟨o,j,_⟩|⟨rfl,f,x,rfl,_⟩
 .rw[Lt];exact⟨by show(1:Int)<=1;decide,by show(1:Int)<7;decide,by show(0:Int)<=_;omega,rfl⟩
 .obtain⟨x,r,rfl⟩:∃x r,kids=x::r:=by
   cases kids with
   |nil=>simp at j
   |cons x r=>exact⟨x,r,rfl⟩
  have s:=(Jv _).1 h.1;have g:k=2\/k=3:=o;have⟨l,hd⟩:=s.1 g;have m:r≠[]:=by rintro rfl;exact l rfl
  rw[Jd e x r BS BS];refine(i x BU (b x BU) a).append ?_;have:=QH g r x (Qe (b x BU)) (λy d=>⟨Qe (b y (DY _ d)),hd y (DY _ d),U6 (b y (DY _ d)),i y (DY _ d) (b y (DY _ d))⟩) a
  rw[BQ m]at this;have q:opn k x=[x]:=by unfold opn;rw[BQ (hd x BU)]
  have f:e=⟨0,[]⟩:=((Jl _).1 h.2.1).1 g;rw[q]at this;rw[f];exact this
 rw[Lu];refine(i x BU (b x BU) a).append ?_;rw[f];exact⟨BZ,BZ,by show(1:Int)<=((x::a).length:Int);rw[DO];omega,rfl⟩
theorem Xx.stop{l:List Aw}(n:DI)(h:7<=Dv l):Xx [n] l n l:=by cases l with|nil=>exact absurd h BZ|cons i r=>rw[Xx,BQ (by have a:7<=i.code:=h;omega)];exact⟨rfl,rfl⟩
theorem Ll.stop{m:List Aw}(h0:Dv m≠0)(h:Dv m≠10):∀(a:List Elem),Ll (Gz a++m) a m
 |[]=>by
  show Ll m [] m
  cases m with
  |nil=>exact absurd rfl h0
  |cons i r=>rw[Ll,BQ (show ¬i.code=10 from h)];exact⟨rfl,rfl⟩
 |c::a=>by
  show Ll (⟨10,c⟩::(Gz a++m)) (c::a) m
  rw[Ll,BR rfl];exact⟨a,rfl,Ll.stop h0 h a⟩
theorem Rh.head{l:List Aw}{a b:List DI}(h:Rh l a b)(d:l≠[])(x:List Aw):1<=Dv (l++x)/\Dv (l++x)<7:=by cases l with|nil=>exact absurd rfl d|cons i r=>exact⟨h.1,h.2.1⟩
theorem Ym{n:DI}(h:Gp n):Rh (A8 n) [G5] [n]:=by
 unfold A8 Bq;by_cases g:Ai n=true
 .rw[BR g,U3 g];exact rfl
 have d:=h.resolve_left g;rw[BQ g];have one:∀x:DI,fine x->Rh (Dp 2 x) [G5] [x]:=by intro x l;by_cases b:x.kind=1;{rw[Je 2 x b];refine⟨by show(1:Int)<=2;decide,by show(2:Int)<7;decide,by show(1:Int)<=1;decide,?_⟩;show Gw 2 G5 (E5 x.O)::[]=[x];rw[<-U6 l b];rfl};rw[Ie 2 x b];refine(NU x l [G5]).append ?_;exact⟨by show(1:Int)<=4;decide,by show(4:Int)<7;decide,by show(2:Int)<=2;decide,rfl⟩
 by_cases i:n.kind=2
 .rw[BR i];obtain⟨k,e,kids⟩:=n;obtain rfl:k=2:=i;rcases Fq d.2.2 with⟨b,_⟩|⟨_,m,_⟩|⟨b,_⟩;{omega}
  .obtain⟨x,r,rfl⟩:∃x r,kids=x::r:=by
    cases kids with
    |nil=>simp at m
    |cons x r=>exact⟨x,r,rfl⟩
   have a:=RO d;have j:=((Jv _).1 d.1).1 (.inl rfl);have q:r≠[]:=by rintro rfl;exact j.1 rfl
   show Rh (((x::r).map (Dp 2)).flatten) _ _
   rw[DX,EN];refine(one x (a x BU)).append ?_;have:=QH (.inl rfl) r x (Qe (a x BU)) (λy f=>⟨Qe (a y (DY _ f)),j.2 y (DY _ f),U6 (a y (DY _ f)),NU y (a y (DY _ f))⟩) []
   rw[BQ q]at this;have s:opn 2 x=[x]:=by unfold opn;rw[BQ (j.2 x BU)]
   have o:e=⟨0,[]⟩:=((Jl _).1 d.2.1).1 (.inl rfl);rw[s]at this;rw[o];exact this
  omega
 rw[BQ i];show Rh ([Dp 2 n].flatten) _ _;rw[EN,M1,EW];exact one n d
theorem QB{a:DJ}(h:H8 a):Gp a.N:=by obtain⟨n,c,k⟩:=a;exact((Jz n c k).1 h).1
def D6(n:Nat):Nat->List DJ->List Aw
 |_,[]=>[]
 |i,k::t=>Ht n i k++D6 n (i+1) t
theorem XH(n:Nat):∀(b:List DJ)(i:Nat),(b.mapIdx (λj a=>Ht n (i+j) a)).flatten=D6 n i b
 |[],_=>rfl
 |k::t,i=>by
  rw[List.mapIdx_cons,EN,D6,<-XH n t (i+1)];congr 3;funext j a;rw[Nat.add_assoc,Nat.add_comm 1 j]
def Nj(n:DI)(cs:List Elem)(kids:List DJ):Bv ⟨n,cs,kids⟩=Gz cs++D6 kids.length 0 kids:=by rw[Wq,<-XH];congr 3;funext j a;rw[ED]
def Yg(r:List Aw):Prop:=Dv r=8\/Dv r=9\/Dv r=11
theorem YC{P:List Aw->DJ->List Aw->Prop}(f:n≠1):∀(a:List DJ)(i:Nat),i+a.length=n->a≠[]->(∀k∈a,∀r,Yg r->P (A8 k.N++(Bv k++r)) k r)->∀r,Yg r->Ih P a (D6 n i a++r) r
 |[],_,_,h,_,_,_=>absurd rfl h
 |k::t,i,hi,_,e,r,j=>by
  rw[DO]at hi;rw[D6];unfold Ht G0 Eh;rw[BQ f];by_cases b:t=[]
  .subst b
   simp only[DU]at hi;rw[BQ BS,BR BS];have:=e k BU r j
   show Ih P [k] (F6 9::((A8 k.N++Bv k)++D6 n (i+1) []++r)) r
   rw[Ih,BR rfl];refine⟨rfl,?_⟩;rw[D6,EW,EG];exact this
  .have u:0<t.length:=List.length_pos_iff.2 b
   have l:Yg (D6 n (i+1) t++r):=by
    obtain⟨y,d,rfl⟩:∃y d,t=y::d:=by
     cases t with
     |nil=>exact absurd rfl b
     |cons y d=>exact⟨y,d,rfl⟩
    rw[D6];unfold Ht G0 Eh;rw[BQ f,BQ BS];split
    .exact .inr (.inl rfl)
    .exact .inl rfl
   have q:=e k BU _ l;have m:=YC f t (i+1) BS b (λk o=>e k (DY _ o)) r j;have step:∀c:Int,(c=7\/c=8)->Ih P (k::t) (F6 c::((A8 k.N++Bv k)++D6 n (i+1) t++r)) r:=by
    intro c s;rw[Ih,BQ b];refine⟨s,D6 n (i+1) t++r,?_,m⟩;rwa[EG,EG]
   by_cases g:i=0
   .rw[BR g]
    exact step 7 (.inl rfl)
   .rw[BQ g,BQ BS]
    exact step 8 (.inr rfl)
theorem gn(a:DJ):H8 a->∀f,Ah a<=f->∀g L,Rh L g [a.N]->∀r,Yg r->Wh f g (L++(Bv a++r)) a r:=by
 refine Fv (λa=>H8 a->∀f,Ah a<=f->∀g L,Rh L g [a.N]->∀r,Yg r->Wh f g (L++(Bv a++r)) a r) ?_ a;intro n b kids M h f R g L J r d;have⟨Q,j,s⟩:=(Jz _ _ _).1 h;have A:=Nc ⟨n,b,kids⟩;obtain⟨f',rfl⟩:∃f',f=f'+1:=⟨f - 1,BS⟩;have S:I4 kids<=f':=by have O:1+I4 kids<=Ah ⟨n,b,kids⟩:=A;omega
 have i:∀k∈kids,∀r,Yg r->Wh f' [G5] (A8 k.N++(Bv k++r)) k r:=by intro k q r d;have P:Ah k<=I4 kids:=Ey Ah kids k q;have m:Gp k.N:=QB (j k q);exact M k q (j k q) f' BS [G5] (A8 k.N) (Ym m) r d
 have N:Dv r≠0:=by rcases d with h|h|h<;>omega
 rw[Nj,EG];have fin:Dv (D6 kids.l 0 kids++r)≠0->Dv (D6 kids.l 0 kids++r)≠10->(b=[]->7<=Dv (D6 kids.l 0 kids++r))->
   KY (Wh f' [G5]) kids (D6 kids.l 0 kids++r) r->Wh (f'+1) g (L++(Gz b++(D6 kids.l 0 kids++r))) ⟨n,b,kids⟩ r:=by
  intro x y G z;refine⟨Gz b++(D6 kids.l 0 kids++r),D6 kids.l 0 kids++r,J.N (Xx.stop n ?_),Ll.stop x y b,z⟩;cases b with
  |nil=>exact G rfl
  |cons c b=>show(7:Int)<=10;decide
 match kids,j,s,i,fin with
 |[],_,_,_,fin=>refine fin N ?_ (λ_=>?_) (.inl ⟨d,rfl,rfl⟩);{show Dv r≠10;rcases d with h|h|h<;>omega};show 7<=Dv r;rcases d with h|h|h<;>omega
 |[k],j,s,i,fin=>
  have v:=s k rfl;have H:b≠[]:=λh=>v (.inl h);have C:¬Ai k.N=true:=λh=>v (.inr h);have m:Gp k.N:=QB (j k BU);have u:=Ym m;have K:A8 k.N≠[]:=by (intro e;rw[e]at u;have D:G5=k.N:=by have I:[G5]=[k.N]:=u;injection I);exact Qe (m.resolve_left C) (by rw[<-D];rfl)
  have E:D6 [k].l 0 [k]++r=A8 k.N++(Bv k++r):=by show(([]:List Aw)++(A8 k.N++Bv k))++[]++r=_;rw[EB,EW,EG]
  have o:=u.head K (Bv k++r);rw[E]at fin⊢;exact fin BS BS (λh=>absurd h H) (.inr (.inl ⟨o.1,o.2,k,rfl,i k BU r d⟩))
 |k::l::t,_,_,i,fin=>
  have w:(k::l::t).l≠1:=BU;have hF:=YC w (k::l::t) 0 BU BU i r d;have o:Dv (D6 (k::l::t).l 0 (k::l::t)++r)=7:=by rw[D6];unfold Ht G0 Eh;rw[BQ w,BR rfl];rfl
  exact fin BS BS (λ_=>by omega) (.inr (.inr ⟨o,hF⟩))
def zT{a:DJ}(h:H8 a)(b:fine a.N){f:Nat}(d:Ah a<=f):Wh f [] (Eb a) a [F6 11]:=
 gn a h f d [] (Cf a.N) (NU a.N b []) [F6 11] (.inr (.inr rfl))
def UpR:List (List Aw)->List DJ->Prop
 |[],a=>a=[]
 |c::d,a=>∃x b i,a=x::b/\Wh 1001 [] c x [i]/\UpR d b
theorem iy{c xs:List Aw}{i:Aw}(g:c=xs++[i])(s:run pt0 c=some pt0)(_hi:i.code=11)(hx:∀y∈xs,y.code≠11)(hl:c.length<=1000):∃x,Wh 1001 [] c x [i]:=by
 have m:E4 pt0 c:=⟨JZ,pt0,s,BZ⟩;have⟨x,r,a,o⟩:=k7 1000 c pt0 [] hl m rfl (by rw[g];simp);obtain⟨j,l,rfl,q,_⟩:=ft o;have f:=a.suffix;have e:l=[]/\j=i:=by rw[g]at f;obtain⟨t,d⟩:=f;rcases List.eq_nil_or_concat l with rfl|⟨u,k,rfl⟩;{have b:=List.append_inj' d rfl;exact⟨rfl,by injection b.2⟩};exfalso;rw[List.concat_eq_append,<-D4,<-EG]at d;have b:=List.append_inj' d rfl;exact hx j (by rw[<-b.1];simp) q
 rw[e.1,e.2]at a;exact⟨x,a⟩
theorem eS:∀(b:List (List Aw)),(∀c∈b,run pt0 c=some pt0/\c.length<=1000/\∃a i,c=a++[i]/\i.code=11/\∀x∈a,x.code≠11)->∃a,UpR b a
 |[],_=>⟨[],rfl⟩
 |c::b,h=>by
  have⟨d,e,q,i,o,l,m⟩:=h c BU;have⟨x,g⟩:=iy o d l m e;have⟨a,f⟩:=eS b (λc j=>h c (by simp[j]));exact⟨x::a,x,a,i,rfl,g,f⟩
theorem UpR.len:∀{b:List (List Aw)}{a:List DJ},UpR b a->a.length=b.length
 |[],_,h=>by rw[h];rfl
 |c::b,_,⟨x,a,i,e,_,d⟩=>by rw[e,DO,DO,UpR.len d]
theorem UpR.at:∀{b:List (List Aw)}{a:List DJ}(_:UpR b a)(j:Nat)(d:j<b.length)(f:j<a.length),∃i,Wh 1001 [] b[j] a[j] [i]
 |[],_,_,_,d,_=>by simp at d
 |c::b,_,⟨x,a,i,e,g,h⟩,0,_,_=>by subst e;exact⟨i,g⟩
 |c::b,_,⟨x,a,i,e,g,h⟩,j+1,d,f=>by subst e;exact UpR.at h j xBo xCb
theorem UpR.fine:∀{b:List (List Aw)}{a:List DJ},UpR b a->(∀c∈b,c.length<=1000/\0<c.length/\∀i∈c,i.fits)->(∀x∈a,Bh x)/\Au a<=4*b.flatten.length
 |[],_,h,_=>by rw[h];exact⟨(λx l=>by cases l),by simp[Au]⟩
 |c::b,_,⟨x,a,i,e,m,q⟩,h=>by
  subst e;have⟨o,u,j⟩:=h c BU;have f:=m.fine j9 j BS o;have⟨t,v⟩:=UpR.fine q (λc r=>h c (by simp[r]));refine⟨λy d=>?_,?_⟩
  .rcases BD.1 d with rfl|d
   .exact f.1
   .exact t y d
  .have s:Au (x::a)=Ah x+Au a:=by simp[Au]
   have g:=f.2;rw[s,EN,DT];simp only[FQ]at g;omega
def FV(xs:List DJ):List DJ × Int:=if 0<(Ap xs).1 then([],2) else(xs,0)
theorem ga{l:List Aw}(h:(Be l).1=0)(s:∀x∈l,x.fits):∃b,UpR (Ef l) b/\(∀x∈b,Bh x)/\Au b<=4000/\b.length<=1000/\l.length<=1000/\(Ef l).flatten=l:=by
 have m:=(Tt.1 h).1;have j:=(Yt h).1;have g:Ef l=Dn [] l:=by unfold Ef;rw[BQ BS]
 have e:=(dR l [] pt0 rfl (λx d=>by cases d) (.inl rfl) (Tt.1 h).2).2.2;rw[<-g]at e;have f:=λc a=>VI l [] c (by rwa[<-g]);have o:∀c∈Ef l,c.length<=1000:=λc a=>by have:=(f c a).2.2;simp at this;omega
 have⟨b,d⟩:=eS (Ef l) (λc a=>⟨(e c a).1,o c a,(e c a).2⟩);have⟨q,r⟩:=d.fine (λc a=>⟨o c a,(f c a).1,λi hi=>s i (((f c a).2.1 i hi).elim (λh=>by cases h) id)⟩);refine⟨b,d,q,?_,?_,m,j⟩
 .rw[j]at r;omega
 rw[d.len,g];exact DR (sH l []) m
def Ks:Int × Int->List Aw->Int × Int
 |s,[]=>s
 |s,i::r=>Ks (step s i.code) r
theorem WI:∀(l m:List Aw)(s:Int × Int),Ks s (l++m)=Ks (Ks s l) m
 |[],_,_=>rfl
 |i::r,m,s=>WI r m (step s i.code)
theorem VY:∀(l m:List Aw)(s:Int × Int),Hq s (l++m)=Hq s l++Hq (Ks s l) m
 |[],_,_=>rfl
 |i::r,m,s=>by rw[D4,Hq,VY r m,Hq,Ks,D4]
theorem Wa:∀(t u:List (Int × Int))(p:Int × Int),Iq p (t++u)=Iq (Iq p t) u
 |[],_,_=>rfl
 |s::r,u,p=>by rw[D4,Iq,Wa r u,Iq]
def hts(b f:Nat):Int × Int:=((b:Int),(f:Int))
def g9(p q b f:Nat):S4 (hts p q) (hts b f)=hts (max p b) (max q f):=by
 unfold S4 hts;refine Prod.ext ?_ ?_
 .show(if(p:Int)<b then(b:Int) else p)=((max p b:Nat):Int);split<;>omega
 show(if(q:Int)<f then(f:Int) else q)=((max q f:Nat):Int);split<;>omega
structure Gx(l:List Aw)(b f b' f' B F:Nat):Prop where
 lo1:b<=B
 lo2:f<=F
 hi1:b'<=B
 hi2:f'<=F
 fin:Ks (hts b f) l=hts b' f'
 top:∀p q:Nat,b<=p->f<=q->Iq (hts p q) (Hq (hts b f) l)=hts (max p B) (max q F)
def Gx.nil(b f:Nat):Gx [] b f b f b f:=⟨DK _,DK _,DK _,DK _,rfl,λp q a d=>by rw[Nat.max_eq_left a,Nat.max_eq_left d];rfl⟩
def Gx.O{i:Aw}{b f:Nat}(h:step (hts b f) i.code=hts b' f'):Gx [i] b f b' f' (max b b') (max f f'):=by refine⟨BS,BS,BS,BS,h,λp q a d=>?_⟩;show S4 (hts p q) (step (hts b f) i.code)=_;rw[h,g9];congr 1<;>omega
def Gx.append{l m:List Aw}{b f b2 a:Nat}(h:Gx l b f b' f' B F)(k:Gx m b' f' b2 a B2 F2):Gx (l++m) b f b2 a (max B B2) (max F F2):=by have g:=h.lo1;have i:=h.lo2;have s:=k.hi1;have o:=k.hi2;refine⟨BS,BS,BS,BS,by rw[WI,h.fin,k.fin],λp q d e=>?_⟩;have r:=h.hi1;have j:=h.hi2;rw[VY,Wa,h.top p q d e,h.fin,k.top _ _ BS BS];congr 1<;>omega
theorem Gx.cast{l:List Aw}{b f:Nat}(h:Gx l b f b' f' B F)(h1:B=B2)(a:F=F2):Gx l b f b' f' B2 F2:=by subst h1 a;exact h
def Jj(b x:Nat)(l:List Nat):A7 b (x::l)=max x (A7 b l):=by show A7 (max b x) l=_;rw[Nat.max_comm,Iu]
def N2{n:DI}(h:n.kind=1):Aq n=1:=by unfold Aq MK;rw[BR h]
def Vd{n:DI}(h:n.kind≠1):Aq n=1+Ak n:=by unfold Aq MK;rw[BQ h]
theorem NN{b f:Nat}(h:c=2\/c=3\/c=6\/c=8\/c=10):step (hts b f) c=hts b f:=by rcases h with rfl|rfl|rfl|rfl|rfl<;>rfl
theorem vu(d:k=2\/k=3){y:DI}(g:∀b f,Gx (Cf y) b f (b+1) f (b+Ak y) f)(b f:Nat):Gx (Dp k y) (b+1) f (b+1) f (b+Aq y) f:=by
 by_cases a:y.kind=1
 .rw[Je k y a,N2 a];exact(Gx.O (i:=⟨k,y.O⟩) (NN (by rcases d with h|h<;>simp[h]))).cast BS BS
 rw[Ie k y a,Vd a];have l:step (hts (b+1+1) f) (F6 (k+2)).code=hts (b+1) f:=by
  have e:step (hts (b+1+1) f) (F6 (k+2)).code=(((b+1+1:Nat):Int) - 1,(f:Int)):=by rcases d with rfl|rfl<;>rfl
  rw[e];unfold hts;refine Prod.ext ?_ rfl;show((b+1+1:Nat):Int) - 1=((b+1:Nat):Int);omega
 have j:=(g (b+1) f).append (Gx.O l);have m:=(g (b+1) f).hi1;exact j.cast BS BS
theorem Z8(a:k=2\/k=3)(b f:Nat):∀(r:List DI),(∀y∈r,∀b f,Gx (Cf y) b f (b+1) f (b+Ak y) f)->Gx ((r.map (Dp k)).flatten) (b+1) f (b+1) f (b+A7 1 (r.map Aq)) f
 |[],_=>Gx.nil _ _
 |y::r,h=>by
  rw[DX,EN,DX,Jj];exact((vu a (h y BU) b f).append (Z8 a b f r (λz d=>h z (DY _ d)))).cast BS BS
theorem Yz(n:DI):Tm n->Am n=0->∀b f,Gx (Cf n) b f (b+1) f (b+Ak n) f:=by
 refine Gs (λn=>Tm n->Am n=0->∀b f,Gx (Cf n) b f (b+1) f (b+Ak n) f) ?_ n;intro k e kids j h w b f;have d:=((Y3 _ _ _).1 h).2;have o:step (hts b f) (1:Int)=hts (b+1) f:=by have s:step (hts b f) (1:Int)=((b:Int)+1,(f:Int)):=rfl;rw[s];refine Prod.ext ?_ rfl;show(b:Int)+1=((b+1:Nat):Int);omega
 rcases Fq w with⟨rfl,rfl⟩|⟨u,m,l⟩|⟨rfl,_,x,rfl,q⟩
 .rw[Lt,V4];exact(Gx.O (i:=⟨1,e⟩) o).cast BS BS
 .obtain⟨x,r,rfl⟩:∃x r,kids=x::r:=by
   cases kids with
   |nil=>simp at m
   |cons x r=>exact⟨x,r,rfl⟩
  rw[Jd e x r BS BS,Lh e x r BS];have a:=j x BU (d x BU) (l x BU) b f;have v:=Z8 u b f r (λy g=>j y (DY _ g) (d y (DY _ g)) (l y (DY _ g)));have t:=a.hi1;have z:A7 (Ak x) (r.map Aq)=max (Ak x) (A7 1 (r.map Aq)):=by
   rw[<-Iu,Nat.max_eq_left BS]
  exact(a.append v).cast BS BS
 rw[Lu,Lh e x [] BZ];have a:=j x BU (d x BU) q b f;have t:=a.hi1;refine(a.append (Gx.O (i:=F6 6) (NN xCq))).cast ?_ BS;show max (b+Ak x) (max (b+1) (b+1))=b+Ak x;omega
theorem Xd(f:Nat):∀(a:List Elem),Gx (Gz a) 1 f 1 f 1 f
 |[]=>Gx.nil _ _
 |c::a=>((Gx.O (i:=⟨10,c⟩) (NN (b:=1) (f:=f) BU)).append (Xd f a)).cast BS BS
theorem Uw{n:DI}(h:Gp n):∀x∈Bq n,Am x=0:=by
 intro x a;unfold Bq at a;split at a
 .cases a
 rename_i d;have b:=h.resolve_left d;split at a
 .exact Ny b.2.2 x a
 rw[BB.1 a];exact b.2.2
def s8{n:DI}(h:Gp n)(f:Nat):Gx (A8 n) 1 f 1 f (A7 1 ((Bq n).map Aq)) f:=by unfold A8;have:=Z8 (.inl rfl) 0 f (Bq n) (λy a=>Yz y (Ww h y a) (Uw h y a));exact this.cast BS rfl
def QN{k:DJ}(h:Gp k.N){f:Nat}(a:Gx (Bv k) 1 f 1 f (Bo k) (f+forks k)):Gx (A8 k.N++Bv k) 1 f 1 f (Gl k.N (Bo k)) (f+forks k):=by
 have b:=a.lo1;refine((s8 h f).append a).cast ?_ BS;unfold Gl;have e:A7 (Bo k) ((Bq k.N).map Aq)=max (Bo k) (A7 1 ((Bq k.N).map Aq)):=by rw[<-Iu,Nat.max_eq_left b]
 omega
def Nu:List DJ->Nat
 |[]=>0
 |[k]=>forks k
 |k::t=>max (forks k+1) (Nu t)
theorem Vq:∀(a:List DJ),A7 0 (bump (a.map forks))=Nu a
 |[]=>rfl
 |[k]=>by
  show max 0 (Yl 1 0 (forks k))=forks k
  unfold Yl;rw[BQ BS];omega
 |k::y::t=>by
  have f:=Vq (y::t);have e:bump ((k::y::t).map forks)=(forks k+1)::bump ((y::t).map forks):=by
   unfold bump;rw[DX,List.mapIdx_cons];have b:Yl (forks k::(y::t).map forks).l 0 (forks k)=forks k+1:=by unfold Yl;rw[BR BU]
   have d:(λi x=>Yl (forks k::(y::t).map forks).l (i+1) x)=λi x=>Yl ((y::t).map forks).l i x:=by
    funext i x;unfold Yl;simp only[DO,DZ];by_cases hi:i+1<t.l+1
    .rw[BR BS,BR BS]
    .rw[BQ BS,BQ BS]
   rw[b,d]
  rw[e,Jj,f];rfl
theorem XG(q:n≠1)(f:Nat):∀(a:List DJ)(i:Nat),i+a.length=n->a≠[]->(∀k∈a,Gp k.N/\∀f,Gx (Bv k) 1 f 1 f (Bo k) (f+forks k))->
  Gx (D6 n i a) 1 (if i=0 then f else f+1) 1 f (A7 1 (a.map (λk=>Gl k.N (Bo k)))) (max (f+1) (f+Nu a))
 |[],_,_,h,_=>absurd rfl h
 |k::t,i,hi,_,o=>by
  rw[DO]at hi;have⟨j,r⟩:=o k BU;rw[D6];unfold Ht G0 Eh;rw[BQ q,DX,Jj];by_cases l:t=[]
  .subst l
   simp only[DU]at hi;rw[BQ BS,BR BS,BQ BS,D6,EW];have d:step (hts 1 (f+1)) (F6 9).code=hts 1 f:=by
    have e:step (hts 1 (f+1)) (F6 9).code=((1:Int),((f+1:Nat):Int) - 1):=rfl;rw[e];refine Prod.ext rfl ?_;show((f+1:Nat):Int) - 1=(f:Int)
    omega
   have b:=QN j (r f);have s:=b.lo1;refine((Gx.O d).append b).cast ?_ ?_
   .show max (max 1 1) _=max _ (A7 1 [])
    show max (max 1 1) _=max _ 1
    omega
   .show max (max (f+1) f) (f+forks k)=max (f+1) (f+Nu [k])
    show max (max (f+1) f) (f+forks k)=max (f+1) (f+forks k)
    omega
  .have v:0<t.length:=List.length_pos_iff.2 l
   have m:=XG q f t (i+1) BS l (λk j=>o k (DY _ j));rw[BQ BS]at m;have b:=QN j (r (f+1));have s:=b.lo1;have u:Nu (k::t)=max (forks k+1) (Nu t):=by
    cases t with
    |nil=>exact absurd rfl l
    |cons y t=>rfl
   rw[u];by_cases g:i=0
   .rw[BR g,BR g]
    have d:step (hts 1 f) (F6 7).code=hts 1 (f+1):=by
     have e:step (hts 1 f) (F6 7).code=((1:Int),((f:Nat):Int)+1):=rfl;rw[e];refine Prod.ext rfl ?_;show((f:Nat):Int)+1=((f+1:Nat):Int)
     omega
    refine(((Gx.O d).append b).append m).cast ?_ ?_
    .omega
    .omega
   .rw[BQ g,BQ BS,BQ g]
    have d:step (hts 1 (f+1)) (F6 8).code=hts 1 (f+1):=NN xCq;refine(((Gx.O d).append b).append m).cast ?_ ?_
    .omega
    .omega
theorem Zx(a:DJ):Em a->∀f,Gx (Bv a) 1 f 1 f (Bo a) (f+forks a):=by
 refine Fv (λa=>Em a->∀f,Gx (Bv a) 1 f 1 f (Bo a) (f+forks a)) ?_ a;intro n d kids o h f;have g:=((Ec _ _ _).1 h).2;have b:∀k∈kids,Gp k.N/\∀f,Gx (Bv k) 1 f 1 f (Bo k) (f+forks k):=by intro k e;refine⟨?_,o k e (g k e)⟩;have:=g k e;obtain⟨q,r,s⟩:=k;exact((Ec _ _ _).1 this).1
 rw[Nj,Oi,Ut,Vq]
 match kids,b with
 |[],_=>exact((Xd f d).append (Gx.nil 1 f)).cast (by show max 1 1=1;omega) (by show max f f=f+0;omega)
 |[k],b=>
  have i:=QN (b k BU).1 ((b k BU).2 f);have l:D6 [k].l 0 [k]=A8 k.N++Bv k:=by show(([]:List Aw)++(A8 k.N++Bv k))++[]=_;rw[EB,EW]
  have j:=i.lo1;rw[l];refine((Xd f d).append i).cast ?_ ?_;{show max 1 _=max 1 _;rfl};show max f (f+forks k)=f+forks k;omega
 |k::y::t,b=>have hF:=XG (n:=(k::y::t).l) BU f (k::y::t) 0 BU BU b;rw[BR rfl]at hF;have j:=hF.lo1;have m:Nu (k::y::t)=max (forks k+1) (Nu (y::t)):=rfl;refine((Xd f d).append hF).cast ?_ ?_;{omega};rw[m];omega
def vA{a:DJ}(h:Em a)(d:fine a.N):Gx (Eb a) 0 0 0 0 (G9 a) (forks a):=by have f:=Yz a.N (full_of _ d.2.2) d.2.2 0 0;have b:=Zx a h 0;have e:step (hts 1 0) (F6 11).code=hts 0 0:=rfl;have g:=b.lo1;refine(f.append (b.append (Gx.O e))).cast ?_ BS;unfold G9;omega
theorem Vi:∀(l:List DJ),(∀a∈l,Em a/\fine a.N)->Gx ((l.map Eb).flatten) 0 0 0 0 (A7 0 (l.map G9)) (A7 0 (l.map forks))
 |[],_=>Gx.nil _ _
 |a::l,h=>by
  rw[DX,EN,DX,DX,Jj,Jj];exact(vA (h a BU).1 (h a BU).2).append (Vi l (λx b=>h x (DY _ b)))
theorem Ul:∀{l m:List Aw}{s t:Pt},run s l=some t->run s (l++m)=run t m
 |[],_,_,_,h=>by injection h with h;subst h;rfl
 |i::r,m,s,t,h=>by
  rw[run]at h;rw[D4,run];split at h
  .cases h
  .rename_i a
   rw[BQ a];exact Ul h
def Z7{i:Aw}{s:Pt}(h:wrong s i=0):run s [i]=some (next s i.code):=by rw[run,BQ BS];rfl
def NJ{s:Pt}{i:Aw}(h0:Ju i=true)(d:i.code<7)(h1:needs i.code<=s.bits)(a:i.code=1->s.bits≠16)(b:s.seen=true->s.bits=low i.code->¬(i.code=3\/i.code=6\/i.code=5)):wrong s i=0:=by unfold wrong;rw[BQ (by rw[h0];decide),BQ BS,BQ (by intro h;exact a h.1 h.2),BQ BS,BQ (by intro h;exact b h.1 h.2.1 h.2.2),BQ BS,BQ BS,BQ BS,BQ BS]
def e4(s:Pt):next s 1=⟨s.bits+1,s.forks,s.seen,false⟩:=by
 unfold next
 simp
theorem Z3(h:c=2\/c=3\/c=6)(s:Pt):next s c=⟨s.bits,s.forks,s.seen,false⟩:=by
 unfold next
 rcases h with rfl|rfl|rfl<;>simp
theorem Ayq(h:c=4\/c=5)(s:Pt):next s c=⟨s.bits - 1,s.forks,s.seen,false⟩:=by
 unfold next
 rcases h with rfl|rfl<;>simp
def YU(h:c=1\/c=2\/c=3){e:Elem}(a:Dc e.op e.args=true):Ju ⟨c,e⟩=true:=by unfold Ju;simp only;rwa[BQ BS,BR BS]
def SS(h:4<=c)(b:c<=11)(a:c≠10):Ju (F6 c)=true:=by unfold Ju F6;simp only;rw[BQ BS,BQ BS,BQ a];rfl
theorem ZD{e:Elem}{kids:List DI}(h:Am ⟨1,e,kids⟩=0):Dc e.op e.args=true:=by
 rw[Kr,BR rfl]at h;split at h
 .omega
 split at h
 .rename_i a;exact a
 omega
theorem Ayx(f:k=2\/k=3){y:DI}(u:Am y=0)
  (v:∀s:Pt,0<=s.bits->s.bits+Ak y<=16->(s.seen=true->1<=s.bits)->run s (Cf y)=some ⟨s.bits+1,s.forks,s.seen,false⟩)
  (s:Pt) (h1:1<=s.bits) (m:s.bits+Aq y<=17) (j:s.seen=true->2<=s.bits\/k=2):run s (Dp k y)=some ⟨s.bits,s.forks,s.seen,false⟩:=by
 by_cases a:y.kind=1
 .rw[Je k y a];have q:Dc y.O.op y.O.args=true:=by obtain⟨o,e,kids⟩:=y;obtain rfl:o=1:=a;exact ZD u
  have r:needs k=1:=xBy;have i:low k=1:=xBy;rw[Z7 (NJ (YU BS q) (by show k<7;omega) (by show needs k<=_;omega) (by intro h;exfalso;have b:k=1:=h;omega) ?_)];{show some (next s k)=_;rw[Z3 BS]};intro d g h;have l:s.bits=low k:=g;have b:k=3\/k=6\/k=5:=h;have:=j d;omega
 rw[Ie k y a];rw[Vd a]at m;have t:=v s BS BS (λ_=>h1);rw[Ul t];have r:needs (k+2)=2:=xBy;have i:k=3->low (k+2)=2:=by rintro rfl;rfl
 rw[Z7 (NJ (SS BS BS BS) (by show k+2<7;omega) (by show needs (k+2)<=s.bits+1;omega) (by intro h;exfalso;have b:k+2=1:=h;omega) ?_)]
 .show some (next _ (k+2))=_;rw[Ayq BS];simp
 intro d g h;have l:s.bits+1=low (k+2):=g;have b:k+2=3\/k+2=6\/k+2=5:=h;have x:=j d;have w:=i BS;omega
theorem RD(d:k=2\/k=3):∀(r:List DI),(∀y∈r,Am y=0/\∀s:Pt,0<=s.bits->s.bits+Ak y<=16->(s.seen=true->1<=s.bits)->run s (Cf y)=some ⟨s.bits+1,s.forks,s.seen,false⟩)->
  ∀s:Pt,1<=s.bits->s.bits+A7 1 (r.map Aq)<=17->(s.seen=true->2<=s.bits\/k=2)->∃c,run s ((r.map (Dp k)).flatten)=some ⟨s.bits,s.forks,s.seen,c⟩/\(r≠[]->c=false)
 |[],_,s,_,_,_=>⟨s.coil,rfl,λh=>absurd rfl h⟩
 |y::r,h,s,a,i,f=>by
  rw[DX,Jj]at i;rw[DX,EN];rw[Ul (Ayx d (h y BU).1 (h y BU).2 s a BS f)];have⟨c,e,j⟩:=RD d r (λz g=>h z (DY _ g)) ⟨s.bits,s.forks,s.seen,false⟩ a (by show s.bits+_<=17;omega) f;by_cases b:r=[]
  .subst b
   exact⟨false,rfl,λ_=>rfl⟩
  .exact⟨c,e,λ_=>j b⟩
theorem cX(n:DI):Am n=0->∀s:Pt,0<=s.bits->s.bits+Ak n<=16->(s.seen=true->1<=s.bits)->run s (Cf n)=some ⟨s.bits+1,s.forks,s.seen,false⟩:=by
 refine Gs (λn=>Am n=0->∀s:Pt,0<=s.bits->s.bits+Ak n<=16->(s.seen=true->1<=s.bits)->run s (Cf n)=some ⟨s.bits+1,s.forks,s.seen,false⟩) ?_ n;intro k e kids g l s i d b;have A:=l;rcases Fq l with⟨rfl,rfl⟩|⟨u,q,a⟩|⟨rfl,_,x,rfl,o⟩
 .rw[Lt];rw[V4]at d;rw[Z7 (NJ (YU (.inl rfl) (ZD A)) (by show(1:Int)<7;decide) (by show(0:Int)<=_;omega) (by intro _;omega) (by intro _ _ h;have m:(1:Int)=3\/(1:Int)=6\/(1:Int)=5:=h;omega))];exact congrArg some (e4 s)
 .obtain⟨x,r,rfl⟩:∃x r,kids=x::r:=by
   cases kids with
   |nil=>simp at q
   |cons x r=>exact⟨x,r,rfl⟩
  rw[Lh e x r BS]at d;have E:=(Yz x (full_of x (a x BU)) (a x BU) 0 0).hi1;have C:A7 (Ak x) (r.map Aq)=max (Ak x) (A7 1 (r.map Aq)):=by
   rw[<-Iu,Nat.max_eq_left BS]
  rw[Jd e x r BS BS,Ul (g x BU (a x BU) s i BS b)];have⟨c,t,v⟩:=RD u r (λy f=>⟨a y (DY _ f),g y (DY _ f) (a y (DY _ f))⟩) ⟨s.bits+1,s.forks,s.seen,false⟩ (by show 1<=s.bits+1;omega) (by show s.bits+1+_<=17;omega) (λh=>.inl (by have:=b h;show 2<=s.bits+1;omega));by_cases j:r=[]
  .subst j;rfl
  .rw[t,v j]
 rw[Lh e x [] BZ]at d;rw[Lu,Ul (g x BU o s i d b)];rw[Z7 (NJ (SS BZ BZ BZ) (by show(6:Int)<7;decide) (by show(1:Int)<=s.bits+1;omega) (by intro h;have m:(6:Int)=1:=h;omega) ?_)]
 .exact congrArg some (Z3 xCq _)
 intro w z _;have D:s.bits+1=1:=z;have:=b w;omega
def VS(c:Elem)(cs:List Elem):Dq (c::cs)=(!F7 c.op c.args || Dq cs):=rfl
theorem cM:∀(a:List Elem)(s:Pt),s.bits=1->Dq a=false->run s (Gz a)=some (if a=[] then s else⟨1,s.forks,true,true⟩)
 |[],s,_,_=>rfl
 |c::a,s,b,h=>by
  rw[VS,Bool.or_eq_false_iff]at h;have g:F7 c.op c.args=true:=by simpa using h.1
  have e:wrong s ⟨10,c⟩=0:=by
   unfold wrong;have d:Ju ⟨10,c⟩=true:=g;have i:needs (10:Int)=1:=rfl;simp only;rw[BQ (by rw[d];decide),BQ BS,BQ BS,BQ BS,BQ yFe,BQ BS,BQ BS,BQ BS,BQ yFe]
  have f:next s 10=⟨1,s.forks,true,true⟩:=by
   unfold next
   simp[b]
  rw[BQ BU];show run s ([⟨10,c⟩]++Gz a)=_
  rw[Ul (Z7 e)];show run (next s 10) (Gz a)=_
  rw[f,cM a _ rfl h.2];split<;>rfl
def xW{n:DI}(h:Gp n)(s:Pt)(h1:s.bits=1)(b:A7 1 ((Bq n).map Aq)<=16):∃c,run s (A8 n)=some ⟨1,s.forks,s.seen,c⟩:=by unfold A8;have⟨c,e,_⟩:=RD (.inl rfl) (Bq n) (λy a=>⟨Uw h y a,cX y (Uw h y a)⟩) s BS BS (λ_=>.inr rfl);rw[h1]at e;exact⟨c,e⟩
def Ly(a:DJ):Prop:=∀s:Pt,s.bits=1->0<=s.forks->Bo a<=16->s.forks+forks a<=8->run s (Bv a)=some ⟨1,s.forks,true,true⟩
theorem RU{k:DJ}(h:Gp k.N)(f:Ly k)(s:Pt)(h1:s.bits=1)(h0:0<=s.forks)(i:Gl k.N (Bo k)<=16)(b:s.forks+forks k<=8)(g:Gx (Bv k) 1 0 1 0 (Bo k) (0+forks k)):
  run s (A8 k.N++Bv k)=some ⟨1,s.forks,true,true⟩:=by
 have a:=g.lo1;have e:Gl k.N (Bo k)=max (Bo k) (A7 1 ((Bq k.N).map Aq)):=by unfold Gl;rw[<-Iu,Nat.max_eq_left a]
 have⟨c,d⟩:=xW h s h1 BS;rw[Ul d];exact f ⟨1,s.forks,s.seen,c⟩ rfl h0 BS b
theorem QC{s:Pt}(e:c=7\/c=8\/c=9)(h1:s.bits=1)(b:c=7->s.forks≠8)(a:c≠7->s.forks≠0/\s.coil=true):wrong s (F6 c)=0:=by
 unfold wrong;have d:Ju (F6 c)=true:=SS BS BS BS;have g:needs c=1:=by rcases e with rfl|rfl|rfl<;>rfl
 have f:(F6 c).code=c:=rfl;rw[f];rw[BQ (by rw[d];decide),BQ BS,BQ BS,BQ BS,BQ yFe,BQ (by intro h;exact b h.1 h.2),BQ (by intro h;exact(a BS).1 h.2),BQ BS,BQ (by intro h;rw[(a BS).2]at h;exact absurd h.2 BZ)]
theorem cI(v:n≠1)(f:Int)(u:0<=f):∀(b:List DJ)(i:Nat),i+b.length=n->b≠[]->(∀k∈b,Gp k.N/\Ly k/\Gx (Bv k) 1 0 1 0 (Bo k) (0+forks k))->
  ∀s:Pt,s.bits=1->s.forks=(if i=0 then f else f+1)->(i≠0->s.coil=true)->A7 1 (b.map (λk=>Gl k.N (Bo k)))<=16->f+1<=8->f+Nu b<=8->run s (D6 n i b)=some ⟨1,f,true,true⟩
 |[],_,_,h,_,_,_,_,_,_,_,_=>absurd rfl h
 |k::t,i,hi,_,q,s,d,a,o,A,D,hF=>by
  rw[DO]at hi;have⟨j,w,r⟩:=q k BU;rw[DX,Jj]at A;rw[D6];unfold Ht G0 Eh;rw[BQ v];by_cases l:t=[]
  .subst l
   simp only[DU]at hi;rw[BQ BS,BR BS,D6,EW];rw[BQ BS]at a;rw[Ul (Z7 (QC (.inr (.inr rfl)) d yFe (λ_=>⟨BS,o BS⟩)))];have m:next s (F6 9).code=⟨1,f,s.seen,false⟩:=by
    show next s 9=_
    unfold next
    simp[d,a]
   have x:f+(forks k:Int)<=8:=hF;rw[m,RU j w ⟨1,f,s.seen,false⟩ rfl u BS x r]
  .have H:0<t.length:=List.length_pos_iff.2 l
   have E:Nu (k::t)=max (forks k+1) (Nu t):=by
    cases t with
    |nil=>exact absurd rfl l
    |cons y t=>rfl
   rw[E]at hF;have rest:∀c:Int,∀g:Pt,wrong s (F6 c)=0->next s (F6 c).code=g->g.bits=1->g.forks=f+1->run s ([F6 c]++(A8 k.N++Bv k)++D6 n (i+1) t)=some ⟨1,f,true,true⟩:=by
    intro c g G m C z;rw[EG,Ul (Z7 G),m,Ul (RU j w g C BS BS BS r),z];exact cI v f u t (i+1) BS l (λk j=>q k (DY _ j)) ⟨1,f+1,true,true⟩ rfl (by rw[BQ BS]) (λ_=>rfl) BS D BS
   by_cases e:i=0
   .rw[BR e]
    rw[BR e]at a;refine rest 7 ⟨1,f+1,true,false⟩ (QC (.inl rfl) d (λ_=>by omega) (λh=>absurd rfl h)) ?_ rfl rfl;show next s 7=_
    unfold next
    simp[d,a]
   .rw[BQ e,BQ BS]
    rw[BQ e]at a;refine rest 8 ⟨1,f+1,s.seen,false⟩ (QC (.inr (.inl rfl)) d yFe (λ_=>⟨BS,o e⟩)) ?_ rfl rfl;show next s 8=_
    unfold next
    simp[d,a]
theorem Ayi{n:DI}{cs:List Elem}{kids:List DJ}(h:Cm ⟨n,cs,kids⟩=0):Dq cs=false/\(kids=[]->cs≠[]):=by
 unfold Cm at h;simp only at h;split at h
 .rename_i b;omega
 split at h
 .omega
 rename_i a;refine⟨xCk,?_⟩;rintro rfl rfl;simp at h
theorem Axf(a:DJ):Em a->Cb a=0->Ly a:=by
 refine Fv (λa=>Em a->Cb a=0->Ly a) ?_ a;intro n f kids I h L s o v d hF;have⟨u,J⟩:=Ir.1 L;have⟨z,j⟩:=Ayi u;have A:=((Ec _ _ _).1 h).2;have e:∀k∈kids,Gp k.N/\Ly k/\Gx (Bv k) 1 0 1 0 (Bo k) (0+forks k):=by intro k l;have g:=A k l;refine⟨?_,I k l g (J k l),Zx k g 0⟩;obtain⟨O,P,Q⟩:=k;exact((Ec _ _ _).1 g).1
 rw[Oi]at d;rw[Ut,Vq]at hF;rw[Nj,Ul (cM f s o z)];have r:∃b:Pt,(if f=[] then s else⟨1,s.forks,true,true⟩)=b/\b.bits=1/\b.forks=s.forks/\(f≠[]->b=⟨1,s.forks,true,true⟩):=by by_cases i:f=[];{exact⟨s,BR i,o,rfl,λh=>absurd i h⟩};exact⟨⟨1,s.forks,true,true⟩,BQ i,rfl,rfl,λ_=>rfl⟩
 obtain⟨b,C,m,q,w⟩:=r;rw[C]
 match kids,e,j,d,hF with
 |[],_,j,_,_=>show some b=_;rw[w (j rfl)]
 |[k],e,_,d,hF=>
  have D:D6 [k].l 0 [k]=A8 k.N++Bv k:=by show(([]:List Aw)++(A8 k.N++Bv k))++[]=_;rw[EB,EW]
  have⟨K,x,H⟩:=e k BU;have N:max 1 (Gl k.N (Bo k))<=16:=d;have M:s.forks+(forks k:Int)<=8:=hF;rw[D,RU K x b m BS BS BS H,q]
 |k::y::t,e,_,d,hF=>
  have G:Nu (k::y::t)=max (forks k+1) (Nu (y::t)):=rfl;have E:s.forks+1<=8:=by rw[G]at hF;omega
  exact cI (n:=(k::y::t).l) BU s.forks v (k::y::t) 0 BU BU e b m (by rwa[BR rfl]) (λh=>absurd rfl h) d E hF
def Ax1{a:DJ}(h:Em a)(e:fine a.N)(f:Cb a=0)(b:G9 a<=16)(i:forks a<=8):run pt0 (Eb a)=some pt0:=by unfold G9 at b;have d:=cX a.N e.2.2 pt0 BZ (by show(0:Int)+Ak a.N<=16;omega) (λh=>absurd h BZ);unfold Eb;rw[Ul d];have g:=Axf a h f ⟨pt0.bits+1,pt0.forks,pt0.seen,false⟩ rfl BZ BS (by show(0:Int)+forks a<=8;omega);rw[Ul g];rfl
theorem YR:∀(l:List DJ),(∀a∈l,Em a/\fine a.N/\Cb a=0/\G9 a<=16/\forks a<=8)->run pt0 ((l.map Eb).flatten)=some pt0
 |[],_=>rfl
 |a::l,h=>by
  have⟨b,d,i,f,g⟩:=h a BU;rw[DX,EN,Ul (Ax1 b d i f g)];exact YR l (λx e=>h x (DY _ e))
def noEnd(l:List Aw):Prop:=∀i∈l,i.code≠11
def Qz{l m:List Aw}(h:noEnd l)(k:noEnd m):noEnd (l++m):=λi hi=>(BI.1 hi).elim (h i) (k i)
def RG{i:Aw}(h:i.code≠11):noEnd [i]:=λj a=>by rwa[BB.1 a]
theorem RH:noEnd []:=λj a=>by cases a
theorem Rh.noEnd:∀{l:List Aw}{a b:List DI},Rh l a b->Stil.noEnd l
 |[],_,_,_=>RH
 |i::r,_,_,h=>by
  intro j d;rcases BD.1 d with rfl|d
  .have:=h.2.1;omega
  .exact Rh.noEnd h.2.2.2 j d
theorem Avx(cs:List Elem):noEnd (Gz cs):=by intro i hi;obtain⟨c,_,rfl⟩:=BM.1 hi;show(10:Int)≠11;decide
def Avk(n i:Nat):noEnd (Eh n i):=by
 unfold Eh;split
 .exact RH
 split
 .exact RG (by show(7:Int)≠11;decide)
 split
 .exact RG (by show(9:Int)≠11;decide)
 exact RG (by show(8:Int)≠11;decide)
theorem YN(n:Nat):∀(a:List DJ)(i:Nat),(∀k∈a,Gp k.N/\noEnd (Bv k))->noEnd (D6 n i a)
 |[],_,_=>RH
 |k::t,i,h=>by
  rw[D6];unfold Ht G0;exact Qz (Qz (Avk n i) (Qz (Ym (h k BU).1).noEnd (h k BU).2)) (YN n t (i+1) (λx b=>h x (DY _ b)))
theorem yk(a:DJ):Em a->noEnd (Bv a):=by refine Fv (λa=>Em a->noEnd (Bv a)) ?_ a;intro n f kids e h;have d:=((Ec _ _ _).1 h).2;rw[Nj];refine Qz (Avx f) (YN _ kids 0 (λk b=>⟨?_,e k b (d k b)⟩));have g:=d k b;obtain⟨j,l,i⟩:=k;exact((Ec _ _ _).1 g).1
theorem VJ:∀(b:List Aw)(a:List Aw)(e:Aw)(r:List Aw),noEnd b->e.code=11->Dn a (b++(e::r))=(a++(b++[e]))::Dn [] r
 |[],a,e,r,_,d=>by
  show Dn a (e::r)=_
  rw[Dn,BR d];rfl
 |x::b,a,e,r,h,d=>by
  rw[D4,Dn,BQ (h x BU),VJ b (a++[x]) e r (λi hi=>h i (DY _ hi)) d,EG];rfl
theorem ZN:∀(l:List DJ),(∀a∈l,Em a/\fine a.N)->Dn [] ((l.map Eb).flatten)=l.map Eb
 |[],_=>rfl
 |a::l,h=>by
  have⟨d,f⟩:=h a BU;have b:noEnd (Cf a.N++Bv a):=Qz (NU a.N f []).noEnd (yk a d);have e:Eb a++(l.map Eb).flatten=(Cf a.N++Bv a)++(F6 11::(l.map Eb).flatten):=by
   unfold Eb;simp
  rw[DX,EN,e,VJ _ [] (F6 11) _ b rfl,ZN l (λx b=>h x (DY _ b))];congr 1;unfold Eb;simp
theorem kM{y:DI}(h:(Cf y).length+1<=2*Ac y):(Dp k y).length<=2*Ac y:=by
 by_cases a:y.kind=1
 .rw[Je k y a,FQ,Dk];omega
 rwa[Ie k y a,DT,FQ]
theorem Rm:∀(r:List DI),(∀y∈r,(Cf y).length+1<=2*Ac y)->((r.map (Dp k)).flatten).length<=2*sizes r
 |[],_=>by simp
 |y::r,h=>by
  have b:=kM (k:=k) (h y BU);have d:((r.map (Dp k)).flatten).length<=2*sizes r:=Rm r (λz a=>h z (DY _ a));rw[DX,EN,DT,Fp];omega
theorem SJ(n:DI):shp n->(Cf n).length+1<=2*Ac n:=by
 refine Gs (λn=>shp n->(Cf n).length+1<=2*Ac n) ?_ n;intro k e kids a j;rw[Dk];show _<=2*(1+sizes kids);rcases ZR j with⟨rfl,rfl⟩|⟨l,g,b⟩|⟨rfl,_,x,rfl,f⟩
 .rw[Lt,FQ,Ti];omega
 .obtain⟨x,r,rfl⟩:∃x r,kids=x::r:=by
   cases kids with
   |nil=>simp at g
   |cons x r=>exact⟨x,r,rfl⟩
  have i:=a x BU (b x BU);have m:=Rm (k:=k) r (λy d=>a y (DY _ d) (b y (DY _ d)));rw[Jd e x r BS BS,DT,Fp];omega
 have i:=a x BU f;rw[Lu,DT,FQ,Fp,Ti];omega
def SU(n:DI)(h:Am n=0):(Cf n).length+1<=2*Ac n:=SJ n (S0 n h)
theorem ZG{n:DI}(h:Gp n):(A8 n).length<=2*CJ n:=by
 unfold A8;have d:=Rm (k:=2) (Bq n) (λy b=>SU y (Uw h y b));have e:sizes (Bq n)<=CJ n:=by unfold Bq CJ;by_cases a:Ai n=true;{rw[BR a,BR a];exact DK _};rw[BQ a,BQ a];split;{rw[Dk];omega};rw[Fp,Ti];omega
 omega
def Y4(n i:Nat):(Eh n i).length<=1:=by
 unfold Eh;split
 .simp
 split
 .simp
 split<;>simp
theorem WE(n:Nat):∀(a:List DJ)(i:Nat),(∀k∈a,Gp k.N/\(Bv k).length+2+2*CJ k.N<=2*Ah k)->(D6 n i a).length<=2*I4 a
 |[],_,_=>by simp[D6]
 |k::t,i,h=>by
  have⟨b,f⟩:=h k BU;have g:=Y4 n i;have j:=ZG b;have l:=WE n t (i+1) (λx d=>h x (DY _ d));have e:I4 (k::t)=Ah k+I4 t:=by simp[I4]
  rw[D6,e];unfold Ht G0;rw[DT,DT,DT];omega
theorem dD(a:DJ):Em a->(Bv a).length+2+2*CJ a.N<=2*Ah a:=by
 refine Fv (λa=>Em a->(Bv a).length+2+2*CJ a.N<=2*Ah a) ?_ a;intro n e kids g h;have d:=((Ec _ _ _).1 h).2;have m:=WE kids.length kids 0 (λk b=>⟨by have j:=d k b;obtain⟨i,l,f⟩:=k;exact((Ec i l f).1 j).1,g k b (d k b)⟩);rw[Nj,DT,Dw];have o:(Gz e).length=e.length:=by simp[Gz]
 show _+2+2*CJ n<=_;omega
def iu{a:DJ}(h:Em a)(b:fine a.N):(Eb a).length<=2*Ah a:=by
 have d:=dD a h;have e:=SU a.N b.2.2;have f:CJ a.N=Ac a.N:=by unfold CJ;rw[BQ (by rw[Yf b];decide)]
 unfold Eb;rw[DT,DT,FQ];omega
theorem ZO:∀(l:List DJ),(∀a∈l,Em a/\fine a.N)->((l.map Eb).flatten).length<=2*Au l
 |[],_=>by simp
 |a::l,h=>by
  have d:=iu (h a BU).1 (h a BU).2;have f:=ZO l (λx b=>h x (DY _ b));have e:Au (a::l)=Ah a+Au l:=by simp[Au]
  rw[DX,EN,DT,e];omega
structure UJ(a:DJ):Prop where
 fineA:Em a
 N:fine a.N
 norm:H8 a
 right:Cb a=0
 size:Ah a<=400
def Ou{l:List DJ}(q:∀x∈l,Bh x)(h:(Ap l).1=0):(∀a∈Aj l,UJ a)/\Au (Aj l)<=400/\(Ap (Aj l)).1=0:=by
 have⟨i,r,_⟩:=ru q h;have d:(Ap (Aj l)).1=0:=by rw[i]
 have g:=Nr d;refine⟨λa b=>?_,g.2.2.1,d⟩;have⟨j,o⟩:=U2 l a b;have⟨s,m⟩:=Kz d b;have e:Aj l=l.map Dz:=by unfold Aj;rw[BR h]
 have f:H8 a:=by rw[e]at b;obtain⟨x,p,rfl⟩:=BM.1 b;exact Vv x (Kz h p).1
 refine⟨j,(QB f).resolve_left (by rw[o];decide),f,(g.2.2.2 a b).2,m⟩
def NR{l:List DJ}(h:(Ap l).1≠0):Ep l=[]/\Hm l=0/\F9 l=0:=by
 have e:Aj l=[]:=by unfold Aj;rw[BQ h]
 unfold Ep Hm F9;rw[e];exact⟨rfl,rfl,rfl⟩
theorem P9{l:List DJ}(e:∀x∈l,Bh x):(Ep l).length<=800:=by
 by_cases h:(Ap l).1=0
 .have⟨b,f,_⟩:=Ou e h;have:=ZO (Aj l) (λa d=>⟨(b a d).fineA,(b a d).N⟩);show((Aj l).map Eb).flatten.length<=800;omega
 rw[(NR h).1];exact EI _
theorem yZ{l:List DJ}(f:∀x∈l,Bh x):Jn (Ep l)=hts (Hm l) (F9 l):=by
 by_cases h:(Ap l).1=0
 .have⟨b,d,_⟩:=Ou f h;have g:=P9 f;have i:=(Vi (Aj l) (λa e=>⟨(b a e).fineA,(b a e).N⟩)).top 0 0 (DK _) (DK _);unfold Jn Qw;rw[BQ BS];show Iq (hts 0 0) (Hq (hts 0 0) ((Aj l).map Eb).flatten)=_;rw[i,Nat.max_eq_right (EI _),Nat.max_eq_right (EI _)];rfl
 have⟨b,d,g⟩:=NR h;rw[b,d,g];rfl
theorem QL:∀(l:List Nat)(b x:Nat),x∈l->x<=A7 b l
 |[],_,_,h=>by cases h
 |y::r,b,x,h=>by
  rw[Jj];rcases BD.1 h with rfl|h
  .exact MZ _ _
  .exact DR (QL r b x h) (Of _ _)
theorem YQ{l:List DJ}(d:∀x∈l,Bh x)(i:Hm l<=16)(j:F9 l<=8):Be (Ep l)=(0,0):=by
 by_cases h:(Ap l).1=0
 .have⟨e,f,_⟩:=Ou d h;refine ZQ (Tt.2 ⟨by have:=P9 d;omega,pt0,YR (Aj l) (λa b=>?_),BZ⟩);have g:=e a b;have m:G9 a<=Hm l:=QL _ _ _ (IC b);have o:forks a<=F9 l:=QL _ _ _ (IC b);exact⟨g.fineA,g.N,g.right,BS,BS⟩
 rw[(NR h).1];rfl
theorem vn{l:List DJ}(f:∀x∈l,Bh x)(g:Hm l<=16)(i:F9 l<=8):Ef (Ep l)=(Aj l).map Eb:=by
 unfold Ef;rw[YQ f g i,BQ BZ];by_cases h:(Ap l).1=0
 .have⟨b,_⟩:=Ou f h;exact ZN (Aj l) (λa d=>⟨(b a d).fineA,(b a d).N⟩)
 have e:Aj l=[]:=by unfold Aj;rw[BQ h]
 rw[(NR h).1,e];rfl
theorem eT:∀(l:List DJ),(∀a∈l,UJ a)->UpR (l.map Eb) l
 |[],_=>rfl
 |a::l,h=>by
  have g:=h a BU;have d:=g.size;exact⟨a,l,F6 11,rfl,zT g.norm g.N BS,eT l (λx b=>h x (DY _ b))⟩
def g7{l:List DJ}(a:∀x∈l,Bh x)(h:(Ap l).1=0)(d:Hm l<=16)(e:F9 l<=8):UpR (Ef (Ep l)) (Aj l)/\FV (Aj l)=(Aj l,0):=by have⟨b,_,f⟩:=Ou a h;rw[vn a d e];refine⟨eT _ b,?_⟩;unfold FV;rw[f,BQ BZ]
theorem NS(i:k=2\/k=3){a:DI}(h:fine a):∃x r,opn k a=x::r/\(∀y∈x::r,fine y/\y.kind≠k)/\Cf a=Cf x++(r.map (Dp k)).flatten/\Ak a=A7 (Ak x) (r.map Aq):=by
 by_cases e:a.kind=k
 .obtain⟨f,o,kids⟩:=a;obtain rfl:f=k:=e;rcases Fq h.2.2 with⟨d,_⟩|⟨_,g,_⟩|⟨d,_⟩;{omega}
  .obtain⟨x,r,rfl⟩:∃x r,kids=x::r:=by
    cases kids with
    |nil=>simp at g
    |cons x r=>exact⟨x,r,rfl⟩
   refine⟨x,r,by unfold opn;rw[BR rfl],λy b=>⟨RO h y b,(((Jv _).1 h.1).1 i).2 y b⟩,Jd o x r BS BS,Lh o x r BS⟩
  omega
 exact⟨a,[],by unfold opn;rw[BQ e],λy b=>by rw[BB.1 b];exact⟨h,e⟩,BU,rfl⟩
def RI{n:DI}(h:fine n):1<=Ak n:=by have:=(Yz n (full_of n h.2.2) h.2.2 0 0).hi1;omega
theorem eU(n:DI):Aq n<=1+Ak n:=by
 by_cases h:n.kind=1
 .rw[N2 h];omega
 rw[Vd h];omega
theorem e8(k:Int)(n:DI):(Dp k n).length<=(Cf n).length+1:=by
 by_cases h:n.kind=1
 .rw[Je k n h];simp
 rw[Ie k n h];simp
theorem dn(i:k=2\/k=3){b:DI}(h:fine b):(((opn k b).map (Dp k)).flatten).length<=(Dp k b).length/\A7 1 ((opn k b).map Aq)<=Aq b:=by
 by_cases e:b.kind=k
 .have⟨x,r,d,a,g,l⟩:=NS i h;have f:b.kind≠1:=BS;have j:=RI (a x BU).1;have m:A7 (Ak x) (r.map Aq)=max (Ak x) (A7 1 (r.map Aq)):=by rw[<-Iu,Nat.max_eq_left j]
  rw[d,Ie k b f,Vd f,g,l,DX,EN,DX,Jj];have q:=e8 k x;have o:=eU x;refine⟨?_,BS⟩;simp only[DT,FQ];omega
 have d:opn k b=[b]:=by unfold opn;rw[BQ e]
 rw[d];refine⟨BU,?_⟩;show max 1 (Aq b)<=Aq b;have:1<=Aq b:=by by_cases a:b.kind=1;{rw[N2 a];omega};rw[Vd a];omega
 omega
def N3(f:k=2\/k=3){a b:DI}(l:fine a)(j:fine b):fine (Jr k a b):=by have⟨x,r,m,g,_⟩:=NS f l;have⟨y,t,o,i,_⟩:=NS f j;unfold Jr;rw[m,o];have e:∀z∈x::r++y::t,fine z/\z.kind≠k:=λz d=>(BI.1 d).elim (g z) (i z);refine⟨(Jv _).2 ⟨λ_=>⟨BU,λz d=>(e z d).2⟩,λz d=>(e z d).1.1⟩,(Jl _).2 ⟨λ_=>rfl,λz d=>(e z d).1.2.1⟩,Rb f BU (λz d=>(e z d).1.2.2)⟩
theorem dS(d:k=2\/k=3){a b:DI}(i:fine a)(g:fine b):(Cf (Jr k a b)).length<=(Cf a).length+(Dp k b).length/\Ak (Jr k a b)<=max (Ak a) (Aq b):=by
 have⟨x,r,j,e,f,o⟩:=NS d i;have⟨u,s⟩:=dn d g;unfold Jr;rw[j,D4,Jd _ x _ BS BS,Lh _ x _ BS,f,o];rw[D2,FY,D2,VL];refine⟨?_,?_⟩
 .simp only[DT];omega
 have l:=RI (e x BU).1;have q:A7 (Ak x) (r.map Aq)=max (Ak x) (A7 1 (r.map Aq)):=by rw[<-Iu,Nat.max_eq_left l]
 have m:1<=A7 (Ak x) (r.map Aq):=BS;have t:A7 (A7 (Ak x) (r.map Aq)) ((opn k b).map Aq)=max (A7 (Ak x) (r.map Aq)) (A7 1 ((opn k b).map Aq)):=by rw[<-Iu,Nat.max_eq_left m]
 omega
theorem Yh{e:Elem}(h:Dc e.op e.args=true):fine (E5 e):=by
 unfold E5;refine⟨(Jv _).2 ⟨λh=>?_,(λx a=>by cases a)⟩,(Jl _).2 ⟨λh=>?_,(λx a=>by cases a)⟩,?_⟩
 .have b:(1:Int)=2\/(1:Int)=3:=h;omega
 .have b:(1:Int)=2\/(1:Int)=3:=h;omega
 rw[Kr,BR rfl,BQ BU,BR h]
def j7{a:DI}(h:fine a):fine (IF a):=by
 unfold IF;refine⟨(Jv _).2 ⟨λh=>?_,λx b=>by rw[BB.1 b];exact h.1⟩,(Jl _).2 ⟨λ_=>rfl,λx b=>by rw[BB.1 b];exact h.2.1⟩,?_⟩
 .have e:(4:Int)=2\/(4:Int)=3:=h;omega
 rw[Kr,BQ BZ];have d:V6 4 (⟨0,[]⟩:Elem).op (⟨0,[]⟩:Elem).args.l [a].l=false:=Bn;rw[BQ (by rw[d];exact GF)];simp only[DX,FD,Az];rw[BQ (by have:=h.2.2;omega)]
def j8(a:DI):(Cf (IF a)).length=(Cf a).length+1/\Ak (IF a)=Ak a:=by unfold IF;rw[Lu,Lh _ a [] BZ];exact⟨BU,rfl⟩
def IE(n:DI):Nat:=A7 1 ((Bq n).map Aq)
def QS{n:DI}(h:fine n):Bq n=opn 2 n:=by unfold Bq opn;rw[BQ (by rw[Yf h];decide)]
theorem cB{a b:DI}(i:Gp a)(d:fine b):Gp (Gw 2 a b)/\(A8 (Gw 2 a b)).length<=(A8 a).length+(Dp 2 b).length/\IE (Gw 2 a b)<=max (IE a) (Aq b):=by
 have⟨s,q⟩:=dn (.inl rfl) d;unfold A8 IE;by_cases f:a.kind=0
 .have g:Ai a=true:=by
   rcases i with h|h
   .exact h
   .exact absurd f (Qe h)
  have e:Gw 2 a b=b:=by unfold Gw;rw[BR f]
  rw[e,QS d];exact⟨.inr d,BS,BS⟩
 have j:fine a:=i.resolve_left (λg=>f (by rw[U3 g];rfl));have e:Gw 2 a b=Jr 2 a b:=by unfold Gw;rw[BQ f]
 have l:=N3 (.inl rfl) j d;have o:opn 2 (Jr 2 a b)=opn 2 a++opn 2 b:=by unfold opn;rw[BR (show(Jr 2 a b).kind=2 from rfl)];rfl
 rw[e,QS l,QS j,o,D2,FY,D2,VL];refine⟨.inr l,xCn,?_⟩;have m:1<=A7 1 ((opn 2 a).map Aq):=by have:=Iu ((opn 2 a).map Aq) 1 1;rw[Nat.max_self]at this;omega
 have r:A7 (A7 1 ((opn 2 a).map Aq)) ((opn 2 b).map Aq)=max (A7 1 ((opn 2 a).map Aq)) (A7 1 ((opn 2 b).map Aq)):=by rw[<-Iu,Nat.max_eq_left m]
 omega
def StR(kid:Bool)(B:Nat):List DI->Nat->Prop
 |[],c=>kid=false/\c=0
 |n::r,c=>if kid=true/\r=[] then Gp n/\c=(A8 n).length/\IE n<=B else fine n/\r.length+Ak n<=B/\∃a,StR kid B r a/\c=a+(Cf n).length
def StR.push{kid:Bool}{n:DI}{r:List DI}{a:Nat}(h:StR kid B r a)(d:¬(kid=true/\r=[]))(e:fine n)(b:r.length+Ak n<=B):StR kid B (n::r) (a+(Cf n).length):=by rw[StR,BQ d];exact⟨e,b,a,h,rfl⟩
def StR.pop{kid:Bool}{n:DI}{r:List DI}{c:Nat}(h:StR kid B (n::r) c)(b:¬(kid=true/\r=[])):fine n/\r.length+Ak n<=B/\∃a,StR kid B r a/\c=a+(Cf n).length:=by rwa[StR,BQ b]at h
def StR.base{n:DI}{c:Nat}:StR true B [n] c↔Gp n/\c=(A8 n).length/\IE n<=B:=by rw[StR,BR ⟨rfl,rfl⟩]
def TT{a b:DI}(h:fine a):Gw k a b=Jr k a b:=by unfold Gw;rw[BQ (Qe h)]
def tj(k:Int)(e:Elem):(Dp k (E5 e)).length=1:=by rw[Je k _ rfl];rfl
def do2(e:Elem)(a:DI)(r:List DI):Lr 2 e (a::r)=Gw 2 a (E5 e)::r:=rfl
def do3(e:Elem)(a:DI)(r:List DI):Lr 3 e (a::r)=Gw 3 a (E5 e)::r:=rfl
def do4(e:Elem)(a b:DI)(r:List DI):Lr 4 e (a::b::r)=Gw 2 b a::r:=rfl
def do5(e:Elem)(a b:DI)(r:List DI):Lr 5 e (a::b::r)=Gw 3 b a::r:=rfl
def do6(e:Elem)(a:DI)(r:List DI):Lr 6 e (a::r)=IF a::r:=rfl
theorem StR.and{kid:Bool}{c:Nat}{a:DI}{r:List DI}{e:Elem}(j:k=2\/k=3)(h:StR kid B (a::r) c)(l:Dc e.op e.args=true)(x:1<=B)(o:kid=true->r=[]->k=2):
  ∃g,g<=c+1/\StR kid B (Gw k a (E5 e)::r) g:=by
 have d:=Yh l;have u:Aq (E5 e)=1:=N2 rfl;have v:=tj k e;by_cases f:kid=true/\r=[]
 .obtain⟨rfl,rfl⟩:=f;obtain rfl:=o rfl rfl;have⟨b,q,i⟩:=StR.base.1 h;have⟨m,t,z⟩:=cB b d;exact⟨_,BS,StR.base.2 ⟨m,rfl,BS⟩⟩
 have⟨b,q,g,i,y⟩:=h.pop f;have⟨w,s⟩:=dS j b d;have:=RI b;rw[TT b];exact⟨_,BS,i.push f (N3 j b d) BS⟩
theorem StR.anb{kid:Bool}{c:Nat}{a b:DI}{r:List DI}(i:k=2\/k=3)(h:StR kid B (a::b::r) c)(o:kid=true->r=[]->k=2):
  ∃j,j<=c+1/\StR kid B (Gw k b a::r) j:=by
 have⟨e,g,E,l,C⟩:=h.pop (λq=>by have:=q.2;cases this);have z:=eU a;have x:=e8 k a;rw[DO]at g;by_cases f:kid=true/\r=[]
 .obtain⟨rfl,rfl⟩:=f;obtain rfl:=o rfl rfl;have⟨d,t,m⟩:=StR.base.1 l;have⟨s,w,D⟩:=cB d e;simp only[DU]at g;exact⟨_,BS,StR.base.2 ⟨s,rfl,BS⟩⟩
 have⟨d,t,y,m,u⟩:=l.pop f;have⟨A,v⟩:=dS i d e;rw[TT d];exact⟨_,BS,m.push f (N3 i d e) BS⟩
theorem StR.step{kid:Bool}{c:Nat}{st:List DI}{s:Pt}{i:Aw}(h:StR kid B st c)(w:i.code<7)(E:wrong s i=0)(d:s.bits=(st.length:Int))(m:kid=true->s.seen=true)(A:kid=true->st≠[])
  (H:s.bits<=B) (y:(next s i.code).bits<=B):∃o,o<=c+1/\StR kid B (Lr i.code i.O st) o:=by
 have⟨g,C,_,_,j,_⟩:=Ik E;have z:=U1 g;obtain⟨code,e⟩:=i;simp only at w C j z y⊢;have D:code=1\/code=2\/code=3\/code=4\/code=5\/code=6:=BS;have t:code<=3->Dc e.op e.args=true:=by intro q;unfold Ju at g;simp only at g;rwa[BQ BS,BR q]at g
 have one:needs code=1->∃a r,st=a::r:=by
  intro f;cases st with
  |nil=>simp only[DU]at d;omega|cons a r=>exact⟨a,r,rfl⟩
 have two:needs code=2->∃a b r,st=a::b::r:=by
  intro f
  match st,d with|[],d=>simp only[DU]at d;omega|[a],d=>simp only[DO,DU]at d;omega|a::b::r,_=>exact⟨a,b,r,rfl⟩
 rcases D with rfl|rfl|rfl|rfl|rfl|rfl
 .have x:Lr 1 e st=E5 e::st:=rfl;rw[x];have I:(next s 1).bits=s.bits+1:=by rw[e4]
  have G:Ak (E5 e)=1:=V4 e [];have K:(Cf (E5 e)).length=1:=by have:Cf (E5 e)=[⟨1,e⟩]:=Lt e [];rw[this];rfl
  exact⟨_,BS,h.push (λv=>A v.1 v.2) (Yh (t BZ)) BS⟩
 .obtain⟨a,r,rfl⟩:=one rfl;rw[do2];rw[DO]at d;exact h.and (.inl rfl) (t BZ) BS (λ_ _=>rfl)
 .obtain⟨a,r,rfl⟩:=one rfl;rw[do3];rw[DO]at d;refine h.and (.inr rfl) (t BZ) BS (λf l=>?_);subst l;simp only[DU]at d;exact absurd ⟨m f,xCe,.inl rfl⟩ j
 .obtain⟨a,b,r,rfl⟩:=two rfl;rw[do4];exact h.anb (.inl rfl) (λ_ _=>rfl)
 .obtain⟨a,b,r,rfl⟩:=two rfl;rw[do5];rw[DO,DO]at d;refine h.anb (.inr rfl) (λf l=>?_);subst l;simp only[DU]at d;exact absurd ⟨m f,by show s.bits=2;omega,.inr (.inr rfl)⟩ j
 obtain⟨a,r,rfl⟩:=one rfl;rw[do6];rw[DO]at d;by_cases u:kid=true/\r=[]
 .obtain⟨f,rfl⟩:=u;simp only[DU]at d;exact absurd ⟨m f,xCe,.inr (.inl rfl)⟩ j
 have⟨f,l,o,q,M⟩:=h.pop u;have⟨L,J⟩:=j8 a;exact⟨_,BS,q.push u (j7 f) BS⟩
def FC(B F:Nat):Pt->List Aw->Prop
 |_,[]=>True
 |s,i::r=>(next s i.code).bits<=(B:Int)/\(next s i.code).forks<=(F:Int)/\FC B F (next s i.code) r
def UU(st:List DI):Prop:=2<=st.length\/∃b,st=[b]/\fine b
theorem eE{a b:DI}(f:Gp a)(d:fine b):fine (Gw 2 a b):=by
 unfold Gw;split
 .exact d
 rename_i g;exact N3 (.inl rfl) (f.resolve_left (λe=>g (by rw[U3 e];rfl))) d
theorem StR.took{c:Nat}{st:List DI}{s:Pt}{i:Aw}(h:StR true B st c)(v:i.code<7)(C:wrong s i=0)(g:s.bits=(st.length:Int))(j:s.seen=true)(y:st≠[]):UU (Lr i.code i.O st):=by
 have⟨d,o,_,_,f,_⟩:=Ik C;have w:=U1 d;obtain⟨code,e⟩:=i;simp only at v o f w⊢;have q:code=1\/code=2\/code=3\/code=4\/code=5\/code=6:=BS;have z:code<=3->Dc e.op e.args=true:=by intro m;unfold Ju at d;simp only at d;rwa[BQ BS,BR m]at d
 obtain⟨a,r,rfl⟩:∃a r,st=a::r:=by cases st with|nil=>exact absurd rfl y|cons a r=>exact⟨a,r,rfl⟩
 rw[DO]at g;cases r with
 |nil=>simp only[DU]at g;have A:=(StR.base.1 h).1;rcases q with rfl|rfl|rfl|rfl|rfl|rfl;{exact .inl (by show 2<=2;decide)};{exact .inr ⟨_,rfl,eE A (Yh (z BZ))⟩};{exact absurd ⟨j,xCe,.inl rfl⟩ f};{have u:(2:Int)<=s.bits:=o;omega};{have u:(2:Int)<=s.bits:=o;omega};exact absurd ⟨j,xCe,.inr (.inl rfl)⟩ f
 |cons b r=>
  have t:=(h.pop (λl=>by have:=l.2;cases this)).1;rcases q with rfl|rfl|rfl|rfl|rfl|rfl;{exact .inl (by show 2<=(E5 e::a::b::r).length;simp)};{exact .inl (by show 2<=(_::b::r:List DI).length;simp)};{exact .inl (by show 2<=(_::b::r:List DI).length;simp)}
  .rw[do4];cases r with
   |nil=>have⟨_,_,D,m,_⟩:=h.pop (λl=>by have:=l.2;cases this);exact .inr ⟨_,rfl,eE (StR.base.1 m).1 t⟩
   |cons x r=>exact .inl BU
  {rw[do5];cases r with|nil=>simp only[DO,DU]at g;exact absurd ⟨j,by show s.bits=2;omega,.inr (.inr rfl)⟩ f|cons x r=>exact .inl BU};exact .inl (by show 2<=(IF a::b::r).length;simp)
def Z2{s:Pt}(h:c<7):(next s c).seen=s.seen:=by
 unfold next
 rw[BQ BS];have a:(c==10)=false:=by simpa using(by omega:c≠10)
 have b:(c==7)=false:=by simpa using(by omega:c≠7)
 simp[a,b]
def Ayr{s:Pt}(h:c<7):(next s c).coil=false:=by
 unfold next
 rw[BQ BS];show(c==10)=false;simpa using(by omega:c≠10)
theorem Xx.costs{kid:Bool}:∀{l:List Aw}{s:Pt}{st:List DI}{n:DI}{j:List Aw}{c:Nat},Xx st l n j->E4 s l->FC B F s l->s.bits=(st.length:Int)->s.bits<=(B:Int)->(kid=true->s.seen=true/\st≠[])->StR kid B st c->
  ∃f m,E4 f j/\FC B F f j/\f.bits=1/\f.forks=s.forks/\f.seen=s.seen/\StR kid B [n] m/\m+j.length<=c+l.length/\(kid=true->UU st\/Dv l<7->fine n)/\(s.coil=false\/Dv l<7->f.coil=false)
 |[],_,_,_,_,_,h,_,_,_,_,_,_=>h.elim
 |i::r,s,st,n,j,c,h,x,z,o,I,g,u=>by
  have⟨t,G⟩:=x.cons;rw[Xx]at h;by_cases d:i.code<7
  .rw[BR d]at h
   obtain⟨K,O,P⟩:=h;have y:=Z6 (s:=s) d;have L:=T8 (e:=i.O) (st:=st) K d O;obtain⟨w,Y,E⟩:=z;have v:(next s i.code).bits=((Lr i.code i.O st).length:Int):=by rw[y.1,L,o]
   have⟨X,U,Q⟩:=u.step d t o (λh=>(g h).1) (λh=>(g h).2) I w;have D:kid=true->Lr i.code i.O st≠[]:=by
    intro q e;have W:=N5 t BS;rw[e]at v;simp only[DU]at v;omega
   have⟨f,m,H,N,J,T,R,M,V,C,A⟩:=Xx.costs P G E v w (λh=>⟨by rw[Z2 d];exact(g h).1,D h⟩) Q;refine⟨f,m,H,N,J,by rw[T,y.2],by rw[R,Z2 d],M,by rw[DO];omega,λq _=>C q (.inl ?_),λ_=>A (.inl (Ayr d))⟩;subst q;exact u.took d t o (g rfl).1 (g rfl).2
  .rw[BQ d]at h
   obtain⟨rfl,rfl⟩:=h;refine⟨s,c,x,z,o,rfl,rfl,u,DK _,λ_ a=>?_,λa=>a.elim id (λa=>absurd a d)⟩;rcases a with(a|⟨b,a,S⟩)|a
   .simp at a
   .injection a with a;rwa[a]
   .exact absurd a d
