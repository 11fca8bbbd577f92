import Derived.Test.YtmnnkedjoecehaaGreatDoorKe
set_option linter.defProp false
set_option maxHeartbeats 2000000
set_option maxRecDepth 100000
namespace Stil
variable {k:Int}
def Ce (k:Int)(l:List B8):List B8:=l.flatMap λn=>if n.kind=k then n.kids else [n]
def F8 (k:Int)(ks:List B8):B8:=if h:ks.length=1 then ks[0] else⟨k,⟨0,[]⟩,ks⟩
def Au:B8->B8
 | ⟨k,e,kids⟩=>if k=2\/k=3 then F8 k (Ce k (kids.map Au)) else⟨k,e,kids.map Au⟩
def Jj (k:Int)(e:Elem)(kids:List B8):Au ⟨k,e,kids⟩=if k=2\/k=3 then F8 k (Ce k (kids.map Au)) else⟨k,e,kids.map Au⟩:=by rw[Au]
def Nc (k:Int)(a b:List B8):Ce k (a++b)=Ce k a++Ce k b:=by simp[Ce]
def Pm (k:Int)(n:B8):Ce k [n]=if n.kind=k then n.kids else [n]:=by simp[Ce]
def sizes (l:List B8):Nat:=(l.map Ai).sum
def U5 (a b:List B8):sizes (a++b)=sizes a+sizes b:=by simp[sizes]
theorem Ej (n:B8):Ai n=1+sizes n.kids:=by obtain⟨k,e,kids⟩:=n;exact Qi k e kids
theorem Jl (l:List B8):l.length<=sizes l:=by
 induction l with
 | nil=>simp[sizes]
 | cons x r b=>
  have:=Ej x
  simp only[sizes,CQ,DO,CH] at b ⊢;omega
theorem Le (k:Int)(l:List B8):sizes (Ce k l)<=sizes l:=by
 induction l with
 | nil=>simp[Ce,sizes]
 | cons x r c=>
  have e:x::r=[x]++r:=rfl;rw[e,Nc,U5,U5,Pm];have h:sizes (if x.kind=k then x.kids else [x])<=sizes [x]:=by
   have b:sizes [x]=Ai x:=by simp[sizes]
   split
   ·have:=Ej x;omega
   ·exact CG _
  omega
theorem UU (k:Int)(ks:List B8):Ai (F8 k ks)<=1+sizes ks:=by
 unfold F8;split
 ·rename_i h
  have b:=Eb Ai ks ks[0] (CJ _);unfold sizes;omega
 ·rw[Ej];exact CG _
theorem UD (n:B8):Ai (Au n)<=Ai n:=by
 refine Fp (λn=>Ai (Au n)<=Ai n) ?_ n;intro k e kids c;have i:sizes (kids.map Au)<=sizes kids:=by
  clear n;induction kids with
  | nil=>simp[sizes]
  | cons x r d=>
   have g:=c x AU;have b:=d (λy f=>c y (CN _ f));simp only[sizes,CQ,DO] at b ⊢;omega
 rw[Jj];have j:Ai ⟨k,e,kids⟩=1+sizes kids:=Ej _;split
 ·have g:=UU k (Ce k (kids.map Au))
  have b:=Le k (kids.map Au);omega
 ·rw[Ej]
  simp only;omega
theorem XF (l:List B8):sizes (l.map Au)<=sizes l:=by
 induction l with
 | nil=>simp[sizes]
 | cons x r b=>
  have c:=UD x;simp only[sizes,CQ,DO] at b ⊢;omega
def Wb (l:List B8)(n:Nat):sizes (l.take n)<=sizes l:=by
 have h:=U5 (l.take n) (l.drop n);rw[IA] at h;omega
def fR (k:Int)(l:List B8)(n:Nat):(Ce k ((l.take n).map Au)).length<=sizes (l.map Au):=by
 have c:=Jl (Ce k ((l.take n).map Au));have d:=Le k ((l.take n).map Au);have b:=Wb (l.map Au) n;rw[<-List.map_take] at b;omega
def fS (k:Int)(l:List B8)(j:Nat)(h:j<l.length):Ce k ((l.take (j+1)).map Au)=Ce k ((l.take j).map Au)++(if(Au l[j]).kind=k then(Au l[j]).kids else [Au l[j]]):=by
 rw[EB h,CU,Nc];congr 1;exact Pm k _
theorem Xm (l:List Int)(h:∀x∈l,0<=x)(c:Az l=0):∀x∈l,x=0:=by
 induction l with
 | nil=>intro x b;cases b
 | cons y r d=>
  unfold Az at c;have f:=h y AU;split at c
  ·omega
  ·intro x b
   rcases List.mem_cons.1 b with rfl | b
   ·omega
   ·exact d (λz e=>h z (by simp[e])) c x b
theorem F5 {e:Elem}{kids:List B8}(h:Aj ⟨k,e,kids⟩=0):
  (k=1/\kids=[])\/((k=2\/k=3)/\0<kids.length/\∀x∈kids,Aj x=0)\/(k=4/\e=⟨0,[]⟩/\∃x,kids=[x]/\Aj x=0):=by
 rw[Ox] at h;by_cases c:k=1
 ·rw[if_pos c] at h
  refine .inl ⟨c,?_⟩;by_cases b:0<kids.length
  ·rw[if_pos b] at h;omega
  ·exact List.length_eq_zero_iff.1 AQ
 ·rw[if_neg c] at h
  by_cases b:Ye k e.op e.args.length kids.length=true
  ·rw[if_pos b] at h;omega
  ·rw[if_neg b] at h
   have q:=Xm _ (λx d=>by obtain⟨n,_,rfl⟩:=List.mem_map.1 d;exact(La n).1) h;have g:=λx d=>q _ (List.mem_map.2 ⟨x,d,rfl⟩)
   simp only[Ye,Bool.or_eq_true,decide_eq_true_eq,bne_iff_ne,ne_eq,ED,Bool.and_eq_true,not_or,not_and,Decidable.not_not] at b;obtain⟨⟨⟨⟨⟨w,s⟩,i⟩,j⟩,r⟩,l⟩:=b;by_cases f:k=4
   ·refine .inr (.inr ⟨f,?_,?_⟩)
    ·obtain⟨op,args⟩:=e
     simp only at i j;have:args=[]:=List.length_eq_zero_iff.1 AQ;subst this;subst i;rfl
    ·have t:=l f
     have m:kids.length=1:=AQ
     obtain⟨x,rfl⟩:=List.length_eq_one_iff.1 m;exact⟨x,rfl,g x AU⟩
   ·exact .inr (.inl ⟨AQ,AQ,g⟩)
def XJ {e:Elem}{kids:List B8}{c:Nat}(h:Ai ⟨k,e,kids⟩<=c):sizes (kids.map Au)<=c/\∀x∈kids,Ai x<=c:=by
 have b:=XF kids;rw[Qi] at h;refine⟨by unfold sizes at b ⊢;omega,λx d=>?_⟩;have:=Eb Ai kids x d
 omega
def shp:B8->Prop
 | ⟨k,_,kids⟩=>((k=1/\kids=[])\/((k=2\/k=3)/\0<kids.length)\/(k=4/\kids.length=1))/\∀p∈kids.map shp,p
def Ks (k:Int)(e:Elem)(kids:List B8):shp ⟨k,e,kids⟩↔((k=1/\kids=[])\/((k=2\/k=3)/\0<kids.length)\/(k=4/\kids.length=1))/\∀x∈kids,shp x:=by rw[shp,all_map]
def j3 {n:B8}(h:shp n):∀x∈n.kids,shp x:=by obtain⟨_,_,_⟩:=n;exact((Ks _ _ _).1 h).2
def YH {e:Elem}{kids:List B8}(h:shp ⟨k,e,kids⟩):(k=1/\kids=[])\/((k=2\/k=3)/\0<kids.length/\∀x∈kids,shp x)\/(k=4/\True/\∃x,kids=[x]/\shp x):=by
 obtain⟨b | ⟨b,c⟩ | ⟨b,c⟩,d⟩:=(Ks _ _ _).1 h
 ·exact .inl b
 ·exact .inr (.inl ⟨b,c,d⟩)
 ·obtain⟨x,rfl⟩:=List.length_eq_one_iff.1 c
  exact .inr (.inr ⟨b,trivial,x,rfl,d x AU⟩)
theorem RE (n:B8):Aj n=0->shp n:=by
 refine Fp (λn=>Aj n=0->shp n) ?_ n;intro k e kids f g;refine(Ks _ _ _).2 ?_;rcases F5 g with⟨b,rfl⟩ | ⟨b,i,j⟩ | ⟨b,_,x,rfl,c⟩
 ·exact⟨.inl ⟨b,rfl⟩,λ_ h=>by cases h⟩
 ·exact⟨.inr (.inl ⟨b,i⟩),λx c=>f x c (j x c)⟩
 ·exact⟨.inr (.inr ⟨b,rfl⟩),λy d=>by obtain rfl:=List.mem_singleton.1 d;exact f y d c⟩
def few (q:Nat):B8->Prop
 | ⟨_,e,kids⟩=>e.args.length<=q/\∀p∈kids.map (few q),p
theorem SU (q:Nat)(k:Int)(e:Elem)(kids:List B8):few q ⟨k,e,kids⟩↔e.args.length<=q/\∀x∈kids,few q x:=by rw[few,all_map]
end Stil
namespace Go.Proofs.YtmnnkedjoecehaaGreatDoor
open Tryz Go.RowKit Go.Sort Go.BigFrame
variable {a:Addr}{base base':Nat}{u v x:Value}{w':World}
def Aside (u v:Value):Prop:=u.ownBlock=none\/u.ownBlock≠v.ownBlock
theorem Aside.symm (h:Aside u v):Aside v u:=by
 rcases h with h | h
 ·by_cases e:v.ownBlock=none
  ·exact .inl e
  ·exact .inr (by rw[h];exact e)
 ·exact .inr (λe=>h e.symm)
theorem Aside.no {k:Nat}(h:Aside u v)(hu:u.ownBlock=some k)(b:v.ownBlock=some k):False:=by
 rcases h with h | h
 ·rw[hu] at h;cases h
 ·exact h (by rw[hu,b])
theorem He {y:Value}{n:Nat}(hx:∀k,x.ownBlock=some k->k<n)(d:∀k,y.ownBlock=some k->n<=k):Aside x y:=by
 by_cases e:x.ownBlock=none
 ·exact .inl e
 ·obtain⟨k,b⟩:=Option.ne_none_iff_exists'.1 e
  refine .inr (λc=>?_);rw[b] at c;have g:=hx k b;have f:=d k c.symm;omega
structure Ap where
 kind:Int
 op:Int
 ds:List Stil.CC
 av:Value
 kv:Value
 kids:List Ap
theorem Zq (P:Ap->Prop)(h:∀k op b d c kids,(∀x∈kids,P x)->P ⟨k,op,b,d,c,kids⟩):∀n,P n
 | ⟨k,op,b,d,c,kids⟩=>h k op b d c kids (λx _=>Zq P h x)
def Ap.net:Ap->Stil.B8
 | ⟨k,op,ds,_,_,kids⟩=>⟨k,⟨op,ds⟩,kids.map Ap.net⟩
theorem Ap.net_eq (m:Ap):m.net=⟨m.kind,⟨m.op,m.ds⟩,m.kids.map Ap.net⟩:=by obtain⟨k,op,ds,av,kv,kids⟩:=m;rw[Ap.net]
def Ap.vals:Ap->List Value
 | ⟨_,_,_,av,kv,kids⟩=>av::kv::(kids.map Ap.vals).flatten
def Gp (b:List Ap):List Value:=(b.map Ap.vals).flatten
theorem Ap.vals_eq (m:Ap):m.vals=m.av::m.kv::Gp m.kids:=by obtain⟨k,op,ds,av,kv,kids⟩:=m;rw[Ap.vals];rfl
def Rl (a b:List Ap):Gp (a++b)=Gp a++Gp b:=by simp[Gp]
def Nb (m:Ap):Gp [m]=m.vals:=by simp[Gp]
def Rk {d:List Ap}:x∈Gp d↔∃m∈d,x∈m.vals:=by
 simp only[Gp,List.mem_flatten,oc];constructor
 ·rintro⟨_,⟨m,b,rfl⟩,c⟩;exact⟨m,b,c⟩
 ·rintro⟨m,b,c⟩;exact⟨_,⟨m,b,rfl⟩,c⟩
def Ap.cells (m:Ap):List Value:=[AB m.kind,AB m.op,m.av,m.kv]
def Jf (b:List Ap):List Value:=b.flatMap Ap.cells
def rR (a b:List Ap):Jf (a++b)=Jf a++Jf b:=by simp[Jf]
def XI (b:List Ap):(Jf b).length=b.length*4:=by
 induction b with
 | nil=>rfl
 | cons m r c=>
  have e:Jf (m::r)=m.cells++Jf r:=rfl;rw[e,CO,c];simp[Ap.cells];omega
theorem Ph:∀(b:List Ap) (i:Nat) (h:i<b.length),(Jf b)[i*4]?=some (AB b[i].kind)/\(Jf b)[i*4+1]?=some (AB b[i].op)/\(Jf b)[i*4+2]?=some b[i].av/\(Jf b)[i*4+3]?=some b[i].kv
 | [],_,h=>by simp at h
 | m::r,0,_=>⟨rfl,rfl,rfl,rfl⟩
 | m::r,i+1,h=>by
  obtain⟨j,d,c,g⟩:=Ph r i BV;have e:Jf (m::r)=AB m.kind::AB m.op::m.av::m.kv::Jf r:=rfl;have f:(i+1)*4=i*4+1+1+1+1:=AQ
  rw[e,f];exact⟨by simpa using j,by simpa using d,by simpa using c,by simpa using g⟩
def MOk (w:World)(base:Nat):Ap->Prop
 | ⟨_,_,b,d,c,kids⟩=>w.ownsRow base 111 3 d b.length (Ar b)/\w.ownsRow base 59 4 c kids.length (Jf kids)/\∀p∈kids.map (MOk w base),p
theorem Jt (w:World)(base:Nat)(m:Ap):MOk w base m↔w.ownsRow base 111 3 m.av m.ds.length (Ar m.ds)/\w.ownsRow base 59 4 m.kv m.kids.length (Jf m.kids)/\∀x∈m.kids,MOk w base x:=by
 obtain⟨k,op,b,d,c,kids⟩:=m;rw[MOk,Stil.all_map]
theorem MOk.map {w:World}(m:Ap)(h:MOk w base m)(c:∀(e:TypeId) (s n:Nat) (v:Value) (b:List Value),v∈m.vals->w.ownsRow base e s v n b->w'.ownsRow base' e s v n b):MOk w' base' m:=by
 revert h c
 refine Zq (λm=>MOk w base m->(∀(e:TypeId) (s n:Nat) (v:Value) (b:List Value),v∈m.vals->w.ownsRow base e s v n b->w'.ownsRow base' e s v n b)->MOk w' base' m) ?_ m;intro k op i l j kids g h c;rw[Jt] at h ⊢;simp only[Ap.vals_eq] at c;refine⟨c _ _ _ _ _ AU h.1,c _ _ _ _ _ AU h.2.1,λx d=>g x d (h.2.2 x d) (λe s n v b f=>c e s n v b ?_)⟩;exact CN _ (CN _ (Rk.2 ⟨x,d,f⟩))
def MOk.below {w:World}{m:Ap}(h:MOk w base m)(c:AO w w'):MOk w' base m:=MOk.map m h (λ_ _ _ _ _ _ b=>ownsRow_below b c)
def MOk.kept {w:World}{m:Ap}(h:MOk w base m)(hg:w.grownBy w' x.ownBlock)(c:∀u∈m.vals,Aside u x):MOk w' base m:=MOk.map m h (λ_ _ _ _ _ b d=>d.kept hg (c _ b))
def MOk.le {w:World}{m:Ap}(h:MOk w base m)(hl:base'<=base):MOk w base' m:=MOk.map m h (λ_ _ _ _ _ _ b=>Joins.ownsRow_le b hl)
theorem MOk.lt {w:World}(m:Ap)(h:MOk w base m):∀x∈m.vals,∀k,x.ownBlock=some k->base<=k/\k<w.heap.size:=by
 revert h
 refine Zq (λm=>MOk w base m->∀x∈m.vals,∀k,x.ownBlock=some k->base<=k/\k<w.heap.size) ?_ m;intro k op f i g kids e h x b j c;rw[Jt] at h;rw[Ap.vals_eq] at b;simp only[C7] at b;rcases b with rfl | rfl | b
 ·exact h.1.lt j c
 ·exact h.2.1.lt j c
 ·obtain⟨y,d,b⟩:=Rk.1 b
  exact e y d (h.2.2 y d) x b j c
def Lt (w:World)(base:Nat)(m:Ap):Prop:=MOk w base m/\m.vals.Pairwise Aside
def Lt.below {w:World}{m:Ap}(h:Lt w base m)(b:AO w w'):Lt w' base m:=⟨h.1.below b,h.2⟩
def Lt.le {w:World}{m:Ap}(h:Lt w base m)(hl:base'<=base):Lt w base' m:=⟨h.1.le hl,h.2⟩
def Oc (w:World)(base:Nat)(v:Value)(b:List Ap):Prop:=w.ownsRow base 59 4 v b.length (Jf b)/\(∀m∈b,MOk w base m)/\(v::Gp b).Pairwise Aside
theorem Oc.nil (w:World)(base:Nat):Oc w base AG []:=⟨World.ownsRow_nil _ _ _ _,(λm b=>by cases b),G2 _ _⟩
def Oc.below {w:World}{b:List Ap}(h:Oc w base v b)(c:AO w w'):Oc w' base v b:=⟨ownsRow_below h.1 c,λm d=>(h.2.1 m d).below c,h.2.2⟩
def Oc.le {w:World}{b:List Ap}(h:Oc w base v b)(hl:base'<=base):Oc w base' v b:=⟨Joins.ownsRow_le h.1 hl,λm c=>(h.2.1 m c).le hl,h.2.2⟩
theorem Oc.lt {w:World}{d:List Ap}(h:Oc w base v d):∀x∈v::Gp d,∀k,x.ownBlock=some k->base<=k/\k<w.heap.size:=by
 intro x b k c;rcases List.mem_cons.1 b with rfl | b
 ·exact h.1.lt k c
 ·obtain⟨m,e,b⟩:=Rk.1 b
  exact(h.2.1 m e).lt m x b k c
theorem Oc.add {w:World}{g:Value}{d ks:List Ap}(h:Oc w base v d)(j:∀m∈ks,MOk w base m)(f:(v::(Gp d++Gp ks)).Pairwise Aside)
  (s:w'.ownsRow base 59 4 g (d.length+ks.length) (Jf d++Jf ks)) (hg:w.grownBy w' v.ownBlock) (r:g.ownBlock=v.ownBlock\/g.ownBlock=some w.heap.size):Oc w' base g (d++ks):=by
 rw[DX] at f;have q:∀x∈Gp d++Gp ks,∀k,x.ownBlock=some k->k<w.heap.size:=by
  intro x c k l;rcases List.mem_append.1 c with c | c
  ·exact(h.lt x (CN _ c) k l).2
  ·obtain⟨m,b,c⟩:=Rk.1 c
   exact((j m b).lt m x c k l).2
 refine⟨by rw[CO,rR];exact s,λm b=>?_,?_⟩
 ·rcases List.mem_append.1 b with b | b
  ·exact(h.2.1 m b).kept hg (λu hu=>(f.1 u (E0 _ (Rk.2 ⟨m,b,hu⟩))).symm)
  ·exact(j m b).kept hg (λu hu=>(f.1 u (Da _ (Rk.2 ⟨m,b,hu⟩))).symm)
 ·rw[Rl,DX]
  refine⟨λy i=>?_,f.2⟩;rcases r with e | e
  ·rcases f.1 y i with h0 | h0
   ·exact .inl Br
   ·exact .inr Br
  ·refine .inr (λn=>?_)
   rw[e] at n;have:=q y i _ n.symm
   omega
theorem Oc.apart {w w1:World}{f ks:List Ap}{b1:Nat}(h:Oc w base v f)(q:∀m∈ks,MOk w1 b1 m)(i:w.heap.size<=b1)(n:(Gp ks).Pairwise Aside):(v::(Gp f++Gp ks)).Pairwise Aside:=by
 have g:=h.lt;have c:∀y∈Gp ks,∀k,y.ownBlock=some k->w.heap.size<=k:=by
  intro y c k d;obtain⟨m,j,c⟩:=Rk.1 c;exact CM i ((q m j).lt m y c k d).1
 have e:=h.2.2;rw[DX] at e ⊢;refine⟨λy b=>?_,List.pairwise_append.2 ⟨e.2,n,λx l y b=>He (λk d=>(g x (CN _ l) k d).2) (c y b)⟩⟩;rcases List.mem_append.1 b with b | b
 ·exact e.1 y b
 ·exact He (λk d=>(g v AU k d).2) (c y b)
def Lt.kids {w:World}{m:Ap}(h:Lt w base m):(∀x∈m.kids,MOk w base x)/\(Gp m.kids).Pairwise Aside:=by
 refine⟨((Jt w base m).1 h.1).2.2,?_⟩;have b:=h.2;rw[Ap.vals_eq,DX,DX] at b;exact b.2.2
def Oc.one {w:World}{b:List Ap}(h:Oc w base v b)(i:Nat)(hi:i<b.length):Lt w base b[i]:=by
 refine⟨h.2.1 _ (CJ hi),?_⟩;have c:=(List.pairwise_cons.1 h.2.2).2;unfold Gp at c;rw[List.pairwise_flatten] at c;exact c.1 _ (List.mem_map.2 ⟨_,CJ hi,rfl⟩)
def Oc.net {w:World}{c:Value}{d:List Ap}(k op:Int)(b:List Stil.CC)(h:Oc w base v d)(e:w.ownsRow base 111 3 c b.length (Ar b))(hd:∀x∈v::Gp d,Aside c x):Lt w base ⟨k,op,b,c,v,d⟩:=by
 refine⟨(Jt _ _ _).2 ⟨e,h.1,h.2.1⟩,?_⟩;rw[Ap.vals_eq,DX];exact⟨hd,h.2.2⟩
def P9 (x:Value):Aside AG x:=.inl rfl
theorem MOk.from {w:World}(m:Ap)(h:MOk w base m):Kr base w m.av m.net.one.args/\Z7 base w m.kv m.net.kids:=by
 revert h
 refine Zq (λm=>MOk w base m->Kr base w m.av m.net.one.args/\Z7 base w m.kv m.net.kids) ?_ m;intro k op D C B kids n h;rw[Jt] at h;rw[Ap.net_eq];refine⟨Kr.of_owns h.1,?_⟩;simp only at h ⊢;by_cases F:kids.length=0
 ·obtain⟨a,cap,rfl⟩:=Af h.2.1
  exact⟨a,cap,AU,λi hi=>absurd hi Ax⟩
 ·obtain⟨g,cap,q,f,j,_,b⟩:=Bg h.2.1 AQ
  subst q;refine⟨_,cap,AU,λi hi=>⟨g,0,rfl,f,j,?_⟩⟩;have c:i<kids.length:=by simpa using hi
  obtain⟨z,l,t,d⟩:=Ph kids i c;obtain⟨s,r⟩:=n _ (CJ c) (h.2.2 _ (CJ c));rw[EH,vj,CV];have e:=Ap.net_eq kids[i];have y:kids[i].net.kind=kids[i].kind:=by rw[e]
  have A:kids[i].net.one.op=kids[i].op:=by rw[e]
  rw[y,A];exact⟨b _ _ z,b _ _ l,⟨_,b _ _ t,s⟩,⟨_,b _ _ d,r⟩⟩
def Si (w:World)(base:Nat)(n:Stil.B8)(e:Ending):Prop:=∃(k op:Int) (b:List Stil.CC) (h:Option Addr) (f:Nat) (d:Option Addr) (g:Nat) (c:List Ap),e=.returned (.agg #[AB k,AB op,AE h b.length f,AE d c.length g])/\
 Lt w base ⟨k,op,b,AE h b.length f,AE d c.length g,c⟩/\(Ap.mk k op b (AE h b.length f) (AE d c.length g) c).net=n
def MOk.set {w:World}{m:Ap}(h:MOk w base m)(c:a.block<base)(u:Value):MOk (w.setCell a u) base m:=MOk.map m h (λ_ _ _ _ _ _ b=>ownsRow_setCell_below b c u)
theorem MOk.set4 {w:World}{b i f g e:Nat}{m:Ap}{u1 u2 u3 d:Value}(h:MOk w base m)(c:b<base):MOk ((((w.setCell (AK b i) u1).setCell (AK b f) u2).setCell (AK b g) u3).setCell (AK b e) d) base m:=
 MOk.set (MOk.set (MOk.set (MOk.set h (a:=(AK b i)) c u1) (a:=(AK b f)) c u2) (a:=(AK b g)) c u3) (a:=(AK b e)) c d
def Lt.set {w:World}{m:Ap}(h:Lt w base m)(b:a.block<base)(u:Value):Lt (w.setCell a u) base m:=⟨h.1.set b u,h.2⟩
theorem Oc.set {w:World}{b:List Ap}(h:Oc w base v b)(c:a.block<base)(u:Value):Oc (w.setCell a u) base v b:=⟨ownsRow_setCell_below h.1 c u,λm d=>(h.2.1 m d).set c u,h.2.2⟩
end Go.Proofs.YtmnnkedjoecehaaGreatDoor
namespace Stil
end Stil
namespace Go.Proofs.YtmnnkedjoecehaaGreatDoor
open Tryz Go.RowKit Go.Sort Go.BigFrame
variable {E:Prop}{W:World}{a:Act}{base:Nat}{o:Oper}{ops:Array Oper}{rest:List Oper}{u0 u1 u2 u3 v1 v2 v3:Value}
theorem VS {w:World}{ks:List Ap}(c:∀m∈ks,MOk w base m):∀u∈Jf ks,u.oneCell'=true:=by
 intro u hu;obtain⟨m,b,hu⟩:=List.mem_flatMap.1 hu;have h:=(Jt w base m).1 (c m b);obtain⟨j,g,d⟩:=Af h.1;obtain⟨f,i,e⟩:=Af h.2.1;simp only[Ap.cells,C7,KI,DR] at hu;rcases hu with rfl | rfl | rfl | rfl
 ·rfl
 ·rfl
 ·rw[d];rfl
 ·rw[e];rfl
def zb0 {p:Prop}(h:p:=by
 rename_i t1
 have e:Sem.run prog (Builtin.append_ #[57,57] o.type #[AE ra ms.length rc,AE (some t1) 0 c]) w=.ok (AE ra ms.length rc) w:=by cases ra<;>simp[Builtin.append_,go_sem,hcap]
 simp only[hop,resolve,invoke,builtin,Sem.run_bind,Sem.run_pure,Result.andThen_ok,ES,CQ,C6,hs,hx,e];exact hk2):p:=h
def zg0 {p:Prop}(h:p:=by
 have e:Sem.run prog (Builtin.append_ #[57,57] o.type #[AE ra ms.length rc,AE none 0 c]) w=.ok (AE ra ms.length rc) w:=by cases ra<;>simp[Builtin.append_,go_sem,hcap]
 simp only[hop,resolve,invoke,builtin,Sem.run_bind,Sem.run_pure,Result.andThen_ok,ES,CQ,C6,hs,hx,e];exact hk2):p:=h
theorem om {w:World}{K:Act->World->Prop}{Q:Exit->Act->World->Prop}
  (hg:o.guard=none) (s x:Operand) (hop:o.op=.call {callee:=.builtin .append,args:=#[s,x],argTypes:=#[57,57]})
  (base:Nat) (ra:Option Addr) (rc:Nat) (ms ks:List Ap) (ad:Option Addr) (c:Nat) (hs:a.eval s=AE ra ms.length rc) (hx:a.eval x=AE ad ks.length c)
  (hrow:Oc w base (AE ra ms.length rc) ms) (H:0<ks.length->∃p,ad=some p/\∀j u,(Jf ks)[j]?=some u->w.cell? (p.add j)=some u)
  (n:∀m∈ks,MOk w base m) (N:(Value.slice ra ms.length rc::(Gp ms++Gp ks)).Pairwise Aside) (hl:ms.length+ks.length<=1000000) (l:base<=w.heap.size)
  (r:∀q d w',Oc w' base (AE q (ms.length+ks.length) d) (ms++ks)->Below base w w'->K (a.put o.dst (AE q (ms.length+ks.length) d)) w'):
  if Region.wanted o (yielded ops a.tmps)=true then Oper.wp prog o a w K Q else E:=by
 obtain⟨z,hi,B,A,J⟩:=info_parts P4;by_cases hd:ks.length=0
 ·have t:=List.length_eq_zero_iff.1 hd
  subst t;have F:Region.wanted o (yielded ops a.tmps)=true:=by simp[Region.wanted,hg]
  rw[if_pos F];have hcap:ms.length<=rc:=by
   rcases hrow.1.2 with⟨f,b⟩ | ⟨g,d,cur,f,_,_,I,_⟩
   ·rw[b];exact DZ _
   ·simp only[Value.slice.injEq] at f
    rw[f.2.2];exact I
  have hk2:=r ra rc w yDd (Below.refl _ _);simp only[CP,ER] at hk2 hx;unfold Oper.wp execOp;cases ad
  ·exact zg0
  ·exact zb0
 ·obtain⟨p,rfl,G⟩:=H AQ
  refine Ec hg s x _ hop base 59 z _ 4 64 underlying57 hi B A J rfl AY _ _ (Jf ms) hs hrow.1 _ _ _ (Jf ks) hx (XI ks) G (VS n) A6 AQ l ?_;intro O w' b i D;obtain⟨C,M,L⟩:=Af b;subst L;exact r C M w' (hrow.add n N b i D) ((Below.refl _ _).grown i l (λj y=>(hrow.1.lt j y).1))
theorem U3 {w:World}{Q:Exit->Act->World->Prop}
  (hg:o.guard=none) (s x:Operand) (q:o.op=.call {callee:=.builtin .append,args:=#[s,x],argTypes:=#[57,57]})
  (base:Nat) (g:Option Addr) (f:Nat) (b ks:List Ap) (ad:Option Addr) (c:Nat) (z:a.eval s=AE g b.length f) (hx:a.eval x=AE ad ks.length c)
  (B:Oc w base (AE g b.length f) b) (y:0<ks.length->∃p,ad=some p/\∀j u,(Jf ks)[j]?=some u->w.cell? (p.add j)=some u)
  (t:∀m∈ks,MOk w base m) (C:(Value.slice g b.length f::(Gp b++Gp ks)).Pairwise Aside) (hl:b.length+ks.length<=1000000) (n:base<=w.heap.size)
  (h:∀e d w',Oc w' base (AE e (b.length+ks.length) d) (b++ks)->Below base w w'->wpList prog ops Q rest (a.put o.dst (AE e (b.length+ks.length) d)) w'):
  wpList prog ops Q (o::rest) a w:=by
 refine wpList_plain hg λK A=>?_
 have r:Region.wanted o (yielded #[] a.tmps)=true:=by simp[Region.wanted,hg]
 have:=om (ops:=#[]) (K:=K) (Q:=Q) (E:=True) hg s x q base g f b ks ad c z hx B y t C hl n (λe d w' l i=>A _ _ (h e d w' l i))
 rwa [if_pos r] at this
theorem Oc.single {w:World}{m:Ap}(h:Lt w base m)(c:base<=w.heap.size):Oc (w.alloc (.cells #[AB m.kind,AB m.op,m.av,m.kv] 59)) base (AE (some (AL w 0)) 1 1) [m]:=by
 refine⟨?_,λx f=>?_,?_⟩
 ·exact World.ownsRow_lit w #[AB m.kind,AB m.op,m.av,m.kv] 1 c A6 rfl
 ·rw[List.mem_singleton.1 f];exact h.1.below (Aa _ _)
 ·rw[Nb,DX]
  refine⟨λy d=>(He (n:=w.heap.size) (λk b=>(h.1.lt m y d k b).2) (λk b=>?_)).symm,h.2⟩;have e:w.heap.size=k:=by simpa[Value.ownBlock] using b
  omega
theorem O6 {p q:Addr}{v:Value}:(W.setCell p v).frozen? q=W.frozen? q:=by simp[go_sem]
theorem cells4 {t:TypeId}:∀j u,[u0,u1,u2,u3][j]?=some u->(W.alloc (.cells #[u0,u1,u2,u3] t)).cell? (((AL W 0):Addr).add j)=some u:=by
 intro j u h;rw[Addr.add_lit]
 match j,h with
 | 0,h=>simp at h;subst h;simp[go_sem]
 | 1,h=>simp at h;subst h;simp[go_sem]
 | 2,h=>simp at h;subst h;simp[go_sem]
 | 3,h=>simp at h;subst h;simp[go_sem]
 | j+4,h=>simp at h
def B4 (w:World)(b:Nat)(v0 v1 v2 v3:Value):Prop:=b<w.heap.size/\(w.cell? ⟨b,0,none⟩=some v0/\w.cell? ⟨b,1,none⟩=some v1/\w.cell? ⟨b,2,none⟩=some v2/\w.cell? ⟨b,3,none⟩=some v3)/\
 w.frozen? ⟨b,0,none⟩=false/\w.frozen? ⟨b,1,none⟩=false/\w.frozen? ⟨b,2,none⟩=false/\w.frozen? ⟨b,3,none⟩=false
def B4.below {w w':World}{n b:Nat}{v0:Value}(h:B4 w b v0 v1 v2 v3)(c:Below n w w')(d:b<n):B4 w' b v0 v1 v2 v3:=by
 obtain⟨q,⟨m,g,j,l⟩,e,r,f,i⟩:=h;refine⟨CB q c.size,⟨(c.cell (p:=(AK b 0)) d).trans m,(c.cell (p:=(AK b 1)) d).trans g,(c.cell (p:=(AK b 2)) d).trans j,(c.cell (p:=(AK b 3)) d).trans l⟩,?_⟩;exact⟨(c.frozen (p:=(AK b 0)) d).trans e,(c.frozen (p:=(AK b 1)) d).trans r,(c.frozen (p:=(AK b 2)) d).trans f,(c.frozen (p:=(AK b 3)) d).trans i⟩
def B4.set3 {w:World}{b:Nat}{v0:Value}(h:B4 w b v0 v1 v2 v3)(u:Value):B4 (w.setCell (AK b 3) u) b v0 v1 v2 u:=by
 obtain⟨l,⟨j,e,g,i⟩,c,m,d,f⟩:=h;exact⟨CB l (Iz _ _ _),⟨(A8 AQ).trans j,(A8 AQ).trans e,(A8 AQ).trans g,Fb i⟩,O6.trans c,O6.trans m,O6.trans d,O6.trans f⟩
def B4.setO {w:World}{b c o:Nat}{v0:Value}(h:B4 w b v0 v1 v2 v3)(d:b≠c)(u:Value):B4 (w.setCell (AK c o) u) b v0 v1 v2 v3:=by
 obtain⟨n,⟨m,g,j,l⟩,e,p,f,i⟩:=h;exact⟨CB n (Iz _ _ _),⟨(Bl d).trans m,(Bl d).trans g,(Bl d).trans j,(Bl d).trans l⟩,O6.trans e,O6.trans p,O6.trans f,O6.trans i⟩
theorem pe {w:World}{K:Act->World->Prop}{Q:Exit->Act->World->Prop}
  (hg:o.guard=none) (s x:Operand) (hop:o.op=.call {callee:=.builtin .append,args:=#[s,x],argTypes:=#[57,57]})
  (base lo:Nat) (ra:Option Addr) (rc:Nat) (ms ks:List Ap) (ad:Option Addr) (c:Nat) (hs:a.eval s=AE ra ms.length rc) (hx:a.eval x=AE ad ks.length c)
  (hrow:Oc w base (AE ra ms.length rc) ms) (I:0<ks.length->∃p,ad=some p/\∀j u,(Jf ks)[j]?=some u->w.cell? (p.add j)=some u)
  (r:∀m∈ks,MOk w base m) (O:(Value.slice ra ms.length rc::(Gp ms++Gp ks)).Pairwise Aside) (hl:ms.length+ks.length<=1000000) (F:base<=w.heap.size) (t:lo<=w.heap.size) (f:∀k,(Value.slice ra ms.length rc).ownBlock=some k->lo<=k)
  (y:∀l d w',Oc w' base (AE l (ms.length+ks.length) d) (ms++ks)->Below lo w w'->(∀k,(Value.slice l (ms.length+ks.length) d).ownBlock=some k->lo<=k)->K (a.put o.dst (AE l (ms.length+ks.length) d)) w'):
  if Region.wanted o (yielded ops a.tmps)=true then Oper.wp prog o a w K Q else E:=by
 obtain⟨A,hi,C,B,L⟩:=info_parts P4;by_cases hd:ks.length=0
 ·have z:=List.length_eq_zero_iff.1 hd
  subst z;have G:Region.wanted o (yielded ops a.tmps)=true:=by simp[Region.wanted,hg]
  rw[if_pos G];have hcap:ms.length<=rc:=by
   rcases hrow.1.2 with⟨i,b⟩ | ⟨g,d,cur,i,_,_,J,_⟩
   ·rw[b];exact DZ _
   ·simp only[Value.slice.injEq] at i
    rw[i.2.2];exact J
  have hk2:=y ra rc w yDd (Below.refl _ _) (by simpa using f);simp only[CP,ER] at hk2 hx;unfold Oper.wp execOp;cases ad
  ·exact zg0
  ·exact zb0
 ·obtain⟨p,rfl,H⟩:=I AQ
  refine Ec hg s x _ hop base 59 A _ 4 64 underlying57 hi C B L rfl AY _ _ (Jf ms) hs hrow.1 _ _ _ (Jf ks) hx (XI ks) H (VS r) A6 AQ F ?_;intro P w' b n q;obtain⟨D,N,M⟩:=Af b;subst M;refine y D N w' (hrow.add r O b n q) ((Below.refl _ _).grown n t f) (λk hk2=>?_);rcases q with e | e
  ·exact f k (by rw[<-e];exact hk2)
  ·rw[e] at hk2
   cases hk2;exact t
theorem Sl {w:World}{Q:Exit->Act->World->Prop}
  (hg:o.guard=none) (s x:Operand) (r:o.op=.call {callee:=.builtin .append,args:=#[s,x],argTypes:=#[57,57]})
  (base lo:Nat) (g:Option Addr) (f:Nat) (b ks:List Ap) (ad:Option Addr) (c:Nat) (C:a.eval s=AE g b.length f) (hx:a.eval x=AE ad ks.length c)
  (F:Oc w base (AE g b.length f) b) (B:0<ks.length->∃p,ad=some p/\∀j u,(Jf ks)[j]?=some u->w.cell? (p.add j)=some u)
  (z:∀m∈ks,MOk w base m) (G:(Value.slice g b.length f::(Gp b++Gp ks)).Pairwise Aside) (hl:b.length+ks.length<=1000000) (q:base<=w.heap.size) (A:lo<=w.heap.size) (l:∀k,(Value.slice g b.length f).ownBlock=some k->lo<=k)
  (h:∀e d w',Oc w' base (AE e (b.length+ks.length) d) (b++ks)->Below lo w w'->(∀k,(Value.slice e (b.length+ks.length) d).ownBlock=some k->lo<=k)->wpList prog ops Q rest (a.put o.dst (AE e (b.length+ks.length) d)) w'):
  wpList prog ops Q (o::rest) a w:=by
 refine wpList_plain hg λK D=>?_
 have y:Region.wanted o (yielded #[] a.tmps)=true:=by simp[Region.wanted,hg]
 have:=pe (ops:=#[]) (K:=K) (Q:=Q) (E:=True) hg s x r base lo g f b ks ad c C hx F B z G hl q A l (λe d w' n i t=>D _ _ (h e d w' n i t))
 rwa [if_pos y] at this
def Rh (k:Int)(m:Ap):List Ap:=if m.kind=k then m.kids else [m]
theorem Rm {B:Nat}(b:B=W.heap.size){t:TypeId}:∀j u,[u0,u1,u2,u3][j]?=some u->(W.alloc (.cells #[u0,u1,u2,u3] t)).cell? (((AK B 0):Addr).add j)=some u:=by
 subst b;exact cells4
theorem lR (k:Int)(B base lo:Nat)(y:Option Addr)(t:Nat)(e:List Ap)(f s:Int)(d:List Stil.CC)(r:Option Addr)(q:Nat)(i:Option Addr)(l:Nat)(b:List Ap)(w:World)
  (ac:w.cell? (AK B 0)=some (AB k)) (hB:B<w.heap.size) (J:Oc w base (AE y e.length t) e) (C:Lt w base ⟨f,s,d,AE r d.length q,AE i b.length l,b⟩)
  (K:(Value.slice y e.length t::(Gp e++(Ap.mk f s d (AE r d.length q) (AE i b.length l) b).vals)).Pairwise Aside) (hl:e.length+b.length+1<=1000000) (af:base<=w.heap.size) (X:lo<=w.heap.size) (H:∀k,(Value.slice y e.length t).ownBlock=some k->lo<=k):
  Calls prog 148 #[AE y e.length t, .agg #[AB f,AB s,AE r d.length q,AE i b.length l],AH B] w λaa w'=>∃(a:Option Addr) (c:Nat),aa=.returned (AE a (e.length+(Rh k ⟨f,s,d,AE r d.length q,AE i b.length l,b⟩).length) c)/\Oc w' base (AE a (e.length+(Rh k ⟨f,s,d,AE r d.length q,AE i b.length l,b⟩).length) c) (e++Rh k ⟨f,s,d,AE r d.length q,AE i b.length l,b⟩)/\Below lo w w'/\∀j,(Value.slice a (e.length+(Rh k ⟨f,s,d,AE r d.length q,AE i b.length l,b⟩).length) c).ownBlock=some j->lo<=j:=by
 by_cases I:f=k
 ·have M:=AV (λW (h:AO w W)=>J.below h)
  have R:Hid (∀W,AO w W->∀m∈b,MOk W base m):=λW h m N=>(C.kids.1 m N).below h
  have U:Hid ((Value.slice y e.length t::(Gp e++Gp b)).Pairwise Aside):=by
   refine List.Pairwise.sublist (List.Sublist.cons_cons _ (List.Sublist.append (E7 _) ?_)) K;rw[Ap.vals_eq];exact List.Sublist.cons _ (List.Sublist.cons _ (E7 _))
  have ni:Hid (∀W,AO w W->0<b.length->∃p,i=some p/\∀j u,(Jf b)[j]?=some u->W.cell? (p.add j)=some u):=by
   intro W hW hz;have V:=ownsRow_below ((Jt _ _ _).1 C.1).2.1 hW;simp only at V;obtain⟨g,c,Y,_,_,_,ab⟩:=Bg V hz;simp only[Value.slice.injEq] at Y;exact⟨(AK g 0),Y.1,λj u hu=>by rw[Addr.add_lit];simpa using ab j u hu⟩
  have O:e.length+b.length<=1000000:=AQ
  have G:Rh k ⟨f,s,d,AE r d.length q,AE i b.length l,b⟩=b:=if_pos I;rw[G];clear G;have Q:=AV H;clear J C K hl H;rw[<-I] at ac;go_enter func148,ntmps148
  go_wp2_with (at_builtin;refine Sl rfl _ _ rfl base lo y t e b i l rfl rfl (M _ AW) (ni _ AW) (R _ AW) U O Ax Ax Q.out ?_;intro z F Z A P D;have T:=AV A;have L:=AV D;clear A D;have S:=(show Below lo w _ from(show AO w _ from AW).mono X).trans P)
  go_ret;exact⟨z,F,rfl,T.out,S,L.out⟩
 ·have M:=AV (λW (h:AO w W)=>J.below h)
  have R:Hid (∀W,AO w W->∀m∈[(Ap.mk f s d (AE r d.length q) (AE i b.length l) b)],MOk W base m):=λW h m N=>by rw[List.mem_singleton.1 N];exact C.1.below h
  have U:Hid ((Value.slice y e.length t::(Gp e++Gp [(Ap.mk f s d (AE r d.length q) (AE i b.length l) b)])).Pairwise Aside):=by show List.Pairwise _ _;rw[Nb];exact K
  have O:e.length+[(Ap.mk f s d (AE r d.length q) (AE i b.length l) b)].length<=1000000:=by simp only[EF];omega
  have G:Rh k ⟨f,s,d,AE r d.length q,AE i b.length l,b⟩=[(Ap.mk f s d (AE r d.length q) (AE i b.length l) b)]:=if_neg I;rw[G];clear G;have Q:=AV H;have ae:(f==k)=false:=by rw[CS];exact I
  clear J C K hl H;go_enter func148,ntmps148
  go_wp2_with (at_builtin;refine Sl rfl _ _ rfl base lo y t e [Ap.mk f s d (AE r d.length q) (AE i b.length l) b] _ 1 rfl rfl (M _ AW) (λ_=>⟨_,rfl,by exact Rm AU⟩) (R _ AW) U O Ax Ax Q.out ?_;intro z F Z A P D;have T:Hid (Oc Z base (AE z (e.length+1) F) (e++[Ap.mk f s d (AE r d.length q) (AE i b.length l) b])):=A;have L:Hid (∀k,(Value.slice z (e.length+1) F).ownBlock=some k->lo<=k):=D;clear A D;have S:=(show Below lo w _ from(show AO w _ from AW).mono X).trans P)
  go_ret;exact⟨z,F,rfl,T.out,S,L.out⟩
