import Derived.Test.YtifcnfeppdbjdaaGreatDoorI8b
namespace Stil
def Cc (k:Int)(l:List B9):List B9:=l.flatMap λn=>if n.kind=k then n.kids else [n]
def Gj (k:Int)(ks:List B9):B9:=if h:ks.length=1 then ks[0] else⟨k,⟨0,[]⟩,ks⟩
def Ap:B9->B9
 | ⟨k,e,kids⟩=>if k=2\/k=3 then Gj k (Cc k (kids.map Ap)) else⟨k,e,kids.map Ap⟩
theorem Jq (k:Int)(e:Elem)(kids:List B9):Ap ⟨k,e,kids⟩=if k=2\/k=3 then Gj k (Cc k (kids.map Ap)) else⟨k,e,kids.map Ap⟩:=by rw[Ap]
theorem Me (k:Int)(a b:List B9):Cc k (a++b)=Cc k a++Cc k b:=by simp[Cc]
theorem O8 (k:Int)(n:B9):Cc k [n]=if n.kind=k then n.kids else [n]:=by simp[Cc]
def sizes (l:List B9):Nat:=(l.map Af).sum
theorem Uw (a b:List B9):sizes (a++b)=sizes a+sizes b:=by simp[sizes]
theorem Eg (n:B9):Af n=1+sizes n.kids:=by obtain⟨k,e,kids⟩:=n;exact Qa k e kids
theorem Js (l:List B9):l.length<=sizes l:=by
 induction l with
 | nil=>simp[sizes]
 | cons x r b=>
  have:=Eg x
  simp only[sizes,CP,DW,CH] at b ⊢;omega
theorem Ld (k:Int)(l:List B9):sizes (Cc k l)<=sizes l:=by
 induction l with
 | nil=>simp[Cc,sizes]
 | cons x r c=>
  have e:x::r=[x]++r:=rfl;rw[e,Me,Uw,Uw,O8];have h:sizes (if x.kind=k then x.kids else [x])<=sizes [x]:=by
   have b:sizes [x]=Af x:=by simp[sizes]
   split
   ·have:=Eg x;omega
   ·exact CG _
  omega
theorem TR (k:Int)(ks:List B9):Af (Gj k ks)<=1+sizes ks:=by
 unfold Gj;split
 ·rename_i h
  have b:=D9 Af ks ks[0] (CN _);unfold sizes;omega
 ·rw[Eg];exact CG _
theorem TY (n:B9):Af (Ap n)<=Af n:=by
 refine Gf (λn=>Af (Ap n)<=Af n) ?_ n;intro k e kids c;have j:sizes (kids.map Ap)<=sizes kids:=by
  clear n;induction kids with
  | nil=>simp[sizes]
  | cons x r f=>
   have d:=c x AU;have b:=f (λy g=>c y (CQ _ g));simp only[sizes,CP,DW] at b ⊢;omega
 rw[Jq];have i:Af ⟨k,e,kids⟩=1+sizes kids:=Eg _;split
 ·have d:=TR k (Cc k (kids.map Ap))
  have b:=Ld k (kids.map Ap);omega
 ·rw[Eg]
  simp only;omega
theorem Vi (l:List B9):sizes (l.map Ap)<=sizes l:=by
 induction l with
 | nil=>simp[sizes]
 | cons x r b=>
  have c:=TY x;simp only[sizes,CP,DW] at b ⊢;omega
theorem WJ (l:List B9)(n:Nat):sizes (l.take n)<=sizes l:=by
 have h:=Uw (l.take n) (l.drop n);rw[IG] at h;omega
theorem ef (k:Int)(l:List B9)(n:Nat):(Cc k ((l.take n).map Ap)).length<=sizes (l.map Ap):=by
 have d:=Js (Cc k ((l.take n).map Ap));have c:=Ld k ((l.take n).map Ap);have b:=WJ (l.map Ap) n;rw[<-List.map_take] at b;omega
theorem eg (k:Int)(l:List B9)(j:Nat)(h:j<l.length):Cc k ((l.take (j+1)).map Ap)=Cc k ((l.take j).map Ap)++(if(Ap l[j]).kind=k then(Ap l[j]).kids else [Ap l[j]]):=by
 rw[D2 h,CU,Me];congr 1;exact O8 k _
theorem Wv (l:List Int)(h:∀x∈l,0<=x)(c:Ar l=0):∀x∈l,x=0:=by
 induction l with
 | nil=>intro x b;cases b
 | cons y r e=>
  unfold Ar at c;have f:=h y AU;split at c
  ·omega
  ·intro x b
   rcases List.mem_cons.1 b with rfl | b
   ·omega
   ·exact e (λz d=>h z (by simp[d])) c x b
theorem H6 {k:Int}{e:Elem}{kids:List B9}(h:Ai ⟨k,e,kids⟩=0):
  (k=1/\kids=[])\/((k=2\/k=3)/\0<kids.length/\∀x∈kids,Ai x=0)\/(k=4/\e=⟨0,[]⟩/\∃x,kids=[x]/\Ai x=0):=by
 rw[Oq] at h;by_cases d:k=1
 ·rw[if_pos d] at h
  refine .inl ⟨d,?_⟩;by_cases b:0<kids.length
  ·rw[if_pos b] at h;omega
  ·exact List.length_eq_zero_iff.1 AQ
 ·rw[if_neg d] at h
  by_cases b:Xx k e.op e.args.length kids.length=true
  ·rw[if_pos b] at h;omega
  ·rw[if_neg b] at h
   have q:=Wv _ (λx c=>by obtain⟨n,_,rfl⟩:=List.mem_map.1 c;exact(La n).1) h;have f:=λx c=>q _ (List.mem_map.2 ⟨x,c,rfl⟩)
   simp only[Xx,Bool.or_eq_true,decide_eq_true_eq,bne_iff_ne,ne_eq,EC,Bool.and_eq_true,not_or,not_and,Decidable.not_not] at b;obtain⟨⟨⟨⟨⟨w,r⟩,i⟩,j⟩,s⟩,m⟩:=b;by_cases g:k=4
   ·refine .inr (.inr ⟨g,?_,?_⟩)
    ·obtain⟨op,args⟩:=e
     simp only at i j;have:args=[]:=List.length_eq_zero_iff.1 AQ;subst this;subst i;rfl
    ·have t:=m g
     have l:kids.length=1:=AQ
     obtain⟨x,rfl⟩:=List.length_eq_one_iff.1 l;exact⟨x,rfl,f x AU⟩
   ·exact .inr (.inl ⟨AQ,AQ,f⟩)
theorem V0 {k:Int}{e:Elem}{kids:List B9}{c:Nat}(h:Af ⟨k,e,kids⟩<=c):sizes (kids.map Ap)<=c/\∀x∈kids,Af x<=c:=by
 have b:=Vi kids;rw[Qa] at h;refine⟨by unfold sizes at b ⊢;omega,λx d=>?_⟩;have:=D9 Af kids x d
 omega
end Stil
namespace Go.Proofs.YtifcnfeppdbjdaaGreatDoor
open Tryz Go.RowKit Go.Sort Go.BigFrame
variable {a:Addr}{base base':Nat}{u v x:Value}{w':World}
def Aside (u v:Value):Prop:=u.ownBlock=none\/u.ownBlock≠v.ownBlock
theorem Aside.symm (h:Aside u v):Aside v u:=by
 rcases h with h | h
 ·by_cases e:v.ownBlock=none
  ·exact .inl e
  ·exact .inr (by rw[h];exact e)
 ·exact .inr (λe=>h e.symm)
theorem Aside.no {k:Nat}(h:Aside u v)(hu:u.ownBlock=some k)(b:v.ownBlock=some k):False:=by
 rcases h with h | h
 ·rw[hu] at h;cases h
 ·exact h (by rw[hu,b])
theorem Ho {y:Value}{n:Nat}(hx:∀k,x.ownBlock=some k->k<n)(d:∀k,y.ownBlock=some k->n<=k):Aside x y:=by
 by_cases e:x.ownBlock=none
 ·exact .inl e
 ·obtain⟨k,b⟩:=Option.ne_none_iff_exists'.1 e
  refine .inr (λc=>?_);rw[b] at c;have f:=hx k b;have g:=d k c.symm;omega
structure Ak where
 kind:Int
 op:Int
 ds:List Stil.CC
 av:Value
 kv:Value
 kids:List Ak
theorem Za (P:Ak->Prop)(h:∀k op d c b kids,(∀x∈kids,P x)->P ⟨k,op,d,c,b,kids⟩):∀n,P n
 | ⟨k,op,d,c,b,kids⟩=>h k op d c b kids (λx _=>Za P h x)
def Ak.net:Ak->Stil.B9
 | ⟨k,op,ds,_,_,kids⟩=>⟨k,⟨op,ds⟩,kids.map Ak.net⟩
theorem Ak.net_eq (m:Ak):m.net=⟨m.kind,⟨m.op,m.ds⟩,m.kids.map Ak.net⟩:=by obtain⟨k,op,ds,av,kv,kids⟩:=m;rw[Ak.net]
def Ak.vals:Ak->List Value
 | ⟨_,_,_,av,kv,kids⟩=>av::kv::(kids.map Ak.vals).flatten
def Gv (b:List Ak):List Value:=(b.map Ak.vals).flatten
theorem Ak.vals_eq (m:Ak):m.vals=m.av::m.kv::Gv m.kids:=by obtain⟨k,op,ds,av,kv,kids⟩:=m;rw[Ak.vals];rfl
theorem Q8 (a b:List Ak):Gv (a++b)=Gv a++Gv b:=by simp[Gv]
theorem Md (m:Ak):Gv [m]=m.vals:=by simp[Gv]
theorem Q7 {d:List Ak}:x∈Gv d↔∃m∈d,x∈m.vals:=by
 simp only[Gv,List.mem_flatten,oZ];constructor
 ·rintro⟨_,⟨m,c,rfl⟩,b⟩;exact⟨m,c,b⟩
 ·rintro⟨m,c,b⟩;exact⟨_,⟨m,c,rfl⟩,b⟩
def Ak.cells (m:Ak):List Value:=[AB m.kind,AB m.op,m.av,m.kv]
def Jk (b:List Ak):List Value:=b.flatMap Ak.cells
theorem qu (a b:List Ak):Jk (a++b)=Jk a++Jk b:=by simp[Jk]
theorem Vv (b:List Ak):(Jk b).length=b.length*4:=by
 induction b with
 | nil=>rfl
 | cons m r c=>
  have e:Jk (m::r)=m.cells++Jk r:=rfl;rw[e,CM,c];simp[Ak.cells];omega
theorem O6:∀(b:List Ak) (i:Nat) (h:i<b.length),(Jk b)[i*4]?=some (AB b[i].kind)/\(Jk b)[i*4+1]?=some (AB b[i].op)/\(Jk b)[i*4+2]?=some b[i].av/\(Jk b)[i*4+3]?=some b[i].kv
 | [],_,h=>by simp at h
 | m::r,0,_=>⟨rfl,rfl,rfl,rfl⟩
 | m::r,i+1,h=>by
  obtain⟨g,c,j,d⟩:=O6 r i BR;have e:Jk (m::r)=AB m.kind::AB m.op::m.av::m.kv::Jk r:=rfl;have f:(i+1)*4=i*4+1+1+1+1:=AQ
  rw[e,f];exact⟨by simpa using g,by simpa using c,by simpa using j,by simpa using d⟩
def MOk (w:World)(base:Nat):Ak->Prop
 | ⟨_,_,b,d,c,kids⟩=>w.ownsRow base 55 3 d b.length (Au b)/\w.ownsRow base 59 4 c kids.length (Jk kids)/\∀p∈kids.map (MOk w base),p
theorem Jw (w:World)(base:Nat)(m:Ak):MOk w base m↔w.ownsRow base 55 3 m.av m.ds.length (Au m.ds)/\w.ownsRow base 59 4 m.kv m.kids.length (Jk m.kids)/\∀x∈m.kids,MOk w base x:=by
 obtain⟨k,op,d,c,b,kids⟩:=m;rw[MOk,Stil.all_map]
theorem MOk.map {w:World}(m:Ak)(h:MOk w base m)(c:∀(e:TypeId) (s n:Nat) (v:Value) (b:List Value),v∈m.vals->w.ownsRow base e s v n b->w'.ownsRow base' e s v n b):MOk w' base' m:=by
 revert h c
 refine Za (λm=>MOk w base m->(∀(e:TypeId) (s n:Nat) (v:Value) (b:List Value),v∈m.vals->w.ownsRow base e s v n b->w'.ownsRow base' e s v n b)->MOk w' base' m) ?_ m;intro k op l j i kids f h c;rw[Jw] at h ⊢;simp only[Ak.vals_eq] at c;refine⟨c _ _ _ _ _ AU h.1,c _ _ _ _ _ AU h.2.1,λx d=>f x d (h.2.2 x d) (λe s n v b g=>c e s n v b ?_)⟩;exact CQ _ (CQ _ (Q7.2 ⟨x,d,g⟩))
theorem MOk.below {w:World}{m:Ak}(h:MOk w base m)(c:AO w w'):MOk w' base m:=MOk.map m h (λ_ _ _ _ _ _ b=>ownsRow_below b c)
theorem MOk.kept {w:World}{m:Ak}(h:MOk w base m)(hg:w.grownBy w' x.ownBlock)(b:∀u∈m.vals,Aside u x):MOk w' base m:=MOk.map m h (λ_ _ _ _ _ c d=>d.kept hg (b _ c))
theorem MOk.le {w:World}{m:Ak}(h:MOk w base m)(hl:base'<=base):MOk w base' m:=MOk.map m h (λ_ _ _ _ _ _ b=>Joins.ownsRow_le b hl)
theorem MOk.lt {w:World}(m:Ak)(h:MOk w base m):∀x∈m.vals,∀k,x.ownBlock=some k->base<=k/\k<w.heap.size:=by
 revert h
 refine Za (λm=>MOk w base m->∀x∈m.vals,∀k,x.ownBlock=some k->base<=k/\k<w.heap.size) ?_ m;intro k op i g f kids e h x b j c;rw[Jw] at h;rw[Ak.vals_eq] at b;simp only[DF] at b;rcases b with rfl | rfl | b
 ·exact h.1.lt j c
 ·exact h.2.1.lt j c
 ·obtain⟨y,d,b⟩:=Q7.1 b
  exact e y d (h.2.2 y d) x b j c
def Ls (w:World)(base:Nat)(m:Ak):Prop:=MOk w base m/\m.vals.Pairwise Aside
theorem Ls.below {w:World}{m:Ak}(h:Ls w base m)(b:AO w w'):Ls w' base m:=⟨h.1.below b,h.2⟩
theorem Ls.le {w:World}{m:Ak}(h:Ls w base m)(hl:base'<=base):Ls w base' m:=⟨h.1.le hl,h.2⟩
def N8 (w:World)(base:Nat)(v:Value)(b:List Ak):Prop:=w.ownsRow base 59 4 v b.length (Jk b)/\(∀m∈b,MOk w base m)/\(v::Gv b).Pairwise Aside
theorem N8.nil (w:World)(base:Nat):N8 w base AG []:=⟨World.ownsRow_nil _ _ _ _,(λm b=>by cases b),G1 _ _⟩
theorem N8.below {w:World}{b:List Ak}(h:N8 w base v b)(c:AO w w'):N8 w' base v b:=⟨ownsRow_below h.1 c,λm d=>(h.2.1 m d).below c,h.2.2⟩
theorem N8.le {w:World}{b:List Ak}(h:N8 w base v b)(hl:base'<=base):N8 w base' v b:=⟨Joins.ownsRow_le h.1 hl,λm c=>(h.2.1 m c).le hl,h.2.2⟩
theorem N8.lt {w:World}{d:List Ak}(h:N8 w base v d):∀x∈v::Gv d,∀k,x.ownBlock=some k->base<=k/\k<w.heap.size:=by
 intro x b k c;rcases List.mem_cons.1 b with rfl | b
 ·exact h.1.lt k c
 ·obtain⟨m,e,b⟩:=Q7.1 b
  exact(h.2.1 m e).lt m x b k c
theorem N8.add {w:World}{g:Value}{d ks:List Ak}(h:N8 w base v d)(l:∀m∈ks,MOk w base m)(f:(v::(Gv d++Gv ks)).Pairwise Aside)
  (s:w'.ownsRow base 59 4 g (d.length+ks.length) (Jk d++Jk ks)) (hg:w.grownBy w' v.ownBlock) (r:g.ownBlock=v.ownBlock\/g.ownBlock=some w.heap.size):N8 w' base g (d++ks):=by
 rw[EQ] at f;have q:∀x∈Gv d++Gv ks,∀k,x.ownBlock=some k->k<w.heap.size:=by
  intro x c k i;rcases List.mem_append.1 c with c | c
  ·exact(h.lt x (CQ _ c) k i).2
  ·obtain⟨m,b,c⟩:=Q7.1 c
   exact((l m b).lt m x c k i).2
 refine⟨by rw[CM,qu];exact s,λm b=>?_,?_⟩
 ·rcases List.mem_append.1 b with b | b
  ·exact(h.2.1 m b).kept hg (λu hu=>(f.1 u (E1 _ (Q7.2 ⟨m,b,hu⟩))).symm)
  ·exact(l m b).kept hg (λu hu=>(f.1 u (D3 _ (Q7.2 ⟨m,b,hu⟩))).symm)
 ·rw[Q8,EQ]
  refine⟨λy j=>?_,f.2⟩;rcases r with e | e
  ·rcases f.1 y j with h0 | h0
   ·exact .inl B0
   ·exact .inr B0
  ·refine .inr (λn=>?_)
   rw[e] at n;have:=q y j _ n.symm
   omega
theorem N8.apart {w w1:World}{g ks:List Ak}{b1:Nat}(h:N8 w base v g)(n:∀m∈ks,MOk w1 b1 m)(q:w.heap.size<=b1)(l:(Gv ks).Pairwise Aside):(v::(Gv g++Gv ks)).Pairwise Aside:=by
 have f:=h.lt;have c:∀y∈Gv ks,∀k,y.ownBlock=some k->w.heap.size<=k:=by
  intro y c k d;obtain⟨m,i,c⟩:=Q7.1 c;exact CJ q ((n m i).lt m y c k d).1
 have e:=h.2.2;rw[EQ] at e ⊢;refine⟨λy b=>?_,List.pairwise_append.2 ⟨e.2,l,λx j y b=>Ho (λk d=>(f x (CQ _ j) k d).2) (c y b)⟩⟩;rcases List.mem_append.1 b with b | b
 ·exact e.1 y b
 ·exact Ho (λk d=>(f v AU k d).2) (c y b)
theorem Ls.kids {w:World}{m:Ak}(h:Ls w base m):(∀x∈m.kids,MOk w base x)/\(Gv m.kids).Pairwise Aside:=by
 refine⟨((Jw w base m).1 h.1).2.2,?_⟩;have b:=h.2;rw[Ak.vals_eq,EQ,EQ] at b;exact b.2.2
theorem N8.one {w:World}{c:List Ak}(h:N8 w base v c)(i:Nat)(hi:i<c.length):Ls w base c[i]:=by
 refine⟨h.2.1 _ (CN hi),?_⟩;have b:=(List.pairwise_cons.1 h.2.2).2;unfold Gv at b;rw[List.pairwise_flatten] at b;exact b.1 _ (List.mem_map.2 ⟨_,CN hi,rfl⟩)
theorem N8.net {w:World}{b:Value}{d:List Ak}(k op:Int)(c:List Stil.CC)(h:N8 w base v d)(e:w.ownsRow base 55 3 b c.length (Au c))(hd:∀x∈v::Gv d,Aside b x):Ls w base ⟨k,op,c,b,v,d⟩:=by
 refine⟨(Jw _ _ _).2 ⟨e,h.1,h.2.1⟩,?_⟩;rw[Ak.vals_eq,EQ];exact⟨hd,h.2.2⟩
theorem Py (x:Value):Aside AG x:=.inl rfl
theorem MOk.from {w:World}(m:Ak)(h:MOk w base m):Ny base w m.av m.net.one.args/\Zm base w m.kv m.net.kids:=by
 revert h
 refine Za (λm=>MOk w base m->Ny base w m.av m.net.one.args/\Zm base w m.kv m.net.kids) ?_ m;intro k op D C B kids n h;rw[Jw] at h;rw[Ak.net_eq];refine⟨Ny.of_owns h.1,?_⟩;simp only at h ⊢;by_cases F:kids.length=0
 ·obtain⟨a,cap,rfl⟩:=Ah h.2.1
  exact⟨a,cap,AU,λi hi=>absurd hi Ax⟩
 ·obtain⟨g,cap,t,z,l,_,b⟩:=Cb h.2.1 AQ
  subst t;refine⟨_,cap,AU,λi hi=>⟨g,0,rfl,z,l,?_⟩⟩;have c:i<kids.length:=by simpa using hi
  obtain⟨s,d,q,f⟩:=O6 kids i c;obtain⟨r,A⟩:=n _ (CN c) (h.2.2 _ (CN c));rw[EI,wT,CV];have e:=Ak.net_eq kids[i];have j:kids[i].net.kind=kids[i].kind:=by rw[e]
  have y:kids[i].net.one.op=kids[i].op:=by rw[e]
  rw[j,y];exact⟨b _ _ s,b _ _ d,⟨_,b _ _ q,r⟩,⟨_,b _ _ f,A⟩⟩
def Rq (w:World)(base:Nat)(n:Stil.B9)(e:Ending):Prop:=∃(k op:Int) (b:List Stil.CC) (h:Option Addr) (f:Nat) (d:Option Addr) (g:Nat) (c:List Ak),e=.returned (.agg #[AB k,AB op,AE h b.length f,AE d c.length g])/\
 Ls w base ⟨k,op,b,AE h b.length f,AE d c.length g,c⟩/\(Ak.mk k op b (AE h b.length f) (AE d c.length g) c).net=n
theorem MOk.set {w:World}{m:Ak}(h:MOk w base m)(c:a.block<base)(u:Value):MOk (w.setCell a u) base m:=MOk.map m h (λ_ _ _ _ _ _ b=>ownsRow_setCell_below b c u)
theorem MOk.set4 {w:World}{b f e d i:Nat}{m:Ak}{u1 u2 u3 g:Value}(h:MOk w base m)(c:b<base):MOk ((((w.setCell (AK b f) u1).setCell (AK b e) u2).setCell (AK b d) u3).setCell (AK b i) g) base m:=
 MOk.set (MOk.set (MOk.set (MOk.set h (a:=(AK b f)) c u1) (a:=(AK b e)) c u2) (a:=(AK b d)) c u3) (a:=(AK b i)) c g
theorem Ls.set {w:World}{m:Ak}(h:Ls w base m)(b:a.block<base)(u:Value):Ls (w.setCell a u) base m:=⟨h.1.set b u,h.2⟩
theorem N8.set {w:World}{c:List Ak}(h:N8 w base v c)(b:a.block<base)(u:Value):N8 (w.setCell a u) base v c:=⟨ownsRow_setCell_below h.1 b u,λm d=>(h.2.1 m d).set b u,h.2.2⟩
end Go.Proofs.YtifcnfeppdbjdaaGreatDoor
namespace Stil
end Stil
namespace Go.Proofs.YtifcnfeppdbjdaaGreatDoor
open Tryz Go.RowKit Go.Sort Go.BigFrame
variable {E:Prop}{W:World}{a:Act}{base:Nat}{o:Oper}{ops:Array Oper}{rest:List Oper}{u0 u1 u2 u3 v1 v2 v3:Value}
theorem UK {w:World}{ks:List Ak}(b:∀m∈ks,MOk w base m):∀u∈Jk ks,u.oneCell'=true:=by
 intro u hu;obtain⟨m,d,hu⟩:=List.mem_flatMap.1 hu;have h:=(Jw w base m).1 (b m d);obtain⟨j,g,c⟩:=Ah h.1;obtain⟨f,i,e⟩:=Ah h.2.1;simp only[Ak.cells,DF,M6,DK] at hu;rcases hu with rfl | rfl | rfl | rfl
 ·rfl
 ·rfl
 ·rw[c];rfl
 ·rw[e];rfl
theorem zb0 {p:Prop}(h:p:=by
 rename_i t1
 have e:Sem.run prog (Builtin.append_ #[57,57] o.type #[AE ra ms.length rc,AE (some t1) 0 c]) w=.ok (AE ra ms.length rc) w:=by cases ra<;>simp[Builtin.append_,go_sem,hcap]
 simp only[hop,resolve,invoke,builtin,Sem.run_bind,Sem.run_pure,Result.andThen_ok,EL,CP,C3,hs,hx,e];exact hk2):p:=h
theorem zg0 {p:Prop}(h:p:=by
 have e:Sem.run prog (Builtin.append_ #[57,57] o.type #[AE ra ms.length rc,AE none 0 c]) w=.ok (AE ra ms.length rc) w:=by cases ra<;>simp[Builtin.append_,go_sem,hcap]
 simp only[hop,resolve,invoke,builtin,Sem.run_bind,Sem.run_pure,Result.andThen_ok,EL,CP,C3,hs,hx,e];exact hk2):p:=h
theorem oj {w:World}{K:Act->World->Prop}{Q:Exit->Act->World->Prop}
  (hg:o.guard=none) (s x:Operand) (hop:o.op=.call {callee:=.builtin .append,args:=#[s,x],argTypes:=#[57,57]})
  (base:Nat) (ra:Option Addr) (rc:Nat) (ms ks:List Ak) (ad:Option Addr) (c:Nat) (hs:a.eval s=AE ra ms.length rc) (hx:a.eval x=AE ad ks.length c)
  (hrow:N8 w base (AE ra ms.length rc) ms) (y:0<ks.length->∃p,ad=some p/\∀j u,(Jk ks)[j]?=some u->w.cell? (p.add j)=some u)
  (l:∀m∈ks,MOk w base m) (B:(Value.slice ra ms.length rc::(Gv ms++Gv ks)).Pairwise Aside) (hl:ms.length+ks.length<=1000000) (q:base<=w.heap.size)
  (i:∀k f w',N8 w' base (AE k (ms.length+ks.length) f) (ms++ks)->Below base w w'->K (a.put o.dst (AE k (ms.length+ks.length) f)) w'):
  if Region.wanted o (yielded ops a.tmps)=true then Oper.wp prog o a w K Q else E:=by
 obtain⟨I,hi,C,L,A⟩:=info_parts QD;by_cases hd:ks.length=0
 ·have t:=List.length_eq_zero_iff.1 hd
  subst t;have F:Region.wanted o (yielded ops a.tmps)=true:=by simp[Region.wanted,hg]
  rw[if_pos F];have hcap:ms.length<=rc:=by
   rcases hrow.1.2 with⟨d,b⟩ | ⟨g,f,cur,d,_,_,M,_⟩
   ·rw[b];exact DI _
   ·simp only[Value.slice.injEq] at d
    rw[d.2.2];exact M
  have hk2:=i ra rc w yDc (Below.refl _ _);simp only[CO,EO] at hk2 hx;unfold Oper.wp execOp;cases ad
  ·exact zg0
  ·exact zb0
 ·obtain⟨p,rfl,D⟩:=y AQ
  refine Eh hg s x _ hop base 59 I _ 4 64 underlying57 hi C L A rfl AY _ _ (Jk ms) hs hrow.1 _ _ _ (Jk ks) hx (Vv ks) D (UK l) A6 AQ q ?_;intro N w' b n J;obtain⟨G,r,z⟩:=Ah b;subst z;exact i G r w' (hrow.add l B b n J) ((Below.refl _ _).grown n q (λj H=>(hrow.1.lt j H).1))
theorem Ut {w:World}{Q:Exit->Act->World->Prop}
  (hg:o.guard=none) (s x:Operand) (A:o.op=.call {callee:=.builtin .append,args:=#[s,x],argTypes:=#[57,57]})
  (base:Nat) (g:Option Addr) (d:Nat) (b ks:List Ak) (ad:Option Addr) (c:Nat) (q:a.eval s=AE g b.length d) (hx:a.eval x=AE ad ks.length c)
  (r:N8 w base (AE g b.length d) b) (i:0<ks.length->∃p,ad=some p/\∀j u,(Jk ks)[j]?=some u->w.cell? (p.add j)=some u)
  (t:∀m∈ks,MOk w base m) (k:(Value.slice g b.length d::(Gv b++Gv ks)).Pairwise Aside) (hl:b.length+ks.length<=1000000) (B:base<=w.heap.size)
  (h:∀f e w',N8 w' base (AE f (b.length+ks.length) e) (b++ks)->Below base w w'->wpList prog ops Q rest (a.put o.dst (AE f (b.length+ks.length) e)) w'):
  wpList prog ops Q (o::rest) a w:=by
 refine wpList_plain hg λK l=>?_
 have n:Region.wanted o (yielded #[] a.tmps)=true:=by simp[Region.wanted,hg]
 have:=oj (ops:=#[]) (K:=K) (Q:=Q) (E:=True) hg s x A base g d b ks ad c q hx r i t k hl B (λf e w' y z=>l _ _ (h f e w' y z))
 rwa [if_pos n] at this
theorem N8.single {w:World}{m:Ak}(h:Ls w base m)(c:base<=w.heap.size):N8 (w.alloc (.cells #[AB m.kind,AB m.op,m.av,m.kv] 59)) base (AE (some (AL w 0)) 1 1) [m]:=by
 refine⟨?_,λx f=>?_,?_⟩
 ·exact World.ownsRow_lit w #[AB m.kind,AB m.op,m.av,m.kv] 1 c A6 rfl
 ·rw[List.mem_singleton.1 f];exact h.1.below (Aa _ _)
 ·rw[Md,EQ]
  refine⟨λy d=>(Ho (n:=w.heap.size) (λk b=>(h.1.lt m y d k b).2) (λk b=>?_)).symm,h.2⟩;have e:w.heap.size=k:=by simpa[Value.ownBlock] using b
  omega
theorem Ou {p q:Addr}{v:Value}:(W.setCell p v).frozen? q=W.frozen? q:=by simp[go_sem]
theorem cells4 {t:TypeId}:∀j u,[u0,u1,u2,u3][j]?=some u->(W.alloc (.cells #[u0,u1,u2,u3] t)).cell? (((AL W 0):Addr).add j)=some u:=by
 intro j u h;rw[Addr.add_lit]
 match j,h with
 | 0,h=>simp at h;subst h;simp[go_sem]
 | 1,h=>simp at h;subst h;simp[go_sem]
 | 2,h=>simp at h;subst h;simp[go_sem]
 | 3,h=>simp at h;subst h;simp[go_sem]
 | j+4,h=>simp at h
def B4 (w:World)(b:Nat)(v0 v1 v2 v3:Value):Prop:=b<w.heap.size/\(w.cell? ⟨b,0,none⟩=some v0/\w.cell? ⟨b,1,none⟩=some v1/\w.cell? ⟨b,2,none⟩=some v2/\w.cell? ⟨b,3,none⟩=some v3)/\
 w.frozen? ⟨b,0,none⟩=false/\w.frozen? ⟨b,1,none⟩=false/\w.frozen? ⟨b,2,none⟩=false/\w.frozen? ⟨b,3,none⟩=false
theorem B4.below {w w':World}{n b:Nat}{v0:Value}(h:B4 w b v0 v1 v2 v3)(c:Below n w w')(d:b<n):B4 w' b v0 v1 v2 v3:=by
 obtain⟨m,⟨l,i,g,k⟩,f,j,q,e⟩:=h;refine⟨CB m c.size,⟨(c.cell (p:=(AK b 0)) d).trans l,(c.cell (p:=(AK b 1)) d).trans i,(c.cell (p:=(AK b 2)) d).trans g,(c.cell (p:=(AK b 3)) d).trans k⟩,?_⟩;exact⟨(c.frozen (p:=(AK b 0)) d).trans f,(c.frozen (p:=(AK b 1)) d).trans j,(c.frozen (p:=(AK b 2)) d).trans q,(c.frozen (p:=(AK b 3)) d).trans e⟩
theorem B4.set3 {w:World}{b:Nat}{v0:Value}(h:B4 w b v0 v1 v2 v3)(u:Value):B4 (w.setCell (AK b 3) u) b v0 v1 v2 u:=by
 obtain⟨k,⟨j,f,e,i⟩,d,g,l,c⟩:=h;exact⟨CB k (I7 _ _ _),⟨(A7 AQ).trans j,(A7 AQ).trans f,(A7 AQ).trans e,Fb i⟩,Ou.trans d,Ou.trans g,Ou.trans l,Ou.trans c⟩
theorem B4.setO {w:World}{b c o:Nat}{v0:Value}(h:B4 w b v0 v1 v2 v3)(d:b≠c)(u:Value):B4 (w.setCell (AK c o) u) b v0 v1 v2 v3:=by
 obtain⟨m,⟨l,i,g,k⟩,f,j,n,e⟩:=h;exact⟨CB m (I7 _ _ _),⟨(Bj d).trans l,(Bj d).trans i,(Bj d).trans g,(Bj d).trans k⟩,Ou.trans f,Ou.trans j,Ou.trans n,Ou.trans e⟩
theorem pS {w:World}{K:Act->World->Prop}{Q:Exit->Act->World->Prop}
  (hg:o.guard=none) (s x:Operand) (hop:o.op=.call {callee:=.builtin .append,args:=#[s,x],argTypes:=#[57,57]})
  (base lo:Nat) (ra:Option Addr) (rc:Nat) (ms ks:List Ak) (ad:Option Addr) (c:Nat) (hs:a.eval s=AE ra ms.length rc) (hx:a.eval x=AE ad ks.length c)
  (hrow:N8 w base (AE ra ms.length rc) ms) (B:0<ks.length->∃p,ad=some p/\∀j u,(Jk ks)[j]?=some u->w.cell? (p.add j)=some u)
  (t:∀m∈ks,MOk w base m) (F:(Value.slice ra ms.length rc::(Gv ms++Gv ks)).Pairwise Aside) (hl:ms.length+ks.length<=1000000) (O:base<=w.heap.size) (n:lo<=w.heap.size) (f:∀k,(Value.slice ra ms.length rc).ownBlock=some k->lo<=k)
  (q:∀l b w',N8 w' base (AE l (ms.length+ks.length) b) (ms++ks)->Below lo w w'->(∀k,(Value.slice l (ms.length+ks.length) b).ownBlock=some k->lo<=k)->K (a.put o.dst (AE l (ms.length+ks.length) b)) w'):
  if Region.wanted o (yielded ops a.tmps)=true then Oper.wp prog o a w K Q else E:=by
 obtain⟨L,hi,G,M,D⟩:=info_parts QD;by_cases hd:ks.length=0
 ·have A:=List.length_eq_zero_iff.1 hd
  subst A;have I:Region.wanted o (yielded ops a.tmps)=true:=by simp[Region.wanted,hg]
  rw[if_pos I];have hcap:ms.length<=rc:=by
   rcases hrow.1.2 with⟨i,d⟩ | ⟨g,b,cur,i,_,_,N,_⟩
   ·rw[d];exact DI _
   ·simp only[Value.slice.injEq] at i
    rw[i.2.2];exact N
  have hk2:=q ra rc w yDc (Below.refl _ _) (by simpa using f);simp only[CO,EO] at hk2 hx;unfold Oper.wp execOp;cases ad
  ·exact zg0
  ·exact zb0
 ·obtain⟨p,rfl,H⟩:=B AQ
  refine Eh hg s x _ hop base 59 L _ 4 64 underlying57 hi G M D rfl AY _ _ (Jk ms) hs hrow.1 _ _ _ (Jk ks) hx (Vv ks) H (UK t) A6 AQ O ?_;intro P w' d y r;obtain⟨J,z,C⟩:=Ah d;subst C;refine q J z w' (hrow.add t F d y r) ((Below.refl _ _).grown y n f) (λk hk2=>?_);rcases r with e | e
  ·exact f k (by rw[<-e];exact hk2)
  ·rw[e] at hk2
   cases hk2;exact n
theorem Ru {w:World}{Q:Exit->Act->World->Prop}
  (hg:o.guard=none) (s x:Operand) (F:o.op=.call {callee:=.builtin .append,args:=#[s,x],argTypes:=#[57,57]})
  (base lo:Nat) (g:Option Addr) (d:Nat) (b ks:List Ak) (ad:Option Addr) (c:Nat) (y:a.eval s=AE g b.length d) (hx:a.eval x=AE ad ks.length c)
  (z:N8 w base (AE g b.length d) b) (l:0<ks.length->∃p,ad=some p/\∀j u,(Jk ks)[j]?=some u->w.cell? (p.add j)=some u)
  (B:∀m∈ks,MOk w base m) (n:(Value.slice g b.length d::(Gv b++Gv ks)).Pairwise Aside) (hl:b.length+ks.length<=1000000) (G:base<=w.heap.size) (q:lo<=w.heap.size) (i:∀k,(Value.slice g b.length d).ownBlock=some k->lo<=k)
  (h:∀f e w',N8 w' base (AE f (b.length+ks.length) e) (b++ks)->Below lo w w'->(∀k,(Value.slice f (b.length+ks.length) e).ownBlock=some k->lo<=k)->wpList prog ops Q rest (a.put o.dst (AE f (b.length+ks.length) e)) w'):
  wpList prog ops Q (o::rest) a w:=by
 refine wpList_plain hg λK r=>?_
 have t:Region.wanted o (yielded #[] a.tmps)=true:=by simp[Region.wanted,hg]
 have:=pS (ops:=#[]) (K:=K) (Q:=Q) (E:=True) hg s x F base lo g d b ks ad c y hx z l B n hl G q i (λf e w' C D A=>r _ _ (h f e w' C D A))
 rwa [if_pos t] at this
def Qx (k:Int)(m:Ak):List Ak:=if m.kind=k then m.kids else [m]
theorem RZ {B:Nat}(b:B=W.heap.size){t:TypeId}:∀j u,[u0,u1,u2,u3][j]?=some u->(W.alloc (.cells #[u0,u1,u2,u3] t)).cell? (((AK B 0):Addr).add j)=some u:=by
 subst b;exact cells4
set_option maxHeartbeats 2000000 in
set_option maxRecDepth 100000 in
theorem lS (k:Int)(B base lo:Nat)(y:Option Addr)(t:Nat)(e:List Ak)(f r:Int)(d:List Stil.CC)(q:Option Addr)(s:Nat)(i:Option Addr)(l:Nat)(b:List Ak)(w:World)
  (ae:w.cell? (AK B 0)=some (AB k)) (hB:B<w.heap.size) (J:N8 w base (AE y e.length t) e) (A:Ls w base ⟨f,r,d,AE q d.length s,AE i b.length l,b⟩)
  (I:(Value.slice y e.length t::(Gv e++(Ak.mk f r d (AE q d.length s) (AE i b.length l) b).vals)).Pairwise Aside) (hl:e.length+b.length+1<=1000000) (ag:base<=w.heap.size) (Y:lo<=w.heap.size) (H:∀k,(Value.slice y e.length t).ownBlock=some k->lo<=k):
  Calls prog 144 #[AE y e.length t, .agg #[AB f,AB r,AE q d.length s,AE i b.length l],AH B] w λac w'=>∃(a:Option Addr) (c:Nat),ac=.returned (AE a (e.length+(Qx k ⟨f,r,d,AE q d.length s,AE i b.length l,b⟩).length) c)/\N8 w' base (AE a (e.length+(Qx k ⟨f,r,d,AE q d.length s,AE i b.length l,b⟩).length) c) (e++Qx k ⟨f,r,d,AE q d.length s,AE i b.length l,b⟩)/\Below lo w w'/\∀j,(Value.slice a (e.length+(Qx k ⟨f,r,d,AE q d.length s,AE i b.length l,b⟩).length) c).ownBlock=some j->lo<=j:=by
 by_cases K:f=k
 ·have P:=AV (λW (h:AO w W)=>J.below h)
  have Q:Hid (∀W,AO w W->∀m∈b,MOk W base m):=λW h m T=>(A.kids.1 m T).below h
  have U:Hid ((Value.slice y e.length t::(Gv e++Gv b)).Pairwise Aside):=by
   refine List.Pairwise.sublist (List.Sublist.cons_cons _ (List.Sublist.append (Ek _) ?_)) I;rw[Ak.vals_eq];exact List.Sublist.cons _ (List.Sublist.cons _ (Ek _))
  have aa:Hid (∀W,AO w W->0<b.length->∃p,i=some p/\∀j u,(Jk b)[j]?=some u->W.cell? (p.add j)=some u):=by
   intro W hW hz;have V:=ownsRow_below ((Jw _ _ _).1 A.1).2.1 hW;simp only at V;obtain⟨g,c,Z,_,_,_,ab⟩:=Cb V hz;simp only[Value.slice.injEq] at Z;exact⟨(AK g 0),Z.1,λj u hu=>by rw[Addr.add_lit];simpa using ab j u hu⟩
  have M:e.length+b.length<=1000000:=AQ
  have F:Qx k ⟨f,r,d,AE q d.length s,AE i b.length l,b⟩=b:=if_pos K;rw[F];clear F;have R:=AV H;clear J A I hl H;rw[<-K] at ae;go_enter func144,ntmps144
  go_wp2_with (at_builtin;refine Ru rfl _ _ rfl base lo y t e b i l rfl rfl (P _ AW) (aa _ AW) (Q _ AW) U M Ax Ax R.out ?_;intro D z X G L C;have O:=AV G;have N:=AV C;clear G C;have S:=(show Below lo w _ from(show AO w _ from AW).mono Y).trans L)
  go_ret;exact⟨D,z,rfl,O.out,S,N.out⟩
 ·have P:=AV (λW (h:AO w W)=>J.below h)
  have Q:Hid (∀W,AO w W->∀m∈[(Ak.mk f r d (AE q d.length s) (AE i b.length l) b)],MOk W base m):=λW h m T=>by rw[List.mem_singleton.1 T];exact A.1.below h
  have U:Hid ((Value.slice y e.length t::(Gv e++Gv [(Ak.mk f r d (AE q d.length s) (AE i b.length l) b)])).Pairwise Aside):=by show List.Pairwise _ _;rw[Md];exact I
  have M:e.length+[(Ak.mk f r d (AE q d.length s) (AE i b.length l) b)].length<=1000000:=by simp only[ED];omega
  have F:Qx k ⟨f,r,d,AE q d.length s,AE i b.length l,b⟩=[(Ak.mk f r d (AE q d.length s) (AE i b.length l) b)]:=if_neg K;rw[F];clear F;have R:=AV H;have af:(f==k)=false:=by rw[CS];exact K
  clear J A I hl H;go_enter func144,ntmps144
  go_wp2_with (at_builtin;refine Ru rfl _ _ rfl base lo y t e [Ak.mk f r d (AE q d.length s) (AE i b.length l) b] _ 1 rfl rfl (P _ AW) (λ_=>⟨_,rfl,by exact RZ AU⟩) (Q _ AW) U M Ax Ax R.out ?_;intro D z X G L C;have O:Hid (N8 X base (AE D (e.length+1) z) (e++[Ak.mk f r d (AE q d.length s) (AE i b.length l) b])):=G;have N:Hid (∀k,(Value.slice D (e.length+1) z).ownBlock=some k->lo<=k):=C;clear G C;have S:=(show Below lo w _ from(show AO w _ from AW).mono Y).trans L)
  go_ret;exact⟨D,z,rfl,O.out,S,N.out⟩
