import Derived.Test.YtifcnfeppdbjdaaGreatDoorY6b
namespace Go.Proofs.YtifcnfeppdbjdaaGreatDoor
open Tryz Go.RowKit Go.Sort Go.BigFrame
variable {E:Prop}{a:Act}{base base':Nat}{o:Oper}{ops:Array Oper}{rest:List Oper}{v v' x:Value}{w':World}
structure Ej where
 op:Int
 ds:List Stil.CC
 av:Value
def Ej.elem (m:Ej):Stil.Elem:=⟨m.op,m.ds⟩
def G6 (es:List Ej):List Value:=es.map Ej.av
def Ej.cells (m:Ej):List Value:=[AB m.op,m.av]
def Jc (es:List Ej):List Value:=es.flatMap Ej.cells
theorem qd (a b:List Ej):Jc (a++b)=Jc a++Jc b:=by simp[Jc]
theorem Yl (a b:List Ej):G6 (a++b)=G6 a++G6 b:=by simp[G6]
theorem Po {es:List Ej}:x∈G6 es↔∃m∈es,m.av=x:=by simp[G6]
theorem W6 (es:List Ej):(Jc es).length=es.length*2:=by
 induction es with
 | nil=>rfl
 | cons m r b=>
  have e:Jc (m::r)=m.cells++Jc r:=rfl;rw[e,CM,b];simp[Ej.cells];omega
theorem OM:∀(b:List Ej) (i:Nat) (h:i<b.length),(Jc b)[i*2]?=some (AB b[i].op)/\(Jc b)[i*2+1]?=some b[i].av
 | [],_,h=>by simp at h
 | m::r,0,_=>⟨rfl,rfl⟩
 | m::r,i+1,h=>by
  obtain⟨f,c⟩:=OM r i BR;have e:Jc (m::r)=AB m.op::m.av::Jc r:=rfl;have d:(i+1)*2=i*2+1+1:=AQ
  rw[e,d];exact⟨by simpa using f,by simpa using c⟩
def EOk (w:World)(base:Nat)(m:Ej):Prop:=w.ownsRow base 55 3 m.av m.ds.length (Au m.ds)
def Vj (w:World)(base:Nat)(v:Value)(es:List Ej):Prop:=w.ownsRow base 51 2 v es.length (Jc es)/\(∀m∈es,EOk w base m)/\(v::G6 es).Pairwise Aside
theorem Vj.nil (w:World)(base:Nat):Vj w base AG []:=⟨World.ownsRow_nil _ _ _ _,(λm b=>by cases b),G1 _ _⟩
theorem Vj.below {w:World}{es:List Ej}(h:Vj w base v es)(b:AO w w'):Vj w' base v es:=⟨ownsRow_below h.1 b,λm c=>ownsRow_below (h.2.1 m c) b,h.2.2⟩
theorem Vj.le {w:World}{es:List Ej}(h:Vj w base v es)(hl:base'<=base):Vj w base' v es:=⟨Joins.ownsRow_le h.1 hl,λm b=>Joins.ownsRow_le (h.2.1 m b) hl,h.2.2⟩
theorem Vj.lt {w:World}{es:List Ej}(h:Vj w base v es):∀x∈v::G6 es,∀k,x.ownBlock=some k->base<=k/\k<w.heap.size:=by
 intro x b k c;rcases List.mem_cons.1 b with rfl | b
 ·exact h.1.lt k c
 ·obtain⟨m,d,rfl⟩:=Po.1 b
  exact(h.2.1 m d).lt k c
theorem Vj.add {w:World}{es ks:List Ej}(h:Vj w base v es)(i:∀m∈ks,EOk w base m)(d:(v::(G6 es++G6 ks)).Pairwise Aside)
  (q:w'.ownsRow base 51 2 v' (es.length+ks.length) (Jc es++Jc ks)) (hg:w.grownBy w' v.ownBlock) (n:v'.ownBlock=v.ownBlock\/v'.ownBlock=some w.heap.size):Vj w' base v' (es++ks):=by
 rw[EQ] at d;have l:∀x∈G6 es++G6 ks,∀k,x.ownBlock=some k->k<w.heap.size:=by
  intro x c k f;rcases List.mem_append.1 c with c | c
  ·exact(h.lt x (CQ _ c) k f).2
  ·obtain⟨m,b,rfl⟩:=Po.1 c
   exact((i m b).lt k f).2
 refine⟨by rw[CM,qd];exact q,λm b=>?_,?_⟩
 ·rcases List.mem_append.1 b with b | b
  ·exact(h.2.1 m b).kept hg (d.1 _ (E1 _ (Po.2 ⟨m,b,rfl⟩))).symm
  ·exact(i m b).kept hg (d.1 _ (D3 _ (Po.2 ⟨m,b,rfl⟩))).symm
 ·rw[Yl,EQ]
  refine⟨λy g=>?_,d.2⟩;rcases n with e | e
  ·rcases d.1 y g with h0 | h0
   ·exact .inl B0
   ·exact .inr B0
  ·refine .inr (λj=>?_)
   rw[e] at j;have:=l y g _ j.symm
   omega
structure Bq where
 net:Ak
 cv:Value
 coils:List Ej
 kv:Value
 kids:List Bq
theorem KI (P:Bq->Prop)(h:∀n b d c kids,(∀x∈kids,P x)->P ⟨n,b,d,c,kids⟩):∀n,P n
 | ⟨n,b,d,c,kids⟩=>h n b d c kids (λx _=>KI P h x)
def Bq.arm:Bq->Stil.B8
 | ⟨n,_,b,_,kids⟩=>⟨n.net,b.map Ej.elem,kids.map Bq.arm⟩
theorem Bq.arm_eq (m:Bq):m.arm=⟨m.net.net,m.coils.map Ej.elem,m.kids.map Bq.arm⟩:=by obtain⟨n,cv,b,kv,kids⟩:=m;rw[Bq.arm]
def Bq.vals:Bq->List Value
 | ⟨n,cv,b,kv,kids⟩=>n.vals++((cv::G6 b)++(kv::(kids.map Bq.vals).flatten))
def Iy (b:List Bq):List Value:=(b.map Bq.vals).flatten
theorem Bq.vals_eq (m:Bq):m.vals=m.net.vals++((m.cv::G6 m.coils)++(m.kv::Iy m.kids)):=by obtain⟨n,cv,b,kv,kids⟩:=m;rw[Bq.vals];rfl
theorem Yv (a b:List Bq):Iy (a++b)=Iy a++Iy b:=by simp[Iy]
theorem Ro (m:Bq):Iy [m]=m.vals:=by simp[Iy]
theorem Oe {d:List Bq}:x∈Iy d↔∃m∈d,x∈m.vals:=by
 simp only[Iy,List.mem_flatten,oZ];constructor
 ·rintro⟨_,⟨m,c,rfl⟩,b⟩;exact⟨m,c,b⟩
 ·rintro⟨m,c,b⟩;exact⟨_,⟨m,c,rfl⟩,b⟩
def Bq.cells (m:Bq):List Value:=[AB m.net.kind,AB m.net.op,m.net.av,m.net.kv,m.cv,m.kv]
def Jl (b:List Bq):List Value:=b.flatMap Bq.cells
theorem rS (a b:List Bq):Jl (a++b)=Jl a++Jl b:=by simp[Jl]
theorem XH (b:List Bq):(Jl b).length=b.length*6:=by
 induction b with
 | nil=>rfl
 | cons m r c=>
  have e:Jl (m::r)=m.cells++Jl r:=rfl;rw[e,CM,c];simp[Bq.cells];omega
theorem V7:∀(b:List Bq) (i:Nat) (h:i<b.length),(Jl b)[i*6]?=some (AB b[i].net.kind)/\(Jl b)[i*6+1]?=some (AB b[i].net.op)/\(Jl b)[i*6+2]?=some b[i].net.av/\(Jl b)[i*6+3]?=some b[i].net.kv/\(Jl b)[i*6+4]?=some b[i].cv/\(Jl b)[i*6+5]?=some b[i].kv
 | [],_,h=>by simp at h
 | m::r,0,_=>⟨rfl,rfl,rfl,rfl,rfl,rfl⟩
 | m::r,i+1,h=>by
  obtain⟨j,c,l,d,k,f⟩:=V7 r i BR;have e:Jl (m::r)=AB m.net.kind::AB m.net.op::m.net.av::m.net.kv::m.cv::m.kv::Jl r:=rfl;have g:(i+1)*6=i*6+1+1+1+1+1+1:=AQ
  rw[e,g];exact⟨by simpa using j,by simpa using c,by simpa using l,by simpa using d,by simpa using k,by simpa using f⟩
def AOk (w:World)(base:Nat):Bq->Prop
 | ⟨n,c,b,d,kids⟩=>MOk w base n/\(w.ownsRow base 51 2 c b.length (Jc b)/\∀m∈b,EOk w base m)/\w.ownsRow base 62 6 d kids.length (Jl kids)/\∀p∈kids.map (AOk w base),p
theorem Jp (w:World)(base:Nat)(m:Bq):AOk w base m↔MOk w base m.net/\(w.ownsRow base 51 2 m.cv m.coils.length (Jc m.coils)/\∀x∈m.coils,EOk w base x)/\w.ownsRow base 62 6 m.kv m.kids.length (Jl m.kids)/\∀x∈m.kids,AOk w base x:=by
 obtain⟨n,b,d,c,kids⟩:=m;rw[AOk,Stil.all_map]
theorem AOk.map {w:World}(m:Bq)(h:AOk w base m)(c:∀(e:TypeId) (s n:Nat) (v:Value) (b:List Value),v∈m.vals->w.ownsRow base e s v n b->w'.ownsRow base' e s v n b):AOk w' base' m:=by
 revert h c
 refine KI (λm=>AOk w base m->(∀(e:TypeId) (s n:Nat) (v:Value) (b:List Value),v∈m.vals->w.ownsRow base e s v n b->w'.ownsRow base' e s v n b)->AOk w' base' m) ?_ m;intro n y u t kids j h c;rw[Jp] at h ⊢;simp only[Bq.vals_eq] at c;obtain⟨l,⟨r,i⟩,g,q⟩:=h;refine⟨MOk.map n l (λe s k v b f=>c e s k v b (E1 _ f)),⟨c _ _ _ _ _ AU r,λx d=>c _ _ _ _ _ ?_ (i x d)⟩,c _ _ _ _ _ AU g,λx d=>j x d (q x d) (λe s k v b f=>c e s k v b ?_)⟩
 ·exact D3 _ (E1 _ (CQ _ (Po.2 ⟨x,d,rfl⟩)))
 ·exact D3 _ (D3 _ (CQ _ (Oe.2 ⟨x,d,f⟩)))
theorem AOk.below {w:World}{m:Bq}(h:AOk w base m)(c:AO w w'):AOk w' base m:=AOk.map m h (λ_ _ _ _ _ _ b=>ownsRow_below b c)
theorem AOk.kept {w:World}{m:Bq}(h:AOk w base m)(hg:w.grownBy w' x.ownBlock)(b:∀u∈m.vals,Aside u x):AOk w' base m:=AOk.map m h (λ_ _ _ _ _ c d=>d.kept hg (b _ c))
theorem AOk.le {w:World}{m:Bq}(h:AOk w base m)(hl:base'<=base):AOk w base' m:=AOk.map m h (λ_ _ _ _ _ _ b=>Joins.ownsRow_le b hl)
theorem AOk.lt {w:World}(m:Bq)(h:AOk w base m):∀x∈m.vals,∀k,x.ownBlock=some k->base<=k/\k<w.heap.size:=by
 revert h
 refine KI (λm=>AOk w base m->∀x∈m.vals,∀k,x.ownBlock=some k->base<=k/\k<w.heap.size) ?_ m;intro n s r q kids g h x b j c;rw[Jp] at h;obtain⟨i,⟨p,f⟩,e,l⟩:=h;rw[Bq.vals_eq] at b;simp only[E7,DF] at b;rcases b with b | (rfl | b) | rfl | b
 ·exact i.lt _ x b j c
 ·exact p.lt j c
 ·obtain⟨y,d,rfl⟩:=Po.1 b
  exact(f y d).lt j c
 ·exact e.lt j c
 ·obtain⟨y,d,b⟩:=Oe.1 b
  exact g y d (l y d) x b j c
def Lt (w:World)(base:Nat)(m:Bq):Prop:=AOk w base m/\m.vals.Pairwise Aside
theorem Lt.below {w:World}{m:Bq}(h:Lt w base m)(b:AO w w'):Lt w' base m:=⟨h.1.below b,h.2⟩
theorem Lt.le {w:World}{m:Bq}(h:Lt w base m)(hl:base'<=base):Lt w base' m:=⟨h.1.le hl,h.2⟩
def Su (w:World)(base:Nat)(v:Value)(b:List Bq):Prop:=w.ownsRow base 62 6 v b.length (Jl b)/\(∀m∈b,AOk w base m)/\(v::Iy b).Pairwise Aside
theorem Su.nil (w:World)(base:Nat):Su w base AG []:=⟨World.ownsRow_nil _ _ _ _,(λm b=>by cases b),G1 _ _⟩
theorem Su.below {w:World}{c:List Bq}(h:Su w base v c)(b:AO w w'):Su w' base v c:=⟨ownsRow_below h.1 b,λm d=>(h.2.1 m d).below b,h.2.2⟩
theorem Su.le {w:World}{b:List Bq}(h:Su w base v b)(hl:base'<=base):Su w base' v b:=⟨Joins.ownsRow_le h.1 hl,λm c=>(h.2.1 m c).le hl,h.2.2⟩
theorem Su.lt {w:World}{d:List Bq}(h:Su w base v d):∀x∈v::Iy d,∀k,x.ownBlock=some k->base<=k/\k<w.heap.size:=by
 intro x b k c;rcases List.mem_cons.1 b with rfl | b
 ·exact h.1.lt k c
 ·obtain⟨m,e,b⟩:=Oe.1 b
  exact(h.2.1 m e).lt m x b k c
theorem Su.add {w:World}{d ks:List Bq}(h:Su w base v d)(j:∀m∈ks,AOk w base m)(f:(v::(Iy d++Iy ks)).Pairwise Aside)
  (r:w'.ownsRow base 62 6 v' (d.length+ks.length) (Jl d++Jl ks)) (hg:w.grownBy w' v.ownBlock) (q:v'.ownBlock=v.ownBlock\/v'.ownBlock=some w.heap.size):Su w' base v' (d++ks):=by
 rw[EQ] at f;have n:∀x∈Iy d++Iy ks,∀k,x.ownBlock=some k->k<w.heap.size:=by
  intro x c k g;rcases List.mem_append.1 c with c | c
  ·exact(h.lt x (CQ _ c) k g).2
  ·obtain⟨m,b,c⟩:=Oe.1 c
   exact((j m b).lt m x c k g).2
 refine⟨by rw[CM,rS];exact r,λm b=>?_,?_⟩
 ·rcases List.mem_append.1 b with b | b
  ·exact(h.2.1 m b).kept hg (λu hu=>(f.1 u (E1 _ (Oe.2 ⟨m,b,hu⟩))).symm)
  ·exact(j m b).kept hg (λu hu=>(f.1 u (D3 _ (Oe.2 ⟨m,b,hu⟩))).symm)
 ·rw[Yv,EQ]
  refine⟨λy i=>?_,f.2⟩;rcases q with e | e
  ·rcases f.1 y i with h0 | h0
   ·exact .inl B0
   ·exact .inr B0
  ·refine .inr (λl=>?_)
   rw[e] at l;have:=n y i _ l.symm
   omega
theorem Su.apart {w w1:World}{g ks:List Bq}{b1:Nat}(h:Su w base v g)(n:∀m∈ks,AOk w1 b1 m)(q:w.heap.size<=b1)(l:(Iy ks).Pairwise Aside):(v::(Iy g++Iy ks)).Pairwise Aside:=by
 have f:=h.lt;have c:∀y∈Iy ks,∀k,y.ownBlock=some k->w.heap.size<=k:=by
  intro y c k d;obtain⟨m,i,c⟩:=Oe.1 c;exact CJ q ((n m i).lt m y c k d).1
 have e:=h.2.2;rw[EQ] at e ⊢;refine⟨λy b=>?_,List.pairwise_append.2 ⟨e.2,l,λx j y b=>Ho (λk d=>(f x (CQ _ j) k d).2) (c y b)⟩⟩;rcases List.mem_append.1 b with b | b
 ·exact e.1 y b
 ·exact Ho (λk d=>(f v AU k d).2) (c y b)
def KX (w:World)(base:Nat)(a:Stil.B8)(e:Ending):Prop:=∃(k op:Int) (b:List Stil.CC) (l:Option Addr) (g:Nat) (ns:List Ak) (f:Option Addr) (h:Nat) (c:List Ej) (n:Option Addr) (m:Nat) (d:List Bq) (i:Option Addr) (j:Nat),e=.returned (.agg #[AB k,AB op,AE l b.length g,AE f ns.length h,AE n c.length m,AE i d.length j])/\Lt w base ⟨⟨k,op,b,AE l b.length g,AE f ns.length h,ns⟩,AE n c.length m,c,AE i d.length j,d⟩/\(Bq.mk ⟨k,op,b,AE l b.length g,AE f ns.length h,ns⟩ (AE n c.length m) c (AE i d.length j) d).arm=a
theorem VP {w:World}{ks:List Ej}(b:∀m∈ks,EOk w base m):∀u∈Jc ks,u.oneCell'=true:=by
 intro u hu;obtain⟨m,d,hu⟩:=List.mem_flatMap.1 hu;obtain⟨f,e,c⟩:=Ah (b m d);simp only[Ej.cells,DF,M6,DK] at hu;rcases hu with rfl | rfl
 ·rfl
 ·rw[c];rfl
theorem VG {w:World}{ks:List Bq}(h:∀m∈ks,AOk w base m):∀u∈Jl ks,u.oneCell'=true:=by
 intro u hu;obtain⟨m,c,hu⟩:=List.mem_flatMap.1 hu;obtain⟨i,⟨j,_⟩,f,_⟩:=(Jp w base m).1 (h m c);have b:=(Jw w base m.net).1 i;obtain⟨t,l,d⟩:=Ah b.1;obtain⟨q,s,k⟩:=Ah b.2.1;obtain⟨y,n,e⟩:=Ah j;obtain⟨r,p,g⟩:=Ah f;simp only[Bq.cells,DF,M6,DK] at hu;rcases hu with rfl | rfl | rfl | rfl | rfl | rfl
 ·rfl
 ·rfl
 ·rw[d];rfl
 ·rw[k];rfl
 ·rw[e];rfl
 ·rw[g];rfl
theorem zc0 {p:Prop}(h:p:=by
 rename_i t1
 have e:Sem.run prog (Builtin.append_ #[60,60] o.type #[AE ra ms.length rc,AE (some t1) 0 c]) w=.ok (AE ra ms.length rc) w:=by cases ra<;>simp[Builtin.append_,go_sem,hcap]
 simp only[hop,resolve,invoke,builtin,Sem.run_bind,Sem.run_pure,Result.andThen_ok,EL,CP,C3,hs,hx,e];exact hk2):p:=h
theorem zh0 {p:Prop}(h:p:=by
 have e:Sem.run prog (Builtin.append_ #[60,60] o.type #[AE ra ms.length rc,AE none 0 c]) w=.ok (AE ra ms.length rc) w:=by cases ra<;>simp[Builtin.append_,go_sem,hcap]
 simp only[hop,resolve,invoke,builtin,Sem.run_bind,Sem.run_pure,Result.andThen_ok,EL,CP,C3,hs,hx,e];exact hk2):p:=h
theorem X7 {w:World}{K:Act->World->Prop}{Q:Exit->Act->World->Prop}
  (hg:o.guard=none) (s x:Operand) (hop:o.op=.call {callee:=.builtin .append,args:=#[s,x],argTypes:=#[60,60]})
  (base lo:Nat) (ra:Option Addr) (rc:Nat) (ms ks:List Ej) (ad:Option Addr) (c:Nat) (hs:a.eval s=AE ra ms.length rc) (hx:a.eval x=AE ad ks.length c)
  (hrow:Vj w base (AE ra ms.length rc) ms) (B:0<ks.length->∃p,ad=some p/\∀j u,(Jc ks)[j]?=some u->w.cell? (p.add j)=some u)
  (t:∀m∈ks,EOk w base m) (F:(Value.slice ra ms.length rc::(G6 ms++G6 ks)).Pairwise Aside) (hl:ms.length+ks.length<=1000000) (O:base<=w.heap.size) (n:lo<=w.heap.size) (f:∀k,(Value.slice ra ms.length rc).ownBlock=some k->lo<=k)
  (q:∀l b w',Vj w' base (AE l (ms.length+ks.length) b) (ms++ks)->Below lo w w'->(∀k,(Value.slice l (ms.length+ks.length) b).ownBlock=some k->lo<=k)->K (a.put o.dst (AE l (ms.length+ks.length) b)) w'):
  if Region.wanted o (yielded ops a.tmps)=true then Oper.wp prog o a w K Q else E:=by
 obtain⟨L,hi,G,M,D⟩:=info_parts YN;by_cases hd:ks.length=0
 ·have A:=List.length_eq_zero_iff.1 hd
  subst A;have I:Region.wanted o (yielded ops a.tmps)=true:=by simp[Region.wanted,hg]
  rw[if_pos I];have hcap:ms.length<=rc:=by
   rcases hrow.1.2 with⟨i,d⟩ | ⟨g,b,cur,i,_,_,N,_⟩
   ·rw[d];exact DI _
   ·simp only[Value.slice.injEq] at i
    rw[i.2.2];exact N
  have hk2:=q ra rc w yDc (Below.refl _ _) (by simpa using f);simp only[CO,EO] at hk2 hx;unfold Oper.wp execOp;cases ad
  ·exact zh0
  ·exact zc0
 ·obtain⟨p,rfl,H⟩:=B AQ
  refine Eh hg s x _ hop base 51 L _ 2 32 underlying60 hi G M D rfl AY _ _ (Jc ms) hs hrow.1 _ _ _ (Jc ks) hx (W6 ks) H (VP t) A6 AQ O ?_;intro v' w' d y r;obtain⟨J,z,C⟩:=Ah d;subst C;refine q J z w' (hrow.add t F d y r) ((Below.refl _ _).grown y n f) (λk hk2=>?_);rcases r with e | e
  ·exact f k (by rw[<-e];exact hk2)
  ·rw[e] at hk2
   cases hk2;exact n
theorem oe {w:World}{Q:Exit->Act->World->Prop}
  (hg:o.guard=none) (s x:Operand) (F:o.op=.call {callee:=.builtin .append,args:=#[s,x],argTypes:=#[60,60]})
  (base lo:Nat) (g:Option Addr) (d:Nat) (b ks:List Ej) (ad:Option Addr) (c:Nat) (y:a.eval s=AE g b.length d) (hx:a.eval x=AE ad ks.length c)
  (z:Vj w base (AE g b.length d) b) (l:0<ks.length->∃p,ad=some p/\∀j u,(Jc ks)[j]?=some u->w.cell? (p.add j)=some u)
  (B:∀m∈ks,EOk w base m) (n:(Value.slice g b.length d::(G6 b++G6 ks)).Pairwise Aside) (hl:b.length+ks.length<=1000000) (G:base<=w.heap.size) (q:lo<=w.heap.size) (i:∀k,(Value.slice g b.length d).ownBlock=some k->lo<=k)
  (h:∀f e w',Vj w' base (AE f (b.length+ks.length) e) (b++ks)->Below lo w w'->(∀k,(Value.slice f (b.length+ks.length) e).ownBlock=some k->lo<=k)->wpList prog ops Q rest (a.put o.dst (AE f (b.length+ks.length) e)) w'):
  wpList prog ops Q (o::rest) a w:=by
 refine wpList_plain hg λK r=>?_
 have t:Region.wanted o (yielded #[] a.tmps)=true:=by simp[Region.wanted,hg]
 have:=X7 (ops:=#[]) (K:=K) (Q:=Q) (E:=True) hg s x F base lo g d b ks ad c y hx z l B n hl G q i (λf e w' C D A=>r _ _ (h f e w' C D A))
 rwa [if_pos t] at this
theorem zd0 {p:Prop}(h:p:=by
 rename_i t1
 have e:Sem.run prog (Builtin.append_ #[23,23] o.type #[AE ra ms.length rc,AE (some t1) 0 c]) w=.ok (AE ra ms.length rc) w:=by cases ra<;>simp[Builtin.append_,go_sem,hcap]
 simp only[hop,resolve,invoke,builtin,Sem.run_bind,Sem.run_pure,Result.andThen_ok,EL,CP,C3,hs,hx,e];exact hk2):p:=h
theorem zi0 {p:Prop}(h:p:=by
 have e:Sem.run prog (Builtin.append_ #[23,23] o.type #[AE ra ms.length rc,AE none 0 c]) w=.ok (AE ra ms.length rc) w:=by cases ra<;>simp[Builtin.append_,go_sem,hcap]
 simp only[hop,resolve,invoke,builtin,Sem.run_bind,Sem.run_pure,Result.andThen_ok,EL,CP,C3,hs,hx,e];exact hk2):p:=h
theorem pT {w:World}{K:Act->World->Prop}{Q:Exit->Act->World->Prop}
  (hg:o.guard=none) (s x:Operand) (hop:o.op=.call {callee:=.builtin .append,args:=#[s,x],argTypes:=#[23,23]})
  (base lo:Nat) (ra:Option Addr) (rc:Nat) (ms ks:List Bq) (ad:Option Addr) (c:Nat) (hs:a.eval s=AE ra ms.length rc) (hx:a.eval x=AE ad ks.length c)
  (hrow:Su w base (AE ra ms.length rc) ms) (B:0<ks.length->∃p,ad=some p/\∀j u,(Jl ks)[j]?=some u->w.cell? (p.add j)=some u)
  (t:∀m∈ks,AOk w base m) (F:(Value.slice ra ms.length rc::(Iy ms++Iy ks)).Pairwise Aside) (hl:ms.length+ks.length<=1000000) (O:base<=w.heap.size) (n:lo<=w.heap.size) (f:∀k,(Value.slice ra ms.length rc).ownBlock=some k->lo<=k)
  (q:∀l b w',Su w' base (AE l (ms.length+ks.length) b) (ms++ks)->Below lo w w'->(∀k,(Value.slice l (ms.length+ks.length) b).ownBlock=some k->lo<=k)->K (a.put o.dst (AE l (ms.length+ks.length) b)) w'):
  if Region.wanted o (yielded ops a.tmps)=true then Oper.wp prog o a w K Q else E:=by
 obtain⟨L,hi,G,M,D⟩:=info_parts ZR;by_cases hd:ks.length=0
 ·have A:=List.length_eq_zero_iff.1 hd
  subst A;have I:Region.wanted o (yielded ops a.tmps)=true:=by simp[Region.wanted,hg]
  rw[if_pos I];have hcap:ms.length<=rc:=by
   rcases hrow.1.2 with⟨i,d⟩ | ⟨g,b,cur,i,_,_,N,_⟩
   ·rw[d];exact DI _
   ·simp only[Value.slice.injEq] at i
    rw[i.2.2];exact N
  have hk2:=q ra rc w yDc (Below.refl _ _) (by simpa using f);simp only[CO,EO] at hk2 hx;unfold Oper.wp execOp;cases ad
  ·exact zi0
  ·exact zd0
 ·obtain⟨p,rfl,H⟩:=B AQ
  refine Eh hg s x _ hop base 62 L _ 6 112 underlying23 hi G M D rfl AY _ _ (Jl ms) hs hrow.1 _ _ _ (Jl ks) hx (XH ks) H (VG t) A6 AQ O ?_;intro v' w' d y r;obtain⟨J,z,C⟩:=Ah d;subst C;refine q J z w' (hrow.add t F d y r) ((Below.refl _ _).grown y n f) (λk hk2=>?_);rcases r with e | e
  ·exact f k (by rw[<-e];exact hk2)
  ·rw[e] at hk2
   cases hk2;exact n
theorem Xo {w:World}{Q:Exit->Act->World->Prop}
  (hg:o.guard=none) (s x:Operand) (F:o.op=.call {callee:=.builtin .append,args:=#[s,x],argTypes:=#[23,23]})
  (base lo:Nat) (g:Option Addr) (d:Nat) (b ks:List Bq) (ad:Option Addr) (c:Nat) (y:a.eval s=AE g b.length d) (hx:a.eval x=AE ad ks.length c)
  (z:Su w base (AE g b.length d) b) (l:0<ks.length->∃p,ad=some p/\∀j u,(Jl ks)[j]?=some u->w.cell? (p.add j)=some u)
  (B:∀m∈ks,AOk w base m) (n:(Value.slice g b.length d::(Iy b++Iy ks)).Pairwise Aside) (hl:b.length+ks.length<=1000000) (G:base<=w.heap.size) (q:lo<=w.heap.size) (i:∀k,(Value.slice g b.length d).ownBlock=some k->lo<=k)
  (h:∀f e w',Su w' base (AE f (b.length+ks.length) e) (b++ks)->Below lo w w'->(∀k,(Value.slice f (b.length+ks.length) e).ownBlock=some k->lo<=k)->wpList prog ops Q rest (a.put o.dst (AE f (b.length+ks.length) e)) w'):
  wpList prog ops Q (o::rest) a w:=by
 refine wpList_plain hg λK r=>?_
 have t:Region.wanted o (yielded #[] a.tmps)=true:=by simp[Region.wanted,hg]
 have:=pT (ops:=#[]) (K:=K) (Q:=Q) (E:=True) hg s x F base lo g d b ks ad c y hx z l B n hl G q i (λf e w' C D A=>r _ _ (h f e w' C D A))
 rwa [if_pos t] at this
