import Derived.Test.YtmnnkedjoecehaaGreatDoorG3
set_option maxHeartbeats 4000000
set_option maxRecDepth 100000
namespace Go.Proofs.YtmnnkedjoecehaaGreatDoor
open Tryz Go.RowKit Go.Sort Go.BigFrame
def J5 (w:World)(base:Nat)(v:Value)(ms:List MI):Prop:=w.ownsRow base 48 3 v ms.length (Gy ms)/\∀x∈ms,EOk w base x.e/\Aside v x.e.av
theorem pz (a b:List MI):Gy (a++b)=Gy a++Gy b:=by simp[Gy]
theorem vG (m:MI):Gy [m]=m.cells:=by simp[Gy]
theorem vJ (l:List MI):(Gy l).length=l.length*3:=by
 induction l with
 | nil=>rfl
 | cons m l b=>
  have e:Gy (m::l)=m.cells++Gy l:=rfl;rw[e,CO,b];simp[MI.cells];omega
theorem sj {w:World}{base:Nat}{ks:List MI}(c:∀m∈ks,EOk w base m.e):∀u∈Gy ks,u.oneCell'=true:=by
 intro u hu;have⟨m,b,hu⟩:=List.mem_flatMap.1 hu;have⟨g,f,d⟩:=Af (c m b);simp only[MI.cells,C7,KI,DR] at hu;rcases hu with rfl | rfl | rfl
 ·rfl
 ·rfl
 ·rw[d];rfl
section
variable {w w':World}{base:Nat}{v v':Value}{ms ks:List MI}
theorem J5.below (h:J5 w base v ms)(b:AO w w'):J5 w' base v ms:=⟨ownsRow_below h.1 b,λx c=>⟨ownsRow_below (h.2 x c).1 b,(h.2 x c).2⟩⟩
theorem J5.le {b:Nat}(h:J5 w base v ms)(hl:b<=base):J5 w b v ms:=⟨Joins.ownsRow_le h.1 hl,λx c=>⟨Joins.ownsRow_le (h.2 x c).1 hl,(h.2 x c).2⟩⟩
theorem J5.add (h:J5 w base v ms)(b:∀x∈ks,EOk w base x.e/\Aside v x.e.av)(f:w'.ownsRow base 48 3 v' (ms.length+ks.length) (Gy ms++Gy ks))(hg:w.grownBy w' v.ownBlock)(d:v'.ownBlock=v.ownBlock\/v'.ownBlock=some w.heap.size):J5 w' base v' (ms++ks):=by
 refine⟨by rw[CO,pz];exact f,λx g=>?_⟩;have c:=(List.mem_append.1 g).elim (h.2 x) (b x);refine⟨c.1.kept hg c.2.symm,?_⟩;rcases d with e | e
 ·unfold Aside at*
  rw[e];exact c.2
 ·exact(He (n:=w.heap.size) (λk b=>(c.1.lt k b).2) (λk b=>by rw[e] at b;cases b;exact CG _)).symm
end
variable {E:Prop}{a:Act}{base:Nat}{o:Oper}{ops:Array Oper}{rest:List Oper}
theorem Vz {w:World}{K:Act->World->Prop}{Q:Exit->Act->World->Prop}
  (hg:o.guard=none) (s x:Operand) (k:o.op=.call {callee:=.builtin .append,args:=#[s,x],argTypes:=#[25,25]})
  (base:Nat) (b:Option Addr) (d:Nat) (ms ks:List MI) (ad:Option Addr) (c:Nat) (q:a.eval s=AE b ms.length d) (hx:a.eval x=AE ad ks.length c)
  (hrow:J5 w base (AE b ms.length d) ms) (P:0<ks.length->∃p,ad=some p/\∀j u,(Gy ks)[j]?=some u->w.cell? (p.add j)=some u)
  (y:∀m∈ks,EOk w base m.e/\Aside (AE b ms.length d) m.e.av) (hl:ms.length+ks.length<=1000000) (t:base<=w.heap.size)
  (B:∀A i w',J5 w' base (AE A (ms.length+ks.length) i) (ms++ks)->Below base w w'->K (a.put o.dst (AE A (ms.length+ks.length) i)) w'):
  if Region.wanted o (yielded ops a.tmps)=true then Oper.wp prog o a w K Q else E:=by
 have⟨G,hi,I,H,S⟩:=info_parts LN;by_cases hd:ks.length=0
 ·have C:=List.length_eq_zero_iff.1 hd
  subst C;have N:Region.wanted o (yielded ops a.tmps)=true:=by simp[Region.wanted,hg]
  rw[if_pos N];have z:ms.length<=d:=by
   rcases hrow.1.2 with⟨l,f⟩ | ⟨g,i,cur,l,_,_,R,_⟩
   ·rw[f];exact DZ _
   ·simp only[Value.slice.injEq] at l
    rw[l.2.2];exact R
  have n:=B b d w yDd (Below.refl _ _);simp only[CP,ER] at n hx;unfold Oper.wp execOp;cases ad
  ·have e:Sem.run prog (Builtin.append_ #[25,25] o.type #[AE b ms.length d,AE none 0 c]) w=.ok (AE b ms.length d) w:=by cases b<;>simp[Builtin.append_,go_sem,z]
   simp only[k,resolve,invoke,builtin,Sem.run_bind,Sem.run_pure,Result.andThen_ok,ES,CQ,C6,q,hx,e];exact n
  ·rename_i D
   have e:Sem.run prog (Builtin.append_ #[25,25] o.type #[AE b ms.length d,AE (some D) 0 c]) w=.ok (AE b ms.length d) w:=by cases b<;>simp[Builtin.append_,go_sem,z]
   simp only[k,resolve,invoke,builtin,Sem.run_bind,Sem.run_pure,Result.andThen_ok,ES,CQ,C6,q,hx,e];exact n
 ·obtain⟨p,rfl,O⟩:=P AQ
  refine Ec hg s x _ k base 48 G _ 3 40 underlying25 hi I H S rfl AY _ _ (Gy ms) q hrow.1 _ _ _ (Gy ks) hx (vJ ks) O (sj λm M=>(y m M).1) A6 AQ t ?_;intro v' w' f r L;have⟨J,U,T⟩:=Af f;subst T;exact B J U w' (hrow.add y f r L) ((Below.refl _ _).grown r t (λj F=>(hrow.1.lt j F).1))
theorem Uj {w:World}{Q:Exit->Act->World->Prop}
  (hg:o.guard=none) (s x:Operand) (n:o.op=.call {callee:=.builtin .append,args:=#[s,x],argTypes:=#[25,25]})
  (base:Nat) (g:Option Addr) (f:Nat) (ms ks:List MI) (ad:Option Addr) (c:Nat) (y:a.eval s=AE g ms.length f) (hx:a.eval x=AE ad ks.length c)
  (A:J5 w base (AE g ms.length f) ms) (t:0<ks.length->∃p,ad=some p/\∀j u,(Gy ks)[j]?=some u->w.cell? (p.add j)=some u)
  (r:∀m∈ks,EOk w base m.e/\Aside (AE g ms.length f) m.e.av) (hl:ms.length+ks.length<=1000000) (l:base<=w.heap.size)
  (h:∀d b w',J5 w' base (AE d (ms.length+ks.length) b) (ms++ks)->Below base w w'->wpList prog ops Q rest (a.put o.dst (AE d (ms.length+ks.length) b)) w'):
  wpList prog ops Q (o::rest) a w:=by
 refine wpList_plain hg λK z=>?_
 have q:Region.wanted o (yielded #[] a.tmps)=true:=by simp[Region.wanted,hg]
 have:=Vz (ops:=#[]) (K:=K) (Q:=Q) (E:=True) hg s x n base g f ms ks ad c y hx A t r hl l (λd b w' k i=>z _ _ (h d b w' k i))
 rwa [if_pos q] at this
theorem J5.more {w w1:World}{b1:Nat}{v u:Value}{ms ks:List MI}(h:J5 w base v ms)(d:J5 w1 b1 u ks)(f:AO w w1)(h1:w.heap.size<=b1)(g:base<=w.heap.size):
  J5 w1 base v ms/\(∀x∈ks,EOk w1 base x.e/\Aside v x.e.av):=by
 refine⟨h.below f,λx c=>⟨Joins.ownsRow_le (d.2 x c).1 AQ,?_⟩⟩;exact He (n:=w.heap.size) (λk b=>(h.1.lt k b).2) (λk b=>CM h1 ((d.2 x c).1.lt k b).1)
theorem J5.cells {w:World}{a:Option Addr}{c:Nat}{ks:List MI}(h:J5 w base (AE a ks.length c) ks):0<ks.length->∃p,a=some p/\∀j u,(Gy ks)[j]?=some u->w.cell? (p.add j)=some u:=by
 intro e;rcases h.1.2 with⟨b,d⟩ | ⟨g,cap,cur,b,_⟩
 ·omega
 ·cases b
  exact⟨_,rfl,λj u hu=>h.1.cells (g:=g) rfl j u hu⟩
def KL (f:FuncId)(x:Stil.B8)(is:List Stil.Gf):Prop:=∀d b w,Tv w d x.one.args->Ls w b x.kids->
 Calls prog f #[.agg #[AB x.kind,AB x.one.op,d,b]] w λe w'=>∃(a:Option Addr) (c:Nat) (ms:List MI),e=.returned (AE a ms.length c)/\ms.map MI.inst=is/\J5 w' w.heap.size (AE a ms.length c) ms/\AO w w'
def NQ (k:Int)(x:Stil.B8)(is:List Stil.Gf):Prop:=∀d b w,Tv w d x.one.args->Ls w b x.kids->
 Calls prog 69 #[AB k, .agg #[AB x.kind,AB x.one.op,d,b]] w λe w'=>∃(a:Option Addr) (c:Nat) (ms:List MI),e=.returned (AE a ms.length c)/\ms.map MI.inst=is/\J5 w' w.heap.size (AE a ms.length c) ms/\AO w w'
theorem J5.single {w:World}{m:MI}(h:EOk w base m.e)(c:base<=w.heap.size):J5 (w.alloc (.cells #[AB m.code,AB m.e.op,m.e.av] 48)) base (AE (some (AL w 0)) 1 1) [m]:=by
 refine⟨?_,λx d=>?_⟩
 ·exact World.ownsRow_lit w #[AB m.code,AB m.e.op,m.e.av] 1 c A6 rfl
 ·rw[List.mem_singleton.1 d]
  exact⟨ownsRow_below h (Aa _ _),(He (n:=w.heap.size) (λk b=>(h.lt k b).2) (λk b=>by cases b;exact CG _)).symm⟩
theorem Gw {w:World}{Q:Exit->Act->World->Prop}
  (hg:o.guard=none) (s x:Operand) (r:o.op=.call {callee:=.builtin .append,args:=#[s,x],argTypes:=#[25,25]})
  (base:Nat) (f:Option Addr) (d:Nat) (ms:List MI) (m:MI) (i:a.eval s=AE f ms.length d) (hx:a.eval x=AE (some (AL w 0)) 1 1)
  (z:J5 w base (AE f ms.length d) ms) (g:EOk w base m.e/\Aside (AE f ms.length d) m.e.av) (hl:ms.length+1<=1000000) (q:base<=w.heap.size)
  (h:∀b c w',J5 w' base (AE b (ms.length+1) c) (ms++[m])->Below base w w'->wpList prog ops Q rest (a.put o.dst (AE b (ms.length+1) c)) w'):
  wpList prog ops Q (o::rest) a (w.alloc (.cells #[AB m.code,AB m.e.op,m.e.av] 48)):=by
 refine Uj hg s x r base f d ms [m] (some (AL w 0)) 1 i hx (z.below (Aa _ _)) (λ_=>⟨_,rfl,λj u hu=>?_⟩) (λy t=>?_) hl Ax λb c w' l k=>h b c w' l ((Bi (Below.refl _ _) _:AO w _).mono q |>.trans k)
 ·rw[vG] at hu
  have e:((AL w 0):Addr).add j=(AL w j):=by unfold Addr.add;split<;>simp_all
  rw[e];have n:∀j,(w.alloc (.cells #[AB m.code,AB m.e.op,m.e.av] 48)).cell? (AL w j)=(#[AB m.code,AB m.e.op,m.e.av]:Array Value)[j]?:=λj=>by
   have:(w.alloc (.cells #[AB m.code,AB m.e.op,m.e.av] 48)).heap[w.heap.size]?=some (.cells #[AB m.code,AB m.e.op,m.e.av] 48):=by simp only[World.alloc];exact M8
   simp only[World.cell?,this];rfl
  rw[n];simpa[MI.cells] using hu
 ·rw[List.mem_singleton.1 t]
  exact⟨ownsRow_below g.1 (Aa _ _),g.2⟩
theorem Ix (w:World)(base:Nat)(v:Value)(k:Int):EOk w base (mi0 k).e/\Aside v (mi0 k).e.av:=⟨World.ownsRow_nil _ _ _ _,(P9 v).symm⟩
theorem oq {w:World}{K:Act->World->Prop}{Q:Exit->Act->World->Prop}
  (hg:o.guard=none) (s x:Operand) (m:o.op=.call {callee:=.builtin .append,args:=#[s,x],argTypes:=#[25,25]})
  (base b1:Nat) (w0:World) (d:Option Addr) (b:Nat) (ms ks:List MI) (ad:Option Addr) (c:Nat) (j:a.eval s=AE d ms.length b) (hx:a.eval x=AE ad ks.length c)
  (n:J5 w0 base (AE d ms.length b) ms) (i:J5 w b1 (AE ad ks.length c) ks) (e:AO w0 w) (h1:w0.heap.size<=b1) (hl:ms.length+ks.length<=1000000) (g:base<=w0.heap.size)
  (k:∀f h w',J5 w' base (AE f (ms.length+ks.length) h) (ms++ks)->Below base w w'->K (a.put o.dst (AE f (ms.length+ks.length) h)) w'):
  if Region.wanted o (yielded ops a.tmps)=true then Oper.wp prog o a w K Q else E:=by
 have⟨l,p⟩:=n.more i e h1 g;exact Vz hg s x m base d b ms ks ad c j hx l i.cells p hl (CM g e.size) k
theorem KD {w:World}{p:Addr}:(w.drew).cell? p=w.cell? p:=rfl
theorem Es {w:World}{Q:Exit->Act->World->Prop}
  (hg:o.guard=none) (s x:Operand) (m:o.op=.call {callee:=.builtin .append,args:=#[s,x],argTypes:=#[25,25]})
  (base b1:Nat) (w0:World) (d:Option Addr) (b:Nat) (ms ks:List MI) (ad:Option Addr) (c:Nat) (k:a.eval s=AE d ms.length b) (hx:a.eval x=AE ad ks.length c)
  (n:J5 w0 base (AE d ms.length b) ms) (j:J5 w b1 (AE ad ks.length c) ks) (e:AO w0 w) (h1:w0.heap.size<=b1) (hl:ms.length+ks.length<=1000000) (g:base<=w0.heap.size)
  (h:∀f i w',J5 w' base (AE f (ms.length+ks.length) i) (ms++ks)->Below base w w'->wpList prog ops Q rest (a.put o.dst (AE f (ms.length+ks.length) i)) w'):
  wpList prog ops Q (o::rest) a w:=by
 have⟨l,p⟩:=n.more j e h1 g;exact Uj hg s x m base d b ms ks ad c k hx l j.cells p hl (CM g e.size) h
open Stil
theorem zj0 {p:Prop}(h:p:=by
 go_enter func69,ntmps69
 go_wp2_with (go_at_call 68;refine(HC _ AW).mono ?_;rintro e w1 ⟨a1,c1,rfl,ho1,hb1⟩)
 go_ret;exact uP _ _ _ (Joins.ownsRow_le ho1 AU) (by have:=hb1.size;simp at this;omega) AW):p:=h
theorem SK (k:Int)(J:k=2\/k=3)(x:Stil.B8)(O:x.one.args.length<=1048576)(X:(Bv x).length<=900000)(I:x.kind≠1->KL 39 x (Bv x)):NQ k x (Bq k x):=by
 intro Q U w r t;have y:=AV (λW (h:AO w W)=>(r.below h).at);have C:=AV (λb W h=>I b Q U W (r.below h) (t.below h));obtain⟨p0,r0,rfl,R⟩:=r.shape;obtain⟨p1,r1,rfl,S,_⟩:=t.shape;clear I R S r t;by_cases b:x.kind=1
 ·have g:=AV (Na k x b)
  rw[g.out];have HC:=AV (λW h=>RF x.one _ W (y W h) O);rw[b];clear g C y b;have N:∀(W:World) (a:Option Addr) (c:Nat),W.ownsRow w.heap.size 111 3 (AE a x.one.args.length c) x.one.args.length (Ar x.one.args)->w.heap.size<=W.heap.size->AO w W->∃(L:Option Addr) (F:Nat) (ms:List MI),Ending.returned (AE (some (AL W 0)) 1 1)=.returned (AE L ms.length F)/\ms.map MI.inst=[⟨k,x.one⟩]/\J5 (W.alloc (.cells #[AB k,AB x.one.op,AE a x.one.args.length c] 48)) w.heap.size (AE L ms.length F) ms/\AO w (W.alloc (.cells #[AB k,AB x.one.op,AE a x.one.args.length c] 48)):=by
   intro W a c Y P T;exact⟨_,1,[⟨k,⟨x.one.op,x.one.args,AE a x.one.args.length c⟩⟩],rfl,rfl,J5.single (m:=⟨k,⟨x.one.op,x.one.args,AE a x.one.args.length c⟩⟩) Y P,Bi T _⟩
  have uP:=N;clear N;rcases J with rfl | rfl
  ·exact zj0
  ·exact zj0
 ·have g:=AV (Jq k x b)
  rw[g.out];have aa:(x.kind==1)=false:=by rw[CS];exact b
  have K:=C b;have G:=AV K;have H:∀ms:List MI,ms.map MI.inst=Bv x->ms.length<=900000:=λms h=>by rw[<-CW (f:=MI.inst),h];exact X
  have M:=AV H;clear g C K y b H;rcases J with rfl | rfl
  ·go_enter func69,ntmps69
   go_wp2_with (first | (go_at_call 39;refine(G _ AW).mono ?_;rintro e w1 ⟨a1,c1,ms,rfl,j,l,hb1⟩;have i:=AV j;clear j;have V:=M ms i.out;have A:Hid (J5 w1 w.heap.size (AE a1 ms.length c1) ms):=l.le AU;clear l;have q:AO w w1:=AW) | (at_builtin;refine Gw (m:=mi0 4) rfl _ _ rfl w.heap.size a1 c1 ms rfl rfl A (Ix _ _ _ _) AQ q.size ?_;intro u D Z d z;have B:=AV d;clear d;have s:=q.trans z))
   go_ret;exact⟨u,D,ms++[mi0 4],by rw[CO];rfl,by rw[CU,i.out];rfl,by rw[CO];exact B.out,s⟩
  ·go_enter func69,ntmps69
   go_wp2_with (first | (go_at_call 39;refine(G _ AW).mono ?_;rintro e w1 ⟨a1,c1,ms,rfl,j,l,hb1⟩;have i:=AV j;clear j;have V:=M ms i.out;have A:Hid (J5 w1 w.heap.size (AE a1 ms.length c1) ms):=l.le AU;clear l;have q:AO w w1:=AW) | (at_builtin;refine Gw (m:=mi0 5) rfl _ _ rfl w.heap.size a1 c1 ms rfl rfl A (Ix _ _ _ _) AQ q.size ?_;intro u D Z d z;have B:=AV d;clear d;have s:=q.trans z))
   go_ret;exact⟨u,D,ms++[mi0 5],by rw[CO];rfl,by rw[CU,i.out];rfl,by rw[CO];exact B.out,s⟩
theorem S5 (n:Stil.B8):Stil.shp n->Dz n->Ai n<=1000->KL 39 n (Bv n):=by
 induction n using Fp with
 | h k e kids U=>
  intro O ag hs av nv w s l;simp only at s l;have D:=j3 O;simp only at D;have F:=YH O;have A:=QT _ O;have B:=(Lc _ _ _).1 ag;rw[Ej] at hs;simp only at hs;have u:∀x∈kids,Ai x<=1000:=λx hx=>by have:Ai x<=Stil.sizes kids:=Eb Ai kids x hx;omega
  have af:kids.length<=1000:=by have:=Jl kids;omega
  by_cases h1:k=1
  ·subst h1
   rw[Oy];have HC:Hid (∀W,AO w W->Calls prog 68 #[.agg #[AB e.op,av]] W λr w'=>∃a c,r=.returned (.agg #[AB e.op,AE a e.args.length c])/\w'.ownsRow W.heap.size 111 3 (AE a e.args.length c) e.args.length (Ar e.args)/\AO W w'):=λW h=>RF e _ W ((s.below h).at) B.2.1.2.1
   obtain⟨p0,r0,rfl,J⟩:=s.shape;obtain⟨p1,Z,rfl,an,_⟩:=l.shape;have uP:Hid (∀(W:World) (a:Option Addr) (c:Nat),W.ownsRow w.heap.size 111 3 (AE a e.args.length c) e.args.length (Ar e.args)->w.heap.size<=W.heap.size->AO w W->∃(a':Option Addr) (c':Nat) (ms:List MI),Ending.returned (AE (some (AL W 0)) 1 1)=.returned (AE a' ms.length c')/\ms.map MI.inst=[⟨1,e⟩]/\J5 (W.alloc (.cells #[AB 1,AB e.op,AE a e.args.length c] 48)) w.heap.size (AE a' ms.length c') ms/\AO w (W.alloc (.cells #[AB 1,AB e.op,AE a e.args.length c] 48))):=by
    intro W a c ho hb hB;exact⟨_,1,[⟨1,⟨e.op,e.args,AE a e.args.length c⟩⟩],rfl,rfl,J5.single (m:=⟨1,⟨e.op,e.args,AE a e.args.length c⟩⟩) ho hb,Bi hB _⟩
   clear J an U u af O D F hs s l ag B A;go_enter func39,ntmps39
   go_wp2_with (go_at_call 68;refine(HC _ AW).mono ?_;rintro e t ⟨N,H,rfl,aL,C⟩)
   go_ret;exact uP _ _ _ (Joins.ownsRow_le aL AU) (by have:=C.size;simp at this;omega) AW
  ·have aJ:kids≠[]:=by
    rcases F with⟨h,_⟩ | ⟨_,h,_⟩ | ⟨_,_,x,h,_⟩
    ·exact absurd h h1
    ·intro h0;rw[h0] at h;simp at h
    ·intro h0;rw[h0] at h;cases h
   obtain⟨x,r,rfl⟩:=M3 aJ;have jD:Hid (∀W,AO w W->Ls W nv (x::r)):=λW h=>l.below h
   obtain⟨p0,r0,rfl,J⟩:=s.shape;obtain⟨p1,Z,rfl,aw,K⟩:=l.shape;obtain⟨b,o,rfl,ae,z⟩:=K 0 AU;simp only[EO,FQ,ER] at z;have⟨x0,Q,kC,jX,x2,x3,fB,fA⟩:=z.open;have HZ:Hid (∀W,AO w W->Calls prog 39 #[.agg #[AB x.kind,AB x.one.op,kC,jX]] W λe w'=>∃(a:Option Addr) (c:Nat) (ms:List MI),e=.returned (AE a ms.length c)/\ms.map MI.inst=Bv x/\J5 w' W.heap.size (AE a ms.length c) ms/\AO W w'):=λW h=>U x AU (D x AU) (B.2.2.2 x AU) (u x AU) kC jX W (fB.below h) (fA.below h)
   have ah:∀y∈x::r,(Bv y).length<=900000:=λy q=>by have:=QT y (D y q);have:=u y q;omega
   have aI:r.length<=999:=by simp only[CH] at af;omega
   have ai:k=4->r=[]:=by
    intro h4;rcases F with⟨h,_⟩ | ⟨h,_,_⟩ | ⟨_,_,aV,h,_⟩
    ·omega
    ·omega
    ·simp only[List.cons.injEq] at h;exact h.2
   obtain⟨q0,s0,rfl,aF⟩:=fB.shape;obtain⟨q1,s1,rfl,ar,_⟩:=fA.shape;have aE:Hid (∀ms:List MI,ms.map MI.inst=Bv x->ms.length<=900000):=λms h=>by rw[<-CW (f:=MI.inst),h];exact ah x AU
   by_cases h4:k=4
   ·subst h4
    have aP:=ai rfl;subst aP;rw[Oz];simp only[CH,CP,CV];clear J aF ar K z U u af aw s l fB fA O D F hs ai jD ag B A ah aI;go_enter func39,ntmps39
    go_wp2_with (first | (go_at_call 39;refine(HZ _ AW).mono ?_;rintro e t ⟨N,H,ms,rfl,T,ab,C⟩;have S:Hid (ms.map MI.inst=Bv x):=T;clear T;have aT:=aE ms S.out;have ac:Hid (J5 t w.heap.size (AE N ms.length H) ms):=ab.le AU;clear ab;have aW:AO w t:=AW) | (at_builtin;refine Gw (m:=mi0 6) rfl _ _ rfl w.heap.size N H ms rfl rfl ac (Ix _ _ _ _) AQ aW.size ?_;intro R X I aa P;have ao:Hid (J5 I w.heap.size (AE R (ms.length+1) X) (ms++[mi0 6])):=aa;clear aa;have aM:AO w I:=aW.trans P))
    go_ret;exact⟨R,X,ms++[mi0 6],by rw[CO];rfl,by rw[CU,S.out];rfl,by rw[CO];exact ao.out,aM⟩
   ·have gK:k=2\/k=3:=by
     rcases F with⟨h,_⟩ | ⟨h,_,_⟩ | ⟨h,_⟩<;>omega
    have HY:Hid (∀y∈r,NQ k y (Bq k y)):=λy q=>SK k gK y ((D5 (B.2.2.2 y (CN _ q))).2.1.2.1) (ah y (CN _ q)) λ_=>U y (CN _ q) (D y (CN _ q)) (B.2.2.2 y (CN _ q)) (u y (CN _ q))
    have a5:(k==1)=false:=by rw[CS];exact h1
    have ja:(k==4)=false:=by rw[CS];exact h4
    have aj:=Mc (k:=k) e x r h1 h4;have dX:Hid (∀(j:Nat) (ms:List MI),ms.map MI.inst=Bv x++((r.take j).map (Bq k)).flatten->ms.length<=900000):=by
     intro j ms h;rw[<-CW (f:=MI.inst),h];rw[aj] at A;have h2:((r.take j).map (Bq k)).flatten.length<=(r.map (Bq k)).flatten.length:=by
      conv=>rhs;rw[<-IA j r,CU,FD,CO]
      omega
     rw[CO] at A ⊢;rw[Ej] at A;simp only at A;omega
    rw[aj];simp only[CH];have⟨m,hm⟩:=AA r.length
    have aU:Hid (m=r.length):=hm;rw[<-hm] at aI ⊢;clear J aF ar K z U u af hm aw s l fB fA O D F hs ai ag B A ah aj aE;have aZ:(0:Int)<(m:Int)+1:=AQ
    go_enter func39,ntmps39
    go_wp2_with (go_at_call 39;refine(HZ _ AW).mono ?_;rintro e t ⟨N,H,ms,rfl,T,ab,C⟩;have S:Hid (ms.map MI.inst=Bv x):=T;clear T;have ac:Hid (J5 t (w.heap.size+1) (AE N ms.length H) ms):=ab.le AU;clear ab;have y0:t.cell? (AL w 0)=some (AB k):=(A0 C);have y3:t.cell? (AL w 3)=some (AE (some (AK b o)) (m+1) Z):=(A0 C);have an:w.heap.size<t.heap.size:=CB AU C.size)
    have aW:AO w t:=AW;clear C x0 Q x2 x3 HZ;have iE:Hid (b<w.heap.size):=ae;clear ae;go_loopw [3,4] (λd i wr=>∃(j:Nat) (M:Option Addr) (L:Nat) (g:List MI),j<=m/\i=AB ((j:Int)+1)/\d=AE M g.length L/\g.map MI.inst=Bv x++((r.take j).map (Bq k)).flatten/\J5 wr (w.heap.size+1) (AE M g.length L) g/\Below (w.heap.size+1) t wr) (λ_ i _=>m+1 - (intOf i).toNat)
    case atStart=>exact⟨0,N,H,ms,AQ,rfl,rfl,by rw[S.out];simp,ac.out,Below.refl _ _⟩
    case round=>
     obtain⟨j,M,L,g,hj,rfl,rfl,aB,Y,hb⟩:=hrel;have iV:Hid (g.map MI.inst=Bv x++((r.take j).map (Bq k)).flatten):=aB;have jR:Hid (J5 wr (w.heap.size+1) (AE M g.length L) g):=Y;clear aB Y S ac;have au:AO w wr:=aW.trans (hb.mono AQ);have jE:w.heap.size<wr.heap.size:=CB an hb.size;have ap:wr.cell? (AL w 0)=some (AB k):=(World.cell?_of_block (a:=(AL w 0)) (hb.block _ AU)).trans y0;have um:wr.cell? (AL w 3)=some (AE (some (AK b o)) (m+1) Z):=(World.cell?_of_block (a:=(AL w 3)) (hb.block _ AU)).trans y3;by_cases aR:j<m
     ·have Y:j<r.length:=by have:=aU.out;omega
      have⟨pa,pc,ax,_,K⟩:=(jD wr au).shape;simp only[CH,Value.slice.injEq,true_and] at ax;obtain⟨rfl,rfl⟩:=ax;have⟨b2,o2,iY,ae,z⟩:=K (j+1) (by simp only[CH];omega);simp only[C0,Addr.mk.injEq,FG] at iY;obtain⟨rfl,rfl⟩:=iY;simp only[K5] at z;have⟨x0,Q,av,nv,x2,x3,s,l⟩:=z.open;have HI:Hid (∀V,AO wr V->Calls prog 69 #[AB k, .agg #[AB r[j].kind,AB r[j].one.op,av,nv]] V λe w'=>∃(a:Option Addr) (c:Nat) (ms:List MI),e=.returned (AE a ms.length c)/\ms.map MI.inst=Bq k r[j]/\J5 w' V.heap.size (AE a ms.length c) ms/\AO V w'):=λV h=>HY r[j] (CJ Y) av nv V (s.below h) (l.below h)
      have aX:Hid (((r.take (j+1)).map (Bq k)).flatten=((r.take j).map (Bq k)).flatten++Bq k r[j]):=by
       show _=_
       rw[EB Y,CU,FD];simp
      have⟨y,q⟩:=AA (r[j])
      rw[<-q] at HI aX x0 Q s l;obtain⟨aH,az,rfl,J⟩:=s.shape;obtain⟨aG,aA,rfl,kG,_⟩:=l.shape;have aS:(0:Int)<=(j:Int)+1:=AQ
      have a7:(j:Int)+1<(m:Int)+1:=AQ
      have a6:((j:Int)+1).toNat=j+1:=AQ
      have eU:Hid (∀ks:List MI,ks.map MI.inst=Bq k y->g.length+ks.length<=1000000/\(g++ks).map MI.inst=Bv x++((r.take (j+1)).map (Bq k)).flatten):=by
       intro ks u;have h1:(g++ks).map MI.inst=Bv x++((r.take (j+1)).map (Bq k)).flatten:=by rw[CU,iV.out,u,aX.out,EI]
       have h2:=dX _ _ h1;rw[CO] at h2;exact⟨AQ,h1⟩
      have mW:Hid (∀V,Below (w.heap.size+1) wr V->(V.cell? (AL w 0)=some (AB k)/\V.cell? (AL w 3)=some (AE (some (AK b o)) (m+1) Z)/\V.cell? (AK b (o+(j+1)*4))=some (AB y.kind)/\V.cell? (AK b (o+(j+1)*4+1))=some (AB y.one.op)/\V.cell? (AK b (o+(j+1)*4+2))=some (AE aH y.one.args.length az)/\V.cell? (AK b (o+(j+1)*4+3))=some (AE aG y.kids.length aA))):=λV hV=>by
       have a8:=iE.out;have e0:V.heap[w.heap.size]?=wr.heap[w.heap.size]?:=hV.block _ AQ;have e1:V.heap[b]?=wr.heap[b]?:=hV.block _ AQ;exact⟨(World.cell?_of_block (a:=(AL w 0)) e0).trans ap,(World.cell?_of_block (a:=(AL w 3)) e0).trans um,(World.cell?_of_block (a:=(AK b _)) e1).trans x0,(World.cell?_of_block (a:=(AK b _)) e1).trans Q,(World.cell?_of_block (a:=(AK b _)) e1).trans x2,(World.cell?_of_block (a:=(AK b _)) e1).trans x3⟩
      clear J kG q z K s l ae aX jD HY;go_upto_region 10 with fail
      go_region_held3 (λG=>(G.cell? (AL w 0)=some (AB k)/\G.cell? (AL w 3)=some (AE (some (AK b o)) (m+1) Z)/\G.cell? (AK b (o+(j+1)*4))=some (AB y.kind)/\G.cell? (AK b (o+(j+1)*4+1))=some (AB y.one.op)/\G.cell? (AK b (o+(j+1)*4+2))=some (AE aH y.one.args.length az)/\G.cell? (AK b (o+(j+1)*4+3))=some (AE aG y.kids.length aA))) (first | with_reducible assumption | with_reducible exact⟨KD.trans ap,KD.trans um,KD.trans x0,KD.trans Q,KD.trans x2,KD.trans x3⟩ | skip) (first | (refine oq rfl _ _ rfl (w.heap.size+1) wr.heap.size wr M L g ks R X rfl rfl jR.out ao.out P (CG _) (eU.out ks dS.out).1 BF ?_;intro a3 c3 w3 aD aC;have aO:Hid (J5 w3 (w.heap.size+1) (AE a3 (g.length+ks.length) c3) (g++ks)):=aD;clear aD;have aK:Below (w.heap.size+1) t w3:=hb.trans ((P.mono BF).trans aC);have aN:=mW.out w3 ((P.mono BF).trans aC)) | (go_simp;go_at_call 69;refine(HI.out _ yEa).mono ?_;rintro e I ⟨R,X,ks,rfl,u,aa,ay⟩;have dS:Hid (ks.map MI.inst=Bq k y):=u;have ao:Hid (J5 I wr.heap.size (AE R ks.length X) ks):=aa;have P:AO wr I:=((Below.refl wr.heap.size wr).drew).trans ay;have aQ:=mW.out I (P.mono BF);clear u aa ay))
      all_goals
       have ak:=eU ks dS.out;have vX:Hid ((g++ks).map MI.inst=Bv x++((r.take (j+1)).map (Bq k)).flatten):=ak.2;have aY:=ak.1;clear ak eU mW aN aQ HI
       go_wp2
       exact⟨⟨j+1,a3,c3,g++ks,AQ,by go_num,by rw[CO],vX.out,by rw[CO];exact aO.out,aK⟩,by simp[intOf];omega⟩
     ·obtain rfl:j=m:=by omega
      have al:=iV.out;rw[EC (by rw[<-aU.out];exact CG _)] at al;have dZ:Hid (g.map MI.inst=Bv x++(r.map (Bq k)).flatten):=al;clear al
      go_wp2
      go_ret;exact⟨M,L,g,rfl,dZ.out,jR.le AQ,au⟩
theorem gx (n:Stil.B8)(hf:Ht n)(H:Dz n)(hs:Stil.BK n<=400):KL 70 n (Dl n):=by
 intro C G w r q;have N:=W6 hf;have z:Hid (∀y∈Cj n,NQ 2 y (Bq 2 y)):=by
  intro y k;have K:Aj y=0/\Dz y/\Ai y<=400:=by
   have h3:=Ln n y k;unfold Cj at k;split at k
   ·cases k
   ·rename_i L
    have af:=hf.resolve_left L;split at k
    ·exact⟨Oe af.2.2 y k,(D5 H).2.2.2 y k,AQ⟩
    ·rw[List.mem_singleton.1 k] at h3 ⊢;exact⟨af.2.2,H,AQ⟩
  exact SK 2 (.inl rfl) y (D5 K.2.1).2.1.2.1 (by have:=QY y K.1;omega) λ_=>S5 y (RE y K.1) K.2.1 (CM K.2.2 AY)
 have A:Hid (∀W,AO w W->Calls prog 63 #[.agg #[AB n.kind,AB n.one.op,C,G]] W (AN W (.bool (Am n)))):=by
  intro W h;exact LU n C G W ((r.below h).at) ((q.below h).at) (by have:=(D5 H).2.1.2.1;omega) (by have:=(D5 H).2.2.1;omega)
 have S:Hid (∀W,AO w W->Tv W C n.one.args):=λW h=>r.below h
 have J:Hid (∀W,AO w W->Ls W G n.kids):=λW h=>q.below h
 have t:Hid (Cj n=if Am n then [] else if n.kind=2 then n.kids else [n]):=rfl;have s:Hid (Dl n=((Cj n).map (Bq 2)).flatten):=rfl;obtain⟨p0,r0,rfl,Z⟩:=r.shape;obtain⟨O,Q,rfl,ab,u⟩:=q.shape;have au:n.kids.length<=1048576:=(D5 H).2.2.1;clear Z ab r q hf H;have⟨Y,aj⟩:=AA (Am n)
 rw[<-aj] at A t;clear aj;cases Y with
 | true=>
  have al:Hid (Dl n=[]):=by show _=_;rw[s.out,t.out];rfl
  rw[al.out];clear t s z S J N u;go_enter func70,ntmps70
  go_wp2_with (go_at_call 63;refine(A _ AW).mono ?_;rintro e g ⟨rfl,l⟩)
  go_ret;exact⟨none,0,[],rfl,rfl,⟨World.ownsRow_nil _ _ _ _,λx hx=>by cases hx⟩,AW⟩
 | false=>
  by_cases h2:n.kind=2
  ·have I:Hid (Cj n=n.kids):=by show _=_;rw[t.out,if_neg AY,if_pos h2]
   rw[I.out] at s z;rw[s.out];rw[h2] at A ⊢;have ak:=u;have dX:Hid (∀(j:Nat) (ms:List MI),ms.map MI.inst=((n.kids.take j).map (Bq 2)).flatten->ms.length<=800):=by
    intro j ms h;rw[<-CW (f:=MI.inst),h];rw[s.out] at N;have h2:((n.kids.take j).map (Bq 2)).flatten.length<=(n.kids.map (Bq 2)).flatten.length:=by
     conv=>rhs;rw[<-IA j n.kids,CU,FD,CO]
     omega
    omega
   have⟨m,U⟩:=AA n.kids.length
   have aU:Hid (m=n.kids.length):=U;rw[<-U] at A au ⊢;clear t s I N u ak h2 U S;go_enter func70,ntmps70
   go_wp2_with (go_at_call 63;refine(A _ AW).mono ?_;rintro e g ⟨rfl,l⟩;have y0:g.cell? (AL w 0)=some (AB 2):=(A0 l);have y3:g.cell? (AL w 3)=some (AE O m Q):=(A0 l);have ab:w.heap.size<g.heap.size:=CB AU l.size;have aW:AO w g:=AW;clear l)
   go_loopw [3,4] (λd i wr=>∃(j:Nat) (F:Option Addr) (D:Nat) (b:List MI),j<=m/\i=AB (j:Int)/\d=AE F b.length D/\b.map MI.inst=((n.kids.take j).map (Bq 2)).flatten/\J5 wr (w.heap.size+1) (AE F b.length D) b/\Below (w.heap.size+1) g wr) (λ_ i _=>m - (intOf i).toNat)
   case atStart=>
    refine⟨0,some (AL g 0),0,[],AQ,rfl,rfl,AU,⟨?_,λx hx=>by cases hx⟩,((Aa g _).mono AQ)⟩;exact World.ownsRow_lit g #[] 0 AQ A6 rfl
   case round=>
    obtain⟨j,F,D,b,hj,rfl,rfl,ah,B,hb⟩:=hrel;have iV:Hid (b.map MI.inst=((n.kids.take j).map (Bq 2)).flatten):=ah;have jR:Hid (J5 wr (w.heap.size+1) (AE F b.length D) b):=B;clear ah B;have ae:AO w wr:=aW.trans (hb.mono AQ);have jE:w.heap.size<wr.heap.size:=CB ab hb.size;have um:wr.cell? (AL w 3)=some (AE O m Q):=(World.cell?_of_block (a:=(AL w 3)) (hb.block _ AU)).trans y3;by_cases ay:j<m
    ·have B:j<n.kids.length:=by have:=aU.out;omega
     have⟨pa,pc,ag,_,u⟩:=(J wr ae).shape;simp only[Value.slice.injEq,true_and] at ag;obtain⟨rfl,rfl⟩:=ag;have⟨b2,o2,iY,aB,L⟩:=u j B;subst iY;have⟨x0,x1,C,G,x2,x3,r,q⟩:=L.open;have HI:Hid (∀V,AO wr V->Calls prog 69 #[AB 2, .agg #[AB n.kids[j].kind,AB n.kids[j].one.op,C,G]] V λe w'=>∃(a:Option Addr) (c:Nat) (ms:List MI),e=.returned (AE a ms.length c)/\ms.map MI.inst=Bq 2 n.kids[j]/\J5 w' V.heap.size (AE a ms.length c) ms/\AO V w'):=λV h=>z n.kids[j] (CJ B) C G V (r.below h) (q.below h)
     have X:Hid (((n.kids.take (j+1)).map (Bq 2)).flatten=((n.kids.take j).map (Bq 2)).flatten++Bq 2 n.kids[j]):=by
      show _=_
      rw[EB B,CU,FD];simp
     have⟨y,k⟩:=AA (n.kids[j])
     rw[<-k] at HI X x0 x1 r q;obtain⟨aE,az,rfl,Z⟩:=r.shape;obtain⟨aD,aA,rfl,kG,_⟩:=q.shape;have eU:Hid (∀ks:List MI,ks.map MI.inst=Bq 2 y->b.length+ks.length<=1000000/\(b++ks).map MI.inst=((n.kids.take (j+1)).map (Bq 2)).flatten):=by
      intro ks T;have h1:(b++ks).map MI.inst=((n.kids.take (j+1)).map (Bq 2)).flatten:=by rw[CU,iV.out,T,X.out]
      have h2:=dX _ _ h1;rw[CO] at h2;exact⟨AQ,h1⟩
     clear Z kG k L u r q X J z;have aF:(j:Int)<(m:Int):=AQ
     go_wp2_with (first | (go_at_call 69;refine(HI _ (Below.refl _ _)).mono ?_;rintro e w2 ⟨M,P,ks,rfl,T,R,ac⟩;have dS:Hid (ks.map MI.inst=Bq 2 y):=T;have ax:Hid (J5 w2 wr.heap.size (AE M ks.length P) ks):=R;clear T R) | (at_builtin;refine Es rfl _ _ rfl (w.heap.size+1) wr.heap.size wr F D b ks M P rfl rfl jR ax ac (CG _) (eU ks dS.out).1 AQ ?_;intro a3 c3 w3 ai ar;have aw:Hid (J5 w3 (w.heap.size+1) (AE a3 (b.length+ks.length) c3) (b++ks)):=ai;clear ai;have ao:Below (w.heap.size+1) g w3:=hb.trans ((ac.mono AQ).trans ar)))
     exact⟨⟨j+1,a3,c3,b++ks,AQ,by go_num,by rw[CO],(eU ks dS.out).2,by rw[CO];exact aw.out,ao⟩,by simp[intOf];omega⟩
    ·obtain rfl:j=m:=by omega
     have aa:=iV.out;rw[EC (by rw[<-aU.out];exact CG _)] at aa;have dZ:Hid (b.map MI.inst=(n.kids.map (Bq 2)).flatten):=aa;clear aa
     go_wp2
     go_ret;exact⟨F,D,b,rfl,dZ.out,jR.le AQ,ae⟩
  ·have I:Hid (Dl n=Bq 2 n):=by
    show _=_
    rw[s.out,t.out,if_neg AY,if_neg h2];simp
   have yf:Hid (∀W,AO w W->Calls prog 69 #[AB 2, .agg #[AB n.kind,AB n.one.op,AE p0 n.one.args.length r0,AE O n.kids.length Q]] W λe w'=>∃(a:Option Addr) (c:Nat) (ms:List MI),e=.returned (AE a ms.length c)/\ms.map MI.inst=Bq 2 n/\J5 w' W.heap.size (AE a ms.length c) ms/\AO W w'):=λW h=>z n (by rw[t.out,if_neg AY,if_neg h2];simp) _ _ W (S W h) (J W h)
   rw[I.out];have aC:(n.kind==2)=false:=by rw[CS];exact h2
   clear t s I z S J N u h2;go_enter func70,ntmps70
   go_wp2_with (first | (go_at_call 63;refine(A _ AW).mono ?_;rintro e g ⟨rfl,l⟩;have y0:g.cell? (AL w 0)=some (AB n.kind):=(A0 l);have y1:g.cell? (AL w 1)=some (AB n.one.op):=(A0 l);have y2:g.cell? (AL w 2)=some (AE p0 n.one.args.length r0):=(A0 l);have y3:g.cell? (AL w 3)=some (AE O n.kids.length Q):=(A0 l)) | (go_at_call 69;refine(yf _ AW).mono ?_;rintro e w2 ⟨M,P,ms,rfl,an,R,ac⟩;have ap:=l.size;simp only[World.alloc,K8] at ap))
   go_ret;exact⟨M,P,ms,rfl,an,R.le AQ,AW⟩
