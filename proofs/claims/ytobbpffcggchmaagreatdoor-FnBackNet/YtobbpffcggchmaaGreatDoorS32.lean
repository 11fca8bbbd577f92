import Derived.Test.YtobbpffcggchmaaGreatDoorCE6
import Derived.Test.YtobbpffcggchmaaGreatDoorHk
import Derived.Test.YtobbpffcggchmaaGreatDoorKa
import Derived.Test.YtobbpffcggchmaaGreatDoorLWN
import Derived.Deep.RegionHeld3
import Derived.Test.YtobbpffcggchmaaGreatDoorG5
namespace Go.Proofs.YtobbpffcggchmaaGreatDoor
open Tryz
open Go.RowKit Go.Sort Go.BigFrame
def Su (w:World)(base:Nat)(v:Value)(ms:List MI):Prop:=w.ownsRow base 48 3 v ms.length (Eu ms)/\∀x∈ms,EOk w base x.e/\Aside v x.e.av
theorem Agc (a b:List MI):Eu (a++b)=Eu a++Eu b:=by simp[Eu]
theorem Aoj (m:MI):Eu [m]=m.cells:=by simp[Eu]
theorem Aeq (l:List MI):(Eu l).length=l.length*3:=by
 induction l with
 | nil=>rfl
 | cons m l b=>
  have e:Eu (m::l)=m.cells++Eu l:=rfl;rw[e,A83,b];simp[MI.cells];omega
theorem Alm {w:World}{base:Nat}{ks:List MI}(b:∀m∈ks,EOk w base m.e):∀u∈Eu ks,u.oneCell'=true:=by
 intro u hu;obtain⟨m,c,hu⟩:=List.mem_flatMap.1 hu;obtain⟨g,f,d⟩:=Ac (b m c);simp only[MI.cells,A9o,Bch,Bax] at hu;rcases hu with rfl | rfl | rfl
 ·rfl
 ·rfl
 ·rw[d];rfl
section
variable {w w' : World}{base : Nat}{v v' : Value}{ms ks : List MI}
theorem Su.below (h:Su w base v ms)(b:Below w.heap.size w w'):Su w' base v ms:=⟨ownsRow_below h.1 b,λx c=>⟨ownsRow_below (h.2 x c).1 b,(h.2 x c).2⟩⟩
theorem Su.le {b:Nat}(h:Su w base v ms)(hl:b<=base):Su w b v ms:=⟨Joins.ownsRow_le h.1 hl,λx c=>⟨Joins.ownsRow_le (h.2 x c).1 hl,(h.2 x c).2⟩⟩
theorem Su.add (h:Su w base v ms)(b:∀x∈ks,EOk w base x.e/\Aside v x.e.av)(d:w'.ownsRow base 48 3 v' (ms.length+ks.length) (Eu ms++Eu ks))(hg:w.grownBy w' v.ownBlock)(f:v'.ownBlock=v.ownBlock\/v'.ownBlock=some w.heap.size):Su w' base v' (ms++ks):=by
 refine⟨by rw[A83,Agc];exact d,λx g=>?_⟩;have c:=(List.mem_append.1 g).elim (h.2 x) (b x);refine⟨c.1.kept hg c.2.symm,?_⟩;rcases f with e | e
 ·unfold Aside at*
  rw[e];exact c.2
 ·exact(Eg (n:=w.heap.size) (λk b=>(c.1.lt k b).2) (λk b=>by rw[e] at b;cases b;exact A88 _)).symm
end
variable {E:Prop}{a:Act}{base:Nat}{o:Oper}{ops:Array Oper}{rest:List Oper}
theorem Ug {w:World}{K:Act->World->Prop}{Q:Exit->Act->World->Prop}
  (hg:o.guard=none) (s x:Operand) (n:o.op=.call {callee:=.builtin .append,args:=#[s,x],argTypes:=#[23,23]})
  (base:Nat) (b:Option Addr) (d:Nat) (ms ks:List MI) (ad:Option Addr) (c:Nat) (q:a.eval s=.slice b ms.length d) (hx:a.eval x=.slice ad ks.length c)
  (hrow:Su w base (.slice b ms.length d) ms) (C:0<ks.length->∃p,ad=some p/\∀j u,(Eu ks)[j]?=some u->w.cell? (p.add j)=some u)
  (A:∀m∈ks,EOk w base m.e/\Aside (.slice b ms.length d) m.e.av) (hl:ms.length+ks.length<=1000000) (y:base<=w.heap.size)
  (z:∀B l w',Su w' base (.slice B (ms.length+ks.length) l) (ms++ks)->Below base w w'->K (a.put o.dst (.slice B (ms.length+ks.length) l)) w'):
  if Region.wanted o (yielded ops a.tmps)=true then Oper.wp prog o a w K Q else E:=by
 obtain⟨J,hi,D,L,M⟩:=info_parts Ov;by_cases hd:ks.length=0
 ·have T:=List.length_eq_zero_iff.1 hd
  subst T;have N:Region.wanted o (yielded ops a.tmps)=true:=by simp[Region.wanted,hg]
  rw[if_pos N];have r:ms.length<=d:=by
   rcases hrow.1.2 with⟨k,f⟩ | ⟨g,l,cur,k,_,_,O,_⟩
   ·rw[f];exact Ban _
   ·simp only[Value.slice.injEq] at k
    rw[k.2.2];exact O
  have i:=z b d w yCf (Below.refl _ _);simp only[A85,Ba8] at i hx;unfold Oper.wp execOp;cases ad
  ·have e:Sem.run prog (Builtin.append_ #[23,23] o.type #[.slice b ms.length d, .slice none 0 c]) w=.ok (.slice b ms.length d) w:=by cases b<;>simp[Builtin.append_,go_sem,r]
   simp only[n,resolve,invoke,builtin,Sem.run_bind,Sem.run_pure,Result.andThen_ok,Bad,A9l,A97,q,hx,e];exact i
  ·rename_i U
   have e:Sem.run prog (Builtin.append_ #[23,23] o.type #[.slice b ms.length d, .slice (some U) 0 c]) w=.ok (.slice b ms.length d) w:=by cases b<;>simp[Builtin.append_,go_sem,r]
   simp only[n,resolve,invoke,builtin,Sem.run_bind,Sem.run_pure,Result.andThen_ok,Bad,A9l,A97,q,hx,e];exact i
 ·obtain⟨p,rfl,G⟩:=C omz
  refine Eo hg s x _ n base 48 J _ 3 40 underlying23 hi D L M rfl dcz _ _ (Eu ms) q hrow.1 _ _ _ (Eu ks) hx (Aeq ks) G (Alm λm R=>(A m R).1) yAe omz y ?_;intro v' w' f t S;obtain⟨P,F,I⟩:=Ac f;subst I;exact z P F w' (hrow.add A f t S) ((Below.refl _ _).grown t y (λj H=>(hrow.1.lt j H).1))
theorem Yu {w:World}{Q:Exit->Act->World->Prop}
  (hg:o.guard=none) (s x:Operand) (k:o.op=.call {callee:=.builtin .append,args:=#[s,x],argTypes:=#[23,23]})
  (base:Nat) (f:Option Addr) (d:Nat) (ms ks:List MI) (ad:Option Addr) (c:Nat) (r:a.eval s=.slice f ms.length d) (hx:a.eval x=.slice ad ks.length c)
  (z:Su w base (.slice f ms.length d) ms) (i:0<ks.length->∃p,ad=some p/\∀j u,(Eu ks)[j]?=some u->w.cell? (p.add j)=some u)
  (y:∀m∈ks,EOk w base m.e/\Aside (.slice f ms.length d) m.e.av) (hl:ms.length+ks.length<=1000000) (q:base<=w.heap.size)
  (h:∀g b w',Su w' base (.slice g (ms.length+ks.length) b) (ms++ks)->Below base w w'->wpList prog ops Q rest (a.put o.dst (.slice g (ms.length+ks.length) b)) w'):
  wpList prog ops Q (o::rest) a w:=by
 refine wpList_plain hg λK t=>?_
 have l:Region.wanted o (yielded #[] a.tmps)=true:=by simp[Region.wanted,hg]
 have:=Ug (ops:=#[]) (K:=K) (Q:=Q) (E:=True) hg s x k base f d ms ks ad c r hx z i y hl q (λg b w' A n=>t _ _ (h g b w' A n))
 rwa [if_pos l] at this
theorem Su.more {w w1:World}{b1:Nat}{v u:Value}{ms ks:List MI}(h:Su w base v ms)(d:Su w1 b1 u ks)(f:Below w.heap.size w w1)(h1:w.heap.size<=b1)(g:base<=w.heap.size):
  Su w1 base v ms/\(∀x∈ks,EOk w1 base x.e/\Aside v x.e.av):=by
 refine⟨h.below f,λx c=>⟨Joins.ownsRow_le (d.2 x c).1 omz,?_⟩⟩;exact Eg (n:=w.heap.size) (λk b=>(h.1.lt k b).2) (λk b=>A9f h1 ((d.2 x c).1.lt k b).1)
theorem Su.cells {w:World}{a:Option Addr}{c:Nat}{ks:List MI}(h:Su w base (.slice a ks.length c) ks):0<ks.length->∃p,a=some p/\∀j u,(Eu ks)[j]?=some u->w.cell? (p.add j)=some u:=by
 intro e;rcases h.1.2 with⟨b,d⟩ | ⟨g,cap,cur,b,_⟩
 ·omega
 ·cases b
  exact⟨_,rfl,λj u hu=>h.1.cells (g:=g) rfl j u hu⟩
def A7y (f:FuncId)(x:Stil.Net)(is:List Stil.F7):Prop:=∀b d w,Agt w b x.one.args->Aka w d x.kids->
 Calls prog f #[.agg #[.int .i64 x.kind, .int .i64 x.one.op,b,d]] w λe w'=>∃(a:Option Addr) (c:Nat) (ms:List MI),e=.returned (.slice a ms.length c)/\ms.map MI.inst=is/\Su w' w.heap.size (.slice a ms.length c) ms/\Below w.heap.size w w'
def A7z (k:Int)(x:Stil.Net)(is:List Stil.F7):Prop:=∀b d w,Agt w b x.one.args->Aka w d x.kids->
 Calls prog 39 #[.int .i64 k, .agg #[.int .i64 x.kind, .int .i64 x.one.op,b,d]] w λe w'=>∃(a:Option Addr) (c:Nat) (ms:List MI),e=.returned (.slice a ms.length c)/\ms.map MI.inst=is/\Su w' w.heap.size (.slice a ms.length c) ms/\Below w.heap.size w w'
theorem Su.single {w:World}{m:MI}(h:EOk w base m.e)(c:base<=w.heap.size):Su (w.alloc (.cells #[.int .i64 m.code, .int .i64 m.e.op,m.e.av] 48)) base (.slice (some ⟨w.heap.size,0,none⟩) 1 1) [m]:=by
 refine⟨?_,λx d=>?_⟩
 ·exact World.ownsRow_lit w #[.int .i64 m.code, .int .i64 m.e.op,m.e.av] 1 c yAe rfl
 ·rw[List.mem_singleton.1 d]
  exact⟨ownsRow_below h (Aa _ _),(Eg (n:=w.heap.size) (λk b=>(h.lt k b).2) (λk b=>by cases b;exact A88 _)).symm⟩
theorem O7 {w:World}{Q:Exit->Act->World->Prop}
  (hg:o.guard=none) (s x:Operand) (i:o.op=.call {callee:=.builtin .append,args:=#[s,x],argTypes:=#[23,23]})
  (base:Nat) (c:Option Addr) (b:Nat) (ms:List MI) (m:MI) (r:a.eval s=.slice c ms.length b) (hx:a.eval x=.slice (some ⟨w.heap.size,0,none⟩) 1 1)
  (t:Su w base (.slice c ms.length b) ms) (g:EOk w base m.e/\Aside (.slice c ms.length b) m.e.av) (hl:ms.length+1<=1000000) (q:base<=w.heap.size)
  (h:∀d f w',Su w' base (.slice d (ms.length+1) f) (ms++[m])->Below base w w'->wpList prog ops Q rest (a.put o.dst (.slice d (ms.length+1) f)) w'):
  wpList prog ops Q (o::rest) a (w.alloc (.cells #[.int .i64 m.code, .int .i64 m.e.op,m.e.av] 48)):=by
 refine Yu hg s x i base c b ms [m] (some ⟨w.heap.size,0,none⟩) 1 r hx (t.below (Aa _ _)) (λ_=>⟨_,rfl,λj u hu=>?_⟩) (λy l=>?_) hl yAb λd f w' z k=>h d f w' z ((Be (Below.refl _ _) _:Below w.heap.size w _).mono q |>.trans k)
 ·rw[Aoj] at hu
  have e:(⟨w.heap.size,0,none⟩:Addr).add j=⟨w.heap.size,j,none⟩:=by unfold Addr.add;split<;>simp_all
  rw[e];have n:∀j,(w.alloc (.cells #[.int .i64 m.code, .int .i64 m.e.op,m.e.av] 48)).cell? ⟨w.heap.size,j,none⟩=(#[.int .i64 m.code, .int .i64 m.e.op,m.e.av]:Array Value)[j]?:=λj=>by
   have:(w.alloc (.cells #[.int .i64 m.code, .int .i64 m.e.op,m.e.av] 48)).heap[w.heap.size]?=some (.cells #[.int .i64 m.code, .int .i64 m.e.op,m.e.av] 48):=by simp only[World.alloc];exact Bby
   simp only[World.cell?,this];rfl
  rw[n];simpa[MI.cells] using hu
 ·rw[List.mem_singleton.1 l]
  exact⟨ownsRow_below g.1 (Aa _ _),g.2⟩
theorem Anm (w:World)(base:Nat)(v:Value)(k:Int):EOk w base (mi0 k).e/\Aside v (mi0 k).e.av:=⟨World.ownsRow_nil _ _ _ _,(Le v).symm⟩
theorem Acu {w:World}{K:Act->World->Prop}{Q:Exit->Act->World->Prop}
  (hg:o.guard=none) (s x:Operand) (j:o.op=.call {callee:=.builtin .append,args:=#[s,x],argTypes:=#[23,23]})
  (base b1:Nat) (w0:World) (d:Option Addr) (b:Nat) (ms ks:List MI) (ad:Option Addr) (c:Nat) (k:a.eval s=.slice d ms.length b) (hx:a.eval x=.slice ad ks.length c)
  (n:Su w0 base (.slice d ms.length b) ms) (h:Su w b1 (.slice ad ks.length c) ks) (g:Below w0.heap.size w0 w) (h1:w0.heap.size<=b1) (hl:ms.length+ks.length<=1000000) (f:base<=w0.heap.size)
  (l:∀e i w',Su w' base (.slice e (ms.length+ks.length) i) (ms++ks)->Below base w w'->K (a.put o.dst (.slice e (ms.length+ks.length) i)) w'):
  if Region.wanted o (yielded ops a.tmps)=true then Oper.wp prog o a w K Q else E:=by
 obtain⟨p,m⟩:=n.more h g h1 f;exact Ug hg s x j base d b ms ks ad c k hx p h.cells m hl (A9f f g.size) l
theorem Aun {w:World}{p:Addr}:(w.drew).cell? p=w.cell? p:=rfl
open Stil
theorem zk0 {p:Prop}(h:p:=by
 go_enter func39,ntmps39
 go_wp2_with (go_at_call 38;refine(HC _ blA).mono ?_;rintro e w1 ⟨a1,c1,rfl,ho1,hb1⟩)
 go_ret;exact oW _ _ _ (Joins.ownsRow_le ho1 spz) (by have:=hb1.size;simp at this;omega) blA):p:=h
set_option maxHeartbeats 2000000 in
set_option maxRecDepth 100000 in
theorem A63 (k:Int)(L:k=2\/k=3)(x:Stil.Net)(V:x.one.args.length<=1048576)(X:(Az x).length<=900000)(M:x.kind≠1->A7y 15 x (Az x)):A7z k x (Dq k x):=by
 intro O S w r s;have y:=hid (λW (h:Below w.heap.size w W)=>(r.below h).at);have D:=hid (λb W h=>M b O S W (r.below h) (s.below h));obtain⟨p0,r0,rfl,P⟩:=r.shape;obtain⟨p1,r1,rfl,T,_⟩:=s.shape;clear M P T r s;by_cases b:x.kind=1
 ·have i:=hid (Iz k x b)
  rw[i.out];have HC:=hid (λW h=>Abz x.one _ W (y W h) V);rw[b];clear i D y b;have G:∀(W:World) (a:Option Addr) (c:Nat),W.ownsRow w.heap.size 34 3 (.slice a x.one.args.length c) x.one.args.length (Am x.one.args)->w.heap.size<=W.heap.size->Below w.heap.size w W->∃(N:Option Addr) (H:Nat) (ms:List MI),Ending.returned (.slice (some ⟨W.heap.size,0,none⟩) 1 1)=.returned (.slice N ms.length H)/\ms.map MI.inst=[⟨k,x.one⟩]/\Su (W.alloc (.cells #[.int .i64 k, .int .i64 x.one.op, .slice a x.one.args.length c] 48)) w.heap.size (.slice N ms.length H) ms/\Below w.heap.size w (W.alloc (.cells #[.int .i64 k, .int .i64 x.one.op, .slice a x.one.args.length c] 48)):=by
   intro W a c U R Z;exact⟨_,1,[⟨k,⟨x.one.op,x.one.args, .slice a x.one.args.length c⟩⟩],rfl,rfl,Su.single (m:=⟨k,⟨x.one.op,x.one.args, .slice a x.one.args.length c⟩⟩) U R,Be Z _⟩
  have oW:=G;clear G;rcases L with rfl | rfl
  ·exact zk0
  ·exact zk0
 ·have i:=hid (Hg k x b)
  rw[i.out];have aa:(x.kind==1)=false:=by rw[A95];exact b
  have I:=D b;have K:=hid I;have F:∀ms:List MI,ms.map MI.inst=Az x->ms.length<=900000:=λms h=>by rw[<-A9j (f:=MI.inst),h];exact X
  have J:=hid F;clear i D I y b F;rcases L with rfl | rfl
  ·go_enter func39,ntmps39
   go_wp2_with (first | (go_at_call 15;refine(K _ blA).mono ?_;rintro e w1 ⟨a1,c1,ms,rfl,j,l,hb1⟩;have d:=hid j;clear j;have Y:=J ms d.out;have B:Hid (Su w1 w.heap.size (.slice a1 ms.length c1) ms):=l.le spz;clear l;have g:Below w.heap.size w w1:=blA) | (at_builtin;refine O7 (m:=mi0 4) rfl _ _ rfl w.heap.size a1 c1 ms rfl rfl B (Anm _ _ _ _) omz g.size ?_;intro u t Q q z;have A:=hid q;clear q;have C:=g.trans z))
   go_ret;exact⟨u,t,ms++[mi0 4],by rw[A83];rfl,by rw[A9h,d.out];rfl,by rw[A83];exact A.out,C⟩
  ·go_enter func39,ntmps39
   go_wp2_with (first | (go_at_call 15;refine(K _ blA).mono ?_;rintro e w1 ⟨a1,c1,ms,rfl,j,l,hb1⟩;have d:=hid j;clear j;have Y:=J ms d.out;have B:Hid (Su w1 w.heap.size (.slice a1 ms.length c1) ms):=l.le spz;clear l;have g:Below w.heap.size w w1:=blA) | (at_builtin;refine O7 (m:=mi0 5) rfl _ _ rfl w.heap.size a1 c1 ms rfl rfl B (Anm _ _ _ _) omz g.size ?_;intro u t Q q z;have A:=hid q;clear q;have C:=g.trans z))
   go_ret;exact⟨u,t,ms++[mi0 5],by rw[A83];rfl,by rw[A9h,d.out];rfl,by rw[A83];exact A.out,C⟩
set_option maxHeartbeats 4000000 in
set_option maxRecDepth 100000 in
theorem A71 (n:Stil.Net):Stil.shp n->Cj n->Aj n<=1000->A7y 15 n (Az n):=by
 induction n using Et with
 | h k e kids ih=>
  intro M ab X av nv w s q;simp only at s q;have D:=Awq M;simp only at D;have L:=Ady M;have B:=Ail _ M;have C:=(Gt _ _ _).1 ab;rw[D9] at X;simp only at X;have t:∀x∈kids,Aj x<=1000:=λx hx=>by have:Aj x<=Stil.sizes kids:=Hr Aj kids x hx;omega
  have ae:kids.length<=1000:=by have:=Fz kids;omega
  by_cases h1:k=1
  ·subst h1
   rw[Jp];have HC:Hid (∀W,Below w.heap.size w W->Calls prog 38 #[.agg #[.int .i64 e.op,av]] W λr w'=>∃a c,r=.returned (.agg #[.int .i64 e.op, .slice a e.args.length c])/\w'.ownsRow W.heap.size 34 3 (.slice a e.args.length c) e.args.length (Am e.args)/\Below W.heap.size W w'):=λW h=>Abz e _ W ((s.below h).at) C.2.1.2.1
   obtain⟨p0,r0,rfl,G⟩:=s.shape;obtain⟨p1,Q,rfl,ah,_⟩:=q.shape;have oW:Hid (∀(W:World) (a:Option Addr) (c:Nat),W.ownsRow w.heap.size 34 3 (.slice a e.args.length c) e.args.length (Am e.args)->w.heap.size<=W.heap.size->Below w.heap.size w W->∃(a':Option Addr) (c':Nat) (ms:List MI),Ending.returned (.slice (some ⟨W.heap.size,0,none⟩) 1 1)=.returned (.slice a' ms.length c')/\ms.map MI.inst=[⟨1,e⟩]/\Su (W.alloc (.cells #[.int .i64 1, .int .i64 e.op, .slice a e.args.length c] 48)) w.heap.size (.slice a' ms.length c') ms/\Below w.heap.size w (W.alloc (.cells #[.int .i64 1, .int .i64 e.op, .slice a e.args.length c] 48))):=by
    intro W a c ho hb hB;exact⟨_,1,[⟨1,⟨e.op,e.args, .slice a e.args.length c⟩⟩],rfl,rfl,Su.single (m:=⟨1,⟨e.op,e.args, .slice a e.args.length c⟩⟩) ho hb,Be hB _⟩
   clear G ah ih t ae M D L X s q ab C B;go_enter func15,ntmps15
   go_wp2_with (go_at_call 38;refine(HC _ blA).mono ?_;rintro e u ⟨F,H,rfl,aK,A⟩)
   go_ret;exact oW _ _ _ (Joins.ownsRow_le aK spz) (by have:=A.size;simp at this;omega) blA
  ·have aN:kids≠[]:=by
    rcases L with⟨h,_⟩ | ⟨_,h,_⟩ | ⟨_,_,x,h,_⟩
    ·exact absurd h h1
    ·intro h0;rw[h0] at h;simp at h
    ·intro h0;rw[h0] at h;cases h
   obtain⟨x,r,rfl⟩:=Bca aN;have xq:Hid (∀W,Below w.heap.size w W->Aka W nv (x::r)):=λW h=>q.below h
   obtain⟨p0,r0,rfl,G⟩:=s.shape;obtain⟨p1,Q,rfl,ao,J⟩:=q.shape;obtain⟨b,o,rfl,af,z⟩:=J 0 spz;simp only[Bab,Bbd,Ba8] at z;obtain⟨x0,Y,aw,y9,x2,x3,oD,nX⟩:=z.open;have HZ:Hid (∀W,Below w.heap.size w W->Calls prog 15 #[.agg #[.int .i64 x.kind, .int .i64 x.one.op,aw,y9]] W λe w'=>∃(a:Option Addr) (c:Nat) (ms:List MI),e=.returned (.slice a ms.length c)/\ms.map MI.inst=Az x/\Su w' W.heap.size (.slice a ms.length c) ms/\Below W.heap.size W w'):=λW h=>ih x spz (D x spz) (C.2.2.2 x spz) (t x spz) aw y9 W (oD.below h) (nX.below h)
   have ac:∀y∈x::r,(Az y).length<=900000:=λy l=>by have:=Ail y (D y l);have:=t y l;omega
   have aH:r.length<=999:=by simp only[A84] at ae;omega
   have al:k=4->r=[]:=by
    intro h4;rcases L with⟨h,_⟩ | ⟨h,_,_⟩ | ⟨_,_,a5,h,_⟩
    ·omega
    ·omega
    ·simp only[List.cons.injEq] at h;exact h.2
   obtain⟨q0,s0,rfl,aD⟩:=oD.shape;obtain⟨q1,s1,rfl,aI,_⟩:=nX.shape;have ax:Hid (∀ms:List MI,ms.map MI.inst=Az x->ms.length<=900000):=λms h=>by rw[<-A9j (f:=MI.inst),h];exact ac x spz
   by_cases h4:k=4
   ·subst h4
    have aR:=al rfl;subst aR;rw[Jq];simp only[A84,A85,A9c];clear G aD aI J z ih t ae ao s q oD nX M D L X al xq ab C B ac aH;go_enter func15,ntmps15
    go_wp2_with (first | (go_at_call 15;refine(HZ _ blA).mono ?_;rintro e u ⟨F,H,ms,rfl,Z,T,A⟩;have mW:Hid (ms.map MI.inst=Az x):=Z;clear Z;have aS:=ax ms mW.out;have ag:Hid (Su u w.heap.size (.slice F ms.length H) ms):=T.le spz;clear T;have aV:Below w.heap.size w u:=blA) | (at_builtin;refine O7 (m:=mi0 6) rfl _ _ rfl w.heap.size F H ms rfl rfl ag (Anm _ _ _ _) omz aV.size ?_;intro S R N aa P;have an:Hid (Su N w.heap.size (.slice S (ms.length+1) R) (ms++[mi0 6])):=aa;clear aa;have aO:Below w.heap.size w N:=aV.trans P))
    go_ret;exact⟨S,R,ms++[mi0 6],by rw[A83];rfl,by rw[A9h,mW.out];rfl,by rw[A83];exact an.out,aO⟩
   ·have iK:k=2\/k=3:=by
     rcases L with⟨h,_⟩ | ⟨h,_,_⟩ | ⟨h,_⟩<;>omega
    have HY:Hid (∀y∈r,A7z k y (Dq k y)):=λy l=>A63 k iK y ((Es (C.2.2.2 y (A87 _ l))).2.1.2.1) (ac y (A87 _ l)) λ_=>ih y (A87 _ l) (D y (A87 _ l)) (C.2.2.2 y (A87 _ l)) (t y (A87 _ l))
    have a6:(k==1)=false:=by rw[A95];exact h1
    have jo:(k==4)=false:=by rw[A95];exact h4
    have ak:=H7 (k:=k) e x r h1 h4;have qo:Hid (∀(j:Nat) (ms:List MI),ms.map MI.inst=Az x++((r.take j).map (Dq k)).flatten->ms.length<=900000):=by
     intro j ms h;rw[<-A9j (f:=MI.inst),h];rw[ak] at B;have h2:((r.take j).map (Dq k)).flatten.length<=(r.map (Dq k)).flatten.length:=by
      conv=>rhs;rw[<-Bbu j r,A9h,Bbg,A83]
      omega
     rw[A83] at B ⊢;rw[D9] at B;simp only at B;omega
    rw[ak];simp only[A84];obtain⟨m,hm⟩:∃m,m=r.length:=⟨_,rfl⟩
    have aU:Hid (m=r.length):=hm;rw[<-hm] at aH ⊢;clear G aD aI J z ih t ae hm ao s q oD nX M D L X al ab C B ac ak ax;have a8:(0:Int)<(m:Int)+1:=omz
    go_enter func15,ntmps15
    go_wp2_with (go_at_call 15;refine(HZ _ blA).mono ?_;rintro e u ⟨F,H,ms,rfl,Z,T,A⟩;have mW:Hid (ms.map MI.inst=Az x):=Z;clear Z;have ag:Hid (Su u (w.heap.size+1) (.slice F ms.length H) ms):=T.le spz;clear T;have y0:u.cell? ⟨w.heap.size,0,none⟩=some (.int .i64 k):=(clA A);have y3:u.cell? ⟨w.heap.size,3,none⟩=some (.slice (some ⟨b,o,none⟩) (m+1) Q):=(clA A);have ah:w.heap.size<u.heap.size:=A82 spz A.size)
    have aV:Below w.heap.size w u:=blA;clear A x0 Y x2 x3 HZ;have jV:Hid (b<w.heap.size):=af;clear af;go_loopw [3,4] (λd i wr=>∃(j:Nat) (I:Option Addr) (O:Nat) (g:List MI),j<=m/\i=.int .i64 ((j:Int)+1)/\d=.slice I g.length O/\g.map MI.inst=Az x++((r.take j).map (Dq k)).flatten/\Su wr (w.heap.size+1) (.slice I g.length O) g/\Below (w.heap.size+1) u wr) (λ_ i _=>m+1 - (intOf i).toNat)
    case atStart=>exact⟨0,F,H,ms,omz,rfl,rfl,by rw[mW.out];simp,ag.out,Below.refl _ _⟩
    case round=>
     obtain⟨j,I,O,g,hj,rfl,rfl,aB,U,hb⟩:=hrel;have ar:Hid (g.map MI.inst=Az x++((r.take j).map (Dq k)).flatten):=aB;have aJ:Hid (Su wr (w.heap.size+1) (.slice I g.length O) g):=U;clear aB U mW ag;have aC:Below w.heap.size w wr:=aV.trans (hb.mono omz);have eu:w.heap.size<wr.heap.size:=A82 ah hb.size;have x9:wr.cell? ⟨w.heap.size,0,none⟩=some (.int .i64 k):=(World.cell?_of_block (a:=⟨w.heap.size,0,none⟩) (hb.block _ spz)).trans y0;have xy:wr.cell? ⟨w.heap.size,3,none⟩=some (.slice (some ⟨b,o,none⟩) (m+1) Q):=(World.cell?_of_block (a:=⟨w.heap.size,3,none⟩) (hb.block _ spz)).trans y3;by_cases aX:j<m
     ·have U:j<r.length:=by have:=aU.out;omega
      obtain⟨pa,pc,ap,_,J⟩:=(xq wr aC).shape;simp only[A84,Value.slice.injEq,true_and] at ap;obtain⟨rfl,rfl⟩:=ap;obtain⟨b2,o2,nZ,af,z⟩:=J (j+1) (by simp only[A84];omega);simp only[A96,Addr.mk.injEq,Bbx] at nZ;obtain⟨rfl,rfl⟩:=nZ;simp only[Bb2] at z;obtain⟨x0,Y,av,nv,x2,x3,s,q⟩:=z.open;have HI:Hid (∀V,Below wr.heap.size wr V->Calls prog 39 #[.int .i64 k, .agg #[.int .i64 r[j].kind, .int .i64 r[j].one.op,av,nv]] V λe w'=>∃(a:Option Addr) (c:Nat) (ms:List MI),e=.returned (.slice a ms.length c)/\ms.map MI.inst=Dq k r[j]/\Su w' V.heap.size (.slice a ms.length c) ms/\Below V.heap.size V w'):=λV h=>HY r[j] (A9a U) av nv V (s.below h) (q.below h)
      have gZ:Hid (((r.take (j+1)).map (Dq k)).flatten=((r.take j).map (Dq k)).flatten++Dq k r[j]):=by
       show _=_
       rw[A9m U,A9h,Bbg];simp
      obtain⟨y,l⟩:∃y,y=r[j]:=⟨_,rfl⟩
      rw[<-l] at HI gZ x0 Y s q;obtain⟨ay,aG,rfl,G⟩:=s.shape;obtain⟨au,aA,rfl,vH,_⟩:=q.shape;have aW:(0:Int)<=(j:Int)+1:=omz
      have aZ:(j:Int)+1<(m:Int)+1:=omz
      have aY:((j:Int)+1).toNat=j+1:=omz
      have um:Hid (∀ks:List MI,ks.map MI.inst=Dq k y->g.length+ks.length<=1000000/\(g++ks).map MI.inst=Az x++((r.take (j+1)).map (Dq k)).flatten):=by
       intro ks t;have h1:(g++ks).map MI.inst=Az x++((r.take (j+1)).map (Dq k)).flatten:=by rw[A9h,ar.out,t,gZ.out,A9r]
       have h2:=qo _ _ h1;rw[A83] at h2;exact⟨omz,h1⟩
      have oQ:Hid (∀V,Below (w.heap.size+1) wr V->(V.cell? ⟨w.heap.size,0,none⟩=some (.int .i64 k)/\V.cell? ⟨w.heap.size,3,none⟩=some (.slice (some ⟨b,o,none⟩) (m+1) Q)/\V.cell? ⟨b,o+(j+1)*4,none⟩=some (.int .i64 y.kind)/\V.cell? ⟨b,o+(j+1)*4+1,none⟩=some (.int .i64 y.one.op)/\V.cell? ⟨b,o+(j+1)*4+2,none⟩=some (.slice ay y.one.args.length aG)/\V.cell? ⟨b,o+(j+1)*4+3,none⟩=some (.slice au y.kids.length aA))):=λV hV=>by
       have a7:=jV.out;have e0:V.heap[w.heap.size]?=wr.heap[w.heap.size]?:=hV.block _ omz;have e1:V.heap[b]?=wr.heap[b]?:=hV.block _ omz;exact⟨(World.cell?_of_block (a:=⟨w.heap.size,0,none⟩) e0).trans x9,(World.cell?_of_block (a:=⟨w.heap.size,3,none⟩) e0).trans xy,(World.cell?_of_block (a:=⟨b,_,none⟩) e1).trans x0,(World.cell?_of_block (a:=⟨b,_,none⟩) e1).trans Y,(World.cell?_of_block (a:=⟨b,_,none⟩) e1).trans x2,(World.cell?_of_block (a:=⟨b,_,none⟩) e1).trans x3⟩
      clear G vH l z J s q af gZ xq HY;go_upto_region 10 with fail
      go_region_held3 (λK=>(K.cell? ⟨w.heap.size,0,none⟩=some (.int .i64 k)/\K.cell? ⟨w.heap.size,3,none⟩=some (.slice (some ⟨b,o,none⟩) (m+1) Q)/\K.cell? ⟨b,o+(j+1)*4,none⟩=some (.int .i64 y.kind)/\K.cell? ⟨b,o+(j+1)*4+1,none⟩=some (.int .i64 y.one.op)/\K.cell? ⟨b,o+(j+1)*4+2,none⟩=some (.slice ay y.one.args.length aG)/\K.cell? ⟨b,o+(j+1)*4+3,none⟩=some (.slice au y.kids.length aA))) (first | with_reducible assumption | with_reducible exact⟨Aun.trans x9,Aun.trans xy,Aun.trans x0,Aun.trans Y,Aun.trans x2,Aun.trans x3⟩ | skip) (first | (refine Acu rfl _ _ rfl (w.heap.size+1) wr.heap.size wr I O g ks S R rfl rfl aJ.out an.out P (A88 _) (um.out ks yI.out).1 yBa ?_;intro a3 c3 w3 az aE;have aP:Hid (Su w3 (w.heap.size+1) (.slice a3 (g.length+ks.length) c3) (g++ks)):=az;clear az;have aQ:Below (w.heap.size+1) u w3:=hb.trans ((P.mono yBa).trans aE);have aL:=oQ.out w3 ((P.mono yBa).trans aE)) | (go_simp;go_at_call 39;refine(HI.out _ yAc).mono ?_;rintro e N ⟨S,R,ks,rfl,t,aa,aF⟩;have yI:Hid (ks.map MI.inst=Dq k y):=t;have an:Hid (Su N wr.heap.size (.slice S ks.length R) ks):=aa;have P:Below wr.heap.size wr N:=((Below.refl wr.heap.size wr).drew).trans aF;have aM:=oQ.out N (P.mono yBa);clear t aa aF))
      all_goals
       have aj:=um ks yI.out;have jA:Hid ((g++ks).map MI.inst=Az x++((r.take (j+1)).map (Dq k)).flatten):=aj.2;have aT:=aj.1;clear aj um oQ aL aM HI
       go_wp2
       exact⟨⟨j+1,a3,c3,g++ks,omz,by go_num,by rw[A83],jA.out,by rw[A83];exact aP.out,aQ⟩,by simp[intOf];omega⟩
     ·obtain rfl:j=m:=by omega
      have ai:=ar.out;rw[A9y (by rw[<-aU.out];exact A88 _)] at ai;have nN:Hid (g.map MI.inst=Az x++(r.map (Dq k)).flatten):=ai;clear ai
      go_wp2
      go_ret;exact⟨I,O,g,rfl,nN.out,aJ.le omz,aC⟩
end Go.Proofs.YtobbpffcggchmaaGreatDoor
