import Derived.Test.YtnpfcnolmkanfaaGreatDoorGm
import Derived.Test.YtnpfcnolmkanfaaGreatDoorY6b
import Derived.Test.YtnpfcnolmkanfaaGreatDoorGx
import Derived.Test.YtnpfcnolmkanfaaGreatDoorG4
import Derived.Shelf.Abstract
namespace Go.Proofs.YtnpfcnolmkanfaaGreatDoor
open Tryz
open Go.RowKit Go.Sort Go.BigFrame
variable {E:Prop}{a:Act}{base base':Nat}{o:Oper}{ops:Array Oper}{rest:List Oper}{v v' x:Value}{w':World}
structure D8 where
 op:Int
 ds:List Stil.Dev
 av:Value
def D8.elem (m:D8):Stil.Elem:=⟨m.op,m.ds⟩
def Gg (es:List D8):List Value:=es.map D8.av
def D8.cells (m:D8):List Value:=[.int .i64 m.op,m.av]
def Ib (es:List D8):List Value:=es.flatMap D8.cells
theorem Aiu (a b:List D8):Ib (a++b)=Ib a++Ib b:=by simp[Ib]
theorem Xj (a b:List D8):Gg (a++b)=Gg a++Gg b:=by simp[Gg]
theorem Oi {es:List D8}:x∈Gg es↔∃m∈es,m.av=x:=by simp[Gg]
theorem Ahc (es:List D8):(Ib es).length=es.length*2:=by
 induction es with
 | nil=>rfl
 | cons m r b=>
  have e:Ib (m::r)=m.cells++Ib r:=rfl;rw[e,A52,b];simp[D8.cells];omega
theorem Yd:∀(b:List D8) (i:Nat) (h:i<b.length),(Ib b)[i*2]?=some (.int .i64 b[i].op)/\(Ib b)[i*2+1]?=some b[i].av
 | [],_,h=>by simp at h
 | m::r,0,_=>⟨rfl,rfl⟩
 | m::r,i+1,h=>by
  obtain⟨g,d⟩:=Yd r i yBi;have e:Ib (m::r)=.int .i64 m.op::m.av::Ib r:=rfl;have f:(i+1)*2=i*2+1+1:=omz
  rw[e,f];exact⟨by simpa using g,by simpa using d⟩
def EOk (w:World)(base:Nat)(m:D8):Prop:=w.ownsRow base 92 3 m.av m.ds.length (Be m.ds)
def Ud (w:World)(base:Nat)(v:Value)(es:List D8):Prop:=w.ownsRow base 40 2 v es.length (Ib es)/\(∀m∈es,EOk w base m)/\(v::Gg es).Pairwise Aside
theorem Ud.nil (w:World)(base:Nat):Ud w base (.slice none 0 0) []:=⟨World.ownsRow_nil _ _ _ _,(λm b=>by cases b),A7t _ _⟩
theorem Ud.below {w:World}{es:List D8}(h:Ud w base v es)(b:Below w.heap.size w w'):Ud w' base v es:=⟨ownsRow_below h.1 b,λm d=>ownsRow_below (h.2.1 m d) b,h.2.2⟩
theorem Ud.le {w:World}{es:List D8}(h:Ud w base v es)(hl:base'<=base):Ud w base' v es:=⟨Joins.ownsRow_le h.1 hl,λm b=>Joins.ownsRow_le (h.2.1 m b) hl,h.2.2⟩
theorem Ud.lt {w:World}{es:List D8}(h:Ud w base v es):∀x∈v::Gg es,∀k,x.ownBlock=some k->base<=k/\k<w.heap.size:=by
 intro x b k d;rcases List.mem_cons.1 b with rfl | b
 ·exact h.1.lt k d
 ·obtain⟨m,e,rfl⟩:=Oi.1 b
  exact(h.2.1 m e).lt k d
theorem Ud.add {w:World}{es ks:List D8}(h:Ud w base v es)(l:∀m∈ks,EOk w base m)(f:(v::(Gg es++Gg ks)).Pairwise Aside)
  (q:w'.ownsRow base 40 2 v' (es.length+ks.length) (Ib es++Ib ks)) (hg:w.grownBy w' v.ownBlock) (s:v'.ownBlock=v.ownBlock\/v'.ownBlock=some w.heap.size):Ud w' base v' (es++ks):=by
 rw[A6o] at f;have r:∀x∈Gg es++Gg ks,∀k,x.ownBlock=some k->k<w.heap.size:=by
  intro x d k g;rcases List.mem_append.1 d with d | d
  ·exact(h.lt x (A56 _ d) k g).2
  ·obtain⟨m,b,rfl⟩:=Oi.1 d
   exact((l m b).lt k g).2
 refine⟨by rw[A52,Aiu];exact q,λm b=>?_,?_⟩
 ·rcases List.mem_append.1 b with b | b
  ·exact(h.2.1 m b).kept hg (f.1 _ (A6d _ (Oi.2 ⟨m,b,rfl⟩))).symm
  ·exact(l m b).kept hg (f.1 _ (A6a _ (Oi.2 ⟨m,b,rfl⟩))).symm
 ·rw[Xj,A6o]
  refine⟨λy i=>?_,f.2⟩;rcases s with e | e
  ·rcases f.1 y i with h0 | h0
   ·exact .inl yCf
   ·exact .inr yCf
  ·refine .inr (λj=>?_)
   rw[e] at j;have:=r y i _ j.symm
   omega
structure Bj where
 net:Aq
 cv:Value
 coils:List D8
 kv:Value
 kids:List Bj
theorem X8 (P:Bj->Prop)(h:∀n b e d kids,(∀x∈kids,P x)->P ⟨n,b,e,d,kids⟩):∀n,P n
 | ⟨n,b,e,d,kids⟩=>h n b e d kids (λx _=>X8 P h x)
def Bj.arm:Bj->Stil.Arm
 | ⟨n,_,b,_,kids⟩=>⟨n.net,b.map D8.elem,kids.map Bj.arm⟩
theorem Bj.arm_eq (m:Bj):m.arm=⟨m.net.net,m.coils.map D8.elem,m.kids.map Bj.arm⟩:=by obtain⟨n,cv,b,kv,kids⟩:=m;rw[Bj.arm]
def Bj.vals:Bj->List Value
 | ⟨n,cv,b,kv,kids⟩=>n.vals++((cv::Gg b)++(kv::(kids.map Bj.vals).flatten))
def Hy (b:List Bj):List Value:=(b.map Bj.vals).flatten
theorem Bj.vals_eq (m:Bj):m.vals=m.net.vals++((m.cv::Gg m.coils)++(m.kv::Hy m.kids)):=by obtain⟨n,cv,b,kv,kids⟩:=m;rw[Bj.vals];rfl
theorem Xp (a b:List Bj):Hy (a++b)=Hy a++Hy b:=by simp[Hy]
theorem Qh (m:Bj):Hy [m]=m.vals:=by simp[Hy]
theorem Na {e:List Bj}:x∈Hy e↔∃m∈e,x∈m.vals:=by
 simp only[Hy,List.mem_flatten,A6m];constructor
 ·rintro⟨_,⟨m,d,rfl⟩,b⟩;exact⟨m,d,b⟩
 ·rintro⟨m,d,b⟩;exact⟨_,⟨m,d,rfl⟩,b⟩
def Bj.cells (m:Bj):List Value:=[.int .i64 m.net.kind, .int .i64 m.net.op,m.net.av,m.net.kv,m.cv,m.kv]
def Ip (b:List Bj):List Value:=b.flatMap Bj.cells
theorem Ajo (a b:List Bj):Ip (a++b)=Ip a++Ip b:=by simp[Ip]
theorem Ahs (b:List Bj):(Ip b).length=b.length*6:=by
 induction b with
 | nil=>rfl
 | cons m r d=>
  have e:Ip (m::r)=m.cells++Ip r:=rfl;rw[e,A52,d];simp[Bj.cells];omega
theorem Rl:∀(b:List Bj) (i:Nat) (h:i<b.length),(Ip b)[i*6]?=some (.int .i64 b[i].net.kind)/\(Ip b)[i*6+1]?=some (.int .i64 b[i].net.op)/\(Ip b)[i*6+2]?=some b[i].net.av/\(Ip b)[i*6+3]?=some b[i].net.kv/\(Ip b)[i*6+4]?=some b[i].cv/\(Ip b)[i*6+5]?=some b[i].kv
 | [],_,h=>by simp at h
 | m::r,0,_=>⟨rfl,rfl,rfl,rfl,rfl,rfl⟩
 | m::r,i+1,h=>by
  obtain⟨k,d,q,l,f,j⟩:=Rl r i yBi;have e:Ip (m::r)=.int .i64 m.net.kind::.int .i64 m.net.op::m.net.av::m.net.kv::m.cv::m.kv::Ip r:=rfl;have g:(i+1)*6=i*6+1+1+1+1+1+1:=omz
  rw[e,g];exact⟨by simpa using k,by simpa using d,by simpa using q,by simpa using l,by simpa using f,by simpa using j⟩
def AOk (w:World)(base:Nat):Bj->Prop
 | ⟨n,d,b,e,kids⟩=>MOk w base n/\(w.ownsRow base 40 2 d b.length (Ib b)/\∀m∈b,EOk w base m)/\w.ownsRow base 46 6 e kids.length (Ip kids)/\∀p∈kids.map (AOk w base),p
theorem Il (w:World)(base:Nat)(m:Bj):AOk w base m↔MOk w base m.net/\(w.ownsRow base 40 2 m.cv m.coils.length (Ib m.coils)/\∀x∈m.coils,EOk w base x)/\w.ownsRow base 46 6 m.kv m.kids.length (Ip m.kids)/\∀x∈m.kids,AOk w base x:=by
 obtain⟨n,b,e,d,kids⟩:=m;rw[AOk,Stil.all_map]
theorem AOk.map {w:World}(m:Bj)(h:AOk w base m)(d:∀(e:TypeId) (s n:Nat) (v:Value) (b:List Value),v∈m.vals->w.ownsRow base e s v n b->w'.ownsRow base' e s v n b):AOk w' base' m:=by
 revert h d
 refine X8 (λm=>AOk w base m->(∀(e:TypeId) (s n:Nat) (v:Value) (b:List Value),v∈m.vals->w.ownsRow base e s v n b->w'.ownsRow base' e s v n b)->AOk w' base' m) ?_ m;intro n z y u kids j h d;rw[Il] at h ⊢;simp only[Bj.vals_eq] at d;obtain⟨i,⟨t,r⟩,q,l⟩:=h;refine⟨MOk.map n i (λe s k v b g=>d e s k v b (A6d _ g)),⟨d _ _ _ _ _ spz t,λx f=>d _ _ _ _ _ ?_ (r x f)⟩,d _ _ _ _ _ spz q,λx f=>j x f (l x f) (λe s k v b g=>d e s k v b ?_)⟩
 ·exact A6a _ (A6d _ (A56 _ (Oi.2 ⟨x,f,rfl⟩)))
 ·exact A6a _ (A6a _ (A56 _ (Na.2 ⟨x,f,g⟩)))
theorem AOk.below {w:World}{m:Bj}(h:AOk w base m)(d:Below w.heap.size w w'):AOk w' base m:=AOk.map m h (λ_ _ _ _ _ _ b=>ownsRow_below b d)
theorem AOk.kept {w:World}{m:Bj}(h:AOk w base m)(hg:w.grownBy w' x.ownBlock)(e:∀u∈m.vals,Aside u x):AOk w' base m:=AOk.map m h (λ_ _ _ _ _ d b=>b.kept hg (e _ d))
theorem AOk.le {w:World}{m:Bj}(h:AOk w base m)(hl:base'<=base):AOk w base' m:=AOk.map m h (λ_ _ _ _ _ _ b=>Joins.ownsRow_le b hl)
theorem AOk.lt {w:World}(m:Bj)(h:AOk w base m):∀x∈m.vals,∀k,x.ownBlock=some k->base<=k/\k<w.heap.size:=by
 revert h
 refine X8 (λm=>AOk w base m->∀x∈m.vals,∀k,x.ownBlock=some k->base<=k/\k<w.heap.size) ?_ m;intro n t s r kids g h x b j d;rw[Il] at h;obtain⟨f,⟨q,p⟩,l,i⟩:=h;rw[Bj.vals_eq] at b;simp only[A6f,A6n] at b;rcases b with b | (rfl | b) | rfl | b
 ·exact f.lt _ x b j d
 ·exact q.lt j d
 ·obtain⟨y,e,rfl⟩:=Oi.1 b
  exact(p y e).lt j d
 ·exact l.lt j d
 ·obtain⟨y,e,b⟩:=Na.1 b
  exact g y e (i y e) x b j d
def J8 (w:World)(base:Nat)(m:Bj):Prop:=AOk w base m/\m.vals.Pairwise Aside
theorem J8.below {w:World}{m:Bj}(h:J8 w base m)(b:Below w.heap.size w w'):J8 w' base m:=⟨h.1.below b,h.2⟩
theorem J8.le {w:World}{m:Bj}(h:J8 w base m)(hl:base'<=base):J8 w base' m:=⟨h.1.le hl,h.2⟩
def Qw (w:World)(base:Nat)(v:Value)(b:List Bj):Prop:=w.ownsRow base 46 6 v b.length (Ip b)/\(∀m∈b,AOk w base m)/\(v::Hy b).Pairwise Aside
theorem Qw.nil (w:World)(base:Nat):Qw w base (.slice none 0 0) []:=⟨World.ownsRow_nil _ _ _ _,(λm b=>by cases b),A7t _ _⟩
theorem Qw.below {w:World}{b:List Bj}(h:Qw w base v b)(d:Below w.heap.size w w'):Qw w' base v b:=⟨ownsRow_below h.1 d,λm e=>(h.2.1 m e).below d,h.2.2⟩
theorem Qw.le {w:World}{b:List Bj}(h:Qw w base v b)(hl:base'<=base):Qw w base' v b:=⟨Joins.ownsRow_le h.1 hl,λm d=>(h.2.1 m d).le hl,h.2.2⟩
theorem Qw.lt {w:World}{d:List Bj}(h:Qw w base v d):∀x∈v::Hy d,∀k,x.ownBlock=some k->base<=k/\k<w.heap.size:=by
 intro x b k e;rcases List.mem_cons.1 b with rfl | b
 ·exact h.1.lt k e
 ·obtain⟨m,f,b⟩:=Na.1 b
  exact(h.2.1 m f).lt m x b k e
theorem Qw.add {w:World}{f ks:List Bj}(h:Qw w base v f)(q:∀m∈ks,AOk w base m)(g:(v::(Hy f++Hy ks)).Pairwise Aside)
  (r:w'.ownsRow base 46 6 v' (f.length+ks.length) (Ip f++Ip ks)) (hg:w.grownBy w' v.ownBlock) (t:v'.ownBlock=v.ownBlock\/v'.ownBlock=some w.heap.size):Qw w' base v' (f++ks):=by
 rw[A6o] at g;have s:∀x∈Hy f++Hy ks,∀k,x.ownBlock=some k->k<w.heap.size:=by
  intro x d k i;rcases List.mem_append.1 d with d | d
  ·exact(h.lt x (A56 _ d) k i).2
  ·obtain⟨m,b,d⟩:=Na.1 d
   exact((q m b).lt m x d k i).2
 refine⟨by rw[A52,Ajo];exact r,λm b=>?_,?_⟩
 ·rcases List.mem_append.1 b with b | b
  ·exact(h.2.1 m b).kept hg (λu hu=>(g.1 u (A6d _ (Na.2 ⟨m,b,hu⟩))).symm)
  ·exact(q m b).kept hg (λu hu=>(g.1 u (A6a _ (Na.2 ⟨m,b,hu⟩))).symm)
 ·rw[Xp,A6o]
  refine⟨λy j=>?_,g.2⟩;rcases t with e | e
  ·rcases g.1 y j with h0 | h0
   ·exact .inl yCf
   ·exact .inr yCf
  ·refine .inr (λl=>?_)
   rw[e] at l;have:=s y j _ l.symm
   omega
theorem Qw.apart {w w1:World}{i ks:List Bj}{b1:Nat}(h:Qw w base v i)(q:∀m∈ks,AOk w1 b1 m)(r:w.heap.size<=b1)(j:(Hy ks).Pairwise Aside):(v::(Hy i++Hy ks)).Pairwise Aside:=by
 have g:=h.lt;have d:∀y∈Hy ks,∀k,y.ownBlock=some k->w.heap.size<=k:=by
  intro y d k e;obtain⟨m,s,d⟩:=Na.1 d;exact A6e r ((q m s).lt m y d k e).1
 have f:=h.2.2;rw[A6o] at f ⊢;refine⟨λy b=>?_,List.pairwise_append.2 ⟨f.2,j,λx l y b=>Ij (λk e=>(g x (A56 _ l) k e).2) (d y b)⟩⟩;rcases List.mem_append.1 b with b | b
 ·exact f.1 y b
 ·exact Ij (λk e=>(g v spz k e).2) (d y b)
theorem Asl {w:World}{es:List D8}(h1:w.ownsRow base 40 2 v es.length (Ib es))(q:∀m∈es,EOk w base m):Qk base w v (es.map D8.elem):=by
 by_cases r:es.length=0
 ·obtain⟨a,cap,rfl⟩:=Aj h1
  exact⟨a,cap,spz,λi hi=>absurd hi yAd⟩
 ·obtain⟨g,cap,j,f,k,_,d⟩:=Bo h1 omz
  subst j;refine⟨_,cap,spz,λi hi=>⟨g,0,rfl,f,k,?_⟩⟩;have b:i<es.length:=by simpa using hi
  obtain⟨l,e⟩:=Yd es i b;rw[A7q,A6b];exact⟨d _ _ l,_,d _ _ e,I8.of_owns (q _ (A59 b))⟩
theorem AOk.from {w:World}(m:Bj)(h:AOk w base m):I8 base w m.net.av m.arm.net.one.args/\Tn base w m.net.kv m.arm.net.kids/\Qk base w m.cv m.arm.coils/\Aa7 base w m.kv m.arm.kids:=by
 revert h
 refine X8 (λm=>AOk w base m->I8 base w m.net.av m.arm.net.one.args/\Tn base w m.net.kv m.arm.net.kids/\Qk base w m.cv m.arm.coils/\Aa7 base w m.kv m.arm.kids) ?_ m;intro n Q O N kids D h;rw[Il] at h;rw[Bj.arm_eq];simp only at h ⊢;obtain⟨C,⟨M,L⟩,f,F⟩:=h;obtain⟨t,z⟩:=MOk.from n C;refine⟨t,z,Asl M L,?_⟩;by_cases P:kids.length=0
 ·obtain⟨a,cap,rfl⟩:=Aj f
  exact⟨a,cap,spz,λi hi=>absurd hi yAd⟩
 ·obtain⟨g,cap,u,s,y,_,b⟩:=Bo f omz
  subst u;refine⟨_,cap,spz,λi hi=>⟨g,0,rfl,s,y,?_⟩⟩;have d:i<kids.length:=by simpa using hi
  obtain⟨I,G,k,A,r,B⟩:=Rl kids i d;obtain⟨l,J,j,K⟩:=D _ (A59 d) (F _ (A59 d));rw[A7q,Ao4,Afh,A6b];have e:=Bj.arm_eq kids[i];have H:kids[i].arm.net.kind=kids[i].net.kind:=by rw[e];simp only;rw[Aq.net_eq]
  have q:kids[i].arm.net.one.op=kids[i].net.op:=by rw[e];simp only;rw[Aq.net_eq]
  rw[H,q];exact⟨⟨b _ _ I,b _ _ G,⟨_,b _ _ k,l⟩,⟨_,b _ _ A,J⟩⟩,⟨_,b _ _ r,j⟩,⟨_,b _ _ B,K⟩⟩
def Amg (w:World)(base:Nat)(a:Stil.Arm)(e:Ending):Prop:=∃(k op:Int) (f:List Stil.Dev) (i:Option Addr) (j:Nat) (ns:List Aq) (g:Option Addr) (p:Nat) (d:List D8) (l:Option Addr) (h:Nat) (b:List Bj) (m:Option Addr) (q:Nat),e=.returned (.agg #[.int .i64 k, .int .i64 op, .slice i f.length j, .slice g ns.length p, .slice l d.length h, .slice m b.length q])/\J8 w base ⟨⟨k,op,f, .slice i f.length j, .slice g ns.length p,ns⟩, .slice l d.length h,d, .slice m b.length q,b⟩/\(Bj.mk ⟨k,op,f, .slice i f.length j, .slice g ns.length p,ns⟩ (.slice l d.length h) d (.slice m b.length q) b).arm=a
theorem Aey {w:World}{ks:List D8}(d:∀m∈ks,EOk w base m):∀u∈Ib ks,u.oneCell'=true:=by
 intro u hu;obtain⟨m,e,hu⟩:=List.mem_flatMap.1 hu;obtain⟨f,g,b⟩:=Aj (d m e);simp only[D8.cells,A6n,A9e,A7u] at hu;rcases hu with rfl | rfl
 ·rfl
 ·rw[b];rfl
theorem Afg {w:World}{ks:List Bj}(e:∀m∈ks,AOk w base m):∀u∈Ip ks,u.oneCell'=true:=by
 intro u hu;obtain⟨m,g,hu⟩:=List.mem_flatMap.1 hu;obtain⟨i,⟨l,_⟩,k,_⟩:=(Il w base m).1 (e m g);have b:=(Jb w base m.net).1 i;obtain⟨z,A,j⟩:=Aj b.1;obtain⟨y,q,d⟩:=Aj b.2.1;obtain⟨p,s,h⟩:=Aj l;obtain⟨t,r,f⟩:=Aj k;simp only[Bj.cells,A6n,A9e,A7u] at hu;rcases hu with rfl | rfl | rfl | rfl | rfl | rfl
 ·rfl
 ·rfl
 ·rw[j];rfl
 ·rw[d];rfl
 ·rw[h];rfl
 ·rw[f];rfl
theorem zd0 {p:Prop}(h:p:=by
 rename_i t1
 have e:Sem.run prog (Builtin.append_ #[44,44] o.type #[.slice ra ms.length rc, .slice (some t1) 0 c]) w=.ok (.slice ra ms.length rc) w:=by cases ra<;>simp[Builtin.append_,go_sem,hcap]
 simp only[hop,resolve,invoke,builtin,Sem.run_bind,Sem.run_pure,Result.andThen_ok,A7c,A6k,A66,hs,hx,e];exact hk2):p:=h
theorem zi0 {p:Prop}(h:p:=by
 have e:Sem.run prog (Builtin.append_ #[44,44] o.type #[.slice ra ms.length rc, .slice none 0 c]) w=.ok (.slice ra ms.length rc) w:=by cases ra<;>simp[Builtin.append_,go_sem,hcap]
 simp only[hop,resolve,invoke,builtin,Sem.run_bind,Sem.run_pure,Result.andThen_ok,A7c,A6k,A66,hs,hx,e];exact hk2):p:=h
theorem Wu {w:World}{K:Act->World->Prop}{Q:Exit->Act->World->Prop}
  (hg:o.guard=none) (s x:Operand) (hop:o.op=.call {callee:=.builtin .append,args:=#[s,x],argTypes:=#[44,44]})
  (base lo:Nat) (ra:Option Addr) (rc:Nat) (ms ks:List D8) (ad:Option Addr) (c:Nat) (hs:a.eval s=.slice ra ms.length rc) (hx:a.eval x=.slice ad ks.length c)
  (hrow:Ud w base (.slice ra ms.length rc) ms) (P:0<ks.length->∃p,ad=some p/\∀j u,(Ib ks)[j]?=some u->w.cell? (p.add j)=some u)
  (r:∀m∈ks,EOk w base m) (J:(Value.slice ra ms.length rc::(Gg ms++Gg ks)).Pairwise Aside) (hl:ms.length+ks.length<=1000000) (B:base<=w.heap.size) (t:lo<=w.heap.size) (l:∀k,(Value.slice ra ms.length rc).ownBlock=some k->lo<=k)
  (q:∀f b w',Ud w' base (.slice f (ms.length+ks.length) b) (ms++ks)->Below lo w w'->(∀k,(Value.slice f (ms.length+ks.length) b).ownBlock=some k->lo<=k)->K (a.put o.dst (.slice f (ms.length+ks.length) b)) w'):
  if Region.wanted o (yielded ops a.tmps)=true then Oper.wp prog o a w K Q else E:=by
 obtain⟨H,hi,N,D,O⟩:=info_parts Akz;by_cases hd:ks.length=0
 ·have L:=List.length_eq_zero_iff.1 hd
  subst L;have C:Region.wanted o (yielded ops a.tmps)=true:=by simp[Region.wanted,hg]
  rw[if_pos C];have hcap:ms.length<=rc:=by
   rcases hrow.1.2 with⟨i,d⟩ | ⟨g,b,cur,i,_,_,I,_⟩
   ·rw[d];exact A7l _
   ·simp only[Value.slice.injEq] at i
    rw[i.2.2];exact I
  have hk2:=q ra rc w yDd (Below.refl _ _) (by simpa using l);simp only[A54,A75] at hk2 hx;unfold Oper.wp execOp;cases ad
  ·exact zi0
  ·exact zd0
 ·obtain⟨p,rfl,F⟩:=P omz
  refine Eb hg s x _ hop base 40 H _ 2 32 underlying44 hi N D O rfl dcz _ _ (Ib ms) hs hrow.1 _ _ _ (Ib ks) hx (Ahc ks) F (Aey r) yAe omz B ?_;intro v' w' d z y;obtain⟨G,A,M⟩:=Aj d;subst M;refine q G A w' (hrow.add r J d z y) ((Below.refl _ _).grown z t l) (λk hk2=>?_);rcases y with e | e
  ·exact l k (by rw[<-e];exact hk2)
  ·rw[e] at hk2
   cases hk2;exact t
theorem Abf {w:World}{Q:Exit->Act->World->Prop}
  (hg:o.guard=none) (s x:Operand) (A:o.op=.call {callee:=.builtin .append,args:=#[s,x],argTypes:=#[44,44]})
  (base lo:Nat) (f:Option Addr) (g:Nat) (b ks:List D8) (ad:Option Addr) (c:Nat) (t:a.eval s=.slice f b.length g) (hx:a.eval x=.slice ad ks.length c)
  (r:Ud w base (.slice f b.length g) b) (G:0<ks.length->∃p,ad=some p/\∀j u,(Ib ks)[j]?=some u->w.cell? (p.add j)=some u)
  (q:∀m∈ks,EOk w base m) (C:(Value.slice f b.length g::(Gg b++Gg ks)).Pairwise Aside) (hl:b.length+ks.length<=1000000) (l:base<=w.heap.size) (D:lo<=w.heap.size) (z:∀k,(Value.slice f b.length g).ownBlock=some k->lo<=k)
  (h:∀e d w',Ud w' base (.slice e (b.length+ks.length) d) (b++ks)->Below lo w w'->(∀k,(Value.slice e (b.length+ks.length) d).ownBlock=some k->lo<=k)->wpList prog ops Q rest (a.put o.dst (.slice e (b.length+ks.length) d)) w'):
  wpList prog ops Q (o::rest) a w:=by
 refine wpList_plain hg λK i=>?_
 have y:Region.wanted o (yielded #[] a.tmps)=true:=by simp[Region.wanted,hg]
 have:=Wu (ops:=#[]) (K:=K) (Q:=Q) (E:=True) hg s x A base lo f g b ks ad c t hx r G q C hl l D z (λe d w' B H F=>i _ _ (h e d w' B H F))
 rwa [if_pos y] at this
theorem ze0 {p:Prop}(h:p:=by
 rename_i t1
 have e:Sem.run prog (Builtin.append_ #[23,23] o.type #[.slice ra ms.length rc, .slice (some t1) 0 c]) w=.ok (.slice ra ms.length rc) w:=by cases ra<;>simp[Builtin.append_,go_sem,hcap]
 simp only[hop,resolve,invoke,builtin,Sem.run_bind,Sem.run_pure,Result.andThen_ok,A7c,A6k,A66,hs,hx,e];exact hk2):p:=h
theorem zj0 {p:Prop}(h:p:=by
 have e:Sem.run prog (Builtin.append_ #[23,23] o.type #[.slice ra ms.length rc, .slice none 0 c]) w=.ok (.slice ra ms.length rc) w:=by cases ra<;>simp[Builtin.append_,go_sem,hcap]
 simp only[hop,resolve,invoke,builtin,Sem.run_bind,Sem.run_pure,Result.andThen_ok,A7c,A6k,A66,hs,hx,e];exact hk2):p:=h
theorem Afr {w:World}{K:Act->World->Prop}{Q:Exit->Act->World->Prop}
  (hg:o.guard=none) (s x:Operand) (hop:o.op=.call {callee:=.builtin .append,args:=#[s,x],argTypes:=#[23,23]})
  (base lo:Nat) (ra:Option Addr) (rc:Nat) (ms ks:List Bj) (ad:Option Addr) (c:Nat) (hs:a.eval s=.slice ra ms.length rc) (hx:a.eval x=.slice ad ks.length c)
  (hrow:Qw w base (.slice ra ms.length rc) ms) (P:0<ks.length->∃p,ad=some p/\∀j u,(Ip ks)[j]?=some u->w.cell? (p.add j)=some u)
  (r:∀m∈ks,AOk w base m) (J:(Value.slice ra ms.length rc::(Hy ms++Hy ks)).Pairwise Aside) (hl:ms.length+ks.length<=1000000) (B:base<=w.heap.size) (t:lo<=w.heap.size) (l:∀k,(Value.slice ra ms.length rc).ownBlock=some k->lo<=k)
  (q:∀f b w',Qw w' base (.slice f (ms.length+ks.length) b) (ms++ks)->Below lo w w'->(∀k,(Value.slice f (ms.length+ks.length) b).ownBlock=some k->lo<=k)->K (a.put o.dst (.slice f (ms.length+ks.length) b)) w'):
  if Region.wanted o (yielded ops a.tmps)=true then Oper.wp prog o a w K Q else E:=by
 obtain⟨H,hi,N,D,O⟩:=info_parts Aps;by_cases hd:ks.length=0
 ·have L:=List.length_eq_zero_iff.1 hd
  subst L;have C:Region.wanted o (yielded ops a.tmps)=true:=by simp[Region.wanted,hg]
  rw[if_pos C];have hcap:ms.length<=rc:=by
   rcases hrow.1.2 with⟨i,d⟩ | ⟨g,b,cur,i,_,_,I,_⟩
   ·rw[d];exact A7l _
   ·simp only[Value.slice.injEq] at i
    rw[i.2.2];exact I
  have hk2:=q ra rc w yDd (Below.refl _ _) (by simpa using l);simp only[A54,A75] at hk2 hx;unfold Oper.wp execOp;cases ad
  ·exact zj0
  ·exact ze0
 ·obtain⟨p,rfl,F⟩:=P omz
  refine Eb hg s x _ hop base 46 H _ 6 112 underlying23 hi N D O rfl dcz _ _ (Ip ms) hs hrow.1 _ _ _ (Ip ks) hx (Ahs ks) F (Afg r) yAe omz B ?_;intro v' w' d z y;obtain⟨G,A,M⟩:=Aj d;subst M;refine q G A w' (hrow.add r J d z y) ((Below.refl _ _).grown z t l) (λk hk2=>?_);rcases y with e | e
  ·exact l k (by rw[<-e];exact hk2)
  ·rw[e] at hk2
   cases hk2;exact t
theorem Vx {w:World}{Q:Exit->Act->World->Prop}
  (hg:o.guard=none) (s x:Operand) (A:o.op=.call {callee:=.builtin .append,args:=#[s,x],argTypes:=#[23,23]})
  (base lo:Nat) (f:Option Addr) (g:Nat) (b ks:List Bj) (ad:Option Addr) (c:Nat) (t:a.eval s=.slice f b.length g) (hx:a.eval x=.slice ad ks.length c)
  (r:Qw w base (.slice f b.length g) b) (G:0<ks.length->∃p,ad=some p/\∀j u,(Ip ks)[j]?=some u->w.cell? (p.add j)=some u)
  (q:∀m∈ks,AOk w base m) (C:(Value.slice f b.length g::(Hy b++Hy ks)).Pairwise Aside) (hl:b.length+ks.length<=1000000) (l:base<=w.heap.size) (D:lo<=w.heap.size) (z:∀k,(Value.slice f b.length g).ownBlock=some k->lo<=k)
  (h:∀e d w',Qw w' base (.slice e (b.length+ks.length) d) (b++ks)->Below lo w w'->(∀k,(Value.slice e (b.length+ks.length) d).ownBlock=some k->lo<=k)->wpList prog ops Q rest (a.put o.dst (.slice e (b.length+ks.length) d)) w'):
  wpList prog ops Q (o::rest) a w:=by
 refine wpList_plain hg λK i=>?_
 have y:Region.wanted o (yielded #[] a.tmps)=true:=by simp[Region.wanted,hg]
 have:=Afr (ops:=#[]) (K:=K) (Q:=Q) (E:=True) hg s x A base lo f g b ks ad c t hx r G q C hl l D z (λe d w' B H F=>i _ _ (h e d w' B H F))
 rwa [if_pos y] at this
end Go.Proofs.YtnpfcnolmkanfaaGreatDoor
set_option maxHeartbeats 4000000
set_option maxRecDepth 100000
namespace Go.Proofs.YtnpfcnolmkanfaaGreatDoor
open Tryz
open Stil
open Go.RowKit Go.Sort Go.BigFrame
variable {a:Option Addr}{base c n o:Nat}{v:Value}{w':World}
def Ux (w:World)(v:Value)(b:List Stil.Dev):Prop:=Ce (λ_=>True) w v b
def Nq (w:World)(v:Value)(ns:List Stil.Net):Prop:=Dv (λ_=>True) w v ns
def Xq (w:World)(v:Value)(es:List Stil.Elem):Prop:=Dk (λ_=>True) w v es
def Vs (w:World)(v:Value)(l:List Stil.Arm):Prop:=Es (λ_=>True) w v l
def A2a (w:World)(b o:Nat)(n:Stil.Net):Prop:=Qu (λ_=>True) w b o n
def A38 (w:World)(b o:Nat)(n:Stil.Arm):Prop:=Vt (λ_=>True) w b o n
theorem Ux.below {w:World}{b:List Stil.Dev}(h:Ux w v b)(d:Below w.heap.size w w'):Ux w' v b:=Ce.keep h (Ac.of_below d)
theorem Nq.below {w:World}{b:List Stil.Net}(h:Nq w v b)(d:Below w.heap.size w w'):Nq w' v b:=Dv.keep h (Ac.of_below d)
theorem Xq.below {w:World}{b:List Stil.Elem}(h:Xq w v b)(d:Below w.heap.size w w'):Xq w' v b:=Dk.keep h (Ac.of_below d)
theorem Vs.below {w:World}{b:List Stil.Arm}(h:Vs w v b)(d:Below w.heap.size w w'):Vs w' v b:=Es.keep h (Ac.of_below d)
theorem A2a.below {w:World}(d:Below w.heap.size w w')(n:Stil.Net)(b o:Nat)(h:A2a w b o n)(hl:b<w.heap.size):A2a w' b o n:=Qu.keep (Ac.of_below d) n b o h trivial hl
theorem A38.below {w:World}(d:Below w.heap.size w w')(n:Stil.Arm)(b o:Nat)(h:A38 w b o n)(hl:b<w.heap.size):A38 w' b o n:=Vt.keep (Ac.of_below d) n b o h trivial hl
theorem Ux.at {w:World}{b:List Stil.Dev}(h:Ux w v b):Dh w v b:=Ce.at h
theorem Nq.at {w:World}{b:List Stil.Net}(h:Nq w v b):E8 w v b:=Dv.at h
theorem Ux.shape {w:World}{b:List Stil.Dev}(h:Ux w v b):∃a cap,v=.slice a b.length cap/\b.length<=cap:=by
 obtain⟨a,cap,d,e,_⟩:=h;exact⟨a,cap,d,e.1⟩
theorem Xq.shape {w:World}{b:List Stil.Elem}(h:Xq w v b):∃a cap,v=.slice a b.length cap/\b.length<=cap:=by
 obtain⟨a,cap,d,e,_⟩:=h;exact⟨a,cap,d,e.1⟩
theorem Nq.shape {w:World}{ns:List Stil.Net}(h:Nq w v ns):∃a cap,v=.slice a ns.length cap/\Yo a ns.length cap/\∀i (h:i<ns.length),∃b o,a=some ⟨b,o,none⟩/\b<w.heap.size/\A2a w b (o+i*4) ns[i]:=by
 obtain⟨a,cap,d,f,j⟩:=h;exact⟨a,cap,d,f,λi hi=>by obtain⟨b,o,e,_,g,k⟩:=j i hi;exact⟨b,o,e,g,k⟩⟩
theorem Vs.shape {w:World}{ns:List Stil.Arm}(h:Vs w v ns):∃a cap,v=.slice a ns.length cap/\Yo a ns.length cap/\∀i (h:i<ns.length),∃b o,a=some ⟨b,o,none⟩/\b<w.heap.size/\A38 w b (o+i*6) ns[i]:=by
 obtain⟨a,cap,d,f,j⟩:=h;exact⟨a,cap,d,f,λi hi=>by obtain⟨b,o,e,_,g,k⟩:=j i hi;exact⟨b,o,e,g,k⟩⟩
theorem A2a.open {w:World}{b:Nat}{n:Stil.Net}(h:A2a w b o n):w.cell? ⟨b,o,none⟩=some (.int .i64 n.kind)/\w.cell? ⟨b,o+1,none⟩=some (.int .i64 n.one.op)/\
   ∃e d,w.cell? ⟨b,o+2,none⟩=some e/\w.cell? ⟨b,o+3,none⟩=some d/\Ux w e n.one.args/\Nq w d n.kids:=by
 obtain⟨f,l,⟨e,k,g⟩,⟨d,i,j⟩⟩:=(Qj _ _ _ _ _).1 h;exact⟨f,l,e,d,k,i,g,j⟩
theorem A38.open {w:World}{b:Nat}{n:Stil.Arm}(h:A38 w b o n):A2a w b o n.net/\∃d e,w.cell? ⟨b,o+4,none⟩=some d/\w.cell? ⟨b,o+5,none⟩=some e/\Xq w d n.coils/\Vs w e n.kids:=by
 obtain⟨f,⟨d,k,g⟩,⟨e,i,j⟩⟩:=(Aa8 _ _ _ _ _).1 h;exact⟨f,d,e,k,i,g,j⟩
theorem Ac5 {w:World}{s:Nat}{e:TypeId}{xs:List Value}(h:w.ownsRow base e s (.slice a n c) n xs):Yo a n c:=by
 rcases h.2 with⟨b,f⟩ | ⟨g,i,cur,b,_,_,d,_⟩
 ·simp only[Value.slice.injEq] at b
  obtain⟨rfl,j,rfl⟩:=b;exact⟨omz,λ_=>rfl⟩
 ·simp only[Value.slice.injEq] at b
  obtain⟨rfl,_,rfl⟩:=b;exact⟨d,λh=>by cases h⟩
theorem A1y {w:World}{f:Value}{d:List Stil.Dev}(h:w.ownsRow base 92 3 f d.length (Be d)):Ux w f d:=by
 obtain⟨a,cap,rfl⟩:=Aj h;obtain⟨p,m,e,g⟩:=(I8.of_owns h).at;simp only[Value.slice.injEq,true_and] at e;obtain⟨rfl,rfl⟩:=e;refine⟨a,cap,rfl,Ac5 h,λi hi=>?_⟩;obtain⟨b,o,j,k,l⟩:=g i hi;exact⟨b,o,j,trivial,k,l⟩
theorem MOk.T {w:World}(m:Aq)(h:MOk w base m):Ux w m.av m.net.one.args/\Nq w m.kv m.net.kids:=by
 revert h
 refine X7 (λm=>MOk w base m->Ux w m.av m.net.one.args/\Nq w m.kv m.net.kids) ?_ m;intro k op G H C kids u h;rw[Jb] at h;rw[Aq.net_eq];refine⟨A1y h.1,?_⟩;simp only at h ⊢;have B:=h.2.1;obtain⟨a,cap,rfl⟩:=Aj h.2.1;refine⟨a,cap,spz,by rw[A6i];exact Ac5 B,λi hi=>?_⟩;have d:i<kids.length:=by simpa using hi
 obtain⟨g,D,f,F,r,_,b⟩:=Bo h.2.1 omz;simp only[Value.slice.injEq,true_and] at f;obtain⟨rfl,rfl⟩:=f;refine⟨g,0,rfl,trivial,r,?_⟩;obtain⟨A,y,j,t⟩:=Nv kids i d;obtain⟨q,s⟩:=u _ (A59 d) (h.2.2 _ (A59 d));rw[A7q,Qj,A6b];have e:=Aq.net_eq kids[i];have z:kids[i].net.kind=kids[i].kind:=by rw[e]
 have l:kids[i].net.one.op=kids[i].op:=by rw[e]
 rw[z,l];exact⟨b _ _ A,b _ _ y,⟨_,b _ _ j,q⟩,⟨_,b _ _ t,s⟩⟩
theorem A3b {w:World}{es:List D8}(h1:w.ownsRow base 40 2 v es.length (Ib es))(l:∀m∈es,EOk w base m):Xq w v (es.map D8.elem):=by
 obtain⟨a,cap,rfl⟩:=Aj h1;refine⟨a,cap,spz,by rw[A6i];exact Ac5 h1,λi hi=>?_⟩;have d:i<es.length:=by simpa using hi
 obtain⟨g,q,b,r,j,_,e⟩:=Bo h1 omz;simp only[Value.slice.injEq,true_and] at b;obtain⟨rfl,rfl⟩:=b;refine⟨g,0,rfl,trivial,j,?_⟩;obtain⟨k,f⟩:=Yd es i d;rw[A7q,A6b];exact⟨e _ _ k,_,e _ _ f,A1y (l _ (A59 d))⟩
theorem AOk.T {w:World}(m:Bj)(h:AOk w base m):Ux w m.net.av m.arm.net.one.args/\Nq w m.net.kv m.arm.net.kids/\Xq w m.cv m.arm.coils/\Vs w m.kv m.arm.kids:=by
 revert h
 refine X8 (λm=>AOk w base m->Ux w m.net.av m.arm.net.one.args/\Nq w m.net.kv m.arm.net.kids/\Xq w m.cv m.arm.coils/\Vs w m.kv m.arm.kids) ?_ m;intro n R Q N kids C h;rw[Il] at h;rw[Bj.arm_eq];simp only at h ⊢;obtain⟨B,⟨M,L⟩,f,D⟩:=h;obtain⟨t,y⟩:=MOk.T n B;refine⟨t,y,A3b M L,?_⟩;have J:=f;obtain⟨a,cap,rfl⟩:=Aj f;refine⟨a,cap,spz,by rw[A6i];exact Ac5 J,λi hi=>?_⟩;have d:i<kids.length:=by simpa using hi
 obtain⟨g,O,j,P,u,_,b⟩:=Bo f omz;simp only[Value.slice.injEq,true_and] at j;obtain⟨rfl,rfl⟩:=j;refine⟨g,0,rfl,trivial,u,?_⟩;obtain⟨H,F,l,z,s,A⟩:=Rl kids i d;obtain⟨q,I,k,K⟩:=C _ (A59 d) (D _ (A59 d));rw[A7q,Aa8,Qj,A6b];have e:=Bj.arm_eq kids[i];have G:kids[i].arm.net.kind=kids[i].net.kind:=by rw[e];simp only;rw[Aq.net_eq]
 have r:kids[i].arm.net.one.op=kids[i].net.op:=by rw[e];simp only;rw[Aq.net_eq]
 rw[G,r];exact⟨⟨b _ _ H,b _ _ F,⟨_,b _ _ l,q⟩,⟨_,b _ _ z,I⟩⟩,⟨_,b _ _ s,k⟩,⟨_,b _ _ A,K⟩⟩
theorem Vs.take {w:World}{l:List Stil.Arm}(h:Vs w (.slice a l.length c) l)(g:n<=l.length):Vs w (.slice a n c) (l.take n):=by
 obtain⟨s,t,e,f,j⟩:=h;simp only[Value.slice.injEq,true_and] at e;obtain⟨rfl,rfl⟩:=e;have d:(l.take n).length=n:=by rw[A74,Nat.min_eq_left g]
 refine⟨a,c,by rw[d],⟨by rw[d];exact A6e g f.1,f.2⟩,λi hi=>?_⟩;rw[d] at hi;obtain⟨b,o,k,r,q,m⟩:=j i omz;exact⟨b,o,k,r,q,by rw[List.getElem_take];exact m⟩
def Agd (F:Nat)(x:Stil.Arm)(f:Nat):Prop:=∀(h b d g:Value) (w:World),Ux w h x.net.one.args->Nq w b x.net.kids->Xq w d x.coils->Vs w g x.kids->Calls prog F #[.agg #[.int .i64 x.net.kind, .int .i64 x.net.one.op,h,b,d,g]] w λe w'=>e=.returned (.int .i64 f)/\Below w.heap.size w w'
def Atx (F:Nat)(x:Stil.Net)(f:Nat):Prop:=∀(d b:Value) (w:World),Ux w d x.one.args->Nq w b x.kids->Calls prog F #[.agg #[.int .i64 x.kind, .int .i64 x.one.op,d,b]] w λe w'=>e=.returned (.int .i64 f)/\Below w.heap.size w w'
theorem A0f (x:Stil.Arm)(f F B m:Nat)(i d g b:Value)(w:World)(G:∀args w,(callFunc F args).run prog w=.ok (.enter F args) w)(p:Agd F x f)
  (k:Ux w i x.net.one.args) (q:Nq w d x.net.kids) (j:Xq w g x.coils) (l:Vs w b x.kids) (A:w.cell? ⟨B,0,none⟩=some (.func (.func F) #[] #[])) (J:B<w.heap.size):
  Calls prog 51 #[.int .i64 m, .agg #[.int .i64 x.net.kind, .int .i64 x.net.one.op,i,d,g,b], .pointer (some ⟨B,0,none⟩)] w λe w'=>e=.returned (.int .i64 (max m f:Nat))/\Below w.heap.size w w':=by
 have r:=hid (λW h=>p i d g b W (k.below h) (q.below h) (j.below h) (l.below h));obtain⟨s,I,rfl,_⟩:=k.shape;obtain⟨K,u,rfl,_,_⟩:=q.shape;obtain⟨y,C,rfl,_⟩:=j.shape;obtain⟨z,t,rfl,_,_⟩:=l.shape;clear p;go_enter func51,ntmps51
 go_wp2_with (refine(r _ blA).mono ?_;rintro e H ⟨rfl,D⟩)
 all_goals go_ret
 all_goals refine⟨Gz ?_,blA⟩
 all_goals (congr 1;omega)
theorem zq0 {p:Prop}(h:p:=by
 obtain rfl:j=es.length:=by omega
 have hmn:=HM.out;rw[A6x (by rw[A6i];exact A57 _)] at hmn;have rJ:=hid hmn;clear hmn
 go_wp2
 go_ret;exact⟨Gz (by rw[rJ.out]),hb⟩):p:=h
theorem A0i (es:List Stil.Arm)(f:Stil.Arm->Nat)(F:Nat)(S:∀args w,(callFunc F args).run prog w=.ok (.enter F args) w)(G:∀x∈es,Agd F x (f x))
  (B g:Nat) (v:Value) (w:World) (D:Vs w v es) (hl:es.length<=999999) (H:w.cell? ⟨B,0,none⟩=some (.func (.func F) #[] #[])) (L:B<w.heap.size):
  Calls prog 50 #[v, .int .i64 g, .func (.func 51) #[] #[.pointer (some ⟨B,0,none⟩)]] w λe w'=>e=.returned (.int .i64 (Ff g (es.map f)))/\Below w.heap.size w w':=by
 obtain⟨a,cap,rfl,ac,P⟩:=D.shape;have U:=hid P;have IH:=hid G;have Z:=hid H;have V:=hid S;clear P G H S ac D;go_enter func50,ntmps50
 go_wp2
 go_loopw [1,11] (λd i wr=>∃(j m:Nat),j<=es.length/\i=.int .i64 j/\d=.int .i64 m/\m=Ff g ((es.map f).take j)/\Below w.heap.size w wr) (λ_ i _=>es.length - (intOf i).toNat)
 case atStart=>exact⟨0,g,omz,rfl,rfl,rfl,Below.refl _ _⟩
 case round=>
  obtain⟨j,m,hj,rfl,rfl,M,hb⟩:=hrel;have HM:=hid M;clear M;by_cases t:j<es.length
  ·obtain⟨b,o,rfl,y,Q⟩:=U j t
   obtain⟨R,J,O,x4,x5,s,u⟩:=(A38.below hb _ _ _ Q y).open;obtain⟨x0,x1,T,I,x2,x3,l,z⟩:=R.open;have q:Hid (Ff g ((es.map f).take (j+1))=max (Ff g ((es.map f).take j)) (f es[j])):=by
    show _=_
    rw[Aed (by rw[A6i];exact t),A7q]
   have r:Hid (∀W,Below wr.heap.size wr W->Calls prog 51 #[.int .i64 m, .agg #[.int .i64 es[j].net.kind, .int .i64 es[j].net.one.op,T,I,J,O], .pointer (some ⟨B,0,none⟩)] W λe w'=>e=.returned (.int .i64 (max m (f es[j]):Nat))/\Below W.heap.size W w'):=by
    intro W k;have K:=hb.trans (k.mono hb.size);exact A0f es[j] (f es[j]) F B m T I J O W V (IH es[j] (A59 t)) (l.below k) (z.below k) (s.below k) (u.below k) ((K.cell (p:=⟨B,0,none⟩) L).trans Z.out) (A51 L K.size)
   obtain⟨x,N⟩:∃x,x=es[j]:=⟨_,rfl⟩
   rw[<-N] at r x0 x1 l z s u q;obtain⟨p0,r0,rfl,mX⟩:=l.shape;obtain⟨p1,r1,rfl,Y,_⟩:=z.shape;obtain⟨p2,r2,rfl,dK⟩:=s.shape;obtain⟨p3,r3,rfl,X,_⟩:=u.shape;obtain⟨A,C⟩:∃A,A=f x:=⟨_,rfl⟩
   rw[<-C] at r q;have ae:=A51 y hb.size;clear mX Y dK X R N Q y C
   go_wp2_with (go_at_call 51;refine(r _ blA).mono ?_;rintro e w2 ⟨rfl,aa⟩;have ab:=(show Below w.heap.size w _ from hb.trans ((show Below wr.heap.size wr _ from blA).mono hb.size)).trans (aa.mono (by have:=hb.size;simp;omega)))
   refine⟨⟨j+1,max m A,omz,by go_num,rfl,?_,ab⟩,by simp[intOf];omega⟩;rw[q.out,<-HM.out]
  ·exact zq0
theorem Aij (es:List Stil.Arm)(f:Stil.Arm->Nat)(F:Nat)(i:∀args w,(callFunc F args).run prog w=.ok (.enter F args) w)(d:∀x∈es,Agd F x (f x))
  (b:Nat) (v:Value) (w:World) (g:Vs w v es) (hl:es.length<=999999):
  Calls prog 30 #[v, .int .i64 b, .func (.func F) #[] #[]] w λe w'=>e=.returned (.int .i64 (Ff b (es.map f)))/\Below w.heap.size w w':=by
 have l:=hid (λW B h k m=>A0i es f F i d B b v W (g.below h) hl k m);obtain⟨q,t,rfl,j,_⟩:=g.shape;clear j d i;go_enter func30,ntmps30
 go_wp2_with (go_at_call 50;refine(l _ _ blA (by simp[go_sem]) spz).mono ?_;rintro e s ⟨rfl,r⟩)
 go_ret;exact⟨rfl,blA⟩
theorem A0e (x:Stil.Net)(f F B m:Nat)(d b:Value)(w:World)(s:∀args w,(callFunc F args).run prog w=.ok (.enter F args) w)(i:Atx F x f)
  (g:Ux w d x.one.args) (j:Nq w b x.kids) (p:w.cell? ⟨B,0,none⟩=some (.func (.func F) #[] #[])) (y:B<w.heap.size):
  Calls prog 109 #[.int .i64 m, .agg #[.int .i64 x.kind, .int .i64 x.one.op,d,b], .pointer (some ⟨B,0,none⟩)] w λe w'=>e=.returned (.int .i64 (max m f:Nat))/\Below w.heap.size w w':=by
 have k:=hid (λW h=>i d b W (g.below h) (j.below h));obtain⟨l,u,rfl,_⟩:=g.shape;obtain⟨z,r,rfl,_,_⟩:=j.shape;clear i;go_enter func109,ntmps109
 go_wp2_with (refine(k _ blA).mono ?_;rintro e t ⟨rfl,q⟩)
 all_goals go_ret
 all_goals refine⟨Gz ?_,blA⟩
 all_goals (congr 1;omega)
theorem A0h (es:List Stil.Net)(f:Stil.Net->Nat)(F:Nat)(L:∀args w,(callFunc F args).run prog w=.ok (.enter F args) w)(D:∀x∈es,Atx F x (f x))
  (B g:Nat) (v:Value) (w:World) (C:Nq w v es) (hl:es.length<=999999) (G:w.cell? ⟨B,0,none⟩=some (.func (.func F) #[] #[])) (N:B<w.heap.size):
  Calls prog 108 #[v, .int .i64 g, .func (.func 109) #[] #[.pointer (some ⟨B,0,none⟩)]] w λe w'=>e=.returned (.int .i64 (Ff g (es.map f)))/\Below w.heap.size w w':=by
 obtain⟨a,cap,rfl,Y,H⟩:=C.shape;have P:=hid H;have V:=hid D;have T:=hid G;have Q:=hid L;clear H D G L Y C;go_enter func108,ntmps108
 go_wp2
 go_loopw [1,11] (λd i wr=>∃(j m:Nat),j<=es.length/\i=.int .i64 j/\d=.int .i64 m/\m=Ff g ((es.map f).take j)/\Below w.heap.size w wr) (λ_ i _=>es.length - (intOf i).toNat)
 case atStart=>exact⟨0,g,omz,rfl,rfl,rfl,Below.refl _ _⟩
 case round=>
  obtain⟨j,m,hj,rfl,rfl,O,hb⟩:=hrel;have HM:=hid O;clear O;by_cases l:j<es.length
  ·obtain⟨b,o,rfl,s,I⟩:=P j l
   obtain⟨U,Z,M,J,x2,x3,k,t⟩:=(A2a.below hb _ _ _ I s).open;have q:Hid (Ff g ((es.map f).take (j+1))=max (Ff g ((es.map f).take j)) (f es[j])):=by
    show _=_
    rw[Aed (by rw[A6i];exact l),A7q]
   have u:Hid (∀W,Below wr.heap.size wr W->Calls prog 109 #[.int .i64 m, .agg #[.int .i64 es[j].kind, .int .i64 es[j].one.op,M,J], .pointer (some ⟨B,0,none⟩)] W λe w'=>e=.returned (.int .i64 (max m (f es[j]):Nat))/\Below W.heap.size W w'):=by
    intro W r;have K:=hb.trans (r.mono hb.size);exact A0e es[j] (f es[j]) F B m M J W Q (V es[j] (A59 l)) (k.below r) (t.below r) ((K.cell (p:=⟨B,0,none⟩) N).trans T.out) (A51 N K.size)
   obtain⟨x,z⟩:∃x,x=es[j]:=⟨_,rfl⟩
   rw[<-z] at u U Z k t q;obtain⟨p0,r0,rfl,R⟩:=k.shape;obtain⟨p1,r1,rfl,S,_⟩:=t.shape;obtain⟨y,A⟩:∃y,y=f x:=⟨_,rfl⟩
   rw[<-A] at u q;have ab:=A51 s hb.size;clear R S z I s A
   go_wp2_with (go_at_call 109;refine(u _ blA).mono ?_;rintro e w2 ⟨rfl,X⟩;have aa:=(show Below w.heap.size w _ from hb.trans ((show Below wr.heap.size wr _ from blA).mono hb.size)).trans (X.mono (by have:=hb.size;simp;omega)))
   refine⟨⟨j+1,max m y,omz,by go_num,rfl,?_,aa⟩,by simp[intOf];omega⟩;rw[q.out,<-HM.out]
  ·exact zq0
theorem Axb (es:List Stil.Net)(f:Stil.Net->Nat)(F:Nat)(i:∀args w,(callFunc F args).run prog w=.ok (.enter F args) w)(d:∀x∈es,Atx F x (f x))
  (b:Nat) (v:Value) (w:World) (g:Nq w v es) (hl:es.length<=999999):
  Calls prog 85 #[v, .int .i64 b, .func (.func F) #[] #[]] w λe w'=>e=.returned (.int .i64 (Ff b (es.map f)))/\Below w.heap.size w w':=by
 have l:=hid (λW B h k m=>A0h es f F i d B b v W (g.below h) hl k m);obtain⟨q,t,rfl,j,_⟩:=g.shape;clear j d i;go_enter func85,ntmps85
 go_wp2_with (go_at_call 108;refine(l _ _ blA (by simp[go_sem]) spz).mono ?_;rintro e s ⟨rfl,r⟩)
 go_ret;exact⟨rfl,blA⟩
end Go.Proofs.YtnpfcnolmkanfaaGreatDoor
