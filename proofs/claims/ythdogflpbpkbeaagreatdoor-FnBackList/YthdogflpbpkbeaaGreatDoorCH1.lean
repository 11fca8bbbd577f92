import Derived.Test.YthdogflpbpkbeaaGreatDoorCE3b
import Derived.Conc.AppendWalk
import Derived.Maps.AppendAt
set_option linter.defProp false
namespace Go.Co
open Go.Conc
section
variable {a:Act}{fuel i j:Nat}{l:Array Bool}{o oi:Oper}{v:AW}
variable {τ:Type}{P:AY}{main:Bool}{Low:Nat}{pre:τ -> AU -> Prop}{ok:τ -> (Nat -> Prop) -> AU -> AX -> Prop}{fn:FuncId}{Q:Xo τ}{x:τ}{O:Nat -> Prop}
variable {ops:Array Oper}{md:Region.Mode}{S:AU -> Prop}{last:Nat}
def OpK(P:AY)(Low:Nat)(pre:τ->World->Prop)(fn:FuncId)(ops:Array Oper)(x:τ)(O:Φ)(i:Nat)(K:Act->World->Prop)(a:Act)(w:AU):Prop:=
 match ops[i]? with
 |none=>False
 |some o=>if Region.wanted o (yielded ops a.tmps) then ∀b,Keep Low O w b->pre x b->uponK o a (λd c=>(GI Low O b c (listed P fn a o b)/\grown O b c=O)/\K d c) ((execOp a.eval o).run P b) else K (a.put o.dst AQ) w
theorem fW{w:AU}{K d:Act->World->Prop}(h:∀a w,K a w->d a w)(b:OpK P Low pre fn ops x O i K a w):OpK P Low pre fn ops x O i d a w:=by
 unfold OpK at*;split
 .simp_all
 rename_i o f;simp only[f]at b;split
 .rename_i c;simp only[c,if_true]at b;exact λe g k=>uponK_mono (λm n z=>⟨z.1,h _ _ z.2⟩) (b e g k)
 rename_i c;simp only[c]at b;exact h _ _ b
theorem wN(T:OkL P main Low pre ok){rest:Γ}{w:AU}(h:OpK P Low pre fn ops x O i (λc e=>Vf ok fn ops rest Q c x O e) a w):Vf ok fn ops (i::rest) Q a x O w:=by
 unfold OpK at h;split at h
 .exact h.elim
 rename_i o d;split at h
 .rename_i b;refine Yg T d b λf m k K g=>uponK_mono (λc e z=>?_) (h f m k);exact g _ _ ⟨z.1.1,by rw[z.1.2];exact z.2⟩
 rename_i b;exact Xc T d (by simpa using b) h
def Rx(P:AY)(Low:Nat)(fn:FuncId)(ops:Array Oper)(S:AU->Prop)(O:Φ)(o:Oper)(v:AW)(a:Act):Prop:=
 (Region.wanted o (yielded ops a.tmps)=true/\∀w,S w->(execOp a.eval o).run P w=.ok (.value v) w/\GI Low O w w (listed P fn a o w))\/(Region.wanted o (yielded ops a.tmps)=false/\v=AQ)
theorem Rx.of_same{b:Act}(c:Rx P Low fn ops S O o v a)(e:execOp b.eval o=execOp a.eval o)(d:Region.wanted o (yielded ops b.tmps)=Region.wanted o (yielded ops a.tmps)):Rx P Low fn ops S O o v b:=by unfold Rx listed at*;rwa[e,d]
variable (P Low pre ok fn ops md S last Q x O)
def Ge:Nat->Array Bool->Act->World->Prop
 |0,listed,a,w=>Region.ready md ops listed=[last]/\Vf ok fn ops [last] Q a x O w
 |fuel+1,listed,a,w=>last∉Region.ready md ops listed/\Region.ready md ops listed≠[]/\∀i∈Region.ready md ops listed,OpK P Low pre fn ops x O i (λc b=>S b/\Ge fuel (listed.setIfInBounds i true) c b) a w
variable {P Low pre ok fn ops md S last Q x O}
theorem Ge.rely(T:OkL P main Low pre ok)(d:∀u v,S u->Keep Low O u v->S v):
  ∀(fuel:Nat)(listed:Array Bool)(a:Act)(w b:AU),Ge P Low pre ok fn Q x O ops md S last fuel listed a w->Keep Low O w b->Ge P Low pre ok fn Q x O ops md S last fuel listed a b
 |0,_,_,_,_,h,r=>⟨h.1,h.2.rely T r⟩
 | fuel+1,listed,a,w,b,h,r=>⟨h.1,h.2.1,λi hi=>by
   have:=h.2.2 i hi
   unfold OpK at*;split
   .simp_all
   .rename_i o e
    simp only[e]at this;split
    .rename_i c;simp only[c,if_true]at this;exact λf g=>this f (r.tr g)
    .rename_i c;simp only[c] at this;exact⟨d _ _ this.1 r,Ge.rely T d fuel _ _ _ _ this.2 r⟩⟩
theorem Aw3(T:OkL P main Low pre ok):∀(fuel t:Nat)(listed:Array Bool)(a:Act)(w:AU),Ge P Low pre ok fn Q x O ops md S last fuel listed a w->
  Vf ok fn ops (Region.linearise.go md ops (fuel+1) t listed []) Q a x O w:=by
 intro fuel;induction fuel with
 |zero=>
  intro t listed a w h;simp only[Region.linearise.go]
  change Vf ok fn ops (match (Region.ready md ops listed)[t % (Region.ready md ops listed).l]? with
   |some i=>Region.linearise.go md ops 0 (t / (Region.ready md ops listed).l) (listed.setIfInBounds i true) [i]
   | none=>[].reverse) Q a x O w
  rw[h.1];simp[Nat.mod_one,Region.linearise.go];exact h.2
 |succ fuel g=>
  intro t listed a w h;obtain⟨_,m,d⟩:=h;rw[Region.linearise.go]
  change Vf ok fn ops (match (Region.ready md ops listed)[t % (Region.ready md ops listed).l]? with
   |some i=>Region.linearise.go md ops (fuel+1) (t / (Region.ready md ops listed).l) (listed.setIfInBounds i true) [i]
   | none=>[].reverse) Q a x O w
  cases hi:(Region.ready md ops listed)[t % (Region.ready md ops listed).l]? with
  |none=>
   exfalso;apply m;cases c:Region.ready md ops listed with
   |nil=>rfl|cons y b=>rw[c]at hi;have e:t % (y::b).l<(y::b).l:=Nat.mod_lt _ BU;simp at hi;simp at e;omega
  |some i=>simp only[];rw[linearise_go_acc,List.reverse_singleton,List.singleton_append];exact wN T (fW (λf k z=>g _ _ f k z.2) (d i (LO hi)))
theorem Rx.opK(d:∀u v,S u->Keep Low O u v->S v)(hi:ops[i]?=some o)(k:Rx P Low fn ops S O o v a){K:Act->World->Prop}(g:∀a u v,K a u->Keep Low O u v->K a v){w:AU}(hS:S w)(h:K (a.put o.dst v) w):
  OpK P Low pre fn ops x O i K a w:=by
 unfold OpK;simp only[hi];rcases k with⟨c,f⟩|⟨c,rfl⟩
 .simp only[c,if_true];intro e b _;rw[(f e (d _ _ hS b)).1];exact⟨⟨(f e (d _ _ hS b)).2,J4 _ _⟩,g _ _ _ h b⟩
 simp only[c,E3,EL];exact h
theorem kA{c:Oper}(B:ops[j]?=some c)(D:oi.apart ops c=true)(y:∀f b,oi.op≠.select f b)(C:∀f b,c.op≠.select f b){K:Act->World->Prop}{w:AU}
  (d:Rx P Low fn ops S O oi v a) (h:OpK P Low pre fn ops x O j K (a.put oi.dst v) w):OpK P Low pre fn ops x O j (λs g=>Rx P Low fn ops S O oi v s/\K (s.put oi.dst v) g) a w:=by
 have⟨m,e,q⟩:=Oper.apart_spec D;have keep:∀(a:Act),Rx P Low fn ops S O oi v a->∀u,Rx P Low fn ops S O oi v (a.put c.dst u):=λa d u=>d.of_same (execOp_put oi y a c.dst u q) (wanted_put oi a c.dst u q);unfold OpK at*;simp only[B] at*;rw[wanted_put c a oi.dst v m]at h;split
 .rename_i k;simp only[k,if_true]at h;intro p t A;have h:=h p t A;unfold listed at*;rw[execOp_put c C a oi.dst v m]at h;generalize (execOp a.eval c).run P p=r at*;cases r with
  |ok n g=>
   (cases n<;>simp only[uponK]at h⊢);case value u=>exact⟨h.1,keep a d u,by rw[<-Act.put_comm a v u e];exact h.2⟩
   case skip=>exact⟨h.1,keep a d _,by rw[<-Act.put_comm a v AQ e];exact h.2⟩
  |halt z g=>simp only[uponK]at h
 rename_i k;simp only[k]at h;exact⟨keep a d _,by rwa[<-Act.put_comm a v AQ e]⟩
def Yx(md:Region.Mode)(ops:Array Oper)(l:Array Bool):Prop:=∀j o,ops[j]?=some o->l.getD j false=true->∀e∈o.after,Region.binds md e=true->l.getD e.on false=true
def tj(h:j<l.size):(l.setIfInBounds j true).getD j false=true:=by simp[h]
def Zq{k:Nat}(h:j≠k)(d:Bool):(l.setIfInBounds j true).getD k d=l.getD k d:=getD_set_ne d h
theorem Yx.set(h:Yx md ops l)(f:j∈Region.ready md ops l):Yx md ops (l.setIfInBounds j true):=by
 intro k o q p e m d;have key:l.getD e.on false=true:=by by_cases n:j=k;{subst n;have⟨_,u,g,r⟩:=mem_ready.1 f;rw[q]at g;cases g;exact r e m d};rw[Zq n]at p;exact h k o q p e m d
 by_cases c:j=e.on
 .have t:j<l.size:=by
   have s:=(mem_ready.1 f).1;rcases GM j l.size with b|b
   .exact b
   .simp[PG b]at s
  rw[<-c];exact tj t
 rw[Zq c];exact key
def OG(md:Region.Mode)(ops:Array Oper)(l:Array Bool):Bool:=(List.range ops.size).all λj=>!(l.getD j false) || ((ops[j]?).all λo=>o.after.toList.all λe=>!(Region.binds md e) || l.getD e.on false)
theorem XG:OG md ops l=true↔Yx md ops l:=by
 unfold OG Yx;rw[List.all_eq_true];constructor
 .intro h j o b d e c f;have g:=(BF.1 b).1;have:=h j (List.mem_range.2 g);rw[d,b]at this;simp only[M4,Bool.false_or,Option.all_some,List.all_eq_true]at this;have:=this e (Array.mem_toList_iff.2 c);rw[f]at this;simpa using this
 intro h j k;cases d:l.getD j false with
 |false=>rfl
 |true=>
  simp only[M4,Bool.false_or];cases b:ops[j]? with
  |none=>rfl
  |some o=>
   simp only[Option.all_some,List.all_eq_true];intro e c;cases f:Region.binds md e with
   |false=>rfl|true=>rw[h j o b d e (Array.mem_toList_iff.1 c) f];rfl
theorem Aw4(T:OkL P main Low pre ok)(p:∀u v,S u->Keep Low O u v->S v)(hi:ops[i]?=some oi)(B:∀(j:Nat)(o:Oper)n b,ops[j]?=some o->o.op≠.select n b):
  ∀(fuel:Nat)(listed:Array Bool)(a:Act)(w:AU),(∀l:Array Bool,l.size=listed.size->Yx md ops l->l.getD i true=false->last∉Region.ready md ops l)->Yx md ops listed->
   (∀j f,ops[j]?=some f->j≠i->listed.getD j true=false->(∀e∈f.after,Region.binds md e=true->e.on≠i)->oi.apart ops f=true)->
   i∈Region.ready md ops listed->Rx P Low fn ops S O oi v a->S w->
   Ge P Low pre ok fn Q x O ops md S last fuel (listed.setIfInBounds i true) (a.put oi.dst v) w->Ge P Low pre ok fn Q x O ops md S last (fuel+1) listed a w:=by
 have J:∀fuel listed,∀a u v,(S u/\Ge P Low pre ok fn Q x O ops md S last fuel listed a u)->Keep Low O u v->(S v/\Ge P Low pre ok fn Q x O ops md S last fuel listed a v):=
  λfuel listed a u v h r=>⟨p _ _ h.1 r,Ge.rely T p fuel listed a u v h.2 r⟩
 intro fuel;induction fuel with
 |zero=>intro listed a w t y _ c s hS H;have C:=t listed rfl y (mem_ready.1 c).1;refine⟨C,λh=>(by rw[h]at c;cases c),λj m=>?_⟩;by_cases d:j=i;{subst d;exact s.opK p hi (J _ _) hS ⟨hS,H⟩};have:=ready_mono m d;rw[H.1]at this;rw[BB.1 this]at m;exact absurd m C
 |succ fuel X=>
  intro listed a w t y D c s hS H;refine⟨t listed rfl y (mem_ready.1 c).1,λh=>(by rw[h]at c;cases c),λj m=>?_⟩;by_cases d:j=i;{subst d;exact s.opK p hi (J _ _) hS ⟨hS,H⟩};have g:=H.2.2 j (ready_mono m d);have⟨I,f,A,Z⟩:=mem_ready.1 m;have V:∀e∈f.after,Region.binds md e=true->e.on≠i:=λe U L M=>by have g:=Z e U L;have F:=(mem_ready.1 c).1;rw[M]at g;rcases GM i listed.size with z|z;{simp[z]at F g;rw[F]at g;cases g};simp[PG z]at g
  have K:=kA A (D j f A d I V) (λn b=>B i oi n b hi) (λn b=>B j f n b A) s g;have R:∀k ok,ops[k]?=some ok->k≠i->(listed.setIfInBounds j true).getD k true=false->(∀e∈ok.after,Region.binds md e=true->e.on≠i)->oi.apart ops ok=true:=λk ok hk Y G N=>by refine D k ok hk Y ?_ N;by_cases E:j=k;{subst E;exact I};rwa[getD_set_ne true E]at G
  refine fW (λW w' q=>⟨q.2.1,X (listed.setIfInBounds j true) W w' (λl hl=>t l (by rw[hl];simp)) (y.set m) R (ready_mono c (Ne.symm d)) q.1 q.2.1 ?_⟩) K;rw[Array.setIfInBounds_comm _ _ d];exact q.2.2
def allB:Nat->List (Array Bool)
 |0=>[#[]]
 |n+1=>(allB n).flatMap λl=>[l.push false,l.push true]
theorem e7:∀(n:Nat)(l:Array Bool),l.size=n->l∈allB n
 |0,l,h=>by simp[allB];exact Array.size_eq_zero_iff.1 h
 |n+1,l,h=>by
  simp only[allB,List.mem_flatMap];refine⟨l.pop,e7 n _ (by simp[h]),?_⟩;have c:l.size≠0:=BS
  have e:l=l.pop.push (l[l.size - 1]'BS):=by
   apply Array.ext
   .simp;omega
   .intro i d f
    by_cases hi:i<l.size - 1
    .rw[Array.getElem_push_lt yEh];simp
    .have:i=l.size - 1:=by omega
     subst this;rw[Array.getElem_push];simp
  cases b:l[l.size - 1]'BS with
  |false=>rw[b]at e;rw[e];simp
  |true=>rw[b]at e;rw[e];simp
def waits(md:Region.Mode)(ops:Array Oper)(last i n:Nat):Bool:=(allB n).all λl=>!(OG md ops l) || (l.getD i true || !(Region.ready md ops l).contains last)
def Aty{n:Nat}(h:waits md ops last i n=true):∀l:Array Bool,l.size=n->Yx md ops l->l.getD i true=false->last∉Region.ready md ops l:=by intro l e c b d;have:=List.all_eq_true.1 h l (e7 n l e);rw[b,XG.2 c]at this;simp at this;exact this d
theorem We(T:OkL P main Low pre ok)(c:∀u v,S u->Keep Low O u v->S v){listed:Array Bool}{w:AU}(hi:ops[i]?=some oi)
  (hl:waits md ops last i listed.size=true) (d:OG md ops listed=true) (e:Region.noSelect ops=true) (b:Region.free md ops listed i=true) (hr:(Region.ready md ops listed).contains i=true) (f:Rx P Low fn ops S O oi v a) (hS:S w)
  (h:Ge P Low pre ok fn Q x O ops md S last fuel (listed.setIfInBounds i true) (a.put oi.dst v) w):Ge P Low pre ok fn Q x O ops md S last (fuel+1) listed a w:=
 Aw4 T c hi (Region.noSelect_spec e) fuel listed a w (Aty hl) (XG.1 d) (Region.free_spec hi b) (by simpa using hr) f hS h
theorem rj(T:OkL P main Low pre ok){d:Nat}{w:AU}(S:AU->Prop)(last:Nat)(g:P.follows .mixedOrders=true)(r:ops.size=fuel+1)
  (h:∀c,Keep Low O w c->Ge P Low pre ok fn Q x O ops .any S last fuel (Array.replicate ops.size false) a {c with drawn:=c.drawn+1}):WpK ok fn (.region d ops true) Q a x O w:=by intro b k f m s q;refine T.own rfl λc n _=>⟨_,_,_,stepG_region_draw,rfl,⟨λ_ _ _=>rfl,DN _,rfl,rfl,rfl,BU⟩,?_⟩;have e:grown O c {c with drawn:=c.drawn+1}=O:=J4 O c;rw[e];have:=Aw3 T fuel (c.tape c.drawn (.order b.fn d)) (Array.replicate ops.size false) a _ (h c n) b k f m s q;simp only[Region.schedule,g,Bool.true_or,if_true];simp only[Region.linearise,r]at this⊢;exact this
end
def tK{P:AY}{w:AU}{es:Array Event}(t:AZ)(h:P.underlying t=some (.slice (P.elem t)))(a:Δ)(m r:Nat)(h1:(1:Int)<=(m:Int)+1):
  (Instr.sliceAt t (AE a (m+1) r) (some (AB 1)) none none).events P w es=es:=by simp only[Instr.sliceAt,Instr.slice,Instr.sliceBounds,Instr.sliceBound,asIntOf];simp[run_underlying h,h1]
def EI(P:AY){α:Type}:Sem α->Prop
  |.pure _=>True
  |.load m _ k=>m=.plain/\∀v,EI P (k v)
  |.store m _ _ k=>m=.plain/\EI P k
  |.new _ k=>∀r,EI P (k r)
  |.shape _ k=>∀s,EI P (k s)
  |.freeze _ _ k=>EI P k
  |.frozen _ k=>∀b,EI P (k b)
  |.getObj _ _=>False
  |.setObj _ _ _=>False
  |.choose _ k=>∀n,EI P (k n)
  |.sys _ _=>False
  |.program k=>EI P (k P)
  |.mark m k=>m=.noRoom/\EI P k
  |.halt _=>True
section
variable {P:AY}{α β:Type}
theorem Ay3{f:α->Sem β}(d:∀a,EI P (f a)):∀(s:Sem α),EI P s->EI P (s.bind f):=by
 intro s;induction s with
 |pure a=>exact λ_=>d a|load m a k b=>exact λh=>⟨h.1,λv=>b v (h.2 v)⟩|store m a v k b=>exact λh=>⟨h.1,b h.2⟩|new o k b=>exact λh v=>b v (h v)|shape r k b=>exact λh v=>b v (h v)|freeze a n k b=>exact λh=>b h|frozen a k b=>exact λh v=>b v (h v)|getObj r k b=>exact λh=>h.elim|setObj r o k b=>exact λh=>h.elim|choose q k b=>exact λh v=>b v (h v)|sys c k b=>exact λh=>h.elim|program k b=>exact λh=>b P h|mark m k b=>exact λh=>⟨h.1,b h.2⟩|halt x=>exact λ_=>trivial
def Nq{s:Sem α}{f:α->Sem β}(c:EI P s)(b:∀a,EI P (f a)):EI P (s>>=f):=Ay3 b s c
def lx{a:α}:EI P (pure a:Sem α):=trivial
def EvP(e:Event):Prop:=(∀a,e.loc=.cell a->e.sync=false)/\(∀m,e.loc=.mark m->m=.noRoom)
def zLa {p:Prop}(h:p:=by
 rcases Array.mem_append.1 he with he|he
 . exact h e he
 . obtain⟨x,_,rfl⟩:=Array.mem_map.1 he
   exact⟨λ_ _=>rfl,λm hm=>by cases hm⟩):p:=h
theorem Auw:∀(s:Sem α),EI P s->∀(w:AU)(f:Array Event),(∀e∈f,EvP e)->∀e∈(s.runT P w f).2,EvP e:=by
 intro s;induction s with
 |pure a=>exact λ_ w f h=>h
 |load m a k b=>
  rintro⟨rfl,d⟩ w f h;simp only[Sem.runT];split
  . refine b _ (d _) _ _ λe he=>?_
    rcases Array.mem_push.1 he with he|rfl
    . exact h e he
    . exact⟨λ_ _=>rfl,λm hm=>by cases hm⟩
  . split
    . refine b _ (d _) _ _ λe he=>?_
      exact zLa
    . exact h
 |store m a v k b=>
  rintro⟨rfl,d⟩ w f h;have key:∀g(t:Array Ab),∀e∈(k.runT P g (f++t.map λx=>⟨.cell x,true,false⟩)).2,EvP e:=λg t=>by refine b d _ _ λe he=>?_;exact zLa
  have u:∀g(x:Ab),∀e∈(k.runT P g (f.push ⟨.cell x,true,false⟩)).2,EvP e:=λg x=>by
   refine b d _ _ λe he=>?_;rcases Array.mem_push.1 he with he|rfl
   . exact h e he
   . exact⟨λ_ _=>rfl,λm hm=>by cases hm⟩
  cases v<;>simp only[Sem.runT]<;>first
   |exact h
   | (split
      . split
        . exact h
        . exact u _ _
      . split
        . exact key _ _
        . exact h)
 |new o k b=>exact λd w f h=>b _ (d _) _ _ h|shape r k b=>exact λd w f h=>b _ (d _) _ _ h|freeze a n k b=>exact λd w f h=>b d _ _ h|frozen a k b=>exact λd w f h=>b _ (d _) _ _ h|getObj r k b=>exact λh=>h.elim|setObj r o k b=>exact λh=>h.elim
 |choose q k b=>
  intro d w f h;simp only[Sem.runT];split
  . exact b _ (d _) _ _ h
  . exact b _ (d _) _ _ h
 |sys c k b=>exact λh=>h.elim|program k b=>exact λd w f h=>b _ d _ _ h
 |mark m k b=>
  rintro⟨rfl,d⟩ w f h;refine b d _ _ λe he=>?_;rcases Array.mem_push.1 he with he|rfl
  . exact h e he
  . refine⟨λ_ hm=>?_,λm hm=>?_⟩
    . cases hm
    . cases hm;rfl
 |halt x=>exact λ_ w f h=>h
theorem Vm(a:Ab):∀(n i:Nat)(acc:δ),EI P (loadCellsFrom a i n acc)
  |0,_,_=>trivial
  |n+1,i,_acc=>Nq (s:=load (a.add i)) ⟨rfl,λ_=>trivial⟩ λ_v=>Vm a n (i+1) _
theorem Zn(a:Ab):∀(b:Θ)(i:Nat),EI P (storeCells a b i)
  |[],_=>trivial
  |v::b,i=>Nq (s:=store (a.add i) v) ⟨rfl,trivial⟩ λ_=>Zn a b (i+1)
def tA(size n:Nat)(v:AW):EI P (Builtin.firstCells size n v):=by unfold Builtin.firstCells;split<;>first|exact trivial|exact Vm _ _ _ _
theorem fc{c:Prop}[Decidable c]{x y:Sem α}(hx:EI P x)(b:EI P y):EI P (if c then x else y):=by split<;>assumption
def Ayz(m:String):EI P (stuck m:Sem α):=trivial
def sP(u:Unsupported):EI P (unsupported u:Sem α):=trivial
def ZF(q:Question):EI P (choose q):=λ_=>trivial
def ZE:EI P (mark .noRoom):=⟨rfl,trivial⟩
def Ay0(r:Nat):EI P (shape r):=λ_=>trivial
def Auv(a:Ab):EI P (frozen a):=λ_=>trivial
def s8(t:AZ):EI P (underlying t):=by unfold underlying;show EI P (_:Sem _);refine Nq (s:=program) trivial λp=>?_;split<;>trivial
def Yd(t:AZ):EI P (typeInfo t):=by unfold typeInfo;refine Nq (s:=program) trivial λp=>?_;split<;>trivial
def Aut(t:AZ):EI P (sizeOf t):=by unfold sizeOf;exact Nq (Yd t) λ_=>trivial
def tR(t:AZ):EI P (zeroValue t):=by unfold zeroValue;refine Nq (Yd t) λ_=>?_;split<;>trivial
def Ay4(v:AW):EI P (asInt v):=by unfold asInt asIntOf;repeat' first|exact trivial|refine Nq ?_ (λ_=>?_)|split
def Ay1(v:AW):EI P (Builtin.lenOf v):=by unfold Builtin.lenOf;split<;>trivial
def s9(a:Ab)(n:Nat):EI P (Builtin.holdsCells a n):=by unfold Builtin.holdsCells;refine Nq (Ay0 _) λ_=>?_;split<;>trivial
def xo(n:Nat):EI P (askRoom n):=by
 unfold askRoom;split
 . exact ZE
 . trivial
def Auu(t:AZ)(vs:δ):EI P (newRow t vs):=by unfold newRow;repeat' first|exact trivial|exact ZF _|(exact λ_=>trivial)|refine Nq ?_ (λ_=>?_)|split
def rp(e:RuntimeError):EI P (runtimePanic e:Sem α):=by unfold runtimePanic;refine Nq (s:=program) trivial λp=>?_;repeat' first|exact trivial|(exact λ_=>trivial)|refine Nq ?_ (λ_=>?_)|split
def vL(size b n:Nat)(base:Δ)(x:AW):EI P (Builtin.mayShare size b n base x):=by unfold Builtin.mayShare;repeat' first|exact trivial|exact s9 _ _|exact Auv _|refine Nq ?_ (λ_=>?_)|refine fc ?_ ?_|split
set_option maxHeartbeats 1000000 in
theorem Aux(ts:Array AZ)(t:AZ)(args:δ):EI P (Builtin.append_ ts t args):=by unfold Builtin.append_;repeat' first|with_reducible exact lx|with_reducible exact Ayz _|with_reducible exact sP _|with_reducible exact s8 _|with_reducible exact Aut _|with_reducible exact Yd _|with_reducible exact tR _|with_reducible exact Ay4 _|with_reducible exact Ay1 _|with_reducible exact ZF _|with_reducible exact ZE|with_reducible exact xo _|with_reducible exact Auu _ _|with_reducible exact rp _|with_reducible exact vL _ _ _ _ _|with_reducible exact tA _ _ _|with_reducible exact Zn _ _ _|with_reducible refine Nq ?_ (λ_=>?_)|with_reducible refine fc ?_ ?_|split|dsimp only
end
def Ye{w w':AU}{base:Nat}{e:AZ}{size:Nat}{v:AW}{n:Nat}{xs:Θ}(h:w.ownsRow base e size v n xs)(f:∀k,v.ownBlock=some k->w'.heap[k]?=w.heap[k]?):w'.ownsRow base e size v n xs:=by
 refine⟨h.1,?_⟩;rcases h.2 with b|⟨g,cap,cur,hv,d,c,rest⟩
 .exact .inl b
 exact .inr ⟨g,cap,cur,hv,d,(f g yFd).tr c,rest⟩
section
variable {τ:Type}{P:AY}{main:Bool}{Low:Nat}{pre:τ -> AU -> Prop}{ok:τ -> (Nat -> Prop) -> AU -> AX -> Prop}{fn:FuncId}{Q:Xo τ}{a:Act}{x:τ}{O:Nat -> Prop}{w:AU}
variable {ops:Array Oper}{i:Nat}{rest:Γ}{o:Oper}
theorem XC(ab:OkL P main Low pre ok)(ho:ops[i]?=some o)(hw:Region.wanted o (yielded ops a.tmps)=true)(s y:Operand)(t:AZ)(V:o.op=.call {callee:=.builtin .append,args:=#[s,y],argTypes:=#[t,t]})
  (e:AZ) (D:TypeInfo) (z:AW) (size bytes:Nat) (ht:P.underlying t=some (.slice e)) (hi:P.info? e=some D) (hz:D.zero=some z) (N:D.size=size) (T:D.bytes=bytes) (af:z.cells.size=size) (ac:0<size)
  (v:AW) (n:Nat) (xs:Θ) (R:a.eval s=v) (ae:w.ownsRow Low e size v n xs) (J:∀k,v.ownBlock=some k->O k)
  (b c:Nat) (news:Θ) (hx:a.eval y=AE (some (AK b 0)) 1 c) (hl:news.length=size) (U:O b) (ag:∀j u,news[j]?=some u->w.cell? (AK b j)=some u) (h1:∀u∈news,u.oneCell'=true)
  (Y:n+1<=maxLen) (X:(n+1)*bytes<=140737488355328) {w₀:AU} (hF:Held Low w₀ O w)
  (h:∀B C H,C.ownsRow Low e size B (n+1) (xs++news)->(∀k,B.ownBlock=some k->H k)->(∀k,B.ownBlock=some k->some k=v.ownBlock\/¬O k)->(∀k,O k->H k)->(∀k,O k->some k≠v.ownBlock->C.heap[k]?=w.heap[k]?)->Held Low w₀ H C->
   Vf ok fn ops rest Q (a.put o.dst B) x H C):Vf ok fn ops (i::rest) Q a x O w:=by
 refine Yg ab ho hw λF A _ aj hK=>?_;have K:=Ye ae λk g=>A.mine k (J k g);have aa:∀j u,news[j]?=some u->F.c (((AK b 0):Ab).add j)=some u:=λj u hu=>by
  have:=ag j u hu;have e:((AK b 0):Ab).add j=(AK b j):=by unfold Addr.add;split<;>simp_all
  rw[e];rw[<-this];exact BE (A.mine b U)
 have M:news.l=1*size:=BS;have⟨B,C,hr,L,d,_,f⟩:=run_append_own_at (P:=P) F Low t o.type e D z size bytes ht hi hz N T af ac v n xs K (AK b 0) 1 c news M aa h1 Y X (DU hF.low A.size);refine uponK_append s y t V R hx hr (hK _ _ ⟨⟨λk I hn=>d.block k I λe=>hn (J k e.symm),d.size,d.tape,d.os,d.output,λG E=>?_⟩,?_⟩)
 .replace E:=mem_listed E;rw[events_append_op s y t V R hx]at E;have hp:=Auw (P:=P) _ (Aux _ _ _) F #[] (λe he=>by simp at he) G E;rcases events_append_where F Low t o.type e D z size bytes ht hi hz N T v n xs K (AK b 0) 1 c news M aa h1 Y X G E with⟨Z,W,h⟩|⟨m,rfl,hm⟩;{refine .inl ⟨Z,G.write,?_,.inl (.inl ?_)⟩;{obtain⟨ak,wr,sy⟩:=G;simp only at W;subst W;rw[show sy=false from hp.1 Z rfl]};rcases h with⟨_,h⟩|h;{rwa[h]};exact J _ h.symm};rw[show m=.noRoom from hm];exact .inr rfl
 have q:=hF.rely A;refine h B C _ L (λk g=>?_) (λk g=>?_) (λk A=>.inl A) (λk r ah=>(d.block k (q.up k r) ah).tr (A.mine k r)) ⟨λk I=>?_,DU q.low d.size,λk r=>?_,?_,?_⟩
 .rcases f with f|f;{exact .inl (J k (f.symm.tr g))};have ai:=(L.lt k g).2;rw[f]at g;cases g;exact .inr ⟨DN _,ai⟩
 .rcases f with f|f;{exact .inl (g.symm.tr f)};rw[f]at g;cases g;exact .inr λhO=>K4 _ (q.up _ hO)
 .refine(d.block k (DO I q.low) λe=>?_).tr (q.still k I);have:=(K.lt k e.symm).1;omega
 .rcases r with r|⟨_,r⟩;{exact DO (q.up k r) d.size};exact r
 .exact d.os.tr q.os
 exact d.output.tr q.out
def PP{w₀ c:AU}(hF:Held Low w₀ O w)(d:Keep Low O w c)(ob:Obj):
  ∃e,e=(λb=>O b\/b=c.heap.size)/\D2 Low O e w (c.alloc ob)/\Held Low w₀ e (c.alloc ob)/\e c.heap.size/\Low<=c.heap.size/\(∀x,O x->x≠c.heap.size)/\(c.alloc ob).heap[c.heap.size]?=some ob:=
 ⟨_,rfl,d.ext.tr ((hF.rely d).ext _),(hF.rely d).new _,.inr rfl,(hF.rely d).low,λx f=>by have:=(hF.rely d).up x f;omega,by simp only[World.alloc];exact TS⟩
def D2.row{w w':AU}{b:Φ}{base:Nat}{e:AZ}{size:Nat}{v:AW}{n:Nat}{xs:Θ}(h:D2 Low O b w w')(hr:w.ownsRow base e size v n xs)(c:∀k,v.ownBlock=some k->O k\/k<Low):w'.ownsRow base e size v n xs:=
 Ye hr λk d=>(c k d).elim (h.mine k) (h.still k)
end
