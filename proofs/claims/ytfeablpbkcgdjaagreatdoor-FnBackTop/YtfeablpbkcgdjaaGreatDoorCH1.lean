import Derived.Test.YtfeablpbkcgdjaaGreatDoorCE3b
import Derived.Conc.AppendWalk
import Derived.Maps.AppendAt
set_option linter.defProp false
namespace Go.Co
open Go.Conc
section
variable {a:Act}{fuel i j:Nat}{l:Array Bool}{o oi:Oper}{v:Value}
variable {τ:Type}{P:Program}{main:Bool}{Low:Nat}{pre:τ -> World -> Prop}{ok:τ -> (Nat -> Prop) -> World -> Goroutine -> Prop}{fn:FuncId}{Q:Vs τ}{x:τ}{O:Nat -> Prop}
variable {ops:Array Oper}{md:Region.Mode}{S:World -> Prop}{last:Nat}
def OpK (P:Program)(Low:Nat)(pre:τ->World->Prop)(fn:FuncId)(ops:Array Oper)(x:τ)(O:Nat->Prop)(i:Nat)(K:Act->World->Prop)(a:Act)(w:World):Prop:=
 match ops[i]? with
 | none=>False
 | some o=>if Region.wanted o (yielded ops a.tmps) then ∀b,Keep Low O w b->pre x b->uponK o a (λd c=>(EX Low O b c (listed P fn a o b)/\grown O b c=O)/\K d c) ((execOp a.eval o).run P b) else K (a.put o.dst undef) w
theorem XF {w:World}{K d:Act->World->Prop}(h:∀a w,K a w->d a w)(b:OpK P Low pre fn ops x O i K a w):OpK P Low pre fn ops x O i d a w:=by
 unfold OpK at*;split
 .simp_all
 .rename_i o k
  simp only[k] at b;split
  .rename_i c;simp only[c,if_true] at b;exact λf e g=>uponK_mono (λn m z=>⟨z.1,h _ _ z.2⟩) (b f e g)
  .rename_i c;simp only[c] at b;exact h _ _ b
theorem mo (T:OkL P main Low pre ok){rest:List Nat}{w:World}(h:OpK P Low pre fn ops x O i (λd c=>Tt ok fn ops rest Q d x O c) a w):Tt ok fn ops (i::rest) Q a x O w:=by
 unfold OpK at h;split at h
 .exact h.elim
 .rename_i o e
  split at h
  .rename_i b
   refine Wy T e b λf g m K k=>uponK_mono (λd c z=>?_) (h f g m)
   exact k _ _ ⟨z.1.1,by rw[z.1.2];exact z.2⟩
  .rename_i b;exact Vd T e (by simpa using b) h
def Qc (P:Program)(Low:Nat)(fn:FuncId)(ops:Array Oper)(S:World->Prop)(O:Nat->Prop)(o:Oper)(v:Value)(a:Act):Prop:=
 (Region.wanted o (yielded ops a.tmps)=true/\∀w,S w->(execOp a.eval o).run P w=.ok (.value v) w/\EX Low O w w (listed P fn a o w))\/(Region.wanted o (yielded ops a.tmps)=false/\v=undef)
theorem Qc.of_same {b:Act}(e:Qc P Low fn ops S O o v a)(d:execOp b.eval o=execOp a.eval o)(c:Region.wanted o (yielded ops b.tmps)=Region.wanted o (yielded ops a.tmps)):Qc P Low fn ops S O o v b:=by
 unfold Qc listed at*;rw[d,c];exact e
variable (P Low pre ok fn ops md S last Q x O)
def FA:Nat->Array Bool->Act->World->Prop
 | 0,listed,a,w=>Region.ready md ops listed=[last]/\Tt ok fn ops [last] Q a x O w
 | fuel+1,listed,a,w=>last∉Region.ready md ops listed/\Region.ready md ops listed≠[]/\∀i∈Region.ready md ops listed,OpK P Low pre fn ops x O i (λc b=>S b/\FA fuel (listed.setIfInBounds i true) c b) a w
variable {P Low pre ok fn ops md S last Q x O}
theorem FA.rely (T:OkL P main Low pre ok)(d:∀u v,S u->Keep Low O u v->S v):
  ∀(fuel:Nat) (listed:Array Bool) (a:Act) (w c:World),FA P Low pre ok fn Q x O ops md S last fuel listed a w->Keep Low O w c->FA P Low pre ok fn Q x O ops md S last fuel listed a c
 | 0,_,_,_,_,h,r=>⟨h.1,h.2.rely T r⟩
 | fuel+1,listed,a,w,c,h,r=>⟨h.1,h.2.1,λi hi=>by
   have:=h.2.2 i hi
   unfold OpK at*;split
   .simp_all
   .rename_i o f
    simp only[f] at this;split
    .rename_i b;simp only[b,if_true] at this;exact λg e=>this g (r.trans e)
    .rename_i b;simp only[b] at this;exact⟨d _ _ this.1 r,FA.rely T d fuel _ _ _ _ this.2 r⟩⟩
theorem tI (T:OkL P main Low pre ok):∀(fuel t:Nat) (listed:Array Bool) (a:Act) (w:World),FA P Low pre ok fn Q x O ops md S last fuel listed a w->
  Tt ok fn ops (Region.linearise.go md ops (fuel+1) t listed []) Q a x O w:=by
 intro fuel;induction fuel with
 | zero=>
  intro t listed a w h;simp only[Region.linearise.go]
  change Tt ok fn ops (match (Region.ready md ops listed)[t % (Region.ready md ops listed).length]? with
   | some i=>Region.linearise.go md ops 0 (t / (Region.ready md ops listed).length) (listed.setIfInBounds i true) [i]
   | none=>[].reverse) Q a x O w
  rw[h.1];simp[Nat.mod_one,Region.linearise.go];exact h.2
 | succ fuel m=>
  intro t listed a w h;obtain⟨_,c,d⟩:=h;rw[Region.linearise.go]
  change Tt ok fn ops (match (Region.ready md ops listed)[t % (Region.ready md ops listed).length]? with
   | some i=>Region.linearise.go md ops (fuel+1) (t / (Region.ready md ops listed).length) (listed.setIfInBounds i true) [i]
   | none=>[].reverse) Q a x O w
  cases hi:(Region.ready md ops listed)[t % (Region.ready md ops listed).length]? with
  | none=>
   exfalso;apply c;cases e:Region.ready md ops listed with
   | nil=>rfl
   | cons y b=>
    rw[e] at hi;have g:t % (y::b).length<(y::b).length:=Nat.mod_lt _ AW;simp at hi;simp at g;omega
  | some i=>
   simp only[];rw[linearise_go_acc,List.reverse_singleton,List.singleton_append];exact mo T (XF (λk f z=>m _ _ k f z.2) (d i (JD hi)))
theorem Qc.opK (e:∀u v,S u->Keep Low O u v->S v)(hi:ops[i]?=some o)(g:Qc P Low fn ops S O o v a){K:Act->World->Prop}(k:∀a u v,K a u->Keep Low O u v->K a v){w:World}(hS:S w)(h:K (a.put o.dst v) w):
  OpK P Low pre fn ops x O i K a w:=by
 unfold OpK;simp only[hi];rcases g with⟨c,f⟩ | ⟨c,rfl⟩
 .simp only[c,if_true]
  intro d b _;rw[(f d (e _ _ hS b)).1];exact⟨⟨(f d (e _ _ hS b)).2,Iw _ _⟩,k _ _ _ h b⟩
 .simp only[c,DR,C5];exact h
theorem xK {c:Oper}(D:ops[j]?=some c)(A:oi.apart ops c=true)(t:∀g b,oi.op≠.select g b)(C:∀g b,c.op≠.select g b){K:Act->World->Prop}{w:World}
  (d:Qc P Low fn ops S O oi v a) (h:OpK P Low pre fn ops x O j K (a.put oi.dst v) w):OpK P Low pre fn ops x O j (λs e=>Qc P Low fn ops S O oi v s/\K (s.put oi.dst v) e) a w:=by
 obtain⟨q,f,m⟩:=Oper.apart_spec A;have keep:∀(a:Act),Qc P Low fn ops S O oi v a->∀u,Qc P Low fn ops S O oi v (a.put c.dst u):=λa d u=>d.of_same (execOp_put oi t a c.dst u m) (wanted_put oi a c.dst u m)
 unfold OpK at*;simp only[D] at*;rw[wanted_put c a oi.dst v q] at h;split
 .rename_i k
  simp only[k,if_true] at h;intro p y B;have h:=h p y B;unfold listed at*;rw[execOp_put c C a oi.dst v q] at h;generalize (execOp a.eval c).run P p=r at*;cases r with
  | ok n e=>
   cases n<;>simp only[uponK] at h ⊢
   case value u=>exact⟨h.1,keep a d u,by rw[<-Act.put_comm a v u f];exact h.2⟩
   case skip=>exact⟨h.1,keep a d _,by rw[<-Act.put_comm a v undef f];exact h.2⟩
  | halt z e=>simp only[uponK] at h
 .rename_i k
  simp only[k] at h;exact⟨keep a d _,by rw[<-Act.put_comm a v undef f];exact h⟩
def Xn (md:Region.Mode)(ops:Array Oper)(l:Array Bool):Prop:=∀j o,ops[j]?=some o->l.getD j false=true->∀e∈o.after,Region.binds md e=true->l.getD e.on false=true
def i9 (h:j<l.size):(l.setIfInBounds j true).getD j false=true:=by simp[h]
def Yf {k:Nat}(h:j≠k)(d:Bool):(l.setIfInBounds j true).getD k d=l.getD k d:=getD_set_ne d h
theorem Xn.set (h:Xn md ops l)(n:j∈Region.ready md ops l):Xn md ops (l.setIfInBounds j true):=by
 intro k o g p e f c;have key:l.getD e.on false=true:=by
  by_cases d:j=k
  .subst d
   obtain⟨_,u,m,t⟩:=mem_ready.1 n;rw[g] at m;cases m;exact t e f c
  .rw[Yf d] at p
   exact h k o g p e f c
 by_cases q:j=e.on
 .have r:j<l.size:=by
   have s:=(mem_ready.1 n).1;rcases EV j l.size with b | b
   .exact b
   .simp[LK b] at s
  rw[<-q];exact i9 r
 .rw[Yf q];exact key
def L1 (md:Region.Mode)(ops:Array Oper)(l:Array Bool):Bool:=(List.range ops.size).all λj=>!(l.getD j false) || ((ops[j]?).all λo=>o.after.toList.all λe=>!(Region.binds md e) || l.getD e.on false)
theorem SX:L1 md ops l=true↔Xn md ops l:=by
 unfold L1 Xn;rw[List.all_eq_true];constructor
 .intro h j o b f e d c
  have g:=(Array.getElem?_eq_some_iff.1 b).1;have:=h j (List.mem_range.2 g)
  rw[f,b] at this;simp only[J1,Bool.false_or,Option.all_some,List.all_eq_true] at this;have:=this e (Array.mem_toList_iff.2 d)
  rw[c] at this;simpa using this
 .intro h j k
  cases f:l.getD j false with
  | false=>rfl
  | true=>
   simp only[J1,Bool.false_or];cases b:ops[j]? with
   | none=>rfl
   | some o=>
    simp only[Option.all_some,List.all_eq_true];intro e d;cases c:Region.binds md e with
    | false=>rfl
    | true=>rw[h j o b f e (Array.mem_toList_iff.1 d) c];rfl
theorem tJ (T:OkL P main Low pre ok)(y:∀u v,S u->Keep Low O u v->S v)(hi:ops[i]?=some oi)(J:∀(j:Nat) (o:Oper) n b,ops[j]?=some o->o.op≠.select n b):
  ∀(fuel:Nat) (listed:Array Bool) (a:Act) (w:World),(∀l:Array Bool,l.size=listed.size->Xn md ops l->l.getD i true=false->last∉Region.ready md ops l)->Xn md ops listed->
   (∀j f,ops[j]?=some f->j≠i->listed.getD j true=false->(∀e∈f.after,Region.binds md e=true->e.on≠i)->oi.apart ops f=true)->
   i∈Region.ready md ops listed->Qc P Low fn ops S O oi v a->S w->
   FA P Low pre ok fn Q x O ops md S last fuel (listed.setIfInBounds i true) (a.put oi.dst v) w->FA P Low pre ok fn Q x O ops md S last (fuel+1) listed a w:=by
 have D:∀fuel listed,∀a u v,(S u/\FA P Low pre ok fn Q x O ops md S last fuel listed a u)->Keep Low O u v->(S v/\FA P Low pre ok fn Q x O ops md S last fuel listed a v):=
  λfuel listed a u v h r=>⟨y _ _ h.1 r,FA.rely T y fuel listed a u v h.2 r⟩
 intro fuel;induction fuel with
 | zero=>
  intro listed a w p t _ c s hS H;have F:=p listed rfl t (mem_ready.1 c).1;refine⟨F,λh=>(by rw[h] at c;cases c),λj m=>?_⟩;by_cases d:j=i
  .subst d;exact s.opK y hi (D _ _) hS ⟨hS,H⟩
  .have:=ready_mono m d
   rw[H.1] at this;rw[List.mem_singleton.1 this] at m;exact absurd m F
 | succ fuel ih=>
  intro listed a w p t B c s hS H;refine⟨p listed rfl t (mem_ready.1 c).1,λh=>(by rw[h] at c;cases c),λj m=>?_⟩;by_cases d:j=i
  .subst d;exact s.opK y hi (D _ _) hS ⟨hS,H⟩
  .have g:=H.2.2 j (ready_mono m d)
   obtain⟨C,f,A,W⟩:=mem_ready.1 m;have M:∀e∈f.after,Region.binds md e=true->e.on≠i:=λe X K R=>by
    have g:=W e X K;have I:=(mem_ready.1 c).1;rw[R] at g;rcases EV i listed.size with z | z
    .simp[z] at I g;rw[I] at g;cases g
    .simp[LK z] at g
   have V:=xK A (B j f A d C M) (λn b=>J i oi n b hi) (λn b=>J j f n b A) s g;have L:∀k ok,ops[k]?=some ok->k≠i->(listed.setIfInBounds j true).getD k true=false->(∀e∈ok.after,Region.binds md e=true->e.on≠i)->oi.apart ops ok=true:=λk ok Y N E Z=>by
    refine B k ok Y N ?_ Z;by_cases G:j=k
    .subst G;exact C
    .rw[getD_set_ne true G] at E;exact E
   refine XF (λa' U q=>⟨q.2.1,ih (listed.setIfInBounds j true) a' U (λl hl=>p l (by rw[hl];simp)) (t.set m) L (ready_mono c (Ne.symm d)) q.1 q.2.1 ?_⟩) V;rw[Array.setIfInBounds_comm _ _ d];exact q.2.2
def allB:Nat->List (Array Bool)
 | 0=>[#[]]
 | n+1=>(allB n).flatMap λl=>[l.push false,l.push true]
theorem Wz:∀(n:Nat) (l:Array Bool),l.size=n->l∈allB n
 | 0,l,h=>by simp[allB];exact Array.size_eq_zero_iff.1 h
 | n+1,l,h=>by
  simp only[allB,List.mem_flatMap];refine⟨l.pop,Wz n _ (by simp[h]),?_⟩;have c:l.size≠0:=AU
  have e:l=l.pop.push (l[l.size - 1]'AU):=by
   apply Array.ext
   .simp;omega
   .intro i f d
    by_cases hi:i<l.size - 1
    .rw[Array.getElem_push_lt Bn];simp
    .have:i=l.size - 1:=by omega
     subst this;rw[Array.getElem_push];simp
  cases b:l[l.size - 1]'AU with
  | false=>rw[b] at e;rw[e];simp
  | true=>rw[b] at e;rw[e];simp
def waits (md:Region.Mode)(ops:Array Oper)(last i n:Nat):Bool:=(allB n).all λl=>!(L1 md ops l) || (l.getD i true || !(Region.ready md ops l).contains last)
def oy {n:Nat}(h:waits md ops last i n=true):∀l:Array Bool,l.size=n->Xn md ops l->l.getD i true=false->last∉Region.ready md ops l:=by
 intro l e d b c;have:=List.all_eq_true.1 h l (Wz n l e)
 rw[b,SX.2 d] at this;simp at this;exact this c
theorem Uw (T:OkL P main Low pre ok)(c:∀u v,S u->Keep Low O u v->S v){listed:Array Bool}{w:World}(hi:ops[i]?=some oi)
  (hl:waits md ops last i listed.size=true) (e:L1 md ops listed=true) (f:Region.noSelect ops=true) (b:Region.free md ops listed i=true) (hr:(Region.ready md ops listed).contains i=true) (d:Qc P Low fn ops S O oi v a) (hS:S w)
  (h:FA P Low pre ok fn Q x O ops md S last fuel (listed.setIfInBounds i true) (a.put oi.dst v) w):FA P Low pre ok fn Q x O ops md S last (fuel+1) listed a w:=
 tJ T c hi (Region.noSelect_spec f) fuel listed a w (oy hl) (SX.1 e) (Region.free_spec hi b) (by simpa using hr) d hS h
theorem gR (T:OkL P main Low pre ok){d:Nat}{w:World}(S:World->Prop)(last:Nat)(r:P.follows .mixedOrders=true)(s:ops.size=fuel+1)
  (h:∀c,Keep Low O w c->FA P Low pre ok fn Q x O ops .any S last fuel (Array.replicate ops.size false) a {c with drawn:=c.drawn+1}):WpK ok fn (.region d ops true) Q a x O w:=by
 intro b k g f m n;refine T.own rfl λc q _=>⟨_,_,_,stepG_region_draw,rfl,⟨λ_ _ _=>rfl,B7 _,rfl,rfl,rfl,AW⟩,?_⟩
 have e:grown O c {c with drawn:=c.drawn+1}=O:=Iw O c;rw[e];have:=tI T fuel (c.tape c.drawn (.order b.fn d)) (Array.replicate ops.size false) a _ (h c q) b k g f m n
 simp only[Region.schedule,r,Bool.true_or,if_true];simp only[Region.linearise,s] at this ⊢;exact this
end
def jD {P:Program}{w:World}{es:Array Event}(t:TypeId)(h:P.underlying t=some (.slice (P.elem t)))(a:Option Addr)(m r:Nat)(h1:(1:Int)<=(m:Int)+1):
  (Instr.sliceAt t (.slice a (m+1) r) (some (.int .i64 1)) none none).events P w es=es:=by
 simp only[Instr.sliceAt,Instr.slice,Instr.sliceBounds,Instr.sliceBound,asIntOf];simp[run_underlying h,h1]
def C4 (P:Program){α:Type}:Sem α->Prop
  | .pure _=>True
  | .load m _ k=>m=.plain/\∀v,C4 P (k v)
  | .store m _ _ k=>m=.plain/\C4 P k
  | .new _ k=>∀r,C4 P (k r)
  | .shape _ k=>∀s,C4 P (k s)
  | .freeze _ _ k=>C4 P k
  | .frozen _ k=>∀b,C4 P (k b)
  | .getObj _ _=>False
  | .setObj _ _ _=>False
  | .choose _ k=>∀n,C4 P (k n)
  | .sys _ _=>False
  | .program k=>C4 P (k P)
  | .mark m k=>m=.noRoom/\C4 P k
  | .halt _=>True
section
variable {P:Program}{α β:Type}
theorem tR {f:α->Sem β}(d:∀a,C4 P (f a)):∀(s:Sem α),C4 P s->C4 P (s.bind f):=by
  intro s;induction s with
  | pure a=>exact λ_=>d a
  | load m a k b=>exact λh=>⟨h.1,λv=>b v (h.2 v)⟩
  | store m a v k b=>exact λh=>⟨h.1,b h.2⟩
  | new o k b=>exact λh v=>b v (h v)
  | shape r k b=>exact λh v=>b v (h v)
  | freeze a n k b=>exact λh=>b h
  | frozen a k b=>exact λh v=>b v (h v)
  | getObj r k b=>exact λh=>h.elim
  | setObj r o k b=>exact λh=>h.elim
  | choose q k b=>exact λh v=>b v (h v)
  | sys c k b=>exact λh=>h.elim
  | program k b=>exact λh=>b P h
  | mark m k b=>exact λh=>⟨h.1,b h.2⟩
  | halt x=>exact λ_=>trivial
def J9 {s:Sem α}{f:α->Sem β}(c:C4 P s)(b:∀a,C4 P (f a)):C4 P (s>>=f):=tR b s c
def YW {a:α}:C4 P (pure a:Sem α):=trivial
def EvP (e:Event):Prop:=(∀a,e.loc=.cell a->e.sync=false)/\(∀m,e.loc=.mark m->m=.noRoom)
def zEa {p:Prop}(h:p:=by
 rcases Array.mem_append.1 he with he | he
 . exact h e he
 . obtain⟨x,_,rfl⟩:=Array.mem_map.1 he
   exact⟨λ_ _=>rfl,λm hm=>by cases hm⟩):p:=h
theorem qZ:∀(s:Sem α),C4 P s->∀(w:World) (f:Array Event),(∀e∈f,EvP e)->∀e∈(s.runT P w f).2,EvP e:=by
  intro s;induction s with
  | pure a=>exact λ_ w f h=>h
  | load m a k b=>
    rintro⟨rfl,d⟩ w f h;simp only[Sem.runT];split
    . refine b _ (d _) _ _ λe he=>?_
      rcases Array.mem_push.1 he with he | rfl
      . exact h e he
      . exact⟨λ_ _=>rfl,λm hm=>by cases hm⟩
    . split
      . refine b _ (d _) _ _ λe he=>?_
        exact zEa
      . exact h
  | store m a v k b=>
    rintro⟨rfl,d⟩ w f h;have key:∀g (t:Array Addr),∀e∈(k.runT P g (f++t.map λx=>⟨.cell x,true,false⟩)).2,EvP e:=λg t=>by
      refine b d _ _ λe he=>?_
      exact zEa
    have u:∀g (x:Addr),∀e∈(k.runT P g (f.push ⟨.cell x,true,false⟩)).2,EvP e:=λg x=>by
      refine b d _ _ λe he=>?_
      rcases Array.mem_push.1 he with he | rfl
      . exact h e he
      . exact⟨λ_ _=>rfl,λm hm=>by cases hm⟩
    cases v<;>simp only[Sem.runT]<;>first
      | exact h
      | (split
         . split
           . exact h
           . exact u _ _
         . split
           . exact key _ _
           . exact h)
  | new o k b=>exact λd w f h=>b _ (d _) _ _ h
  | shape r k b=>exact λd w f h=>b _ (d _) _ _ h
  | freeze a n k b=>exact λd w f h=>b d _ _ h
  | frozen a k b=>exact λd w f h=>b _ (d _) _ _ h
  | getObj r k b=>exact λh=>h.elim
  | setObj r o k b=>exact λh=>h.elim
  | choose q k b=>
    intro d w f h;simp only[Sem.runT];split
    . exact b _ (d _) _ _ h
    . exact b _ (d _) _ _ h
  | sys c k b=>exact λh=>h.elim
  | program k b=>exact λd w f h=>b _ d _ _ h
  | mark m k b=>
    rintro⟨rfl,d⟩ w f h;refine b d _ _ λe he=>?_
    rcases Array.mem_push.1 he with he | rfl
    . exact h e he
    . refine⟨λ_ hm=>?_,λm hm=>?_⟩
      . cases hm
      . cases hm;rfl
  | halt x=>exact λ_ w f h=>h
theorem Uc (a:Addr):∀(n i:Nat) (acc:Array Value),C4 P (loadCellsFrom a i n acc)
  | 0,_,_=>trivial
  | n+1,i,_acc=>J9 (s:=load (a.add i)) ⟨rfl,λ_=>trivial⟩ λ_v=>Uc a n (i+1) _
theorem Yd (a:Addr):∀(b:List Value) (i:Nat),C4 P (storeCells a b i)
  | [],_=>trivial
  | v::b,i=>J9 (s:=store (a.add i) v) ⟨rfl,trivial⟩ λ_=>Yd a b (i+1)
def iQ (size n:Nat)(v:Value):C4 P (Builtin.firstCells size n v):=by
  unfold Builtin.firstCells;split<;>first | exact trivial | exact Uc _ _ _ _
theorem XI {c:Prop}[Decidable c]{x y:Sem α}(hx:C4 P x)(b:C4 P y):C4 P (if c then x else y):=by split<;>assumption
def tM (m:String):C4 P (stuck m:Sem α):=trivial
def gh (u:Unsupported):C4 P (unsupported u:Sem α):=trivial
def UJ (q:Question):C4 P (choose q):=λ_=>trivial
def UI:C4 P (mark .noRoom):=⟨rfl,trivial⟩
def tP (r:Nat):C4 P (shape r):=λ_=>trivial
def qT (a:Addr):C4 P (frozen a):=λ_=>trivial
def iN (t:TypeId):C4 P (underlying t):=by
  unfold underlying;show C4 P (_:Sem _)
  refine J9 (s:=program) trivial λp=>?_
  split<;>trivial
def Ws (t:TypeId):C4 P (typeInfo t):=by
  unfold typeInfo;refine J9 (s:=program) trivial λp=>?_
  split<;>trivial
def qQ (t:TypeId):C4 P (sizeOf t):=by
  unfold sizeOf;exact J9 (Ws t) λ_=>trivial
def ia (t:TypeId):C4 P (zeroValue t):=by
  unfold zeroValue;refine J9 (Ws t) λ_=>?_
  split<;>trivial
def tU (v:Value):C4 P (asInt v):=by
  unfold asInt asIntOf;repeat' first | exact trivial | refine J9 ?_ (λ_=>?_) | split
def tQ (v:Value):C4 P (Builtin.lenOf v):=by
  unfold Builtin.lenOf;split<;>trivial
def iP (a:Addr)(n:Nat):C4 P (Builtin.holdsCells a n):=by
  unfold Builtin.holdsCells;refine J9 (tP _) λ_=>?_
  split<;>trivial
def lP (n:Nat):C4 P (askRoom n):=by
  unfold askRoom;split
  . exact UI
  . trivial
def qS (t:TypeId)(vs:Array Value):C4 P (newRow t vs):=by
  unfold newRow;repeat' first | exact trivial | exact UJ _ | (exact λ_=>trivial) | refine J9 ?_ (λ_=>?_) | split
def fw (e:RuntimeError):C4 P (runtimePanic e:Sem α):=by
  unfold runtimePanic;refine J9 (s:=program) trivial λp=>?_
  repeat' first | exact trivial | (exact λ_=>trivial) | refine J9 ?_ (λ_=>?_) | split
def ju (size b n:Nat)(base:Option Addr)(x:Value):C4 P (Builtin.mayShare size b n base x):=by
  unfold Builtin.mayShare;repeat' first
    | exact trivial
    | exact iP _ _
    | exact qT _
    | refine J9 ?_ (λ_=>?_)
    | refine XI ?_ ?_
    | split
set_option maxHeartbeats 1000000 in
theorem qb (ts:Array TypeId)(t:TypeId)(args:Array Value):C4 P (Builtin.append_ ts t args):=by
  unfold Builtin.append_;repeat' first
    | with_reducible exact YW
    | with_reducible exact tM _
    | with_reducible exact gh _
    | with_reducible exact iN _
    | with_reducible exact qQ _
    | with_reducible exact Ws _
    | with_reducible exact ia _
    | with_reducible exact tU _
    | with_reducible exact tQ _
    | with_reducible exact UJ _
    | with_reducible exact UI
    | with_reducible exact lP _
    | with_reducible exact qS _ _
    | with_reducible exact fw _
    | with_reducible exact ju _ _ _ _ _
    | with_reducible exact iQ _ _ _
    | with_reducible exact Yd _ _ _
    | with_reducible refine J9 ?_ (λ_=>?_)
    | with_reducible refine XI ?_ ?_
    | split
    | dsimp only
end
theorem Wu {w w':World}{base:Nat}{e:TypeId}{size:Nat}{v:Value}{n:Nat}{xs:List Value}(h:w.ownsRow base e size v n xs)(d:∀k,v.ownBlock=some k->w'.heap[k]?=w.heap[k]?):w'.ownsRow base e size v n xs:=by
 refine⟨h.1,?_⟩;rcases h.2 with c | ⟨g,cap,cur,hv,b,f,rest⟩
 .exact .inl c
 .exact .inr ⟨g,cap,cur,hv,b,(d g yEi).trans f,rest⟩
section
variable {τ:Type}{P:Program}{main:Bool}{Low:Nat}{pre:τ -> World -> Prop}{ok:τ -> (Nat -> Prop) -> World -> Goroutine -> Prop}{fn:FuncId}{Q:Vs τ}{a:Act}{x:τ}{O:Nat -> Prop}{w:World}
variable {ops:Array Oper}{i:Nat}{rest:List Nat}{o:Oper}
theorem SG (ab:OkL P main Low pre ok)(ho:ops[i]?=some o)(hw:Region.wanted o (yielded ops a.tmps)=true)(s y:Operand)(t:TypeId)(Y:o.op=.call {callee:=.builtin .append,args:=#[s,y],argTypes:=#[t,t]})
  (e:TypeId) (B:TypeInfo) (z:Value) (size bytes:Nat) (Z:P.underlying t=some (.slice e)) (hi:P.info? e=some B) (hz:B.zero=some z) (aa:B.size=size) (T:B.bytes=bytes) (ag:z.cells.size=size) (ah:0<size)
  (v:Value) (n:Nat) (xs:List Value) (V:a.eval s=v) (ai:w.ownsRow Low e size v n xs) (H:∀k,v.ownBlock=some k->O k)
  (b c:Nat) (news:List Value) (hx:a.eval y=.slice (some ⟨b,0,none⟩) 1 c) (hl:news.length=size) (M:O b) (ae:∀j u,news[j]?=some u->w.cell? ⟨b,j,none⟩=some u) (h1:∀u∈news,u.oneCell'=true)
  (N:n+1<=maxLen) (X:(n+1)*bytes<=140737488355328) {w₀:World} (hF:Held Low w₀ O w)
  (h:∀C D I,D.ownsRow Low e size C (n+1) (xs++news)->(∀k,C.ownBlock=some k->I k)->(∀k,C.ownBlock=some k->some k=v.ownBlock\/¬O k)->(∀k,O k->I k)->(∀k,O k->some k≠v.ownBlock->D.heap[k]?=w.heap[k]?)->Held Low w₀ I D->
   Tt ok fn ops rest Q (a.put o.dst C) x I D):Tt ok fn ops (i::rest) Q a x O w:=by
 refine Wy ab ho hw λF A _ aj hK=>?_
 have K:=Wu ai λk g=>A.mine k (H k g)
 have U:∀j u,news[j]?=some u->F.cell? ((⟨b,0,none⟩:Addr).add j)=some u:=λj u hu=>by
  have:=ae j u hu
  have e:(⟨b,0,none⟩:Addr).add j=⟨b,j,none⟩:=by unfold Addr.add;split<;>simp_all
  rw[e];rw[<-this];exact World.cell?_of_block (A.mine b M)
 have W:news.length=1*size:=AU
 obtain⟨C,D,hr,L,d,_,f⟩:=run_append_own_at (P:=P) F Low t o.type e B z size bytes Z hi hz aa T ag ah v n xs K ⟨b,0,none⟩ 1 c news W U h1 N X (CB hF.low A.size);refine uponK_append s y t Y V hx hr (hK _ _ ⟨⟨λk J hn=>d.block k J λe=>hn (H k e.symm),d.size,d.tape,d.os,d.output,λG E=>?_⟩,?_⟩)
 .replace E:=mem_listed E
  rw[events_append_op s y t Y V hx] at E;have hp:=qZ (P:=P) _ (qb _ _ _) F #[] (λe he=>by simp at he) G E;rcases events_append_where F Low t o.type e B z size bytes Z hi hz aa T v n xs K ⟨b,0,none⟩ 1 c news W U h1 N X G E with⟨ad,R,h⟩ | ⟨m,rfl,hm⟩
  .refine .inl ⟨ad,G.write,?_, .inl (.inl ?_)⟩
   .obtain⟨ak,wr,sy⟩:=G
    simp only at R;subst R;rw[show sy=false from hp.1 ad rfl]
   .rcases h with⟨_,h⟩ | h
    .rw[h];exact M
    .exact H _ h.symm
  .rw[show m=.noRoom from hm];exact .inr rfl
 .have r:=hF.rely A
  refine h C D _ L (λk g=>?_) (λk g=>?_) (λk A=>.inl A) (λk q ac=>(d.block k (r.up k q) ac).trans (A.mine k q)) ⟨λk J=>?_,CB r.low d.size,λk q=>?_,?_,?_⟩
  .rcases f with f | f
   .exact .inl (H k (f.symm.trans g))
   .have af:=(L.lt k g).2
    rw[f] at g;cases g;exact .inr ⟨B7 _,af⟩
  .rcases f with f | f
   .exact .inl (g.symm.trans f)
   .rw[f] at g
    cases g;exact .inr λhO=>Hj _ (r.up _ hO)
  .refine(d.block k (B8 J r.low) λe=>?_).trans (r.still k J)
   have:=(K.lt k e.symm).1
   omega
  .rcases q with q | ⟨_,q⟩
   .exact B8 (r.up k q) d.size
   .exact q
  .exact d.os.trans r.os
  .exact d.output.trans r.out
def PZ {w₀ c:World}(hF:Held Low w₀ O w)(d:Keep Low O w c)(ob:Obj):
  ∃e,e=(λb=>O b\/b=c.heap.size)/\CV Low O e w (c.alloc ob)/\Held Low w₀ e (c.alloc ob)/\e c.heap.size/\Low<=c.heap.size/\(∀x,O x->x≠c.heap.size)/\(c.alloc ob).heap[c.heap.size]?=some ob:=
 ⟨_,rfl,d.ext.trans ((hF.rely d).ext _),(hF.rely d).new _, .inr rfl,(hF.rely d).low,λx f=>by have:=(hF.rely d).up x f;omega,by simp only[World.alloc];exact MV⟩
def CV.row {w w':World}{c:Nat->Prop}{base:Nat}{e:TypeId}{size:Nat}{v:Value}{n:Nat}{xs:List Value}(h:CV Low O c w w')(hr:w.ownsRow base e size v n xs)(d:∀k,v.ownBlock=some k->O k\/k<Low):w'.ownsRow base e size v n xs:=
 Wu hr λk b=>(d k b).elim (h.mine k) (h.still k)
end
