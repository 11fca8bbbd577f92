import Derived.Test.YtobbpffcggchmaaGreatDoorCC5
import Derived.Lone
namespace Go.Co
open Go.Conc
section
variable {g:Goroutine}
variable {P : Program}{w : World}
def At3 (g:Goroutine)(c:Nat)(x:Bool)(w:World):GStep:=
 match w.heap[c]? with
 | some (.coro (some h))=>.go (if h=0 then {(if x then {g with status:=.finished} else {g with frame:=g.frame.finish undef,status:=.parked}:Goroutine) with status:=.running} else(if x then {g with status:=.finished} else {g with frame:=g.frame.finish undef,status:=.parked}))
   {w with heap:=w.heap.setIfInBounds c (.coro (if x then none else some 0))}
 | some (.coro none)=>endThrow g.frame "coroswitch on exited coro" w
 | _=>.ended (.stuck "coroswitch: no coroutine" "") w
def nxt (P:Program):GStep->GStep
 | .comm g d b a w _=>Uu P g d b a w
 | .coroswitch g c x w _=>At3 g c x w
 | s=>s
def An8:GStep->Stepped
 | .go g w _=>.next (solo g w)
 | .spawn g c w _=>.next {world:=w,gs:=#[g,c],rest:={timers:=#[],alone:=none,slice:=none} }
 | .ended o w _=>.ended o w
 | _=>.ended default default
theorem At4 (g:Goroutine)(cs:Array CommCase)(b:Bool)(sh:CommShape)(w:World):(∃c a,Uu P g cs b sh w=.go c a)\/∃o a,Uu P g cs b sh w=.ended o a:=by
 unfold Uu;split
 ·exact .inl ⟨_,_,rfl⟩
 ·exact .inr ⟨_,_,rfl⟩
theorem Ayb (h:g.status=.running):move P (solo g w)=.goroutine (solo g w) 0:=by
 simp[move,ask,askOn,solo,runnable_eq,due,ahead,Goroutine.canRun,List.range_succ,choose,pure,Sem.run,Question.forced,h]
theorem Awm (h:g.status=.running)(r:(stepG P true g w).fine):step P (solo g w)=An8 (nxt P (stepG P true g w)):=by
 rw[step,stepT,Ayb h];cases a:stepG P true g w with
 | go e d i=>simp[runT,solo,Array.swapAt!,a,nxt,An8]
 | ended o d i=>simp[runT,solo,Array.swapAt!,a,nxt,An8]
 | spawn e c d i=>simp[runT,solo,Array.swapAt!,a,nxt,An8]
 | comm e q b l d i=>
  have this:=Ae7 (P:=P) (sl:=none) Kv spz e q b l d;have s:(runT P (solo g w) 0).1=(communicate P {timers:=#[],alone:=none,slice:=none} #[fin] 0 e q b l d).1:=by
   simp[runT,solo,Array.swapAt!,a,fin]
  simp only[nxt];show(runT P (solo g w) 0).1=_
  rw[s,this];rcases At4 (P:=P) e q b l d with⟨u,t,j⟩ | ⟨o,t,j⟩
  ·rw[j];simp[An8,solo]
  ·rw[j];simp[An8]
 | coroswitch e c x d i=>
  simp only[nxt,At3];cases f:d.heap[c]? with
  | none=>simp[runT,solo,Array.swapAt!,a,f,An8]
  | some o=>
   cases o<;>try (simp[runT,solo,Array.swapAt!,a,f,An8];done)
   rename_i p;cases p with
   | none=>simp[runT,solo,Array.swapAt!,a,f,An8,endThrow,dieOf]
   | some k=>
    cases k with
    | zero=>cases x<;>simp[runT,solo,Array.swapAt!,a,f,An8,Array.modify,Array.modifyM]
    | succ k=>cases x<;>simp[runT,solo,Array.swapAt!,a,f,An8,Array.modify,Array.modifyM]
 | _=>rw[a] at r;exact r.elim
theorem Ayg (k:OkP P)(hg:OkG g)(w:World):Gl (λw=>nxt P (stepG P true g w)) w:=by
 refine Gl.next (F:=λw=>stepG P true g w) (nxt P) (Ayf k true g hg.1 w) ?_ ?_
 ·have j:=Ur k true g hg w
  generalize stepG P true g w=s at j ⊢;cases s with
  | go f a d=>exact(Dp _ _).loc _
  | ended o a d=>exact(Ba _ _).loc _
  | spawn f c a d=>exact Xq.loc (λ_=>⟨rfl,λ_=>rfl⟩) _
  | comm f q b l a d=>exact Ayj f q b l a
  | coroswitch f c x a d=>
   show Gl (λw=>At3 f c x w) a
   unfold At3;refine Gl.const ?_ ?_ fun i s e _=>?_
   ·split<;>rfl
   ·split<;>rfl
   ·show(match a.heap[c]? with
     | some (.coro (some h))=>GStep.go _ {rt i s e a with heap:=a.heap.setIfInBounds c _} _
     | some (.coro none)=>endThrow _ _ (rt i s e a)
     | _=>GStep.ended _ (rt i s e a) _)=_
    rcases a.heap[c]? with _ | o
    ·rfl
    ·cases o<;>first | rfl | (rename_i p;cases p<;>rfl)
  | _=>exact j.elim
 ·generalize stepG P true g w=s
  cases s with
  | go f a d=>exact id
  | ended o a d=>exact id
  | _=>exact λ_=>trivial
theorem Aix (p:OkP P)(hg:OkG g)(_hr:g.status=.running){g':Goroutine}{w':World}{es:Array Event}(h:nxt P (stepG P true g w)=.go g' w' es):OkG g'/\∀t,g'.status≠.sleeping t:=by
 have d:=Ur p true g hg w;generalize stepG P true g w=s at d h;cases s with
 | go a b c=>cases h;exact⟨d.1,d.2.1⟩
 | comm a k b j i r=>
  rcases At5 (P:=P) d.1 d.2.1 k b j i with⟨o,l,f⟩ | ⟨v,l,f,u,q⟩
  ·rw[show Uu P a k b j i=_ from h] at f;cases f
  ·rw[show Uu P a k b j i=_ from h] at f;cases f;exact⟨u,q⟩
 | coroswitch a c x i r=>
  simp only[nxt,At3] at h;split at h
  ·cases h
   refine⟨?_,λt e=>?_⟩
   ·split<;>(try split)<;>first | exact d.1 | exact⟨I8 d.1.1 _,d.1.2⟩
   ·split at e<;>(try split at e)<;>cases e
  ·cases h;exact⟨⟨d.1.1,Ko⟩,λt e=>by cases e⟩
  ·cases h
 | spawn _ _ _ _=>cases h
 | ended _ _ _=>cases h
 | _=>exact d.elim
end
section
variable {P : Program}{w : World}
def An7 (op:MemOp):Prop:=op.g=0/\∀m,op.act≠.mark m
theorem Ae9 (g:Goroutine)(cs:Array CommCase)(b:Bool)(sh:CommShape)(w:World):∀op∈Azz P g cs b sh w,An7 op:=by
 have e:∀(fn:FuncId) (pos:String) (a:MemAct),(∀m,a≠.mark m)->An7 {g:=0,fn,pos,act:=a}:=λ_ _ _ h=>⟨rfl,h⟩
 unfold Azz;unfold communicate;have j:=Aa9 (w:=w) Kv cs.zipIdx.toList;dsimp only;split
 ·intro op d;simp at d
 ·split
  ·split
   ·rw[Zq _ rfl]
    intro op d;simp at d
   ·intro op d;simp at d
  ·generalize l:(List.filter _ _:List (Nat × CommCase × List Way))=ready
   have o:∀x∈ready,∀y∈x.2.2,∀a b,y≠.partner a b:=by rw[<-l];exact j
   cases p:(Aga ready).run P w with
   | halt f i=>intro op d;simp at d
   | ok z i=>
    obtain⟨k,c,way⟩:=z;have q:=Aiu o p;dsimp only;cases way with
    | partner a b=>exact absurd rfl (q a b)
    | sendClosed=>
     dsimp only;cases (runtimePanic (.plain "send on closed channel"):Sem Unit).run P i with
     | ok a r=>intro op d;simp at d
     | halt f r=>cases f<;>(intro op d;simp at d)
    | closed=>
     intro op d;simp at d;subst d;exact e _ _ _ (λm h=>by cases h)
    | buffer=>
     rw[Hf Kv];intro op d;split at d
     ·simp_all
     ·simp at d;subst d;exact e _ _ _ (λm h=>by cases h)
     ·simp at d;rcases d with rfl | rfl<;>exact e _ _ _ (λm h=>by cases h)
     ·simp at d;rcases d with rfl | rfl<;>exact e _ _ _ (λm h=>by cases h)
     ·simp_all
     ·simp_all
     ·simp at d
theorem At1 (t u:Trace)(h:∀op∈u,An7 op):Deaf (t++u) 0=Deaf t 0:=by
 obtain⟨l⟩:=u;rw[Deaf_append];induction l generalizing t with
 | nil=>rfl
 | cons y l c=>
  have b:=h y spz;have d:deafStep 0 (Deaf t 0) y=Deaf t 0:=by
   unfold deafStep;split
   ·rename_i a;exact absurd a (b.2 _)
   ·rename_i a;exact absurd a (b.2 _)
   ·rfl
  rw[List.foldl_cons,d];exact c t (λop hop=>h op yEc)
theorem Anp (T:OkP P){gs:Array Goroutine}{g g':Goroutine}{w':World}{es:Array Event}{sl:Option (Nat × Nat)}(hg:OkG g)(J:gs[0]?=some g)
  (L:∀i x,0<i->gs[i]?=some x->x.status=.running\/x.status=.finished) (h:nxt P (stepG P true g w)=.go g' w' es) (y:g'.status=.running):
  ∃s D,runT P (crowd gs w sl) 0=(.next (crowd s w' sl),D)/\s.size=gs.size/\s[0]?=some g'/\(∀i,0<i->s[i]?=gs[i]?)/\(∀op∈D,op.g=0)/\∀t,Deaf t 0=0->Deaf (t++D) 0=0:=by
 have l:=Ur T true g hg w;obtain⟨hlt,R⟩:=Array.getElem?_eq_some_iff.1 J;have Q:Zf (gs.set 0 fin):=by
  intro x z;obtain⟨i,hi,rfl⟩:=Array.mem_iff_getElem.1 z;by_cases W:i=0
  ·subst W;simp[fin]
  ·have O:i<gs.size:=by simpa using hi
   have:(gs.set 0 fin)[i]=gs[i]:=by rw[Array.getElem_set_ne];omega
   rw[this];rcases L i gs[i] omz (Bay O) with N | N<;>rw[N]<;>simp
 have B:∀x:Goroutine,(gs.set 0 fin).setIfInBounds 0 x=gs.setIfInBounds 0 x:=λx=>set_setIfInBounds hlt _ _
 have H:gs.swapAt! 0 {(default:Goroutine) with status:=.finished}=(g,gs.set 0 fin):=by rw[swapAt_of_lt hlt,R];rfl
 have G:∀i,0<i->(gs.setIfInBounds 0 g')[i]?=gs[i]?:=λi hi=>Bah omz
 have A:∀F pos (es:Array Event),deafBehind 0 es=0->∀t,Deaf t 0=0->Deaf (t++MemOp.ofEvents 0 F pos es) 0=0:=λF pos es V t v=>by rw[Deaf_own,v,V]
 cases f:stepG P true g w with
 | go a b c=>
  rw[f] at h l;cases h;have q:=runT_crowd_go (P:=P) (sl:=sl) (i:=0) J (show stepG P (0==0) g w=_ from f);refine⟨_,_,q,spz,by simp[hlt],λi hi=>?_,λop d=>?_,A _ _ _ (l.2.2 y)⟩
  ·rw[Bah omz,Bbr]
   cases z:gs[i]? with
   | none=>rfl
   | some x=>
    simp only[Bbt,A96];unfold woken;split
    ·exact again_running _ (L i x hi z)
    ·rfl
  ·obtain⟨e,_,rfl⟩:=Go.Conc.mem_ofEvents d;rfl
 | comm a E b C r u=>
  rw[f] at h l;have I:=Ae7 (P:=P) (sl:=sl) Q yCa a E b C r;rw[show Uu P a E b C r=_ from h] at I;have q:runT P (crowd gs w sl) 0=(.next (crowd (gs.setIfInBounds 0 g') w' sl),MemOp.ofEvents 0 g.frame.fn g.frame.place u++Azz P a E b C r):=by
   show runT P {world:=w,gs:=gs,rest:={timers:=#[],alone:=none,slice:=sl} } 0=_
   unfold runT;simp only[H,beq_self_eq_true,f,I,B,GStep.es];rfl
  refine⟨_,_,q,spz,by simp[hlt],G,λop d=>?_,λt v=>?_⟩
  ·rcases Array.mem_append.1 d with d | d
   ·obtain⟨e,_,rfl⟩:=Go.Conc.mem_ofEvents d;rfl
   ·exact(Ae9 _ _ _ _ _ op d).1
  ·rw[<-Array.append_assoc,At1 _ _ (Ae9 _ _ _ _ _)]
   exact A _ _ _ l.2.2 t v
 | coroswitch a c x r u=>
  rw[f] at h l;have U:∀op∈MemOp.ofEvents 0 g.frame.fn g.frame.place u,op.g=0:=λop d=>by obtain⟨e,_,rfl⟩:=Go.Conc.mem_ofEvents d;rfl
  simp only[nxt,At3] at h;have q:runT P (crowd gs w sl) 0=(.next (crowd (gs.setIfInBounds 0 g') w' sl),MemOp.ofEvents 0 g.frame.fn g.frame.place u):=by
   show runT P {world:=w,gs:=gs,rest:={timers:=#[],alone:=none,slice:=sl} } 0=_
   unfold runT;simp only[H,beq_self_eq_true,f,GStep.es];cases K:r.heap[c]? with
   | none=>rw[K] at h;cases h
   | some o=>
    rw[K] at h;cases o<;>first | (cases h;done) | skip
    rename_i p;cases p with
    | none=>
     simp only[endThrow,dieOf] at h ⊢;cases h;simp only[B];rfl
    | some k=>
     simp only at h ⊢;cases h;by_cases M:k=0
     ·subst M
      simp only[if_true,B,crowd];congr 3;apply Array.ext_getElem?;intro j;by_cases S:j=0
      ·subst S
       rw[Ba9,if_pos rfl,A9v hlt,A9v hlt];rfl
      ·rw[Bah omz,Ba9]
       rw[if_neg omz,Bah omz]
     ·simp only[M,Bam] at y
      cases x<;>cases y
  exact⟨_,_,q,spz,by simp[hlt],G,U,A _ _ _ l.2⟩
 | spawn _ _ _ _=>rw[f] at h;cases h
 | ended _ _ _=>rw[f] at h;cases h
 | _=>rw[f] at l;exact l.elim
end
section
variable {g:Goroutine}{m m':Machine}{n:Nat}
variable {P : Program}
def Way (P:Program)(Stop:Goroutine->World->Prop)(g:Goroutine)(w:World):Prop:=
 ∀X:Goroutine->World->Prop,(∀g w,Stop g w->X g w)->
  (∀g w,OkG g->g.status=.running->(∀d,∃a b c,nxt P (stepG P true g (w.at d))=.go a b c/\a.status=.running/\X a b)->X g w)->X g w
theorem Way.stop {Stop:Goroutine->World->Prop}{w:World}(h:Stop g w):Way P Stop g w:=λ_ a _=>a g w h
theorem Way.step {Stop:Goroutine->World->Prop}{w:World}(hg:OkG g)(hr:g.status=.running)
  (h:∀d,∃a b c,nxt P (stepG P true g (w.at d))=.go a b c/\a.status=.running/\Way P Stop a b):Way P Stop g w:=
 λX i f=>f g w hg hr λd=>let ⟨a,b,c,e,r,k⟩:=h d;⟨a,b,c,e,r,k X i f⟩
theorem runN_ended {o:Outcome}{w:World}(h:step P m=.ended o w)(hr:runN P (n+1) m=.next m'):False:=by
 simp only[runN,h] at hr;cases hr
theorem endWith_ended (w:World)(b:Nat)(text:ByteArray)(o:Outcome):∃c a,endWith w b text o=.ended c a:=by
 unfold endWith;generalize w.sys (.write b text)=x;obtain⟨r,a⟩:=x;cases r<;>dsimp only<;>first
  | exact⟨_,_,rfl⟩
  | (split<;>exact⟨_,_,rfl⟩)
theorem Azx {w:World}(h1:g.status≠.running)(d:∀t,g.status≠.sleeping t):(∃o e,step P (solo g w)=.ended o e)\/step P (solo g w)=.next (solo g w):=by
 have k:runnable #[g] w.os.mono=[]:=by
  rw[runnable_eq];simp only[A86,A84,A85,A9c,List.range_one];rw[List.filter_cons];have:g.canRun w.os.mono=false:=by
   unfold Goroutine.canRun;cases a:g.status<;>first | rfl | exact absurd a h1 | exact absurd a (d _)
  simp[this]
 have l:ahead (solo g w) false=none:=by
  unfold ahead solo;cases a:g.status<;>first | exact absurd a (d _) | simp[a]
 have h:askOn P (solo g w)=(if #[g].any (·.status==.waiting) then .machine (.next (solo g w)) else
   let b:=if #[g].any (λg=>g.status==.blocked || g.status==.parked) then "all goroutines are asleep - deadlock!" else "no goroutines (main called runtime.Goexit) - deadlock!"
   match endWith w 2 (bytes ("fatal error: " ++b++ "\n")) (.fatal b) with
   | .ended o w _=>.machine (.ended o w)
   | _=>.machine (.ended (.stuck "" "") default)):=by
  unfold askOn;have j:runnable (solo g w).gs (solo g w).world.os.mono=[]:=k;have i:due (solo g w).rest.timers (solo g w).world.os.mono=[]:=by simp[due,solo]
  simp only[j,i,List.isEmpty_nil,if_true,A85,Nat.not_lt_zero,Bam];simp only[pure,Sem.run];rw[show({world:=(solo g w).world,gs:=(solo g w).gs,rest:=(solo g w).rest}:Machine)=solo g w from rfl,l];rfl
 have p:move P (solo g w)=askOn P (solo g w):=rfl;unfold step stepT;rw[p,h];by_cases c:#[g].any (·.status==.waiting)=true
 ·rw[if_pos c];exact .inr rfl
 ·rw[if_neg c]
  left;dsimp only;obtain⟨q,e,f⟩:=endWith_ended w 2 (bytes ("fatal error: " ++(if #[g].any (λg=>g.status==.blocked || g.status==.parked) then "all goroutines are asleep - deadlock!" else "no goroutines (main called runtime.Goexit) - deadlock!")++ "\n")) (.fatal (if #[g].any (λg=>g.status==.blocked || g.status==.parked) then "all goroutines are asleep - deadlock!" else "no goroutines (main called runtime.Goexit) - deadlock!"));rw[f];exact⟨_,_,rfl⟩
theorem Azy {w:World}(h1:g.status≠.running)(c:∀t,g.status≠.sleeping t):∀{n:Nat} {m:Machine},runN P n (solo g w)=.next m->m=solo g w:=by
 intro n;induction n with
 | zero=>intro m h;cases h;rfl
 | succ n b=>
  intro m h;rcases Azx (P:=P) (w:=w) h1 c with⟨o,d,a⟩ | a
  ·exact(runN_ended a h).elim
  ·simp only[runN,a] at h
   exact b h
theorem Aw3 (h:runN P n m=.next m'):m.gs.size<=m'.gs.size:=by
 have e:runNT P n m #[]=(.next m',(runNT P n m #[]).2):=Prod.ext (by rw[runNT_fst,h]) rfl;exact runNT_size P n m m' _ _ e
theorem Ann (C:OkP P)(Stop:Goroutine->World->Prop)(av:∀g w,Stop g w->g.status=.running)
  (blind:∀g w l e,Stop g w->Stop g {w with tape:=l,drawn:=e}) (t:Goroutine) (af:OkG t) (ac:t.status=.running) (w₀:World)
  (H:∀l e,∃n g' w',runN P n (solo t {w₀ with tape:=l,drawn:=e})=.next (solo g' w')/\Stop g' w'):Way P Stop t w₀:=by
 by_cases I:Way P Stop t w₀
 ·exact I
 exfalso;obtain⟨T,hT⟩:∃T,T=w₀.tape:=⟨_,rfl⟩
 have au:∀c:{c:Goroutine × World // OkG c.1/\c.2.tape=T/\¬Way P Stop c.1 c.2/\c.1.status=.running},∃x:Nat × Nat × {c:Goroutine × World // OkG c.1/\c.2.tape=T/\¬Way P Stop c.1 c.2/\c.1.status=.running},
   x.1<=x.2.1/\
   (∀l s e,s<=x.1->Ag T l s e x.2.1->nxt P (stepG P true c.1.1 (rt l s e (c.1.2.at x.1)))=(nxt P (stepG P true c.1.1 (c.1.2.at x.1))).turn (rt l s e))/\
   ((∃es,nxt P (stepG P true c.1.1 (c.1.2.at x.1))=.go x.2.2.1.1 x.2.2.1.2 es/\x.2.2.1.2.drawn=x.2.1)\/
    ¬∃g' w' es,nxt P (stepG P true c.1.1 (c.1.2.at x.1))=.go g' w' es/\g'.status=.running):=by
  rintro⟨⟨g,w⟩,D,ht,hw,U⟩;obtain⟨d,hd⟩:∃d,¬∃g' w' es,nxt P (stepG P true g (w.at d))=.go g' w' es/\g'.status=.running/\Way P Stop g' w':=by
   refine Classical.byContradiction λo=>hw (Way.step D U λd=>?_)
   exact Classical.byContradiction λq=>o ⟨d,q⟩
  obtain⟨l1,S,aa,N,l4,l5⟩:=Ayg C D (w.at d);have L:(w.at d).tape=T:=ht;by_cases Y:∃g' w' es,nxt P (stepG P true g (w.at d))=.go g' w' es/\g'.status=.running
  ·obtain⟨g',w',es,y,R⟩:=Y
   have W:=(Aix C D U y).1;rw[y] at l1 S N l4;refine⟨⟨d,aa,⟨⟨g',w'⟩,W,l1.trans L,λq=>hd ⟨g',w',es,y,R,q⟩,R⟩⟩,?_,fun l s e O M=>?_, .inl ⟨es,y,?_⟩⟩
   ·exact A9f S N
   ·exact l5 l s e O (by rw[L];exact M)
   ·exact(l4 R).symm
  ·refine⟨⟨d,aa,⟨⟨g,w⟩,D,ht,hw,U⟩⟩,?_,fun l s e O M=>?_, .inr Y⟩
   ·exact A9f S N
   ·exact l5 l s e O (by rw[L];exact M)
 obtain⟨f,hf⟩:=Classical.axiomOfChoice au;obtain⟨seq,ak,ao⟩:∃seq:Nat->{c:Goroutine × World // OkG c.1/\c.2.tape=T/\¬Way P Stop c.1 c.2/\c.1.status=.running},seq 0=⟨⟨t,w₀⟩,af,hT.symm,I,ac⟩/\∀i,seq (i+1)=(f (seq i)).2.2:=
  ⟨λi=>Nat.rec ⟨⟨t,w₀⟩,af,hT.symm,I,ac⟩ (λ_ c=>(f c).2.2) i,rfl,λ_=>rfl⟩
 obtain⟨p,an,K⟩:∃p:Nat->Nat,p 0=0/\∀i,p (i+1)=p i+((f (seq i)).2.1 - (f (seq i)).1):=
  ⟨λi=>Nat.rec 0 (λi x=>x+((f (seq i)).2.1 - (f (seq i)).1)) i,rfl,λ_=>rfl⟩
 have ai:∀i j,i<=j->p i<=p j:=by
  intro i j al;induction al with
  | refl=>exact A88 _
  | step _ G=>rw[K];omega
 obtain⟨l,aw⟩:∃l:Nat->Question->Nat,∀i j,(f (seq i)).1+j<(f (seq i)).2.1->l (p i+j)=T ((f (seq i)).1+j):=by
  classical
  refine⟨λn=>if h:∃i,p i<=n/\n<p (i+1) then T ((f (seq (Classical.choose h))).1+(n - p (Classical.choose h))) else λ_=>0,λi j r=>?_⟩;have ah:p i<=p i+j/\p i+j<p (i+1):=⟨omz,by rw[K];omega⟩
  have u:∃Z,p Z<=p i+j/\p i+j<p (Z+1):=⟨i,ah⟩
  have ag:=Classical.choose_spec u;have ap:Classical.choose u=i:=by
   rcases Nat.lt_trichotomy (Classical.choose u) i with h | h | h
   ·have:=ai _ _ (Nat.succ_le_of_lt h)
    have:=ag.2
    simp only[Nat.succ_eq_add_one] at*;omega
   ·exact h
   ·have:=ai _ _ (Nat.succ_le_of_lt h)
    have:=ag.1
    have:=ah.2
    simp only[Nat.succ_eq_add_one] at*;omega
  simp only[u,dite_true,ap];congr 1;omega
 have ab:∀i,step P (solo (seq i).1.1 {(seq i).1.2 with tape:=l,drawn:=p i})=An8 ((nxt P (stepG P true (seq i).1.1 ((seq i).1.2.at (f (seq i)).1))).turn (rt l (f (seq i)).1 (p i))):=by
  intro i;have W:=(seq i).2.1;have az:=(seq i).2.2.2.2;have A:({(seq i).1.2 with tape:=l,drawn:=p i}:World)=rt l (f (seq i)).1 (p i) ((seq i).1.2.at (f (seq i)).1):=by
   simp only[rt,World.at];congr 1;omega
  rw[A,Awm az (Ur C true _ W _)];rw[(hf (seq i)).2.1 l (f (seq i)).1 (p i) (A88 _) (λj r=>aw i j r)]
 have key:∀i,(∀j,j<i->∃es,nxt P (stepG P true (seq j).1.1 ((seq j).1.2.at (f (seq j)).1))=.go (f (seq j)).2.2.1.1 (f (seq j)).2.2.1.2 es/\(f (seq j)).2.2.1.2.drawn=(f (seq j)).2.1)->
   runN P i (solo t {w₀ with tape:=l,drawn:=0})=.next (solo (seq i).1.1 {(seq i).1.2 with tape:=l,drawn:=p i}):=by
  intro i;induction i with
  | zero=>intro _;rw[ak,an];rfl
  | succ i G=>
   intro z;obtain⟨es,y,hK⟩:=z i (Baa i);rw[runN_add,G (λj r=>z j (Nat.lt_succ_of_lt r))];simp only[runN];rw[ab i,y];simp only[GStep.turn,An8];rw[ao i,K i];have:rt l (f (seq i)).1 (p i) (f (seq i)).2.2.1.2={(f (seq i)).2.2.1.2 with tape:=l,drawn:=p i+((f (seq i)).2.1 - (f (seq i)).1)}:=by simp only[rt,hK]
   rw[this]
 obtain⟨n,g',w',o,V⟩:=H l 0;by_cases z:∀j,j<n->∃es,nxt P (stepG P true (seq j).1.1 ((seq j).1.2.at (f (seq j)).1))=.go (f (seq j)).2.2.1.1 (f (seq j)).2.2.1.2 es/\(f (seq j)).2.2.1.2.drawn=(f (seq j)).2.1
 ·rw[key n z] at o
  injection o with o
  have A:(seq n).1.1=g':=by
   have:=congrArg (λm:Machine=>m.gs[0]?) o
   simpa[solo] using this
  have e2:({(seq n).1.2 with tape:=l,drawn:=p n}:World)=w':=congrArg (λm:Machine=>m.world) o;rw[<-A,<-e2] at V;have:=blind _ _ (seq n).1.2.tape (seq n).1.2.drawn V
  exact(seq n).2.2.2.1 (Way.stop this)
 ·
  obtain⟨j,r,ar,ay⟩:∃j,j<n/\(¬∃es,nxt P (stepG P true (seq j).1.1 ((seq j).1.2.at (f (seq j)).1))=.go (f (seq j)).2.2.1.1 (f (seq j)).2.2.1.2 es/\(f (seq j)).2.2.1.2.drawn=(f (seq j)).2.1)/\
    ∀k,k<j->∃es,nxt P (stepG P true (seq k).1.1 ((seq k).1.2.at (f (seq k)).1))=.go (f (seq k)).2.2.1.1 (f (seq k)).2.2.1.2 es/\(f (seq k)).2.2.1.2.drawn=(f (seq k)).2.1:=by
   have u:∃j,j<n/\¬∃es,nxt P (stepG P true (seq j).1.1 ((seq j).1.2.at (f (seq j)).1))=.go (f (seq j)).2.2.1.1 (f (seq j)).2.2.1.2 es/\(f (seq j)).2.2.1.2.drawn=(f (seq j)).2.1:=by
    refine Classical.byContradiction λq=>z λj r=>Classical.byContradiction λJ=>q ⟨j,r,J⟩
   clear z;obtain⟨j,r⟩:=u;induction j using Nat.strongRecOn with
   | ind j G=>
    by_cases q:∃k,k<j/\¬∃es,nxt P (stepG P true (seq k).1.1 ((seq k).1.2.at (f (seq k)).1))=.go (f (seq k)).2.2.1.1 (f (seq k)).2.2.1.2 es/\(f (seq k)).2.2.1.2.drawn=(f (seq k)).2.1
    ·obtain⟨k,Q,ax⟩:=q
     exact G k Q ⟨omz,ax⟩
    ·exact⟨j,r.1,r.2,λk Q=>Classical.byContradiction λJ=>q ⟨k,Q,J⟩⟩
  have aj:=((hf (seq j)).2.2).resolve_left ar;obtain⟨m,rfl⟩:∃m,n=j+(m+1):=⟨n - j - 1,omz⟩
  rw[runN_add,key j ay] at o;simp only at o;have v:=ab j;have aA:=Ur C true (seq j).1.1 (seq j).2.1 ((seq j).1.2.at (f (seq j)).1);have ae:=λg' w' es h=>Aix (P:=P) (w:=(seq j).1.2.at (f (seq j)).1) C (seq j).2.1 (seq j).2.2.2.2 (g':=g') (w':=w') (es:=es) h
  generalize nxt P (stepG P true (seq j).1.1 ((seq j).1.2.at (f (seq j)).1))=X at aj v ae;cases X with
  | go B F E=>
   have h1:B.status≠.running:=λq=>aj ⟨B,F,E,rfl,q⟩
   have h2:=(ae B F E rfl).2;simp only[runN,v,GStep.turn,An8] at o;have:=Azy h1 h2 o
   have A:g'=B:=by
    have:=congrArg (λm:Machine=>m.gs[0]?) this
    simpa[solo] using this
   exact h1 (A ▸ av _ _ V)
  | spawn B c1 F E=>
   simp only[runN,v,GStep.turn,An8] at o;have:=Aw3 o
   simp[solo] at this
  | ended o1 F E=>exact runN_ended (by rw[v];rfl) o
  | comm a b c d e f=>exact runN_ended (by rw[v];rfl) o
  | _=>exact runN_ended (by rw[v];rfl) o
end
end Go.Co
