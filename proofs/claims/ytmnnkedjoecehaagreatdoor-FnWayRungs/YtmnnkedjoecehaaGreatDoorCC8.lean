import Derived.Test.YtmnnkedjoecehaaGreatDoorCC5
namespace Go.Co
open Go.Conc
section
variable {g:Goroutine}
variable {P : Program}{w : World}
def KC (g:Goroutine)(c:Nat)(x:Bool)(w:World):GStep:=
 match w.heap[c]? with
 | some (.coro (some h))=>.go (if h=0 then {(if x then {g with status:=.finished} else {g with frame:=g.frame.finish undef,status:=.parked}:Goroutine) with status:=.running} else(if x then {g with status:=.finished} else {g with frame:=g.frame.finish undef,status:=.parked}))
   {w with heap:=w.heap.setIfInBounds c (.coro (if x then none else some 0))}
 | some (.coro none)=>endThrow g.frame "coroswitch on exited coro" w
 | _=>.ended (.stuck "coroswitch: no coroutine" "") w
def nxt (P:Program):GStep->GStep
 | .comm g d b a w _=>Wq P g d b a w
 | .coroswitch g c x w _=>KC g c x w
 | s=>s
def E1:GStep->Stepped
 | .go g w _=>.next (solo g w)
 | .spawn g c w _=>.next {world:=w,gs:=#[g,c],rest:={timers:=#[],alone:=none,slice:=none} }
 | .ended o w _=>.ended o w
 | _=>.ended default default
theorem Av6 (g:Goroutine)(cs:Array CommCase)(b:Bool)(sh:CommShape)(w:World):(∃c a,Wq P g cs b sh w=.go c a)\/∃o a,Wq P g cs b sh w=.ended o a:=by
 unfold Wq;split
 ·exact .inl ⟨_,_,rfl⟩
 ·exact .inr ⟨_,_,rfl⟩
theorem Aza (h:g.status=.running):move P (solo g w)=.goroutine (solo g w) 0:=by
 simp[move,ask,askOn,solo,runnable_eq,due,ahead,Goroutine.canRun,List.range_succ,choose,pure,Sem.run,Question.forced,h]
theorem Axy (h:g.status=.running)(r:(stepG P true g w).fine):step P (solo g w)=E1 (nxt P (stepG P true g w)):=by
 rw[step,stepT,Aza h];cases a:stepG P true g w with
 | go e d i=>simp[runT,solo,Array.swapAt!,a,nxt,E1]
 | ended o d i=>simp[runT,solo,Array.swapAt!,a,nxt,E1]
 | spawn e c d i=>simp[runT,solo,Array.swapAt!,a,nxt,E1]
 | comm e j b l d i=>
  have this:=VL (P:=P) (sl:=none) L9 AU e j b l d;have t:(runT P (solo g w) 0).1=(communicate P {timers:=#[],alone:=none,slice:=none} #[fin] 0 e j b l d).1:=by
   simp[runT,solo,Array.swapAt!,a,fin]
  simp only[nxt];show(runT P (solo g w) 0).1=_
  rw[t,this];rcases Av6 (P:=P) e j b l d with⟨u,s,q⟩ | ⟨o,s,q⟩
  ·rw[q];simp[E1,solo]
  ·rw[q];simp[E1]
 | coroswitch e c x d i=>
  simp only[nxt,KC];cases f:d.heap[c]? with
  | none=>simp[runT,solo,Array.swapAt!,a,f,E1]
  | some o=>
   cases o<;>try (simp[runT,solo,Array.swapAt!,a,f,E1];done)
   rename_i p;cases p with
   | none=>simp[runT,solo,Array.swapAt!,a,f,E1,endThrow,dieOf]
   | some k=>
    cases k with
    | zero=>cases x<;>simp[runT,solo,Array.swapAt!,a,f,E1,Array.modify,Array.modifyM]
    | succ k=>cases x<;>simp[runT,solo,Array.swapAt!,a,f,E1,Array.modify,Array.modifyM]
 | _=>rw[a] at r;exact r.elim
theorem eg (j:OkP P)(hg:OkG g)(w:World):G6 (λw=>nxt P (stepG P true g w)) w:=by
 refine G6.next (F:=λw=>stepG P true g w) (nxt P) (Azd j true g hg.1 w) ?_ ?_
 ·have k:=Wl j true g hg w
  generalize stepG P true g w=s at k ⊢;cases s with
  | go d a f=>exact(D8 _ _).loc _
  | ended o a f=>exact(A7 _ _).loc _
  | spawn d c a f=>exact Zd.loc (λ_=>⟨rfl,λ_=>rfl⟩) _
  | comm d l b q a f=>exact Azh d l b q a
  | coroswitch d c x a f=>
   show G6 (λw=>KC d c x w) a
   unfold KC;refine G6.const ?_ ?_ fun i s e _=>?_
   ·split<;>rfl
   ·split<;>rfl
   ·show(match a.heap[c]? with
     | some (.coro (some h))=>GStep.go _ {rt i s e a with heap:=a.heap.setIfInBounds c _} _
     | some (.coro none)=>endThrow _ _ (rt i s e a)
     | _=>GStep.ended _ (rt i s e a) _)=_
    rcases a.heap[c]? with _ | o
    ·rfl
    ·cases o<;>first | rfl | (rename_i p;cases p<;>rfl)
  | _=>exact k.elim
 ·generalize stepG P true g w=s
  cases s with
  | go d a f=>exact id
  | ended o a f=>exact id
  | _=>exact λ_=>trivial
theorem PZ (q:OkP P)(hg:OkG g)(_hr:g.status=.running){g':Goroutine}{w':World}{es:Array Event}(h:nxt P (stepG P true g w)=.go g' w' es):OkG g'/\∀t,g'.status≠.sleeping t:=by
 have d:=Wl q true g hg w;generalize stepG P true g w=s at d h;cases s with
 | go a b c=>cases h;exact⟨d.1,d.2.1⟩
 | comm a j b k i r=>
  rcases Av7 (P:=P) d.1 d.2.1 j b k i with⟨o,u,e⟩ | ⟨v,u,e,p,l⟩
  ·rw[show Wq P a j b k i=_ from h] at e;cases e
  ·rw[show Wq P a j b k i=_ from h] at e;cases e;exact⟨p,l⟩
 | coroswitch a c x i r=>
  simp only[nxt,KC] at h;split at h
  ·cases h
   refine⟨?_,λt f=>?_⟩
   ·split<;>(try split)<;>first | exact d.1 | exact⟨Jp d.1.1 _,d.1.2⟩
   ·split at f<;>(try split at f)<;>cases f
  ·cases h;exact⟨⟨d.1.1,Lm⟩,λt f=>by cases f⟩
  ·cases h
 | spawn _ _ _ _=>cases h
 | ended _ _ _=>cases h
 | _=>exact d.elim
end
section
variable {P : Program}{w : World}
def QK (op:MemOp):Prop:=op.g=0/\∀m,op.act≠.mark m
theorem VN (g:Goroutine)(cs:Array CommCase)(b:Bool)(sh:CommShape)(w:World):∀op∈KJ P g cs b sh w,QK op:=by
 have e:∀(fn:FuncId) (pos:String) (a:MemAct),(∀m,a≠.mark m)->QK {g:=0,fn,pos,act:=a}:=λ_ _ _ h=>⟨rfl,h⟩
 unfold KJ;unfold communicate;have o:=OA (w:=w) L9 cs.zipIdx.toList;dsimp only;split
 ·intro op d;simp at d
 ·split
  ·split
   ·rw[LQ _ rfl]
    intro op d;simp at d
   ·intro op d;simp at d
  ·generalize j:(List.filter _ _:List (Nat × CommCase × List Way))=ready
   have l:∀x∈ready,∀y∈x.2.2,∀a b,y≠.partner a b:=by rw[<-j];exact o
   cases q:(GY ready).run P w with
   | halt f i=>intro op d;simp at d
   | ok z i=>
    obtain⟨k,c,way⟩:=z;have p:=PY l q;dsimp only;cases way with
    | partner a b=>exact absurd rfl (p a b)
    | sendClosed=>
     dsimp only;cases (runtimePanic (.plain "send on closed channel"):Sem Unit).run P i with
     | ok a r=>intro op d;simp at d
     | halt f r=>cases f<;>(intro op d;simp at d)
    | closed=>
     intro op d;simp at d;subst d;exact e _ _ _ (λm h=>by cases h)
    | buffer=>
     rw[Ic L9];intro op d;split at d
     ·simp_all
     ·simp at d;subst d;exact e _ _ _ (λm h=>by cases h)
     ·simp at d;rcases d with rfl | rfl<;>exact e _ _ _ (λm h=>by cases h)
     ·simp at d;rcases d with rfl | rfl<;>exact e _ _ _ (λm h=>by cases h)
     ·simp_all
     ·simp_all
     ·simp at d
theorem Av4 (t u:Trace)(h:∀op∈u,QK op):Deaf (t++u) 0=Deaf t 0:=by
 obtain⟨l⟩:=u;rw[Deaf_append];induction l generalizing t with
 | nil=>rfl
 | cons y l c=>
  have b:=h y AU;have d:deafStep 0 (Deaf t 0) y=Deaf t 0:=by
   unfold deafStep;split
   ·rename_i a;exact absurd a (b.2 _)
   ·rename_i a;exact absurd a (b.2 _)
   ·rfl
  rw[List.foldl_cons,d];exact c t (λop hop=>h op yFb)
theorem tn (Q:OkP P){gs:Array Goroutine}{g g':Goroutine}{w':World}{es:Array Event}{sl:Option (Nat × Nat)}(hg:OkG g)(K:gs[0]?=some g)
  (N:∀i x,0<i->gs[i]?=some x->x.status=.running\/x.status=.finished) (h:nxt P (stepG P true g w)=.go g' w' es) (y:g'.status=.running):
  ∃u E,runT P (crowd gs w sl) 0=(.next (crowd u w' sl),E)/\u.size=gs.size/\u[0]?=some g'/\(∀i,0<i->u[i]?=gs[i]?)/\(∀op∈E,op.g=0)/\∀t,Deaf t 0=0->Deaf (t++E) 0=0:=by
 have l:=Wl Q true g hg w;obtain⟨hlt,U⟩:=Array.getElem?_eq_some_iff.1 K;have V:JD (gs.set 0 fin):=by
  intro x C;obtain⟨i,hi,rfl⟩:=Array.mem_iff_getElem.1 C;by_cases T:i=0
  ·subst T;simp[fin]
  ·have S:i<gs.size:=by simpa using hi
   have:(gs.set 0 fin)[i]=gs[i]:=by rw[Array.getElem_set_ne];omega
   rw[this];rcases N i gs[i] AQ (JQ S) with H | H<;>rw[H]<;>simp
 have A:∀x:Goroutine,(gs.set 0 fin).setIfInBounds 0 x=gs.setIfInBounds 0 x:=λx=>set_setIfInBounds hlt _ _
 have M:gs.swapAt! 0 {(default:Goroutine) with status:=.finished}=(g,gs.set 0 fin):=by rw[swapAt_of_lt hlt,U];rfl
 have G:∀i,0<i->(gs.setIfInBounds 0 g')[i]?=gs[i]?:=λi hi=>Hj AQ
 have v:∀F pos (es:Array Event),deafBehind 0 es=0->∀t,Deaf t 0=0->Deaf (t++MemOp.ofEvents 0 F pos es) 0=0:=λF pos es R t D=>by rw[Deaf_own,D,R]
 cases f:stepG P true g w with
 | go a b c=>
  rw[f] at h l;cases h;have q:=runT_crowd_go (P:=P) (sl:=sl) (i:=0) K (show stepG P (0==0) g w=_ from f);refine⟨_,_,q,AU,by simp[hlt],λi hi=>?_,λop d=>?_,v _ _ _ (l.2.2 y)⟩
  ·rw[Hj AQ,K9]
   cases C:gs[i]? with
   | none=>rfl
   | some x=>
    simp only[IX,C0];unfold woken;split
    ·exact again_running _ (N i x hi C)
    ·rfl
  ·obtain⟨e,_,rfl⟩:=Go.Conc.mem_ofEvents d;rfl
 | comm a z b B r s=>
  rw[f] at h l;have L:=VL (P:=P) (sl:=sl) V Bm a z b B r;rw[show Wq P a z b B r=_ from h] at L;have q:runT P (crowd gs w sl) 0=(.next (crowd (gs.setIfInBounds 0 g') w' sl),MemOp.ofEvents 0 g.frame.fn g.frame.place s++KJ P a z b B r):=by
   show runT P {world:=w,gs:=gs,rest:={timers:=#[],alone:=none,slice:=sl} } 0=_
   unfold runT;simp only[M,beq_self_eq_true,f,L,A,GStep.es];rfl
  refine⟨_,_,q,AU,by simp[hlt],G,λop d=>?_,λt D=>?_⟩
  ·rcases Array.mem_append.1 d with d | d
   ·obtain⟨e,_,rfl⟩:=Go.Conc.mem_ofEvents d;rfl
   ·exact(VN _ _ _ _ _ op d).1
  ·rw[<-Array.append_assoc,Av4 _ _ (VN _ _ _ _ _)]
   exact v _ _ _ l.2.2 t D
 | coroswitch a c x r s=>
  rw[f] at h l;have W:∀op∈MemOp.ofEvents 0 g.frame.fn g.frame.place s,op.g=0:=λop d=>by obtain⟨e,_,rfl⟩:=Go.Conc.mem_ofEvents d;rfl
  simp only[nxt,KC] at h;have q:runT P (crowd gs w sl) 0=(.next (crowd (gs.setIfInBounds 0 g') w' sl),MemOp.ofEvents 0 g.frame.fn g.frame.place s):=by
   show runT P {world:=w,gs:=gs,rest:={timers:=#[],alone:=none,slice:=sl} } 0=_
   unfold runT;simp only[M,beq_self_eq_true,f,GStep.es];cases I:r.heap[c]? with
   | none=>rw[I] at h;cases h
   | some o=>
    rw[I] at h;cases o<;>first | (cases h;done) | skip
    rename_i p;cases p with
    | none=>
     simp only[endThrow,dieOf] at h ⊢;cases h;simp only[A];rfl
    | some k=>
     simp only at h ⊢;cases h;by_cases J:k=0
     ·subst J
      simp only[if_true,A,crowd];congr 3;apply Array.ext_getElem?;intro j;by_cases O:j=0
      ·subst O
       rw[JO,if_pos rfl,FH hlt,FH hlt];rfl
      ·rw[Hj AQ,JO]
       rw[if_neg AQ,Hj AQ]
     ·simp only[J,DC] at y
      cases x<;>cases y
  exact⟨_,_,q,AU,by simp[hlt],G,W,v _ _ _ l.2⟩
 | spawn _ _ _ _=>rw[f] at h;cases h
 | ended _ _ _=>rw[f] at h;cases h
 | _=>rw[f] at l;exact l.elim
end
section
variable {g:Goroutine}{m m':Machine}{n:Nat}
variable {P : Program}
def Way (P:Program)(Stop:Goroutine->World->Prop)(g:Goroutine)(w:World):Prop:=
 ∀X:Goroutine->World->Prop,(∀g w,Stop g w->X g w)->
  (∀g w,OkG g->g.status=.running->(∀d,∃a b c,nxt P (stepG P true g (w.at d))=.go a b c/\a.status=.running/\X a b)->X g w)->X g w
theorem Way.stop {Stop:Goroutine->World->Prop}{w:World}(h:Stop g w):Way P Stop g w:=λ_ a _=>a g w h
theorem Way.step {Stop:Goroutine->World->Prop}{w:World}(hg:OkG g)(hr:g.status=.running)
  (h:∀d,∃a b c,nxt P (stepG P true g (w.at d))=.go a b c/\a.status=.running/\Way P Stop a b):Way P Stop g w:=
 λX i f=>f g w hg hr λd=>let ⟨a,b,c,e,r,k⟩:=h d;⟨a,b,c,e,r,k X i f⟩
theorem runN_ended {o:Outcome}{w:World}(h:step P m=.ended o w)(hr:runN P (n+1) m=.next m'):False:=by
 simp only[runN,h] at hr;cases hr
theorem endWith_ended (w:World)(a:Nat)(text:ByteArray)(o:Outcome):∃c b,endWith w a text o=.ended c b:=by
 unfold endWith;generalize w.sys (.write a text)=x;obtain⟨r,b⟩:=x;cases r<;>dsimp only<;>first
  | exact⟨_,_,rfl⟩
  | (split<;>exact⟨_,_,rfl⟩)
theorem fj {w:World}(h1:g.status≠.running)(b:∀t,g.status≠.sleeping t):(∃o e,step P (solo g w)=.ended o e)\/step P (solo g w)=.next (solo g w):=by
 have h:runnable #[g] w.os.mono=[]:=by
  rw[runnable_eq];simp only[Cd,CH,CP,CV,List.range_one];rw[List.filter_cons];have:g.canRun w.os.mono=false:=by
   unfold Goroutine.canRun;cases a:g.status<;>first | rfl | exact absurd a h1 | exact absurd a (b _)
  simp[this]
 have f:ahead (solo g w) false=none:=by
  unfold ahead solo;cases a:g.status<;>first | exact absurd a (b _) | simp[a]
 have i:askOn P (solo g w)=(if #[g].any (·.status==.waiting) then .machine (.next (solo g w)) else
   let d:=if #[g].any (λg=>g.status==.blocked || g.status==.parked) then "all goroutines are asleep - deadlock!" else "no goroutines (main called runtime.Goexit) - deadlock!"
   match endWith w 2 (bytes ("fatal error: " ++d++ "\n")) (.fatal d) with
   | .ended o w _=>.machine (.ended o w)
   | _=>.machine (.ended (.stuck "" "") default)):=by
  unfold askOn;have l:runnable (solo g w).gs (solo g w).world.os.mono=[]:=h;have p:due (solo g w).rest.timers (solo g w).world.os.mono=[]:=by simp[due,solo]
  simp only[l,p,List.isEmpty_nil,if_true,CP,Nat.not_lt_zero,DC];simp only[pure,Sem.run];rw[show({world:=(solo g w).world,gs:=(solo g w).gs,rest:=(solo g w).rest}:Machine)=solo g w from rfl,f];rfl
 have k:move P (solo g w)=askOn P (solo g w):=rfl;unfold step stepT;rw[k,i];by_cases c:#[g].any (·.status==.waiting)=true
 ·rw[if_pos c];exact .inr rfl
 ·rw[if_neg c]
  left;dsimp only;obtain⟨q,e,j⟩:=endWith_ended w 2 (bytes ("fatal error: " ++(if #[g].any (λg=>g.status==.blocked || g.status==.parked) then "all goroutines are asleep - deadlock!" else "no goroutines (main called runtime.Goexit) - deadlock!")++ "\n")) (.fatal (if #[g].any (λg=>g.status==.blocked || g.status==.parked) then "all goroutines are asleep - deadlock!" else "no goroutines (main called runtime.Goexit) - deadlock!"));rw[j];exact⟨_,_,rfl⟩
theorem fk {w:World}(h1:g.status≠.running)(b:∀t,g.status≠.sleeping t):∀{n:Nat} {m:Machine},runN P n (solo g w)=.next m->m=solo g w:=by
 intro n;induction n with
 | zero=>intro m h;cases h;rfl
 | succ n c=>
  intro m h;rcases fj (P:=P) (w:=w) h1 b with⟨o,d,a⟩ | a
  ·exact(runN_ended a h).elim
  ·simp only[runN,a] at h
   exact c h
theorem Ayf (h:runN P n m=.next m'):m.gs.size<=m'.gs.size:=by
 have e:runNT P n m #[]=(.next m',(runNT P n m #[]).2):=Prod.ext (by rw[runNT_fst,h]) rfl;exact runNT_size P n m m' _ _ e
theorem tg (C:OkP P)(Stop:Goroutine->World->Prop)(an:∀g w,Stop g w->g.status=.running)
  (blind:∀g w l e,Stop g w->Stop g {w with tape:=l,drawn:=e}) (t:Goroutine) (ae:OkG t) (aa:t.status=.running) (w₀:World)
  (H:∀l e,∃n g' w',runN P n (solo t {w₀ with tape:=l,drawn:=e})=.next (solo g' w')/\Stop g' w'):Way P Stop t w₀:=by
 by_cases I:Way P Stop t w₀
 ·exact I
 exfalso;obtain⟨T,hT⟩:=AA w₀.tape
 have ay:∀c:{c:Goroutine × World // OkG c.1/\c.2.tape=T/\¬Way P Stop c.1 c.2/\c.1.status=.running},∃x:Nat × Nat × {c:Goroutine × World // OkG c.1/\c.2.tape=T/\¬Way P Stop c.1 c.2/\c.1.status=.running},
   x.1<=x.2.1/\
   (∀l s e,s<=x.1->Ag T l s e x.2.1->nxt P (stepG P true c.1.1 (rt l s e (c.1.2.at x.1)))=(nxt P (stepG P true c.1.1 (c.1.2.at x.1))).turn (rt l s e))/\
   ((∃es,nxt P (stepG P true c.1.1 (c.1.2.at x.1))=.go x.2.2.1.1 x.2.2.1.2 es/\x.2.2.1.2.drawn=x.2.1)\/
    ¬∃g' w' es,nxt P (stepG P true c.1.1 (c.1.2.at x.1))=.go g' w' es/\g'.status=.running):=by
  rintro⟨⟨g,w⟩,D,ht,hw,J⟩;obtain⟨d,hd⟩:∃d,¬∃g' w' es,nxt P (stepG P true g (w.at d))=.go g' w' es/\g'.status=.running/\Way P Stop g' w':=by
   refine Classical.byContradiction λo=>hw (Way.step D J λd=>?_)
   exact Classical.byContradiction λr=>o ⟨d,r⟩
  obtain⟨l1,L,ac,S,l4,l5⟩:=eg C D (w.at d);have K:(w.at d).tape=T:=ht;by_cases hc:∃g' w' es,nxt P (stepG P true g (w.at d))=.go g' w' es/\g'.status=.running
  ·obtain⟨g',w',es,v,U⟩:=hc
   have R:=(PZ C D J v).1;rw[v] at l1 L S l4;refine⟨⟨d,ac,⟨⟨g',w'⟩,R,l1.trans K,λr=>hd ⟨g',w',es,v,U,r⟩,U⟩⟩,?_,fun l s e V N=>?_, .inl ⟨es,v,?_⟩⟩
   ·exact CM L S
   ·exact l5 l s e V (by rw[K];exact N)
   ·exact(l4 U).symm
  ·refine⟨⟨d,ac,⟨⟨g,w⟩,D,ht,hw,J⟩⟩,?_,fun l s e V N=>?_, .inr hc⟩
   ·exact CM L S
   ·exact l5 l s e V (by rw[K];exact N)
 obtain⟨f,hf⟩:=Classical.axiomOfChoice ay;obtain⟨seq,av,ar⟩:∃seq:Nat->{c:Goroutine × World // OkG c.1/\c.2.tape=T/\¬Way P Stop c.1 c.2/\c.1.status=.running},seq 0=⟨⟨t,w₀⟩,ae,hT.symm,I,aa⟩/\∀i,seq (i+1)=(f (seq i)).2.2:=
  ⟨λi=>Nat.rec ⟨⟨t,w₀⟩,ae,hT.symm,I,aa⟩ (λ_ c=>(f c).2.2) i,rfl,λ_=>rfl⟩
 obtain⟨p,aw,W⟩:∃p:Nat->Nat,p 0=0/\∀i,p (i+1)=p i+((f (seq i)).2.1 - (f (seq i)).1):=
  ⟨λi=>Nat.rec 0 (λi x=>x+((f (seq i)).2.1 - (f (seq i)).1)) i,rfl,λ_=>rfl⟩
 have ai:∀i j,i<=j->p i<=p j:=by
  intro i j al;induction al with
  | refl=>exact CG _
  | step _ E=>rw[W];omega
 obtain⟨l,au⟩:∃l:Nat->Question->Nat,∀i j,(f (seq i)).1+j<(f (seq i)).2.1->l (p i+j)=T ((f (seq i)).1+j):=by
  classical
  refine⟨λn=>if h:∃i,p i<=n/\n<p (i+1) then T ((f (seq (Classical.choose h))).1+(n - p (Classical.choose h))) else λ_=>0,λi j q=>?_⟩;have Y:p i<=p i+j/\p i+j<p (i+1):=⟨AQ,by rw[W];omega⟩
  have u:∃i',p i'<=p i+j/\p i+j<p (i'+1):=⟨i,Y⟩
  have af:=Classical.choose_spec u;have aj:Classical.choose u=i:=by
   rcases Nat.lt_trichotomy (Classical.choose u) i with h | h | h
   ·have:=ai _ _ (Nat.succ_le_of_lt h)
    have:=af.2
    simp only[Nat.succ_eq_add_one] at*;omega
   ·exact h
   ·have:=ai _ _ (Nat.succ_le_of_lt h)
    have:=af.1
    have:=Y.2
    simp only[Nat.succ_eq_add_one] at*;omega
  simp only[u,dite_true,aj];congr 1;omega
 have ab:∀i,step P (solo (seq i).1.1 {(seq i).1.2 with tape:=l,drawn:=p i})=E1 ((nxt P (stepG P true (seq i).1.1 ((seq i).1.2.at (f (seq i)).1))).turn (rt l (f (seq i)).1 (p i))):=by
  intro i;have R:=(seq i).2.1;have ax:=(seq i).2.2.2.2;have B:({(seq i).1.2 with tape:=l,drawn:=p i}:World)=rt l (f (seq i)).1 (p i) ((seq i).1.2.at (f (seq i)).1):=by
   simp only[rt,World.at];congr 1;omega
  rw[B,Axy ax (Wl C true _ R _)];rw[(hf (seq i)).2.1 l (f (seq i)).1 (p i) (CG _) (λj q=>au i j q)]
 have key:∀i,(∀j,j<i->∃es,nxt P (stepG P true (seq j).1.1 ((seq j).1.2.at (f (seq j)).1))=.go (f (seq j)).2.2.1.1 (f (seq j)).2.2.1.2 es/\(f (seq j)).2.2.1.2.drawn=(f (seq j)).2.1)->
   runN P i (solo t {w₀ with tape:=l,drawn:=0})=.next (solo (seq i).1.1 {(seq i).1.2 with tape:=l,drawn:=p i}):=by
  intro i;induction i with
  | zero=>intro _;rw[av,aw];rfl
  | succ i E=>
   intro z;obtain⟨es,v,hK⟩:=z i (DV i);rw[runN_add,E (λj q=>z j (Nat.lt_succ_of_lt q))];simp only[runN];rw[ab i,v];simp only[GStep.turn,E1];rw[ar i,W i];have:rt l (f (seq i)).1 (p i) (f (seq i)).2.2.1.2={(f (seq i)).2.2.1.2 with tape:=l,drawn:=p i+((f (seq i)).2.1 - (f (seq i)).1)}:=by simp only[rt,hK]
   rw[this]
 obtain⟨n,g',w',o,M⟩:=H l 0;by_cases z:∀j,j<n->∃es,nxt P (stepG P true (seq j).1.1 ((seq j).1.2.at (f (seq j)).1))=.go (f (seq j)).2.2.1.1 (f (seq j)).2.2.1.2 es/\(f (seq j)).2.2.1.2.drawn=(f (seq j)).2.1
 ·rw[key n z] at o
  injection o with o
  have B:(seq n).1.1=g':=by
   have:=congrArg (λm:Machine=>m.gs[0]?) o
   simpa[solo] using this
  have e2:({(seq n).1.2 with tape:=l,drawn:=p n}:World)=w':=congrArg (λm:Machine=>m.world) o;rw[<-B,<-e2] at M;have:=blind _ _ (seq n).1.2.tape (seq n).1.2.drawn M
  exact(seq n).2.2.2.1 (Way.stop this)
 ·
  obtain⟨j,q,ao,ap⟩:∃j,j<n/\(¬∃es,nxt P (stepG P true (seq j).1.1 ((seq j).1.2.at (f (seq j)).1))=.go (f (seq j)).2.2.1.1 (f (seq j)).2.2.1.2 es/\(f (seq j)).2.2.1.2.drawn=(f (seq j)).2.1)/\
    ∀k,k<j->∃es,nxt P (stepG P true (seq k).1.1 ((seq k).1.2.at (f (seq k)).1))=.go (f (seq k)).2.2.1.1 (f (seq k)).2.2.1.2 es/\(f (seq k)).2.2.1.2.drawn=(f (seq k)).2.1:=by
   have u:∃j,j<n/\¬∃es,nxt P (stepG P true (seq j).1.1 ((seq j).1.2.at (f (seq j)).1))=.go (f (seq j)).2.2.1.1 (f (seq j)).2.2.1.2 es/\(f (seq j)).2.2.1.2.drawn=(f (seq j)).2.1:=by
    refine Classical.byContradiction λr=>z λj q=>Classical.byContradiction λQ=>r ⟨j,q,Q⟩
   clear z;obtain⟨j,q⟩:=u;induction j using Nat.strongRecOn with
   | ind j E=>
    by_cases r:∃k,k<j/\¬∃es,nxt P (stepG P true (seq k).1.1 ((seq k).1.2.at (f (seq k)).1))=.go (f (seq k)).2.2.1.1 (f (seq k)).2.2.1.2 es/\(f (seq k)).2.2.1.2.drawn=(f (seq k)).2.1
    ·obtain⟨k,O,ak⟩:=r
     exact E k O ⟨AQ,ak⟩
    ·exact⟨j,q.1,q.2,λk O=>Classical.byContradiction λQ=>r ⟨k,O,Q⟩⟩
  have ah:=((hf (seq j)).2.2).resolve_left ao;obtain⟨m,rfl⟩:∃m,n=j+(m+1):=⟨n - j - 1,AQ⟩
  rw[runN_add,key j ap] at o;simp only at o;have y:=ab j;have nO:=Wl C true (seq j).1.1 (seq j).2.1 ((seq j).1.2.at (f (seq j)).1);have ag:=λg' w' es h=>PZ (P:=P) (w:=(seq j).1.2.at (f (seq j)).1) C (seq j).2.1 (seq j).2.2.2.2 (g':=g') (w':=w') (es:=es) h
  generalize nxt P (stepG P true (seq j).1.1 ((seq j).1.2.at (f (seq j)).1))=X at ah y ag;cases X with
  | go A G F=>
   have Z:A.status≠.running:=λr=>ah ⟨A,G,F,rfl,r⟩
   have h2:=(ag A G F rfl).2;simp only[runN,y,GStep.turn,E1] at o;have:=fk Z h2 o
   have B:g'=A:=by
    have:=congrArg (λm:Machine=>m.gs[0]?) this
    simpa[solo] using this
   exact Z (B ▸ an _ _ M)
  | spawn A c1 G F=>
   simp only[runN,y,GStep.turn,E1] at o;have:=Ayf o
   simp[solo] at this
  | ended o1 G F=>exact runN_ended (by rw[y];rfl) o
  | comm a b c d e f=>exact runN_ended (by rw[y];rfl) o
  | _=>exact runN_ended (by rw[y];rfl) o
end
