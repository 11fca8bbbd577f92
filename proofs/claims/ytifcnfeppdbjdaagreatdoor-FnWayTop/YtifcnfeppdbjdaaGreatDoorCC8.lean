import Derived.Test.YtifcnfeppdbjdaaGreatDoorCC5
namespace Go.Co
open Go.Conc
section
variable {g:Goroutine}
variable {P : Program}{w : World}
def Jx (g:Goroutine)(c:Nat)(x:Bool)(w:World):GStep:=
 match w.heap[c]? with
 | some (.coro (some h))=>.go (if h=0 then {(if x then {g with status:=.finished} else {g with frame:=g.frame.finish undef,status:=.parked}:Goroutine) with status:=.running} else(if x then {g with status:=.finished} else {g with frame:=g.frame.finish undef,status:=.parked}))
   {w with heap:=w.heap.setIfInBounds c (.coro (if x then none else some 0))}
 | some (.coro none)=>endThrow g.frame "coroswitch on exited coro" w
 | _=>.ended (.stuck "coroswitch: no coroutine" "") w
def nxt (P:Program):GStep->GStep
 | .comm g d b a w _=>Vz P g d b a w
 | .coroswitch g c x w _=>Jx g c x w
 | s=>s
def EX:GStep->Stepped
 | .go g w _=>.next (solo g w)
 | .spawn g c w _=>.next {world:=w,gs:=#[g,c],rest:={timers:=#[],alone:=none,slice:=none} }
 | .ended o w _=>.ended o w
 | _=>.ended default default
theorem Avy (g:Goroutine)(cs:Array CommCase)(b:Bool)(sh:CommShape)(w:World):(∃c a,Vz P g cs b sh w=.go c a)\/∃o a,Vz P g cs b sh w=.ended o a:=by
 unfold Vz;split
 ·exact .inl ⟨_,_,rfl⟩
 ·exact .inr ⟨_,_,rfl⟩
theorem Ay3 (h:g.status=.running):move P (solo g w)=.goroutine (solo g w) 0:=by
 simp[move,ask,askOn,solo,runnable_eq,due,ahead,Goroutine.canRun,List.range_succ,choose,pure,Sem.run,Question.forced,h]
theorem Axk (h:g.status=.running)(r:(stepG P true g w).fine):step P (solo g w)=EX (nxt P (stepG P true g w)):=by
 rw[step,stepT,Ay3 h];cases a:stepG P true g w with
 | go e d i=>simp[runT,solo,Array.swapAt!,a,nxt,EX]
 | ended o d i=>simp[runT,solo,Array.swapAt!,a,nxt,EX]
 | spawn e c d i=>simp[runT,solo,Array.swapAt!,a,nxt,EX]
 | comm e j b q d i=>
  have this:=VQ (P:=P) (sl:=none) L6 AU e j b q d;have t:(runT P (solo g w) 0).1=(communicate P {timers:=#[],alone:=none,slice:=none} #[fin] 0 e j b q d).1:=by
   simp[runT,solo,Array.swapAt!,a,fin]
  simp only[nxt];show(runT P (solo g w) 0).1=_
  rw[t,this];rcases Avy (P:=P) e j b q d with⟨u,s,l⟩ | ⟨o,s,l⟩
  ·rw[l];simp[EX,solo]
  ·rw[l];simp[EX]
 | coroswitch e c x d i=>
  simp only[nxt,Jx];cases f:d.heap[c]? with
  | none=>simp[runT,solo,Array.swapAt!,a,f,EX]
  | some o=>
   cases o<;>try (simp[runT,solo,Array.swapAt!,a,f,EX];done)
   rename_i p;cases p with
   | none=>simp[runT,solo,Array.swapAt!,a,f,EX,endThrow,dieOf]
   | some k=>
    cases k with
    | zero=>cases x<;>simp[runT,solo,Array.swapAt!,a,f,EX,Array.modify,Array.modifyM]
    | succ k=>cases x<;>simp[runT,solo,Array.swapAt!,a,f,EX,Array.modify,Array.modifyM]
 | _=>rw[a] at r;exact r.elim
theorem eD (k:OkP P)(hg:OkG g)(w:World):He (λw=>nxt P (stepG P true g w)) w:=by
 refine He.next (F:=λw=>stepG P true g w) (nxt P) (Ay6 k true g hg.1 w) ?_ ?_
 ·have j:=Vw k true g hg w
  generalize stepG P true g w=s at j ⊢;cases s with
  | go d a f=>exact(D8 _ _).loc _
  | ended o a f=>exact(Az _ _).loc _
  | spawn d c a f=>exact Yx.loc (λ_=>⟨rfl,λ_=>rfl⟩) _
  | comm d l b q a f=>exact Aza d l b q a
  | coroswitch d c x a f=>
   show He (λw=>Jx d c x w) a
   unfold Jx;refine He.const ?_ ?_ fun i s e _=>?_
   ·split<;>rfl
   ·split<;>rfl
   ·show(match a.heap[c]? with
     | some (.coro (some h))=>GStep.go _ {rt i s e a with heap:=a.heap.setIfInBounds c _} _
     | some (.coro none)=>endThrow _ _ (rt i s e a)
     | _=>GStep.ended _ (rt i s e a) _)=_
    rcases a.heap[c]? with _ | o
    ·rfl
    ·cases o<;>first | rfl | (rename_i p;cases p<;>rfl)
  | _=>exact j.elim
 ·generalize stepG P true g w=s
  cases s with
  | go d a f=>exact id
  | ended o a f=>exact id
  | _=>exact λ_=>trivial
theorem P3 (l:OkP P)(hg:OkG g)(_hr:g.status=.running){g':Goroutine}{w':World}{es:Array Event}(h:nxt P (stepG P true g w)=.go g' w' es):OkG g'/\∀t,g'.status≠.sleeping t:=by
 have d:=Vw l true g hg w;generalize stepG P true g w=s at d h;cases s with
 | go a b c=>cases h;exact⟨d.1,d.2.1⟩
 | comm a j b k i q=>
  rcases Avz (P:=P) d.1 d.2.1 j b k i with⟨o,p,f⟩ | ⟨v,p,f,r,u⟩
  ·rw[show Vz P a j b k i=_ from h] at f;cases f
  ·rw[show Vz P a j b k i=_ from h] at f;cases f;exact⟨r,u⟩
 | coroswitch a c x i q=>
  simp only[nxt,Jx] at h;split at h
  ·cases h
   refine⟨?_,λt e=>?_⟩
   ·split<;>(try split)<;>first | exact d.1 | exact⟨Jt d.1.1 _,d.1.2⟩
   ·split at e<;>(try split at e)<;>cases e
  ·cases h;exact⟨⟨d.1.1,Lh⟩,λt e=>by cases e⟩
  ·cases h
 | spawn _ _ _ _=>cases h
 | ended _ _ _=>cases h
 | _=>exact d.elim
end
section
variable {P : Program}{w : World}
def QW (op:MemOp):Prop:=op.g=0/\∀m,op.act≠.mark m
theorem VS (g:Goroutine)(cs:Array CommCase)(b:Bool)(sh:CommShape)(w:World):∀op∈KB P g cs b sh w,QW op:=by
 have e:∀(fn:FuncId) (pos:String) (a:MemAct),(∀m,a≠.mark m)->QW {g:=0,fn,pos,act:=a}:=λ_ _ _ h=>⟨rfl,h⟩
 unfold KB;unfold communicate;have l:=OG (w:=w) L6 cs.zipIdx.toList;dsimp only;split
 ·intro op d;simp at d
 ·split
  ·split
   ·rw[LI _ rfl]
    intro op d;simp at d
   ·intro op d;simp at d
  ·generalize o:(List.filter _ _:List (Nat × CommCase × List Way))=ready
   have q:∀x∈ready,∀y∈x.2.2,∀a b,y≠.partner a b:=by rw[<-o];exact l
   cases p:(GL ready).run P w with
   | halt f i=>intro op d;simp at d
   | ok z i=>
    obtain⟨k,c,way⟩:=z;have r:=P0 q p;dsimp only;cases way with
    | partner a b=>exact absurd rfl (r a b)
    | sendClosed=>
     dsimp only;cases (runtimePanic (.plain "send on closed channel"):Sem Unit).run P i with
     | ok a j=>intro op d;simp at d
     | halt f j=>cases f<;>(intro op d;simp at d)
    | closed=>
     intro op d;simp at d;subst d;exact e _ _ _ (λm h=>by cases h)
    | buffer=>
     rw[Ij L6];intro op d;split at d
     ·simp_all
     ·simp at d;subst d;exact e _ _ _ (λm h=>by cases h)
     ·simp at d;rcases d with rfl | rfl<;>exact e _ _ _ (λm h=>by cases h)
     ·simp at d;rcases d with rfl | rfl<;>exact e _ _ _ (λm h=>by cases h)
     ·simp_all
     ·simp_all
     ·simp at d
theorem Avw (t u:Trace)(h:∀op∈u,QW op):Deaf (t++u) 0=Deaf t 0:=by
 obtain⟨l⟩:=u;rw[Deaf_append];induction l generalizing t with
 | nil=>rfl
 | cons y l d=>
  have b:=h y AU;have c:deafStep 0 (Deaf t 0) y=Deaf t 0:=by
   unfold deafStep;split
   ·rename_i a;exact absurd a (b.2 _)
   ·rename_i a;exact absurd a (b.2 _)
   ·rfl
  rw[List.foldl_cons,c];exact d t (λop hop=>h op yFc)
theorem tj (O:OkP P){gs:Array Goroutine}{g g':Goroutine}{w':World}{es:Array Event}{sl:Option (Nat × Nat)}(hg:OkG g)(F:gs[0]?=some g)
  (G:∀i x,0<i->gs[i]?=some x->x.status=.running\/x.status=.finished) (h:nxt P (stepG P true g w)=.go g' w' es) (D:g'.status=.running):
  ∃s C,runT P (crowd gs w sl) 0=(.next (crowd s w' sl),C)/\s.size=gs.size/\s[0]?=some g'/\(∀i,0<i->s[i]?=gs[i]?)/\(∀op∈C,op.g=0)/\∀t,Deaf t 0=0->Deaf (t++C) 0=0:=by
 have l:=Vw O true g hg w;obtain⟨hlt,U⟩:=Array.getElem?_eq_some_iff.1 F;have V:IP (gs.set 0 fin):=by
  intro x B;obtain⟨i,hi,rfl⟩:=Array.mem_iff_getElem.1 B;by_cases Q:i=0
  ·subst Q;simp[fin]
  ·have T:i<gs.size:=by simpa using hi
   have:(gs.set 0 fin)[i]=gs[i]:=by rw[Array.getElem_set_ne];omega
   rw[this];rcases G i gs[i] AQ (JI T) with L | L<;>rw[L]<;>simp
 have E:∀x:Goroutine,(gs.set 0 fin).setIfInBounds 0 x=gs.setIfInBounds 0 x:=λx=>set_setIfInBounds hlt _ _
 have M:gs.swapAt! 0 {(default:Goroutine) with status:=.finished}=(g,gs.set 0 fin):=by rw[swapAt_of_lt hlt,U];rfl
 have J:∀i,0<i->(gs.setIfInBounds 0 g')[i]?=gs[i]?:=λi hi=>G0 AQ
 have y:∀H pos (es:Array Event),deafBehind 0 es=0->∀t,Deaf t 0=0->Deaf (t++MemOp.ofEvents 0 H pos es) 0=0:=λH pos es W t v=>by rw[Deaf_own,v,W]
 cases d:stepG P true g w with
 | go a b c=>
  rw[d] at h l;cases h;have r:=runT_crowd_go (P:=P) (sl:=sl) (i:=0) F (show stepG P (0==0) g w=_ from d);refine⟨_,_,r,AU,by simp[hlt],λi hi=>?_,λop f=>?_,y _ _ _ (l.2.2 D)⟩
  ·rw[G0 AQ,K1]
   cases B:gs[i]? with
   | none=>rfl
   | some x=>
    simp only[JM,CZ];unfold woken;split
    ·exact again_running _ (G i x hi B)
    ·rfl
  ·obtain⟨e,_,rfl⟩:=Go.Conc.mem_ofEvents f;rfl
 | comm a z b A q u=>
  rw[d] at h l;have N:=VQ (P:=P) (sl:=sl) V BZ a z b A q;rw[show Vz P a z b A q=_ from h] at N;have r:runT P (crowd gs w sl) 0=(.next (crowd (gs.setIfInBounds 0 g') w' sl),MemOp.ofEvents 0 g.frame.fn g.frame.place u++KB P a z b A q):=by
   show runT P {world:=w,gs:=gs,rest:={timers:=#[],alone:=none,slice:=sl} } 0=_
   unfold runT;simp only[M,beq_self_eq_true,d,N,E,GStep.es];rfl
  refine⟨_,_,r,AU,by simp[hlt],J,λop f=>?_,λt v=>?_⟩
  ·rcases Array.mem_append.1 f with f | f
   ·obtain⟨e,_,rfl⟩:=Go.Conc.mem_ofEvents f;rfl
   ·exact(VS _ _ _ _ _ op f).1
  ·rw[<-Array.append_assoc,Avw _ _ (VS _ _ _ _ _)]
   exact y _ _ _ l.2.2 t v
 | coroswitch a c x q u=>
  rw[d] at h l;have R:∀op∈MemOp.ofEvents 0 g.frame.fn g.frame.place u,op.g=0:=λop f=>by obtain⟨e,_,rfl⟩:=Go.Conc.mem_ofEvents f;rfl
  simp only[nxt,Jx] at h;have r:runT P (crowd gs w sl) 0=(.next (crowd (gs.setIfInBounds 0 g') w' sl),MemOp.ofEvents 0 g.frame.fn g.frame.place u):=by
   show runT P {world:=w,gs:=gs,rest:={timers:=#[],alone:=none,slice:=sl} } 0=_
   unfold runT;simp only[M,beq_self_eq_true,d,GStep.es];cases I:q.heap[c]? with
   | none=>rw[I] at h;cases h
   | some o=>
    rw[I] at h;cases o<;>first | (cases h;done) | skip
    rename_i p;cases p with
    | none=>
     simp only[endThrow,dieOf] at h ⊢;cases h;simp only[E];rfl
    | some k=>
     simp only at h ⊢;cases h;by_cases K:k=0
     ·subst K
      simp only[if_true,E,crowd];congr 3;apply Array.ext_getElem?;intro j;by_cases S:j=0
      ·subst S
       rw[JG,if_pos rfl,E9 hlt,E9 hlt];rfl
      ·rw[G0 AQ,JG]
       rw[if_neg AQ,G0 AQ]
     ·simp only[K,C7] at D
      cases x<;>cases D
  exact⟨_,_,r,AU,by simp[hlt],J,R,y _ _ _ l.2⟩
 | spawn _ _ _ _=>rw[d] at h;cases h
 | ended _ _ _=>rw[d] at h;cases h
 | _=>rw[d] at l;exact l.elim
end
section
variable {g:Goroutine}{m m':Machine}{n:Nat}
variable {P : Program}
def Way (P:Program)(Stop:Goroutine->World->Prop)(g:Goroutine)(w:World):Prop:=
 ∀X:Goroutine->World->Prop,(∀g w,Stop g w->X g w)->
  (∀g w,OkG g->g.status=.running->(∀d,∃a b c,nxt P (stepG P true g (w.at d))=.go a b c/\a.status=.running/\X a b)->X g w)->X g w
theorem Way.stop {Stop:Goroutine->World->Prop}{w:World}(h:Stop g w):Way P Stop g w:=λ_ a _=>a g w h
theorem Way.step {Stop:Goroutine->World->Prop}{w:World}(hg:OkG g)(hr:g.status=.running)
  (h:∀d,∃a b c,nxt P (stepG P true g (w.at d))=.go a b c/\a.status=.running/\Way P Stop a b):Way P Stop g w:=
 λX i f=>f g w hg hr λd=>let ⟨a,b,c,e,r,k⟩:=h d;⟨a,b,c,e,r,k X i f⟩
theorem runN_ended {o:Outcome}{w:World}(h:step P m=.ended o w)(hr:runN P (n+1) m=.next m'):False:=by
 simp only[runN,h] at hr;cases hr
theorem endWith_ended (w:World)(a:Nat)(text:ByteArray)(o:Outcome):∃c b,endWith w a text o=.ended c b:=by
 unfold endWith;generalize w.sys (.write a text)=x;obtain⟨r,b⟩:=x;cases r<;>dsimp only<;>first
  | exact⟨_,_,rfl⟩
  | (split<;>exact⟨_,_,rfl⟩)
theorem e5 {w:World}(h1:g.status≠.running)(c:∀t,g.status≠.sleeping t):(∃o e,step P (solo g w)=.ended o e)\/step P (solo g w)=.next (solo g w):=by
 have k:runnable #[g] w.os.mono=[]:=by
  rw[runnable_eq];simp only[Cd,CH,CO,CV,List.range_one];rw[List.filter_cons];have:g.canRun w.os.mono=false:=by
   unfold Goroutine.canRun;cases a:g.status<;>first | rfl | exact absurd a h1 | exact absurd a (c _)
  simp[this]
 have i:ahead (solo g w) false=none:=by
  unfold ahead solo;cases a:g.status<;>first | exact absurd a (c _) | simp[a]
 have h:askOn P (solo g w)=(if #[g].any (·.status==.waiting) then .machine (.next (solo g w)) else
   let b:=if #[g].any (λg=>g.status==.blocked || g.status==.parked) then "all goroutines are asleep - deadlock!" else "no goroutines (main called runtime.Goexit) - deadlock!"
   match endWith w 2 (bytes ("fatal error: " ++b++ "\n")) (.fatal b) with
   | .ended o w _=>.machine (.ended o w)
   | _=>.machine (.ended (.stuck "" "") default)):=by
  unfold askOn;have j:runnable (solo g w).gs (solo g w).world.os.mono=[]:=k;have p:due (solo g w).rest.timers (solo g w).world.os.mono=[]:=by simp[due,solo]
  simp only[j,p,List.isEmpty_nil,if_true,CO,Nat.not_lt_zero,C7];simp only[pure,Sem.run];rw[show({world:=(solo g w).world,gs:=(solo g w).gs,rest:=(solo g w).rest}:Machine)=solo g w from rfl,i];rfl
 have f:move P (solo g w)=askOn P (solo g w):=rfl;unfold step stepT;rw[f,h];by_cases d:#[g].any (·.status==.waiting)=true
 ·rw[if_pos d];exact .inr rfl
 ·rw[if_neg d]
  left;dsimp only;obtain⟨q,e,l⟩:=endWith_ended w 2 (bytes ("fatal error: " ++(if #[g].any (λg=>g.status==.blocked || g.status==.parked) then "all goroutines are asleep - deadlock!" else "no goroutines (main called runtime.Goexit) - deadlock!")++ "\n")) (.fatal (if #[g].any (λg=>g.status==.blocked || g.status==.parked) then "all goroutines are asleep - deadlock!" else "no goroutines (main called runtime.Goexit) - deadlock!"));rw[l];exact⟨_,_,rfl⟩
theorem e7 {w:World}(h1:g.status≠.running)(b:∀t,g.status≠.sleeping t):∀{n:Nat} {m:Machine},runN P n (solo g w)=.next m->m=solo g w:=by
 intro n;induction n with
 | zero=>intro m h;cases h;rfl
 | succ n c=>
  intro m h;rcases e5 (P:=P) (w:=w) h1 b with⟨o,d,a⟩ | a
  ·exact(runN_ended a h).elim
  ·simp only[runN,a] at h
   exact c h
theorem Ax0 (h:runN P n m=.next m'):m.gs.size<=m'.gs.size:=by
 have e:runNT P n m #[]=(.next m',(runNT P n m #[]).2):=Prod.ext (by rw[runNT_fst,h]) rfl;exact runNT_size P n m m' _ _ e
theorem tD (B:OkP P)(Stop:Goroutine->World->Prop)(ao:∀g w,Stop g w->g.status=.running)
  (blind:∀g w l e,Stop g w->Stop g {w with tape:=l,drawn:=e}) (t:Goroutine) (aj:OkG t) (ac:t.status=.running) (w₀:World)
  (H:∀l e,∃n g' w',runN P n (solo t {w₀ with tape:=l,drawn:=e})=.next (solo g' w')/\Stop g' w'):Way P Stop t w₀:=by
 by_cases Q:Way P Stop t w₀
 ·exact Q
 exfalso;obtain⟨T,hT⟩:=AA w₀.tape
 have ak:∀c:{c:Goroutine × World // OkG c.1/\c.2.tape=T/\¬Way P Stop c.1 c.2/\c.1.status=.running},∃x:Nat × Nat × {c:Goroutine × World // OkG c.1/\c.2.tape=T/\¬Way P Stop c.1 c.2/\c.1.status=.running},
   x.1<=x.2.1/\
   (∀l s e,s<=x.1->Ag T l s e x.2.1->nxt P (stepG P true c.1.1 (rt l s e (c.1.2.at x.1)))=(nxt P (stepG P true c.1.1 (c.1.2.at x.1))).turn (rt l s e))/\
   ((∃es,nxt P (stepG P true c.1.1 (c.1.2.at x.1))=.go x.2.2.1.1 x.2.2.1.2 es/\x.2.2.1.2.drawn=x.2.1)\/
    ¬∃g' w' es,nxt P (stepG P true c.1.1 (c.1.2.at x.1))=.go g' w' es/\g'.status=.running):=by
  rintro⟨⟨g,w⟩,F,ht,hw,O⟩;obtain⟨d,hd⟩:∃d,¬∃g' w' es,nxt P (stepG P true g (w.at d))=.go g' w' es/\g'.status=.running/\Way P Stop g' w':=by
   refine Classical.byContradiction λo=>hw (Way.step F O λd=>?_)
   exact Classical.byContradiction λq=>o ⟨d,q⟩
  obtain⟨Y,R,ag,U,l4,l5⟩:=eD B F (w.at d);have V:(w.at d).tape=T:=ht;by_cases hc:∃g' w' es,nxt P (stepG P true g (w.at d))=.go g' w' es/\g'.status=.running
  ·obtain⟨g',w',es,y,L⟩:=hc
   have I:=(P3 B F O y).1;rw[y] at Y R U l4;refine⟨⟨d,ag,⟨⟨g',w'⟩,I,Y.trans V,λq=>hd ⟨g',w',es,y,L,q⟩,L⟩⟩,?_,fun l s e J K=>?_, .inl ⟨es,y,?_⟩⟩
   ·exact CJ R U
   ·exact l5 l s e J (by rw[V];exact K)
   ·exact(l4 L).symm
  ·refine⟨⟨d,ag,⟨⟨g,w⟩,F,ht,hw,O⟩⟩,?_,fun l s e J K=>?_, .inr hc⟩
   ·exact CJ R U
   ·exact l5 l s e J (by rw[V];exact K)
 obtain⟨f,hf⟩:=Classical.axiomOfChoice ak;obtain⟨seq,an,ap⟩:∃seq:Nat->{c:Goroutine × World // OkG c.1/\c.2.tape=T/\¬Way P Stop c.1 c.2/\c.1.status=.running},seq 0=⟨⟨t,w₀⟩,aj,hT.symm,Q,ac⟩/\∀i,seq (i+1)=(f (seq i)).2.2:=
  ⟨λi=>Nat.rec ⟨⟨t,w₀⟩,aj,hT.symm,Q,ac⟩ (λ_ c=>(f c).2.2) i,rfl,λ_=>rfl⟩
 obtain⟨p,ay,S⟩:∃p:Nat->Nat,p 0=0/\∀i,p (i+1)=p i+((f (seq i)).2.1 - (f (seq i)).1):=
  ⟨λi=>Nat.rec 0 (λi x=>x+((f (seq i)).2.1 - (f (seq i)).1)) i,rfl,λ_=>rfl⟩
 have ae:∀i j,i<=j->p i<=p j:=by
  intro i j au;induction au with
  | refl=>exact CG _
  | step _ E=>rw[S];omega
 obtain⟨l,ar⟩:∃l:Nat->Question->Nat,∀i j,(f (seq i)).1+j<(f (seq i)).2.1->l (p i+j)=T ((f (seq i)).1+j):=by
  classical
  refine⟨λn=>if h:∃i,p i<=n/\n<p (i+1) then T ((f (seq (Classical.choose h))).1+(n - p (Classical.choose h))) else λ_=>0,λi j r=>?_⟩;have ab:p i<=p i+j/\p i+j<p (i+1):=⟨AQ,by rw[S];omega⟩
  have u:∃i',p i'<=p i+j/\p i+j<p (i'+1):=⟨i,ab⟩
  have aa:=Classical.choose_spec u;have aw:Classical.choose u=i:=by
   rcases Nat.lt_trichotomy (Classical.choose u) i with h | h | h
   ·have:=ae _ _ (Nat.succ_le_of_lt h)
    have:=aa.2
    simp only[Nat.succ_eq_add_one] at*;omega
   ·exact h
   ·have:=ae _ _ (Nat.succ_le_of_lt h)
    have:=aa.1
    have:=ab.2
    simp only[Nat.succ_eq_add_one] at*;omega
  simp only[u,dite_true,aw];congr 1;omega
 have ai:∀i,step P (solo (seq i).1.1 {(seq i).1.2 with tape:=l,drawn:=p i})=EX ((nxt P (stepG P true (seq i).1.1 ((seq i).1.2.at (f (seq i)).1))).turn (rt l (f (seq i)).1 (p i))):=by
  intro i;have I:=(seq i).2.1;have av:=(seq i).2.2.2.2;have C:({(seq i).1.2 with tape:=l,drawn:=p i}:World)=rt l (f (seq i)).1 (p i) ((seq i).1.2.at (f (seq i)).1):=by
   simp only[rt,World.at];congr 1;omega
  rw[C,Axk av (Vw B true _ I _)];rw[(hf (seq i)).2.1 l (f (seq i)).1 (p i) (CG _) (λj r=>ar i j r)]
 have key:∀i,(∀j,j<i->∃es,nxt P (stepG P true (seq j).1.1 ((seq j).1.2.at (f (seq j)).1))=.go (f (seq j)).2.2.1.1 (f (seq j)).2.2.1.2 es/\(f (seq j)).2.2.1.2.drawn=(f (seq j)).2.1)->
   runN P i (solo t {w₀ with tape:=l,drawn:=0})=.next (solo (seq i).1.1 {(seq i).1.2 with tape:=l,drawn:=p i}):=by
  intro i;induction i with
  | zero=>intro _;rw[an,ay];rfl
  | succ i E=>
   intro z;obtain⟨es,y,hK⟩:=z i (DV i);rw[runN_add,E (λj r=>z j (Nat.lt_succ_of_lt r))];simp only[runN];rw[ai i,y];simp only[GStep.turn,EX];rw[ap i,S i];have:rt l (f (seq i)).1 (p i) (f (seq i)).2.2.1.2={(f (seq i)).2.2.1.2 with tape:=l,drawn:=p i+((f (seq i)).2.1 - (f (seq i)).1)}:=by simp only[rt,hK]
   rw[this]
 obtain⟨n,g',w',o,M⟩:=H l 0;by_cases z:∀j,j<n->∃es,nxt P (stepG P true (seq j).1.1 ((seq j).1.2.at (f (seq j)).1))=.go (f (seq j)).2.2.1.1 (f (seq j)).2.2.1.2 es/\(f (seq j)).2.2.1.2.drawn=(f (seq j)).2.1
 ·rw[key n z] at o
  injection o with o
  have C:(seq n).1.1=g':=by
   have:=congrArg (λm:Machine=>m.gs[0]?) o
   simpa[solo] using this
  have e2:({(seq n).1.2 with tape:=l,drawn:=p n}:World)=w':=congrArg (λm:Machine=>m.world) o;rw[<-C,<-e2] at M;have:=blind _ _ (seq n).1.2.tape (seq n).1.2.drawn M
  exact(seq n).2.2.2.1 (Way.stop this)
 ·
  obtain⟨j,r,az,ax⟩:∃j,j<n/\(¬∃es,nxt P (stepG P true (seq j).1.1 ((seq j).1.2.at (f (seq j)).1))=.go (f (seq j)).2.2.1.1 (f (seq j)).2.2.1.2 es/\(f (seq j)).2.2.1.2.drawn=(f (seq j)).2.1)/\
    ∀k,k<j->∃es,nxt P (stepG P true (seq k).1.1 ((seq k).1.2.at (f (seq k)).1))=.go (f (seq k)).2.2.1.1 (f (seq k)).2.2.1.2 es/\(f (seq k)).2.2.1.2.drawn=(f (seq k)).2.1:=by
   have u:∃j,j<n/\¬∃es,nxt P (stepG P true (seq j).1.1 ((seq j).1.2.at (f (seq j)).1))=.go (f (seq j)).2.2.1.1 (f (seq j)).2.2.1.2 es/\(f (seq j)).2.2.1.2.drawn=(f (seq j)).2.1:=by
    refine Classical.byContradiction λq=>z λj r=>Classical.byContradiction λN=>q ⟨j,r,N⟩
   clear z;obtain⟨j,r⟩:=u;induction j using Nat.strongRecOn with
   | ind j E=>
    by_cases q:∃k,k<j/\¬∃es,nxt P (stepG P true (seq k).1.1 ((seq k).1.2.at (f (seq k)).1))=.go (f (seq k)).2.2.1.1 (f (seq k)).2.2.1.2 es/\(f (seq k)).2.2.1.2.drawn=(f (seq k)).2.1
    ·obtain⟨k,W,al⟩:=q
     exact E k W ⟨AQ,al⟩
    ·exact⟨j,r.1,r.2,λk W=>Classical.byContradiction λN=>q ⟨k,W,N⟩⟩
  have ah:=((hf (seq j)).2.2).resolve_left az;obtain⟨m,rfl⟩:∃m,n=j+(m+1):=⟨n - j - 1,AQ⟩
  rw[runN_add,key j ax] at o;simp only at o;have v:=ai j;have nN:=Vw B true (seq j).1.1 (seq j).2.1 ((seq j).1.2.at (f (seq j)).1);have af:=λg' w' es h=>P3 (P:=P) (w:=(seq j).1.2.at (f (seq j)).1) B (seq j).2.1 (seq j).2.2.2.2 (g':=g') (w':=w') (es:=es) h
  generalize nxt P (stepG P true (seq j).1.1 ((seq j).1.2.at (f (seq j)).1))=X at ah v af;cases X with
  | go A G D=>
   have Z:A.status≠.running:=λq=>ah ⟨A,G,D,rfl,q⟩
   have h2:=(af A G D rfl).2;simp only[runN,v,GStep.turn,EX] at o;have:=e7 Z h2 o
   have C:g'=A:=by
    have:=congrArg (λm:Machine=>m.gs[0]?) this
    simpa[solo] using this
   exact Z (C ▸ ao _ _ M)
  | spawn A c1 G D=>
   simp only[runN,v,GStep.turn,EX] at o;have:=Ax0 o
   simp[solo] at this
  | ended o1 G D=>exact runN_ended (by rw[v];rfl) o
  | comm a b c d e f=>exact runN_ended (by rw[v];rfl) o
  | _=>exact runN_ended (by rw[v];rfl) o
end
