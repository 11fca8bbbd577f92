import Derived.Test.YtnpfcnolmkanfaaGreatDoorCC5
import Derived.Lone
namespace Go.Co
open Go.Conc
section
variable {g:Goroutine}
variable {P : Program}{w : World}
def Asp (g:Goroutine)(c:Nat)(x:Bool)(w:World):GStep:=
 match w.heap[c]? with
 | some (.coro (some h))=>.go (if h=0 then {(if x then {g with status:=.finished} else {g with frame:=g.frame.finish undef,status:=.parked}:Goroutine) with status:=.running} else(if x then {g with status:=.finished} else {g with frame:=g.frame.finish undef,status:=.parked}))
   {w with heap:=w.heap.setIfInBounds c (.coro (if x then none else some 0))}
 | some (.coro none)=>endThrow g.frame "coroswitch on exited coro" w
 | _=>.ended (.stuck "coroswitch: no coroutine" "") w
def nxt (P:Program):GStep->GStep
 | .comm g a b d w _=>Ur P g a b d w
 | .coroswitch g c x w _=>Asp g c x w
 | s=>s
def Anj:GStep->Stepped
 | .go g w _=>.next (solo g w)
 | .spawn g c w _=>.next {world:=w,gs:=#[g,c],rest:={timers:=#[],alone:=none,slice:=none} }
 | .ended o w _=>.ended o w
 | _=>.ended default default
theorem Asq (g:Goroutine)(cs:Array CommCase)(b:Bool)(sh:CommShape)(w:World):(∃c a,Ur P g cs b sh w=.go c a)\/∃o a,Ur P g cs b sh w=.ended o a:=by
 unfold Ur;split
 ·exact .inl ⟨_,_,rfl⟩
 ·exact .inr ⟨_,_,rfl⟩
theorem Awn (h:g.status=.running):move P (solo g w)=.goroutine (solo g w) 0:=by
 simp[move,ask,askOn,solo,runnable_eq,due,ahead,Goroutine.canRun,List.range_succ,choose,pure,Sem.run,Question.forced,h]
theorem Avc (h:g.status=.running)(r:(stepG P true g w).fine):step P (solo g w)=Anj (nxt P (stepG P true g w)):=by
 rw[step,stepT,Awn h];cases a:stepG P true g w with
 | go e d i=>simp[runT,solo,Array.swapAt!,a,nxt,Anj]
 | ended o d i=>simp[runT,solo,Array.swapAt!,a,nxt,Anj]
 | spawn e c d i=>simp[runT,solo,Array.swapAt!,a,nxt,Anj]
 | comm e l b j d i=>
  have this:=Ae1 (P:=P) (sl:=none) Kq spz e l b j d;have t:(runT P (solo g w) 0).1=(communicate P {timers:=#[],alone:=none,slice:=none} #[fin] 0 e l b j d).1:=by
   simp[runT,solo,Array.swapAt!,a,fin]
  simp only[nxt];show(runT P (solo g w) 0).1=_
  rw[t,this];rcases Asq (P:=P) e l b j d with⟨u,s,q⟩ | ⟨o,s,q⟩
  ·rw[q];simp[Anj,solo]
  ·rw[q];simp[Anj]
 | coroswitch e c x d i=>
  simp only[nxt,Asp];cases f:d.heap[c]? with
  | none=>simp[runT,solo,Array.swapAt!,a,f,Anj]
  | some o=>
   cases o<;>try (simp[runT,solo,Array.swapAt!,a,f,Anj];done)
   rename_i p;cases p with
   | none=>simp[runT,solo,Array.swapAt!,a,f,Anj,endThrow,dieOf]
   | some k=>
    cases k with
    | zero=>cases x<;>simp[runT,solo,Array.swapAt!,a,f,Anj,Array.modify,Array.modifyM]
    | succ k=>cases x<;>simp[runT,solo,Array.swapAt!,a,f,Anj,Array.modify,Array.modifyM]
 | _=>rw[a] at r;exact r.elim
theorem Awq (j:OkP P)(hg:OkG g)(w:World):Gn (λw=>nxt P (stepG P true g w)) w:=by
 refine Gn.next (F:=λw=>stepG P true g w) (nxt P) (Awp j true g hg.1 w) ?_ ?_
 ·have k:=Um j true g hg w
  generalize stepG P true g w=s at k ⊢;cases s with
  | go d a f=>exact(Dq _ _).loc _
  | ended o a f=>exact(Ba _ _).loc _
  | spawn d c a f=>exact Xr.loc (λ_=>⟨rfl,λ_=>rfl⟩) _
  | comm d q b l a f=>exact Awt d q b l a
  | coroswitch d c x a f=>
   show Gn (λw=>Asp d c x w) a
   unfold Asp;refine Gn.const ?_ ?_ fun i s e _=>?_
   ·split<;>rfl
   ·split<;>rfl
   ·show(match a.heap[c]? with
     | some (.coro (some h))=>GStep.go _ {rt i s e a with heap:=a.heap.setIfInBounds c _} _
     | some (.coro none)=>endThrow _ _ (rt i s e a)
     | _=>GStep.ended _ (rt i s e a) _)=_
    rcases a.heap[c]? with _ | o
    ·rfl
    ·cases o<;>first | rfl | (rename_i p;cases p<;>rfl)
  | _=>exact k.elim
 ·generalize stepG P true g w=s
  cases s with
  | go d a f=>exact id
  | ended o a f=>exact id
  | _=>exact λ_=>trivial
theorem Ah9 (p:OkP P)(hg:OkG g)(_hr:g.status=.running){g':Goroutine}{w':World}{es:Array Event}(h:nxt P (stepG P true g w)=.go g' w' es):OkG g'/\∀t,g'.status≠.sleeping t:=by
 have d:=Um p true g hg w;generalize stepG P true g w=s at d h;cases s with
 | go a b c=>cases h;exact⟨d.1,d.2.1⟩
 | comm a k b j i r=>
  rcases Asr (P:=P) d.1 d.2.1 k b j i with⟨o,l,e⟩ | ⟨v,l,e,q,u⟩
  ·rw[show Ur P a k b j i=_ from h] at e;cases e
  ·rw[show Ur P a k b j i=_ from h] at e;cases e;exact⟨q,u⟩
 | coroswitch a c x i r=>
  simp only[nxt,Asp] at h;split at h
  ·cases h
   refine⟨?_,λt f=>?_⟩
   ·split<;>(try split)<;>first | exact d.1 | exact⟨I9 d.1.1 _,d.1.2⟩
   ·split at f<;>(try split at f)<;>cases f
  ·cases h;exact⟨⟨d.1.1,J4⟩,λt f=>by cases f⟩
  ·cases h
 | spawn _ _ _ _=>cases h
 | ended _ _ _=>cases h
 | _=>exact d.elim
end
section
variable {P : Program}{w : World}
def Ani (op:MemOp):Prop:=op.g=0/\∀m,op.act≠.mark m
theorem Ae3 (g:Goroutine)(cs:Array CommCase)(b:Bool)(sh:CommShape)(w:World):∀op∈Ax5 P g cs b sh w,Ani op:=by
 have e:∀(fn:FuncId) (pos:String) (a:MemAct),(∀m,a≠.mark m)->Ani {g:=0,fn,pos,act:=a}:=λ_ _ _ h=>⟨rfl,h⟩
 unfold Ax5;unfold communicate;have j:=Abl (w:=w) Kq cs.zipIdx.toList;dsimp only;split
 ·intro op d;simp at d
 ·split
  ·split
   ·rw[Z9 _ rfl]
    intro op d;simp at d
   ·intro op d;simp at d
  ·generalize p:(List.filter _ _:List (Nat × CommCase × List Way))=ready
   have r:∀x∈ready,∀y∈x.2.2,∀a b,y≠.partner a b:=by rw[<-p];exact j
   cases q:(Af2 ready).run P w with
   | halt f i=>intro op d;simp at d
   | ok z i=>
    obtain⟨k,c,way⟩:=z;have l:=Ah7 r q;dsimp only;cases way with
    | partner a b=>exact absurd rfl (l a b)
    | sendClosed=>
     dsimp only;cases (runtimePanic (.plain "send on closed channel"):Sem Unit).run P i with
     | ok a o=>intro op d;simp at d
     | halt f o=>cases f<;>(intro op d;simp at d)
    | closed=>
     intro op d;simp at d;subst d;exact e _ _ _ (λm h=>by cases h)
    | buffer=>
     rw[Hm Kq];intro op d;split at d
     ·simp_all
     ·simp at d;subst d;exact e _ _ _ (λm h=>by cases h)
     ·simp at d;rcases d with rfl | rfl<;>exact e _ _ _ (λm h=>by cases h)
     ·simp at d;rcases d with rfl | rfl<;>exact e _ _ _ (λm h=>by cases h)
     ·simp_all
     ·simp_all
     ·simp at d
theorem Aso (t u:Trace)(h:∀op∈u,Ani op):Deaf (t++u) 0=Deaf t 0:=by
 obtain⟨l⟩:=u;rw[Deaf_append];induction l generalizing t with
 | nil=>rfl
 | cons y l d=>
  have b:=h y spz;have c:deafStep 0 (Deaf t 0) y=Deaf t 0:=by
   unfold deafStep;split
   ·rename_i a;exact absurd a (b.2 _)
   ·rename_i a;exact absurd a (b.2 _)
   ·rfl
  rw[List.foldl_cons,c];exact d t (λop hop=>h op yEf)
theorem Amy (S:OkP P){gs:Array Goroutine}{g g':Goroutine}{w':World}{es:Array Event}{sl:Option (Nat × Nat)}(hg:OkG g)(G:gs[0]?=some g)
  (L:∀i x,0<i->gs[i]?=some x->x.status=.running\/x.status=.finished) (h:nxt P (stepG P true g w)=.go g' w' es) (A:g'.status=.running):
  ∃s y,runT P (crowd gs w sl) 0=(.next (crowd s w' sl),y)/\s.size=gs.size/\s[0]?=some g'/\(∀i,0<i->s[i]?=gs[i]?)/\(∀op∈y,op.g=0)/\∀t,Deaf t 0=0->Deaf (t++y) 0=0:=by
 have l:=Um S true g hg w;obtain⟨hlt,U⟩:=Array.getElem?_eq_some_iff.1 G;have Q:Zu (gs.set 0 fin):=by
  intro x v;obtain⟨i,hi,rfl⟩:=Array.mem_iff_getElem.1 v;by_cases W:i=0
  ·subst W;simp[fin]
  ·have R:i<gs.size:=by simpa using hi
   have:(gs.set 0 fin)[i]=gs[i]:=by rw[Array.getElem_set_ne];omega
   rw[this];rcases L i gs[i] omz (A7v R) with K | K<;>rw[K]<;>simp
 have D:∀x:Goroutine,(gs.set 0 fin).setIfInBounds 0 x=gs.setIfInBounds 0 x:=λx=>set_setIfInBounds hlt _ _
 have N:gs.swapAt! 0 {(default:Goroutine) with status:=.finished}=(g,gs.set 0 fin):=by rw[swapAt_of_lt hlt,U];rfl
 have F:∀i,0<i->(gs.setIfInBounds 0 g')[i]?=gs[i]?:=λi hi=>A7g omz
 have E:∀J pos (es:Array Event),deafBehind 0 es=0->∀t,Deaf t 0=0->Deaf (t++MemOp.ofEvents 0 J pos es) 0=0:=λJ pos es O t C=>by rw[Deaf_own,C,O]
 cases d:stepG P true g w with
 | go a b c=>
  rw[d] at h l;cases h;have q:=runT_crowd_go (P:=P) (sl:=sl) (i:=0) G (show stepG P (0==0) g w=_ from d);refine⟨_,_,q,spz,by simp[hlt],λi hi=>?_,λop f=>?_,E _ _ _ (l.2.2 A)⟩
  ·rw[A7g omz,A8o]
   cases v:gs[i]? with
   | none=>rfl
   | some x=>
    simp only[A8q,A65];unfold woken;split
    ·exact again_running _ (L i x hi v)
    ·rfl
  ·obtain⟨e,_,rfl⟩:=Go.Conc.mem_ofEvents f;rfl
 | comm a B b z r u=>
  rw[d] at h l;have M:=Ae1 (P:=P) (sl:=sl) Q yBh a B b z r;rw[show Ur P a B b z r=_ from h] at M;have q:runT P (crowd gs w sl) 0=(.next (crowd (gs.setIfInBounds 0 g') w' sl),MemOp.ofEvents 0 g.frame.fn g.frame.place u++Ax5 P a B b z r):=by
   show runT P {world:=w,gs:=gs,rest:={timers:=#[],alone:=none,slice:=sl} } 0=_
   unfold runT;simp only[N,beq_self_eq_true,d,M,D,GStep.es];rfl
  refine⟨_,_,q,spz,by simp[hlt],F,λop f=>?_,λt C=>?_⟩
  ·rcases Array.mem_append.1 f with f | f
   ·obtain⟨e,_,rfl⟩:=Go.Conc.mem_ofEvents f;rfl
   ·exact(Ae3 _ _ _ _ _ op f).1
  ·rw[<-Array.append_assoc,Aso _ _ (Ae3 _ _ _ _ _)]
   exact E _ _ _ l.2.2 t C
 | coroswitch a c x r u=>
  rw[d] at h l;have V:∀op∈MemOp.ofEvents 0 g.frame.fn g.frame.place u,op.g=0:=λop f=>by obtain⟨e,_,rfl⟩:=Go.Conc.mem_ofEvents f;rfl
  simp only[nxt,Asp] at h;have q:runT P (crowd gs w sl) 0=(.next (crowd (gs.setIfInBounds 0 g') w' sl),MemOp.ofEvents 0 g.frame.fn g.frame.place u):=by
   show runT P {world:=w,gs:=gs,rest:={timers:=#[],alone:=none,slice:=sl} } 0=_
   unfold runT;simp only[N,beq_self_eq_true,d,GStep.es];cases H:r.heap[c]? with
   | none=>rw[H] at h;cases h
   | some o=>
    rw[H] at h;cases o<;>first | (cases h;done) | skip
    rename_i p;cases p with
    | none=>
     simp only[endThrow,dieOf] at h ⊢;cases h;simp only[D];rfl
    | some k=>
     simp only at h ⊢;cases h;by_cases I:k=0
     ·subst I
      simp only[if_true,D,crowd];congr 3;apply Array.ext_getElem?;intro j;by_cases T:j=0
      ·subst T
       rw[A76,if_pos rfl,A6u hlt,A6u hlt];rfl
      ·rw[A7g omz,A76]
       rw[if_neg omz,A7g omz]
     ·simp only[I,A7k] at A
      cases x<;>cases A
  exact⟨_,_,q,spz,by simp[hlt],F,V,E _ _ _ l.2⟩
 | spawn _ _ _ _=>rw[d] at h;cases h
 | ended _ _ _=>rw[d] at h;cases h
 | _=>rw[d] at l;exact l.elim
end
section
variable {g:Goroutine}{m m':Machine}{n:Nat}
variable {P : Program}
def Way (P:Program)(Stop:Goroutine->World->Prop)(g:Goroutine)(w:World):Prop:=
 ∀X:Goroutine->World->Prop,(∀g w,Stop g w->X g w)->
  (∀g w,OkG g->g.status=.running->(∀d,∃a b c,nxt P (stepG P true g (w.at d))=.go a b c/\a.status=.running/\X a b)->X g w)->X g w
theorem Way.stop {Stop:Goroutine->World->Prop}{w:World}(h:Stop g w):Way P Stop g w:=λ_ a _=>a g w h
theorem Way.step {Stop:Goroutine->World->Prop}{w:World}(hg:OkG g)(hr:g.status=.running)
  (h:∀d,∃a b c,nxt P (stepG P true g (w.at d))=.go a b c/\a.status=.running/\Way P Stop a b):Way P Stop g w:=
 λX i f=>f g w hg hr λd=>let ⟨a,b,c,e,r,k⟩:=h d;⟨a,b,c,e,r,k X i f⟩
theorem runN_ended {o:Outcome}{w:World}(h:step P m=.ended o w)(hr:runN P (n+1) m=.next m'):False:=by
 simp only[runN,h] at hr;cases hr
theorem endWith_ended (w:World)(b:Nat)(text:ByteArray)(o:Outcome):∃c a,endWith w b text o=.ended c a:=by
 unfold endWith;generalize w.sys (.write b text)=x;obtain⟨r,a⟩:=x;cases r<;>dsimp only<;>first
  | exact⟨_,_,rfl⟩
  | (split<;>exact⟨_,_,rfl⟩)
theorem Ax3 {w:World}(h1:g.status≠.running)(e:∀t,g.status≠.sleeping t):(∃o c,step P (solo g w)=.ended o c)\/step P (solo g w)=.next (solo g w):=by
 have p:runnable #[g] w.os.mono=[]:=by
  rw[runnable_eq];simp only[A55,A53,A54,A6b,List.range_one];rw[List.filter_cons];have:g.canRun w.os.mono=false:=by
   unfold Goroutine.canRun;cases a:g.status<;>first | rfl | exact absurd a h1 | exact absurd a (e _)
  simp[this]
 have f:ahead (solo g w) false=none:=by
  unfold ahead solo;cases a:g.status<;>first | exact absurd a (e _) | simp[a]
 have j:askOn P (solo g w)=(if #[g].any (·.status==.waiting) then .machine (.next (solo g w)) else
   let b:=if #[g].any (λg=>g.status==.blocked || g.status==.parked) then "all goroutines are asleep - deadlock!" else "no goroutines (main called runtime.Goexit) - deadlock!"
   match endWith w 2 (bytes ("fatal error: " ++b++ "\n")) (.fatal b) with
   | .ended o w _=>.machine (.ended o w)
   | _=>.machine (.ended (.stuck "" "") default)):=by
  unfold askOn;have l:runnable (solo g w).gs (solo g w).world.os.mono=[]:=p;have i:due (solo g w).rest.timers (solo g w).world.os.mono=[]:=by simp[due,solo]
  simp only[l,i,List.isEmpty_nil,if_true,A54,Nat.not_lt_zero,A7k];simp only[pure,Sem.run];rw[show({world:=(solo g w).world,gs:=(solo g w).gs,rest:=(solo g w).rest}:Machine)=solo g w from rfl,f];rfl
 have k:move P (solo g w)=askOn P (solo g w):=rfl;unfold step stepT;rw[k,j];by_cases d:#[g].any (·.status==.waiting)=true
 ·rw[if_pos d];exact .inr rfl
 ·rw[if_neg d]
  left;dsimp only;obtain⟨q,c,h⟩:=endWith_ended w 2 (bytes ("fatal error: " ++(if #[g].any (λg=>g.status==.blocked || g.status==.parked) then "all goroutines are asleep - deadlock!" else "no goroutines (main called runtime.Goexit) - deadlock!")++ "\n")) (.fatal (if #[g].any (λg=>g.status==.blocked || g.status==.parked) then "all goroutines are asleep - deadlock!" else "no goroutines (main called runtime.Goexit) - deadlock!"));rw[h];exact⟨_,_,rfl⟩
theorem Ax4 {w:World}(h1:g.status≠.running)(b:∀t,g.status≠.sleeping t):∀{n:Nat} {m:Machine},runN P n (solo g w)=.next m->m=solo g w:=by
 intro n;induction n with
 | zero=>intro m h;cases h;rfl
 | succ n c=>
  intro m h;rcases Ax3 (P:=P) (w:=w) h1 b with⟨o,d,a⟩ | a
  ·exact(runN_ended a h).elim
  ·simp only[runN,a] at h
   exact c h
theorem Avp (h:runN P n m=.next m'):m.gs.size<=m'.gs.size:=by
 have e:runNT P n m #[]=(.next m',(runNT P n m #[]).2):=Prod.ext (by rw[runNT_fst,h]) rfl;exact runNT_size P n m m' _ _ e
theorem Amt (C:OkP P)(Stop:Goroutine->World->Prop)(au:∀g w,Stop g w->g.status=.running)
  (blind:∀g w l e,Stop g w->Stop g {w with tape:=l,drawn:=e}) (t:Goroutine) (ac:OkG t) (af:t.status=.running) (w₀:World)
  (ao:∀l e,∃n g' w',runN P n (solo t {w₀ with tape:=l,drawn:=e})=.next (solo g' w')/\Stop g' w'):Way P Stop t w₀:=by
 by_cases V:Way P Stop t w₀
 ·exact V
 exfalso;obtain⟨T,hT⟩:∃T,T=w₀.tape:=⟨_,rfl⟩
 have ar:∀c:{c:Goroutine × World // OkG c.1/\c.2.tape=T/\¬Way P Stop c.1 c.2/\c.1.status=.running},∃x:Nat × Nat × {c:Goroutine × World // OkG c.1/\c.2.tape=T/\¬Way P Stop c.1 c.2/\c.1.status=.running},
   x.1<=x.2.1/\
   (∀l s e,s<=x.1->Ag T l s e x.2.1->nxt P (stepG P true c.1.1 (rt l s e (c.1.2.at x.1)))=(nxt P (stepG P true c.1.1 (c.1.2.at x.1))).turn (rt l s e))/\
   ((∃es,nxt P (stepG P true c.1.1 (c.1.2.at x.1))=.go x.2.2.1.1 x.2.2.1.2 es/\x.2.2.1.2.drawn=x.2.1)\/
    ¬∃g' w' es,nxt P (stepG P true c.1.1 (c.1.2.at x.1))=.go g' w' es/\g'.status=.running):=by
  rintro⟨⟨g,w⟩,F,ht,Z,H⟩;obtain⟨d,hd⟩:∃d,¬∃g' w' es,nxt P (stepG P true g (w.at d))=.go g' w' es/\g'.status=.running/\Way P Stop g' w':=by
   refine Classical.byContradiction λo=>Z (Way.step F H λd=>?_)
   exact Classical.byContradiction λq=>o ⟨d,q⟩
  obtain⟨l1,S,ag,J,l4,l5⟩:=Awq C F (w.at d);have I:(w.at d).tape=T:=ht;by_cases hc:∃g' w' es,nxt P (stepG P true g (w.at d))=.go g' w' es/\g'.status=.running
  ·obtain⟨g',w',es,y,K⟩:=hc
   have M:=(Ah9 C F H y).1;rw[y] at l1 S J l4;refine⟨⟨d,ag,⟨⟨g',w'⟩,M,l1.trans I,λq=>hd ⟨g',w',es,y,K,q⟩,K⟩⟩,?_,fun l s e O U=>?_, .inl ⟨es,y,?_⟩⟩
   ·exact A6e S J
   ·exact l5 l s e O (by rw[I];exact U)
   ·exact(l4 K).symm
  ·refine⟨⟨d,ag,⟨⟨g,w⟩,F,ht,Z,H⟩⟩,?_,fun l s e O U=>?_, .inr hc⟩
   ·exact A6e S J
   ·exact l5 l s e O (by rw[I];exact U)
 obtain⟨f,hf⟩:=Classical.axiomOfChoice ar;obtain⟨seq,ai,ap⟩:∃seq:Nat->{c:Goroutine × World // OkG c.1/\c.2.tape=T/\¬Way P Stop c.1 c.2/\c.1.status=.running},seq 0=⟨⟨t,w₀⟩,ac,hT.symm,V,af⟩/\∀i,seq (i+1)=(f (seq i)).2.2:=
  ⟨λi=>Nat.rec ⟨⟨t,w₀⟩,ac,hT.symm,V,af⟩ (λ_ c=>(f c).2.2) i,rfl,λ_=>rfl⟩
 obtain⟨p,ak,L⟩:∃p:Nat->Nat,p 0=0/\∀i,p (i+1)=p i+((f (seq i)).2.1 - (f (seq i)).1):=
  ⟨λi=>Nat.rec 0 (λi x=>x+((f (seq i)).2.1 - (f (seq i)).1)) i,rfl,λ_=>rfl⟩
 have aa:∀i j,i<=j->p i<=p j:=by
  intro i j ax;induction ax with
  | refl=>exact A57 _
  | step _ D=>rw[L];omega
 obtain⟨l,ay⟩:∃l:Nat->Question->Nat,∀i j,(f (seq i)).1+j<(f (seq i)).2.1->l (p i+j)=T ((f (seq i)).1+j):=by
  classical
  refine⟨λn=>if h:∃i,p i<=n/\n<p (i+1) then T ((f (seq (Classical.choose h))).1+(n - p (Classical.choose h))) else λ_=>0,λi j r=>?_⟩;have W:p i<=p i+j/\p i+j<p (i+1):=⟨omz,by rw[L];omega⟩
  have v:∃i',p i'<=p i+j/\p i+j<p (i'+1):=⟨i,W⟩
  have ah:=Classical.choose_spec v;have an:Classical.choose v=i:=by
   rcases Nat.lt_trichotomy (Classical.choose v) i with h | h | h
   ·have:=aa _ _ (Nat.succ_le_of_lt h)
    have:=ah.2
    simp only[Nat.succ_eq_add_one] at*;omega
   ·exact h
   ·have:=aa _ _ (Nat.succ_le_of_lt h)
    have:=ah.1
    have:=W.2
    simp only[Nat.succ_eq_add_one] at*;omega
  simp only[v,dite_true,an];congr 1;omega
 have Y:∀i,step P (solo (seq i).1.1 {(seq i).1.2 with tape:=l,drawn:=p i})=Anj ((nxt P (stepG P true (seq i).1.1 ((seq i).1.2.at (f (seq i)).1))).turn (rt l (f (seq i)).1 (p i))):=by
  intro i;have M:=(seq i).2.1;have aj:=(seq i).2.2.2.2;have B:({(seq i).1.2 with tape:=l,drawn:=p i}:World)=rt l (f (seq i)).1 (p i) ((seq i).1.2.at (f (seq i)).1):=by
   simp only[rt,World.at];congr 1;omega
  rw[B,Avc aj (Um C true _ M _)];rw[(hf (seq i)).2.1 l (f (seq i)).1 (p i) (A57 _) (λj r=>ay i j r)]
 have key:∀i,(∀j,j<i->∃es,nxt P (stepG P true (seq j).1.1 ((seq j).1.2.at (f (seq j)).1))=.go (f (seq j)).2.2.1.1 (f (seq j)).2.2.1.2 es/\(f (seq j)).2.2.1.2.drawn=(f (seq j)).2.1)->
   runN P i (solo t {w₀ with tape:=l,drawn:=0})=.next (solo (seq i).1.1 {(seq i).1.2 with tape:=l,drawn:=p i}):=by
  intro i;induction i with
  | zero=>intro _;rw[ai,ak];rfl
  | succ i D=>
   intro u;obtain⟨es,y,hK⟩:=u i (A69 i);rw[runN_add,D (λj r=>u j (Nat.lt_succ_of_lt r))];simp only[runN];rw[Y i,y];simp only[GStep.turn,Anj];rw[ap i,L i];have:rt l (f (seq i)).1 (p i) (f (seq i)).2.2.1.2={(f (seq i)).2.2.1.2 with tape:=l,drawn:=p i+((f (seq i)).2.1 - (f (seq i)).1)}:=by simp only[rt,hK]
   rw[this]
 obtain⟨n,g',w',o,Q⟩:=ao l 0;by_cases u:∀j,j<n->∃es,nxt P (stepG P true (seq j).1.1 ((seq j).1.2.at (f (seq j)).1))=.go (f (seq j)).2.2.1.1 (f (seq j)).2.2.1.2 es/\(f (seq j)).2.2.1.2.drawn=(f (seq j)).2.1
 ·rw[key n u] at o
  injection o with o
  have B:(seq n).1.1=g':=by
   have:=congrArg (λm:Machine=>m.gs[0]?) o
   simpa[solo] using this
  have e2:({(seq n).1.2 with tape:=l,drawn:=p n}:World)=w':=congrArg (λm:Machine=>m.world) o;rw[<-B,<-e2] at Q;have:=blind _ _ (seq n).1.2.tape (seq n).1.2.drawn Q
  exact(seq n).2.2.2.1 (Way.stop this)
 ·
  obtain⟨j,r,av,aw⟩:∃j,j<n/\(¬∃es,nxt P (stepG P true (seq j).1.1 ((seq j).1.2.at (f (seq j)).1))=.go (f (seq j)).2.2.1.1 (f (seq j)).2.2.1.2 es/\(f (seq j)).2.2.1.2.drawn=(f (seq j)).2.1)/\
    ∀k,k<j->∃es,nxt P (stepG P true (seq k).1.1 ((seq k).1.2.at (f (seq k)).1))=.go (f (seq k)).2.2.1.1 (f (seq k)).2.2.1.2 es/\(f (seq k)).2.2.1.2.drawn=(f (seq k)).2.1:=by
   have v:∃j,j<n/\¬∃es,nxt P (stepG P true (seq j).1.1 ((seq j).1.2.at (f (seq j)).1))=.go (f (seq j)).2.2.1.1 (f (seq j)).2.2.1.2 es/\(f (seq j)).2.2.1.2.drawn=(f (seq j)).2.1:=by
    refine Classical.byContradiction λq=>u λj r=>Classical.byContradiction λN=>q ⟨j,r,N⟩
   clear u;obtain⟨j,r⟩:=v;induction j using Nat.strongRecOn with
   | ind j D=>
    by_cases q:∃k,k<j/\¬∃es,nxt P (stepG P true (seq k).1.1 ((seq k).1.2.at (f (seq k)).1))=.go (f (seq k)).2.2.1.1 (f (seq k)).2.2.1.2 es/\(f (seq k)).2.2.1.2.drawn=(f (seq k)).2.1
    ·obtain⟨k,R,al⟩:=q
     exact D k R ⟨omz,al⟩
    ·exact⟨j,r.1,r.2,λk R=>Classical.byContradiction λN=>q ⟨k,R,N⟩⟩
  have ae:=((hf (seq j)).2.2).resolve_left av;obtain⟨m,rfl⟩:∃m,n=j+(m+1):=⟨n - j - 1,omz⟩
  rw[runN_add,key j aw] at o;simp only at o;have z:=Y j;have az:=Um C true (seq j).1.1 (seq j).2.1 ((seq j).1.2.at (f (seq j)).1);have ab:=λg' w' es h=>Ah9 (P:=P) (w:=(seq j).1.2.at (f (seq j)).1) C (seq j).2.1 (seq j).2.2.2.2 (g':=g') (w':=w') (es:=es) h
  generalize nxt P (stepG P true (seq j).1.1 ((seq j).1.2.at (f (seq j)).1))=X at ae z ab;cases X with
  | go A E G=>
   have h1:A.status≠.running:=λq=>ae ⟨A,E,G,rfl,q⟩
   have h2:=(ab A E G rfl).2;simp only[runN,z,GStep.turn,Anj] at o;have:=Ax4 h1 h2 o
   have B:g'=A:=by
    have:=congrArg (λm:Machine=>m.gs[0]?) this
    simpa[solo] using this
   exact h1 (B ▸ au _ _ Q)
  | spawn A c1 E G=>
   simp only[runN,z,GStep.turn,Anj] at o;have:=Avp o
   simp[solo] at this
  | ended o1 E G=>exact runN_ended (by rw[z];rfl) o
  | comm a b c d e f=>exact runN_ended (by rw[z];rfl) o
  | _=>exact runN_ended (by rw[z];rfl) o
end
end Go.Co
