import Derived.Test.YtbfljjcnbbmoaaaGreatDoorCC5
import Derived.Lone
namespace Go.Co
open Go.Conc
section
variable {P : Program} {w : World}
def Aqg (g:Goroutine) (c:Nat) (x:Bool) (w:World):GStep:=
 match w.heap[c]? with
 | some (.coro (some h))=>.go (if h=0 then {(if x then {g with status:=.finished} else {g with frame:=g.frame.finish undef,status:=.parked}:Goroutine) with status:=.running} else(if x then {g with status:=.finished} else {g with frame:=g.frame.finish undef,status:=.parked}))
   {w with heap:=w.heap.setIfInBounds c (.coro (if x then none else some 0))}
 | some (.coro none)=>endThrow g.frame "coroswitch on exited coro" w
 | _=>.ended (.stuck "coroswitch: no coroutine" "") w
def nxt (P:Program):GStep->GStep
 | .comm g cs b sh w _=>Su P g cs b sh w
 | .coroswitch g c x w _=>Aqg g c x w
 | s=>s
def Ak0:GStep->Stepped
 | .go g w _=>.next (solo g w)
 | .spawn g c w _=>.next {world:=w,gs:=#[g,c],rest:={timers:=#[],alone:=none,slice:=none} }
 | .ended o w _=>.ended o w
 | _=>.ended default default
theorem Aqh (g:Goroutine) (cs:Array CommCase) (b:Bool) (sh:CommShape) (w:World):(∃g' w',Su P g cs b sh w=.go g' w')\/∃o w',Su P g cs b sh w=.ended o w':=by
 unfold Su;split
 ·exact .inl ⟨_,_,rfl⟩
 ·exact .inr ⟨_,_,rfl⟩
theorem Aub {g:Goroutine} (h:g.status=.running):move P (solo g w)=.goroutine (solo g w) 0:=by
 simp[move,ask,askOn,solo,runnable_eq,due,ahead,Goroutine.canRun,List.range_succ,choose,pure,Sem.run,Question.forced,h]
theorem As7 {g:Goroutine} (h:g.status=.running) (hf:(stepG P true g w).fine):step P (solo g w)=Ak0 (nxt P (stepG P true g w)):=by
 rw[step,stepT,Aub h];cases hs:stepG P true g w with
 | go g' w' es=>simp[runT,solo,Array.swapAt!,hs,nxt,Ak0]
 | ended o w' es=>simp[runT,solo,Array.swapAt!,hs,nxt,Ak0]
 | spawn g' c w' es=>simp[runT,solo,Array.swapAt!,hs,nxt,Ak0]
 | comm g' cs b sh w' es=>
  have this:=Ada (P:=P) (sl:=none) Jj (by simp) g' cs b sh w';have e1:(runT P (solo g w) 0).1=(communicate P {timers:=#[],alone:=none,slice:=none} #[fin] 0 g' cs b sh w').1:=by
   simp[runT,solo,Array.swapAt!,hs,fin]
  simp only[nxt];show(runT P (solo g w) 0).1=_
  rw[e1,this];rcases Aqh (P:=P) g' cs b sh w' with⟨g'',w'',hc⟩ | ⟨o,w'',hc⟩
  ·rw[hc];simp[Ak0,solo]
  ·rw[hc];simp[Ak0]
 | coroswitch g' c x w' es=>
  simp only[nxt,Aqg];cases hh:w'.heap[c]? with
  | none=>simp[runT,solo,Array.swapAt!,hs,hh,Ak0]
  | some o=>
   cases o<;>try (simp[runT,solo,Array.swapAt!,hs,hh,Ak0];done)
   rename_i p;cases p with
   | none=>simp[runT,solo,Array.swapAt!,hs,hh,Ak0,endThrow,dieOf]
   | some k=>
    cases k with
    | zero=>cases x<;>simp[runT,solo,Array.swapAt!,hs,hh,Ak0,Array.modify,Array.modifyM]
    | succ k=>cases x<;>simp[runT,solo,Array.swapAt!,hs,hh,Ak0,Array.modify,Array.modifyM]
 | _=>rw[hs] at hf;exact hf.elim
theorem Aue (hP:OkP P) {g:Goroutine} (hg:OkG g) (w:World):Fh (λw=>nxt P (stepG P true g w)) w:=by
 refine Fh.next (F:=λw=>stepG P true g w) (nxt P) (Aud hP true g hg.1 w) ?_ ?_
 ·have hf:=Sl hP true g hg w
  generalize stepG P true g w=s at hf ⊢;cases s with
  | go g' w' es=>exact(Dn _ _).loc _
  | ended o w' es=>exact(Bc _ _).loc _
  | spawn g' c w' es=>exact Vx.loc (λ_=>⟨rfl,λ_=>rfl⟩) _
  | comm g' cs b sh w' es=>exact Auh g' cs b sh w'
  | coroswitch g' c x w' es=>
   show Fh (λw=>Aqg g' c x w) w'
   unfold Aqg;refine Fh.const ?_ ?_ fun τ s e _=>?_
   ·split<;>rfl
   ·split<;>rfl
   ·show(match w'.heap[c]? with
     | some (.coro (some h))=>GStep.go _ {rt τ s e w' with heap:=w'.heap.setIfInBounds c _} _
     | some (.coro none)=>endThrow _ _ (rt τ s e w')
     | _=>GStep.ended _ (rt τ s e w') _)=_
    rcases w'.heap[c]? with _ | o
    ·rfl
    ·cases o<;>first | rfl | (rename_i p;cases p<;>rfl)
  | _=>exact hf.elim
 ·generalize stepG P true g w=s
  cases s with
  | go g' w' es=>exact id
  | ended o w' es=>exact id
  | _=>exact λ_=>trivial
theorem Af5 (hP:OkP P) {g:Goroutine} (hg:OkG g) (_hr:g.status=.running) {g':Goroutine} {w':World} {es:Array Event} (h:nxt P (stepG P true g w)=.go g' w' es):OkG g'/\∀t,g'.status≠.sleeping t:=by
 have hf:=Sl hP true g hg w;generalize stepG P true g w=s at hf h;cases s with
 | go a b c=>cases h;exact⟨hf.1,hf.2.1⟩
 | comm a cs b sh w1 ev=>
  rcases Aqi (P:=P) hf.1 hf.2.1 cs b sh w1 with⟨o,w2,he⟩ | ⟨g2,w2,he,h1,h2⟩
  ·rw[show Su P a cs b sh w1=_ from h] at he;cases he
  ·rw[show Su P a cs b sh w1=_ from h] at he;cases he;exact⟨h1,h2⟩
 | coroswitch a c x w1 ev=>
  simp only[nxt,Aqg] at h;split at h
  ·cases h
   refine⟨?_,λt ht=>?_⟩
   ·split<;>(try split)<;>first | exact hf.1 | exact⟨H9 hf.1.1 _,hf.1.2⟩
   ·split at ht<;>(try split at ht)<;>cases ht
  ·cases h;exact⟨⟨hf.1.1,Jg⟩,λt ht=>by cases ht⟩
  ·cases h
 | spawn _ _ _ _=>cases h
 | ended _ _ _=>cases h
 | _=>exact hf.elim
end
end Go.Co
namespace Go.Co
open Go.Conc
section
variable {P : Program} {w : World}
def Akw (op:MemOp):Prop:=op.g=0/\∀m,op.act≠.mark m
theorem Adc (g:Goroutine) (cs:Array CommCase) (b:Bool) (sh:CommShape) (w:World):∀op∈Avp P g cs b sh w,Akw op:=by
 have hme:∀(fn:FuncId) (pos:String) (a:MemAct),(∀m,a≠.mark m)->Akw {g:=0,fn,pos,act:=a}:=λ_ _ _ h=>⟨rfl,h⟩
 unfold Avp;unfold communicate;have hrw:=Zz (w:=w) Jj cs.zipIdx.toList;dsimp only;split
 ·intro op hop;simp at hop
 ·split
  ·split
   ·rw[Yr _ rfl]
    intro op hop;simp at hop
   ·intro op hop;simp at hop
  ·generalize hready:(List.filter _ _:List (Nat × CommCase × List Way))=ready
   have hrw':∀x∈ready,∀y∈x.2.2,∀a b,y≠.partner a b:=by rw[<-hready];exact hrw
   cases hp:(Ad9 ready).run P w with
   | halt hh w'=>intro op hop;simp at hop
   | ok z w'=>
    obtain⟨k,c,way⟩:=z;have hw:=Af3 hrw' hp;dsimp only;cases way with
    | partner a b=>exact absurd rfl (hw a b)
    | sendClosed=>
     dsimp only;cases (runtimePanic (.plain "send on closed channel"):Sem Unit).run P w' with
     | ok a w''=>intro op hop;simp at hop
     | halt hh w''=>cases hh<;>(intro op hop;simp at hop)
    | closed=>
     intro op hop;simp at hop;subst hop;exact hme _ _ _ (λm h=>by cases h)
    | buffer=>
     rw[Gw Jj];intro op hop;split at hop
     ·simp_all
     ·simp at hop;subst hop;exact hme _ _ _ (λm h=>by cases h)
     ·simp at hop;rcases hop with rfl | rfl<;>exact hme _ _ _ (λm h=>by cases h)
     ·simp at hop;rcases hop with rfl | rfl<;>exact hme _ _ _ (λm h=>by cases h)
     ·simp_all
     ·simp_all
     ·simp at hop
theorem Aqf (t u:Trace) (h:∀op∈u,Akw op):Deaf (t++u) 0=Deaf t 0:=by
 obtain⟨l⟩:=u;rw[Deaf_append];induction l generalizing t with
 | nil=>rfl
 | cons y l ih=>
  have hy:=h y (by simp);have e1:deafStep 0 (Deaf t 0) y=Deaf t 0:=by
   unfold deafStep;split
   ·rename_i ha;exact absurd ha (hy.2 _)
   ·rename_i ha;exact absurd ha (hy.2 _)
   ·rfl
  rw[List.foldl_cons,e1];exact ih t (λop hop=>h op (by simp at hop ⊢;exact .inr hop))
theorem Akg (hP:OkP P) {gs:Array Goroutine} {g g':Goroutine} {w':World} {es:Array Event} {sl:Option (Nat × Nat)} (hg:OkG g) (h0:gs[0]?=some g)
  (hno:∀i x,0<i->gs[i]?=some x->x.status=.running\/x.status=.finished) (h:nxt P (stepG P true g w)=.go g' w' es) (hr':g'.status=.running):
  ∃gs' ops,runT P (crowd gs w sl) 0=(.next (crowd gs' w' sl),ops)/\gs'.size=gs.size/\gs'[0]?=some g'/\(∀i,0<i->gs'[i]?=gs[i]?)/\(∀op∈ops,op.g=0)/\∀t,Deaf t 0=0->Deaf (t++ops) 0=0:=by
 have hf:=Sl hP true g hg w;obtain⟨hlt,hg0⟩:=Array.getElem?_eq_some_iff.1 h0;have hfin:Yg (gs.set 0 fin):=by
  intro x hx;obtain⟨i,hi,rfl⟩:=Array.mem_iff_getElem.1 hx;by_cases hi0:i=0
  ·subst hi0;simp[fin]
  ·have hi':i<gs.size:=by simpa using hi
   have:(gs.set 0 fin)[i]=gs[i]:=by rw[Array.getElem_set_ne];omega
   rw[this];rcases hno i gs[i] (by omega) (Array.getElem?_eq_getElem hi') with h1 | h1<;>rw[h1]<;>simp
 have hset:∀x:Goroutine,(gs.set 0 fin).setIfInBounds 0 x=gs.setIfInBounds 0 x:=λx=>set_setIfInBounds hlt _ _
 have hsw:gs.swapAt! 0 {(default:Goroutine) with status:=.finished}=(g,gs.set 0 fin):=by rw[swapAt_of_lt hlt,hg0];rfl
 have hrest:∀i,0<i->(gs.setIfInBounds 0 g')[i]?=gs[i]?:=λi hi=>Array.getElem?_setIfInBounds_ne (by omega)
 have hev:∀fn pos (es:Array Event),deafBehind 0 es=0->∀t,Deaf t 0=0->Deaf (t++MemOp.ofEvents 0 fn pos es) 0=0:=λfn pos es he t ht=>by rw[Deaf_own,ht,he]
 cases hs:stepG P true g w with
 | go a b c=>
  rw[hs] at h hf;cases h;have hrun:=runT_crowd_go (P:=P) (sl:=sl) (i:=0) h0 (show stepG P (0==0) g w=_ from hs);refine⟨_,_,hrun,by simp,by simp[hlt],λi hi=>?_,λop hop=>?_,hev _ _ _ (hf.2.2 hr')⟩
  ·rw[Array.getElem?_setIfInBounds_ne (by omega),Array.getElem?_map]
   cases hx:gs[i]? with
   | none=>rfl
   | some x=>
    simp only[Option.map_some,Option.some.injEq];unfold woken;split
    ·exact again_running _ (hno i x hi hx)
    ·rfl
  ·obtain⟨e,_,rfl⟩:=Go.Conc.mem_ofEvents hop;rfl
 | comm a cs b sh w1 ev=>
  rw[hs] at h hf;have hc:=Ada (P:=P) (sl:=sl) hfin (by simpa using hlt) a cs b sh w1;rw[show Su P a cs b sh w1=_ from h] at hc;have hrun:runT P (crowd gs w sl) 0=(.next (crowd (gs.setIfInBounds 0 g') w' sl),MemOp.ofEvents 0 g.frame.fn g.frame.place ev++Avp P a cs b sh w1):=by
   show runT P {world:=w,gs:=gs,rest:={timers:=#[],alone:=none,slice:=sl} } 0=_
   unfold runT;simp only[hsw,beq_self_eq_true,hs,hc,hset,GStep.es];rfl
  refine⟨_,_,hrun,by simp,by simp[hlt],hrest,λop hop=>?_,λt ht=>?_⟩
  ·rcases Array.mem_append.1 hop with hop | hop
   ·obtain⟨e,_,rfl⟩:=Go.Conc.mem_ofEvents hop;rfl
   ·exact(Adc _ _ _ _ _ op hop).1
  ·rw[<-Array.append_assoc,Aqf _ _ (Adc _ _ _ _ _)]
   exact hev _ _ _ hf.2.2 t ht
 | coroswitch a c x w1 ev=>
  rw[hs] at h hf;have hops:∀op∈MemOp.ofEvents 0 g.frame.fn g.frame.place ev,op.g=0:=λop hop=>by obtain⟨e,_,rfl⟩:=Go.Conc.mem_ofEvents hop;rfl
  simp only[nxt,Aqg] at h;have hrun:runT P (crowd gs w sl) 0=(.next (crowd (gs.setIfInBounds 0 g') w' sl),MemOp.ofEvents 0 g.frame.fn g.frame.place ev):=by
   show runT P {world:=w,gs:=gs,rest:={timers:=#[],alone:=none,slice:=sl} } 0=_
   unfold runT;simp only[hsw,beq_self_eq_true,hs,GStep.es];cases hh:w1.heap[c]? with
   | none=>rw[hh] at h;cases h
   | some o=>
    rw[hh] at h;cases o<;>first | (cases h;done) | skip
    rename_i p;cases p with
    | none=>
     simp only[endThrow,dieOf] at h ⊢;cases h;simp only[hset];rfl
    | some k=>
     simp only at h ⊢;cases h;by_cases hk:k=0
     ·subst hk
      simp only[if_true,hset,crowd];congr 3;apply Array.ext_getElem?;intro j;by_cases hj:j=0
      ·subst hj
       rw[Array.getElem?_modify,if_pos rfl,A45 hlt,A45 hlt];rfl
      ·rw[Array.getElem?_setIfInBounds_ne (by omega),Array.getElem?_modify]
       rw[if_neg (by omega),Array.getElem?_setIfInBounds_ne (by omega)]
     ·simp only[hk,if_false] at hr'
      cases x<;>cases hr'
  exact⟨_,_,hrun,by simp,by simp[hlt],hrest,hops,hev _ _ _ hf.2⟩
 | spawn _ _ _ _=>rw[hs] at h;cases h
 | ended _ _ _=>rw[hs] at h;cases h
 | _=>rw[hs] at hf;exact hf.elim
end
end Go.Co
namespace Go.Co
open Go.Conc
section
variable {P : Program}
def Way (P:Program) (Stop:Goroutine->World->Prop) (g:Goroutine) (w:World):Prop:=
 ∀X:Goroutine->World->Prop,(∀g w,Stop g w->X g w)->
  (∀g w,OkG g->g.status=.running->(∀d,∃g' w' es,nxt P (stepG P true g (w.at d))=.go g' w' es/\g'.status=.running/\X g' w')->X g w)->X g w
theorem Way.stop {Stop:Goroutine->World->Prop} {g:Goroutine} {w:World} (h:Stop g w):Way P Stop g w:=λ_ h1 _=>h1 g w h
theorem Way.step {Stop:Goroutine->World->Prop} {g:Goroutine} {w:World} (hg:OkG g) (hr:g.status=.running)
  (h:∀d,∃g' w' es,nxt P (stepG P true g (w.at d))=.go g' w' es/\g'.status=.running/\Way P Stop g' w'):Way P Stop g w:=
 λX h1 h2=>h2 g w hg hr λd=>let ⟨g',w',es,e,r,k⟩:=h d;⟨g',w',es,e,r,k X h1 h2⟩
def ended:Stepped->Prop
 | .ended ..=>True
 | _=>False
theorem runN_ended {n:Nat} {m m':Machine} {o:Outcome} {w:World} (h:step P m=.ended o w) (hr:runN P (n+1) m=.next m'):False:=by
 simp only[runN,h] at hr;cases hr
theorem endWith_ended (w:World) (fd:Nat) (text:ByteArray) (o:Outcome):∃o' w',endWith w fd text o=.ended o' w':=by
 unfold endWith;generalize w.sys (.write fd text)=x;obtain⟨r,w'⟩:=x;cases r<;>dsimp only<;>first
  | exact⟨_,_,rfl⟩
  | (split<;>exact⟨_,_,rfl⟩)
theorem Avn {g:Goroutine} {w:World} (h1:g.status≠.running) (h2:∀t,g.status≠.sleeping t):(∃o w',step P (solo g w)=.ended o w')\/step P (solo g w)=.next (solo g w):=by
 have hrun:runnable #[g] w.os.mono=[]:=by
  rw[runnable_eq];simp only[A4g,A4e,A4f,A4m,List.range_one];rw[List.filter_cons];have:g.canRun w.os.mono=false:=by
   unfold Goroutine.canRun;cases hs:g.status<;>first | rfl | exact absurd hs h1 | exact absurd hs (h2 _)
  simp[this]
 have hah:ahead (solo g w) false=none:=by
  unfold ahead solo;cases hs:g.status<;>first | exact absurd hs (h2 _) | simp[hs]
 have hask:askOn P (solo g w)=(if #[g].any (·.status==.waiting) then .machine (.next (solo g w)) else
   let msg:=if #[g].any (λg=>g.status==.blocked || g.status==.parked) then "all goroutines are asleep - deadlock!" else "no goroutines (main called runtime.Goexit) - deadlock!"
   match endWith w 2 (bytes ("fatal error: " ++msg++ "\n")) (.fatal msg) with
   | .ended o w _=>.machine (.ended o w)
   | _=>.machine (.ended (.stuck "" "") default)):=by
  unfold askOn;have e1:runnable (solo g w).gs (solo g w).world.os.mono=[]:=hrun;have e2:due (solo g w).rest.timers (solo g w).world.os.mono=[]:=by simp[due,solo]
  simp only[e1,e2,List.isEmpty_nil,if_true,A4f,Nat.not_lt_zero,if_false];simp only[pure,Sem.run];rw[show({world:=(solo g w).world,gs:=(solo g w).gs,rest:=(solo g w).rest}:Machine)=solo g w from rfl,hah];rfl
 have hmove:move P (solo g w)=askOn P (solo g w):=rfl;unfold step stepT;rw[hmove,hask];by_cases hw:#[g].any (·.status==.waiting)=true
 ·rw[if_pos hw];exact .inr rfl
 ·rw[if_neg hw]
  left;dsimp only;obtain⟨o',w',he⟩:=endWith_ended w 2 (bytes ("fatal error: " ++(if #[g].any (λg=>g.status==.blocked || g.status==.parked) then "all goroutines are asleep - deadlock!" else "no goroutines (main called runtime.Goexit) - deadlock!")++ "\n")) (.fatal (if #[g].any (λg=>g.status==.blocked || g.status==.parked) then "all goroutines are asleep - deadlock!" else "no goroutines (main called runtime.Goexit) - deadlock!"));rw[he];exact⟨_,_,rfl⟩
theorem Avo {g:Goroutine} {w:World} (h1:g.status≠.running) (h2:∀t,g.status≠.sleeping t):∀{n:Nat} {m:Machine},runN P n (solo g w)=.next m->m=solo g w:=by
 intro n;induction n with
 | zero=>intro m h;cases h;rfl
 | succ n ih=>
  intro m h;rcases Avn (P:=P) (w:=w) h1 h2 with⟨o,w',he⟩ | he
  ·exact(runN_ended he h).elim
  ·simp only[runN,he] at h
   exact ih h
theorem Atf {n:Nat} {m m':Machine} (h:runN P n m=.next m'):m.gs.size<=m'.gs.size:=by
 have e:runNT P n m #[]=(.next m',(runNT P n m #[]).2):=Prod.ext (by rw[runNT_fst,h]) rfl;exact runNT_size P n m m' _ _ e
theorem Ake (hP:OkP P) (Stop:Goroutine->World->Prop) (hrun:∀g w,Stop g w->g.status=.running)
  (blind:∀g w τ e,Stop g w->Stop g {w with tape:=τ,drawn:=e}) (g₀:Goroutine) (hg₀:OkG g₀) (hr₀:g₀.status=.running) (w₀:World)
  (H:∀τ e,∃n g' w',runN P n (solo g₀ {w₀ with tape:=τ,drawn:=e})=.next (solo g' w')/\Stop g' w'):Way P Stop g₀ w₀:=by
 by_cases hway:Way P Stop g₀ w₀
 ·exact hway
 exfalso;obtain⟨T,hT⟩:∃T,T=w₀.tape:=⟨_,rfl⟩
 have hbad:∀c:{c:Goroutine × World // OkG c.1/\c.2.tape=T/\¬Way P Stop c.1 c.2/\c.1.status=.running},∃x:Nat × Nat × {c:Goroutine × World // OkG c.1/\c.2.tape=T/\¬Way P Stop c.1 c.2/\c.1.status=.running},
   x.1<=x.2.1/\
   (∀τ s e,s<=x.1->Ag T τ s e x.2.1->nxt P (stepG P true c.1.1 (rt τ s e (c.1.2.at x.1)))=(nxt P (stepG P true c.1.1 (c.1.2.at x.1))).turn (rt τ s e))/\
   ((∃es,nxt P (stepG P true c.1.1 (c.1.2.at x.1))=.go x.2.2.1.1 x.2.2.1.2 es/\x.2.2.1.2.drawn=x.2.1)\/
    ¬∃g' w' es,nxt P (stepG P true c.1.1 (c.1.2.at x.1))=.go g' w' es/\g'.status=.running):=by
  rintro⟨⟨g,w⟩,hg,ht,hw,hr⟩;obtain⟨d,hd⟩:∃d,¬∃g' w' es,nxt P (stepG P true g (w.at d))=.go g' w' es/\g'.status=.running/\Way P Stop g' w':=by
   refine Classical.byContradiction λhn=>hw (Way.step hg hr λd=>?_)
   exact Classical.byContradiction λhx=>hn ⟨d,hx⟩
  obtain⟨l1,l2,K,l3,l4,l5⟩:=Aue hP hg (w.at d);have ht':(w.at d).tape=T:=ht;by_cases hc:∃g' w' es,nxt P (stepG P true g (w.at d))=.go g' w' es/\g'.status=.running
  ·obtain⟨g',w',es,he,hr'⟩:=hc
   have hok:=(Af5 hP hg hr he).1;rw[he] at l1 l2 l3 l4;refine⟨⟨d,K,⟨⟨g',w'⟩,hok,l1.trans ht',λhx=>hd ⟨g',w',es,he,hr',hx⟩,hr'⟩⟩,?_,fun τ s e hs hA=>?_, .inl ⟨es,he,?_⟩⟩
   ·exact A4p l2 l3
   ·exact l5 τ s e hs (by rw[ht'];exact hA)
   ·exact(l4 hr').symm
  ·refine⟨⟨d,K,⟨⟨g,w⟩,hg,ht,hw,hr⟩⟩,?_,fun τ s e hs hA=>?_, .inr hc⟩
   ·exact A4p l2 l3
   ·exact l5 τ s e hs (by rw[ht'];exact hA)
 obtain⟨f,hf⟩:=Classical.axiomOfChoice hbad;obtain⟨seq,hs0,hss⟩:∃seq:Nat->{c:Goroutine × World // OkG c.1/\c.2.tape=T/\¬Way P Stop c.1 c.2/\c.1.status=.running},seq 0=⟨⟨g₀,w₀⟩,hg₀,hT.symm,hway,hr₀⟩/\∀i,seq (i+1)=(f (seq i)).2.2:=
  ⟨λi=>Nat.rec ⟨⟨g₀,w₀⟩,hg₀,hT.symm,hway,hr₀⟩ (λ_ c=>(f c).2.2) i,rfl,λ_=>rfl⟩
 obtain⟨p,hp0,hps⟩:∃p:Nat->Nat,p 0=0/\∀i,p (i+1)=p i+((f (seq i)).2.1 - (f (seq i)).1):=
  ⟨λi=>Nat.rec 0 (λi x=>x+((f (seq i)).2.1 - (f (seq i)).1)) i,rfl,λ_=>rfl⟩
 have hmono:∀i j,i<=j->p i<=p j:=by
  intro i j hij;induction hij with
  | refl=>exact A4i _
  | step _ ih=>rw[hps];omega
 obtain⟨τ,hτ⟩:∃τ:Nat->Question->Nat,∀i j,(f (seq i)).1+j<(f (seq i)).2.1->τ (p i+j)=T ((f (seq i)).1+j):=by
  classical
  refine⟨λn=>if h:∃i,p i<=n/\n<p (i+1) then T ((f (seq (Classical.choose h))).1+(n - p (Classical.choose h))) else λ_=>0,λi j hj=>?_⟩;have hin:p i<=p i+j/\p i+j<p (i+1):=⟨by omega,by rw[hps];omega⟩
  have hex:∃i',p i'<=p i+j/\p i+j<p (i'+1):=⟨i,hin⟩
  have hch:=Classical.choose_spec hex;have heq:Classical.choose hex=i:=by
   rcases Nat.lt_trichotomy (Classical.choose hex) i with h | h | h
   ·have:=hmono _ _ (Nat.succ_le_of_lt h)
    have:=hch.2
    simp only[Nat.succ_eq_add_one] at*;omega
   ·exact h
   ·have:=hmono _ _ (Nat.succ_le_of_lt h)
    have:=hch.1
    have:=hin.2
    simp only[Nat.succ_eq_add_one] at*;omega
  simp only[hex,dite_true,heq];congr 1;omega
 have hstep:∀i,step P (solo (seq i).1.1 {(seq i).1.2 with tape:=τ,drawn:=p i})=Ak0 ((nxt P (stepG P true (seq i).1.1 ((seq i).1.2.at (f (seq i)).1))).turn (rt τ (f (seq i)).1 (p i))):=by
  intro i;have hok:=(seq i).2.1;have hrn:=(seq i).2.2.2.2;have e1:({(seq i).1.2 with tape:=τ,drawn:=p i}:World)=rt τ (f (seq i)).1 (p i) ((seq i).1.2.at (f (seq i)).1):=by
   simp only[rt,World.at];congr 1;omega
  rw[e1,As7 hrn (Sl hP true _ hok _)];rw[(hf (seq i)).2.1 τ (f (seq i)).1 (p i) (A4i _) (λj hj=>hτ i j hj)]
 have key:∀i,(∀j,j<i->∃es,nxt P (stepG P true (seq j).1.1 ((seq j).1.2.at (f (seq j)).1))=.go (f (seq j)).2.2.1.1 (f (seq j)).2.2.1.2 es/\(f (seq j)).2.2.1.2.drawn=(f (seq j)).2.1)->
   runN P i (solo g₀ {w₀ with tape:=τ,drawn:=0})=.next (solo (seq i).1.1 {(seq i).1.2 with tape:=τ,drawn:=p i}):=by
  intro i;induction i with
  | zero=>intro _;rw[hs0,hp0];rfl
  | succ i ih=>
   intro hall;obtain⟨es,he,hK⟩:=hall i (Nat.lt_succ_self i);rw[runN_add,ih (λj hj=>hall j (Nat.lt_succ_of_lt hj))];simp only[runN];rw[hstep i,he];simp only[GStep.turn,Ak0];rw[hss i,hps i];have:rt τ (f (seq i)).1 (p i) (f (seq i)).2.2.1.2={(f (seq i)).2.2.1.2 with tape:=τ,drawn:=p i+((f (seq i)).2.1 - (f (seq i)).1)}:=by simp only[rt,hK]
   rw[this]
 obtain⟨n,g',w',hn,hst⟩:=H τ 0;by_cases hall:∀j,j<n->∃es,nxt P (stepG P true (seq j).1.1 ((seq j).1.2.at (f (seq j)).1))=.go (f (seq j)).2.2.1.1 (f (seq j)).2.2.1.2 es/\(f (seq j)).2.2.1.2.drawn=(f (seq j)).2.1
 ·rw[key n hall] at hn
  injection hn with hn
  have e1:(seq n).1.1=g':=by
   have:=congrArg (λm:Machine=>m.gs[0]?) hn
   simpa[solo] using this
  have e2:({(seq n).1.2 with tape:=τ,drawn:=p n}:World)=w':=congrArg (λm:Machine=>m.world) hn;rw[<-e1,<-e2] at hst;have:=blind _ _ (seq n).1.2.tape (seq n).1.2.drawn hst
  exact(seq n).2.2.2.1 (Way.stop this)
 ·
  obtain⟨j,hj,hjn,hmin⟩:∃j,j<n/\(¬∃es,nxt P (stepG P true (seq j).1.1 ((seq j).1.2.at (f (seq j)).1))=.go (f (seq j)).2.2.1.1 (f (seq j)).2.2.1.2 es/\(f (seq j)).2.2.1.2.drawn=(f (seq j)).2.1)/\
    ∀k,k<j->∃es,nxt P (stepG P true (seq k).1.1 ((seq k).1.2.at (f (seq k)).1))=.go (f (seq k)).2.2.1.1 (f (seq k)).2.2.1.2 es/\(f (seq k)).2.2.1.2.drawn=(f (seq k)).2.1:=by
   have hex:∃j,j<n/\¬∃es,nxt P (stepG P true (seq j).1.1 ((seq j).1.2.at (f (seq j)).1))=.go (f (seq j)).2.2.1.1 (f (seq j)).2.2.1.2 es/\(f (seq j)).2.2.1.2.drawn=(f (seq j)).2.1:=by
    refine Classical.byContradiction λhx=>hall λj hj=>Classical.byContradiction λhy=>hx ⟨j,hj,hy⟩
   clear hall;obtain⟨j,hj⟩:=hex;induction j using Nat.strongRecOn with
   | ind j ih=>
    by_cases hx:∃k,k<j/\¬∃es,nxt P (stepG P true (seq k).1.1 ((seq k).1.2.at (f (seq k)).1))=.go (f (seq k)).2.2.1.1 (f (seq k)).2.2.1.2 es/\(f (seq k)).2.2.1.2.drawn=(f (seq k)).2.1
    ·obtain⟨k,hk,hk2⟩:=hx
     exact ih k hk ⟨by omega,hk2⟩
    ·exact⟨j,hj.1,hj.2,λk hk=>Classical.byContradiction λhy=>hx ⟨k,hk,hy⟩⟩
  have hnone:=((hf (seq j)).2.2).resolve_left hjn;obtain⟨m,rfl⟩:∃m,n=j+(m+1):=⟨n - j - 1,by omega⟩
  rw[runN_add,key j hmin] at hn;simp only at hn;have hsj:=hstep j;have hfine:=Sl hP true (seq j).1.1 (seq j).2.1 ((seq j).1.2.at (f (seq j)).1);have hnf:=λg' w' es h=>Af5 (P:=P) (w:=(seq j).1.2.at (f (seq j)).1) hP (seq j).2.1 (seq j).2.2.2.2 (g':=g') (w':=w') (es:=es) h
  generalize nxt P (stepG P true (seq j).1.1 ((seq j).1.2.at (f (seq j)).1))=X at hnone hsj hnf;cases X with
  | go g1 w1 es1=>
   have h1:g1.status≠.running:=λhx=>hnone ⟨g1,w1,es1,rfl,hx⟩
   have h2:=(hnf g1 w1 es1 rfl).2;simp only[runN,hsj,GStep.turn,Ak0] at hn;have:=Avo h1 h2 hn
   have e1:g'=g1:=by
    have:=congrArg (λm:Machine=>m.gs[0]?) this
    simpa[solo] using this
   exact h1 (e1 ▸ hrun _ _ hst)
  | spawn g1 c1 w1 es1=>
   simp only[runN,hsj,GStep.turn,Ak0] at hn;have:=Atf hn
   simp[solo] at this
  | ended o1 w1 es1=>exact runN_ended (by rw[hsj];rfl) hn
  | comm a b c d e f=>exact runN_ended (by rw[hsj];rfl) hn
  | _=>exact runN_ended (by rw[hsj];rfl) hn
end
end Go.Co
