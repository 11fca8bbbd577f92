import Derived.Test.YtfeablpbkcgdjaaGreatDoorCC5
namespace Go.Co
open Go.Conc
section
variable {g:Goroutine}
variable {P : Program}{w : World}
def JQ (g:Goroutine)(c:Nat)(x:Bool)(w:World):GStep:=
 match w.heap[c]? with
 | some (.coro (some h))=>.go (if h=0 then {(if x then {g with status:=.finished} else {g with frame:=g.frame.finish undef,status:=.parked}:Goroutine) with status:=.running} else(if x then {g with status:=.finished} else {g with frame:=g.frame.finish undef,status:=.parked}))
   {w with heap:=w.heap.setIfInBounds c (.coro (if x then none else some 0))}
 | some (.coro none)=>endThrow g.frame "coroswitch on exited coro" w
 | _=>.ended (.stuck "coroswitch: no coroutine" "") w
def nxt (P:Program):GStep->GStep
 | .comm g a b d w _=>Uo P g a b d w
 | .coroswitch g c x w _=>JQ g c x w
 | s=>s
def EW:GStep->Stepped
 | .go g w _=>.next (solo g w)
 | .spawn g c w _=>.next {world:=w,gs:=#[g,c],rest:={timers:=#[],alone:=none,slice:=none} }
 | .ended o w _=>.ended o w
 | _=>.ended default default
theorem s6 (g:Goroutine)(cs:Array CommCase)(b:Bool)(sh:CommShape)(w:World):(∃c a,Uo P g cs b sh w=.go c a)\/∃o a,Uo P g cs b sh w=.ended o a:=by
 unfold Uo;split
 .exact .inl ⟨_,_,rfl⟩
 .exact .inr ⟨_,_,rfl⟩
theorem vR (h:g.status=.running):move P (solo g w)=.goroutine (solo g w) 0:=by
 simp[move,ask,askOn,solo,runnable_eq,due,ahead,Goroutine.canRun,List.range_succ,choose,pure,Sem.run,Question.forced,h]
theorem tZ (h:g.status=.running)(r:(stepG P true g w).fine):step P (solo g w)=EW (nxt P (stepG P true g w)):=by
 rw[step,stepT,vR h];cases a:stepG P true g w with
 | go e d i=>simp[runT,solo,Array.swapAt!,a,nxt,EW]
 | ended o d i=>simp[runT,solo,Array.swapAt!,a,nxt,EW]
 | spawn e c d i=>simp[runT,solo,Array.swapAt!,a,nxt,EW]
 | comm e l b j d i=>
  have this:=SS (P:=P) (sl:=none) Jq AW e l b j d;have t:(runT P (solo g w) 0).1=(communicate P {timers:=#[],alone:=none,slice:=none} #[fin] 0 e l b j d).1:=by
   simp[runT,solo,Array.swapAt!,a,fin]
  simp only[nxt];show(runT P (solo g w) 0).1=_
  rw[t,this];rcases s6 (P:=P) e l b j d with⟨u,s,q⟩ | ⟨o,s,q⟩
  .rw[q];simp[EW,solo]
  .rw[q];simp[EW]
 | coroswitch e c x d i=>
  simp only[nxt,JQ];cases f:d.heap[c]? with
  | none=>simp[runT,solo,Array.swapAt!,a,f,EW]
  | some o=>
   cases o<;>try (simp[runT,solo,Array.swapAt!,a,f,EW];done)
   rename_i p;cases p with
   | none=>simp[runT,solo,Array.swapAt!,a,f,EW,endThrow,dieOf]
   | some k=>
    cases k with
    | zero=>cases x<;>simp[runT,solo,Array.swapAt!,a,f,EW,Array.modify,Array.modifyM]
    | succ k=>cases x<;>simp[runT,solo,Array.swapAt!,a,f,EW,Array.modify,Array.modifyM]
 | _=>rw[a] at r;exact r.elim
theorem XU (j:OkP P)(hg:OkG g)(w:World):Gg (λw=>nxt P (stepG P true g w)) w:=by
 refine Gg.next (F:=λw=>stepG P true g w) (nxt P) (vY j true g hg.1 w) ?_ ?_
 .have k:=Uk j true g hg w
  generalize stepG P true g w=s at k ⊢;cases s with
  | go f a d=>exact(Du _ _).loc _
  | ended o a d=>exact(Ar _ _).loc _
  | spawn f c a d=>exact Xm.loc (λ_=>⟨rfl,λ_=>rfl⟩) _
  | comm f q b l a d=>exact vb f q b l a
  | coroswitch f c x a d=>
   show Gg (λw=>JQ f c x w) a
   unfold JQ;refine Gg.const ?_ ?_ fun i s e _=>?_
   .split<;>rfl
   .split<;>rfl
   .show(match a.heap[c]? with
     | some (.coro (some h))=>GStep.go _ {rt i s e a with heap:=a.heap.setIfInBounds c _} _
     | some (.coro none)=>endThrow _ _ (rt i s e a)
     | _=>GStep.ended _ (rt i s e a) _)=_
    rcases a.heap[c]? with _ | o
    .rfl
    .cases o<;>first | rfl | (rename_i p;cases p<;>rfl)
  | _=>exact k.elim
 .generalize stepG P true g w=s
  cases s with
  | go f a d=>exact id
  | ended o a d=>exact id
  | _=>exact λ_=>trivial
theorem OD (l:OkP P)(hg:OkG g)(_hr:g.status=.running){g':Goroutine}{w':World}{es:Array Event}(h:nxt P (stepG P true g w)=.go g' w' es):OkG g'/\∀t,g'.status≠.sleeping t:=by
 have d:=Uk l true g hg w;generalize stepG P true g w=s at d h;cases s with
 | go a b c=>cases h;exact⟨d.1,d.2.1⟩
 | comm a k b j i p=>
  rcases s7 (P:=P) d.1 d.2.1 k b j i with⟨o,r,e⟩ | ⟨v,r,e,u,q⟩
  .rw[show Uo P a k b j i=_ from h] at e;cases e
  .rw[show Uo P a k b j i=_ from h] at e;cases e;exact⟨u,q⟩
 | coroswitch a c x i p=>
  simp only[nxt,JQ] at h;split at h
  .cases h
   refine⟨?_,λt f=>?_⟩
   .split<;>(try split)<;>first | exact d.1 | exact⟨Ij d.1.1 _,d.1.2⟩
   .split at f<;>(try split at f)<;>cases f
  .cases h;exact⟨⟨d.1.1,Jn⟩,λt f=>by cases f⟩
  .cases h
 | spawn _ _ _ _=>cases h
 | ended _ _ _=>cases h
 | _=>exact d.elim
end
section
variable {P : Program}{w : World}
def OV (op:MemOp):Prop:=op.g=0/\∀m,op.act≠.mark m
theorem SV (g:Goroutine)(cs:Array CommCase)(b:Bool)(sh:CommShape)(w:World):∀op∈K2 P g cs b sh w,OV op:=by
 have e:∀(fn:FuncId) (pos:String) (a:MemAct),(∀m,a≠.mark m)->OV {g:=0,fn,pos,act:=a}:=λ_ _ _ h=>⟨rfl,h⟩
 unfold K2;unfold communicate;have p:=M6 (w:=w) Jq cs.zipIdx.toList;dsimp only;split
 .intro op d;simp at d
 .split
  .split
   .rw[Zm _ rfl]
    intro op d;simp at d
   .intro op d;simp at d
  .generalize q:(List.filter _ _:List (Nat × CommCase × List Way))=ready
   have r:∀x∈ready,∀y∈x.2.2,∀a b,y≠.partner a b:=by rw[<-q];exact p
   cases l:(GN ready).run P w with
   | halt i f=>intro op d;simp at d
   | ok z f=>
    obtain⟨k,c,way⟩:=z;have o:=OB r l;dsimp only;cases way with
    | partner a b=>exact absurd rfl (o a b)
    | sendClosed=>
     dsimp only;cases (runtimePanic (.plain "send on closed channel"):Sem Unit).run P f with
     | ok a j=>intro op d;simp at d
     | halt i j=>cases i<;>(intro op d;simp at d)
    | closed=>
     intro op d;simp at d;subst d;exact e _ _ _ (λm h=>by cases h)
    | buffer=>
     rw[G6 Jq];intro op d;split at d
     .simp_all
     .simp at d;subst d;exact e _ _ _ (λm h=>by cases h)
     .simp at d;rcases d with rfl | rfl<;>exact e _ _ _ (λm h=>by cases h)
     .simp at d;rcases d with rfl | rfl<;>exact e _ _ _ (λm h=>by cases h)
     .simp_all
     .simp_all
     .simp at d
theorem sx (t u:Trace)(h:∀op∈u,OV op):Deaf (t++u) 0=Deaf t 0:=by
 obtain⟨l⟩:=u;rw[Deaf_append];induction l generalizing t with
 | nil=>rfl
 | cons y l d=>
  have b:=h y AW;have c:deafStep 0 (Deaf t 0) y=Deaf t 0:=by
   unfold deafStep;split
   .rename_i a;exact absurd a (b.2 _)
   .rename_i a;exact absurd a (b.2 _)
   .rfl
  rw[List.foldl_cons,c];exact d t (λop hop=>h op yEd)
theorem ly (O:OkP P){gs:Array Goroutine}{g g':Goroutine}{w':World}{es:Array Event}{sl:Option (Nat × Nat)}(hg:OkG g)(h0:gs[0]?=some g)
  (J:∀i x,0<i->gs[i]?=some x->x.status=.running\/x.status=.finished) (h:nxt P (stepG P true g w)=.go g' w' es) (v:g'.status=.running):
  ∃s A,runT P (crowd gs w sl) 0=(.next (crowd s w' sl),A)/\s.size=gs.size/\s[0]?=some g'/\(∀i,0<i->s[i]?=gs[i]?)/\(∀op∈A,op.g=0)/\∀t,Deaf t 0=0->Deaf (t++A) 0=0:=by
 have l:=Uk O true g hg w;obtain⟨hlt,N⟩:=Array.getElem?_eq_some_iff.1 h0;have R:Zb (gs.set 0 fin):=by
  intro x z;obtain⟨i,hi,rfl⟩:=Array.mem_iff_getElem.1 z;by_cases V:i=0
  .subst V;simp[fin]
  .have Q:i<gs.size:=by simpa using hi
   have:(gs.set 0 fin)[i]=gs[i]:=by rw[Array.getElem_set_ne];omega
   rw[this];rcases J i gs[i] AU (Hv Q) with K | K<;>rw[K]<;>simp
 have C:∀x:Goroutine,(gs.set 0 fin).setIfInBounds 0 x=gs.setIfInBounds 0 x:=λx=>set_setIfInBounds hlt _ _
 have L:gs.swapAt! 0 {(default:Goroutine) with status:=.finished}=(g,gs.set 0 fin):=by rw[swapAt_of_lt hlt,N];rfl
 have G:∀i,0<i->(gs.setIfInBounds 0 g')[i]?=gs[i]?:=λi hi=>GZ AU
 have E:∀F pos (es:Array Event),deafBehind 0 es=0->∀t,Deaf t 0=0->Deaf (t++MemOp.ofEvents 0 F pos es) 0=0:=λF pos es S t D=>by rw[Deaf_own,D,S]
 cases d:stepG P true g w with
 | go a b c=>
  rw[d] at h l;cases h;have q:=runT_crowd_go (P:=P) (sl:=sl) (i:=0) h0 (show stepG P (0==0) g w=_ from d);refine⟨_,_,q,AW,by simp[hlt],λi hi=>?_,λop f=>?_,E _ _ _ (l.2.2 v)⟩
  .rw[GZ AU,JZ]
   cases z:gs[i]? with
   | none=>rfl
   | some x=>
    simp only[Jx,EQ];unfold woken;split
    .exact again_running _ (J i x hi z)
    .rfl
  .obtain⟨e,_,rfl⟩:=Go.Conc.mem_ofEvents f;rfl
 | comm a B b y r u=>
  rw[d] at h l;have H:=SS (P:=P) (sl:=sl) R BU a B b y r;rw[show Uo P a B b y r=_ from h] at H;have q:runT P (crowd gs w sl) 0=(.next (crowd (gs.setIfInBounds 0 g') w' sl),MemOp.ofEvents 0 g.frame.fn g.frame.place u++K2 P a B b y r):=by
   show runT P {world:=w,gs:=gs,rest:={timers:=#[],alone:=none,slice:=sl} } 0=_
   unfold runT;simp only[L,beq_self_eq_true,d,H,C,GStep.es];rfl
  refine⟨_,_,q,AW,by simp[hlt],G,λop f=>?_,λt D=>?_⟩
  .rcases Array.mem_append.1 f with f | f
   .obtain⟨e,_,rfl⟩:=Go.Conc.mem_ofEvents f;rfl
   .exact(SV _ _ _ _ _ op f).1
  .rw[<-Array.append_assoc,sx _ _ (SV _ _ _ _ _)]
   exact E _ _ _ l.2.2 t D
 | coroswitch a c x r u=>
  rw[d] at h l;have U:∀op∈MemOp.ofEvents 0 g.frame.fn g.frame.place u,op.g=0:=λop f=>by obtain⟨e,_,rfl⟩:=Go.Conc.mem_ofEvents f;rfl
  simp only[nxt,JQ] at h;have q:runT P (crowd gs w sl) 0=(.next (crowd (gs.setIfInBounds 0 g') w' sl),MemOp.ofEvents 0 g.frame.fn g.frame.place u):=by
   show runT P {world:=w,gs:=gs,rest:={timers:=#[],alone:=none,slice:=sl} } 0=_
   unfold runT;simp only[L,beq_self_eq_true,d,GStep.es];cases M:r.heap[c]? with
   | none=>rw[M] at h;cases h
   | some o=>
    rw[M] at h;cases o<;>first | (cases h;done) | skip
    rename_i p;cases p with
    | none=>
     simp only[endThrow,dieOf] at h ⊢;cases h;simp only[C];rfl
    | some k=>
     simp only at h ⊢;cases h;by_cases I:k=0
     .subst I
      simp only[if_true,C,crowd];congr 3;apply Array.ext_getElem?;intro j;by_cases T:j=0
      .subst T
       rw[Ge,if_pos rfl,FB hlt,FB hlt];rfl
      .rw[GZ AU,Ge]
       rw[if_neg AU,GZ AU]
     .simp only[I,C5] at v
      cases x<;>cases v
  exact⟨_,_,q,AW,by simp[hlt],G,U,E _ _ _ l.2⟩
 | spawn _ _ _ _=>rw[d] at h;cases h
 | ended _ _ _=>rw[d] at h;cases h
 | _=>rw[d] at l;exact l.elim
end
section
variable {g:Goroutine}{m m':Machine}{n:Nat}
variable {P : Program}
def Way (P:Program)(Stop:Goroutine->World->Prop)(g:Goroutine)(w:World):Prop:=
 ∀X:Goroutine->World->Prop,(∀g w,Stop g w->X g w)->
  (∀g w,OkG g->g.status=.running->(∀d,∃a b c,nxt P (stepG P true g (w.at d))=.go a b c/\a.status=.running/\X a b)->X g w)->X g w
theorem Way.stop {Stop:Goroutine->World->Prop}{w:World}(h:Stop g w):Way P Stop g w:=λ_ a _=>a g w h
theorem Way.step {Stop:Goroutine->World->Prop}{w:World}(hg:OkG g)(hr:g.status=.running)
  (h:∀d,∃a b c,nxt P (stepG P true g (w.at d))=.go a b c/\a.status=.running/\Way P Stop a b):Way P Stop g w:=
 λX i f=>f g w hg hr λd=>let ⟨a,b,c,e,r,k⟩:=h d;⟨a,b,c,e,r,k X i f⟩
theorem runN_ended {o:Outcome}{w:World}(h:step P m=.ended o w)(hr:runN P (n+1) m=.next m'):False:=by
 simp only[runN,h] at hr;cases hr
theorem endWith_ended (w:World)(b:Nat)(text:ByteArray)(o:Outcome):∃c a,endWith w b text o=.ended c a:=by
 unfold endWith;generalize w.sys (.write b text)=x;obtain⟨r,a⟩:=x;cases r<;>dsimp only<;>first
  | exact⟨_,_,rfl⟩
  | (split<;>exact⟨_,_,rfl⟩)
theorem xf {w:World}(h1:g.status≠.running)(e:∀t,g.status≠.sleeping t):(∃o d,step P (solo g w)=.ended o d)\/step P (solo g w)=.next (solo g w):=by
 have k:runnable #[g] w.os.mono=[]:=by
  rw[runnable_eq];simp only[CS,CC,CM,Cd,List.range_one];rw[List.filter_cons];have:g.canRun w.os.mono=false:=by
   unfold Goroutine.canRun;cases a:g.status<;>first | rfl | exact absurd a h1 | exact absurd a (e _)
  simp[this]
 have i:ahead (solo g w) false=none:=by
  unfold ahead solo;cases a:g.status<;>first | exact absurd a (e _) | simp[a]
 have j:askOn P (solo g w)=(if #[g].any (·.status==.waiting) then .machine (.next (solo g w)) else
   let c:=if #[g].any (λg=>g.status==.blocked || g.status==.parked) then "all goroutines are asleep - deadlock!" else "no goroutines (main called runtime.Goexit) - deadlock!"
   match endWith w 2 (bytes ("fatal error: " ++c++ "\n")) (.fatal c) with
   | .ended o w _=>.machine (.ended o w)
   | _=>.machine (.ended (.stuck "" "") default)):=by
  unfold askOn;have p:runnable (solo g w).gs (solo g w).world.os.mono=[]:=k;have l:due (solo g w).rest.timers (solo g w).world.os.mono=[]:=by simp[due,solo]
  simp only[p,l,List.isEmpty_nil,if_true,CM,Nat.not_lt_zero,C5];simp only[pure,Sem.run];rw[show({world:=(solo g w).world,gs:=(solo g w).gs,rest:=(solo g w).rest}:Machine)=solo g w from rfl,i];rfl
 have h:move P (solo g w)=askOn P (solo g w):=rfl;unfold step stepT;rw[h,j];by_cases b:#[g].any (·.status==.waiting)=true
 .rw[if_pos b];exact .inr rfl
 .rw[if_neg b]
  left;dsimp only;obtain⟨q,d,f⟩:=endWith_ended w 2 (bytes ("fatal error: " ++(if #[g].any (λg=>g.status==.blocked || g.status==.parked) then "all goroutines are asleep - deadlock!" else "no goroutines (main called runtime.Goexit) - deadlock!")++ "\n")) (.fatal (if #[g].any (λg=>g.status==.blocked || g.status==.parked) then "all goroutines are asleep - deadlock!" else "no goroutines (main called runtime.Goexit) - deadlock!"));rw[f];exact⟨_,_,rfl⟩
theorem xj {w:World}(h1:g.status≠.running)(b:∀t,g.status≠.sleeping t):∀{n:Nat} {m:Machine},runN P n (solo g w)=.next m->m=solo g w:=by
 intro n;induction n with
 | zero=>intro m h;cases h;rfl
 | succ n c=>
  intro m h;rcases xf (P:=P) (w:=w) h1 b with⟨o,d,a⟩ | a
  .exact(runN_ended a h).elim
  .simp only[runN,a] at h
   exact c h
theorem uD (h:runN P n m=.next m'):m.gs.size<=m'.gs.size:=by
 have e:runNT P n m #[]=(.next m',(runNT P n m #[]).2):=Prod.ext (by rw[runNT_fst,h]) rfl;exact runNT_size P n m m' _ _ e
theorem lm (A:OkP P)(Stop:Goroutine->World->Prop)(ao:∀g w,Stop g w->g.status=.running)
  (blind:∀g w l e,Stop g w->Stop g {w with tape:=l,drawn:=e}) (t:Goroutine) (ad:OkG t) (ab:t.status=.running) (w₀:World)
  (H:∀l e,∃n g' w',runN P n (solo t {w₀ with tape:=l,drawn:=e})=.next (solo g' w')/\Stop g' w'):Way P Stop t w₀:=by
 by_cases W:Way P Stop t w₀
 .exact W
 exfalso;obtain⟨T,hT⟩:∃T,T=w₀.tape:=⟨_,rfl⟩
 have aw:∀c:{c:Goroutine × World // OkG c.1/\c.2.tape=T/\¬Way P Stop c.1 c.2/\c.1.status=.running},∃x:Nat × Nat × {c:Goroutine × World // OkG c.1/\c.2.tape=T/\¬Way P Stop c.1 c.2/\c.1.status=.running},
   x.1<=x.2.1/\
   (∀l s e,s<=x.1->Ag T l s e x.2.1->nxt P (stepG P true c.1.1 (rt l s e (c.1.2.at x.1)))=(nxt P (stepG P true c.1.1 (c.1.2.at x.1))).turn (rt l s e))/\
   ((∃es,nxt P (stepG P true c.1.1 (c.1.2.at x.1))=.go x.2.2.1.1 x.2.2.1.2 es/\x.2.2.1.2.drawn=x.2.1)\/
    ¬∃g' w' es,nxt P (stepG P true c.1.1 (c.1.2.at x.1))=.go g' w' es/\g'.status=.running):=by
  rintro⟨⟨g,w⟩,E,ht,hw,Q⟩;obtain⟨d,hd⟩:∃d,¬∃g' w' es,nxt P (stepG P true g (w.at d))=.go g' w' es/\g'.status=.running/\Way P Stop g' w':=by
   refine Classical.byContradiction λo=>hw (Way.step E Q λd=>?_)
   exact Classical.byContradiction λq=>o ⟨d,q⟩
  obtain⟨l1,S,ac,L,Y,l5⟩:=XU A E (w.at d);have U:(w.at d).tape=T:=ht;by_cases hc:∃g' w' es,nxt P (stepG P true g (w.at d))=.go g' w' es/\g'.status=.running
  .obtain⟨g',w',es,y,I⟩:=hc
   have V:=(OD A E Q y).1;rw[y] at l1 S L Y;refine⟨⟨d,ac,⟨⟨g',w'⟩,V,l1.trans U,λq=>hd ⟨g',w',es,y,I,q⟩,I⟩⟩,?_,fun l s e O J=>?_, .inl ⟨es,y,?_⟩⟩
   .exact CB S L
   .exact l5 l s e O (by rw[U];exact J)
   .exact(Y I).symm
  .refine⟨⟨d,ac,⟨⟨g,w⟩,E,ht,hw,Q⟩⟩,?_,fun l s e O J=>?_, .inr hc⟩
   .exact CB S L
   .exact l5 l s e O (by rw[U];exact J)
 obtain⟨f,hf⟩:=Classical.axiomOfChoice aw;obtain⟨seq,ar,an⟩:∃seq:Nat->{c:Goroutine × World // OkG c.1/\c.2.tape=T/\¬Way P Stop c.1 c.2/\c.1.status=.running},seq 0=⟨⟨t,w₀⟩,ad,hT.symm,W,ab⟩/\∀i,seq (i+1)=(f (seq i)).2.2:=
  ⟨λi=>Nat.rec ⟨⟨t,w₀⟩,ad,hT.symm,W,ab⟩ (λ_ c=>(f c).2.2) i,rfl,λ_=>rfl⟩
 obtain⟨p,ap,N⟩:∃p:Nat->Nat,p 0=0/\∀i,p (i+1)=p i+((f (seq i)).2.1 - (f (seq i)).1):=
  ⟨λi=>Nat.rec 0 (λi x=>x+((f (seq i)).2.1 - (f (seq i)).1)) i,rfl,λ_=>rfl⟩
 have ag:∀i j,i<=j->p i<=p j:=by
  intro i j ax;induction ax with
  | refl=>exact B7 _
  | step _ G=>rw[N];omega
 obtain⟨l,ak⟩:∃l:Nat->Question->Nat,∀i j,(f (seq i)).1+j<(f (seq i)).2.1->l (p i+j)=T ((f (seq i)).1+j):=by
  classical
  refine⟨λn=>if h:∃i,p i<=n/\n<p (i+1) then T ((f (seq (Classical.choose h))).1+(n - p (Classical.choose h))) else λ_=>0,λi j r=>?_⟩;have ah:p i<=p i+j/\p i+j<p (i+1):=⟨AU,by rw[N];omega⟩
  have u:∃i',p i'<=p i+j/\p i+j<p (i'+1):=⟨i,ah⟩
  have af:=Classical.choose_spec u;have ai:Classical.choose u=i:=by
   rcases Nat.lt_trichotomy (Classical.choose u) i with h | h | h
   .have:=ag _ _ (Nat.succ_le_of_lt h)
    have:=af.2
    simp only[Nat.succ_eq_add_one] at*;omega
   .exact h
   .have:=ag _ _ (Nat.succ_le_of_lt h)
    have:=af.1
    have:=ah.2
    simp only[Nat.succ_eq_add_one] at*;omega
  simp only[u,dite_true,ai];congr 1;omega
 have aa:∀i,step P (solo (seq i).1.1 {(seq i).1.2 with tape:=l,drawn:=p i})=EW ((nxt P (stepG P true (seq i).1.1 ((seq i).1.2.at (f (seq i)).1))).turn (rt l (f (seq i)).1 (p i))):=by
  intro i;have V:=(seq i).2.1;have al:=(seq i).2.2.2.2;have B:({(seq i).1.2 with tape:=l,drawn:=p i}:World)=rt l (f (seq i)).1 (p i) ((seq i).1.2.at (f (seq i)).1):=by
   simp only[rt,World.at];congr 1;omega
  rw[B,tZ al (Uk A true _ V _)];rw[(hf (seq i)).2.1 l (f (seq i)).1 (p i) (B7 _) (λj r=>ak i j r)]
 have key:∀i,(∀j,j<i->∃es,nxt P (stepG P true (seq j).1.1 ((seq j).1.2.at (f (seq j)).1))=.go (f (seq j)).2.2.1.1 (f (seq j)).2.2.1.2 es/\(f (seq j)).2.2.1.2.drawn=(f (seq j)).2.1)->
   runN P i (solo t {w₀ with tape:=l,drawn:=0})=.next (solo (seq i).1.1 {(seq i).1.2 with tape:=l,drawn:=p i}):=by
  intro i;induction i with
  | zero=>intro _;rw[ar,ap];rfl
  | succ i G=>
   intro v;obtain⟨es,y,hK⟩:=v i (DN i);rw[runN_add,G (λj r=>v j (Nat.lt_succ_of_lt r))];simp only[runN];rw[aa i,y];simp only[GStep.turn,EW];rw[an i,N i];have:rt l (f (seq i)).1 (p i) (f (seq i)).2.2.1.2={(f (seq i)).2.2.1.2 with tape:=l,drawn:=p i+((f (seq i)).2.1 - (f (seq i)).1)}:=by simp only[rt,hK]
   rw[this]
 obtain⟨n,g',w',o,R⟩:=H l 0;by_cases v:∀j,j<n->∃es,nxt P (stepG P true (seq j).1.1 ((seq j).1.2.at (f (seq j)).1))=.go (f (seq j)).2.2.1.1 (f (seq j)).2.2.1.2 es/\(f (seq j)).2.2.1.2.drawn=(f (seq j)).2.1
 .rw[key n v] at o
  injection o with o
  have B:(seq n).1.1=g':=by
   have:=congrArg (λm:Machine=>m.gs[0]?) o
   simpa[solo] using this
  have e2:({(seq n).1.2 with tape:=l,drawn:=p n}:World)=w':=congrArg (λm:Machine=>m.world) o;rw[<-B,<-e2] at R;have:=blind _ _ (seq n).1.2.tape (seq n).1.2.drawn R
  exact(seq n).2.2.2.1 (Way.stop this)
 .
  obtain⟨j,r,au,aj⟩:∃j,j<n/\(¬∃es,nxt P (stepG P true (seq j).1.1 ((seq j).1.2.at (f (seq j)).1))=.go (f (seq j)).2.2.1.1 (f (seq j)).2.2.1.2 es/\(f (seq j)).2.2.1.2.drawn=(f (seq j)).2.1)/\
    ∀k,k<j->∃es,nxt P (stepG P true (seq k).1.1 ((seq k).1.2.at (f (seq k)).1))=.go (f (seq k)).2.2.1.1 (f (seq k)).2.2.1.2 es/\(f (seq k)).2.2.1.2.drawn=(f (seq k)).2.1:=by
   have u:∃j,j<n/\¬∃es,nxt P (stepG P true (seq j).1.1 ((seq j).1.2.at (f (seq j)).1))=.go (f (seq j)).2.2.1.1 (f (seq j)).2.2.1.2 es/\(f (seq j)).2.2.1.2.drawn=(f (seq j)).2.1:=by
    refine Classical.byContradiction λq=>v λj r=>Classical.byContradiction λM=>q ⟨j,r,M⟩
   clear v;obtain⟨j,r⟩:=u;induction j using Nat.strongRecOn with
   | ind j G=>
    by_cases q:∃k,k<j/\¬∃es,nxt P (stepG P true (seq k).1.1 ((seq k).1.2.at (f (seq k)).1))=.go (f (seq k)).2.2.1.1 (f (seq k)).2.2.1.2 es/\(f (seq k)).2.2.1.2.drawn=(f (seq k)).2.1
    .obtain⟨k,K,av⟩:=q
     exact G k K ⟨AU,av⟩
    .exact⟨j,r.1,r.2,λk K=>Classical.byContradiction λM=>q ⟨k,K,M⟩⟩
  have ae:=((hf (seq j)).2.2).resolve_left au;obtain⟨m,rfl⟩:∃m,n=j+(m+1):=⟨n - j - 1,AU⟩
  rw[runN_add,key j aj] at o;simp only at o;have z:=aa j;have iR:=Uk A true (seq j).1.1 (seq j).2.1 ((seq j).1.2.at (f (seq j)).1);have Z:=λg' w' es h=>OD (P:=P) (w:=(seq j).1.2.at (f (seq j)).1) A (seq j).2.1 (seq j).2.2.2.2 (g':=g') (w':=w') (es:=es) h
  generalize nxt P (stepG P true (seq j).1.1 ((seq j).1.2.at (f (seq j)).1))=X at ae z Z;cases X with
  | go C F D=>
   have h1:C.status≠.running:=λq=>ae ⟨C,F,D,rfl,q⟩
   have h2:=(Z C F D rfl).2;simp only[runN,z,GStep.turn,EW] at o;have:=xj h1 h2 o
   have B:g'=C:=by
    have:=congrArg (λm:Machine=>m.gs[0]?) this
    simpa[solo] using this
   exact h1 (B ▸ ao _ _ R)
  | spawn C c1 F D=>
   simp only[runN,z,GStep.turn,EW] at o;have:=uD o
   simp[solo] at this
  | ended o1 F D=>exact runN_ended (by rw[z];rfl) o
  | comm a b c d e f=>exact runN_ended (by rw[z];rfl) o
  | _=>exact runN_ended (by rw[z];rfl) o
end
