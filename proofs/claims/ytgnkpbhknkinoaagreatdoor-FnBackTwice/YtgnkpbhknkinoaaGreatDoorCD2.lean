import Derived.Test.YtgnkpbhknkinoaaGreatDoorCC5
import Derived.Conc.CrowdComm
set_option linter.defProp false
namespace Go.Co
open Go.Conc
section
variable {g:AX}
variable {P : AY}{w : AU}
def LG(g:AX)(c:Nat)(x:Bool)(w:AU):GStep:=
 match w.heap[c]? with
 |some (.coro (some h))=>.go (if h=0 then {(if x then {g with status:=.finished} else {g with frame:=g.frame.finish AQ,status:=.parked}:AX) with status:=.running} else(if x then {g with status:=.finished} else {g with frame:=g.frame.finish AQ,status:=.parked}))
   {w with heap:=w.heap.setIfInBounds c (.coro (if x then none else some 0))}
 |some (.coro none)=>endThrow g.frame "coroswitch on exited coro" w
 |_=>.ended (.stuck "coroswitch: no coroutine" "") w
def nxt(P:AY):GStep->GStep
 |.comm g e b d w _=>Vu P g e b d w
 |.coroswitch g c x w _=>LG g c x w
 |s=>s
def F3:GStep->Stepped
 |.go g w _=>.next (solo g w)
 |.spawn g c w _=>.next {world:=w,gs:=#[g,c],rest:={timers:=#[],alone:=none,slice:=none} }
 |.ended o w _=>.ended o w
 |_=>.ended default default
def Avv(g:AX)(cs:Array CommCase)(b:Bool)(sh:CommShape)(w:AU):(∃e d,Vu P g cs b sh w=.go e d)\/∃o d,Vu P g cs b sh w=.ended o d:=by
 unfold Vu;split
 .exact .inl ⟨_,_,rfl⟩
 exact .inr ⟨_,_,rfl⟩
def Ayv(h:g.status=.running):move P (solo g w)=.goroutine (solo g w) 0:=by simp[move,ask,askOn,solo,runnable_eq,due,ahead,Goroutine.canRun,List.range_succ,choose,pure,Sem.run,Question.forced,h]
theorem Axg(h:g.status=.running)(s:(stepG P true g w).fine):step P (solo g w)=F3 (nxt P (stepG P true g w)):=by
 rw[step,stepT,Ayv h];cases d:stepG P true g w with
 |go f e j=>simp[runT,solo,Array.swapAt!,d,nxt,F3]|ended o e j=>simp[runT,solo,Array.swapAt!,d,nxt,F3]|spawn f c e j=>simp[runT,solo,Array.swapAt!,d,nxt,F3]
 |comm f q b l e j=>
  have this:=XL (P:=P) (sl:=none) Ls BU f q b l e;have y:(runT P (solo g w) 0).1=(communicate P {timers:=#[],alone:=none,slice:=none} #[fin] 0 f q b l e).1:=by simp[runT,solo,Array.swapAt!,d,fin]
  simp only[nxt];show(runT P (solo g w) 0).1=_;rw[y,this];rcases Avv (P:=P) f q b l e with⟨z,v,r⟩|⟨o,v,r⟩;{rw[r];simp[F3,solo]};rw[r];simp[F3]
 |coroswitch f c x e j=>
  simp only[nxt,LG];cases i:e.heap[c]? with
  |none=>simp[runT,solo,Array.swapAt!,d,i,F3]
  |some o=>
   (cases o<;>try(simp[runT,solo,Array.swapAt!,d,i,F3];done));rename_i p;cases p with
   |none=>simp[runT,solo,Array.swapAt!,d,i,F3,endThrow,dieOf]
   |some k=>
    cases k with
    |zero=>cases x<;>simp[runT,solo,Array.swapAt!,d,i,F3,Array.modify,Array.modifyM]
    |succ k=>cases x<;>simp[runT,solo,Array.swapAt!,d,i,F3,Array.modify,Array.modifyM]
 |_=>rw[d]at s;exact s.elim
theorem ep(l:OkP P)(hg:OkG g)(w:AU):G7 (λw=>nxt P (stepG P true g w)) w:=by
 refine G7.next (F:=λw=>stepG P true g w) (nxt P) (Ay1 l true g hg.1 w) ?_ ?_
 .have q:=Vr l true g hg w;generalize stepG P true g w=s at q⊢;cases s with
  |go i d f=>exact(D7 _ _).loc _|ended o d f=>exact(Bf _ _).loc _|spawn i c d f=>exact Yo.loc (λ_=>⟨rfl,λ_=>rfl⟩) _|comm i v b r d f=>exact Ay5 i v b r d
  |coroswitch i c x d f=>
   show G7 (λw=>LG i c x w) d;unfold LG;refine G7.const ?_ ?_ fun j s e _=>?_;{split<;>rfl};{split<;>rfl}
   .show(match d.heap[c]? with
     |some (.coro (some h))=>GStep.go _ {rt j s e d with heap:=d.heap.setIfInBounds c _} _
     |some (.coro none)=>endThrow _ _ (rt j s e d)
     | _=>GStep.ended _ (rt j s e d) _)=_
    rcases d.heap[c]? with _|o
    .rfl
    .cases o<;>first|rfl|(rename_i p;cases p<;>rfl)
  |_=>exact q.elim
 generalize stepG P true g w=s;cases s with|go i d f=>exact id|ended o d f=>exact id|_=>exact λ_=>trivial
theorem RS(p:OkP P)(hg:OkG g)(_hr:g.status=.running){g':AX}{w':AU}{es:Array Event}(h:nxt P (stepG P true g w)=.go g' w' es):OkG g'/\∀t,g'.status≠.sleeping t:=by
 have d:=Vr p true g hg w;generalize stepG P true g w=s at d h;cases s with
 |go a b c=>cases h;exact⟨d.1,d.2.1⟩
 |comm a l b j i v=>rcases Avw (P:=P) d.1 d.2.1 l b j i with⟨o,y,e⟩|⟨z,y,e,r,q⟩;{rw[show Vu P a l b j i=_ from h]at e;cases e};rw[show Vu P a l b j i=_ from h]at e;cases e;exact⟨r,q⟩
 |coroswitch a c x i v=>simp only[nxt,LG]at h;split at h;{cases h;refine⟨?_,λt f=>?_⟩;{split<;>(try split)<;>first|exact d.1|exact⟨Ji d.1.1 _,d.1.2⟩};split at f<;>(try split at f)<;>cases f};{cases h;exact⟨⟨d.1.1,Lm⟩,λt f=>by cases f⟩};cases h
 |spawn _ _ _ _=>cases h
 |ended _ _ _=>cases h
 |_=>exact d.elim
end
section
variable {P : AY}{w : AU}
def SK(op:MemOp):Prop:=op.g=0/\∀m,op.act≠.mark m
theorem XO(g:AX)(cs:Array CommCase)(b:Bool)(sh:CommShape)(w:AU):∀op∈LM P g cs b sh w,SK op:=by
 have e:∀(fn:FuncId)(pos:String)(a:MemAct),(∀m,a≠.mark m)->SK {g:=0,fn,pos,act:=a}:=λ_ _ _ h=>⟨rfl,h⟩;unfold LM;unfold communicate;have p:=QI (w:=w) Ls cs.zipIdx.toList;dsimp only;split
 .intro op d;simp at d
 split
 .split;{rw[NK _ rfl];intro op d;simp at d};intro op d;simp at d
 generalize o:(List.filter _ _:List (Nat × CommCase × List Way))=ready;have r:∀x∈ready,∀y∈x.2.2,∀a b,y≠.partner a b:=by rwa[<-o]
 cases l:(IZ ready).run P w with
 |halt i f=>intro op d;simp at d
 |ok z f=>
  obtain⟨k,c,way⟩:=z;have q:=RQ r l;dsimp only;cases way with
  |partner a b=>exact absurd rfl (q a b)
  |sendClosed=>
   dsimp only;cases (runtimePanic (.plain "send on closed channel"):Sem Unit).run P f with
   |ok a j=>intro op d;simp at d|halt i j=>cases i<;>(intro op d;simp at d)
  |closed=>intro op d;simp at d;subst d;exact e _ _ _ (λm h=>by cases h)
  |buffer=>rw[Ic Ls];intro op d;split at d;{simp_all};{simp at d;subst d;exact e _ _ _ (λm h=>by cases h)};{simp at d;rcases d with rfl|rfl<;>exact e _ _ _ (λm h=>by cases h)};{simp at d;rcases d with rfl|rfl<;>exact e _ _ _ (λm h=>by cases h)};{simp_all};{simp_all};simp at d
theorem Avt(t u:Trace)(h:∀op∈u,SK op):Deaf (t++u) 0=Deaf t 0:=by
 obtain⟨l⟩:=u;rw[Deaf_append];induction l generalizing t with
 |nil=>rfl
 |cons y l e=>
  have d:=h y BU;have f:deafStep 0 (Deaf t 0) y=Deaf t 0:=by unfold deafStep;split;{rename_i b;exact absurd b (d.2 _)};{rename_i b;exact absurd b (d.2 _)};rfl
  rw[List.foldl_cons,f];exact e t (λop hop=>h op yEh)
theorem vR(R:OkP P){gs:Array AX}{g g':AX}{w':AU}{es:Array Event}{sl:Option (Nat × Nat)}(hg:OkG g)(h0:gs[0]?=some g)
  (G:∀i x,0<i->gs[i]?=some x->x.status=.running\/x.status=.finished) (h:nxt P (stepG P true g w)=.go g' w' es) (C:g'.status=.running):
  ∃v D,runT P (crowd gs w sl) 0=(.next (crowd v w' sl),D)/\v.size=gs.size/\v[0]?=some g'/\(∀i,0<i->v[i]?=gs[i]?)/\(∀op∈D,op.g=0)/\∀t,Deaf t 0=0->Deaf (t++D) 0=0:=by
 have l:=Vr R true g hg w;have⟨hlt,W⟩:=BF.1 h0;have U:KN (gs.set 0 fin):=by
  intro x z;obtain⟨i,hi,rfl⟩:=Array.mem_iff_getElem.1 z;by_cases Q:i=0;{subst Q;simp[fin]};have S:i<gs.size:=by simpa using hi
  have:(gs.set 0 fin)[i]=gs[i]:=by rw[Array.getElem_set_ne];omega
  rw[this];rcases G i gs[i] BS (J2 S) with I|I<;>rw[I]<;>simp
 have y:∀x:AX,(gs.set 0 fin).setIfInBounds 0 x=gs.setIfInBounds 0 x:=λx=>set_setIfInBounds hlt _ _;have L:gs.swapAt! 0 {(default:AX) with status:=.finished}=(g,gs.set 0 fin):=by rw[swapAt_of_lt hlt,W];rfl
 have N:∀i,0<i->(gs.setIfInBounds 0 g')[i]?=gs[i]?:=λi hi=>JI BS;have E:∀J pos(es:Array Event),deafBehind 0 es=0->∀t,Deaf t 0=0->Deaf (t++MemOp.ofEvents 0 J pos es) 0=0:=λJ pos es O t F=>by rw[Deaf_own,F,O]
 cases d:stepG P true g w with
 |go a b c=>rw[d]at h l;cases h;have r:=runT_crowd_go (P:=P) (sl:=sl) (i:=0) h0 (show stepG P (0==0) g w=_ from d);refine⟨_,_,r,BU,by simp[hlt],λi hi=>?_,λop f=>?_,E _ _ _ (l.2.2 C)⟩;{rw[JI BS,MV];cases z:gs[i]? with|none=>rfl|some x=>simp only[MW,E9];unfold woken;split;{exact again_running _ (G i x hi z)};rfl};obtain⟨e,_,rfl⟩:=Go.Conc.mem_ofEvents f;rfl
 |comm a B b A q s=>
  rw[d]at h l;have M:=XL (P:=P) (sl:=sl) U Cd a B b A q;rw[show Vu P a B b A q=_ from h]at M;have r:runT P (crowd gs w sl) 0=(.next (crowd (gs.setIfInBounds 0 g') w' sl),MemOp.ofEvents 0 g.frame.fn g.frame.place s++LM P a B b A q):=by show runT P {world:=w,gs:=gs,rest:={timers:=#[],alone:=none,slice:=sl} } 0=_;unfold runT;simp only[L,beq_self_eq_true,d,M,y,GStep.es];rfl
  refine⟨_,_,r,BU,by simp[hlt],N,λop f=>?_,λt F=>?_⟩;{rcases Array.mem_append.1 f with f|f;{obtain⟨e,_,rfl⟩:=Go.Conc.mem_ofEvents f;rfl};exact(XO _ _ _ _ _ op f).1};rw[<-Array.append_assoc,Avt _ _ (XO _ _ _ _ _)];exact E _ _ _ l.2.2 t F
 |coroswitch a c x q s=>
  rw[d]at h l;have V:∀op∈MemOp.ofEvents 0 g.frame.fn g.frame.place s,op.g=0:=λop f=>by obtain⟨e,_,rfl⟩:=Go.Conc.mem_ofEvents f;rfl
  simp only[nxt,LG]at h;have r:runT P (crowd gs w sl) 0=(.next (crowd (gs.setIfInBounds 0 g') w' sl),MemOp.ofEvents 0 g.frame.fn g.frame.place s):=by
   show runT P {world:=w,gs:=gs,rest:={timers:=#[],alone:=none,slice:=sl} } 0=_;unfold runT;simp only[L,beq_self_eq_true,d,GStep.es];cases K:q.heap[c]? with
   |none=>rw[K]at h;cases h
   |some o=>
    (rw[K]at h;cases o<;>first|(cases h;done)|skip);rename_i p;cases p with
    |none=>simp only[endThrow,dieOf]at h⊢;cases h;simp only[y];rfl
    |some k=>simp only at h⊢;cases h;by_cases H:k=0;{subst H;simp only[if_true,y,crowd];congr 3;apply Array.ext_getElem?;intro j;by_cases T:j=0;{subst T;rw[JK,BR rfl,HQ hlt,HQ hlt];rfl};rw[JI BS,JK];rw[BQ BS,JI BS]};simp only[H,EH]at C;cases x<;>cases C
  exact⟨_,_,r,BU,by simp[hlt],N,V,E _ _ _ l.2⟩
 |spawn _ _ _ _=>rw[d]at h;cases h
 |ended _ _ _=>rw[d]at h;cases h
 |_=>rw[d]at l;exact l.elim
end
section
variable {g:AX}{m m':Machine}{n:Nat}
variable {P : AY}
def Way(P:AY)(Stop:AX->World->Prop)(g:AX)(w:AU):Prop:=
 ∀X:AX->World->Prop,(∀g w,Stop g w->X g w)->
  (∀g w,OkG g->g.status=.running->(∀d,∃b e f,nxt P (stepG P true g (w.at d))=.go b e f/\b.status=.running/\X b e)->X g w)->X g w
def Way.stop{Stop:AX->World->Prop}{w:AU}(h:Stop g w):Way P Stop g w:=λ_ b _=>b g w h
def Way.step{Stop:AX->World->Prop}{w:AU}(hg:OkG g)(hr:g.status=.running)
  (h:∀d,∃b f i,nxt P (stepG P true g (w.at d))=.go b f i/\b.status=.running/\Way P Stop b f):Way P Stop g w:=
 λX l j=>j g w hg hr λd=>let ⟨b,f,i,e,r,k⟩:=h d;⟨b,f,i,e,r,k X l j⟩
theorem runN_ended{o:Outcome}{w:AU}(h:step P m=.ended o w)(hr:runN P (n+1) m=.next m'):False:=by simp only[runN,h]at hr;cases hr
theorem endWith_ended(w:AU)(b:Nat)(text:ByteArray)(o:Outcome):∃e d,endWith w b text o=.ended e d:=by unfold endWith;generalize w.sys (.write b text)=x;obtain⟨r,d⟩:=x;cases r<;>dsimp only<;>first|exact⟨_,_,rfl⟩|(split<;>exact⟨_,_,rfl⟩)
theorem f9{w:AU}(h1:g.status≠.running)(e:∀t,g.status≠.sleeping t):(∃o f,step P (solo g w)=.ended o f)\/step P (solo g w)=.next (solo g w):=by
 have s:runnable #[g] w.os.mono=[]:=by
  rw[runnable_eq];simp only[Db,DO,DU,ED,List.range_one];rw[List.filter_cons];have:g.canRun w.os.mono=false:=by unfold Goroutine.canRun;cases b:g.status<;>first|rfl|exact absurd b h1|exact absurd b (e _)
  simp[this]
 have l:ahead (solo g w) false=none:=by unfold ahead solo;cases b:g.status<;>first|exact absurd b (e _)|simp[b]
 have j:askOn P (solo g w)=(if #[g].any (·.status==.waiting) then .machine (.next (solo g w)) else
   let d:=if #[g].any (λg=>g.status==.blocked || g.status==.parked) then "all goroutines are asleep - deadlock!" else "no goroutines (main called runtime.Goexit) - deadlock!"
   match endWith w 2 (bytes ("fatal error: " ++d++ "\n")) (.fatal d) with
   |.ended o w _=>.machine (.ended o w)
   | _=>.machine (.ended (.stuck "" "") default)):=by
  unfold askOn;have p:runnable (solo g w).gs (solo g w).world.os.mono=[]:=s;have r:due (solo g w).rest.timers (solo g w).world.os.mono=[]:=by simp[due,solo]
  simp only[p,r,List.isEmpty_nil,if_true,DU,Nat.not_lt_zero,EH];simp only[pure,Sem.run];rw[show({world:=(solo g w).world,gs:=(solo g w).gs,rest:=(solo g w).rest}:Machine)=solo g w from rfl,l];rfl
 have q:move P (solo g w)=askOn P (solo g w):=rfl;unfold step stepT;rw[q,j];by_cases h:#[g].any (·.status==.waiting)=true
 .rw[BR h];exact .inr rfl
 rw[BQ h];left;dsimp only;have⟨v,f,i⟩:=endWith_ended w 2 (bytes ("fatal error: " ++(if #[g].any (λg=>g.status==.blocked || g.status==.parked) then "all goroutines are asleep - deadlock!" else "no goroutines (main called runtime.Goexit) - deadlock!")++ "\n")) (.fatal (if #[g].any (λg=>g.status==.blocked || g.status==.parked) then "all goroutines are asleep - deadlock!" else "no goroutines (main called runtime.Goexit) - deadlock!"));rw[i];exact⟨_,_,rfl⟩
theorem gA{w:AU}(h1:g.status≠.running)(d:∀t,g.status≠.sleeping t):∀{n:Nat}{m:Machine},runN P n (solo g w)=.next m->m=solo g w:=by
 intro n;induction n with
 |zero=>intro m h;cases h;rfl
 |succ n e=>intro m h;rcases f9 (P:=P) (w:=w) h1 d with⟨o,f,b⟩|b;{exact(runN_ended b h).elim};simp only[runN,b]at h;exact e h
def Ax2(h:runN P n m=.next m'):m.gs.size<=m'.gs.size:=by have e:runNT P n m #[]=(.next m',(runNT P n m #[]).2):=Prod.ext (by rw[runNT_fst,h]) rfl;exact runNT_size P n m m' _ _ e
theorem vM(C:OkP P)(Stop:AX->World->Prop)(aw:∀g w,Stop g w->g.status=.running)
  (blind:∀g w l e,Stop g w->Stop g {w with tape:=l,drawn:=e}) (v:AX) (ah:OkG v) (ai:v.status=.running) (w₀:AU)
  (H:∀l e,∃n g' w',runN P n (solo v {w₀ with tape:=l,drawn:=e})=.next (solo g' w')/\Stop g' w'):Way P Stop v w₀:=by
 by_cases Y:Way P Stop v w₀
 .exact Y
 exfalso;have⟨T,hT⟩:=AA w₀.tape;have aj:∀c:{c:AX × AU // OkG c.1/\c.2.tape=T/\¬Way P Stop c.1 c.2/\c.1.status=.running},∃x:Nat × Nat × {c:AX × AU // OkG c.1/\c.2.tape=T/\¬Way P Stop c.1 c.2/\c.1.status=.running},
   x.1<=x.2.1/\
   (∀l s e,s<=x.1->Ag T l s e x.2.1->nxt P (stepG P true c.1.1 (rt l s e (c.1.2.at x.1)))=(nxt P (stepG P true c.1.1 (c.1.2.at x.1))).turn (rt l s e))/\
   ((∃es,nxt P (stepG P true c.1.1 (c.1.2.at x.1))=.go x.2.2.1.1 x.2.2.1.2 es/\x.2.2.1.2.drawn=x.2.1)\/
    ¬∃g' w' es,nxt P (stepG P true c.1.1 (c.1.2.at x.1))=.go g' w' es/\g'.status=.running):=by
  rintro⟨⟨g,w⟩,G,ht,hw,O⟩;obtain⟨d,hd⟩:∃d,¬∃g' w' es,nxt P (stepG P true g (w.at d))=.go g' w' es/\g'.status=.running/\Way P Stop g' w':=by
   refine Classical.byContradiction λo=>hw (Way.step G O λd=>?_)
   exact Classical.byContradiction λr=>o ⟨d,r⟩
  have⟨l1,N,ad,U,l4,l5⟩:=ep C G (w.at d);have M:(w.at d).tape=T:=ht;by_cases hc:∃g' w' es,nxt P (stepG P true g (w.at d))=.go g' w' es/\g'.status=.running
  .obtain⟨g',w',es,y,V⟩:=hc
   have Z:=(RS C G O y).1;rw[y]at l1 N U l4;refine⟨⟨d,ad,⟨⟨g',w'⟩,Z,l1.tr M,λr=>hd ⟨g',w',es,y,V,r⟩,V⟩⟩,?_,fun l s e R K=>?_,.inl ⟨es,y,?_⟩⟩
   .exact DR N U
   .exact l5 l s e R (by rwa[M])
   .exact(l4 V).symm
  .refine⟨⟨d,ad,⟨⟨g,w⟩,G,ht,hw,O⟩⟩,?_,fun l s e R K=>?_,.inr hc⟩
   .exact DR N U
   .exact l5 l s e R (by rwa[M])
 have⟨f,hf⟩:=Classical.axiomOfChoice aj;obtain⟨seq,au,az⟩:∃seq:Nat->{c:AX × AU // OkG c.1/\c.2.tape=T/\¬Way P Stop c.1 c.2/\c.1.status=.running},seq 0=⟨⟨v,w₀⟩,ah,hT.symm,Y,ai⟩/\∀i,seq (i+1)=(f (seq i)).2.2:=
  ⟨λi=>Nat.rec ⟨⟨v,w₀⟩,ah,hT.symm,Y,ai⟩ (λ_ c=>(f c).2.2) i,rfl,λ_=>rfl⟩
 obtain⟨p,av,W⟩:∃p:Nat->Nat,p 0=0/\∀i,p (i+1)=p i+((f (seq i)).2.1 - (f (seq i)).1):=
  ⟨λi=>Nat.rec 0 (λi x=>x+((f (seq i)).2.1 - (f (seq i)).1)) i,rfl,λ_=>rfl⟩
 have aa:∀i j,i<=j->p i<=p j:=by
  intro i j ao;induction ao with
  |refl=>exact DK _|step _ J=>rw[W];omega
 obtain⟨l,ay⟩:∃l:Nat->Question->Nat,∀i j,(f (seq i)).1+j<(f (seq i)).2.1->l (p i+j)=T ((f (seq i)).1+j):=by
  classical
  refine⟨λn=>if h:∃i,p i<=n/\n<p (i+1) then T ((f (seq (Classical.choose h))).1+(n - p (Classical.choose h))) else λ_=>0,λi j q=>?_⟩;have af:p i<=p i+j/\p i+j<p (i+1):=⟨BS,by rw[W];omega⟩;have A:∃i',p i'<=p i+j/\p i+j<p (i'+1):=⟨i,af⟩;have ag:=Classical.choose_spec A;have ar:Classical.choose A=i:=by rcases Nat.lt_trichotomy (Classical.choose A) i with h|h|h;{have:=aa _ _ (Nat.succ_le_of_lt h);have:=ag.2;simp only[Nat.succ_eq_add_one] at*;omega};{exact h};have:=aa _ _ (Nat.succ_le_of_lt h);have:=ag.1;have:=af.2;simp only[Nat.succ_eq_add_one] at*;omega
  simp only[A,dite_true,ar];congr 1;omega
 have ae:∀i,step P (solo (seq i).1.1 {(seq i).1.2 with tape:=l,drawn:=p i})=F3 ((nxt P (stepG P true (seq i).1.1 ((seq i).1.2.at (f (seq i)).1))).turn (rt l (f (seq i)).1 (p i))):=by
  intro i;have Z:=(seq i).2.1;have al:=(seq i).2.2.2.2;have E:({(seq i).1.2 with tape:=l,drawn:=p i}:AU)=rt l (f (seq i)).1 (p i) ((seq i).1.2.at (f (seq i)).1):=by simp only[rt,World.at];congr 1;omega
  rw[E,Axg al (Vr C true _ Z _)];rw[(hf (seq i)).2.1 l (f (seq i)).1 (p i) (DK _) (λj q=>ay i j q)]
 have key:∀i,(∀j,j<i->∃es,nxt P (stepG P true (seq j).1.1 ((seq j).1.2.at (f (seq j)).1))=.go (f (seq j)).2.2.1.1 (f (seq j)).2.2.1.2 es/\(f (seq j)).2.2.1.2.drawn=(f (seq j)).2.1)->
   runN P i (solo v {w₀ with tape:=l,drawn:=0})=.next (solo (seq i).1.1 {(seq i).1.2 with tape:=l,drawn:=p i}):=by
  intro i;induction i with
  |zero=>intro _;rw[au,av];rfl
  |succ i J=>
   intro z;have⟨es,y,hK⟩:=z i (EO i);rw[runN_add,J (λj q=>z j (Nat.lt_succ_of_lt q))];simp only[runN];rw[ae i,y];simp only[GStep.turn,F3];rw[az i,W i];have:rt l (f (seq i)).1 (p i) (f (seq i)).2.2.1.2={(f (seq i)).2.2.1.2 with tape:=l,drawn:=p i+((f (seq i)).2.1 - (f (seq i)).1)}:=by simp only[rt,hK]
   rw[this]
 have⟨n,g',w',o,L⟩:=H l 0;by_cases z:∀j,j<n->∃es,nxt P (stepG P true (seq j).1.1 ((seq j).1.2.at (f (seq j)).1))=.go (f (seq j)).2.2.1.1 (f (seq j)).2.2.1.2 es/\(f (seq j)).2.2.1.2.drawn=(f (seq j)).2.1
 .rw[key n z]at o;injection o with o
  have E:(seq n).1.1=g':=by have:=congrArg (λm:Machine=>m.gs[0]?) o;simpa[solo]using this
  have e2:({(seq n).1.2 with tape:=l,drawn:=p n}:AU)=w':=congrArg (λm:Machine=>m.world) o;rw[<-E,<-e2]at L;have:=blind _ _ (seq n).1.2.tape (seq n).1.2.drawn L;exact(seq n).2.2.2.1 (Way.stop this)
 .obtain⟨j,q,ap,an⟩:∃j,j<n/\(¬∃es,nxt P (stepG P true (seq j).1.1 ((seq j).1.2.at (f (seq j)).1))=.go (f (seq j)).2.2.1.1 (f (seq j)).2.2.1.2 es/\(f (seq j)).2.2.1.2.drawn=(f (seq j)).2.1)/\
    ∀k,k<j->∃es,nxt P (stepG P true (seq k).1.1 ((seq k).1.2.at (f (seq k)).1))=.go (f (seq k)).2.2.1.1 (f (seq k)).2.2.1.2 es/\(f (seq k)).2.2.1.2.drawn=(f (seq k)).2.1:=by
   have A:∃j,j<n/\¬∃es,nxt P (stepG P true (seq j).1.1 ((seq j).1.2.at (f (seq j)).1))=.go (f (seq j)).2.2.1.1 (f (seq j)).2.2.1.2 es/\(f (seq j)).2.2.1.2.drawn=(f (seq j)).2.1:=by
    refine Classical.byContradiction λr=>z λj q=>Classical.byContradiction λS=>r ⟨j,q,S⟩
   clear z;obtain⟨j,q⟩:=A;induction j using Nat.strongRecOn with
   |ind j J=>
    by_cases r:∃k,k<j/\¬∃es,nxt P (stepG P true (seq k).1.1 ((seq k).1.2.at (f (seq k)).1))=.go (f (seq k)).2.2.1.1 (f (seq k)).2.2.1.2 es/\(f (seq k)).2.2.1.2.drawn=(f (seq k)).2.1
    .obtain⟨k,Q,ax⟩:=r
     exact J k Q ⟨BS,ax⟩
    .exact⟨j,q.1,q.2,λk Q=>Classical.byContradiction λS=>r ⟨k,Q,S⟩⟩
  have ac:=((hf (seq j)).2.2).resolve_left ap;obtain⟨m,rfl⟩:∃m,n=j+(m+1):=⟨n - j - 1,BS⟩
  rw[runN_add,key j an]at o;simp only at o;have B:=ae j;have kH:=Vr C true (seq j).1.1 (seq j).2.1 ((seq j).1.2.at (f (seq j)).1);have ab:=λg' w' es h=>RS (P:=P) (w:=(seq j).1.2.at (f (seq j)).1) C (seq j).2.1 (seq j).2.2.2.2 (g':=g') (w':=w') (es:=es) h
  generalize nxt P (stepG P true (seq j).1.1 ((seq j).1.2.at (f (seq j)).1))=X at ac B ab;cases X with
  |go D F I=>
   have h1:D.status≠.running:=λr=>ac ⟨D,F,I,rfl,r⟩
   have h2:=(ab D F I rfl).2;simp only[runN,B,GStep.turn,F3]at o;have:=gA h1 h2 o
   have E:g'=D:=by
    have:=congrArg (λm:Machine=>m.gs[0]?) this
    simpa[solo]using this
   exact h1 (E ▸ aw _ _ L)
  |spawn D c1 F I=>
   simp only[runN,B,GStep.turn,F3]at o;have:=Ax2 o
   simp[solo]at this
  |ended o1 F I=>exact runN_ended (by rw[B];rfl) o
  |comm a b c d e f=>exact runN_ended (by rw[B];rfl) o
  |_=>exact runN_ended (by rw[B];rfl) o
end
open Go.ConcN (sumTo upd sumTo_upd upd_ne upd_same)
section
variable {g:AX}
variable {P : AY}
def M3(P:AY)(gs:Array AX)(t:Trace)(g:AX):Prop:=gs[0]?=some g/\(∃q,Leavers P t gs q)/\∃B,Past (λ_=>False) B t
def Comes(P:AY)(g:AX)(w:AU)(Stop:AX->World->Prop):Prop:=
  ∀f sl t,M3 P f t g->OkG g->∃N e d b i h,runNT P N (crowd f w sl) t=(.next (crowd e b i),h)/\M3 P e h d/\OkG d/\b.tape=w.tape/\Stop d b
def Comes.stop{w:AU}{Stop:AX->World->Prop}(h:Stop g w):Comes P g w Stop:=
  λb sl t hF d=>⟨0,b,g,w,sl,t,rfl,hF,d,rfl,h⟩
def Comes.then{w:AU}{S d:AX->World->Prop}(h:Comes P g w S)(l:∀f b,b.tape=w.tape->S f b->Comes P f b d):Comes P g w d:=by intro s sl t hF E;have⟨N,A,x,p,D,q,r,B,y,e,o⟩:=h s sl t hF E;have⟨K,C,G,z,v,H,I,i,J,F,j⟩:=l x p e o A D q B y;exact⟨N+K,C,G,z,v,H,by rwa[runNT_add,r],i,J,F.tr e,j⟩
def Comes.mono{w:AU}{S d:AX->World->Prop}(h:Comes P g w S)(f:∀e b,b.tape=w.tape->S e b->d e b):Comes P g w d:=
  h.then λ_ _ j i=>Comes.stop (f _ _ j i)
abbrev Comes.mo:=@Comes.mono
theorem ek(ops:Array MemOp)(B:Nat):∃d,B<=d/\∀op∈ops,op.act.low d:=by
 have o:∀x:MemAct,∃B,x.low B:=by
  intro x;cases x with
  |access e=>
   obtain⟨l,a,b⟩:=e;cases l with
   |cell a=>exact⟨a.block+1,EO _⟩|obj r=>exact⟨r+1,EO _⟩|_=>exact⟨0,trivial⟩
  |mark m=>
   cases m with
   |acquire a|release a|releaseMerge a|read a|write a=>exact⟨a.block+1,EO _⟩
   |_=>exact⟨0,trivial⟩
  |go _|start=>exact⟨0,trivial⟩
  |send c _|sendDone c _|recv c _ _|recvDone c _|close c|recvClosed c=>exact⟨c+1,EO _⟩
 obtain⟨l⟩:=ops;induction l with
 |nil=>exact⟨B,DK _,λop h=>by simp at h⟩
 |cons x l v=>
  obtain⟨i,y,f⟩:=v;have⟨s,j⟩:=o x.act;refine⟨max i s,DR y (MZ _ _),λop q=>?_⟩;have:op=x\/op∈l:=by simpa using q
  rcases this with rfl|h
  . exact MemAct.low_mono (Of _ _) j
  . exact MemAct.low_mono (MZ _ _) (f op C5)
theorem uL(U:OkP P){Stop:AX->World->Prop}{w:AU}(h:Way P Stop g w):Comes P g w Stop:=by
 refine h (λg w=>Comes P g w Stop) (λg w h=>Comes.stop h) ?_;intro g w S H ai b sl t ⟨o,⟨q,l⟩,B,E⟩ _;have main:∀(M:Nat)(b:Array AX)(C:Nat)(sl:Option (Nat × Nat))(t:Trace)(q:Nat->Nat),sumTo b.size q<=M->b[0]?=some g->Leavers P t b q->(∃B,Past (λ_=>False) B t)->
     ∃N D g' A e t',runNT P N (crowd b (w.at C) sl) t=(.next (crowd D A e),t')/\M3 P D t' g'/\OkG g'/\A.tape=w.tape/\Stop g' A:=by
   intro M;induction M with
   |zero|succ M ih=>
     intro b C sl t q hM o l E;have ap:∀x∈b,awake x:=by
       intro x r;obtain⟨i,hi,rfl⟩:=Array.mem_iff_getElem.1 r;rcases LI i with rfl|R
       . have:b[0]=g:=by simpa[J2 hi]using o
         rw[this];exact awake_of (.inl H)
       . exact awake_of ((l.old i _ R (J2 hi)).status.elim .inl λx=>.inr (.inr x))
     have ao:=λi x hi r=>(l.old i x hi r).status
     have⟨i,x,d,e,hi,r,ae⟩:=crowd_pick (P:=P) (w:=w.at C) (sl:=sl) ap ⟨0,g,o,H⟩;rcases LI i with rfl|R
     . obtain rfl:x=g:=by rw[o]at hi;exact(Ek hi).symm
       have⟨g',A,J,K,ay,hX⟩:=ai d;have av:A.tape=w.tape:=by
         have:=(ep U S (w.at d)).tape
         rw[K]at this;exact this
       have⟨D,G,L,V,ac,aC,y,aA⟩:=vR (sl:=e) U S o ao K ay;obtain⟨B,z⟩:=E;have⟨B',yR,ah⟩:=ek G B;have aD:=(RS U S H K).1;have az:Past (λ_=>False) B' (t++G):=(z.mono yR).app0 y (λ_ _ _ _ h=>h.elim) (by rw[aA t z.hears,z.hears]) ah;have aw:Leavers P (t++G) D q:=by
         refine⟨λj af f v=>?_,λj f=>?_⟩
         . rw[Deaf_other t (g':=0) BS _ y]
           exact l.old j af f (by rwa[<-aC j f])
         . rw[Deaf_other t (g':=0) (by have:=(BF.1 o).1;omega) _ y]
           exact l.above j (by rwa[<-V])
       have⟨N,X,g2,O,W,Z,ad,aa,Q,T,ab⟩:=hX D e (t++G) ⟨ac,⟨q,aw⟩,B',az⟩ aD;refine⟨N+1,X,g2,O,W,Z,?_,aa,Q,T.trans av,ab⟩;simp only[runNT,ae];rwa[show crowd b ((w.at C).at d) e=crowd b (w.at d) e from rfl,L]
     . have I:=l.old i x R hi
       have an:(i==0)=false:=Bw
       have hlt:=(BF.1 hi).1;cases Y:q i with
       |zero=>rw[Y]at I;rw[I.1]at r;cases r
       |succ k=>
         rw[Y]at I;rcases I with⟨hf,_⟩|⟨_,s,J,hm,ax,au⟩
         . rw[hf]at r;cases r
         have L:=runT_crowd_go (P:=P) (sl:=e) (i:=i) hi (by rw[an];exact ax (w.at d));have V:((b.map (woken P x s (w.at d))).setIfInBounds i s).size=b.size:=BU
         have aF:sumTo b.size (upd q i k)+(k+1)=sumTo b.size q+k:=by
           have:=sumTo_upd q k id hlt
           simpa[Y]using this
         have y:∀op∈MemOp.ofEvents i x.frame.fn x.frame.place J,op.g=i:=λop ar=>by obtain⟨aE,_,rfl⟩:=Go.Conc.mem_ofEvents ar;rfl
         have ac:((b.map (woken P x s (w.at d))).setIfInBounds i s)[0]?=some g:=by
           have aB:i≠0:=BS
           rw[JI aB,MV,o];simp[woken_run H]
         have aj:Leavers P (t++MemOp.ofEvents i x.frame.fn x.frame.place J) ((b.map (woken P x s (w.at d))).setIfInBounds i s) (upd q i k):=by
           refine⟨λj af f v=>?_,λj f=>?_⟩
           . by_cases F:i=j
             . subst F
               rw[HQ Cd]at v;obtain rfl:=Ek v;rwa[upd_same,Deaf_own]
             . rw[JI F,MV]at v
               obtain⟨al,hz,rfl⟩:=Option.map_eq_some_iff.1 v;have ag:=l.old j al f hz;rwa[woken_quitsD ag,upd_ne q k (Ne.symm F),Deaf_other t F _ y]
           . rw[Deaf_other t (g':=i) (by simp at f;omega) _ y]
             exact l.above j xCb
         obtain⟨B,z⟩:=E;first
           |omega
           | (obtain⟨N,X,g2,O,W,Z,ad,aa,Q,T,ab⟩:=ih _ d e _ (upd q i k) (by rw[V];omega) ac aj ⟨B,z.mute BS hm⟩
              refine⟨N+1,X,g2,O,W,Z,?_,aa,Q,T,ab⟩;simp only[runNT,ae];rw[show crowd b ((w.at C).at d) e=crowd b (w.at d) e from rfl,L]
              exact ad)
 exact main _ b w.drawn sl t q (DK _) o l ⟨B,E⟩
end
variable {Low:Nat}{P:AY}{a:AU}
structure Keep(Low:Nat)(O:Nat->Prop)(w w':AU):Prop where
  still:∀b,b<Low->w'.heap[b]?=w.heap[b]?
  mine:∀b,O b->w'.heap[b]?=w.heap[b]?
  size:w.heap.size<=w'.heap.size
  tape:w'.tape=w.tape
  os:w'.os=w.os
  out:w'.output=w.output
def Keep.refl(Low:Nat)(O:Nat->Prop)(w:AU):Keep Low O w w:=⟨λ_ _=>rfl,λ_ _=>rfl,DK _,rfl,rfl,rfl⟩
def Keep.trans{O:Nat->Prop}{b c:AU}(h:Keep Low O a b)(k:Keep Low O b c):Keep Low O a c:=
  ⟨λx d=>(k.still x d).tr (h.still x d),λx d=>(k.mine x d).tr (h.mine x d),DR h.size k.size,k.tape.tr h.tape,k.os.tr h.os,k.out.tr h.out⟩
abbrev Keep.tr:=@Keep.trans
def Keep.at{O:Nat->Prop}{b:AU}(h:Keep Low O a b)(d:Nat):Keep Low O a (b.at d):=⟨h.still,h.mine,h.size,h.tape,h.os,h.out⟩
def Keep.sub{O d:Nat->Prop}{b:AU}(h:Keep Low O a b)(f:∀x,d x->O x):Keep Low d a b:=⟨h.still,λx e=>h.mine x (f x e),h.size,h.tape,h.os,h.out⟩
def Zc(c:Nat)(w:AU):Prop:=∃s r,w.heap[c]?=some (.chan 0 #[] false s r false)
def KW(c:Nat)(w:AU):Prop:=∃s r,w.heap[c]?=some (.chan 0 #[] true s r false)
def EvO(Low:Nat)(O:Nat->Prop)(e:Event):Prop:=∃a wr,e=⟨.cell a,wr,false⟩/\(O a.block\/(a.block<Low/\wr=false))
def grown(O:Nat->Prop)(w w':AU):Nat->Prop:=λb=>O b\/(w.heap.size<=b/\b<w'.heap.size)
structure F4(Low:Nat)(O:Nat->Prop)(w w':AU)(es:Array Event):Prop where
  rest:∀b,b<w.heap.size->¬O b->w'.heap[b]?=w.heap[b]?
  size:w.heap.size<=w'.heap.size
  tape:w'.tape=w.tape
  os:w'.os=w.os
  out:w'.output=w.output
  ev:∀e∈es,EvO Low (grown O w w') e\/e=⟨.mark .noRoom,false,true⟩
structure SC where
  c:Nat
  O:Nat->Prop
  vs:List AW
  g:AX
  w:AU
def KJ(P:AY)(Low:Nat)(X:SC->Prop)(x:SC):Prop:=
  x.g.status=.running/\
  ((∀b,Keep Low x.O x.w b->Zc x.c b->∃d e f,stepG P false x.g b=.go d e f/\d.status=.running/\F4 Low x.O b e f/\X ⟨x.c,grown x.O b e,x.vs,d,e⟩)\/
   (∃v h,x.vs=v::h/\∀b,Keep Low x.O x.w b->Zc x.c b->(∃z,stepG P false x.g b=.comm x.g #[scase x.c v z] true .send b #[])/\X ⟨x.c,x.O,h,Conc.served x.g AQ,b⟩)\/
   (x.vs=[]/\mayWake P x.g=true/\∀b s r,Keep Low x.O x.w b->b.heap[x.c]?=some (.chan 0 #[] false s r false)->∃d n,stepG P false x.g b=.go d (b.shut x.c s r false) #[⟨.obj x.c,false,true⟩,⟨.obj x.c,true,true⟩]/\d.status=.running/\QuitsIn P n d))
theorem KJ.mono{X Y:SC->Prop}(i:∀x,X x->Y x){x:SC}(h:KJ P Low X x):KJ P Low Y x:=by
 refine⟨h.1,?_⟩;rcases h.2 with h|⟨v,p,e,h⟩|h
 . exact .inl λf k o=>let ⟨q,l,j,a,b,c,d⟩:=h f k o;⟨q,l,j,a,b,c,i _ d⟩
 . exact .inr (.inl ⟨v,p,e,λf k o=>⟨(h f k o).1,i _ (h f k o).2⟩⟩)
 . exact .inr (.inr h)
abbrev KJ.mo:=@KJ.mono
def FA(P:AY)(Low:Nat)(x:SC):Prop:=∀X:SC->Prop,(∀x,KJ P Low X x->X x)->X x
def FA.mk{x:SC}(h:KJ P Low (FA P Low) x):FA P Low x:=λX b=>b x (h.mo λ_y d=>d X b)
def FA.inv{x:SC}(h:FA P Low x):KJ P Low (FA P Low) x:=
  h (KJ P Low (FA P Low)) λ_ d=>d.mo λ_ b=>FA.mk b
def Nx(P:AY)(Low:Nat)(y x:SC):Prop:=∃b,Keep Low x.O x.w b/\Zc x.c b/\
  ((∃f d h,stepG P false x.g b=.go f d h/\Zc x.c d/\y=⟨x.c,grown x.O b d,x.vs,f,d⟩)\/
   (∃v e z,x.vs=v::e/\stepG P false x.g b=.comm x.g #[scase x.c v z] true .send b #[]/\y=⟨x.c,x.O,e,Conc.served x.g AQ,b⟩))
theorem FA.acc{x:SC}(h:FA P Low x):Acc (Nx P Low) x:=by
 refine h _ λx E=>Acc.intro x λy G=>?_;obtain⟨f,o,p,j⟩:=G;rcases E.2 with h|⟨v,I,e,h⟩|⟨_,_,h⟩
 . have⟨J,M,L,d,_,_,l⟩:=h f o p
   rcases j with⟨B,q,D,b,_,rfl⟩|⟨v,I,z,_,b,rfl⟩
   . rw[d]at b;cases b;exact l
   . rw[d]at b;cases b
 . have⟨⟨z,d⟩,l⟩:=h f o p
   rcases j with⟨B,q,D,b,_,rfl⟩|⟨F,H,K,i,b,rfl⟩
   . rw[d]at b;cases b
   . rw[e]at i;cases i;exact l
 . obtain⟨s,r,A⟩:=p
   have⟨J,n,d,_⟩:=h f s r o A;rcases j with⟨B,q,D,b,⟨N,O,C⟩,rfl⟩|⟨F,H,K,i,b,rfl⟩
   . rw[d]at b;cases b
     rw[show(f.shut x.c s r false).heap[x.c]?=some (.chan 0 #[] true s r false) from heap_put A]at C;cases C
   . rw[d]at b;cases b
structure RC where
  O:Nat->Prop
  L:List (Nat × List AW × Bool)
  g:AX
  w:AU
def KL(P:AY)(Low:Nat)(Stop:AX->World->Prop)(X:RC->Prop)(x:RC):Prop:=
  x.g.status=.running/\
  (((∀e∈x.L,e.2.2=true)/\∀d,Keep Low x.O x.w d->Stop x.g d)\/
   (∀d,Keep Low x.O x.w d->∃f i l,stepG P true x.g d=.go f i l/\f.status=.running/\F4 Low x.O d i l/\X ⟨grown x.O d i,x.L,f,i⟩)\/
   (∃c,x.O c/\∀d,Keep Low x.O x.w d->∃f child h,stepG P true x.g d=.spawn f child d #[]/\f.status=.running/\child.status=.running/\Zc c d/\
      FA P Low ⟨c,λ_=>False,h,child,d⟩/\X ⟨λb=>x.O b/\b≠c,x.L++[(c,h,false)],f,d⟩)\/
   (∃(j c:Nat) (h:List AW) (z:AW),x.L[j]?=some (c,h,false)/\∀d,Keep Low x.O x.w d->stepG P true x.g d=.comm x.g #[rcase c z] true (.recv true) d #[]/\
      (∀v o,h=v::o->X ⟨x.O,x.L.set j (c,o,false),Conc.served x.g (recvd true v true),d⟩)/\(h=[]->X ⟨x.O,x.L.set j (c,[],true),Conc.served x.g (recvd true z false),d⟩)))
theorem KL.mono{Stop:AX->World->Prop}{X Y:RC->Prop}(l:∀x,X x->Y x){x:RC}(h:KL P Low Stop X x):KL P Low Stop Y x:=by
 refine⟨h.1,?_⟩;rcases h.2 with h|h|⟨c,A,h⟩|⟨j,c,o,z,B,h⟩
 . exact .inl h
 . exact .inr (.inl λi k=>let ⟨p,r,q,a,b,c,d⟩:=h i k;⟨p,r,q,a,b,c,l _ d⟩)
 . exact .inr (.inr (.inl ⟨c,A,λi k=>let ⟨p,y,o,a,b,e,f,s,d⟩:=h i k;⟨p,y,o,a,b,e,f,s,l _ d⟩⟩))
 . exact .inr (.inr (.inr ⟨j,c,o,z,B,λi k=>⟨(h i k).1,λv C e=>l _ ((h i k).2.1 v C e),λe=>l _ ((h i k).2.2 e)⟩⟩))
abbrev KL.mo:=@KL.mono
def FP(P:AY)(Low:Nat)(Stop:AX->World->Prop)(x:RC):Prop:=∀X:RC->Prop,(∀x,KL P Low Stop X x->X x)->X x
def FP.mk{Stop:AX->World->Prop}{x:RC}(h:KL P Low Stop (FP P Low Stop) x):FP P Low Stop x:=λX b=>b x (h.mo λ_y d=>d X b)
def FP.inv{Stop:AX->World->Prop}{x:RC}(h:FP P Low Stop x):KL P Low Stop (FP P Low Stop) x:=
  h (KL P Low Stop (FP P Low Stop)) λ_ d=>d.mo λ_ b=>FP.mk b
def RL{α:Type}(r:α->α->Prop)(b l:List α):Prop:=∃(i:Nat)(x y:α),l[i]?=some x/\r y x/\b=l.set i y
theorem RL.acc{α:Type}{r:α->α->Prop}:∀{l:List α},(∀x∈l,Acc r x)->Acc (RL r) l:=by
 intro l;induction l with
 |nil=>exact λ_=>Acc.intro _ λf⟨i,x,y,h,_⟩=>by simp at h
 |cons a l d=>
  intro h;have j:=h a E1;have p:=d λx q=>h x (DY _ q);clear h d;induction j generalizing l with
  |intro a _ e=>
   induction p with
   |intro l o s=>
    refine Acc.intro _ ?_;rintro f⟨i,x,y,hi,b,rfl⟩;cases i with
    |zero=>simp at hi;subst hi;exact e y b l (Acc.intro l o)|succ i=>simp at hi;exact s (l.set i y) ⟨i,x,y,hi,b,rfl⟩
def NI(P:AY)(Low:Nat):SC ⊕ Nat->SC ⊕ Nat->Prop
  |.inl y,.inl x=>Nx P Low y x
  |.inr _,.inl _=>True
  |.inr m,.inr n=>m<n
  |.inl _,.inr _=>False
theorem Xe(P:AY)(Low:Nat)(n:Nat):Acc (NI P Low) (.inr n):=by induction n using Nat.strongRecOn with|ind n d=>refine Acc.intro _ λy b=>?_;cases y with|inl y=>exact b.elim|inr m=>exact d m b
theorem xJ{x:SC}(h:Acc (Nx P Low) x):Acc (NI P Low) (.inl x):=by induction h with|intro x _ b=>refine Acc.intro _ λy d=>?_;cases y with|inl y=>exact b y d|inr m=>exact Xe P Low m
def Cl(Low:Nat)(ow:Nat->Nat->Prop)(g:Nat)(a:Touch):Prop:=
 (∃b wr,a=⟨.cell b,wr,.plain⟩/\(ow g b.block\/(b.block<Low/\wr=false)))\/∃c wr,a=⟨.obj c,wr,.atomic⟩
structure Tr(Low n0 m:Nat)(t₀ t:Trace)(ow:Nat->Nat->Prop):Prop where
 le:t₀.size<=t.size
 clean:∀said,¬Race said t
 kn0:∀i op a,t[i]?=some op->op.act.touch?=some a->a.loc.isMemory=true->(i<t₀.size\/op.g=0)->Knows t 0 i
 knS:∀j,j<m->∀i op a,t[i]?=some op->op.act.touch?=some a->a.loc.isMemory=true->i<t₀.size->Knows t (n0+j) i
 cls:∀i op a,t₀.size<=i->t[i]?=some op->op.act.touch?=some a->a.loc.isMemory=true->Cl Low ow op.g a
 who:∀i op a,t₀.size<=i->t[i]?=some op->op.act.touch?=some a->a.loc.isMemory=true->op.g=0\/∃j,j<m/\op.g=n0+j
 hears:Deaf t 0=0
 hearS:∀k,n0<=k->Deaf t k=0
structure Ow(Low:Nat)(ow:Nat->Nat->Prop)(size:Nat):Prop where
 apart:∀k l b,ow k b->ow l b->k=l
 low:∀k b,ow k b->Low<=b
 up:∀k b,ow k b->b<size
section
variable {a:Touch}{c g k size:Nat}{u:Trace}
variable {Low n0 m : Nat}{t₀ t : Trace}{ow ak : Nat -> Nat -> Prop}
def Cl.mono(h:Cl Low ow g a)(d:∀k b,ow k b->ak k b):Cl Low ak g a:=
 h.imp (λ⟨f,wr,e,k⟩=>⟨f,wr,e,k.imp (d _ _) id⟩) id
abbrev Cl.mo:=@Cl.mono
theorem Tr.wider(h:Tr Low n0 m t₀ t ow)(f:∀k b,ow k b->ak k b):Tr Low n0 m t₀ t ak:=
 ⟨h.le,h.clean,h.kn0,h.knS,λi op a hi d e j=>(h.cls i op a hi d e j).mo f,h.who,h.hears,h.hearS⟩
theorem vr{said:Bool}{g':Nat}(i:Ow Low ow size)(l:g≠g'){b:Touch}(e:Cl Low ow g a)(d:Cl Low ow g' b):¬a.conflicts said b:=by
 rintro⟨f,_,q,p⟩;rcases e with⟨s,wr,rfl,e⟩|⟨c,wr,rfl⟩
 .rcases d with⟨o,j,rfl,d⟩|⟨r,j,rfl⟩;{cases f;rcases e with e|⟨e,rfl⟩;{rcases d with d|⟨d,rfl⟩;{exact l (i.apart _ _ _ e d)};exact Nat.not_lt.2 (i.low _ _ e) d};rcases d with d|⟨d,rfl⟩;{exact Nat.not_lt.2 (i.low _ _ d) e};rcases q with h|h<;>cases h};cases f
 rcases d with⟨o,j,rfl,d⟩|⟨r,j,rfl⟩
 .cases f
 rcases p with h|h|⟨_,h,_⟩<;>cases h
theorem Tr.app(h:Tr Low n0 m t₀ t ow)(H:Ow Low ow size)(hg:g=0\/∃j,j<m/\g=n0+j)(hu:∀op∈u,op.g=g)
  (E:∀op∈u,∀a,op.act.touch?=some a->a.loc.isMemory=true->Cl Low ow g a) (hd:∀t:Trace,Deaf (t++u) g=Deaf t g):Tr Low n0 m t₀ (t++u) ow:=by
 have F:∀k,Deaf (t++u) k=Deaf t k:=by intro k;by_cases r:g=k;{subst r;exact hd t};exact Deaf_other t r u hu
 refine⟨by rw[Array.size_append];have:=h.le;omega,λsaid=>?_,λi op a hi l z o=>?_,λj A i op a hi l z p=>?_,λi op a hi B q y=>?_,λi op a hi B q y=>?_,by rw[F];exact h.hears,λk r=>by rw[F];exact h.hearS k r⟩
 .refine noRace_append (h.clean said) hu λi a l op J b K C=>?_;have⟨x,s,D⟩:=touch_of l;have v:=C.2.1;have I:=C.1 ▸ v;rcases GI i t₀.size with p|f;{rcases hg with rfl|⟨j,A,rfl⟩;{exact h.kn0 i x a s D v (.inl p)};exact h.knS j A i x a s D v p};by_cases G:x.g=g;{have:=knows_own s;rwa [G]at this};exact absurd C (vr H G (h.cls i x a f s D v) (E op J b K I))
 .rcases getElem?_append_cases hi with⟨_,d⟩|⟨f,e⟩;{exact(h.kn0 i op a d l z o).app u};rcases o with o|o;{have:=h.le;omega};have:=knows_own hi;rwa [o]at this
 .rcases getElem?_append_cases hi with⟨_,d⟩|⟨f,e⟩;{exact(h.knS j A i op a d l z p).app u};have:=h.le;omega
 .rcases getElem?_append_cases B with⟨_,d⟩|⟨f,e⟩;{exact h.cls i op a hi d q y};rw[hu op e];exact E op e a q y
 rcases getElem?_append_cases B with⟨_,d⟩|⟨f,e⟩
 .exact h.who i op a hi d q y
 rwa[hu op e]
theorem Tr.O(h:Tr Low n0 m t₀ t ow){y:MemOp}(x:y.act.touch?=none)(hd:(y.g=0\/n0<=y.g)->y.act≠.mark .disable/\y.act≠.mark .enable):Tr Low n0 m t₀ (t++#[y]) ow:=by
 have o:∀i op a,(t++#[y])[i]?=some op->op.act.touch?=some a->i<t.size/\t[i]?=some op:=by
  intro i op a hi d;rcases getElem?_append_cases hi with⟨q,D⟩|⟨G,C⟩;{exact⟨q,D⟩};have:op=y:=by simpa using C
  subst this;rw[x]at d;cases d
 have A:∀k,(k=0\/n0<=k)->Deaf (t++#[y]) k=Deaf t k:=by intro k p;by_cases z:y.g=k;{rw[Deaf_push];unfold deafStep;have:=hd (by rwa[z]);split;{rename_i e;exact absurd e this.1};{rename_i e;exact absurd e this.2};rfl};exact Deaf_other t z _ (λop l=>by have:op=y:=(by simpa using l);rw[this])
 refine⟨by rw[Array.size_append];have:=h.le;omega,λsaid=>?_,λi op a hi d r F=>(h.kn0 i op a (o i op a hi d).2 d r F).app _,λj E i op a hi d r q=>(h.knS j E i op a (o i op a hi d).2 d r q).app _,
  λi op a hi s f v=>h.cls i op a hi (o i op a s f).2 f v,λi op a hi s f v=>h.who i op a hi (o i op a s f).2 f v,by rw[A 0 (.inl rfl)];exact h.hears,λk p=>by rw[A k (.inr p)];exact h.hearS k p⟩
 refine noRace_append (g:=y.g) (h.clean said) (λop l=>by have:op=y:=(by simpa using l);rw[this]) λi a d op l b B=>?_;have:op=y:=by simpa using l
 rw[this,x]at B;cases B
def Tr.silent(h:Tr Low n0 m t₀ t ow)(hu:∀op∈u,op.act.touch?=none/\((op.g=0\/n0<=op.g)->op.act≠.mark .disable/\op.act≠.mark .enable)):Tr Low n0 m t₀ (t++u) ow:=by
 obtain⟨l⟩:=u;induction l generalizing t with
 |nil=>simpa using h|cons y l d=>have e:t++(y::l).toArray=(t++#[y])++l.toArray:=BU;rw[e];have b:=hu y BU;exact d (h.O b.1 b.2) λop hop=>hu op yEh
theorem Tr.spawn(h:Tr Low n0 m t₀ t ow)(fn f:FuncId)(pos d:String):Tr Low n0 (m+1) t₀ (t++#[{g:=0,fn,pos,act:=.go (n0+m)},{g:=n0+m,fn:=f,pos:=d,act:=.start}]) ow:=by
 have e:t++#[({g:=0,fn,pos,act:=.go (n0+m)}:MemOp),{g:=n0+m,fn:=f,pos:=d,act:=.start}]=(t++#[({g:=0,fn,pos,act:=.go (n0+m)}:MemOp)])++#[({g:=n0+m,fn:=f,pos:=d,act:=.start}:MemOp)]:=by rw[Array.append_assoc];rfl
 have b:Tr Low n0 m t₀ (t++#[{g:=0,fn,pos,act:=.go (n0+m)},{g:=n0+m,fn:=f,pos:=d,act:=.start}]) ow:=by rw[e];exact(h.O rfl (λ_=>⟨BU,BU⟩)).O rfl (λ_=>⟨BU,BU⟩)
 refine⟨b.le,b.clean,b.kn0,λj z i op a hi r s q=>?_,b.cls,λi op a hi B D G=>(b.who i op a hi B D G).imp id λ⟨j,z,e⟩=>⟨j,BS,e⟩,b.hears,b.hearS⟩;rcases GI j m with v|v
 .exact b.knS j v i op a hi r s q
 obtain rfl:j=m:=by omega
 have H:=h.le;have x:t[i]?=some op:=by rwa[getElem?_append_old BS]at hi
 have A:=h.kn0 i op a x r s (.inl q);generalize hu:(#[({g:=0,fn,pos,act:=.go (n0+j)}:MemOp),{g:=n0+j,fn:=f,pos:=d,act:=.start}]:Trace)=u at*;have l:(t++u)[t.size]?=some {g:=0,fn,pos,act:=.go (n0+j)}:=by subst hu;rw[TA (DK _)];simp
 have o:(t++u)[t.size+1]?=some {g:=n0+j,fn:=f,pos:=d,act:=.start}:=by subst hu;rw[TA BS];simp
 have F:(t++u).deaf 0 t.size=0:=by rw[deaf_old (DK _)];exact h.hears
 have E:(t++u).deaf (n0+j) (t.size+1)=0:=by rw[deaf_succ l,deaf_old (DK _)];exact h.hearS (n0+j) BS
 have C:=A.hb_new (u:=u) (DK _) l rfl;have y:HappensBefore (t++u) t.size (t.size+1):=.single (.inr ⟨.spawn (child:=n0+j) (by rw[act?_of l]) (by rw[act?_of o]) (by simp[Trace.g?,o]),⟨0,by simp[Trace.g?,l],F⟩,⟨n0+j,by simp[Trace.g?,o],E⟩⟩);exact⟨t.size+1,_,o,rfl,.inr (C.trans y)⟩
def Xj(t:Trace)(k c:Nat):Prop:=∃d op,t[d]?=some op/\op.g=k/\op.act=.close c/\t.heard d/\∀i b a,t[i]?=some b->b.g=k->b.act.touch?=some a->i<d
theorem Xj.app(h:Xj t k c)(hu:∀op∈u,op.g=k->op.act.touch?=none):Xj (t++u) k c:=by
 obtain⟨o,op,d,r,p,s,v⟩:=h;have e:=lt_size_of_getElem? d;refine⟨o,op,by rwa[getElem?_append_old e],r,p,(heard_old e).2 s,λi f a hi j b=>?_⟩;rcases getElem?_append_cases hi with⟨_,q⟩|⟨_,l⟩
 .exact v i f a q j b
 rw[hu f l j]at b;cases b
def KO(t:Trace)(k:Nat):Prop:=∀i op a,t[i]?=some op->op.g=k->op.act.touch?=some a->Knows t 0 i
theorem KO.app(h:KO t k)(hu:∀op∈u,op.g=k->op.act.touch?=none):KO (t++u) k:=by
 intro i op a hi d b;rcases getElem?_append_cases hi with⟨_,e⟩|⟨_,f⟩
 .exact(h i op a e d b).app u
 rw[hu op f d]at b;cases b
theorem Xj.known(h:Xj t k c)(hears:Deaf t 0=0)(fn:FuncId)(pos:String):KO (t++#[{g:=0,fn,pos,act:=.recvClosed c}]) k:=by
 obtain⟨j,op,l,s,y,B,v⟩:=h;have d:=lt_size_of_getElem? l;generalize hu:(#[({g:=0,fn,pos,act:=.recvClosed c}:MemOp)]:Trace)=u;have b:(t++u)[t.size]?=some {g:=0,fn,pos,act:=.recvClosed c}:=by subst hu;simp
 have A:(t++u).deaf 0 t.size=0:=by rwa[deaf_old (DK _)]
 have p:(t++u)[j]?=some op:=by rwa[getElem?_append_old d]
 have z:HappensBefore (t++u) j t.size:=.single (.inr ⟨.closed (c:=c) (by rw[act?_of p,y]) (by rw[act?_of b]),(heard_old d).2 B,⟨0,by simp[Trace.g?,b],A⟩⟩);intro i e a hi o f;rcases getElem?_append_cases hi with⟨_,r⟩|⟨_,q⟩
 .have x:=v i e a r o f;exact⟨t.size,_,b,rfl,.inr ((hb_po x hi p (o.trans s.symm)).trans z)⟩
 subst hu;have:e={g:=0,fn,pos,act:=.recvClosed c}:=by simpa using q
 subst this;cases f
theorem Tr.close(h:Tr Low n0 m t₀ t ow)(q:Ow Low ow size)(l:∃j,j<m/\k=n0+j)(fn:FuncId)(pos:String):
  Tr Low n0 m t₀ (t++MemOp.ofEvents k fn pos #[⟨.obj c,false,true⟩,⟨.obj c,true,true⟩]) ow/\Xj (t++MemOp.ofEvents k fn pos #[⟨.obj c,false,true⟩,⟨.obj c,true,true⟩]) k c:=by
 have e:MemOp.ofEvents k fn pos #[⟨.obj c,false,true⟩,⟨.obj c,true,true⟩]=#[{g:=k,fn,pos,act:=.access ⟨.obj c,false,true⟩},{g:=k,fn,pos,act:=.close c}]:=by rw[ofEvents_eq];simp[MemAct.ofEvent]
 have hd:∀t:Trace,Deaf (t++MemOp.ofEvents k fn pos #[⟨.obj c,false,true⟩,⟨.obj c,true,true⟩]) k=Deaf t k:=λt=>by rw[Deaf_own];rfl
 have s:n0<=k:=by obtain⟨j,_,rfl⟩:=l;omega
 refine⟨h.app q (.inr l) (λop d=>by obtain⟨e,_,rfl⟩:=Go.Conc.mem_ofEvents d;rfl) (λop d a b _=>?_) hd,?_⟩
 .rw[e]at d;have:op={g:=k,fn,pos,act:=.access ⟨.obj c,false,true⟩}\/op={g:=k,fn,pos,act:=.close c}:=xBo;rcases this with rfl|rfl;{simp[MemAct.touch?]at b;subst b;exact .inr ⟨c,false,rfl⟩};cases b
 rw[e];generalize hu:(#[({g:=k,fn,pos,act:=.access ⟨.obj c,false,true⟩}:MemOp),{g:=k,fn,pos,act:=.close c}]:Trace)=u;have r:(t++u)[t.size]?=some {g:=k,fn,pos,act:=.access ⟨.obj c,false,true⟩}:=by subst hu;rw[TA (DK _)];simp
 have f:(t++u)[t.size+1]?=some {g:=k,fn,pos,act:=.close c}:=by subst hu;rw[TA BS];simp
 have v:(t++u).deaf k (t.size+1)=0:=by rw[deaf_succ r,deaf_old (DK _)];exact h.hearS k s
 refine⟨t.size+1,_,f,rfl,rfl,⟨k,by simp[Trace.g?,f],v⟩,λi y a hi A b=>?_⟩;have z:(t++u).size=t.size+2:=by subst hu;simp
 have:=lt_size_of_getElem? hi;rcases GI i (t.size+1) with o|x
 .exact o
 obtain rfl:i=t.size+1:=by omega
 rw[f]at hi;cases hi;cases b
theorem Tr.past(h:Tr Low n0 m t₀ t ow)(D:∀j,j<m->KO t (n0+j)):∃B,Past (λ_=>False) B t:=by
 have r:∀i op a,t[i]?=some op->op.act.touch?=some a->a.loc.isMemory=true->Knows t 0 i:=by intro i op a hi d b;rcases GI i t₀.size with v|y;{exact h.kn0 i op a hi d b (.inl v)};rcases h.who i op a y hi d b with A|⟨j,C,o⟩;{exact h.kn0 i op a hi d b (.inr A)};exact D j C i op a hi o d
 have⟨B,_,F⟩:=ek t 0;refine⟨B,h.clean,λi a d b=>?_,λi g o I H=>?_,h.hears,F⟩
 .have⟨op,e,f⟩:=touch_of d;exact .inl (r i op a e f b)
 obtain⟨x,E,b,_⟩:=H;have⟨op,e,f⟩:=touch_of E;have⟨q,z,l,s,p⟩:=r i op x e f b;have G:op.g=g:=by simpa[Trace.g?,e]using o
 rcases p with rfl|p
 .rw[e]at l;cases l;exact absurd (G.symm.tr s) I
 exact⟨q,by simp[Trace.g?,l,s],p⟩
theorem Tr.begin{P:AY}{gs:Array AX}{q:Nat->Nat}{B:Nat}(d:Past (λ_=>False) B t)(l:Leavers P t gs q):Tr Low gs.size 0 t t ow:=by
 refine⟨DK _,d.clean,λi op a hi f e _=>?_,λj o=>by omega,λi op a hi b=>?_,λi op a hi b=>?_,d.hears,l.above⟩
 .rcases d.known i a (by rwa[touchAt_of hi]) e with h|h;{exact h};exact h.1.elim
 .have:=lt_size_of_getElem? b;omega
 have:=lt_size_of_getElem? b;omega
end
