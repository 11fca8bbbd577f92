import Derived.Test.YthdogflpbpkbeaaGreatDoorCC5
import Derived.Conc.CrowdComm
set_option linter.defProp false
namespace Go.Co
open Go.Conc
section
variable {g:AX}
variable {P : AY}{w : AU}
def LM(g:AX)(c:Nat)(x:Bool)(w:AU):GStep:=
 match w.heap[c]? with
 |some (.coro (some h))=>.go (if h=0 then {(if x then {g with status:=.finished} else {g with frame:=g.frame.finish AQ,status:=.parked}:AX) with status:=.running} else(if x then {g with status:=.finished} else {g with frame:=g.frame.finish AQ,status:=.parked}))
   {w with heap:=w.heap.setIfInBounds c (.coro (if x then none else some 0))}
 |some (.coro none)=>endThrow g.frame "coroswitch on exited coro" w
 |_=>.ended (.stuck "coroswitch: no coroutine" "") w
def nxt(P:AY):GStep->GStep
 |.comm g d b e w _=>V3 P g d b e w
 |.coroswitch g c x w _=>LM g c x w
 |s=>s
def GF:GStep->Stepped
 |.go g w _=>.next (solo g w)
 |.spawn g c w _=>.next {world:=w,gs:=#[g,c],rest:={timers:=#[],alone:=none,slice:=none} }
 |.ended o w _=>.ended o w
 |_=>.ended default default
def Awj(g:AX)(cs:Array CommCase)(b:Bool)(sh:CommShape)(w:AU):(∃e d,V3 P g cs b sh w=.go e d)\/∃o d,V3 P g cs b sh w=.ended o d:=by
 unfold V3;split
 .exact .inl ⟨_,_,rfl⟩
 exact .inr ⟨_,_,rfl⟩
def Azm(h:g.status=.running):move P (solo g w)=.goroutine (solo g w) 0:=by simp[move,ask,askOn,solo,runnable_eq,due,ahead,Goroutine.canRun,List.range_succ,choose,pure,Sem.run,Question.forced,h]
theorem Ax4(h:g.status=.running)(s:(stepG P true g w).fine):step P (solo g w)=GF (nxt P (stepG P true g w)):=by
 rw[step,stepT,Azm h];cases d:stepG P true g w with
 |go f e j=>simp[runT,solo,Array.swapAt!,d,nxt,GF]|ended o e j=>simp[runT,solo,Array.swapAt!,d,nxt,GF]|spawn f c e j=>simp[runT,solo,Array.swapAt!,d,nxt,GF]
 |comm f q b r e j=>
  have this:=XD (P:=P) (sl:=none) Lu BU f q b r e;have v:(runT P (solo g w) 0).1=(communicate P {timers:=#[],alone:=none,slice:=none} #[fin] 0 f q b r e).1:=by simp[runT,solo,Array.swapAt!,d,fin]
  simp only[nxt];show(runT P (solo g w) 0).1=_;rw[v,this];rcases Awj (P:=P) f q b r e with⟨z,y,l⟩|⟨o,y,l⟩;{rw[l];simp[GF,solo]};rw[l];simp[GF]
 |coroswitch f c x e j=>
  simp only[nxt,LM];cases i:e.heap[c]? with
  |none=>simp[runT,solo,Array.swapAt!,d,i,GF]
  |some o=>
   (cases o<;>try(simp[runT,solo,Array.swapAt!,d,i,GF];done));rename_i p;cases p with
   |none=>simp[runT,solo,Array.swapAt!,d,i,GF,endThrow,dieOf]
   |some k=>
    cases k with
    |zero=>cases x<;>simp[runT,solo,Array.swapAt!,d,i,GF,Array.modify,Array.modifyM]
    |succ k=>cases x<;>simp[runT,solo,Array.swapAt!,d,i,GF,Array.modify,Array.modifyM]
 |_=>rw[d]at s;exact s.elim
theorem f8(q:OkP P)(hg:OkG g)(w:AU):Hg (λw=>nxt P (stepG P true g w)) w:=by
 refine Hg.next (F:=λw=>stepG P true g w) (nxt P) (Azs q true g hg.1 w) ?_ ?_
 .have l:=Vx q true g hg w;generalize stepG P true g w=s at l⊢;cases s with
  |go f d i=>exact(D9 _ _).loc _|ended o d i=>exact(Bg _ _).loc _|spawn f c d i=>exact Yw.loc (λ_=>⟨rfl,λ_=>rfl⟩) _|comm f r b v d i=>exact Azw f r b v d
  |coroswitch f c x d i=>
   show Hg (λw=>LM f c x w) d;unfold LM;refine Hg.const ?_ ?_ fun j s e _=>?_;{split<;>rfl};{split<;>rfl}
   .show(match d.heap[c]? with
     |some (.coro (some h))=>GStep.go _ {rt j s e d with heap:=d.heap.setIfInBounds c _} _
     |some (.coro none)=>endThrow _ _ (rt j s e d)
     | _=>GStep.ended _ (rt j s e d) _)=_
    rcases d.heap[c]? with _|o
    .rfl
    .cases o<;>first|rfl|(rename_i p;cases p<;>rfl)
  |_=>exact l.elim
 generalize stepG P true g w=s;cases s with|go f d i=>exact id|ended o d i=>exact id|_=>exact λ_=>trivial
theorem SI(y:OkP P)(hg:OkG g)(_hr:g.status=.running){g':AX}{w':AU}{es:Array Event}(h:nxt P (stepG P true g w)=.go g' w' es):OkG g'/\∀t,g'.status≠.sleeping t:=by
 have d:=Vx y true g hg w;generalize stepG P true g w=s at d h;cases s with
 |go a b c=>cases h;exact⟨d.1,d.2.1⟩
 |comm a j b l i r=>rcases Awk (P:=P) d.1 d.2.1 j b l i with⟨o,v,e⟩|⟨z,v,e,p,q⟩;{rw[show V3 P a j b l i=_ from h]at e;cases e};rw[show V3 P a j b l i=_ from h]at e;cases e;exact⟨p,q⟩
 |coroswitch a c x i r=>simp only[nxt,LM]at h;split at h;{cases h;refine⟨?_,λt f=>?_⟩;{split<;>(try split)<;>first|exact d.1|exact⟨Jm d.1.1 _,d.1.2⟩};split at f<;>(try split at f)<;>cases f};{cases h;exact⟨⟨d.1.1,Lr⟩,λt f=>by cases f⟩};cases h
 |spawn _ _ _ _=>cases h
 |ended _ _ _=>cases h
 |_=>exact d.elim
end
section
variable {P : AY}{w : AU}
def S7(op:MemOp):Prop:=op.g=0/\∀m,op.act≠.mark m
theorem XF(g:AX)(cs:Array CommCase)(b:Bool)(sh:CommShape)(w:AU):∀op∈LS P g cs b sh w,S7 op:=by
 have e:∀(fn:FuncId)(pos:String)(a:MemAct),(∀m,a≠.mark m)->S7 {g:=0,fn,pos,act:=a}:=λ_ _ _ h=>⟨rfl,h⟩;unfold LS;unfold communicate;have r:=QW (w:=w) Lu cs.zipIdx.toList;dsimp only;split
 .intro op d;simp at d
 split
 .split;{rw[NM _ rfl];intro op d;simp at d};intro op d;simp at d
 generalize p:(List.filter _ _:List (Nat × CommCase × List Way))=ready;have j:∀x∈ready,∀y∈x.2.2,∀a b,y≠.partner a b:=by rwa[<-p]
 cases o:(I3 ready).run P w with
 |halt f i=>intro op d;simp at d
 |ok z i=>
  obtain⟨k,c,way⟩:=z;have q:=SG j o;dsimp only;cases way with
  |partner a b=>exact absurd rfl (q a b)
  |sendClosed=>
   dsimp only;cases (runtimePanic (.plain "send on closed channel"):Sem Unit).run P i with
   |ok a l=>intro op d;simp at d|halt f l=>cases f<;>(intro op d;simp at d)
  |closed=>intro op d;simp at d;subst d;exact e _ _ _ (λm h=>by cases h)
  |buffer=>rw[Ik Lu];intro op d;split at d;{simp_all};{simp at d;subst d;exact e _ _ _ (λm h=>by cases h)};{simp at d;rcases d with rfl|rfl<;>exact e _ _ _ (λm h=>by cases h)};{simp at d;rcases d with rfl|rfl<;>exact e _ _ _ (λm h=>by cases h)};{simp_all};{simp_all};simp at d
theorem Awh(t u:Trace)(h:∀op∈u,S7 op):Deaf (t++u) 0=Deaf t 0:=by
 obtain⟨l⟩:=u;rw[Deaf_append];induction l generalizing t with
 |nil=>rfl
 |cons y l f=>
  have d:=h y BU;have e:deafStep 0 (Deaf t 0) y=Deaf t 0:=by unfold deafStep;split;{rename_i b;exact absurd b (d.2 _)};{rename_i b;exact absurd b (d.2 _)};rfl
  rw[List.foldl_cons,e];exact f t (λop hop=>h op yEi)
theorem wY(S:OkP P){gs:Array AX}{g g':AX}{w':AU}{es:Array Event}{sl:Option (Nat × Nat)}(hg:OkG g)(h0:gs[0]?=some g)
  (I:∀i x,0<i->gs[i]?=some x->x.status=.running\/x.status=.finished) (h:nxt P (stepG P true g w)=.go g' w' es) (y:g'.status=.running):
  ∃v A,runT P (crowd gs w sl) 0=(.next (crowd v w' sl),A)/\v.size=gs.size/\v[0]?=some g'/\(∀i,0<i->v[i]?=gs[i]?)/\(∀op∈A,op.g=0)/\∀t,Deaf t 0=0->Deaf (t++A) 0=0:=by
 have l:=Vx S true g hg w;have⟨hlt,T⟩:=BF.1 h0;have O:KT (gs.set 0 fin):=by
  intro x B;obtain⟨i,hi,rfl⟩:=Array.mem_iff_getElem.1 B;by_cases U:i=0;{subst U;simp[fin]};have W:i<gs.size:=by simpa using hi
  have:(gs.set 0 fin)[i]=gs[i]:=by rw[Array.getElem_set_ne];omega
  rw[this];rcases I i gs[i] BS (KD W) with G|G<;>rw[G]<;>simp
 have E:∀x:AX,(gs.set 0 fin).setIfInBounds 0 x=gs.setIfInBounds 0 x:=λx=>set_setIfInBounds hlt _ _;have H:gs.swapAt! 0 {(default:AX) with status:=.finished}=(g,gs.set 0 fin):=by rw[swapAt_of_lt hlt,T];rfl
 have K:∀i,0<i->(gs.setIfInBounds 0 g')[i]?=gs[i]?:=λi hi=>JM BS;have z:∀M pos(es:Array Event),deafBehind 0 es=0->∀t,Deaf t 0=0->Deaf (t++MemOp.ofEvents 0 M pos es) 0=0:=λM pos es Q t F=>by rw[Deaf_own,F,Q]
 cases f:stepG P true g w with
 |go a b c=>rw[f]at h l;cases h;have q:=runT_crowd_go (P:=P) (sl:=sl) (i:=0) h0 (show stepG P (0==0) g w=_ from f);refine⟨_,_,q,BU,by simp[hlt],λi hi=>?_,λop d=>?_,z _ _ _ (l.2.2 y)⟩;{rw[JM BS,MY];cases B:gs[i]? with|none=>rfl|some x=>simp only[MZ,FC];unfold woken;split;{exact again_running _ (I i x hi B)};rfl};obtain⟨e,_,rfl⟩:=Go.Conc.mem_ofEvents d;rfl
 |comm a C b D r s=>
  rw[f]at h l;have J:=XD (P:=P) (sl:=sl) O C0 a C b D r;rw[show V3 P a C b D r=_ from h]at J;have q:runT P (crowd gs w sl) 0=(.next (crowd (gs.setIfInBounds 0 g') w' sl),MemOp.ofEvents 0 g.frame.fn g.frame.place s++LS P a C b D r):=by show runT P {world:=w,gs:=gs,rest:={timers:=#[],alone:=none,slice:=sl} } 0=_;unfold runT;simp only[H,beq_self_eq_true,f,J,E,GStep.es];rfl
  refine⟨_,_,q,BU,by simp[hlt],K,λop d=>?_,λt F=>?_⟩;{rcases Array.mem_append.1 d with d|d;{obtain⟨e,_,rfl⟩:=Go.Conc.mem_ofEvents d;rfl};exact(XF _ _ _ _ _ op d).1};rw[<-Array.append_assoc,Awh _ _ (XF _ _ _ _ _)];exact z _ _ _ l.2.2 t F
 |coroswitch a c x r s=>
  rw[f]at h l;have R:∀op∈MemOp.ofEvents 0 g.frame.fn g.frame.place s,op.g=0:=λop d=>by obtain⟨e,_,rfl⟩:=Go.Conc.mem_ofEvents d;rfl
  simp only[nxt,LM]at h;have q:runT P (crowd gs w sl) 0=(.next (crowd (gs.setIfInBounds 0 g') w' sl),MemOp.ofEvents 0 g.frame.fn g.frame.place s):=by
   show runT P {world:=w,gs:=gs,rest:={timers:=#[],alone:=none,slice:=sl} } 0=_;unfold runT;simp only[H,beq_self_eq_true,f,GStep.es];cases L:r.heap[c]? with
   |none=>rw[L]at h;cases h
   |some o=>
    (rw[L]at h;cases o<;>first|(cases h;done)|skip);rename_i p;cases p with
    |none=>simp only[endThrow,dieOf]at h⊢;cases h;simp only[E];rfl
    |some k=>simp only at h⊢;cases h;by_cases N:k=0;{subst N;simp only[if_true,E,crowd];congr 3;apply Array.ext_getElem?;intro j;by_cases V:j=0;{subst V;rw[JP,BR rfl,Hi hlt,Hi hlt];rfl};rw[JM BS,JP];rw[BQ BS,JM BS]};simp only[N,EL]at y;cases x<;>cases y
  exact⟨_,_,q,BU,by simp[hlt],K,R,z _ _ _ l.2⟩
 |spawn _ _ _ _=>rw[f]at h;cases h
 |ended _ _ _=>rw[f]at h;cases h
 |_=>rw[f]at l;exact l.elim
end
section
variable {g:AX}{m m':Machine}{n:Nat}
variable {P : AY}
def Way(P:AY)(Stop:AX->World->Prop)(g:AX)(w:AU):Prop:=
 ∀X:AX->World->Prop,(∀g w,Stop g w->X g w)->
  (∀g w,OkG g->g.status=.running->(∀d,∃b e f,nxt P (stepG P true g (w.at d))=.go b e f/\b.status=.running/\X b e)->X g w)->X g w
def Way.stop{Stop:AX->World->Prop}{w:AU}(h:Stop g w):Way P Stop g w:=λ_ b _=>b g w h
def Way.step{Stop:AX->World->Prop}{w:AU}(hg:OkG g)(hr:g.status=.running)
  (h:∀d,∃b f i,nxt P (stepG P true g (w.at d))=.go b f i/\b.status=.running/\Way P Stop b f):Way P Stop g w:=
 λX l j=>j g w hg hr λd=>let ⟨b,f,i,e,r,k⟩:=h d;⟨b,f,i,e,r,k X l j⟩
theorem runN_ended{o:Outcome}{w:AU}(h:step P m=.ended o w)(hr:runN P (n+1) m=.next m'):False:=by simp only[runN,h]at hr;cases hr
theorem endWith_ended(w:AU)(d:Nat)(text:ByteArray)(o:Outcome):∃e b,endWith w d text o=.ended e b:=by unfold endWith;generalize w.sys (.write d text)=x;obtain⟨r,b⟩:=x;cases r<;>dsimp only<;>first|exact⟨_,_,rfl⟩|(split<;>exact⟨_,_,rfl⟩)
theorem ja{w:AU}(h1:g.status≠.running)(d:∀t,g.status≠.sleeping t):(∃o e,step P (solo g w)=.ended o e)\/step P (solo g w)=.next (solo g w):=by
 have r:runnable #[g] w.os.mono=[]:=by
  rw[runnable_eq];simp only[D1,DT,DW,EF,List.range_one];rw[List.filter_cons];have:g.canRun w.os.mono=false:=by unfold Goroutine.canRun;cases b:g.status<;>first|rfl|exact absurd b h1|exact absurd b (d _)
  simp[this]
 have s:ahead (solo g w) false=none:=by unfold ahead solo;cases b:g.status<;>first|exact absurd b (d _)|simp[b]
 have l:askOn P (solo g w)=(if #[g].any (·.status==.waiting) then .machine (.next (solo g w)) else
   let h:=if #[g].any (λg=>g.status==.blocked || g.status==.parked) then "all goroutines are asleep - deadlock!" else "no goroutines (main called runtime.Goexit) - deadlock!"
   match endWith w 2 (bytes ("fatal error: " ++h++ "\n")) (.fatal h) with
   |.ended o w _=>.machine (.ended o w)
   | _=>.machine (.ended (.stuck "" "") default)):=by
  unfold askOn;have p:runnable (solo g w).gs (solo g w).world.os.mono=[]:=r;have i:due (solo g w).rest.timers (solo g w).world.os.mono=[]:=by simp[due,solo]
  simp only[p,i,List.isEmpty_nil,if_true,DW,Nat.not_lt_zero,EL];simp only[pure,Sem.run];rw[show({world:=(solo g w).world,gs:=(solo g w).gs,rest:=(solo g w).rest}:Machine)=solo g w from rfl,s];rfl
 have j:move P (solo g w)=askOn P (solo g w):=rfl;unfold step stepT;rw[j,l];by_cases f:#[g].any (·.status==.waiting)=true
 .rw[BR f];exact .inr rfl
 rw[BQ f];left;dsimp only;have⟨v,e,q⟩:=endWith_ended w 2 (bytes ("fatal error: " ++(if #[g].any (λg=>g.status==.blocked || g.status==.parked) then "all goroutines are asleep - deadlock!" else "no goroutines (main called runtime.Goexit) - deadlock!")++ "\n")) (.fatal (if #[g].any (λg=>g.status==.blocked || g.status==.parked) then "all goroutines are asleep - deadlock!" else "no goroutines (main called runtime.Goexit) - deadlock!"));rw[q];exact⟨_,_,rfl⟩
theorem jb{w:AU}(h1:g.status≠.running)(e:∀t,g.status≠.sleeping t):∀{n:Nat}{m:Machine},runN P n (solo g w)=.next m->m=solo g w:=by
 intro n;induction n with
 |zero=>intro m h;cases h;rfl
 |succ n d=>intro m h;rcases ja (P:=P) (w:=w) h1 e with⟨o,f,b⟩|b;{exact(runN_ended b h).elim};simp only[runN,b]at h;exact d h
def Ays(h:runN P n m=.next m'):m.gs.size<=m'.gs.size:=by have e:runNT P n m #[]=(.next m',(runNT P n m #[]).2):=Prod.ext (by rw[runNT_fst,h]) rfl;exact runNT_size P n m m' _ _ e
theorem vu(C:OkP P)(Stop:AX->World->Prop)(aj:∀g w,Stop g w->g.status=.running)
  (blind:∀g w l e,Stop g w->Stop g {w with tape:=l,drawn:=e}) (v:AX) (af:OkG v) (ab:v.status=.running) (w₀:AU)
  (H:∀l e,∃n g' w',runN P n (solo v {w₀ with tape:=l,drawn:=e})=.next (solo g' w')/\Stop g' w'):Way P Stop v w₀:=by
 by_cases L:Way P Stop v w₀
 .exact L
 exfalso;have⟨T,hT⟩:=AA w₀.tape;have au:∀c:{c:AX × AU // OkG c.1/\c.2.tape=T/\¬Way P Stop c.1 c.2/\c.1.status=.running},∃x:Nat × Nat × {c:AX × AU // OkG c.1/\c.2.tape=T/\¬Way P Stop c.1 c.2/\c.1.status=.running},
   x.1<=x.2.1/\
   (∀l s e,s<=x.1->Ag T l s e x.2.1->nxt P (stepG P true c.1.1 (rt l s e (c.1.2.at x.1)))=(nxt P (stepG P true c.1.1 (c.1.2.at x.1))).turn (rt l s e))/\
   ((∃es,nxt P (stepG P true c.1.1 (c.1.2.at x.1))=.go x.2.2.1.1 x.2.2.1.2 es/\x.2.2.1.2.drawn=x.2.1)\/
    ¬∃g' w' es,nxt P (stepG P true c.1.1 (c.1.2.at x.1))=.go g' w' es/\g'.status=.running):=by
  rintro⟨⟨g,w⟩,I,ht,hw,Q⟩;obtain⟨d,hd⟩:∃d,¬∃g' w' es,nxt P (stepG P true g (w.at d))=.go g' w' es/\g'.status=.running/\Way P Stop g' w':=by
   refine Classical.byContradiction λo=>hw (Way.step I Q λd=>?_)
   exact Classical.byContradiction λr=>o ⟨d,r⟩
  have⟨l1,S,aa,W,l4,l5⟩:=f8 C I (w.at d);have Y:(w.at d).tape=T:=ht;by_cases hc:∃g' w' es,nxt P (stepG P true g (w.at d))=.go g' w' es/\g'.status=.running
  .obtain⟨g',w',es,z,K⟩:=hc
   have Z:=(SI C I Q z).1;rw[z]at l1 S W l4;refine⟨⟨d,aa,⟨⟨g',w'⟩,Z,l1.tr Y,λr=>hd ⟨g',w',es,z,K,r⟩,K⟩⟩,?_,fun l s e M N=>?_,.inl ⟨es,z,?_⟩⟩
   .exact DU S W
   .exact l5 l s e M (by rwa[Y])
   .exact(l4 K).symm
  .refine⟨⟨d,aa,⟨⟨g,w⟩,I,ht,hw,Q⟩⟩,?_,fun l s e M N=>?_,.inr hc⟩
   .exact DU S W
   .exact l5 l s e M (by rwa[Y])
 have⟨f,hf⟩:=Classical.axiomOfChoice au;obtain⟨seq,ar,aw⟩:∃seq:Nat->{c:AX × AU // OkG c.1/\c.2.tape=T/\¬Way P Stop c.1 c.2/\c.1.status=.running},seq 0=⟨⟨v,w₀⟩,af,hT.symm,L,ab⟩/\∀i,seq (i+1)=(f (seq i)).2.2:=
  ⟨λi=>Nat.rec ⟨⟨v,w₀⟩,af,hT.symm,L,ab⟩ (λ_ c=>(f c).2.2) i,rfl,λ_=>rfl⟩
 obtain⟨p,ao,R⟩:∃p:Nat->Nat,p 0=0/\∀i,p (i+1)=p i+((f (seq i)).2.1 - (f (seq i)).1):=
  ⟨λi=>Nat.rec 0 (λi x=>x+((f (seq i)).2.1 - (f (seq i)).1)) i,rfl,λ_=>rfl⟩
 have ad:∀i j,i<=j->p i<=p j:=by
  intro i j ay;induction ay with
  |refl=>exact DN _|step _ G=>rw[R];omega
 obtain⟨l,ax⟩:∃l:Nat->Question->Nat,∀i j,(f (seq i)).1+j<(f (seq i)).2.1->l (p i+j)=T ((f (seq i)).1+j):=by
  classical
  refine⟨λn=>if h:∃i,p i<=n/\n<p (i+1) then T ((f (seq (Classical.choose h))).1+(n - p (Classical.choose h))) else λ_=>0,λi j q=>?_⟩;have ac:p i<=p i+j/\p i+j<p (i+1):=⟨BS,by rw[R];omega⟩;have y:∃i',p i'<=p i+j/\p i+j<p (i'+1):=⟨i,ac⟩;have ai:=Classical.choose_spec y;have an:Classical.choose y=i:=by rcases Nat.lt_trichotomy (Classical.choose y) i with h|h|h;{have:=ad _ _ (Nat.succ_le_of_lt h);have:=ai.2;simp only[Nat.succ_eq_add_one] at*;omega};{exact h};have:=ad _ _ (Nat.succ_le_of_lt h);have:=ai.1;have:=ac.2;simp only[Nat.succ_eq_add_one] at*;omega
  simp only[y,dite_true,an];congr 1;omega
 have ag:∀i,step P (solo (seq i).1.1 {(seq i).1.2 with tape:=l,drawn:=p i})=GF ((nxt P (stepG P true (seq i).1.1 ((seq i).1.2.at (f (seq i)).1))).turn (rt l (f (seq i)).1 (p i))):=by
  intro i;have Z:=(seq i).2.1;have ak:=(seq i).2.2.2.2;have E:({(seq i).1.2 with tape:=l,drawn:=p i}:AU)=rt l (f (seq i)).1 (p i) ((seq i).1.2.at (f (seq i)).1):=by simp only[rt,World.at];congr 1;omega
  rw[E,Ax4 ak (Vx C true _ Z _)];rw[(hf (seq i)).2.1 l (f (seq i)).1 (p i) (DN _) (λj q=>ax i j q)]
 have key:∀i,(∀j,j<i->∃es,nxt P (stepG P true (seq j).1.1 ((seq j).1.2.at (f (seq j)).1))=.go (f (seq j)).2.2.1.1 (f (seq j)).2.2.1.2 es/\(f (seq j)).2.2.1.2.drawn=(f (seq j)).2.1)->
   runN P i (solo v {w₀ with tape:=l,drawn:=0})=.next (solo (seq i).1.1 {(seq i).1.2 with tape:=l,drawn:=p i}):=by
  intro i;induction i with
  |zero=>intro _;rw[ar,ao];rfl
  |succ i G=>
   intro A;have⟨es,z,hK⟩:=A i (EQ i);rw[runN_add,G (λj q=>A j (Nat.lt_succ_of_lt q))];simp only[runN];rw[ag i,z];simp only[GStep.turn,GF];rw[aw i,R i];have:rt l (f (seq i)).1 (p i) (f (seq i)).2.2.1.2={(f (seq i)).2.2.1.2 with tape:=l,drawn:=p i+((f (seq i)).2.1 - (f (seq i)).1)}:=by simp only[rt,hK]
   rw[this]
 have⟨n,g',w',o,U⟩:=H l 0;by_cases A:∀j,j<n->∃es,nxt P (stepG P true (seq j).1.1 ((seq j).1.2.at (f (seq j)).1))=.go (f (seq j)).2.2.1.1 (f (seq j)).2.2.1.2 es/\(f (seq j)).2.2.1.2.drawn=(f (seq j)).2.1
 .rw[key n A]at o;injection o with o
  have E:(seq n).1.1=g':=by have:=congrArg (λm:Machine=>m.gs[0]?) o;simpa[solo]using this
  have e2:({(seq n).1.2 with tape:=l,drawn:=p n}:AU)=w':=congrArg (λm:Machine=>m.world) o;rw[<-E,<-e2]at U;have:=blind _ _ (seq n).1.2.tape (seq n).1.2.drawn U;exact(seq n).2.2.2.1 (Way.stop this)
 .obtain⟨j,q,av,al⟩:∃j,j<n/\(¬∃es,nxt P (stepG P true (seq j).1.1 ((seq j).1.2.at (f (seq j)).1))=.go (f (seq j)).2.2.1.1 (f (seq j)).2.2.1.2 es/\(f (seq j)).2.2.1.2.drawn=(f (seq j)).2.1)/\
    ∀k,k<j->∃es,nxt P (stepG P true (seq k).1.1 ((seq k).1.2.at (f (seq k)).1))=.go (f (seq k)).2.2.1.1 (f (seq k)).2.2.1.2 es/\(f (seq k)).2.2.1.2.drawn=(f (seq k)).2.1:=by
   have y:∃j,j<n/\¬∃es,nxt P (stepG P true (seq j).1.1 ((seq j).1.2.at (f (seq j)).1))=.go (f (seq j)).2.2.1.1 (f (seq j)).2.2.1.2 es/\(f (seq j)).2.2.1.2.drawn=(f (seq j)).2.1:=by
    refine Classical.byContradiction λr=>A λj q=>Classical.byContradiction λV=>r ⟨j,q,V⟩
   clear A;obtain⟨j,q⟩:=y;induction j using Nat.strongRecOn with
   |ind j G=>
    by_cases r:∃k,k<j/\¬∃es,nxt P (stepG P true (seq k).1.1 ((seq k).1.2.at (f (seq k)).1))=.go (f (seq k)).2.2.1.1 (f (seq k)).2.2.1.2 es/\(f (seq k)).2.2.1.2.drawn=(f (seq k)).2.1
    .obtain⟨k,O,ap⟩:=r
     exact G k O ⟨BS,ap⟩
    .exact⟨j,q.1,q.2,λk O=>Classical.byContradiction λV=>r ⟨k,O,V⟩⟩
  have ae:=((hf (seq j)).2.2).resolve_left av;obtain⟨m,rfl⟩:∃m,n=j+(m+1):=⟨n - j - 1,BS⟩
  rw[runN_add,key j al]at o;simp only at o;have B:=ag j;have kN:=Vx C true (seq j).1.1 (seq j).2.1 ((seq j).1.2.at (f (seq j)).1);have ah:=λg' w' es h=>SI (P:=P) (w:=(seq j).1.2.at (f (seq j)).1) C (seq j).2.1 (seq j).2.2.2.2 (g':=g') (w':=w') (es:=es) h
  generalize nxt P (stepG P true (seq j).1.1 ((seq j).1.2.at (f (seq j)).1))=X at ae B ah;cases X with
  |go D J F=>
   have h1:D.status≠.running:=λr=>ae ⟨D,J,F,rfl,r⟩
   have h2:=(ah D J F rfl).2;simp only[runN,B,GStep.turn,GF]at o;have:=jb h1 h2 o
   have E:g'=D:=by
    have:=congrArg (λm:Machine=>m.gs[0]?) this
    simpa[solo]using this
   exact h1 (E ▸ aj _ _ U)
  |spawn D c1 J F=>
   simp only[runN,B,GStep.turn,GF]at o;have:=Ays o
   simp[solo]at this
  |ended o1 J F=>exact runN_ended (by rw[B];rfl) o
  |comm a b c d e f=>exact runN_ended (by rw[B];rfl) o
  |_=>exact runN_ended (by rw[B];rfl) o
end
open Go.ConcN (sumTo upd sumTo_upd upd_ne upd_same)
section
variable {g:AX}
variable {P : AY}
def M7(P:AY)(gs:Array AX)(t:Trace)(g:AX):Prop:=gs[0]?=some g/\(∃q,Leavers P t gs q)/\∃B,Past (λ_=>False) B t
def Comes(P:AY)(g:AX)(w:AU)(Stop:AX->World->Prop):Prop:=
  ∀h sl t,M7 P h t g->OkG g->∃N f b d i e,runNT P N (crowd h w sl) t=(.next (crowd f d i),e)/\M7 P f e b/\OkG b/\d.tape=w.tape/\Stop b d
def Comes.stop{w:AU}{Stop:AX->World->Prop}(h:Stop g w):Comes P g w Stop:=
  λd sl t hF b=>⟨0,d,g,w,sl,t,rfl,hF,b,rfl,h⟩
def Comes.then{w:AU}{S f:AX->World->Prop}(h:Comes P g w S)(z:∀e b,b.tape=w.tape->S e b->Comes P e b f):Comes P g w f:=by intro F sl t hF A;have⟨N,y,r,D,E,v,i,H,I,d,C⟩:=h F sl t hF A;have⟨K,B,G,s,p,o,J,x,q,l,j⟩:=z r D d C y E v H I;exact⟨N+K,B,G,s,p,o,by rwa[runNT_add,i],x,q,l.tr d,j⟩
def Comes.mono{w:AU}{S e:AX->World->Prop}(h:Comes P g w S)(f:∀d b,b.tape=w.tape->S d b->e d b):Comes P g w e:=
  h.then λ_ _ j i=>Comes.stop (f _ _ j i)
abbrev Comes.mo:=@Comes.mono
theorem fw(ops:Array MemOp)(B:Nat):∃d,B<=d/\∀op∈ops,op.act.low d:=by
 have f:∀x:MemAct,∃B,x.low B:=by
  intro x;cases x with
  |access e=>
   obtain⟨l,a,b⟩:=e;cases l with
   |cell a=>exact⟨a.block+1,EQ _⟩|obj r=>exact⟨r+1,EQ _⟩|_=>exact⟨0,trivial⟩
  |mark m=>
   cases m with
   |acquire a|release a|releaseMerge a|read a|write a=>exact⟨a.block+1,EQ _⟩
   |_=>exact⟨0,trivial⟩
  |go _|start=>exact⟨0,trivial⟩
  |send c _|sendDone c _|recv c _ _|recvDone c _|close c|recvClosed c=>exact⟨c+1,EQ _⟩
 obtain⟨l⟩:=ops;induction l with
 |nil=>exact⟨B,DN _,λop h=>by simp at h⟩
 |cons x l q=>
  obtain⟨o,v,y⟩:=q;have⟨j,s⟩:=f x.act;refine⟨max o j,DU v (M5 _ _),λop i=>?_⟩;have:op=x\/op∈l:=by simpa using i
  rcases this with rfl|h
  . exact MemAct.low_mono (PE _ _) s
  . exact MemAct.low_mono (M5 _ _) (y op C4)
theorem vb(W:OkP P){Stop:AX->World->Prop}{w:AU}(h:Way P Stop g w):Comes P g w Stop:=by
 refine h (λg w=>Comes P g w Stop) (λg w h=>Comes.stop h) ?_;intro g w hg F ar b sl t ⟨r,⟨q,l⟩,B,G⟩ _;have main:∀(M:Nat)(b:Array AX)(A:Nat)(sl:Option (Nat × Nat))(t:Trace)(q:Nat->Nat),sumTo b.size q<=M->b[0]?=some g->Leavers P t b q->(∃B,Past (λ_=>False) B t)->
     ∃N D g' C e t',runNT P N (crowd b (w.at A) sl) t=(.next (crowd D C e),t')/\M7 P D t' g'/\OkG g'/\C.tape=w.tape/\Stop g' C:=by
   intro M;induction M with
   |zero|succ M ih=>
     intro b A sl t q hM r l G;have aw:∀x∈b,awake x:=by
       intro x o;obtain⟨i,hi,rfl⟩:=Array.mem_iff_getElem.1 o;rcases LP i with rfl|Z
       . have:b[0]=g:=by simpa[KD hi]using r
         rw[this];exact awake_of (.inl F)
       . exact awake_of ((l.old i _ Z (KD hi)).status.elim .inl λx=>.inr (.inr x))
     have an:=λi x hi o=>(l.old i x hi o).status
     have⟨i,x,d,e,hi,o,ag⟩:=crowd_pick (P:=P) (w:=w.at A) (sl:=sl) aw ⟨0,g,r,F⟩;rcases LP i with rfl|Z
     . obtain rfl:x=g:=by rw[r]at hi;exact(E1 hi).symm
       have⟨g',C,R,Q,ah,hX⟩:=ar d;have ai:C.tape=w.tape:=by
         have:=(f8 W hg (w.at d)).tape
         rw[Q]at this;exact this
       have⟨D,E,Y,X,V,az,s,aB⟩:=wY (sl:=e) W hg r an Q ah;obtain⟨B,z⟩:=G;have⟨B',zG,ap⟩:=fw E B;have aC:=(SI W hg F Q).1;have ak:Past (λ_=>False) B' (t++E):=(z.mono zG).app0 s (λ_ _ _ _ h=>h.elim) (by rw[aB t z.hears,z.hears]) ap;have av:Leavers P (t++E) D q:=by
         refine⟨λj af f y=>?_,λj f=>?_⟩
         . rw[Deaf_other t (g':=0) BS _ s]
           exact l.old j af f (by rwa[<-az j f])
         . rw[Deaf_other t (g':=0) (by have:=(BF.1 r).1;omega) _ s]
           exact l.above j (by rwa[<-X])
       have⟨N,S,J,U,O,L,ad,ac,ab,K,aa⟩:=hX D e (t++E) ⟨V,⟨q,av⟩,B',ak⟩ aC;refine⟨N+1,S,J,U,O,L,?_,ac,ab,K.trans ai,aa⟩;simp only[runNT,ag];rwa[show crowd b ((w.at A).at d) e=crowd b (w.at d) e from rfl,Y]
     . have I:=l.old i x Z hi
       have aA:(i==0)=false:=B1
       have hlt:=(BF.1 hi).1;cases T:q i with
       |zero=>rw[T]at I;rw[I.1]at o;cases o
       |succ k=>
         rw[T]at I;rcases I with⟨hf,_⟩|⟨_,v,R,hm,aj,ao⟩
         . rw[hf]at o;cases o
         have Y:=runT_crowd_go (P:=P) (sl:=e) (i:=i) hi (by rw[aA];exact aj (w.at d));have X:((b.map (woken P x v (w.at d))).setIfInBounds i v).size=b.size:=BU
         have aE:sumTo b.size (upd q i k)+(k+1)=sumTo b.size q+k:=by
           have:=sumTo_upd q k id hlt
           simpa[T]using this
         have s:∀op∈MemOp.ofEvents i x.frame.fn x.frame.place R,op.g=i:=λop al=>by obtain⟨aD,_,rfl⟩:=Go.Conc.mem_ofEvents al;rfl
         have V:((b.map (woken P x v (w.at d))).setIfInBounds i v)[0]?=some g:=by
           have ay:i≠0:=BS
           rw[JM ay,MY,r];simp[woken_run F]
         have ax:Leavers P (t++MemOp.ofEvents i x.frame.fn x.frame.place R) ((b.map (woken P x v (w.at d))).setIfInBounds i v) (upd q i k):=by
           refine⟨λj af f y=>?_,λj f=>?_⟩
           . by_cases H:i=j
             . subst H
               rw[Hi C0]at y;obtain rfl:=E1 y;rwa[upd_same,Deaf_own]
             . rw[JM H,MY]at y
               obtain⟨au,hz,rfl⟩:=Option.map_eq_some_iff.1 y;have ae:=l.old j au f hz;rwa[woken_quitsD ae,upd_ne q k (Ne.symm H),Deaf_other t H _ s]
           . rw[Deaf_other t (g':=i) (by simp at f;omega) _ s]
             exact l.above j (by simpa using f)
         obtain⟨B,z⟩:=G;first
           |omega
           | (obtain⟨N,S,J,U,O,L,ad,ac,ab,K,aa⟩:=ih _ d e _ (upd q i k) (by rw[X];omega) V ax ⟨B,z.mute BS hm⟩
              refine⟨N+1,S,J,U,O,L,?_,ac,ab,K,aa⟩;simp only[runNT,ag];rw[show crowd b ((w.at A).at d) e=crowd b (w.at d) e from rfl,Y]
              exact ad)
 exact main _ b w.drawn sl t q (DN _) r l ⟨B,G⟩
end
variable {Low:Nat}{P:AY}{a:AU}
structure Keep(Low:Nat)(O:Nat->Prop)(w w':AU):Prop where
  still:∀b,b<Low->w'.heap[b]?=w.heap[b]?
  mine:∀b,O b->w'.heap[b]?=w.heap[b]?
  size:w.heap.size<=w'.heap.size
  tape:w'.tape=w.tape
  os:w'.os=w.os
  out:w'.output=w.output
def Keep.refl(Low:Nat)(O:Φ)(w:AU):Keep Low O w w:=⟨λ_ _=>rfl,λ_ _=>rfl,DN _,rfl,rfl,rfl⟩
def Keep.trans{O:Φ}{b c:AU}(h:Keep Low O a b)(k:Keep Low O b c):Keep Low O a c:=
  ⟨λx d=>(k.still x d).tr (h.still x d),λx d=>(k.mine x d).tr (h.mine x d),DU h.size k.size,k.tape.tr h.tape,k.os.tr h.os,k.out.tr h.out⟩
abbrev Keep.tr:=@Keep.trans
def Keep.at{O:Φ}{b:AU}(h:Keep Low O a b)(d:Nat):Keep Low O a (b.at d):=⟨h.still,h.mine,h.size,h.tape,h.os,h.out⟩
def Keep.sub{O d:Φ}{b:AU}(h:Keep Low O a b)(f:∀x,d x->O x):Keep Low d a b:=⟨h.still,λx e=>h.mine x (f x e),h.size,h.tape,h.os,h.out⟩
def Zj(c:Nat)(w:AU):Prop:=∃s r,w.heap[c]?=some (.chan 0 #[] false s r false)
def K1(c:Nat)(w:AU):Prop:=∃s r,w.heap[c]?=some (.chan 0 #[] true s r false)
def EvO(Low:Nat)(O:Φ)(e:Event):Prop:=∃a wr,e=⟨.cell a,wr,false⟩/\(O a.block\/(a.block<Low/\wr=false))
def grown(O:Φ)(w w':AU):Nat->Prop:=λb=>O b\/(w.heap.size<=b/\b<w'.heap.size)
structure GI(Low:Nat)(O:Nat->Prop)(w w':AU)(es:Array Event):Prop where
  rest:∀b,b<w.heap.size->¬O b->w'.heap[b]?=w.heap[b]?
  size:w.heap.size<=w'.heap.size
  tape:w'.tape=w.tape
  os:w'.os=w.os
  out:w'.output=w.output
  ev:∀e∈es,EvO Low (grown O w w') e\/e=⟨.mark .noRoom,false,true⟩
structure SC where
  c:Nat
  O:Nat->Prop
  vs:List AW
  g:AX
  w:AU
def KQ(P:AY)(Low:Nat)(X:SC->Prop)(x:SC):Prop:=
  x.g.status=.running/\
  ((∀b,Keep Low x.O x.w b->Zj x.c b->∃d e h,stepG P false x.g b=.go d e h/\d.status=.running/\GI Low x.O b e h/\X ⟨x.c,grown x.O b e,x.vs,d,e⟩)\/
   (∃v f,x.vs=v::f/\∀b,Keep Low x.O x.w b->Zj x.c b->(∃z,stepG P false x.g b=.comm x.g #[scase x.c v z] true .send b #[])/\X ⟨x.c,x.O,f,Conc.served x.g AQ,b⟩)\/
   (x.vs=[]/\mayWake P x.g=true/\∀b s r,Keep Low x.O x.w b->b.heap[x.c]?=some (.chan 0 #[] false s r false)->∃d n,stepG P false x.g b=.go d (b.shut x.c s r false) #[⟨.obj x.c,false,true⟩,⟨.obj x.c,true,true⟩]/\d.status=.running/\QuitsIn P n d))
theorem KQ.mono{X Y:SC->Prop}(i:∀x,X x->Y x){x:SC}(h:KQ P Low X x):KQ P Low Y x:=by
 refine⟨h.1,?_⟩;rcases h.2 with h|⟨v,q,e,h⟩|h
 . exact .inl λf k o=>let ⟨l,j,p,a,b,c,d⟩:=h f k o;⟨l,j,p,a,b,c,i _ d⟩
 . exact .inr (.inl ⟨v,q,e,λf k o=>⟨(h f k o).1,i _ (h f k o).2⟩⟩)
 . exact .inr (.inr h)
abbrev KQ.mo:=@KQ.mono
def FD(P:AY)(Low:Nat)(x:SC):Prop:=∀X:SC->Prop,(∀x,KQ P Low X x->X x)->X x
def FD.mk{x:SC}(h:KQ P Low (FD P Low) x):FD P Low x:=λX b=>b x (h.mo λ_y d=>d X b)
def FD.inv{x:SC}(h:FD P Low x):KQ P Low (FD P Low) x:=
  h (KQ P Low (FD P Low)) λ_ d=>d.mo λ_ b=>FD.mk b
def Nx(P:AY)(Low:Nat)(y x:SC):Prop:=∃b,Keep Low x.O x.w b/\Zj x.c b/\
  ((∃e d h,stepG P false x.g b=.go e d h/\Zj x.c d/\y=⟨x.c,grown x.O b d,x.vs,e,d⟩)\/
   (∃v f z,x.vs=v::f/\stepG P false x.g b=.comm x.g #[scase x.c v z] true .send b #[]/\y=⟨x.c,x.O,f,Conc.served x.g AQ,b⟩))
theorem FD.acc{x:SC}(h:FD P Low x):Acc (Nx P Low) x:=by
 refine h _ λx K=>Acc.intro x λy H=>?_;obtain⟨f,p,j,l⟩:=H;rcases K.2 with h|⟨v,I,e,h⟩|⟨_,_,h⟩
 . have⟨G,N,M,d,_,_,i⟩:=h f p j
   rcases l with⟨C,A,D,b,_,rfl⟩|⟨v,I,z,_,b,rfl⟩
   . rw[d]at b;cases b;exact i
   . rw[d]at b;cases b
 . have⟨⟨z,d⟩,i⟩:=h f p j
   rcases l with⟨C,A,D,b,_,rfl⟩|⟨J,F,E,o,b,rfl⟩
   . rw[d]at b;cases b
   . rw[e]at o;cases o;exact i
 . obtain⟨s,r,B⟩:=j
   have⟨G,n,d,_⟩:=h f s r p B;rcases l with⟨C,A,D,b,⟨O,L,q⟩,rfl⟩|⟨J,F,E,o,b,rfl⟩
   . rw[d]at b;cases b
     rw[show(f.shut x.c s r false).heap[x.c]?=some (.chan 0 #[] true s r false) from heap_put B]at q;cases q
   . rw[d]at b;cases b
structure RC where
  O:Nat->Prop
  L:List (Nat × List AW × Bool)
  g:AX
  w:AU
def KR(P:AY)(Low:Nat)(Stop:AX->World->Prop)(X:RC->Prop)(x:RC):Prop:=
  x.g.status=.running/\
  (((∀e∈x.L,e.2.2=true)/\∀d,Keep Low x.O x.w d->Stop x.g d)\/
   (∀d,Keep Low x.O x.w d->∃f i l,stepG P true x.g d=.go f i l/\f.status=.running/\GI Low x.O d i l/\X ⟨grown x.O d i,x.L,f,i⟩)\/
   (∃c,x.O c/\∀d,Keep Low x.O x.w d->∃f child h,stepG P true x.g d=.spawn f child d #[]/\f.status=.running/\child.status=.running/\Zj c d/\
      FD P Low ⟨c,λ_=>False,h,child,d⟩/\X ⟨λb=>x.O b/\b≠c,x.L++[(c,h,false)],f,d⟩)\/
   (∃(j c:Nat) (h:Θ) (z:AW),x.L[j]?=some (c,h,false)/\∀d,Keep Low x.O x.w d->stepG P true x.g d=.comm x.g #[rcase c z] true (.recv true) d #[]/\
      (∀v o,h=v::o->X ⟨x.O,x.L.set j (c,o,false),Conc.served x.g (recvd true v true),d⟩)/\(h=[]->X ⟨x.O,x.L.set j (c,[],true),Conc.served x.g (recvd true z false),d⟩)))
theorem KR.mono{Stop:AX->World->Prop}{X Y:RC->Prop}(l:∀x,X x->Y x){x:RC}(h:KR P Low Stop X x):KR P Low Stop Y x:=by
 refine⟨h.1,?_⟩;rcases h.2 with h|h|⟨c,y,h⟩|⟨j,c,p,z,q,h⟩
 . exact .inl h
 . exact .inr (.inl λi k=>let ⟨o,C,B,a,b,c,d⟩:=h i k;⟨o,C,B,a,b,c,l _ d⟩)
 . exact .inr (.inr (.inl ⟨c,y,λi k=>let ⟨o,r,p,a,b,e,f,s,d⟩:=h i k;⟨o,r,p,a,b,e,f,s,l _ d⟩⟩))
 . exact .inr (.inr (.inr ⟨j,c,p,z,q,λi k=>⟨(h i k).1,λv A e=>l _ ((h i k).2.1 v A e),λe=>l _ ((h i k).2.2 e)⟩⟩))
abbrev KR.mo:=@KR.mono
def FR(P:AY)(Low:Nat)(Stop:AX->World->Prop)(x:RC):Prop:=∀X:RC->Prop,(∀x,KR P Low Stop X x->X x)->X x
def FR.mk{Stop:AX->World->Prop}{x:RC}(h:KR P Low Stop (FR P Low Stop) x):FR P Low Stop x:=λX b=>b x (h.mo λ_y d=>d X b)
def FR.inv{Stop:AX->World->Prop}{x:RC}(h:FR P Low Stop x):KR P Low Stop (FR P Low Stop) x:=
  h (KR P Low Stop (FR P Low Stop)) λ_ d=>d.mo λ_ b=>FR.mk b
def RL{α:Type}(r:α->α->Prop)(b l:List α):Prop:=∃(i:Nat)(x y:α),l[i]?=some x/\r y x/\b=l.set i y
theorem RL.acc{α:Type}{r:α->α->Prop}:∀{l:List α},(∀x∈l,Acc r x)->Acc (RL r) l:=by
 intro l;induction l with
 |nil=>exact λ_=>Acc.intro _ λe⟨i,x,y,h,_⟩=>by simp at h
 |cons a l d=>
  intro h;have j:=h a E6;have q:=d λx o=>h x (Da _ o);clear h d;induction j generalizing l with
  |intro a _ s=>
   induction q with
   |intro l f p=>
    refine Acc.intro _ ?_;rintro e⟨i,x,y,hi,b,rfl⟩;cases i with
    |zero=>simp at hi;subst hi;exact s y b l (Acc.intro l f)|succ i=>simp at hi;exact p (l.set i y) ⟨i,x,y,hi,b,rfl⟩
def PC(P:AY)(Low:Nat):SC ⊕ Nat->SC ⊕ Nat->Prop
  |.inl y,.inl x=>Nx P Low y x
  |.inr _,.inl _=>True
  |.inr m,.inr n=>m<n
  |.inl _,.inr _=>False
theorem Xk(P:AY)(Low:Nat)(n:Nat):Acc (PC P Low) (.inr n):=by induction n using Nat.strongRecOn with|ind n d=>refine Acc.intro _ λy b=>?_;cases y with|inl y=>exact b.elim|inr m=>exact d m b
theorem yF{x:SC}(h:Acc (Nx P Low) x):Acc (PC P Low) (.inl x):=by induction h with|intro x _ b=>refine Acc.intro _ λy d=>?_;cases y with|inl y=>exact b y d|inr m=>exact Xk P Low m
def Cl(Low:Nat)(ow:Nat->Nat->Prop)(g:Nat)(a:Touch):Prop:=
 (∃b wr,a=⟨.cell b,wr,.plain⟩/\(ow g b.block\/(b.block<Low/\wr=false)))\/∃c wr,a=⟨.obj c,wr,.atomic⟩
structure Tr(Low n0 m:Nat)(t₀ t:Trace)(ow:Nat->Nat->Prop):Prop where
 le:t₀.size<=t.size
 clean:∀said,¬Race said t
 kn0:∀i op a,t[i]?=some op->op.act.touch?=some a->a.loc.isMemory=true->(i<t₀.size\/op.g=0)->Knows t 0 i
 knS:∀j,j<m->∀i op a,t[i]?=some op->op.act.touch?=some a->a.loc.isMemory=true->i<t₀.size->Knows t (n0+j) i
 cls:∀i op a,t₀.size<=i->t[i]?=some op->op.act.touch?=some a->a.loc.isMemory=true->Cl Low ow op.g a
 who:∀i op a,t₀.size<=i->t[i]?=some op->op.act.touch?=some a->a.loc.isMemory=true->op.g=0\/∃j,j<m/\op.g=n0+j
 hears:Deaf t 0=0
 hearS:∀k,n0<=k->Deaf t k=0
structure Ow(Low:Nat)(ow:Nat->Nat->Prop)(size:Nat):Prop where
 apart:∀k l b,ow k b->ow l b->k=l
 low:∀k b,ow k b->Low<=b
 up:∀k b,ow k b->b<size
section
variable {a:Touch}{c g k size:Nat}{u:Trace}
variable {Low n0 m : Nat}{t₀ t : Trace}{ow gm : Nat -> Nat -> Prop}
def Cl.mono(h:Cl Low ow g a)(f:∀k b,ow k b->gm k b):Cl Low gm g a:=
 h.imp (λ⟨d,wr,e,k⟩=>⟨d,wr,e,k.imp (f _ _) id⟩) id
abbrev Cl.mo:=@Cl.mono
theorem Tr.wider(h:Tr Low n0 m t₀ t ow)(f:∀k b,ow k b->gm k b):Tr Low n0 m t₀ t gm:=
 ⟨h.le,h.clean,h.kn0,h.knS,λi op a hi d e j=>(h.cls i op a hi d e j).mo f,h.who,h.hears,h.hearS⟩
theorem wW{said:Bool}{g':Nat}(i:Ow Low ow size)(q:g≠g'){b:Touch}(e:Cl Low ow g a)(d:Cl Low ow g' b):¬a.conflicts said b:=by
 rintro⟨j,_,p,r⟩;rcases e with⟨s,wr,rfl,e⟩|⟨c,wr,rfl⟩
 .rcases d with⟨l,f,rfl,d⟩|⟨o,f,rfl⟩;{cases j;rcases e with e|⟨e,rfl⟩;{rcases d with d|⟨d,rfl⟩;{exact q (i.apart _ _ _ e d)};exact Nat.not_lt.2 (i.low _ _ e) d};rcases d with d|⟨d,rfl⟩;{exact Nat.not_lt.2 (i.low _ _ d) e};rcases p with h|h<;>cases h};cases j
 rcases d with⟨l,f,rfl,d⟩|⟨o,f,rfl⟩
 .cases j
 rcases r with h|h|⟨_,h,_⟩<;>cases h
theorem Tr.app(h:Tr Low n0 m t₀ t ow)(J:Ow Low ow size)(hg:g=0\/∃j,j<m/\g=n0+j)(hu:∀op∈u,op.g=g)
  (E:∀op∈u,∀a,op.act.touch?=some a->a.loc.isMemory=true->Cl Low ow g a) (hd:∀t:Trace,Deaf (t++u) g=Deaf t g):Tr Low n0 m t₀ (t++u) ow:=by
 have G:∀k,Deaf (t++u) k=Deaf t k:=by intro k;by_cases y:g=k;{subst y;exact hd t};exact Deaf_other t y u hu
 refine⟨by rw[Array.size_append];have:=h.le;omega,λsaid=>?_,λi op a hi f B o=>?_,λj D i op a hi f B r=>?_,λi op a hi A p q=>?_,λi op a hi A p q=>?_,by rw[G];exact h.hears,λk y=>by rw[G];exact h.hearS k y⟩
 .refine noRace_append (h.clean said) hu λi a f op I b H C=>?_;have⟨x,s,z⟩:=touch_of f;have v:=C.2.1;have K:=C.1 ▸ v;rcases GM i t₀.size with r|l;{rcases hg with rfl|⟨j,D,rfl⟩;{exact h.kn0 i x a s z v (.inl r)};exact h.knS j D i x a s z v r};by_cases F:x.g=g;{have:=knows_own s;rwa [F]at this};exact absurd C (wW J F (h.cls i x a l s z v) (E op I b H K))
 .rcases getElem?_append_cases hi with⟨_,d⟩|⟨l,e⟩;{exact(h.kn0 i op a d f B o).app u};rcases o with o|o;{have:=h.le;omega};have:=knows_own hi;rwa [o]at this
 .rcases getElem?_append_cases hi with⟨_,d⟩|⟨l,e⟩;{exact(h.knS j D i op a d f B r).app u};have:=h.le;omega
 .rcases getElem?_append_cases A with⟨_,d⟩|⟨l,e⟩;{exact h.cls i op a hi d p q};rw[hu op e];exact E op e a p q
 rcases getElem?_append_cases A with⟨_,d⟩|⟨l,e⟩
 .exact h.who i op a hi d p q
 rwa[hu op e]
theorem Tr.O(h:Tr Low n0 m t₀ t ow){y:MemOp}(z:y.act.touch?=none)(hd:(y.g=0\/n0<=y.g)->y.act≠.mark .disable/\y.act≠.mark .enable):Tr Low n0 m t₀ (t++#[y]) ow:=by
 have o:∀i op a,(t++#[y])[i]?=some op->op.act.touch?=some a->i<t.size/\t[i]?=some op:=by
  intro i op a hi d;rcases getElem?_append_cases hi with⟨v,F⟩|⟨G,C⟩;{exact⟨v,F⟩};have:op=y:=by simpa using C
  subst this;rw[z]at d;cases d
 have B:∀k,(k=0\/n0<=k)->Deaf (t++#[y]) k=Deaf t k:=by intro k p;by_cases A:y.g=k;{rw[Deaf_push];unfold deafStep;have:=hd (by rwa[A]);split;{rename_i e;exact absurd e this.1};{rename_i e;exact absurd e this.2};rfl};exact Deaf_other t A _ (λop l=>by have:op=y:=(by simpa using l);rw[this])
 refine⟨by rw[Array.size_append];have:=h.le;omega,λsaid=>?_,λi op a hi d r D=>(h.kn0 i op a (o i op a hi d).2 d r D).app _,λj E i op a hi d r v=>(h.knS j E i op a (o i op a hi d).2 d r v).app _,
  λi op a hi q f s=>h.cls i op a hi (o i op a q f).2 f s,λi op a hi q f s=>h.who i op a hi (o i op a q f).2 f s,by rw[B 0 (.inl rfl)];exact h.hears,λk p=>by rw[B k (.inr p)];exact h.hearS k p⟩
 refine noRace_append (g:=y.g) (h.clean said) (λop l=>by have:op=y:=(by simpa using l);rw[this]) λi a d op l b x=>?_;have:op=y:=by simpa using l
 rw[this,z]at x;cases x
def Tr.silent(h:Tr Low n0 m t₀ t ow)(hu:∀op∈u,op.act.touch?=none/\((op.g=0\/n0<=op.g)->op.act≠.mark .disable/\op.act≠.mark .enable)):Tr Low n0 m t₀ (t++u) ow:=by
 obtain⟨l⟩:=u;induction l generalizing t with
 |nil=>simpa using h|cons y l d=>have e:t++(y::l).toArray=(t++#[y])++l.toArray:=BU;rw[e];have b:=hu y BU;exact d (h.O b.1 b.2) λop hop=>hu op yEi
theorem Tr.spawn(h:Tr Low n0 m t₀ t ow)(fn f:FuncId)(pos d:String):Tr Low n0 (m+1) t₀ (t++#[{g:=0,fn,pos,act:=.go (n0+m)},{g:=n0+m,fn:=f,pos:=d,act:=.start}]) ow:=by
 have e:t++#[({g:=0,fn,pos,act:=.go (n0+m)}:MemOp),{g:=n0+m,fn:=f,pos:=d,act:=.start}]=(t++#[({g:=0,fn,pos,act:=.go (n0+m)}:MemOp)])++#[({g:=n0+m,fn:=f,pos:=d,act:=.start}:MemOp)]:=by rw[Array.append_assoc];rfl
 have b:Tr Low n0 m t₀ (t++#[{g:=0,fn,pos,act:=.go (n0+m)},{g:=n0+m,fn:=f,pos:=d,act:=.start}]) ow:=by rw[e];exact(h.O rfl (λ_=>⟨BU,BU⟩)).O rfl (λ_=>⟨BU,BU⟩)
 refine⟨b.le,b.clean,b.kn0,λj F i op a hi r q s=>?_,b.cls,λi op a hi x A D=>(b.who i op a hi x A D).imp id λ⟨j,F,e⟩=>⟨j,BS,e⟩,b.hears,b.hearS⟩;rcases GM j m with v|v
 .exact b.knS j v i op a hi r q s
 obtain rfl:j=m:=by omega
 have H:=h.le;have E:t[i]?=some op:=by rwa[getElem?_append_old BS]at hi
 have G:=h.kn0 i op a E r q (.inl s);generalize hu:(#[({g:=0,fn,pos,act:=.go (n0+j)}:MemOp),{g:=n0+j,fn:=f,pos:=d,act:=.start}]:Trace)=u at*;have l:(t++u)[t.size]?=some {g:=0,fn,pos,act:=.go (n0+j)}:=by subst hu;rw[TR (DN _)];simp
 have o:(t++u)[t.size+1]?=some {g:=n0+j,fn:=f,pos:=d,act:=.start}:=by subst hu;rw[TR BS];simp
 have y:(t++u).deaf 0 t.size=0:=by rw[deaf_old (DN _)];exact h.hears
 have C:(t++u).deaf (n0+j) (t.size+1)=0:=by rw[deaf_succ l,deaf_old (DN _)];exact h.hearS (n0+j) BS
 have z:=G.hb_new (u:=u) (DN _) l rfl;have B:HappensBefore (t++u) t.size (t.size+1):=.single (.inr ⟨.spawn (child:=n0+j) (by rw[act?_of l]) (by rw[act?_of o]) (by simp[Trace.g?,o]),⟨0,by simp[Trace.g?,l],y⟩,⟨n0+j,by simp[Trace.g?,o],C⟩⟩);exact⟨t.size+1,_,o,rfl,.inr (z.trans B)⟩
def Xp(t:Trace)(k c:Nat):Prop:=∃b op,t[b]?=some op/\op.g=k/\op.act=.close c/\t.heard b/\∀i d a,t[i]?=some d->d.g=k->d.act.touch?=some a->i<b
theorem Xp.app(h:Xp t k c)(hu:∀op∈u,op.g=k->op.act.touch?=none):Xp (t++u) k c:=by
 obtain⟨l,op,d,p,s,o,r⟩:=h;have j:=lt_size_of_getElem? d;refine⟨l,op,by rwa[getElem?_append_old j],p,s,(heard_old j).2 o,λi f a hi e b=>?_⟩;rcases getElem?_append_cases hi with⟨_,v⟩|⟨_,q⟩
 .exact r i f a v e b
 rw[hu f q e]at b;cases b
def KI(t:Trace)(k:Nat):Prop:=∀i op a,t[i]?=some op->op.g=k->op.act.touch?=some a->Knows t 0 i
theorem KI.app(h:KI t k)(hu:∀op∈u,op.g=k->op.act.touch?=none):KI (t++u) k:=by
 intro i op a hi d b;rcases getElem?_append_cases hi with⟨_,f⟩|⟨_,e⟩
 .exact(h i op a f d b).app u
 rw[hu op e d]at b;cases b
theorem Xp.known(h:Xp t k c)(hears:Deaf t 0=0)(fn:FuncId)(pos:String):KI (t++#[{g:=0,fn,pos,act:=.recvClosed c}]) k:=by
 obtain⟨l,op,d,q,y,z,s⟩:=h;have j:=lt_size_of_getElem? d;generalize hu:(#[({g:=0,fn,pos,act:=.recvClosed c}:MemOp)]:Trace)=u;have b:(t++u)[t.size]?=some {g:=0,fn,pos,act:=.recvClosed c}:=by subst hu;simp
 have x:(t++u).deaf 0 t.size=0:=by rwa[deaf_old (DN _)]
 have f:(t++u)[l]?=some op:=by rwa[getElem?_append_old j]
 have v:HappensBefore (t++u) l t.size:=.single (.inr ⟨.closed (c:=c) (by rw[act?_of f,y]) (by rw[act?_of b]),(heard_old j).2 z,⟨0,by simp[Trace.g?,b],x⟩⟩);intro i p a hi o e;rcases getElem?_append_cases hi with⟨_,B⟩|⟨_,r⟩
 .have A:=s i p a B o e;exact⟨t.size,_,b,rfl,.inr ((hb_po A hi f (o.trans q.symm)).trans v)⟩
 subst hu;have:p={g:=0,fn,pos,act:=.recvClosed c}:=by simpa using r
 subst this;cases e
theorem Tr.close(h:Tr Low n0 m t₀ t ow)(r:Ow Low ow size)(l:∃j,j<m/\k=n0+j)(fn:FuncId)(pos:String):
  Tr Low n0 m t₀ (t++MemOp.ofEvents k fn pos #[⟨.obj c,false,true⟩,⟨.obj c,true,true⟩]) ow/\Xp (t++MemOp.ofEvents k fn pos #[⟨.obj c,false,true⟩,⟨.obj c,true,true⟩]) k c:=by
 have e:MemOp.ofEvents k fn pos #[⟨.obj c,false,true⟩,⟨.obj c,true,true⟩]=#[{g:=k,fn,pos,act:=.access ⟨.obj c,false,true⟩},{g:=k,fn,pos,act:=.close c}]:=by rw[ofEvents_eq];simp[MemAct.ofEvent]
 have hd:∀t:Trace,Deaf (t++MemOp.ofEvents k fn pos #[⟨.obj c,false,true⟩,⟨.obj c,true,true⟩]) k=Deaf t k:=λt=>by rw[Deaf_own];rfl
 have q:n0<=k:=by obtain⟨j,_,rfl⟩:=l;omega
 refine⟨h.app r (.inr l) (λop d=>by obtain⟨e,_,rfl⟩:=Go.Conc.mem_ofEvents d;rfl) (λop d a b _=>?_) hd,?_⟩
 .rw[e]at d;have:op={g:=k,fn,pos,act:=.access ⟨.obj c,false,true⟩}\/op={g:=k,fn,pos,act:=.close c}:=xBt;rcases this with rfl|rfl;{simp[MemAct.touch?]at b;subst b;exact .inr ⟨c,false,rfl⟩};cases b
 rw[e];generalize hu:(#[({g:=k,fn,pos,act:=.access ⟨.obj c,false,true⟩}:MemOp),{g:=k,fn,pos,act:=.close c}]:Trace)=u;have o:(t++u)[t.size]?=some {g:=k,fn,pos,act:=.access ⟨.obj c,false,true⟩}:=by subst hu;rw[TR (DN _)];simp
 have f:(t++u)[t.size+1]?=some {g:=k,fn,pos,act:=.close c}:=by subst hu;rw[TR BS];simp
 have v:(t++u).deaf k (t.size+1)=0:=by rw[deaf_succ o,deaf_old (DN _)];exact h.hearS k q
 refine⟨t.size+1,_,f,rfl,rfl,⟨k,by simp[Trace.g?,f],v⟩,λi A a hi z b=>?_⟩;have x:(t++u).size=t.size+2:=by subst hu;simp
 have:=lt_size_of_getElem? hi;rcases GM i (t.size+1) with s|y
 .exact s
 obtain rfl:i=t.size+1:=by omega
 rw[f]at hi;cases hi;cases b
theorem Tr.past(h:Tr Low n0 m t₀ t ow)(I:∀j,j<m->KI t (n0+j)):∃B,Past (λ_=>False) B t:=by
 have r:∀i op a,t[i]?=some op->op.act.touch?=some a->a.loc.isMemory=true->Knows t 0 i:=by intro i op a hi d b;rcases GM i t₀.size with F|D;{exact h.kn0 i op a hi d b (.inl F)};rcases h.who i op a D hi d b with E|⟨j,H,l⟩;{exact h.kn0 i op a hi d b (.inr E)};exact I j H i op a hi l d
 have⟨B,_,C⟩:=fw t 0;refine⟨B,h.clean,λi a d b=>?_,λi g l v A=>?_,h.hears,C⟩
 .have⟨op,e,o⟩:=touch_of d;exact .inl (r i op a e o b)
 obtain⟨x,G,b,_⟩:=A;have⟨op,e,o⟩:=touch_of G;have⟨q,z,p,s,f⟩:=r i op x e o b;have y:op.g=g:=by simpa[Trace.g?,e]using l
 rcases f with rfl|f
 .rw[e]at p;cases p;exact absurd (y.symm.tr s) v
 exact⟨q,by simp[Trace.g?,p,s],f⟩
theorem Tr.begin{P:AY}{gs:Array AX}{q:Nat->Nat}{B:Nat}(d:Past (λ_=>False) B t)(f:Leavers P t gs q):Tr Low gs.size 0 t t ow:=by
 refine⟨DN _,d.clean,λi op a hi e l _=>?_,λj o=>by omega,λi op a hi b=>?_,λi op a hi b=>?_,d.hears,f.above⟩
 .rcases d.known i a (by rwa[touchAt_of hi]) l with h|h;{exact h};exact h.1.elim
 .have:=lt_size_of_getElem? b;omega
 have:=lt_size_of_getElem? b;omega
end
