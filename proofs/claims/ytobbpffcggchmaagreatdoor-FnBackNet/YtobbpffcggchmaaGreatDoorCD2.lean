import Derived.Test.YtobbpffcggchmaaGreatDoorCC8
import Derived.Conc.CrowdComm
namespace Go.Co
open Go.Conc
open Go.ConcN (sumTo upd sumTo_upd upd_ne upd_same)
section
variable {g:Goroutine}
variable {P : Program}
def Frm (P:Program)(gs:Array Goroutine)(t:Trace)(g:Goroutine):Prop:=gs[0]?=some g/\(∃q,Leavers P t gs q)/\∃B,Past (λ_=>False) B t
def Comes (P:Program)(g:Goroutine)(w:World)(Stop:Goroutine->World->Prop):Prop:=
  ∀h sl t,Frm P h t g->OkG g->∃N e d b i f,runNT P N (crowd h w sl) t=(.next (crowd e b i),f)/\Frm P e f d/\OkG d/\b.tape=w.tape/\Stop d b
theorem Comes.stop {w:World}{Stop:Goroutine->World->Prop}(h:Stop g w):Comes P g w Stop:=
  λd sl t hF b=>⟨0,d,g,w,sl,t,rfl,hF,b,rfl,h⟩
theorem Comes.then {w:World}{S d:Goroutine->World->Prop}(h:Comes P g w S)(y:∀e b,b.tape=w.tape->S e b->Comes P e b d):Comes P g w d:=by
  intro D sl t hF j;obtain⟨N,l,p,B,q,G,z,o,C,f,E⟩:=h D sl t hF j;obtain⟨K,n,x,r,H,i,I,A,F,s,v⟩:=y p B f E l q G o C;exact⟨N+K,n,x,r,H,i,by rw[runNT_add,z];exact I,A,F,s.trans f,v⟩
theorem Comes.mono {w:World}{S d:Goroutine->World->Prop}(h:Comes P g w S)(f:∀e b,b.tape=w.tape->S e b->d e b):Comes P g w d:=
  h.then λ_ _ j i=>Comes.stop (f _ _ j i)
theorem Aye (ops:Array MemOp)(B:Nat):∃d,B<=d/\∀op∈ops,op.act.low d:=by
  have q:∀x:MemAct,∃B,x.low B:=by
    intro x;cases x with
    | access e=>
      obtain⟨l,a,b⟩:=e;cases l with
      | cell a=>exact⟨a.block+1,Baa _⟩
      | obj r=>exact⟨r+1,Baa _⟩
      | _=>exact⟨0,trivial⟩
    | mark m=>
      cases m with
      | acquire a | release a | releaseMerge a | read a | write a=>exact⟨a.block+1,Baa _⟩
      | _=>exact⟨0,trivial⟩
    | go _ | start=>exact⟨0,trivial⟩
    | send c _ | sendDone c _ | recv c _ _ | recvDone c _ | close c | recvClosed c=>exact⟨c+1,Baa _⟩
  obtain⟨l⟩:=ops;induction l with
  | nil=>exact⟨B,A88 _,λop h=>by simp at h⟩
  | cons x l s=>
    obtain⟨v,i,n⟩:=s;obtain⟨f,j⟩:=q x.act;refine⟨max v f,A9f i (Bb6 _ _),λop o=>?_⟩;have:op=x\/op∈l:=by simpa using o
    rcases this with rfl | h
    · exact MemAct.low_mono (Bbp _ _) j
    · exact MemAct.low_mono (Bb6 _ _) (n op yBc)
theorem Amk (T:OkP P){Stop:Goroutine->World->Prop}{w:World}(h:Way P Stop g w):Comes P g w Stop:=by
  refine h (λg w=>Comes P g w Stop) (λg w h=>Comes.stop h) ?_;intro g w Q G au b sl t ⟨n,⟨q,f⟩,B,D⟩ _;have main:∀(M:Nat) (b:Array Goroutine) (z:Nat) (sl:Option (Nat × Nat)) (t:Trace) (q:Nat->Nat),sumTo b.size q<=M->b[0]?=some g->Leavers P t b q->(∃B,Past (λ_=>False) B t)->
      ∃N y g' A e t',runNT P N (crowd b (w.at z) sl) t=(.next (crowd y A e),t')/\Frm P y t' g'/\OkG g'/\A.tape=w.tape/\Stop g' A:=by
    intro M;induction M with
    | zero | succ M ih=>
      intro b z sl t q hM n f D;have aj:∀x∈b,awake x:=by
        intro x o;obtain⟨i,hi,rfl⟩:=Array.mem_iff_getElem.1 o;rcases Bbh i with rfl | W
        · have:b[0]=g:=by simpa[Bay hi] using n
          rw[this];exact awake_of (.inl G)
        · exact awake_of ((f.old i _ W (Bay hi)).status.elim .inl λx=>.inr (.inr x))
      have al:=λi x hi o=>(f.old i x hi o).status
      obtain⟨i,x,d,e,hi,o,ag⟩:=crowd_pick (P:=P) (w:=w.at z) (sl:=sl) aj ⟨0,g,n,G⟩;rcases Bbh i with rfl | W
      · obtain rfl:x=g:=by rw[n] at hi;exact(A98 hi).symm
        obtain⟨g',A,X,U,aA,hX⟩:=au d;have aC:A.tape=w.tape:=by
          have:=(Ayg T Q (w.at d)).tape
          rw[U] at this;exact this
        obtain⟨y,H,aa,V,R,an,v,aB⟩:=Anp (sl:=e) T Q n al U aA;obtain⟨B,C⟩:=D;obtain⟨B',ap,av⟩:=Aye H B;have aD:=(Aix T Q G U).1;have aw:Past (λ_=>False) B' (t++H):=(C.mono ap).app0 v (λ_ _ _ _ h=>h.elim) (by rw[aB t C.hears,C.hears]) av;have ak:Leavers P (t++H) y q:=by
          refine⟨λj ae l r=>?_,λj l=>?_⟩
          · rw[Deaf_other t (g':=0) omz _ v]
            exact f.old j ae l (by rw[<-an j l];exact r)
          · rw[Deaf_other t (g':=0) (by have:=(Array.getElem?_eq_some_iff.1 n).1;omega) _ v]
            exact f.above j (by rw[<-V];exact l)
        obtain⟨N,K,J,w2,O,L,ac,Y,Z,I,S⟩:=hX y e (t++H) ⟨R,⟨q,ak⟩,B',aw⟩ aD;refine⟨N+1,K,J,w2,O,L,?_,Y,Z,I.trans aC,S⟩;simp only[runNT,ag];rw[show crowd b ((w.at z).at d) e=crowd b (w.at d) e from rfl,aa];exact ac
      · have E:=f.old i x W hi
        have ao:(i==0)=false:=by simp;omega
        have hlt:=(Array.getElem?_eq_some_iff.1 hi).1;cases ab:q i with
        | zero=>rw[ab] at E;rw[E.1] at o;cases o
        | succ k=>
          rw[ab] at E;rcases E with⟨hf,_⟩ | ⟨_,s,X,hm,ah,ai⟩
          · rw[hf] at o;cases o
          have aa:=runT_crowd_go (P:=P) (sl:=e) (i:=i) hi (by rw[ao];exact ah (w.at d));have V:((b.map (woken P x s (w.at d))).setIfInBounds i s).size=b.size:=spz
          have aE:sumTo b.size (upd q i k)+(k+1)=sumTo b.size q+k:=by
            have:=sumTo_upd q k id hlt
            simpa[ab] using this
          have v:∀op∈MemOp.ofEvents i x.frame.fn x.frame.place X,op.g=i:=λop ay=>by obtain⟨aF,_,rfl⟩:=Go.Conc.mem_ofEvents ay;rfl
          have R:((b.map (woken P x s (w.at d))).setIfInBounds i s)[0]?=some g:=by
            have ax:i≠0:=omz
            rw[Bah ax,Bbr,n];simp[woken_run G]
          have az:Leavers P (t++MemOp.ofEvents i x.frame.fn x.frame.place X) ((b.map (woken P x s (w.at d))).setIfInBounds i s) (upd q i k):=by
            refine⟨λj ae l r=>?_,λj l=>?_⟩
            · by_cases F:i=j
              · subst F
                rw[A9v yCa] at r;obtain rfl:=A98 r;rw[upd_same,Deaf_own];exact ai
              · rw[Bah F,Bbr] at r
                obtain⟨ar,hz,rfl⟩:=Option.map_eq_some_iff.1 r;have af:=f.old j ar l hz;rw[woken_quitsD af,upd_ne q k (Ne.symm F),Deaf_other t F _ v];exact af
            · rw[Deaf_other t (g':=i) (by simp at l;omega) _ v]
              exact f.above j (by simpa using l)
          obtain⟨B,C⟩:=D;first
            | omega
            | (obtain⟨N,K,J,w2,O,L,ac,Y,Z,I,S⟩:=ih _ d e _ (upd q i k) (by rw[V];omega) R az ⟨B,C.mute omz hm⟩
               refine⟨N+1,K,J,w2,O,L,?_,Y,Z,I,S⟩;simp only[runNT,ag];rw[show crowd b ((w.at z).at d) e=crowd b (w.at d) e from rfl,aa]
               exact ac)
  exact main _ b w.drawn sl t q (A88 _) n f ⟨B,D⟩
end
variable {Low:Nat}{P:Program}{a:World}
structure Keep (Low:Nat)(O:Nat->Prop)(w w':World):Prop where
  still:∀b,b<Low->w'.heap[b]?=w.heap[b]?
  mine:∀b,O b->w'.heap[b]?=w.heap[b]?
  size:w.heap.size<=w'.heap.size
  tape:w'.tape=w.tape
  os:w'.os=w.os
  out:w'.output=w.output
theorem Keep.refl (Low:Nat)(O:Nat->Prop)(w:World):Keep Low O w w:=⟨λ_ _=>rfl,λ_ _=>rfl,A88 _,rfl,rfl,rfl⟩
theorem Keep.trans {O:Nat->Prop}{b c:World}(h:Keep Low O a b)(k:Keep Low O b c):Keep Low O a c:=
  ⟨λx d=>(k.still x d).trans (h.still x d),λx d=>(k.mine x d).trans (h.mine x d),A9f h.size k.size,k.tape.trans h.tape,k.os.trans h.os,k.out.trans h.out⟩
theorem Keep.at {O:Nat->Prop}{b:World}(h:Keep Low O a b)(d:Nat):Keep Low O a (b.at d):=⟨h.still,h.mine,h.size,h.tape,h.os,h.out⟩
theorem Keep.sub {O d:Nat->Prop}{b:World}(h:Keep Low O a b)(e:∀x,d x->O x):Keep Low d a b:=⟨h.still,λx f=>h.mine x (e x f),h.size,h.tape,h.os,h.out⟩
def Yd (c:Nat)(w:World):Prop:=∃s r,w.heap[c]?=some (.chan 0 #[] false s r false)
def Ap2 (c:Nat)(w:World):Prop:=∃s r,w.heap[c]?=some (.chan 0 #[] true s r false)
def EvO (Low:Nat)(O:Nat->Prop)(e:Event):Prop:=∃a wr,e=⟨.cell a,wr,false⟩/\(O a.block\/(a.block<Low/\wr=false))
def grown (O:Nat->Prop)(w w':World):Nat->Prop:=λb=>O b\/(w.heap.size<=b/\b<w'.heap.size)
structure Ap3 (Low:Nat)(O:Nat->Prop)(w w':World)(es:Array Event):Prop where
  rest:∀b,b<w.heap.size->¬O b->w'.heap[b]?=w.heap[b]?
  size:w.heap.size<=w'.heap.size
  tape:w'.tape=w.tape
  os:w'.os=w.os
  out:w'.output=w.output
  ev:∀e∈es,EvO Low (grown O w w') e\/e=⟨.mark .noRoom,false,true⟩
structure SC where
  c:Nat
  O:Nat->Prop
  vs:List Value
  g:Goroutine
  w:World
def Zd (P:Program)(Low:Nat)(X:SC->Prop)(x:SC):Prop:=
  x.g.status=.running/\
  ((∀b,Keep Low x.O x.w b->Yd x.c b->∃d e h,stepG P false x.g b=.go d e h/\d.status=.running/\Ap3 Low x.O b e h/\X ⟨x.c,grown x.O b e,x.vs,d,e⟩)\/
   (∃v f,x.vs=v::f/\∀b,Keep Low x.O x.w b->Yd x.c b->(∃z,stepG P false x.g b=.comm x.g #[scase x.c v z] true .send b #[])/\X ⟨x.c,x.O,f,Conc.served x.g undef,b⟩)\/
   (x.vs=[]/\mayWake P x.g=true/\∀b s r,Keep Low x.O x.w b->b.heap[x.c]?=some (.chan 0 #[] false s r false)->∃d n,stepG P false x.g b=.go d (b.shut x.c s r false) #[⟨.obj x.c,false,true⟩,⟨.obj x.c,true,true⟩]/\d.status=.running/\QuitsIn P n d))
theorem Zd.mono {X Y:SC->Prop}(i:∀x,X x->Y x){x:SC}(h:Zd P Low X x):Zd P Low Y x:=by
  refine⟨h.1,?_⟩;rcases h.2 with h | ⟨v,j,e,h⟩ | h
  · exact .inl λf k o=>let ⟨l,n,p,a,b,c,d⟩:=h f k o;⟨l,n,p,a,b,c,i _ d⟩
  · exact .inr (.inl ⟨v,j,e,λf k o=>⟨(h f k o).1,i _ (h f k o).2⟩⟩)
  · exact .inr (.inr h)
def Snd (P:Program)(Low:Nat)(x:SC):Prop:=∀X:SC->Prop,(∀x,Zd P Low X x->X x)->X x
theorem Snd.mk {x:SC}(h:Zd P Low (Snd P Low) x):Snd P Low x:=λX b=>b x (h.mono λ_y d=>d X b)
theorem Snd.inv {x:SC}(h:Snd P Low x):Zd P Low (Snd P Low) x:=
  h (Zd P Low (Snd P Low)) λ_ d=>d.mono λ_ b=>Snd.mk b
def Nx (P:Program)(Low:Nat)(y x:SC):Prop:=∃b,Keep Low x.O x.w b/\Yd x.c b/\
  ((∃f d h,stepG P false x.g b=.go f d h/\Yd x.c d/\y=⟨x.c,grown x.O b d,x.vs,f,d⟩)\/
   (∃v e z,x.vs=v::e/\stepG P false x.g b=.comm x.g #[scase x.c v z] true .send b #[]/\y=⟨x.c,x.O,e,Conc.served x.g undef,b⟩))
theorem Snd.acc {x:SC}(h:Snd P Low x):Acc (Nx P Low) x:=by
  refine h _ λx E=>Acc.intro x λy D=>?_
  obtain⟨f,o,l,j⟩:=D;rcases E.2 with h | ⟨v,J,e,h⟩ | ⟨_,_,h⟩
  · obtain⟨G,M,K,d,_,_,i⟩:=h f o l
    rcases j with⟨B,w,C,b,_,rfl⟩ | ⟨v,J,z,_,b,rfl⟩
    · rw[d] at b;cases b;exact i
    · rw[d] at b;cases b
  · obtain⟨⟨z,d⟩,i⟩:=h f o l
    rcases j with⟨B,w,C,b,_,rfl⟩ | ⟨F,I,H,p,b,rfl⟩
    · rw[d] at b;cases b
    · rw[e] at p;cases p;exact i
  · obtain⟨s,r,q⟩:=l
    obtain⟨G,n,d,_⟩:=h f s r o q;rcases j with⟨B,w,C,b,⟨N,L,A⟩,rfl⟩ | ⟨F,I,H,p,b,rfl⟩
    · rw[d] at b;cases b
      rw[show(f.shut x.c s r false).heap[x.c]?=some (.chan 0 #[] true s r false) from heap_put q] at A;cases A
    · rw[d] at b;cases b
structure RC where
  O:Nat->Prop
  L:List (Nat × List Value × Bool)
  g:Goroutine
  w:World
def Ze (P:Program)(Low:Nat)(Stop:Goroutine->World->Prop)(X:RC->Prop)(x:RC):Prop:=
  x.g.status=.running/\
  (((∀e∈x.L,e.2.2=true)/\∀d,Keep Low x.O x.w d->Stop x.g d)\/
   (∀d,Keep Low x.O x.w d->∃f i l,stepG P true x.g d=.go f i l/\f.status=.running/\Ap3 Low x.O d i l/\X ⟨grown x.O d i,x.L,f,i⟩)\/
   (∃c,x.O c/\∀d,Keep Low x.O x.w d->∃f child h,stepG P true x.g d=.spawn f child d #[]/\f.status=.running/\child.status=.running/\Yd c d/\
      Snd P Low ⟨c,λ_=>False,h,child,d⟩/\X ⟨λb=>x.O b/\b≠c,x.L++[(c,h,false)],f,d⟩)\/
   (∃(j c:Nat) (h:List Value) (z:Value),x.L[j]?=some (c,h,false)/\∀d,Keep Low x.O x.w d->stepG P true x.g d=.comm x.g #[rcase c z] true (.recv true) d #[]/\
      (∀v n,h=v::n->X ⟨x.O,x.L.set j (c,n,false),Conc.served x.g (recvd true v true),d⟩)/\(h=[]->X ⟨x.O,x.L.set j (c,[],true),Conc.served x.g (recvd true z false),d⟩)))
theorem Ze.mono {Stop:Goroutine->World->Prop}{X Y:RC->Prop}(l:∀x,X x->Y x){x:RC}(h:Ze P Low Stop X x):Ze P Low Stop Y x:=by
  refine⟨h.1,?_⟩;rcases h.2 with h | h | ⟨c,p,h⟩ | ⟨j,c,n,z,q,h⟩
  · exact .inl h
  · exact .inr (.inl λi k=>let ⟨o,y,r,a,b,c,d⟩:=h i k;⟨o,y,r,a,b,c,l _ d⟩)
  · exact .inr (.inr (.inl ⟨c,p,λi k=>let ⟨o,A,n,a,b,e,f,s,d⟩:=h i k;⟨o,A,n,a,b,e,f,s,l _ d⟩⟩))
  · exact .inr (.inr (.inr ⟨j,c,n,z,q,λi k=>⟨(h i k).1,λv w e=>l _ ((h i k).2.1 v w e),λe=>l _ ((h i k).2.2 e)⟩⟩))
def Rcv (P:Program)(Low:Nat)(Stop:Goroutine->World->Prop)(x:RC):Prop:=∀X:RC->Prop,(∀x,Ze P Low Stop X x->X x)->X x
theorem Rcv.mk {Stop:Goroutine->World->Prop}{x:RC}(h:Ze P Low Stop (Rcv P Low Stop) x):Rcv P Low Stop x:=λX b=>b x (h.mono λ_y d=>d X b)
theorem Rcv.inv {Stop:Goroutine->World->Prop}{x:RC}(h:Rcv P Low Stop x):Ze P Low Stop (Rcv P Low Stop) x:=
  h (Ze P Low Stop (Rcv P Low Stop)) λ_ d=>d.mono λ_ b=>Rcv.mk b
def RL {α:Type}(r:α->α->Prop)(b l:List α):Prop:=∃(i:Nat) (x y:α),l[i]?=some x/\r y x/\b=l.set i y
theorem RL.acc {α:Type}{r:α->α->Prop}:∀{l:List α},(∀x∈l,Acc r x)->Acc (RL r) l:=by
  intro l;induction l with
  | nil=>exact λ_=>Acc.intro _ λf ⟨i,x,y,h,_⟩=>by simp at h
  | cons a l d=>
    intro h;have e:=h a Bau;have o:=d λx n=>h x (A87 _ n)
    clear h d;induction e generalizing l with
    | intro a _ j=>
      induction o with
      | intro l p q=>
        refine Acc.intro _ ?_;rintro f ⟨i,x,y,hi,b,rfl⟩;cases i with
        | zero=>
          simp at hi;subst hi;exact j y b l (Acc.intro l p)
        | succ i=>
          simp at hi;exact q (l.set i y) ⟨i,x,y,hi,b,rfl⟩
def A70 (P:Program)(Low:Nat):SC ⊕ Nat->SC ⊕ Nat->Prop
  | .inl y, .inl x=>Nx P Low y x
  | .inr _, .inl _=>True
  | .inr m, .inr n=>m<n
  | .inl _, .inr _=>False
theorem Vs (P:Program)(Low:Nat)(n:Nat):Acc (A70 P Low) (.inr n):=by
  induction n using Nat.strongRecOn with
  | ind n d=>
    refine Acc.intro _ λy b=>?_
    cases y with
    | inl y=>exact b.elim
    | inr m=>exact d m b
theorem Apd {x:SC}(h:Acc (Nx P Low) x):Acc (A70 P Low) (.inl x):=by
  induction h with
  | intro x _ b=>
    refine Acc.intro _ λy d=>?_
    cases y with
    | inl y=>exact b y d
    | inr m=>exact Vs P Low m
def Cl (Low:Nat)(ow:Nat->Nat->Prop)(g:Nat)(a:Touch):Prop:=
 (∃ad wr,a=⟨.cell ad,wr, .plain⟩/\(ow g ad.block\/(ad.block<Low/\wr=false)))\/∃c wr,a=⟨.obj c,wr, .atomic⟩
structure Tr (Low n0 m:Nat)(t₀ t:Trace)(ow:Nat->Nat->Prop):Prop where
 le:t₀.size<=t.size
 clean:∀said,¬Race said t
 kn0:∀i op a,t[i]?=some op->op.act.touch?=some a->a.loc.isMemory=true->(i<t₀.size\/op.g=0)->Knows t 0 i
 knS:∀j,j<m->∀i op a,t[i]?=some op->op.act.touch?=some a->a.loc.isMemory=true->i<t₀.size->Knows t (n0+j) i
 cls:∀i op a,t₀.size<=i->t[i]?=some op->op.act.touch?=some a->a.loc.isMemory=true->Cl Low ow op.g a
 who:∀i op a,t₀.size<=i->t[i]?=some op->op.act.touch?=some a->a.loc.isMemory=true->op.g=0\/∃j,j<m/\op.g=n0+j
 hears:Deaf t 0=0
 hearS:∀k,n0<=k->Deaf t k=0
structure Ow (Low:Nat)(ow:Nat->Nat->Prop)(size:Nat):Prop where
 apart:∀k l b,ow k b->ow l b->k=l
 low:∀k b,ow k b->Low<=b
 up:∀k b,ow k b->b<size
section
variable {a:Touch}{c g k size:Nat}{u:Trace}
variable {Low n0 m : Nat}{t₀ t : Trace}{ow yX : Nat -> Nat -> Prop}
theorem Cl.mono (h:Cl Low ow g a)(d:∀k b,ow k b->yX k b):Cl Low yX g a:=
 h.imp (λ⟨ad,wr,e,k⟩=>⟨ad,wr,e,k.imp (d _ _) id⟩) id
theorem Tr.wider (h:Tr Low n0 m t₀ t ow)(e:∀k b,ow k b->yX k b):Tr Low n0 m t₀ t yX:=
 ⟨h.le,h.clean,h.kn0,h.knS,λi op a hi d j f=>(h.cls i op a hi d j f).mono e,h.who,h.hears,h.hearS⟩
theorem Aoe {said:Bool}{g':Nat}(j:Ow Low ow size)(o:g≠g'){b:Touch}(e:Cl Low ow g a)(d:Cl Low ow g' b):¬a.conflicts said b:=by
 rintro⟨i,_,n,p⟩;rcases e with⟨ad,wr,rfl,e⟩ | ⟨c,wr,rfl⟩
 ·rcases d with⟨l,f,rfl,d⟩ | ⟨q,f,rfl⟩
  ·cases i
   rcases e with e | ⟨e,rfl⟩
   ·rcases d with d | ⟨d,rfl⟩
    ·exact o (j.apart _ _ _ e d)
    ·exact Nat.not_lt.2 (j.low _ _ e) d
   ·rcases d with d | ⟨d,rfl⟩
    ·exact Nat.not_lt.2 (j.low _ _ d) e
    ·rcases n with h | h<;>cases h
  ·cases i
 ·rcases d with⟨l,f,rfl,d⟩ | ⟨q,f,rfl⟩
  ·cases i
  ·rcases p with h | h | ⟨_,h,_⟩<;>cases h
theorem Tr.app (h:Tr Low n0 m t₀ t ow)(I:Ow Low ow size)(hg:g=0\/∃j,j<m/\g=n0+j)(hu:∀op∈u,op.g=g)
  (D:∀op∈u,∀a,op.act.touch?=some a->a.loc.isMemory=true->Cl Low ow g a) (hd:∀t:Trace,Deaf (t++u) g=Deaf t g):Tr Low n0 m t₀ (t++u) ow:=by
 have C:∀k,Deaf (t++u) k=Deaf t k:=by
  intro k;by_cases s:g=k
  ·subst s;exact hd t
  ·exact Deaf_other t s u hu
 refine⟨by rw[Array.size_append];have:=h.le;omega,λsaid=>?_,λi op a hi f B l=>?_,λj y i op a hi f B o=>?_,λi op a hi z r v=>?_,λi op a hi z r v=>?_,by rw[C];exact h.hears,λk s=>by rw[C];exact h.hearS k s⟩
 ·refine noRace_append (h.clean said) hu λi a f op H b G w=>?_
  obtain⟨x,p,A⟩:=touch_of f;have q:=w.2.1;have F:=w.1 ▸ q;rcases Ba3 i t₀.size with o | n
  ·rcases hg with rfl | ⟨j,y,rfl⟩
   ·exact h.kn0 i x a p A q (.inl o)
   ·exact h.knS j y i x a p A q o
  ·by_cases E:x.g=g
   ·have:=knows_own p
    rwa [E] at this
   ·exact absurd w (Aoe I E (h.cls i x a n p A q) (D op H b G F))
 ·rcases getElem?_append_cases hi with⟨_,d⟩ | ⟨n,e⟩
  ·exact(h.kn0 i op a d f B l).app u
  ·rcases l with l | l
   ·have:=h.le;omega
   ·have:=knows_own hi
    rwa [l] at this
 ·rcases getElem?_append_cases hi with⟨_,d⟩ | ⟨n,e⟩
  ·exact(h.knS j y i op a d f B o).app u
  ·have:=h.le;omega
 ·rcases getElem?_append_cases z with⟨_,d⟩ | ⟨n,e⟩
  ·exact h.cls i op a hi d r v
  ·rw[hu op e];exact D op e a r v
 ·rcases getElem?_append_cases z with⟨_,d⟩ | ⟨n,e⟩
  ·exact h.who i op a hi d r v
  ·rw[hu op e];exact hg
theorem Tr.one (h:Tr Low n0 m t₀ t ow){y:MemOp}(x:y.act.touch?=none)(hd:(y.g=0\/n0<=y.g)->y.act≠.mark .disable/\y.act≠.mark .enable):Tr Low n0 m t₀ (t++#[y]) ow:=by
 have n:∀i op a,(t++#[y])[i]?=some op->op.act.touch?=some a->i<t.size/\t[i]?=some op:=by
  intro i op a hi d;rcases getElem?_append_cases hi with⟨p,A⟩ | ⟨E,C⟩
  ·exact⟨p,A⟩
  ·have:op=y:=by simpa using C
   subst this;rw[x] at d;cases d
 have w:∀k,(k=0\/n0<=k)->Deaf (t++#[y]) k=Deaf t k:=by
  intro k o;by_cases v:y.g=k
  ·rw[Deaf_push]
   unfold deafStep;have:=hd (by rw[v];exact o)
   split
   ·rename_i e;exact absurd e this.1
   ·rename_i e;exact absurd e this.2
   ·rfl
  ·exact Deaf_other t v _ (λop f=>by have:op=y:=(by simpa using f);rw[this])
 refine⟨by rw[Array.size_append];have:=h.le;omega,λsaid=>?_,λi op a hi d s B=>(h.kn0 i op a (n i op a hi d).2 d s B).app _,λj D i op a hi d s p=>(h.knS j D i op a (n i op a hi d).2 d s p).app _,
  λi op a hi q l r=>h.cls i op a hi (n i op a q l).2 l r,λi op a hi q l r=>h.who i op a hi (n i op a q l).2 l r,by rw[w 0 (.inl rfl)];exact h.hears,λk o=>by rw[w k (.inr o)];exact h.hearS k o⟩
 refine noRace_append (g:=y.g) (h.clean said) (λop f=>by have:op=y:=(by simpa using f);rw[this]) λi a d op f b z=>?_
 have:op=y:=by simpa using f
 rw[this,x] at z;cases z
theorem Tr.silent (h:Tr Low n0 m t₀ t ow)(hu:∀op∈u,op.act.touch?=none/\((op.g=0\/n0<=op.g)->op.act≠.mark .disable/\op.act≠.mark .enable)):Tr Low n0 m t₀ (t++u) ow:=by
 obtain⟨l⟩:=u;induction l generalizing t with
 | nil=>simpa using h
 | cons y l d=>
  have e:t++(y::l).toArray=(t++#[y])++l.toArray:=spz
  rw[e];have b:=hu y spz;exact d (h.one b.1 b.2) λop hop=>hu op yEc
theorem Tr.spawn (h:Tr Low n0 m t₀ t ow)(fn f:FuncId)(pos d:String):Tr Low n0 (m+1) t₀ (t++#[{g:=0,fn,pos,act:=.go (n0+m)},{g:=n0+m,fn:=f,pos:=d,act:=.start}]) ow:=by
 have e:t++#[({g:=0,fn,pos,act:=.go (n0+m)}:MemOp),{g:=n0+m,fn:=f,pos:=d,act:=.start}]=(t++#[({g:=0,fn,pos,act:=.go (n0+m)}:MemOp)])++#[({g:=n0+m,fn:=f,pos:=d,act:=.start}:MemOp)]:=by rw[Array.append_assoc];rfl
 have b:Tr Low n0 m t₀ (t++#[{g:=0,fn,pos,act:=.go (n0+m)},{g:=n0+m,fn:=f,pos:=d,act:=.start}]) ow:=by
  rw[e];exact(h.one rfl (λ_=>⟨spz,spz⟩)).one rfl (λ_=>⟨spz,spz⟩)
 refine⟨b.le,b.clean,b.kn0,λj y i op a hi o r q=>?_,b.cls,λi op a hi D E v=>(b.who i op a hi D E v).imp id λ⟨j,y,e⟩=>⟨j,omz,e⟩,b.hears,b.hearS⟩;rcases Ba3 j m with s | s
 ·exact b.knS j s i op a hi o r q
 ·obtain rfl:j=m:=by omega
  have F:=h.le;have B:t[i]?=some op:=by rw[getElem?_append_old omz] at hi;exact hi
  have C:=h.kn0 i op a B o r (.inl q);generalize hu:(#[({g:=0,fn,pos,act:=.go (n0+j)}:MemOp),{g:=n0+j,fn:=f,pos:=d,act:=.start}]:Trace)=u at*;have n:(t++u)[t.size]?=some {g:=0,fn,pos,act:=.go (n0+j)}:=by subst hu;rw[Bbv (A88 _)];simp
  have l:(t++u)[t.size+1]?=some {g:=n0+j,fn:=f,pos:=d,act:=.start}:=by subst hu;rw[Bbv omz];simp
  have A:(t++u).deaf 0 t.size=0:=by rw[deaf_old (A88 _)];exact h.hears
  have w:(t++u).deaf (n0+j) (t.size+1)=0:=by
   rw[deaf_succ n,deaf_old (A88 _)];exact h.hearS (n0+j) omz
  have x:=C.hb_new (u:=u) (A88 _) n rfl;have z:HappensBefore (t++u) t.size (t.size+1):=.single (.inr ⟨.spawn (child:=n0+j) (by rw[act?_of n]) (by rw[act?_of l]) (by simp[Trace.g?,l]),⟨0,by simp[Trace.g?,n],A⟩,⟨n0+j,by simp[Trace.g?,l],w⟩⟩);exact⟨t.size+1,_,l,rfl, .inr (x.trans z)⟩
def Vy (t:Trace)(k c:Nat):Prop:=∃d op,t[d]?=some op/\op.g=k/\op.act=.close c/\t.heard d/\∀i b a,t[i]?=some b->b.g=k->b.act.touch?=some a->i<d
theorem Vy.app (h:Vy t k c)(hu:∀op∈u,op.g=k->op.act.touch?=none):Vy (t++u) k c:=by
 obtain⟨p,op,j,l,s,n,r⟩:=h;have f:=lt_size_of_getElem? j;refine⟨p,op,by rw[getElem?_append_old f];exact j,l,s,(heard_old f).2 n,λi e a hi d b=>?_⟩;rcases getElem?_append_cases hi with⟨_,o⟩ | ⟨_,q⟩
 ·exact r i e a o d b
 ·rw[hu e q d] at b;cases b
def Zg (t:Trace)(k:Nat):Prop:=∀i op a,t[i]?=some op->op.g=k->op.act.touch?=some a->Knows t 0 i
theorem Zg.app (h:Zg t k)(hu:∀op∈u,op.g=k->op.act.touch?=none):Zg (t++u) k:=by
 intro i op a hi d b;rcases getElem?_append_cases hi with⟨_,e⟩ | ⟨_,f⟩
 ·exact(h i op a e d b).app u
 ·rw[hu op f d] at b;cases b
theorem Vy.known (h:Vy t k c)(hears:Deaf t 0=0)(fn:FuncId)(pos:String):Zg (t++#[{g:=0,fn,pos,act:=.recvClosed c}]) k:=by
 obtain⟨n,op,o,w,z,p,x⟩:=h;have f:=lt_size_of_getElem? o;generalize hu:(#[({g:=0,fn,pos,act:=.recvClosed c}:MemOp)]:Trace)=u;have b:(t++u)[t.size]?=some {g:=0,fn,pos,act:=.recvClosed c}:=by subst hu;simp
 have v:(t++u).deaf 0 t.size=0:=by rw[deaf_old (A88 _)];exact hears
 have j:(t++u)[n]?=some op:=by rw[getElem?_append_old f];exact o
 have r:HappensBefore (t++u) n t.size:=.single (.inr ⟨.closed (c:=c) (by rw[act?_of j,z]) (by rw[act?_of b]),(heard_old f).2 p,⟨0,by simp[Trace.g?,b],v⟩⟩);intro i l a hi d e;rcases getElem?_append_cases hi with⟨_,q⟩ | ⟨_,s⟩
 ·have y:=x i l a q d e
  exact⟨t.size,_,b,rfl, .inr ((hb_po y hi j (d.trans w.symm)).trans r)⟩
 ·subst hu
  have:l={g:=0,fn,pos,act:=.recvClosed c}:=by simpa using s
  subst this;cases e
theorem Tr.close (h:Tr Low n0 m t₀ t ow)(s:Ow Low ow size)(l:∃j,j<m/\k=n0+j)(fn:FuncId)(pos:String):
  Tr Low n0 m t₀ (t++MemOp.ofEvents k fn pos #[⟨.obj c,false,true⟩,⟨.obj c,true,true⟩]) ow/\Vy (t++MemOp.ofEvents k fn pos #[⟨.obj c,false,true⟩,⟨.obj c,true,true⟩]) k c:=by
 have e:MemOp.ofEvents k fn pos #[⟨.obj c,false,true⟩,⟨.obj c,true,true⟩]=#[{g:=k,fn,pos,act:=.access ⟨.obj c,false,true⟩},{g:=k,fn,pos,act:=.close c}]:=by
  rw[ofEvents_eq];simp[MemAct.ofEvent]
 have hd:∀t:Trace,Deaf (t++MemOp.ofEvents k fn pos #[⟨.obj c,false,true⟩,⟨.obj c,true,true⟩]) k=Deaf t k:=λt=>by rw[Deaf_own];rfl
 have r:n0<=k:=by obtain⟨j,_,rfl⟩:=l;omega
 refine⟨h.app s (.inr l) (λop d=>by obtain⟨e,_,rfl⟩:=Go.Conc.mem_ofEvents d;rfl) (λop d a b _=>?_) hd,?_⟩
 ·rw[e] at d
  have:op={g:=k,fn,pos,act:=.access ⟨.obj c,false,true⟩}\/op={g:=k,fn,pos,act:=.close c}:=by simpa using d
  rcases this with rfl | rfl
  ·simp[MemAct.touch?] at b;subst b;exact .inr ⟨c,false,rfl⟩
  ·cases b
 ·rw[e]
  generalize hu:(#[({g:=k,fn,pos,act:=.access ⟨.obj c,false,true⟩}:MemOp),{g:=k,fn,pos,act:=.close c}]:Trace)=u;have q:(t++u)[t.size]?=some {g:=k,fn,pos,act:=.access ⟨.obj c,false,true⟩}:=by subst hu;rw[Bbv (A88 _)];simp
  have f:(t++u)[t.size+1]?=some {g:=k,fn,pos,act:=.close c}:=by subst hu;rw[Bbv omz];simp
  have o:(t++u).deaf k (t.size+1)=0:=by rw[deaf_succ q,deaf_old (A88 _)];exact h.hearS k r
  refine⟨t.size+1,_,f,rfl,rfl,⟨k,by simp[Trace.g?,f],o⟩,λi x a hi v b=>?_⟩;have y:(t++u).size=t.size+2:=by subst hu;simp
  have:=lt_size_of_getElem? hi
  rcases Ba3 i (t.size+1) with n | w
  ·exact n
  ·obtain rfl:i=t.size+1:=by omega
   rw[f] at hi;cases hi;cases b
theorem Tr.past (h:Tr Low n0 m t₀ t ow)(F:∀j,j<m->Zg t (n0+j)):∃B,Past (λ_=>False) B t:=by
 have p:∀i op a,t[i]?=some op->op.act.touch?=some a->a.loc.isMemory=true->Knows t 0 i:=by
  intro i op a hi d b;rcases Ba3 i t₀.size with w | C
  ·exact h.kn0 i op a hi d b (.inl w)
  ·rcases h.who i op a C hi d b with y | ⟨j,E,f⟩
   ·exact h.kn0 i op a hi d b (.inr y)
   ·exact F j E i op a hi f d
 obtain⟨B,_,G⟩:=Aye t 0;refine⟨B,h.clean,λi a d b=>?_,λi g f s v=>?_,h.hears,G⟩
 ·obtain⟨op,e,n⟩:=touch_of d
  exact .inl (p i op a e n b)
 ·obtain⟨x,A,b,_⟩:=v
  obtain⟨op,e,n⟩:=touch_of A;obtain⟨q,z,o,r,l⟩:=p i op x e n b;have D:op.g=g:=by simpa[Trace.g?,e] using f
  rcases l with rfl | l
  ·rw[e] at o;cases o;exact absurd (D.symm.trans r) s
  ·exact⟨q,by simp[Trace.g?,o,r],l⟩
theorem Tr.begin {P:Program}{gs:Array Goroutine}{q:Nat->Nat}{B:Nat}(b:Past (λ_=>False) B t)(f:Leavers P t gs q):Tr Low gs.size 0 t t ow:=by
 refine⟨A88 _,b.clean,λi op a hi e l _=>?_,λj n=>by omega,λi op a hi d=>?_,λi op a hi d=>?_,b.hears,f.above⟩
 ·rcases b.known i a (by rw[touchAt_of hi];exact e) l with h | h
  ·exact h
  ·exact h.1.elim
 ·have:=lt_size_of_getElem? d;omega
 ·have:=lt_size_of_getElem? d;omega
end
end Go.Co
