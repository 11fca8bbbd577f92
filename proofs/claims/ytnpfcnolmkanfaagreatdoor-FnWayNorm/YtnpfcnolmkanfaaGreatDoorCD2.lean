import Derived.Test.YtnpfcnolmkanfaaGreatDoorCC8
import Derived.Conc.CrowdComm
namespace Go.Co
open Go.Conc
open Go.ConcN (sumTo upd sumTo_upd upd_ne upd_same)
section
variable {g:Goroutine}
variable {P : Program}
def Frm (P:Program)(gs:Array Goroutine)(t:Trace)(g:Goroutine):Prop:=gs[0]?=some g/\(∃q,Leavers P t gs q)/\∃B,Past (λ_=>False) B t
def Comes (P:Program)(g:Goroutine)(w:World)(Stop:Goroutine->World->Prop):Prop:=
  ∀f sl t,Frm P f t g->OkG g->∃N h d b i e,runNT P N (crowd f w sl) t=(.next (crowd h b i),e)/\Frm P h e d/\OkG d/\b.tape=w.tape/\Stop d b
theorem Comes.stop {w:World}{Stop:Goroutine->World->Prop}(h:Stop g w):Comes P g w Stop:=
  λd sl t hF b=>⟨0,d,g,w,sl,t,rfl,hF,b,rfl,h⟩
theorem Comes.then {w:World}{S e:Goroutine->World->Prop}(h:Comes P g w S)(B:∀d b,b.tape=w.tape->S d b->Comes P d b e):Comes P g w e:=by
  intro z sl t hF G;obtain⟨N,j,p,I,i,D,s,q,F,f,r⟩:=h z sl t hF G;obtain⟨K,E,H,l,C,n,o,v,y,x,A⟩:=B p I f r j i D q F;exact⟨N+K,E,H,l,C,n,by rw[runNT_add,s];exact o,v,y,x.trans f,A⟩
theorem Comes.mono {w:World}{S e:Goroutine->World->Prop}(h:Comes P g w S)(i:∀d b,b.tape=w.tape->S d b->e d b):Comes P g w e:=
  h.then λ_ _ f j=>Comes.stop (i _ _ f j)
theorem Awo (ops:Array MemOp)(B:Nat):∃d,B<=d/\∀op∈ops,op.act.low d:=by
  have o:∀x:MemAct,∃B,x.low B:=by
    intro x;cases x with
    | access e=>
      obtain⟨l,a,b⟩:=e;cases l with
      | cell a=>exact⟨a.block+1,A69 _⟩
      | obj r=>exact⟨r+1,A69 _⟩
      | _=>exact⟨0,trivial⟩
    | mark m=>
      cases m with
      | acquire a | release a | releaseMerge a | read a | write a=>exact⟨a.block+1,A69 _⟩
      | _=>exact⟨0,trivial⟩
    | go _ | start=>exact⟨0,trivial⟩
    | send c _ | sendDone c _ | recv c _ _ | recvDone c _ | close c | recvClosed c=>exact⟨c+1,A69 _⟩
  obtain⟨l⟩:=ops;induction l with
  | nil=>exact⟨B,A57 _,λop h=>by simp at h⟩
  | cons x l q=>
    obtain⟨j,i,v⟩:=q;obtain⟨s,f⟩:=o x.act;refine⟨max j s,A6e i (A83 _ _),λop n=>?_⟩;have:op=x\/op∈l:=by simpa using n
    rcases this with rfl | h
    · exact MemAct.low_mono (A8m _ _) f
    · exact MemAct.low_mono (A83 _ _) (v op yBi)
theorem Alm (W:OkP P){Stop:Goroutine->World->Prop}{w:World}(h:Way P Stop g w):Comes P g w Stop:=by
  refine h (λg w=>Comes P g w Stop) (λg w h=>Comes.stop h) ?_;intro g w T E ah b sl t ⟨o,⟨q,l⟩,B,D⟩ _;have main:∀(M:Nat) (b:Array Goroutine) (y:Nat) (sl:Option (Nat × Nat)) (t:Trace) (q:Nat->Nat),sumTo b.size q<=M->b[0]?=some g->Leavers P t b q->(∃B,Past (λ_=>False) B t)->
      ∃N C g' A e t',runNT P N (crowd b (w.at y) sl) t=(.next (crowd C A e),t')/\Frm P C t' g'/\OkG g'/\A.tape=w.tape/\Stop g' A:=by
    intro M;induction M with
    | zero | succ M ih=>
      intro b y sl t q hM o l D;have aw:∀x∈b,awake x:=by
        intro x n;obtain⟨i,hi,rfl⟩:=Array.mem_iff_getElem.1 n;rcases A8e i with rfl | K
        · have:b[0]=g:=by simpa[A7v hi] using o
          rw[this];exact awake_of (.inl E)
        · exact awake_of ((l.old i _ K (A7v hi)).status.elim .inl λx=>.inr (.inr x))
      have ax:=λi x hi n=>(l.old i x hi n).status
      obtain⟨i,x,d,e,hi,n,af⟩:=crowd_pick (P:=P) (w:=w.at y) (sl:=sl) aw ⟨0,g,o,E⟩;rcases A8e i with rfl | K
      · obtain rfl:x=g:=by rw[o] at hi;exact(A67 hi).symm
        obtain⟨g',A,es,U,an,hX⟩:=ah d;have au:A.tape=w.tape:=by
          have:=(Awq W T (w.at d)).tape
          rw[U] at this;exact this
        obtain⟨C,F,aa,I,ac,az,v,ay⟩:=Amy (sl:=e) W T o ax U an;obtain⟨B,z⟩:=D;obtain⟨B',aB,aC⟩:=Awo F B;have ar:=(Ah9 W T E U).1;have aD:Past (λ_=>False) B' (t++F):=(z.mono aB).app0 v (λ_ _ _ _ h=>h.elim) (by rw[ay t z.hears,z.hears]) aC;have aj:Leavers P (t++F) C q:=by
          refine⟨λj ag f s=>?_,λj f=>?_⟩
          · rw[Deaf_other t (g':=0) omz _ v]
            exact l.old j ag f (by rw[<-az j f];exact s)
          · rw[Deaf_other t (g':=0) (by have:=(Array.getElem?_eq_some_iff.1 o).1;omega) _ v]
            exact l.above j (by rw[<-I];exact f)
        obtain⟨N,ab,Z,R,Q,J,S,V,L,X,Y⟩:=hX C e (t++F) ⟨ac,⟨q,aj⟩,B',aD⟩ ar;refine⟨N+1,ab,Z,R,Q,J,?_,V,L,X.trans au,Y⟩;simp only[runNT,af];rw[show crowd b ((w.at y).at d) e=crowd b (w.at d) e from rfl,aa];exact S
      · have H:=l.old i x K hi
        have al:(i==0)=false:=by simp;omega
        have hlt:=(Array.getElem?_eq_some_iff.1 hi).1;cases O:q i with
        | zero=>rw[O] at H;rw[H.1] at n;cases n
        | succ k=>
          rw[O] at H;rcases H with⟨hf,_⟩ | ⟨_,r,es,hm,aA,ao⟩
          · rw[hf] at n;cases n
          have aa:=runT_crowd_go (P:=P) (sl:=e) (i:=i) hi (by rw[al];exact aA (w.at d));have I:((b.map (woken P x r (w.at d))).setIfInBounds i r).size=b.size:=spz
          have aE:sumTo b.size (upd q i k)+(k+1)=sumTo b.size q+k:=by
            have:=sumTo_upd q k id hlt
            simpa[O] using this
          have v:∀op∈MemOp.ofEvents i x.frame.fn x.frame.place es,op.g=i:=λop ak=>by obtain⟨aF,_,rfl⟩:=Go.Conc.mem_ofEvents ak;rfl
          have ac:((b.map (woken P x r (w.at d))).setIfInBounds i r)[0]?=some g:=by
            have av:i≠0:=omz
            rw[A7g av,A8o,o];simp[woken_run E]
          have ap:Leavers P (t++MemOp.ofEvents i x.frame.fn x.frame.place es) ((b.map (woken P x r (w.at d))).setIfInBounds i r) (upd q i k):=by
            refine⟨λj ag f s=>?_,λj f=>?_⟩
            · by_cases G:i=j
              · subst G
                rw[A6u yBh] at s;obtain rfl:=A67 s;rw[upd_same,Deaf_own];exact ao
              · rw[A7g G,A8o] at s
                obtain⟨ai,hz,rfl⟩:=Option.map_eq_some_iff.1 s;have ae:=l.old j ai f hz;rw[woken_quitsD ae,upd_ne q k (Ne.symm G),Deaf_other t G _ v];exact ae
            · rw[Deaf_other t (g':=i) (by simp at f;omega) _ v]
              exact l.above j (by simpa using f)
          obtain⟨B,z⟩:=D;first
            | omega
            | (obtain⟨N,ab,Z,R,Q,J,S,V,L,X,Y⟩:=ih _ d e _ (upd q i k) (by rw[I];omega) ac ap ⟨B,z.mute omz hm⟩
               refine⟨N+1,ab,Z,R,Q,J,?_,V,L,X,Y⟩;simp only[runNT,af];rw[show crowd b ((w.at y).at d) e=crowd b (w.at d) e from rfl,aa]
               exact S)
  exact main _ b w.drawn sl t q (A57 _) o l ⟨B,D⟩
end
variable {Low:Nat}{P:Program}{a:World}
structure Keep (Low:Nat)(O:Nat->Prop)(w w':World):Prop where
  still:∀b,b<Low->w'.heap[b]?=w.heap[b]?
  mine:∀b,O b->w'.heap[b]?=w.heap[b]?
  size:w.heap.size<=w'.heap.size
  tape:w'.tape=w.tape
  os:w'.os=w.os
  out:w'.output=w.output
theorem Keep.refl (Low:Nat)(O:Nat->Prop)(w:World):Keep Low O w w:=⟨λ_ _=>rfl,λ_ _=>rfl,A57 _,rfl,rfl,rfl⟩
theorem Keep.trans {O:Nat->Prop}{b c:World}(h:Keep Low O a b)(k:Keep Low O b c):Keep Low O a c:=
  ⟨λx d=>(k.still x d).trans (h.still x d),λx d=>(k.mine x d).trans (h.mine x d),A6e h.size k.size,k.tape.trans h.tape,k.os.trans h.os,k.out.trans h.out⟩
theorem Keep.at {O:Nat->Prop}{b:World}(h:Keep Low O a b)(d:Nat):Keep Low O a (b.at d):=⟨h.still,h.mine,h.size,h.tape,h.os,h.out⟩
theorem Keep.sub {O d:Nat->Prop}{b:World}(h:Keep Low O a b)(f:∀x,d x->O x):Keep Low d a b:=⟨h.still,λx e=>h.mine x (f x e),h.size,h.tape,h.os,h.out⟩
def Yn (c:Nat)(w:World):Prop:=∃s r,w.heap[c]?=some (.chan 0 #[] false s r false)
def Ao0 (c:Nat)(w:World):Prop:=∃s r,w.heap[c]?=some (.chan 0 #[] true s r false)
def EvO (Low:Nat)(O:Nat->Prop)(e:Event):Prop:=∃a wr,e=⟨.cell a,wr,false⟩/\(O a.block\/(a.block<Low/\wr=false))
def grown (O:Nat->Prop)(w w':World):Nat->Prop:=λb=>O b\/(w.heap.size<=b/\b<w'.heap.size)
structure Ao1 (Low:Nat)(O:Nat->Prop)(w w':World)(es:Array Event):Prop where
  rest:∀b,b<w.heap.size->¬O b->w'.heap[b]?=w.heap[b]?
  size:w.heap.size<=w'.heap.size
  tape:w'.tape=w.tape
  os:w'.os=w.os
  out:w'.output=w.output
  ev:∀e∈es,EvO Low (grown O w w') e\/e=⟨.mark .noRoom,false,true⟩
structure SC where
  c:Nat
  O:Nat->Prop
  vs:List Value
  g:Goroutine
  w:World
def Zr (P:Program)(Low:Nat)(X:SC->Prop)(x:SC):Prop:=
  x.g.status=.running/\
  ((∀b,Keep Low x.O x.w b->Yn x.c b->∃d e f,stepG P false x.g b=.go d e f/\d.status=.running/\Ao1 Low x.O b e f/\X ⟨x.c,grown x.O b e,x.vs,d,e⟩)\/
   (∃v h,x.vs=v::h/\∀b,Keep Low x.O x.w b->Yn x.c b->(∃z,stepG P false x.g b=.comm x.g #[scase x.c v z] true .send b #[])/\X ⟨x.c,x.O,h,Conc.served x.g undef,b⟩)\/
   (x.vs=[]/\mayWake P x.g=true/\∀b s r,Keep Low x.O x.w b->b.heap[x.c]?=some (.chan 0 #[] false s r false)->∃d n,stepG P false x.g b=.go d (b.shut x.c s r false) #[⟨.obj x.c,false,true⟩,⟨.obj x.c,true,true⟩]/\d.status=.running/\QuitsIn P n d))
theorem Zr.mono {X Y:SC->Prop}(i:∀x,X x->Y x){x:SC}(h:Zr P Low X x):Zr P Low Y x:=by
  refine⟨h.1,?_⟩;rcases h.2 with h | ⟨v,l,e,h⟩ | h
  · exact .inl λf k o=>let ⟨n,j,p,a,b,c,d⟩:=h f k o;⟨n,j,p,a,b,c,i _ d⟩
  · exact .inr (.inl ⟨v,l,e,λf k o=>⟨(h f k o).1,i _ (h f k o).2⟩⟩)
  · exact .inr (.inr h)
def Snd (P:Program)(Low:Nat)(x:SC):Prop:=∀X:SC->Prop,(∀x,Zr P Low X x->X x)->X x
theorem Snd.mk {x:SC}(h:Zr P Low (Snd P Low) x):Snd P Low x:=λX b=>b x (h.mono λ_y d=>d X b)
theorem Snd.inv {x:SC}(h:Snd P Low x):Zr P Low (Snd P Low) x:=
  h (Zr P Low (Snd P Low)) λ_ d=>d.mono λ_ b=>Snd.mk b
def Nx (P:Program)(Low:Nat)(y x:SC):Prop:=∃b,Keep Low x.O x.w b/\Yn x.c b/\
  ((∃f d h,stepG P false x.g b=.go f d h/\Yn x.c d/\y=⟨x.c,grown x.O b d,x.vs,f,d⟩)\/
   (∃v e z,x.vs=v::e/\stepG P false x.g b=.comm x.g #[scase x.c v z] true .send b #[]/\y=⟨x.c,x.O,e,Conc.served x.g undef,b⟩))
theorem Snd.acc {x:SC}(h:Snd P Low x):Acc (Nx P Low) x:=by
  refine h _ λx D=>Acc.intro x λy G=>?_
  obtain⟨f,i,o,j⟩:=G;rcases D.2 with h | ⟨v,F,e,h⟩ | ⟨_,_,h⟩
  · obtain⟨H,L,N,d,_,_,p⟩:=h f i o
    rcases j with⟨A,q,B,b,_,rfl⟩ | ⟨v,F,z,_,b,rfl⟩
    · rw[d] at b;cases b;exact p
    · rw[d] at b;cases b
  · obtain⟨⟨z,d⟩,p⟩:=h f i o
    rcases j with⟨A,q,B,b,_,rfl⟩ | ⟨I,E,J,l,b,rfl⟩
    · rw[d] at b;cases b
    · rw[e] at l;cases l;exact p
  · obtain⟨s,r,w⟩:=o
    obtain⟨H,n,d,_⟩:=h f s r i w;rcases j with⟨A,q,B,b,⟨K,M,C⟩,rfl⟩ | ⟨I,E,J,l,b,rfl⟩
    · rw[d] at b;cases b
      rw[show(f.shut x.c s r false).heap[x.c]?=some (.chan 0 #[] true s r false) from heap_put w] at C;cases C
    · rw[d] at b;cases b
structure RC where
  O:Nat->Prop
  L:List (Nat × List Value × Bool)
  g:Goroutine
  w:World
def Zt (P:Program)(Low:Nat)(Stop:Goroutine->World->Prop)(X:RC->Prop)(x:RC):Prop:=
  x.g.status=.running/\
  (((∀e∈x.L,e.2.2=true)/\∀d,Keep Low x.O x.w d->Stop x.g d)\/
   (∀d,Keep Low x.O x.w d->∃f i n,stepG P true x.g d=.go f i n/\f.status=.running/\Ao1 Low x.O d i n/\X ⟨grown x.O d i,x.L,f,i⟩)\/
   (∃c,x.O c/\∀d,Keep Low x.O x.w d->∃f child h,stepG P true x.g d=.spawn f child d #[]/\f.status=.running/\child.status=.running/\Yn c d/\
      Snd P Low ⟨c,λ_=>False,h,child,d⟩/\X ⟨λb=>x.O b/\b≠c,x.L++[(c,h,false)],f,d⟩)\/
   (∃(j c:Nat) (h:List Value) (z:Value),x.L[j]?=some (c,h,false)/\∀d,Keep Low x.O x.w d->stepG P true x.g d=.comm x.g #[rcase c z] true (.recv true) d #[]/\
      (∀v l,h=v::l->X ⟨x.O,x.L.set j (c,l,false),Conc.served x.g (recvd true v true),d⟩)/\(h=[]->X ⟨x.O,x.L.set j (c,[],true),Conc.served x.g (recvd true z false),d⟩)))
theorem Zt.mono {Stop:Goroutine->World->Prop}{X Y:RC->Prop}(l:∀x,X x->Y x){x:RC}(h:Zt P Low Stop X x):Zt P Low Stop Y x:=by
  refine⟨h.1,?_⟩;rcases h.2 with h | h | ⟨c,y,h⟩ | ⟨j,c,o,z,r,h⟩
  · exact .inl h
  · exact .inr (.inl λi k=>let ⟨n,w,A,a,b,c,d⟩:=h i k;⟨n,w,A,a,b,c,l _ d⟩)
  · exact .inr (.inr (.inl ⟨c,y,λi k=>let ⟨n,q,o,a,b,e,f,s,d⟩:=h i k;⟨n,q,o,a,b,e,f,s,l _ d⟩⟩))
  · exact .inr (.inr (.inr ⟨j,c,o,z,r,λi k=>⟨(h i k).1,λv p e=>l _ ((h i k).2.1 v p e),λe=>l _ ((h i k).2.2 e)⟩⟩))
def Rcv (P:Program)(Low:Nat)(Stop:Goroutine->World->Prop)(x:RC):Prop:=∀X:RC->Prop,(∀x,Zt P Low Stop X x->X x)->X x
theorem Rcv.mk {Stop:Goroutine->World->Prop}{x:RC}(h:Zt P Low Stop (Rcv P Low Stop) x):Rcv P Low Stop x:=λX b=>b x (h.mono λ_y d=>d X b)
theorem Rcv.inv {Stop:Goroutine->World->Prop}{x:RC}(h:Rcv P Low Stop x):Zt P Low Stop (Rcv P Low Stop) x:=
  h (Zt P Low Stop (Rcv P Low Stop)) λ_ d=>d.mono λ_ b=>Rcv.mk b
def RL {α:Type}(r:α->α->Prop)(b l:List α):Prop:=∃(i:Nat) (x y:α),l[i]?=some x/\r y x/\b=l.set i y
theorem RL.acc {α:Type}{r:α->α->Prop}:∀{l:List α},(∀x∈l,Acc r x)->Acc (RL r) l:=by
  intro l;induction l with
  | nil=>exact λ_=>Acc.intro _ λp ⟨i,x,y,h,_⟩=>by simp at h
  | cons a l d=>
    intro h;have f:=h a A7r;have o:=d λx e=>h x (A56 _ e)
    clear h d;induction f generalizing l with
    | intro a _ j=>
      induction o with
      | intro l q n=>
        refine Acc.intro _ ?_;rintro p ⟨i,x,y,hi,b,rfl⟩;cases i with
        | zero=>
          simp at hi;subst hi;exact j y b l (Acc.intro l q)
        | succ i=>
          simp at hi;exact n (l.set i y) ⟨i,x,y,hi,b,rfl⟩
def A5d (P:Program)(Low:Nat):SC ⊕ Nat->SC ⊕ Nat->Prop
  | .inl y, .inl x=>Nx P Low y x
  | .inr _, .inl _=>True
  | .inr m, .inr n=>m<n
  | .inl _, .inr _=>False
theorem Vj (P:Program)(Low:Nat)(n:Nat):Acc (A5d P Low) (.inr n):=by
  induction n using Nat.strongRecOn with
  | ind n d=>
    refine Acc.intro _ λy b=>?_
    cases y with
    | inl y=>exact b.elim
    | inr m=>exact d m b
theorem Aog {x:SC}(h:Acc (Nx P Low) x):Acc (A5d P Low) (.inl x):=by
  induction h with
  | intro x _ b=>
    refine Acc.intro _ λy d=>?_
    cases y with
    | inl y=>exact b y d
    | inr m=>exact Vj P Low m
def Cl (Low:Nat)(ow:Nat->Nat->Prop)(g:Nat)(a:Touch):Prop:=
 (∃ad wr,a=⟨.cell ad,wr, .plain⟩/\(ow g ad.block\/(ad.block<Low/\wr=false)))\/∃c wr,a=⟨.obj c,wr, .atomic⟩
structure Tr (Low n0 m:Nat)(t₀ t:Trace)(ow:Nat->Nat->Prop):Prop where
 le:t₀.size<=t.size
 clean:∀said,¬Race said t
 kn0:∀i op a,t[i]?=some op->op.act.touch?=some a->a.loc.isMemory=true->(i<t₀.size\/op.g=0)->Knows t 0 i
 knS:∀j,j<m->∀i op a,t[i]?=some op->op.act.touch?=some a->a.loc.isMemory=true->i<t₀.size->Knows t (n0+j) i
 cls:∀i op a,t₀.size<=i->t[i]?=some op->op.act.touch?=some a->a.loc.isMemory=true->Cl Low ow op.g a
 who:∀i op a,t₀.size<=i->t[i]?=some op->op.act.touch?=some a->a.loc.isMemory=true->op.g=0\/∃j,j<m/\op.g=n0+j
 hears:Deaf t 0=0
 hearS:∀k,n0<=k->Deaf t k=0
structure Ow (Low:Nat)(ow:Nat->Nat->Prop)(size:Nat):Prop where
 apart:∀k l b,ow k b->ow l b->k=l
 low:∀k b,ow k b->Low<=b
 up:∀k b,ow k b->b<size
section
variable {a:Touch}{c g k size:Nat}{u:Trace}
variable {Low n0 m : Nat}{t₀ t : Trace}{ow gy : Nat -> Nat -> Prop}
theorem Cl.mono (h:Cl Low ow g a)(d:∀k b,ow k b->gy k b):Cl Low gy g a:=
 h.imp (λ⟨ad,wr,e,k⟩=>⟨ad,wr,e,k.imp (d _ _) id⟩) id
theorem Tr.wider (h:Tr Low n0 m t₀ t ow)(d:∀k b,ow k b->gy k b):Tr Low n0 m t₀ t gy:=
 ⟨h.le,h.clean,h.kn0,h.knS,λi op a hi e j f=>(h.cls i op a hi e j f).mono d,h.who,h.hears,h.hearS⟩
theorem Ano {said:Bool}{g':Nat}(j:Ow Low ow size)(o:g≠g'){b:Touch}(e:Cl Low ow g a)(d:Cl Low ow g' b):¬a.conflicts said b:=by
 rintro⟨i,_,q,p⟩;rcases e with⟨ad,wr,rfl,e⟩ | ⟨c,wr,rfl⟩
 ·rcases d with⟨n,f,rfl,d⟩ | ⟨l,f,rfl⟩
  ·cases i
   rcases e with e | ⟨e,rfl⟩
   ·rcases d with d | ⟨d,rfl⟩
    ·exact o (j.apart _ _ _ e d)
    ·exact Nat.not_lt.2 (j.low _ _ e) d
   ·rcases d with d | ⟨d,rfl⟩
    ·exact Nat.not_lt.2 (j.low _ _ d) e
    ·rcases q with h | h<;>cases h
  ·cases i
 ·rcases d with⟨n,f,rfl,d⟩ | ⟨l,f,rfl⟩
  ·cases i
  ·rcases p with h | h | ⟨_,h,_⟩<;>cases h
theorem Tr.app (h:Tr Low n0 m t₀ t ow)(I:Ow Low ow size)(hg:g=0\/∃j,j<m/\g=n0+j)(hu:∀op∈u,op.g=g)
  (D:∀op∈u,∀a,op.act.touch?=some a->a.loc.isMemory=true->Cl Low ow g a) (hd:∀t:Trace,Deaf (t++u) g=Deaf t g):Tr Low n0 m t₀ (t++u) ow:=by
 have E:∀k,Deaf (t++u) k=Deaf t k:=by
  intro k;by_cases p:g=k
  ·subst p;exact hd t
  ·exact Deaf_other t p u hu
 refine⟨by rw[Array.size_append];have:=h.le;omega,λsaid=>?_,λi op a hi f B n=>?_,λj A i op a hi f B q=>?_,λi op a hi z v s=>?_,λi op a hi z v s=>?_,by rw[E];exact h.hears,λk p=>by rw[E];exact h.hearS k p⟩
 ·refine noRace_append (h.clean said) hu λi a f op H b G w=>?_
  obtain⟨x,o,y⟩:=touch_of f;have r:=w.2.1;have F:=w.1 ▸ r;rcases A70 i t₀.size with q | l
  ·rcases hg with rfl | ⟨j,A,rfl⟩
   ·exact h.kn0 i x a o y r (.inl q)
   ·exact h.knS j A i x a o y r q
  ·by_cases C:x.g=g
   ·have:=knows_own o
    rwa [C] at this
   ·exact absurd w (Ano I C (h.cls i x a l o y r) (D op H b G F))
 ·rcases getElem?_append_cases hi with⟨_,d⟩ | ⟨l,e⟩
  ·exact(h.kn0 i op a d f B n).app u
  ·rcases n with n | n
   ·have:=h.le;omega
   ·have:=knows_own hi
    rwa [n] at this
 ·rcases getElem?_append_cases hi with⟨_,d⟩ | ⟨l,e⟩
  ·exact(h.knS j A i op a d f B q).app u
  ·have:=h.le;omega
 ·rcases getElem?_append_cases z with⟨_,d⟩ | ⟨l,e⟩
  ·exact h.cls i op a hi d v s
  ·rw[hu op e];exact D op e a v s
 ·rcases getElem?_append_cases z with⟨_,d⟩ | ⟨l,e⟩
  ·exact h.who i op a hi d v s
  ·rw[hu op e];exact hg
theorem Tr.one (h:Tr Low n0 m t₀ t ow){y:MemOp}(v:y.act.touch?=none)(hd:(y.g=0\/n0<=y.g)->y.act≠.mark .disable/\y.act≠.mark .enable):Tr Low n0 m t₀ (t++#[y]) ow:=by
 have n:∀i op a,(t++#[y])[i]?=some op->op.act.touch?=some a->i<t.size/\t[i]?=some op:=by
  intro i op a hi d;rcases getElem?_append_cases hi with⟨p,A⟩ | ⟨E,C⟩
  ·exact⟨p,A⟩
  ·have:op=y:=by simpa using C
   subst this;rw[v] at d;cases d
 have z:∀k,(k=0\/n0<=k)->Deaf (t++#[y]) k=Deaf t k:=by
  intro k o;by_cases x:y.g=k
  ·rw[Deaf_push]
   unfold deafStep;have:=hd (by rw[x];exact o)
   split
   ·rename_i e;exact absurd e this.1
   ·rename_i e;exact absurd e this.2
   ·rfl
  ·exact Deaf_other t x _ (λop f=>by have:op=y:=(by simpa using f);rw[this])
 refine⟨by rw[Array.size_append];have:=h.le;omega,λsaid=>?_,λi op a hi d s B=>(h.kn0 i op a (n i op a hi d).2 d s B).app _,λj D i op a hi d s p=>(h.knS j D i op a (n i op a hi d).2 d s p).app _,
  λi op a hi q l r=>h.cls i op a hi (n i op a q l).2 l r,λi op a hi q l r=>h.who i op a hi (n i op a q l).2 l r,by rw[z 0 (.inl rfl)];exact h.hears,λk o=>by rw[z k (.inr o)];exact h.hearS k o⟩
 refine noRace_append (g:=y.g) (h.clean said) (λop f=>by have:op=y:=(by simpa using f);rw[this]) λi a d op f b w=>?_
 have:op=y:=by simpa using f
 rw[this,v] at w;cases w
theorem Tr.silent (h:Tr Low n0 m t₀ t ow)(hu:∀op∈u,op.act.touch?=none/\((op.g=0\/n0<=op.g)->op.act≠.mark .disable/\op.act≠.mark .enable)):Tr Low n0 m t₀ (t++u) ow:=by
 obtain⟨l⟩:=u;induction l generalizing t with
 | nil=>simpa using h
 | cons y l d=>
  have e:t++(y::l).toArray=(t++#[y])++l.toArray:=spz
  rw[e];have b:=hu y spz;exact d (h.one b.1 b.2) λop hop=>hu op yEf
theorem Tr.spawn (h:Tr Low n0 m t₀ t ow)(fn f:FuncId)(pos d:String):Tr Low n0 (m+1) t₀ (t++#[{g:=0,fn,pos,act:=.go (n0+m)},{g:=n0+m,fn:=f,pos:=d,act:=.start}]) ow:=by
 have e:t++#[({g:=0,fn,pos,act:=.go (n0+m)}:MemOp),{g:=n0+m,fn:=f,pos:=d,act:=.start}]=(t++#[({g:=0,fn,pos,act:=.go (n0+m)}:MemOp)])++#[({g:=n0+m,fn:=f,pos:=d,act:=.start}:MemOp)]:=by rw[Array.append_assoc];rfl
 have b:Tr Low n0 m t₀ (t++#[{g:=0,fn,pos,act:=.go (n0+m)},{g:=n0+m,fn:=f,pos:=d,act:=.start}]) ow:=by
  rw[e];exact(h.one rfl (λ_=>⟨spz,spz⟩)).one rfl (λ_=>⟨spz,spz⟩)
 refine⟨b.le,b.clean,b.kn0,λj B i op a hi o s r=>?_,b.cls,λi op a hi y D C=>(b.who i op a hi y D C).imp id λ⟨j,B,e⟩=>⟨j,omz,e⟩,b.hears,b.hearS⟩;rcases A70 j m with q | q
 ·exact b.knS j q i op a hi o s r
 ·obtain rfl:j=m:=by omega
  have F:=h.le;have E:t[i]?=some op:=by rw[getElem?_append_old omz] at hi;exact hi
  have v:=h.kn0 i op a E o s (.inl r);generalize hu:(#[({g:=0,fn,pos,act:=.go (n0+j)}:MemOp),{g:=n0+j,fn:=f,pos:=d,act:=.start}]:Trace)=u at*;have n:(t++u)[t.size]?=some {g:=0,fn,pos,act:=.go (n0+j)}:=by subst hu;rw[A8s (A57 _)];simp
  have l:(t++u)[t.size+1]?=some {g:=n0+j,fn:=f,pos:=d,act:=.start}:=by subst hu;rw[A8s omz];simp
  have w:(t++u).deaf 0 t.size=0:=by rw[deaf_old (A57 _)];exact h.hears
  have z:(t++u).deaf (n0+j) (t.size+1)=0:=by
   rw[deaf_succ n,deaf_old (A57 _)];exact h.hearS (n0+j) omz
  have A:=v.hb_new (u:=u) (A57 _) n rfl;have x:HappensBefore (t++u) t.size (t.size+1):=.single (.inr ⟨.spawn (child:=n0+j) (by rw[act?_of n]) (by rw[act?_of l]) (by simp[Trace.g?,l]),⟨0,by simp[Trace.g?,n],w⟩,⟨n0+j,by simp[Trace.g?,l],z⟩⟩);exact⟨t.size+1,_,l,rfl, .inr (A.trans x)⟩
def Vr (t:Trace)(k c:Nat):Prop:=∃d op,t[d]?=some op/\op.g=k/\op.act=.close c/\t.heard d/\∀i b a,t[i]?=some b->b.g=k->b.act.touch?=some a->i<d
theorem Vr.app (h:Vr t k c)(hu:∀op∈u,op.g=k->op.act.touch?=none):Vr (t++u) k c:=by
 obtain⟨p,op,d,s,q,o,l⟩:=h;have j:=lt_size_of_getElem? d;refine⟨p,op,by rw[getElem?_append_old j];exact d,s,q,(heard_old j).2 o,λi e a hi f b=>?_⟩;rcases getElem?_append_cases hi with⟨_,n⟩ | ⟨_,r⟩
 ·exact l i e a n f b
 ·rw[hu e r f] at b;cases b
def Zw (t:Trace)(k:Nat):Prop:=∀i op a,t[i]?=some op->op.g=k->op.act.touch?=some a->Knows t 0 i
theorem Zw.app (h:Zw t k)(hu:∀op∈u,op.g=k->op.act.touch?=none):Zw (t++u) k:=by
 intro i op a hi d b;rcases getElem?_append_cases hi with⟨_,e⟩ | ⟨_,f⟩
 ·exact(h i op a e d b).app u
 ·rw[hu op f d] at b;cases b
theorem Vr.known (h:Vr t k c)(hears:Deaf t 0=0)(fn:FuncId)(pos:String):Zw (t++#[{g:=0,fn,pos,act:=.recvClosed c}]) k:=by
 obtain⟨n,op,f,z,y,x,v⟩:=h;have e:=lt_size_of_getElem? f;generalize hu:(#[({g:=0,fn,pos,act:=.recvClosed c}:MemOp)]:Trace)=u;have b:(t++u)[t.size]?=some {g:=0,fn,pos,act:=.recvClosed c}:=by subst hu;simp
 have s:(t++u).deaf 0 t.size=0:=by rw[deaf_old (A57 _)];exact hears
 have o:(t++u)[n]?=some op:=by rw[getElem?_append_old e];exact f
 have p:HappensBefore (t++u) n t.size:=.single (.inr ⟨.closed (c:=c) (by rw[act?_of o,y]) (by rw[act?_of b]),(heard_old e).2 x,⟨0,by simp[Trace.g?,b],s⟩⟩);intro i j a hi l d;rcases getElem?_append_cases hi with⟨_,q⟩ | ⟨_,r⟩
 ·have w:=v i j a q l d
  exact⟨t.size,_,b,rfl, .inr ((hb_po w hi o (l.trans z.symm)).trans p)⟩
 ·subst hu
  have:j={g:=0,fn,pos,act:=.recvClosed c}:=by simpa using r
  subst this;cases d
theorem Tr.close (h:Tr Low n0 m t₀ t ow)(q:Ow Low ow size)(l:∃j,j<m/\k=n0+j)(fn:FuncId)(pos:String):
  Tr Low n0 m t₀ (t++MemOp.ofEvents k fn pos #[⟨.obj c,false,true⟩,⟨.obj c,true,true⟩]) ow/\Vr (t++MemOp.ofEvents k fn pos #[⟨.obj c,false,true⟩,⟨.obj c,true,true⟩]) k c:=by
 have e:MemOp.ofEvents k fn pos #[⟨.obj c,false,true⟩,⟨.obj c,true,true⟩]=#[{g:=k,fn,pos,act:=.access ⟨.obj c,false,true⟩},{g:=k,fn,pos,act:=.close c}]:=by
  rw[ofEvents_eq];simp[MemAct.ofEvent]
 have hd:∀t:Trace,Deaf (t++MemOp.ofEvents k fn pos #[⟨.obj c,false,true⟩,⟨.obj c,true,true⟩]) k=Deaf t k:=λt=>by rw[Deaf_own];rfl
 have r:n0<=k:=by obtain⟨j,_,rfl⟩:=l;omega
 refine⟨h.app q (.inr l) (λop d=>by obtain⟨e,_,rfl⟩:=Go.Conc.mem_ofEvents d;rfl) (λop d a b _=>?_) hd,?_⟩
 ·rw[e] at d
  have:op={g:=k,fn,pos,act:=.access ⟨.obj c,false,true⟩}\/op={g:=k,fn,pos,act:=.close c}:=by simpa using d
  rcases this with rfl | rfl
  ·simp[MemAct.touch?] at b;subst b;exact .inr ⟨c,false,rfl⟩
  ·cases b
 ·rw[e]
  generalize hu:(#[({g:=k,fn,pos,act:=.access ⟨.obj c,false,true⟩}:MemOp),{g:=k,fn,pos,act:=.close c}]:Trace)=u;have s:(t++u)[t.size]?=some {g:=k,fn,pos,act:=.access ⟨.obj c,false,true⟩}:=by subst hu;rw[A8s (A57 _)];simp
  have f:(t++u)[t.size+1]?=some {g:=k,fn,pos,act:=.close c}:=by subst hu;rw[A8s omz];simp
  have o:(t++u).deaf k (t.size+1)=0:=by rw[deaf_succ s,deaf_old (A57 _)];exact h.hearS k r
  refine⟨t.size+1,_,f,rfl,rfl,⟨k,by simp[Trace.g?,f],o⟩,λi x a hi y b=>?_⟩;have v:(t++u).size=t.size+2:=by subst hu;simp
  have:=lt_size_of_getElem? hi
  rcases A70 i (t.size+1) with n | w
  ·exact n
  ·obtain rfl:i=t.size+1:=by omega
   rw[f] at hi;cases hi;cases b
theorem Tr.past (h:Tr Low n0 m t₀ t ow)(y:∀j,j<m->Zw t (n0+j)):∃B,Past (λ_=>False) B t:=by
 have p:∀i op a,t[i]?=some op->op.act.touch?=some a->a.loc.isMemory=true->Knows t 0 i:=by
  intro i op a hi d b;rcases A70 i t₀.size with A | C
  ·exact h.kn0 i op a hi d b (.inl A)
  ·rcases h.who i op a C hi d b with v | ⟨j,F,n⟩
   ·exact h.kn0 i op a hi d b (.inr v)
   ·exact y j F i op a hi n d
 obtain⟨B,_,G⟩:=Awo t 0;refine⟨B,h.clean,λi a d b=>?_,λi g n w E=>?_,h.hears,G⟩
 ·obtain⟨op,e,o⟩:=touch_of d
  exact .inl (p i op a e o b)
 ·obtain⟨x,s,b,_⟩:=E
  obtain⟨op,e,o⟩:=touch_of s;obtain⟨q,z,f,r,l⟩:=p i op x e o b;have D:op.g=g:=by simpa[Trace.g?,e] using n
  rcases l with rfl | l
  ·rw[e] at f;cases f;exact absurd (D.symm.trans r) w
  ·exact⟨q,by simp[Trace.g?,f,r],l⟩
theorem Tr.begin {P:Program}{gs:Array Goroutine}{q:Nat->Nat}{B:Nat}(d:Past (λ_=>False) B t)(f:Leavers P t gs q):Tr Low gs.size 0 t t ow:=by
 refine⟨A57 _,d.clean,λi op a hi l e _=>?_,λj n=>by omega,λi op a hi b=>?_,λi op a hi b=>?_,d.hears,f.above⟩
 ·rcases d.known i a (by rw[touchAt_of hi];exact l) e with h | h
  ·exact h
  ·exact h.1.elim
 ·have:=lt_size_of_getElem? b;omega
 ·have:=lt_size_of_getElem? b;omega
end
end Go.Co
