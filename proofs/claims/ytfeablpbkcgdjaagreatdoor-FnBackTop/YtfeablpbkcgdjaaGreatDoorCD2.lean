import Derived.Test.YtfeablpbkcgdjaaGreatDoorCC8
import Derived.Conc.CrowdComm
namespace Go.Co
open Go.Conc
open Go.ConcN (sumTo upd sumTo_upd upd_ne upd_same)
section
variable {g:Goroutine}
variable {P : Program}
def K3 (P:Program)(gs:Array Goroutine)(t:Trace)(g:Goroutine):Prop:=gs[0]?=some g/\(∃q,Leavers P t gs q)/\∃B,Past (λ_=>False) B t
def Comes (P:Program)(g:Goroutine)(w:World)(Stop:Goroutine->World->Prop):Prop:=
  ∀f sl t,K3 P f t g->OkG g->∃N e b d i h,runNT P N (crowd f w sl) t=(.next (crowd e d i),h)/\K3 P e h b/\OkG b/\d.tape=w.tape/\Stop b d
theorem Comes.stop {w:World}{Stop:Goroutine->World->Prop}(h:Stop g w):Comes P g w Stop:=
  λb sl t hF d=>⟨0,b,g,w,sl,t,rfl,hF,d,rfl,h⟩
theorem Comes.then {w:World}{S f:Goroutine->World->Prop}(h:Comes P g w S)(n:∀e b,b.tape=w.tape->S e b->Comes P e b f):Comes P g w f:=by
  intro C sl t hF G;obtain⟨N,E,l,A,z,o,x,r,q,d,p⟩:=h C sl t hF G;obtain⟨K,i,v,B,H,s,j,D,F,y,I⟩:=n l A d p E z o r q;exact⟨N+K,i,v,B,H,s,by rw[runNT_add,x];exact j,D,F,y.trans d,I⟩
theorem Comes.mono {w:World}{S e:Goroutine->World->Prop}(h:Comes P g w S)(f:∀d b,b.tape=w.tape->S d b->e d b):Comes P g w e:=
  h.then λ_ _ i j=>Comes.stop (f _ _ i j)
abbrev Comes.mo:=@Comes.mono
theorem XT (ops:Array MemOp)(B:Nat):∃d,B<=d/\∀op∈ops,op.act.low d:=by
  have o:∀x:MemAct,∃B,x.low B:=by
    intro x;cases x with
    | access e=>
      obtain⟨l,a,b⟩:=e;cases l with
      | cell a=>exact⟨a.block+1,DN _⟩
      | obj r=>exact⟨r+1,DN _⟩
      | _=>exact⟨0,trivial⟩
    | mark m=>
      cases m with
      | acquire a | release a | releaseMerge a | read a | write a=>exact⟨a.block+1,DN _⟩
      | _=>exact⟨0,trivial⟩
    | go _ | start=>exact⟨0,trivial⟩
    | send c _ | sendDone c _ | recv c _ _ | recvDone c _ | close c | recvClosed c=>exact⟨c+1,DN _⟩
  obtain⟨l⟩:=ops;induction l with
  | nil=>exact⟨B,B7 _,λop h=>by simp at h⟩
  | cons x l v=>
    obtain⟨j,f,s⟩:=v;obtain⟨q,i⟩:=o x.act;refine⟨max j q,CB f (J2 _ _),λop n=>?_⟩;have:op=x\/op∈l:=by simpa using n
    rcases this with rfl | h
    . exact MemAct.low_mono (LJ _ _) i
    . exact MemAct.low_mono (J2 _ _) (s op Br)
theorem kt (S:OkP P){Stop:Goroutine->World->Prop}{w:World}(h:Way P Stop g w):Comes P g w Stop:=by
  refine h (λg w=>Comes P g w Stop) (λg w h=>Comes.stop h) ?_;intro g w hg F ao b sl t ⟨o,⟨q,f⟩,B,E⟩ _;have main:∀(M:Nat) (b:Array Goroutine) (A:Nat) (sl:Option (Nat × Nat)) (t:Trace) (q:Nat->Nat),sumTo b.size q<=M->b[0]?=some g->Leavers P t b q->(∃B,Past (λ_=>False) B t)->
      ∃N y g' C e t',runNT P N (crowd b (w.at A) sl) t=(.next (crowd y C e),t')/\K3 P y t' g'/\OkG g'/\C.tape=w.tape/\Stop g' C:=by
    intro M;induction M with
    | zero | succ M ih=>
      intro b A sl t q hM o f E;have az:∀x∈b,awake x:=by
        intro x n;obtain⟨i,hi,rfl⟩:=Array.mem_iff_getElem.1 n;rcases JB i with rfl | O
        . have:b[0]=g:=by simpa[Hv hi] using o
          rw[this];exact awake_of (.inl F)
        . exact awake_of ((f.old i _ O (Hv hi)).status.elim .inl λx=>.inr (.inr x))
      have ay:=λi x hi n=>(f.old i x hi n).status
      obtain⟨i,x,d,e,hi,n,ae⟩:=crowd_pick (P:=P) (w:=w.at A) (sl:=sl) az ⟨0,g,o,F⟩;rcases JB i with rfl | O
      . obtain rfl:x=g:=by rw[o] at hi;exact(DT hi).symm
        obtain⟨g',C,I,Z,af,hX⟩:=ao d;have aj:C.tape=w.tape:=by
          have:=(XU S hg (w.at d)).tape
          rw[Z] at this;exact this
        obtain⟨y,D,L,U,J,aw,s,an⟩:=ly (sl:=e) S hg o ay Z af;obtain⟨B,z⟩:=E;obtain⟨B',ax,av⟩:=XT D B;have aB:=(OD S hg F Z).1;have ar:Past (λ_=>False) B' (t++D):=(z.mono ax).app0 s (λ_ _ _ _ h=>h.elim) (by rw[an t z.hears,z.hears]) av;have ap:Leavers P (t++D) y q:=by
          refine⟨λj ac l r=>?_,λj l=>?_⟩
          . rw[Deaf_other t (g':=0) AU _ s]
            exact f.old j ac l (by rw[<-aw j l];exact r)
          . rw[Deaf_other t (g':=0) (by have:=(Array.getElem?_eq_some_iff.1 o).1;omega) _ s]
            exact f.above j (by rw[<-U];exact l)
        obtain⟨N,W,X,w2,R,Y,K,aa,ab,T,Q⟩:=hX y e (t++D) ⟨J,⟨q,ap⟩,B',ar⟩ aB;refine⟨N+1,W,X,w2,R,Y,?_,aa,ab,T.trans aj,Q⟩;simp only[runNT,ae];rw[show crowd b ((w.at A).at d) e=crowd b (w.at d) e from rfl,L];exact K
      . have G:=f.old i x O hi
        have al:(i==0)=false:=by simp;omega
        have hlt:=(Array.getElem?_eq_some_iff.1 hi).1;cases V:q i with
        | zero=>rw[V] at G;rw[G.1] at n;cases n
        | succ k=>
          rw[V] at G;rcases G with⟨hf,_⟩ | ⟨_,v,I,hm,ai,ah⟩
          . rw[hf] at n;cases n
          have L:=runT_crowd_go (P:=P) (sl:=e) (i:=i) hi (by rw[al];exact ai (w.at d));have U:((b.map (woken P x v (w.at d))).setIfInBounds i v).size=b.size:=AW
          have aD:sumTo b.size (upd q i k)+(k+1)=sumTo b.size q+k:=by
            have:=sumTo_upd q k id hlt
            simpa[V] using this
          have s:∀op∈MemOp.ofEvents i x.frame.fn x.frame.place I,op.g=i:=λop aA=>by obtain⟨aC,_,rfl⟩:=Go.Conc.mem_ofEvents aA;rfl
          have J:((b.map (woken P x v (w.at d))).setIfInBounds i v)[0]?=some g:=by
            have ag:i≠0:=AU
            rw[GZ ag,JZ,o];simp[woken_run F]
          have ak:Leavers P (t++MemOp.ofEvents i x.frame.fn x.frame.place I) ((b.map (woken P x v (w.at d))).setIfInBounds i v) (upd q i k):=by
            refine⟨λj ac l r=>?_,λj l=>?_⟩
            . by_cases H:i=j
              . subst H
                rw[FB BU] at r;obtain rfl:=DT r;rw[upd_same,Deaf_own];exact ah
              . rw[GZ H,JZ] at r
                obtain⟨au,hz,rfl⟩:=Option.map_eq_some_iff.1 r;have ad:=f.old j au l hz;rw[woken_quitsD ad,upd_ne q k (Ne.symm H),Deaf_other t H _ s];exact ad
            . rw[Deaf_other t (g':=i) (by simp at l;omega) _ s]
              exact f.above j (by simpa using l)
          obtain⟨B,z⟩:=E;first
            | omega
            | (obtain⟨N,W,X,w2,R,Y,K,aa,ab,T,Q⟩:=ih _ d e _ (upd q i k) (by rw[U];omega) J ak ⟨B,z.mute AU hm⟩
               refine⟨N+1,W,X,w2,R,Y,?_,aa,ab,T,Q⟩;simp only[runNT,ae];rw[show crowd b ((w.at A).at d) e=crowd b (w.at d) e from rfl,L]
               exact K)
  exact main _ b w.drawn sl t q (B7 _) o f ⟨B,E⟩
end
variable {Low:Nat}{P:Program}{a:World}
structure Keep (Low:Nat)(O:Nat->Prop)(w w':World):Prop where
  still:∀b,b<Low->w'.heap[b]?=w.heap[b]?
  mine:∀b,O b->w'.heap[b]?=w.heap[b]?
  size:w.heap.size<=w'.heap.size
  tape:w'.tape=w.tape
  os:w'.os=w.os
  out:w'.output=w.output
theorem Keep.refl (Low:Nat)(O:Nat->Prop)(w:World):Keep Low O w w:=⟨λ_ _=>rfl,λ_ _=>rfl,B7 _,rfl,rfl,rfl⟩
theorem Keep.trans {O:Nat->Prop}{b c:World}(h:Keep Low O a b)(k:Keep Low O b c):Keep Low O a c:=
  ⟨λx d=>(k.still x d).trans (h.still x d),λx d=>(k.mine x d).trans (h.mine x d),CB h.size k.size,k.tape.trans h.tape,k.os.trans h.os,k.out.trans h.out⟩
abbrev Keep.tr:=@Keep.trans
theorem Keep.at {O:Nat->Prop}{b:World}(h:Keep Low O a b)(d:Nat):Keep Low O a (b.at d):=⟨h.still,h.mine,h.size,h.tape,h.os,h.out⟩
theorem Keep.sub {O d:Nat->Prop}{b:World}(h:Keep Low O a b)(f:∀x,d x->O x):Keep Low d a b:=⟨h.still,λx e=>h.mine x (f x e),h.size,h.tape,h.os,h.out⟩
def X9 (c:Nat)(w:World):Prop:=∃s r,w.heap[c]?=some (.chan 0 #[] false s r false)
def Ix (c:Nat)(w:World):Prop:=∃s r,w.heap[c]?=some (.chan 0 #[] true s r false)
def EvO (Low:Nat)(O:Nat->Prop)(e:Event):Prop:=∃a wr,e=⟨.cell a,wr,false⟩/\(O a.block\/(a.block<Low/\wr=false))
def grown (O:Nat->Prop)(w w':World):Nat->Prop:=λb=>O b\/(w.heap.size<=b/\b<w'.heap.size)
structure EX (Low:Nat)(O:Nat->Prop)(w w':World)(es:Array Event):Prop where
  rest:∀b,b<w.heap.size->¬O b->w'.heap[b]?=w.heap[b]?
  size:w.heap.size<=w'.heap.size
  tape:w'.tape=w.tape
  os:w'.os=w.os
  out:w'.output=w.output
  ev:∀e∈es,EvO Low (grown O w w') e\/e=⟨.mark .noRoom,false,true⟩
structure SC where
  c:Nat
  O:Nat->Prop
  vs:List Value
  g:Goroutine
  w:World
def Y9 (P:Program)(Low:Nat)(X:SC->Prop)(x:SC):Prop:=
  x.g.status=.running/\
  ((∀b,Keep Low x.O x.w b->X9 x.c b->∃d e f,stepG P false x.g b=.go d e f/\d.status=.running/\EX Low x.O b e f/\X ⟨x.c,grown x.O b e,x.vs,d,e⟩)\/
   (∃v h,x.vs=v::h/\∀b,Keep Low x.O x.w b->X9 x.c b->(∃z,stepG P false x.g b=.comm x.g #[scase x.c v z] true .send b #[])/\X ⟨x.c,x.O,h,Conc.served x.g undef,b⟩)\/
   (x.vs=[]/\mayWake P x.g=true/\∀b s r,Keep Low x.O x.w b->b.heap[x.c]?=some (.chan 0 #[] false s r false)->∃d n,stepG P false x.g b=.go d (b.shut x.c s r false) #[⟨.obj x.c,false,true⟩,⟨.obj x.c,true,true⟩]/\d.status=.running/\QuitsIn P n d))
theorem Y9.mono {X Y:SC->Prop}(i:∀x,X x->Y x){x:SC}(h:Y9 P Low X x):Y9 P Low Y x:=by
  refine⟨h.1,?_⟩;rcases h.2 with h | ⟨v,l,e,h⟩ | h
  . exact .inl λf k o=>let ⟨n,p,j,a,b,c,d⟩:=h f k o;⟨n,p,j,a,b,c,i _ d⟩
  . exact .inr (.inl ⟨v,l,e,λf k o=>⟨(h f k o).1,i _ (h f k o).2⟩⟩)
  . exact .inr (.inr h)
abbrev Y9.mo:=@Y9.mono
def D2 (P:Program)(Low:Nat)(x:SC):Prop:=∀X:SC->Prop,(∀x,Y9 P Low X x->X x)->X x
theorem D2.mk {x:SC}(h:Y9 P Low (D2 P Low) x):D2 P Low x:=λX b=>b x (h.mono λ_y d=>d X b)
theorem D2.inv {x:SC}(h:D2 P Low x):Y9 P Low (D2 P Low) x:=
  h (Y9 P Low (D2 P Low)) λ_ d=>d.mono λ_ b=>D2.mk b
def Nx (P:Program)(Low:Nat)(y x:SC):Prop:=∃b,Keep Low x.O x.w b/\X9 x.c b/\
  ((∃e d h,stepG P false x.g b=.go e d h/\X9 x.c d/\y=⟨x.c,grown x.O b d,x.vs,e,d⟩)\/
   (∃v f z,x.vs=v::f/\stepG P false x.g b=.comm x.g #[scase x.c v z] true .send b #[]/\y=⟨x.c,x.O,f,Conc.served x.g undef,b⟩))
theorem D2.acc {x:SC}(h:D2 P Low x):Acc (Nx P Low) x:=by
  refine h _ λx F=>Acc.intro x λy E=>?_
  obtain⟨f,l,j,o⟩:=E;rcases F.2 with h | ⟨v,D,e,h⟩ | ⟨_,_,h⟩
  . obtain⟨H,M,K,d,_,_,i⟩:=h f l j
    rcases o with⟨w,A,C,b,_,rfl⟩ | ⟨v,D,z,_,b,rfl⟩
    . rw[d] at b;cases b;exact i
    . rw[d] at b;cases b
  . obtain⟨⟨z,d⟩,i⟩:=h f l j
    rcases o with⟨w,A,C,b,_,rfl⟩ | ⟨G,J,I,p,b,rfl⟩
    . rw[d] at b;cases b
    . rw[e] at p;cases p;exact i
  . obtain⟨s,r,B⟩:=j
    obtain⟨H,n,d,_⟩:=h f s r l B;rcases o with⟨w,A,C,b,⟨L,N,q⟩,rfl⟩ | ⟨G,J,I,p,b,rfl⟩
    . rw[d] at b;cases b
      rw[show(f.shut x.c s r false).heap[x.c]?=some (.chan 0 #[] true s r false) from heap_put B] at q;cases q
    . rw[d] at b;cases b
structure RC where
  O:Nat->Prop
  L:List (Nat × List Value × Bool)
  g:Goroutine
  w:World
def Za (P:Program)(Low:Nat)(Stop:Goroutine->World->Prop)(X:RC->Prop)(x:RC):Prop:=
  x.g.status=.running/\
  (((∀e∈x.L,e.2.2=true)/\∀d,Keep Low x.O x.w d->Stop x.g d)\/
   (∀d,Keep Low x.O x.w d->∃f i l,stepG P true x.g d=.go f i l/\f.status=.running/\EX Low x.O d i l/\X ⟨grown x.O d i,x.L,f,i⟩)\/
   (∃c,x.O c/\∀d,Keep Low x.O x.w d->∃f child h,stepG P true x.g d=.spawn f child d #[]/\f.status=.running/\child.status=.running/\X9 c d/\
      D2 P Low ⟨c,λ_=>False,h,child,d⟩/\X ⟨λb=>x.O b/\b≠c,x.L++[(c,h,false)],f,d⟩)\/
   (∃(j c:Nat) (h:List Value) (z:Value),x.L[j]?=some (c,h,false)/\∀d,Keep Low x.O x.w d->stepG P true x.g d=.comm x.g #[rcase c z] true (.recv true) d #[]/\
      (∀v n,h=v::n->X ⟨x.O,x.L.set j (c,n,false),Conc.served x.g (recvd true v true),d⟩)/\(h=[]->X ⟨x.O,x.L.set j (c,[],true),Conc.served x.g (recvd true z false),d⟩)))
theorem Za.mono {Stop:Goroutine->World->Prop}{X Y:RC->Prop}(l:∀x,X x->Y x){x:RC}(h:Za P Low Stop X x):Za P Low Stop Y x:=by
  refine⟨h.1,?_⟩;rcases h.2 with h | h | ⟨c,A,h⟩ | ⟨j,c,n,z,y,h⟩
  . exact .inl h
  . exact .inr (.inl λi k=>let ⟨o,w,p,a,b,c,d⟩:=h i k;⟨o,w,p,a,b,c,l _ d⟩)
  . exact .inr (.inr (.inl ⟨c,A,λi k=>let ⟨o,r,n,a,b,e,f,s,d⟩:=h i k;⟨o,r,n,a,b,e,f,s,l _ d⟩⟩))
  . exact .inr (.inr (.inr ⟨j,c,n,z,y,λi k=>⟨(h i k).1,λv q e=>l _ ((h i k).2.1 v q e),λe=>l _ ((h i k).2.2 e)⟩⟩))
abbrev Za.mo:=@Za.mono
def EI (P:Program)(Low:Nat)(Stop:Goroutine->World->Prop)(x:RC):Prop:=∀X:RC->Prop,(∀x,Za P Low Stop X x->X x)->X x
theorem EI.mk {Stop:Goroutine->World->Prop}{x:RC}(h:Za P Low Stop (EI P Low Stop) x):EI P Low Stop x:=λX b=>b x (h.mono λ_y d=>d X b)
theorem EI.inv {Stop:Goroutine->World->Prop}{x:RC}(h:EI P Low Stop x):Za P Low Stop (EI P Low Stop) x:=
  h (Za P Low Stop (EI P Low Stop)) λ_ d=>d.mono λ_ b=>EI.mk b
def RL {α:Type}(r:α->α->Prop)(b l:List α):Prop:=∃(i:Nat) (x y:α),l[i]?=some x/\r y x/\b=l.set i y
theorem RL.acc {α:Type}{r:α->α->Prop}:∀{l:List α},(∀x∈l,Acc r x)->Acc (RL r) l:=by
  intro l;induction l with
  | nil=>exact λ_=>Acc.intro _ λp ⟨i,x,y,h,_⟩=>by simp at h
  | cons a l d=>
    intro h;have f:=h a DX;have q:=d λx n=>h x (CH _ n)
    clear h d;induction f generalizing l with
    | intro a _ o=>
      induction q with
      | intro l j e=>
        refine Acc.intro _ ?_;rintro p ⟨i,x,y,hi,b,rfl⟩;cases i with
        | zero=>
          simp at hi;subst hi;exact o y b l (Acc.intro l j)
        | succ i=>
          simp at hi;exact e (l.set i y) ⟨i,x,y,hi,b,rfl⟩
def LH (P:Program)(Low:Nat):SC ⊕ Nat->SC ⊕ Nat->Prop
  | .inl y, .inl x=>Nx P Low y x
  | .inr _, .inl _=>True
  | .inr m, .inr n=>m<n
  | .inl _, .inr _=>False
theorem Vm (P:Program)(Low:Nat)(n:Nat):Acc (LH P Low) (.inr n):=by
  induction n using Nat.strongRecOn with
  | ind n d=>
    refine Acc.intro _ λy b=>?_
    cases y with
    | inl y=>exact b.elim
    | inr m=>exact d m b
theorem oH {x:SC}(h:Acc (Nx P Low) x):Acc (LH P Low) (.inl x):=by
  induction h with
  | intro x _ d=>
    refine Acc.intro _ λy b=>?_
    cases y with
    | inl y=>exact d y b
    | inr m=>exact Vm P Low m
def Cl (Low:Nat)(ow:Nat->Nat->Prop)(g:Nat)(a:Touch):Prop:=
 (∃b wr,a=⟨.cell b,wr, .plain⟩/\(ow g b.block\/(b.block<Low/\wr=false)))\/∃c wr,a=⟨.obj c,wr, .atomic⟩
structure Tr (Low n0 m:Nat)(t₀ t:Trace)(ow:Nat->Nat->Prop):Prop where
 le:t₀.size<=t.size
 clean:∀said,¬Race said t
 kn0:∀i op a,t[i]?=some op->op.act.touch?=some a->a.loc.isMemory=true->(i<t₀.size\/op.g=0)->Knows t 0 i
 knS:∀j,j<m->∀i op a,t[i]?=some op->op.act.touch?=some a->a.loc.isMemory=true->i<t₀.size->Knows t (n0+j) i
 cls:∀i op a,t₀.size<=i->t[i]?=some op->op.act.touch?=some a->a.loc.isMemory=true->Cl Low ow op.g a
 who:∀i op a,t₀.size<=i->t[i]?=some op->op.act.touch?=some a->a.loc.isMemory=true->op.g=0\/∃j,j<m/\op.g=n0+j
 hears:Deaf t 0=0
 hearS:∀k,n0<=k->Deaf t k=0
structure Ow (Low:Nat)(ow:Nat->Nat->Prop)(size:Nat):Prop where
 apart:∀k l b,ow k b->ow l b->k=l
 low:∀k b,ow k b->Low<=b
 up:∀k b,ow k b->b<size
section
variable {a:Touch}{c g k size:Nat}{u:Trace}
variable {Low n0 m : Nat}{t₀ t : Trace}{ow wU : Nat -> Nat -> Prop}
theorem Cl.mono (h:Cl Low ow g a)(f:∀k b,ow k b->wU k b):Cl Low wU g a:=
 h.imp (λ⟨d,wr,e,k⟩=>⟨d,wr,e,k.imp (f _ _) id⟩) id
abbrev Cl.mo:=@Cl.mono
theorem Tr.wider (h:Tr Low n0 m t₀ t ow)(e:∀k b,ow k b->wU k b):Tr Low n0 m t₀ t wU:=
 ⟨h.le,h.clean,h.kn0,h.knS,λi op a hi j f d=>(h.cls i op a hi j f d).mono e,h.who,h.hears,h.hearS⟩
theorem mz {said:Bool}{g':Nat}(f:Ow Low ow size)(p:g≠g'){b:Touch}(e:Cl Low ow g a)(d:Cl Low ow g' b):¬a.conflicts said b:=by
 rintro⟨i,_,o,l⟩;rcases e with⟨r,wr,rfl,e⟩ | ⟨c,wr,rfl⟩
 .rcases d with⟨q,j,rfl,d⟩ | ⟨n,j,rfl⟩
  .cases i
   rcases e with e | ⟨e,rfl⟩
   .rcases d with d | ⟨d,rfl⟩
    .exact p (f.apart _ _ _ e d)
    .exact Nat.not_lt.2 (f.low _ _ e) d
   .rcases d with d | ⟨d,rfl⟩
    .exact Nat.not_lt.2 (f.low _ _ d) e
    .rcases o with h | h<;>cases h
  .cases i
 .rcases d with⟨q,j,rfl,d⟩ | ⟨n,j,rfl⟩
  .cases i
  .rcases l with h | h | ⟨_,h,_⟩<;>cases h
theorem Tr.app (h:Tr Low n0 m t₀ t ow)(G:Ow Low ow size)(hg:g=0\/∃j,j<m/\g=n0+j)(hu:∀op∈u,op.g=g)
  (D:∀op∈u,∀a,op.act.touch?=some a->a.loc.isMemory=true->Cl Low ow g a) (hd:∀t:Trace,Deaf (t++u) g=Deaf t g):Tr Low n0 m t₀ (t++u) ow:=by
 have C:∀k,Deaf (t++u) k=Deaf t k:=by
  intro k;by_cases s:g=k
  .subst s;exact hd t
  .exact Deaf_other t s u hu
 refine⟨by rw[Array.size_append];have:=h.le;omega,λsaid=>?_,λi op a hi f w l=>?_,λj A i op a hi f w r=>?_,λi op a hi z p o=>?_,λi op a hi z p o=>?_,by rw[C];exact h.hears,λk s=>by rw[C];exact h.hearS k s⟩
 .refine noRace_append (h.clean said) hu λi a f op I b F y=>?_
  obtain⟨x,q,B⟩:=touch_of f;have v:=y.2.1;have H:=y.1 ▸ v;rcases EV i t₀.size with r | n
  .rcases hg with rfl | ⟨j,A,rfl⟩
   .exact h.kn0 i x a q B v (.inl r)
   .exact h.knS j A i x a q B v r
  .by_cases E:x.g=g
   .have:=knows_own q
    rwa [E] at this
   .exact absurd y (mz G E (h.cls i x a n q B v) (D op I b F H))
 .rcases getElem?_append_cases hi with⟨_,d⟩ | ⟨n,e⟩
  .exact(h.kn0 i op a d f w l).app u
  .rcases l with l | l
   .have:=h.le;omega
   .have:=knows_own hi
    rwa [l] at this
 .rcases getElem?_append_cases hi with⟨_,d⟩ | ⟨n,e⟩
  .exact(h.knS j A i op a d f w r).app u
  .have:=h.le;omega
 .rcases getElem?_append_cases z with⟨_,d⟩ | ⟨n,e⟩
  .exact h.cls i op a hi d p o
  .rw[hu op e];exact D op e a p o
 .rcases getElem?_append_cases z with⟨_,d⟩ | ⟨n,e⟩
  .exact h.who i op a hi d p o
  .rw[hu op e];exact hg
theorem Tr.one (h:Tr Low n0 m t₀ t ow){y:MemOp}(w:y.act.touch?=none)(hd:(y.g=0\/n0<=y.g)->y.act≠.mark .disable/\y.act≠.mark .enable):Tr Low n0 m t₀ (t++#[y]) ow:=by
 have n:∀i op a,(t++#[y])[i]?=some op->op.act.touch?=some a->i<t.size/\t[i]?=some op:=by
  intro i op a hi d;rcases getElem?_append_cases hi with⟨r,B⟩ | ⟨E,A⟩
  .exact⟨r,B⟩
  .have:op=y:=by simpa using A
   subst this;rw[w] at d;cases d
 have x:∀k,(k=0\/n0<=k)->Deaf (t++#[y]) k=Deaf t k:=by
  intro k o;by_cases z:y.g=k
  .rw[Deaf_push]
   unfold deafStep;have:=hd (by rw[z];exact o)
   split
   .rename_i e;exact absurd e this.1
   .rename_i e;exact absurd e this.2
   .rfl
  .exact Deaf_other t z _ (λop l=>by have:op=y:=(by simpa using l);rw[this])
 refine⟨by rw[Array.size_append];have:=h.le;omega,λsaid=>?_,λi op a hi d q C=>(h.kn0 i op a (n i op a hi d).2 d q C).app _,λj D i op a hi d q r=>(h.knS j D i op a (n i op a hi d).2 d q r).app _,
  λi op a hi s f p=>h.cls i op a hi (n i op a s f).2 f p,λi op a hi s f p=>h.who i op a hi (n i op a s f).2 f p,by rw[x 0 (.inl rfl)];exact h.hears,λk o=>by rw[x k (.inr o)];exact h.hearS k o⟩
 refine noRace_append (g:=y.g) (h.clean said) (λop l=>by have:op=y:=(by simpa using l);rw[this]) λi a d op l b v=>?_
 have:op=y:=by simpa using l
 rw[this,w] at v;cases v
theorem Tr.silent (h:Tr Low n0 m t₀ t ow)(hu:∀op∈u,op.act.touch?=none/\((op.g=0\/n0<=op.g)->op.act≠.mark .disable/\op.act≠.mark .enable)):Tr Low n0 m t₀ (t++u) ow:=by
 obtain⟨l⟩:=u;induction l generalizing t with
 | nil=>simpa using h
 | cons y l d=>
  have e:t++(y::l).toArray=(t++#[y])++l.toArray:=AW
  rw[e];have b:=hu y AW;exact d (h.one b.1 b.2) λop hop=>hu op yEd
theorem Tr.spawn (h:Tr Low n0 m t₀ t ow)(fn d:FuncId)(pos f:String):Tr Low n0 (m+1) t₀ (t++#[{g:=0,fn,pos,act:=.go (n0+m)},{g:=n0+m,fn:=d,pos:=f,act:=.start}]) ow:=by
 have e:t++#[({g:=0,fn,pos,act:=.go (n0+m)}:MemOp),{g:=n0+m,fn:=d,pos:=f,act:=.start}]=(t++#[({g:=0,fn,pos,act:=.go (n0+m)}:MemOp)])++#[({g:=n0+m,fn:=d,pos:=f,act:=.start}:MemOp)]:=by rw[Array.append_assoc];rfl
 have b:Tr Low n0 m t₀ (t++#[{g:=0,fn,pos,act:=.go (n0+m)},{g:=n0+m,fn:=d,pos:=f,act:=.start}]) ow:=by
  rw[e];exact(h.one rfl (λ_=>⟨AW,AW⟩)).one rfl (λ_=>⟨AW,AW⟩)
 refine⟨b.le,b.clean,b.kn0,λj C i op a hi q o r=>?_,b.cls,λi op a hi A v w=>(b.who i op a hi A v w).imp id λ⟨j,C,e⟩=>⟨j,AU,e⟩,b.hears,b.hearS⟩;rcases EV j m with s | s
 .exact b.knS j s i op a hi q o r
 .obtain rfl:j=m:=by omega
  have F:=h.le;have E:t[i]?=some op:=by rw[getElem?_append_old AU] at hi;exact hi
  have z:=h.kn0 i op a E q o (.inl r);generalize hu:(#[({g:=0,fn,pos,act:=.go (n0+j)}:MemOp),{g:=n0+j,fn:=d,pos:=f,act:=.start}]:Trace)=u at*;have l:(t++u)[t.size]?=some {g:=0,fn,pos,act:=.go (n0+j)}:=by subst hu;rw[MU (B7 _)];simp
  have n:(t++u)[t.size+1]?=some {g:=n0+j,fn:=d,pos:=f,act:=.start}:=by subst hu;rw[MU AU];simp
  have x:(t++u).deaf 0 t.size=0:=by rw[deaf_old (B7 _)];exact h.hears
  have D:(t++u).deaf (n0+j) (t.size+1)=0:=by
   rw[deaf_succ l,deaf_old (B7 _)];exact h.hearS (n0+j) AU
  have B:=z.hb_new (u:=u) (B7 _) l rfl;have y:HappensBefore (t++u) t.size (t.size+1):=.single (.inr ⟨.spawn (child:=n0+j) (by rw[act?_of l]) (by rw[act?_of n]) (by simp[Trace.g?,n]),⟨0,by simp[Trace.g?,l],x⟩,⟨n0+j,by simp[Trace.g?,n],D⟩⟩);exact⟨t.size+1,_,n,rfl, .inr (B.trans y)⟩
def Vt (t:Trace)(k c:Nat):Prop:=∃b op,t[b]?=some op/\op.g=k/\op.act=.close c/\t.heard b/\∀i d a,t[i]?=some d->d.g=k->d.act.touch?=some a->i<b
theorem Vt.app (h:Vt t k c)(hu:∀op∈u,op.g=k->op.act.touch?=none):Vt (t++u) k c:=by
 obtain⟨p,op,e,r,l,n,s⟩:=h;have d:=lt_size_of_getElem? e;refine⟨p,op,by rw[getElem?_append_old d];exact e,r,l,(heard_old d).2 n,λi f a hi j b=>?_⟩;rcases getElem?_append_cases hi with⟨_,q⟩ | ⟨_,o⟩
 .exact s i f a q j b
 .rw[hu f o j] at b;cases b
def Zc (t:Trace)(k:Nat):Prop:=∀i op a,t[i]?=some op->op.g=k->op.act.touch?=some a->Knows t 0 i
theorem Zc.app (h:Zc t k)(hu:∀op∈u,op.g=k->op.act.touch?=none):Zc (t++u) k:=by
 intro i op a hi d b;rcases getElem?_append_cases hi with⟨_,e⟩ | ⟨_,f⟩
 .exact(h i op a e d b).app u
 .rw[hu op f d] at b;cases b
theorem Vt.known (h:Vt t k c)(hears:Deaf t 0=0)(fn:FuncId)(pos:String):Zc (t++#[{g:=0,fn,pos,act:=.recvClosed c}]) k:=by
 obtain⟨l,op,j,y,r,s,z⟩:=h;have f:=lt_size_of_getElem? j;generalize hu:(#[({g:=0,fn,pos,act:=.recvClosed c}:MemOp)]:Trace)=u;have b:(t++u)[t.size]?=some {g:=0,fn,pos,act:=.recvClosed c}:=by subst hu;simp
 have v:(t++u).deaf 0 t.size=0:=by rw[deaf_old (B7 _)];exact hears
 have o:(t++u)[l]?=some op:=by rw[getElem?_append_old f];exact j
 have p:HappensBefore (t++u) l t.size:=.single (.inr ⟨.closed (c:=c) (by rw[act?_of o,r]) (by rw[act?_of b]),(heard_old f).2 s,⟨0,by simp[Trace.g?,b],v⟩⟩);intro i d a hi n e;rcases getElem?_append_cases hi with⟨_,x⟩ | ⟨_,w⟩
 .have q:=z i d a x n e
  exact⟨t.size,_,b,rfl, .inr ((hb_po q hi o (n.trans y.symm)).trans p)⟩
 .subst hu
  have:d={g:=0,fn,pos,act:=.recvClosed c}:=by simpa using w
  subst this;cases e
theorem Tr.close (h:Tr Low n0 m t₀ t ow)(q:Ow Low ow size)(l:∃j,j<m/\k=n0+j)(fn:FuncId)(pos:String):
  Tr Low n0 m t₀ (t++MemOp.ofEvents k fn pos #[⟨.obj c,false,true⟩,⟨.obj c,true,true⟩]) ow/\Vt (t++MemOp.ofEvents k fn pos #[⟨.obj c,false,true⟩,⟨.obj c,true,true⟩]) k c:=by
 have e:MemOp.ofEvents k fn pos #[⟨.obj c,false,true⟩,⟨.obj c,true,true⟩]=#[{g:=k,fn,pos,act:=.access ⟨.obj c,false,true⟩},{g:=k,fn,pos,act:=.close c}]:=by
  rw[ofEvents_eq];simp[MemAct.ofEvent]
 have hd:∀t:Trace,Deaf (t++MemOp.ofEvents k fn pos #[⟨.obj c,false,true⟩,⟨.obj c,true,true⟩]) k=Deaf t k:=λt=>by rw[Deaf_own];rfl
 have n:n0<=k:=by obtain⟨j,_,rfl⟩:=l;omega
 refine⟨h.app q (.inr l) (λop d=>by obtain⟨e,_,rfl⟩:=Go.Conc.mem_ofEvents d;rfl) (λop d a b _=>?_) hd,?_⟩
 .rw[e] at d
  have:op={g:=k,fn,pos,act:=.access ⟨.obj c,false,true⟩}\/op={g:=k,fn,pos,act:=.close c}:=by simpa using d
  rcases this with rfl | rfl
  .simp[MemAct.touch?] at b;subst b;exact .inr ⟨c,false,rfl⟩
  .cases b
 .rw[e]
  generalize hu:(#[({g:=k,fn,pos,act:=.access ⟨.obj c,false,true⟩}:MemOp),{g:=k,fn,pos,act:=.close c}]:Trace)=u;have o:(t++u)[t.size]?=some {g:=k,fn,pos,act:=.access ⟨.obj c,false,true⟩}:=by subst hu;rw[MU (B7 _)];simp
  have f:(t++u)[t.size+1]?=some {g:=k,fn,pos,act:=.close c}:=by subst hu;rw[MU AU];simp
  have s:(t++u).deaf k (t.size+1)=0:=by rw[deaf_succ o,deaf_old (B7 _)];exact h.hearS k n
  refine⟨t.size+1,_,f,rfl,rfl,⟨k,by simp[Trace.g?,f],s⟩,λi v a hi y b=>?_⟩;have x:(t++u).size=t.size+2:=by subst hu;simp
  have:=lt_size_of_getElem? hi
  rcases EV i (t.size+1) with r | w
  .exact r
  .obtain rfl:i=t.size+1:=by omega
   rw[f] at hi;cases hi;cases b
theorem Tr.past (h:Tr Low n0 m t₀ t ow)(D:∀j,j<m->Zc t (n0+j)):∃B,Past (λ_=>False) B t:=by
 have p:∀i op a,t[i]?=some op->op.act.touch?=some a->a.loc.isMemory=true->Knows t 0 i:=by
  intro i op a hi d b;rcases EV i t₀.size with A | w
  .exact h.kn0 i op a hi d b (.inl A)
  .rcases h.who i op a w hi d b with E | ⟨j,G,o⟩
   .exact h.kn0 i op a hi d b (.inr E)
   .exact D j G i op a hi o d
 obtain⟨B,_,v⟩:=XT t 0;refine⟨B,h.clean,λi a d b=>?_,λi g o s C=>?_,h.hears,v⟩
 .obtain⟨op,e,n⟩:=touch_of d
  exact .inl (p i op a e n b)
 .obtain⟨x,y,b,_⟩:=C
  obtain⟨op,e,n⟩:=touch_of y;obtain⟨q,z,l,r,f⟩:=p i op x e n b;have F:op.g=g:=by simpa[Trace.g?,e] using o
  rcases f with rfl | f
  .rw[e] at l;cases l;exact absurd (F.symm.trans r) s
  .exact⟨q,by simp[Trace.g?,l,r],f⟩
theorem Tr.begin {P:Program}{gs:Array Goroutine}{q:Nat->Nat}{B:Nat}(b:Past (λ_=>False) B t)(l:Leavers P t gs q):Tr Low gs.size 0 t t ow:=by
 refine⟨B7 _,b.clean,λi op a hi f e _=>?_,λj n=>by omega,λi op a hi d=>?_,λi op a hi d=>?_,b.hears,l.above⟩
 .rcases b.known i a (by rw[touchAt_of hi];exact f) e with h | h
  .exact h
  .exact h.1.elim
 .have:=lt_size_of_getElem? d;omega
 .have:=lt_size_of_getElem? d;omega
end
