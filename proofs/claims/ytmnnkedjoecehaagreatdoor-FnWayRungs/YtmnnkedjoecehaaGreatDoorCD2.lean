import Derived.Test.YtmnnkedjoecehaaGreatDoorCC8
import Derived.Conc.CrowdComm
namespace Go.Co
open Go.Conc
open Go.ConcN (sumTo upd sumTo_upd upd_ne upd_same)
section
variable {g:Goroutine}
variable {P : Program}
def LD (P:Program)(gs:Array Goroutine)(t:Trace)(g:Goroutine):Prop:=gs[0]?=some g/\(∃q,Leavers P t gs q)/\∃B,Past (λ_=>False) B t
def Comes (P:Program)(g:Goroutine)(w:World)(Stop:Goroutine->World->Prop):Prop:=
  ∀h sl t,LD P h t g->OkG g->∃N e b d i f,runNT P N (crowd h w sl) t=(.next (crowd e d i),f)/\LD P e f b/\OkG b/\d.tape=w.tape/\Stop b d
theorem Comes.stop {w:World}{Stop:Goroutine->World->Prop}(h:Stop g w):Comes P g w Stop:=
  λd sl t hF b=>⟨0,d,g,w,sl,t,rfl,hF,b,rfl,h⟩
theorem Comes.then {w:World}{S e:Goroutine->World->Prop}(h:Comes P g w S)(p:∀f b,b.tape=w.tape->S f b->Comes P f b e):Comes P g w e:=by
  intro o sl t hF A;obtain⟨N,G,y,v,l,n,s,E,D,d,z⟩:=h o sl t hF A;obtain⟨K,I,j,r,i,q,H,x,F,C,B⟩:=p y v d z G l n E D;exact⟨N+K,I,j,r,i,q,by rw[runNT_add,s];exact H,x,F,C.trans d,B⟩
theorem Comes.mono {w:World}{S d:Goroutine->World->Prop}(h:Comes P g w S)(j:∀e b,b.tape=w.tape->S e b->d e b):Comes P g w d:=
  h.then λ_ _ f i=>Comes.stop (j _ _ f i)
theorem eb (ops:Array MemOp)(B:Nat):∃d,B<=d/\∀op∈ops,op.act.low d:=by
  have i:∀x:MemAct,∃B,x.low B:=by
    intro x;cases x with
    | access e=>
      obtain⟨l,a,b⟩:=e;cases l with
      | cell a=>exact⟨a.block+1,DV _⟩
      | obj r=>exact⟨r+1,DV _⟩
      | _=>exact⟨0,trivial⟩
    | mark m=>
      cases m with
      | acquire a | release a | releaseMerge a | read a | write a=>exact⟨a.block+1,DV _⟩
      | _=>exact⟨0,trivial⟩
    | go _ | start=>exact⟨0,trivial⟩
    | send c _ | sendDone c _ | recv c _ _ | recvDone c _ | close c | recvClosed c=>exact⟨c+1,DV _⟩
  obtain⟨l⟩:=ops;induction l with
  | nil=>exact⟨B,CG _,λop h=>by simp at h⟩
  | cons x l n=>
    obtain⟨q,f,v⟩:=n;obtain⟨s,o⟩:=i x.act;refine⟨max q s,CM f (K7 _ _),λop j=>?_⟩;have:op=x\/op∈l:=by simpa using j
    rcases this with rfl | h
    · exact MemAct.low_mono (M6 _ _) o
    · exact MemAct.low_mono (K7 _ _) (v op BV)
theorem tA (hP:OkP P){Stop:Goroutine->World->Prop}{w:World}(h:Way P Stop g w):Comes P g w Stop:=by
  refine h (λg w=>Comes P g w Stop) (λg w h=>Comes.stop h) ?_;intro g w L D ap b sl t ⟨n,⟨q,l⟩,B,G⟩ _;have main:∀(M:Nat) (b:Array Goroutine) (y:Nat) (sl:Option (Nat × Nat)) (t:Trace) (q:Nat->Nat),sumTo b.size q<=M->b[0]?=some g->Leavers P t b q->(∃B,Past (λ_=>False) B t)->
      ∃N C g' A e t',runNT P N (crowd b (w.at y) sl) t=(.next (crowd C A e),t')/\LD P C t' g'/\OkG g'/\A.tape=w.tape/\Stop g' A:=by
    intro M;induction M with
    | zero | succ M ih=>
      intro b y sl t q hM n l G;have an:∀x∈b,awake x:=by
        intro x o;obtain⟨i,hi,rfl⟩:=Array.mem_iff_getElem.1 o;rcases KG i with rfl | K
        · have:b[0]=g:=by simpa[JQ hi] using n
          rw[this];exact awake_of (.inl D)
        · exact awake_of ((l.old i _ K (JQ hi)).status.elim .inl λx=>.inr (.inr x))
      have az:=λi x hi o=>(l.old i x hi o).status
      obtain⟨i,x,d,e,hi,o,ae⟩:=crowd_pick (P:=P) (w:=w.at y) (sl:=sl) an ⟨0,g,n,D⟩;rcases KG i with rfl | K
      · obtain rfl:x=g:=by rw[n] at hi;exact(DG hi).symm
        obtain⟨g',A,Z,S,aA,hX⟩:=ap d;have au:A.tape=w.tape:=by
          have:=(eg hP L (w.at d)).tape
          rw[S] at this;exact this
        obtain⟨C,E,J,Q,R,ai,v,ax⟩:=tn (sl:=e) hP L n az S aA;obtain⟨B,z⟩:=G;obtain⟨B',aw,ao⟩:=eb E B;have ay:=(PZ hP L D S).1;have al:Past (λ_=>False) B' (t++E):=(z.mono aw).app0 v (λ_ _ _ _ h=>h.elim) (by rw[ax t z.hears,z.hears]) ao;have aD:Leavers P (t++E) C q:=by
          refine⟨λj ag f r=>?_,λj f=>?_⟩
          · rw[Deaf_other t (g':=0) AQ _ v]
            exact l.old j ag f (by rw[<-ai j f];exact r)
          · rw[Deaf_other t (g':=0) (by have:=(Array.getElem?_eq_some_iff.1 n).1;omega) _ v]
            exact l.above j (by rw[<-Q];exact f)
        obtain⟨N,V,W,O,ab,I,aa,ac,U,T,Y⟩:=hX C e (t++E) ⟨R,⟨q,aD⟩,B',al⟩ ay;refine⟨N+1,V,W,O,ab,I,?_,ac,U,T.trans au,Y⟩;simp only[runNT,ae];rw[show crowd b ((w.at y).at d) e=crowd b (w.at d) e from rfl,J];exact aa
      · have H:=l.old i x K hi
        have aB:(i==0)=false:=by simp;omega
        have hlt:=(Array.getElem?_eq_some_iff.1 hi).1;cases X:q i with
        | zero=>rw[X] at H;rw[H.1] at o;cases o
        | succ k=>
          rw[X] at H;rcases H with⟨hf,_⟩ | ⟨_,s,Z,hm,av,ah⟩
          · rw[hf] at o;cases o
          have J:=runT_crowd_go (P:=P) (sl:=e) (i:=i) hi (by rw[aB];exact av (w.at d));have Q:((b.map (woken P x s (w.at d))).setIfInBounds i s).size=b.size:=AU
          have aE:sumTo b.size (upd q i k)+(k+1)=sumTo b.size q+k:=by
            have:=sumTo_upd q k id hlt
            simpa[X] using this
          have v:∀op∈MemOp.ofEvents i x.frame.fn x.frame.place Z,op.g=i:=λop ak=>by obtain⟨aF,_,rfl⟩:=Go.Conc.mem_ofEvents ak;rfl
          have R:((b.map (woken P x s (w.at d))).setIfInBounds i s)[0]?=some g:=by
            have aj:i≠0:=AQ
            rw[Hj aj,K9,n];simp[woken_run D]
          have aC:Leavers P (t++MemOp.ofEvents i x.frame.fn x.frame.place Z) ((b.map (woken P x s (w.at d))).setIfInBounds i s) (upd q i k):=by
            refine⟨λj ag f r=>?_,λj f=>?_⟩
            · by_cases F:i=j
              · subst F
                rw[FH Bm] at r;obtain rfl:=DG r;rw[upd_same,Deaf_own];exact ah
              · rw[Hj F,K9] at r
                obtain⟨ar,hz,rfl⟩:=Option.map_eq_some_iff.1 r;have af:=l.old j ar f hz;rw[woken_quitsD af,upd_ne q k (Ne.symm F),Deaf_other t F _ v];exact af
            · rw[Deaf_other t (g':=i) (by simp at f;omega) _ v]
              exact l.above j (by simpa using f)
          obtain⟨B,z⟩:=G;first
            | omega
            | (obtain⟨N,V,W,O,ab,I,aa,ac,U,T,Y⟩:=ih _ d e _ (upd q i k) (by rw[Q];omega) R aC ⟨B,z.mute AQ hm⟩
               refine⟨N+1,V,W,O,ab,I,?_,ac,U,T,Y⟩;simp only[runNT,ae];rw[show crowd b ((w.at y).at d) e=crowd b (w.at d) e from rfl,J]
               exact aa)
  exact main _ b w.drawn sl t q (CG _) n l ⟨B,G⟩
end
variable {Low:Nat}{P:Program}{a:World}
structure Keep (Low:Nat)(O:Nat->Prop)(w w':World):Prop where
  still:∀b,b<Low->w'.heap[b]?=w.heap[b]?
  mine:∀b,O b->w'.heap[b]?=w.heap[b]?
  size:w.heap.size<=w'.heap.size
  tape:w'.tape=w.tape
  os:w'.os=w.os
  out:w'.output=w.output
theorem Keep.refl (Low:Nat)(O:Nat->Prop)(w:World):Keep Low O w w:=⟨λ_ _=>rfl,λ_ _=>rfl,CG _,rfl,rfl,rfl⟩
theorem Keep.trans {O:Nat->Prop}{b c:World}(h:Keep Low O a b)(k:Keep Low O b c):Keep Low O a c:=
  ⟨λx d=>(k.still x d).trans (h.still x d),λx d=>(k.mine x d).trans (h.mine x d),CM h.size k.size,k.tape.trans h.tape,k.os.trans h.os,k.out.trans h.out⟩
theorem Keep.at {O:Nat->Prop}{b:World}(h:Keep Low O a b)(d:Nat):Keep Low O a (b.at d):=⟨h.still,h.mine,h.size,h.tape,h.os,h.out⟩
theorem Keep.sub {O d:Nat->Prop}{b:World}(h:Keep Low O a b)(e:∀x,d x->O x):Keep Low d a b:=⟨h.still,λx f=>h.mine x (e x f),h.size,h.tape,h.os,h.out⟩
def EU (c:Nat)(w:World):Prop:=∃s r,w.heap[c]?=some (.chan 0 #[] false s r false)
def JL (c:Nat)(w:World):Prop:=∃s r,w.heap[c]?=some (.chan 0 #[] true s r false)
def EvO (Low:Nat)(O:Nat->Prop)(e:Event):Prop:=∃a wr,e=⟨.cell a,wr,false⟩/\(O a.block\/(a.block<Low/\wr=false))
def grown (O:Nat->Prop)(w w':World):Nat->Prop:=λb=>O b\/(w.heap.size<=b/\b<w'.heap.size)
structure E3 (Low:Nat)(O:Nat->Prop)(w w':World)(es:Array Event):Prop where
  rest:∀b,b<w.heap.size->¬O b->w'.heap[b]?=w.heap[b]?
  size:w.heap.size<=w'.heap.size
  tape:w'.tape=w.tape
  os:w'.os=w.os
  out:w'.output=w.output
  ev:∀e∈es,EvO Low (grown O w w') e\/e=⟨.mark .noRoom,false,true⟩
structure SC where
  c:Nat
  O:Nat->Prop
  vs:List Value
  g:Goroutine
  w:World
def JB (P:Program)(Low:Nat)(X:SC->Prop)(x:SC):Prop:=
  x.g.status=.running/\
  ((∀b,Keep Low x.O x.w b->EU x.c b->∃d e h,stepG P false x.g b=.go d e h/\d.status=.running/\E3 Low x.O b e h/\X ⟨x.c,grown x.O b e,x.vs,d,e⟩)\/
   (∃v f,x.vs=v::f/\∀b,Keep Low x.O x.w b->EU x.c b->(∃z,stepG P false x.g b=.comm x.g #[scase x.c v z] true .send b #[])/\X ⟨x.c,x.O,f,Conc.served x.g undef,b⟩)\/
   (x.vs=[]/\mayWake P x.g=true/\∀b s r,Keep Low x.O x.w b->b.heap[x.c]?=some (.chan 0 #[] false s r false)->∃d n,stepG P false x.g b=.go d (b.shut x.c s r false) #[⟨.obj x.c,false,true⟩,⟨.obj x.c,true,true⟩]/\d.status=.running/\QuitsIn P n d))
theorem JB.mono {X Y:SC->Prop}(i:∀x,X x->Y x){x:SC}(h:JB P Low X x):JB P Low Y x:=by
  refine⟨h.1,?_⟩;rcases h.2 with h | ⟨v,j,e,h⟩ | h
  · exact .inl λf k o=>let ⟨n,p,l,a,b,c,d⟩:=h f k o;⟨n,p,l,a,b,c,i _ d⟩
  · exact .inr (.inl ⟨v,j,e,λf k o=>⟨(h f k o).1,i _ (h f k o).2⟩⟩)
  · exact .inr (.inr h)
def D4 (P:Program)(Low:Nat)(x:SC):Prop:=∀X:SC->Prop,(∀x,JB P Low X x->X x)->X x
theorem D4.mk {x:SC}(h:JB P Low (D4 P Low) x):D4 P Low x:=λX b=>b x (h.mono λ_y d=>d X b)
theorem D4.inv {x:SC}(h:D4 P Low x):JB P Low (D4 P Low) x:=
  h (JB P Low (D4 P Low)) λ_ b=>b.mono λ_ d=>D4.mk d
def Nx (P:Program)(Low:Nat)(y x:SC):Prop:=∃b,Keep Low x.O x.w b/\EU x.c b/\
  ((∃f d h,stepG P false x.g b=.go f d h/\EU x.c d/\y=⟨x.c,grown x.O b d,x.vs,f,d⟩)\/
   (∃v e z,x.vs=v::e/\stepG P false x.g b=.comm x.g #[scase x.c v z] true .send b #[]/\y=⟨x.c,x.O,e,Conc.served x.g undef,b⟩))
theorem D4.acc {x:SC}(h:D4 P Low x):Acc (Nx P Low) x:=by
  refine h _ λx I=>Acc.intro x λy J=>?_
  obtain⟨f,j,p,l⟩:=J;rcases I.2 with h | ⟨v,F,e,h⟩ | ⟨_,_,h⟩
  · obtain⟨D,L,M,d,_,_,i⟩:=h f j p
    rcases l with⟨q,C,B,b,_,rfl⟩ | ⟨v,F,z,_,b,rfl⟩
    · rw[d] at b;cases b;exact i
    · rw[d] at b;cases b
  · obtain⟨⟨z,d⟩,i⟩:=h f j p
    rcases l with⟨q,C,B,b,_,rfl⟩ | ⟨E,H,G,o,b,rfl⟩
    · rw[d] at b;cases b
    · rw[e] at o;cases o;exact i
  · obtain⟨s,r,w⟩:=p
    obtain⟨D,n,d,_⟩:=h f s r j w;rcases l with⟨q,C,B,b,⟨K,N,A⟩,rfl⟩ | ⟨E,H,G,o,b,rfl⟩
    · rw[d] at b;cases b
      rw[show(f.shut x.c s r false).heap[x.c]?=some (.chan 0 #[] true s r false) from heap_put w] at A;cases A
    · rw[d] at b;cases b
structure RC where
  O:Nat->Prop
  L:List (Nat × List Value × Bool)
  g:Goroutine
  w:World
def JC (P:Program)(Low:Nat)(Stop:Goroutine->World->Prop)(X:RC->Prop)(x:RC):Prop:=
  x.g.status=.running/\
  (((∀e∈x.L,e.2.2=true)/\∀d,Keep Low x.O x.w d->Stop x.g d)\/
   (∀d,Keep Low x.O x.w d->∃f i n,stepG P true x.g d=.go f i n/\f.status=.running/\E3 Low x.O d i n/\X ⟨grown x.O d i,x.L,f,i⟩)\/
   (∃c,x.O c/\∀d,Keep Low x.O x.w d->∃f child h,stepG P true x.g d=.spawn f child d #[]/\f.status=.running/\child.status=.running/\EU c d/\
      D4 P Low ⟨c,λ_=>False,h,child,d⟩/\X ⟨λb=>x.O b/\b≠c,x.L++[(c,h,false)],f,d⟩)\/
   (∃(j c:Nat) (h:List Value) (z:Value),x.L[j]?=some (c,h,false)/\∀d,Keep Low x.O x.w d->stepG P true x.g d=.comm x.g #[rcase c z] true (.recv true) d #[]/\
      (∀v l,h=v::l->X ⟨x.O,x.L.set j (c,l,false),Conc.served x.g (recvd true v true),d⟩)/\(h=[]->X ⟨x.O,x.L.set j (c,[],true),Conc.served x.g (recvd true z false),d⟩)))
theorem JC.mono {Stop:Goroutine->World->Prop}{X Y:RC->Prop}(l:∀x,X x->Y x){x:RC}(h:JC P Low Stop X x):JC P Low Stop Y x:=by
  refine⟨h.1,?_⟩;rcases h.2 with h | h | ⟨c,w,h⟩ | ⟨j,c,n,z,y,h⟩
  · exact .inl h
  · exact .inr (.inl λi k=>let ⟨o,p,A,a,b,c,d⟩:=h i k;⟨o,p,A,a,b,c,l _ d⟩)
  · exact .inr (.inr (.inl ⟨c,w,λi k=>let ⟨o,q,n,a,b,e,f,s,d⟩:=h i k;⟨o,q,n,a,b,e,f,s,l _ d⟩⟩))
  · exact .inr (.inr (.inr ⟨j,c,n,z,y,λi k=>⟨(h i k).1,λv r e=>l _ ((h i k).2.1 v r e),λe=>l _ ((h i k).2.2 e)⟩⟩))
def EM (P:Program)(Low:Nat)(Stop:Goroutine->World->Prop)(x:RC):Prop:=∀X:RC->Prop,(∀x,JC P Low Stop X x->X x)->X x
theorem EM.mk {Stop:Goroutine->World->Prop}{x:RC}(h:JC P Low Stop (EM P Low Stop) x):EM P Low Stop x:=λX b=>b x (h.mono λ_y d=>d X b)
theorem EM.inv {Stop:Goroutine->World->Prop}{x:RC}(h:EM P Low Stop x):JC P Low Stop (EM P Low Stop) x:=
  h (JC P Low Stop (EM P Low Stop)) λ_ b=>b.mono λ_ d=>EM.mk d
def RL {α:Type}(r:α->α->Prop)(b l:List α):Prop:=∃(i:Nat) (x y:α),l[i]?=some x/\r y x/\b=l.set i y
theorem RL.acc {α:Type}{r:α->α->Prop}:∀{l:List α},(∀x∈l,Acc r x)->Acc (RL r) l:=by
  intro l;induction l with
  | nil=>exact λ_=>Acc.intro _ λj ⟨i,x,y,h,_⟩=>by simp at h
  | cons a l b=>
    intro h;have f:=h a ET;have q:=b λx n=>h x (CN _ n)
    clear h b;induction f generalizing l with
    | intro a _ o=>
      induction q with
      | intro l e p=>
        refine Acc.intro _ ?_;rintro j ⟨i,x,y,hi,d,rfl⟩;cases i with
        | zero=>
          simp at hi;subst hi;exact o y d l (Acc.intro l e)
        | succ i=>
          simp at hi;exact p (l.set i y) ⟨i,x,y,hi,d,rfl⟩
def LL (P:Program)(Low:Nat):SC ⊕ Nat->SC ⊕ Nat->Prop
  | .inl y, .inl x=>Nx P Low y x
  | .inr _, .inl _=>True
  | .inr m, .inr n=>m<n
  | .inl _, .inr _=>False
theorem Xt (P:Program)(Low:Nat)(n:Nat):Acc (LL P Low) (.inr n):=by
  induction n using Nat.strongRecOn with
  | ind n d=>
    refine Acc.intro _ λy b=>?_
    cases y with
    | inl y=>exact b.elim
    | inr m=>exact d m b
theorem vl {x:SC}(h:Acc (Nx P Low) x):Acc (LL P Low) (.inl x):=by
  induction h with
  | intro x _ d=>
    refine Acc.intro _ λy b=>?_
    cases y with
    | inl y=>exact d y b
    | inr m=>exact Xt P Low m
def Cl (Low:Nat)(ow:Nat->Nat->Prop)(g:Nat)(a:Touch):Prop:=
 (∃ad wr,a=⟨.cell ad,wr, .plain⟩/\(ow g ad.block\/(ad.block<Low/\wr=false)))\/∃c wr,a=⟨.obj c,wr, .atomic⟩
structure Tr (Low n0 m:Nat)(t₀ t:Trace)(ow:Nat->Nat->Prop):Prop where
 le:t₀.size<=t.size
 clean:∀said,¬Race said t
 kn0:∀i op a,t[i]?=some op->op.act.touch?=some a->a.loc.isMemory=true->(i<t₀.size\/op.g=0)->Knows t 0 i
 knS:∀j,j<m->∀i op a,t[i]?=some op->op.act.touch?=some a->a.loc.isMemory=true->i<t₀.size->Knows t (n0+j) i
 cls:∀i op a,t₀.size<=i->t[i]?=some op->op.act.touch?=some a->a.loc.isMemory=true->Cl Low ow op.g a
 who:∀i op a,t₀.size<=i->t[i]?=some op->op.act.touch?=some a->a.loc.isMemory=true->op.g=0\/∃j,j<m/\op.g=n0+j
 hears:Deaf t 0=0
 hearS:∀k,n0<=k->Deaf t k=0
structure Ow (Low:Nat)(ow:Nat->Nat->Prop)(size:Nat):Prop where
 apart:∀k l b,ow k b->ow l b->k=l
 low:∀k b,ow k b->Low<=b
 up:∀k b,ow k b->b<size
section
variable {a:Touch}{c g k size:Nat}{u:Trace}
variable {Low n0 m : Nat}{t₀ t : Trace}{ow uq : Nat -> Nat -> Prop}
theorem Cl.mono (h:Cl Low ow g a)(d:∀k b,ow k b->uq k b):Cl Low uq g a:=
 h.imp (λ⟨ad,wr,e,k⟩=>⟨ad,wr,e,k.imp (d _ _) id⟩) id
theorem Tr.wider (h:Tr Low n0 m t₀ t ow)(j:∀k b,ow k b->uq k b):Tr Low n0 m t₀ t uq:=
 ⟨h.le,h.clean,h.kn0,h.knS,λi op a hi f e d=>(h.cls i op a hi f e d).mono j,h.who,h.hears,h.hearS⟩
theorem vD {said:Bool}{g':Nat}(i:Ow Low ow size)(o:g≠g'){b:Touch}(e:Cl Low ow g a)(d:Cl Low ow g' b):¬a.conflicts said b:=by
 rintro⟨j,_,p,q⟩;rcases e with⟨ad,wr,rfl,e⟩ | ⟨c,wr,rfl⟩
 ·rcases d with⟨l,f,rfl,d⟩ | ⟨n,f,rfl⟩
  ·cases j
   rcases e with e | ⟨e,rfl⟩
   ·rcases d with d | ⟨d,rfl⟩
    ·exact o (i.apart _ _ _ e d)
    ·exact Nat.not_lt.2 (i.low _ _ e) d
   ·rcases d with d | ⟨d,rfl⟩
    ·exact Nat.not_lt.2 (i.low _ _ d) e
    ·rcases p with h | h<;>cases h
  ·cases j
 ·rcases d with⟨l,f,rfl,d⟩ | ⟨n,f,rfl⟩
  ·cases j
  ·rcases q with h | h | ⟨_,h,_⟩<;>cases h
theorem Tr.app (h:Tr Low n0 m t₀ t ow)(I:Ow Low ow size)(hg:g=0\/∃j,j<m/\g=n0+j)(hu:∀op∈u,op.g=g)
  (C:∀op∈u,∀a,op.act.touch?=some a->a.loc.isMemory=true->Cl Low ow g a) (hd:∀t:Trace,Deaf (t++u) g=Deaf t g):Tr Low n0 m t₀ (t++u) ow:=by
 have E:∀k,Deaf (t++u) k=Deaf t k:=by
  intro k;by_cases r:g=k
  ·subst r;exact hd t
  ·exact Deaf_other t r u hu
 refine⟨by rw[Array.size_append];have:=h.le;omega,λsaid=>?_,λi op a hi f A l=>?_,λj w i op a hi f A p=>?_,λi op a hi z o q=>?_,λi op a hi z o q=>?_,by rw[E];exact h.hears,λk r=>by rw[E];exact h.hearS k r⟩
 ·refine noRace_append (h.clean said) hu λi a f op H b F y=>?_
  obtain⟨x,s,B⟩:=touch_of f;have v:=y.2.1;have G:=y.1 ▸ v;rcases E4 i t₀.size with p | n
  ·rcases hg with rfl | ⟨j,w,rfl⟩
   ·exact h.kn0 i x a s B v (.inl p)
   ·exact h.knS j w i x a s B v p
  ·by_cases D:x.g=g
   ·have:=knows_own s
    rwa [D] at this
   ·exact absurd y (vD I D (h.cls i x a n s B v) (C op H b F G))
 ·rcases getElem?_append_cases hi with⟨_,d⟩ | ⟨n,e⟩
  ·exact(h.kn0 i op a d f A l).app u
  ·rcases l with l | l
   ·have:=h.le;omega
   ·have:=knows_own hi
    rwa [l] at this
 ·rcases getElem?_append_cases hi with⟨_,d⟩ | ⟨n,e⟩
  ·exact(h.knS j w i op a d f A p).app u
  ·have:=h.le;omega
 ·rcases getElem?_append_cases z with⟨_,d⟩ | ⟨n,e⟩
  ·exact h.cls i op a hi d o q
  ·rw[hu op e];exact C op e a o q
 ·rcases getElem?_append_cases z with⟨_,d⟩ | ⟨n,e⟩
  ·exact h.who i op a hi d o q
  ·rw[hu op e];exact hg
theorem Tr.one (h:Tr Low n0 m t₀ t ow){y:MemOp}(x:y.act.touch?=none)(hd:(y.g=0\/n0<=y.g)->y.act≠.mark .disable/\y.act≠.mark .enable):Tr Low n0 m t₀ (t++#[y]) ow:=by
 have o:∀i op a,(t++#[y])[i]?=some op->op.act.touch?=some a->i<t.size/\t[i]?=some op:=by
  intro i op a hi d;rcases getElem?_append_cases hi with⟨q,B⟩ | ⟨E,C⟩
  ·exact⟨q,B⟩
  ·have:op=y:=by simpa using C
   subst this;rw[x] at d;cases d
 have z:∀k,(k=0\/n0<=k)->Deaf (t++#[y]) k=Deaf t k:=by
  intro k n;by_cases w:y.g=k
  ·rw[Deaf_push]
   unfold deafStep;have:=hd (by rw[w];exact n)
   split
   ·rename_i e;exact absurd e this.1
   ·rename_i e;exact absurd e this.2
   ·rfl
  ·exact Deaf_other t w _ (λop l=>by have:op=y:=(by simpa using l);rw[this])
 refine⟨by rw[Array.size_append];have:=h.le;omega,λsaid=>?_,λi op a hi d s D=>(h.kn0 i op a (o i op a hi d).2 d s D).app _,λj A i op a hi d s q=>(h.knS j A i op a (o i op a hi d).2 d s q).app _,
  λi op a hi p f r=>h.cls i op a hi (o i op a p f).2 f r,λi op a hi p f r=>h.who i op a hi (o i op a p f).2 f r,by rw[z 0 (.inl rfl)];exact h.hears,λk n=>by rw[z k (.inr n)];exact h.hearS k n⟩
 refine noRace_append (g:=y.g) (h.clean said) (λop l=>by have:op=y:=(by simpa using l);rw[this]) λi a d op l b v=>?_
 have:op=y:=by simpa using l
 rw[this,x] at v;cases v
theorem Tr.silent (h:Tr Low n0 m t₀ t ow)(hu:∀op∈u,op.act.touch?=none/\((op.g=0\/n0<=op.g)->op.act≠.mark .disable/\op.act≠.mark .enable)):Tr Low n0 m t₀ (t++u) ow:=by
 obtain⟨l⟩:=u;induction l generalizing t with
 | nil=>simpa using h
 | cons y l d=>
  have e:t++(y::l).toArray=(t++#[y])++l.toArray:=AU
  rw[e];have b:=hu y AU;exact d (h.one b.1 b.2) λop hop=>hu op yFb
theorem Tr.spawn (h:Tr Low n0 m t₀ t ow)(fn f:FuncId)(pos d:String):Tr Low n0 (m+1) t₀ (t++#[{g:=0,fn,pos,act:=.go (n0+m)},{g:=n0+m,fn:=f,pos:=d,act:=.start}]) ow:=by
 have e:t++#[({g:=0,fn,pos,act:=.go (n0+m)}:MemOp),{g:=n0+m,fn:=f,pos:=d,act:=.start}]=(t++#[({g:=0,fn,pos,act:=.go (n0+m)}:MemOp)])++#[({g:=n0+m,fn:=f,pos:=d,act:=.start}:MemOp)]:=by rw[Array.append_assoc];rfl
 have b:Tr Low n0 m t₀ (t++#[{g:=0,fn,pos,act:=.go (n0+m)},{g:=n0+m,fn:=f,pos:=d,act:=.start}]) ow:=by
  rw[e];exact(h.one rfl (λ_=>⟨AU,AU⟩)).one rfl (λ_=>⟨AU,AU⟩)
 refine⟨b.le,b.clean,b.kn0,λj v i op a hi r q o=>?_,b.cls,λi op a hi x y A=>(b.who i op a hi x y A).imp id λ⟨j,v,e⟩=>⟨j,AQ,e⟩,b.hears,b.hearS⟩;rcases E4 j m with s | s
 ·exact b.knS j s i op a hi r q o
 ·obtain rfl:j=m:=by omega
  have F:=h.le;have B:t[i]?=some op:=by rw[getElem?_append_old AQ] at hi;exact hi
  have z:=h.kn0 i op a B r q (.inl o);generalize hu:(#[({g:=0,fn,pos,act:=.go (n0+j)}:MemOp),{g:=n0+j,fn:=f,pos:=d,act:=.start}]:Trace)=u at*;have l:(t++u)[t.size]?=some {g:=0,fn,pos,act:=.go (n0+j)}:=by subst hu;rw[RV (CG _)];simp
  have n:(t++u)[t.size+1]?=some {g:=n0+j,fn:=f,pos:=d,act:=.start}:=by subst hu;rw[RV AQ];simp
  have w:(t++u).deaf 0 t.size=0:=by rw[deaf_old (CG _)];exact h.hears
  have E:(t++u).deaf (n0+j) (t.size+1)=0:=by
   rw[deaf_succ l,deaf_old (CG _)];exact h.hearS (n0+j) AQ
  have C:=z.hb_new (u:=u) (CG _) l rfl;have D:HappensBefore (t++u) t.size (t.size+1):=.single (.inr ⟨.spawn (child:=n0+j) (by rw[act?_of l]) (by rw[act?_of n]) (by simp[Trace.g?,n]),⟨0,by simp[Trace.g?,l],w⟩,⟨n0+j,by simp[Trace.g?,n],E⟩⟩);exact⟨t.size+1,_,n,rfl, .inr (C.trans D)⟩
def X0 (t:Trace)(k c:Nat):Prop:=∃b op,t[b]?=some op/\op.g=k/\op.act=.close c/\t.heard b/\∀i d a,t[i]?=some d->d.g=k->d.act.touch?=some a->i<b
theorem X0.app (h:X0 t k c)(hu:∀op∈u,op.g=k->op.act.touch?=none):X0 (t++u) k c:=by
 obtain⟨r,op,e,l,o,s,n⟩:=h;have f:=lt_size_of_getElem? e;refine⟨r,op,by rw[getElem?_append_old f];exact e,l,o,(heard_old f).2 s,λi j a hi d b=>?_⟩;rcases getElem?_append_cases hi with⟨_,p⟩ | ⟨_,q⟩
 ·exact n i j a p d b
 ·rw[hu j q d] at b;cases b
def JF (t:Trace)(k:Nat):Prop:=∀i op a,t[i]?=some op->op.g=k->op.act.touch?=some a->Knows t 0 i
theorem JF.app (h:JF t k)(hu:∀op∈u,op.g=k->op.act.touch?=none):JF (t++u) k:=by
 intro i op a hi d b;rcases getElem?_append_cases hi with⟨_,e⟩ | ⟨_,f⟩
 ·exact(h i op a e d b).app u
 ·rw[hu op f d] at b;cases b
theorem X0.known (h:X0 t k c)(hears:Deaf t 0=0)(fn:FuncId)(pos:String):JF (t++#[{g:=0,fn,pos,act:=.recvClosed c}]) k:=by
 obtain⟨j,op,d,q,v,y,r⟩:=h;have e:=lt_size_of_getElem? d;generalize hu:(#[({g:=0,fn,pos,act:=.recvClosed c}:MemOp)]:Trace)=u;have b:(t++u)[t.size]?=some {g:=0,fn,pos,act:=.recvClosed c}:=by subst hu;simp
 have s:(t++u).deaf 0 t.size=0:=by rw[deaf_old (CG _)];exact hears
 have o:(t++u)[j]?=some op:=by rw[getElem?_append_old e];exact d
 have p:HappensBefore (t++u) j t.size:=.single (.inr ⟨.closed (c:=c) (by rw[act?_of o,v]) (by rw[act?_of b]),(heard_old e).2 y,⟨0,by simp[Trace.g?,b],s⟩⟩);intro i n a hi l f;rcases getElem?_append_cases hi with⟨_,w⟩ | ⟨_,x⟩
 ·have z:=r i n a w l f
  exact⟨t.size,_,b,rfl, .inr ((hb_po z hi o (l.trans q.symm)).trans p)⟩
 ·subst hu
  have:n={g:=0,fn,pos,act:=.recvClosed c}:=by simpa using x
  subst this;cases f
theorem Tr.close (h:Tr Low n0 m t₀ t ow)(r:Ow Low ow size)(l:∃j,j<m/\k=n0+j)(fn:FuncId)(pos:String):
  Tr Low n0 m t₀ (t++MemOp.ofEvents k fn pos #[⟨.obj c,false,true⟩,⟨.obj c,true,true⟩]) ow/\X0 (t++MemOp.ofEvents k fn pos #[⟨.obj c,false,true⟩,⟨.obj c,true,true⟩]) k c:=by
 have e:MemOp.ofEvents k fn pos #[⟨.obj c,false,true⟩,⟨.obj c,true,true⟩]=#[{g:=k,fn,pos,act:=.access ⟨.obj c,false,true⟩},{g:=k,fn,pos,act:=.close c}]:=by
  rw[ofEvents_eq];simp[MemAct.ofEvent]
 have hd:∀t:Trace,Deaf (t++MemOp.ofEvents k fn pos #[⟨.obj c,false,true⟩,⟨.obj c,true,true⟩]) k=Deaf t k:=λt=>by rw[Deaf_own];rfl
 have s:n0<=k:=by obtain⟨j,_,rfl⟩:=l;omega
 refine⟨h.app r (.inr l) (λop d=>by obtain⟨e,_,rfl⟩:=Go.Conc.mem_ofEvents d;rfl) (λop d a b _=>?_) hd,?_⟩
 ·rw[e] at d
  have:op={g:=k,fn,pos,act:=.access ⟨.obj c,false,true⟩}\/op={g:=k,fn,pos,act:=.close c}:=by simpa using d
  rcases this with rfl | rfl
  ·simp[MemAct.touch?] at b;subst b;exact .inr ⟨c,false,rfl⟩
  ·cases b
 ·rw[e]
  generalize hu:(#[({g:=k,fn,pos,act:=.access ⟨.obj c,false,true⟩}:MemOp),{g:=k,fn,pos,act:=.close c}]:Trace)=u;have o:(t++u)[t.size]?=some {g:=k,fn,pos,act:=.access ⟨.obj c,false,true⟩}:=by subst hu;rw[RV (CG _)];simp
  have f:(t++u)[t.size+1]?=some {g:=k,fn,pos,act:=.close c}:=by subst hu;rw[RV AQ];simp
  have q:(t++u).deaf k (t.size+1)=0:=by rw[deaf_succ o,deaf_old (CG _)];exact h.hearS k s
  refine⟨t.size+1,_,f,rfl,rfl,⟨k,by simp[Trace.g?,f],q⟩,λi y a hi w b=>?_⟩;have v:(t++u).size=t.size+2:=by subst hu;simp
  have:=lt_size_of_getElem? hi
  rcases E4 i (t.size+1) with n | x
  ·exact n
  ·obtain rfl:i=t.size+1:=by omega
   rw[f] at hi;cases hi;cases b
theorem Tr.past (h:Tr Low n0 m t₀ t ow)(A:∀j,j<m->JF t (n0+j)):∃B,Past (λ_=>False) B t:=by
 have p:∀i op a,t[i]?=some op->op.act.touch?=some a->a.loc.isMemory=true->Knows t 0 i:=by
  intro i op a hi d b;rcases E4 i t₀.size with y | G
  ·exact h.kn0 i op a hi d b (.inl y)
  ·rcases h.who i op a G hi d b with C | ⟨j,s,n⟩
   ·exact h.kn0 i op a hi d b (.inr C)
   ·exact A j s i op a hi n d
 obtain⟨B,_,v⟩:=eb t 0;refine⟨B,h.clean,λi a d b=>?_,λi g n w D=>?_,h.hears,v⟩
 ·obtain⟨op,e,o⟩:=touch_of d
  exact .inl (p i op a e o b)
 ·obtain⟨x,F,b,_⟩:=D
  obtain⟨op,e,o⟩:=touch_of F;obtain⟨q,z,l,r,f⟩:=p i op x e o b;have E:op.g=g:=by simpa[Trace.g?,e] using n
  rcases f with rfl | f
  ·rw[e] at l;cases l;exact absurd (E.symm.trans r) w
  ·exact⟨q,by simp[Trace.g?,l,r],f⟩
theorem Tr.begin {P:Program}{gs:Array Goroutine}{q:Nat->Nat}{B:Nat}(d:Past (λ_=>False) B t)(l:Leavers P t gs q):Tr Low gs.size 0 t t ow:=by
 refine⟨CG _,d.clean,λi op a hi f e _=>?_,λj n=>by omega,λi op a hi b=>?_,λi op a hi b=>?_,d.hears,l.above⟩
 ·rcases d.known i a (by rw[touchAt_of hi];exact f) e with h | h
  ·exact h
  ·exact h.1.elim
 ·have:=lt_size_of_getElem? b;omega
 ·have:=lt_size_of_getElem? b;omega
end
