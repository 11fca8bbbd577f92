import Derived.Test.YtifcnfeppdbjdaaGreatDoorCC8
import Derived.Conc.CrowdComm
namespace Go.Co
open Go.Conc
open Go.ConcN (sumTo upd sumTo_upd upd_ne upd_same)
section
variable {g:Goroutine}
variable {P : Program}
def K5 (P:Program)(gs:Array Goroutine)(t:Trace)(g:Goroutine):Prop:=gs[0]?=some g/\(∃q,Leavers P t gs q)/\∃B,Past (λ_=>False) B t
def Comes (P:Program)(g:Goroutine)(w:World)(Stop:Goroutine->World->Prop):Prop:=
  ∀e sl t,K5 P e t g->OkG g->∃N h d b i f,runNT P N (crowd e w sl) t=(.next (crowd h b i),f)/\K5 P h f d/\OkG d/\b.tape=w.tape/\Stop d b
theorem Comes.stop {w:World}{Stop:Goroutine->World->Prop}(h:Stop g w):Comes P g w Stop:=
  λb sl t hF d=>⟨0,b,g,w,sl,t,rfl,hF,d,rfl,h⟩
theorem Comes.then {w:World}{S d:Goroutine->World->Prop}(h:Comes P g w S)(r:∀f b,b.tape=w.tape->S f b->Comes P f b d):Comes P g w d:=by
  intro o sl t hF q;obtain⟨N,D,G,B,n,p,l,j,A,e,y⟩:=h o sl t hF q;obtain⟨K,H,x,s,z,C,v,i,E,F,I⟩:=r G B e y D n p j A;exact⟨N+K,H,x,s,z,C,by rw[runNT_add,l];exact v,i,E,F.trans e,I⟩
theorem Comes.mono {w:World}{S d:Goroutine->World->Prop}(h:Comes P g w S)(i:∀e b,b.tape=w.tape->S e b->d e b):Comes P g w d:=
  h.then λ_ _ f j=>Comes.stop (i _ _ f j)
theorem eC (ops:Array MemOp)(B:Nat):∃d,B<=d/\∀op∈ops,op.act.low d:=by
  have s:∀x:MemAct,∃B,x.low B:=by
    intro x;cases x with
    | access e=>
      obtain⟨l,a,b⟩:=e;cases l with
      | cell a=>exact⟨a.block+1,DV _⟩
      | obj r=>exact⟨r+1,DV _⟩
      | _=>exact⟨0,trivial⟩
    | mark m=>
      cases m with
      | acquire a | release a | releaseMerge a | read a | write a=>exact⟨a.block+1,DV _⟩
      | _=>exact⟨0,trivial⟩
    | go _ | start=>exact⟨0,trivial⟩
    | send c _ | sendDone c _ | recv c _ _ | recvDone c _ | close c | recvClosed c=>exact⟨c+1,DV _⟩
  obtain⟨l⟩:=ops;induction l with
  | nil=>exact⟨B,CG _,λop h=>by simp at h⟩
  | cons x l n=>
    obtain⟨i,o,q⟩:=n;obtain⟨f,j⟩:=s x.act;refine⟨max i f,CJ o (Kx _ _),λop v=>?_⟩;have:op=x\/op∈l:=by simpa using v
    rcases this with rfl | h
    · exact MemAct.low_mono (MZ _ _) j
    · exact MemAct.low_mono (Kx _ _) (q op BR)
theorem sP (T:OkP P){Stop:Goroutine->World->Prop}{w:World}(h:Way P Stop g w):Comes P g w Stop:=by
  refine h (λg w=>Comes P g w Stop) (λg w h=>Comes.stop h) ?_;intro g w U F aC b sl t ⟨o,⟨q,f⟩,B,G⟩ _;have main:∀(M:Nat) (b:Array Goroutine) (z:Nat) (sl:Option (Nat × Nat)) (t:Trace) (q:Nat->Nat),sumTo b.size q<=M->b[0]?=some g->Leavers P t b q->(∃B,Past (λ_=>False) B t)->
      ∃N y g' C e t',runNT P N (crowd b (w.at z) sl) t=(.next (crowd y C e),t')/\K5 P y t' g'/\OkG g'/\C.tape=w.tape/\Stop g' C:=by
    intro M;induction M with
    | zero | succ M ih=>
      intro b z sl t q hM o f G;have ah:∀x∈b,awake x:=by
        intro x n;obtain⟨i,hi,rfl⟩:=Array.mem_iff_getElem.1 n;rcases KA i with rfl | R
        · have:b[0]=g:=by simpa[JI hi] using o
          rw[this];exact awake_of (.inl F)
        · exact awake_of ((f.old i _ R (JI hi)).status.elim .inl λx=>.inr (.inr x))
      have ai:=λi x hi n=>(f.old i x hi n).status
      obtain⟨i,x,d,e,hi,n,ae⟩:=crowd_pick (P:=P) (w:=w.at z) (sl:=sl) ah ⟨0,g,o,F⟩;rcases KA i with rfl | R
      · obtain rfl:x=g:=by rw[o] at hi;exact(DG hi).symm
        obtain⟨g',C,Z,W,al,hX⟩:=aC d;have az:C.tape=w.tape:=by
          have:=(eD T U (w.at d)).tape
          rw[W] at this;exact this
        obtain⟨y,E,aa,O,J,aw,r,ap⟩:=tj (sl:=e) T U o ai W al;obtain⟨B,A⟩:=G;obtain⟨B',aB,ax⟩:=eC E B;have aj:=(P3 T U F W).1;have ar:Past (λ_=>False) B' (t++E):=(A.mono aB).app0 r (λ_ _ _ _ h=>h.elim) (by rw[ap t A.hears,A.hears]) ax;have aA:Leavers P (t++E) y q:=by
          refine⟨λj ag l s=>?_,λj l=>?_⟩
          · rw[Deaf_other t (g':=0) AQ _ r]
            exact f.old j ag l (by rw[<-aw j l];exact s)
          · rw[Deaf_other t (g':=0) (by have:=(Array.getElem?_eq_some_iff.1 o).1;omega) _ r]
            exact f.above j (by rw[<-O];exact l)
        obtain⟨N,ac,L,V,S,t2,K,I,Q,ab,X⟩:=hX y e (t++E) ⟨J,⟨q,aA⟩,B',ar⟩ aj;refine⟨N+1,ac,L,V,S,t2,?_,I,Q,ab.trans az,X⟩;simp only[runNT,ae];rw[show crowd b ((w.at z).at d) e=crowd b (w.at d) e from rfl,aa];exact K
      · have D:=f.old i x R hi
        have av:(i==0)=false:=by simp;omega
        have hlt:=(Array.getElem?_eq_some_iff.1 hi).1;cases Y:q i with
        | zero=>rw[Y] at D;rw[D.1] at n;cases n
        | succ k=>
          rw[Y] at D;rcases D with⟨hf,_⟩ | ⟨_,v,Z,hm,ao,ak⟩
          · rw[hf] at n;cases n
          have aa:=runT_crowd_go (P:=P) (sl:=e) (i:=i) hi (by rw[av];exact ao (w.at d));have O:((b.map (woken P x v (w.at d))).setIfInBounds i v).size=b.size:=AU
          have aE:sumTo b.size (upd q i k)+(k+1)=sumTo b.size q+k:=by
            have:=sumTo_upd q k id hlt
            simpa[Y] using this
          have r:∀op∈MemOp.ofEvents i x.frame.fn x.frame.place Z,op.g=i:=λop aD=>by obtain⟨aF,_,rfl⟩:=Go.Conc.mem_ofEvents aD;rfl
          have J:((b.map (woken P x v (w.at d))).setIfInBounds i v)[0]?=some g:=by
            have an:i≠0:=AQ
            rw[G0 an,K1,o];simp[woken_run F]
          have ay:Leavers P (t++MemOp.ofEvents i x.frame.fn x.frame.place Z) ((b.map (woken P x v (w.at d))).setIfInBounds i v) (upd q i k):=by
            refine⟨λj ag l s=>?_,λj l=>?_⟩
            · by_cases H:i=j
              · subst H
                rw[E9 BZ] at s;obtain rfl:=DG s;rw[upd_same,Deaf_own];exact ak
              · rw[G0 H,K1] at s
                obtain⟨au,hz,rfl⟩:=Option.map_eq_some_iff.1 s;have af:=f.old j au l hz;rw[woken_quitsD af,upd_ne q k (Ne.symm H),Deaf_other t H _ r];exact af
            · rw[Deaf_other t (g':=i) (by simp at l;omega) _ r]
              exact f.above j (by simpa using l)
          obtain⟨B,A⟩:=G;first
            | omega
            | (obtain⟨N,ac,L,V,S,t2,K,I,Q,ab,X⟩:=ih _ d e _ (upd q i k) (by rw[O];omega) J ay ⟨B,A.mute AQ hm⟩
               refine⟨N+1,ac,L,V,S,t2,?_,I,Q,ab,X⟩;simp only[runNT,ae];rw[show crowd b ((w.at z).at d) e=crowd b (w.at d) e from rfl,aa]
               exact K)
  exact main _ b w.drawn sl t q (CG _) o f ⟨B,G⟩
end
variable {Low:Nat}{P:Program}{a:World}
structure Keep (Low:Nat)(O:Nat->Prop)(w w':World):Prop where
  still:∀b,b<Low->w'.heap[b]?=w.heap[b]?
  mine:∀b,O b->w'.heap[b]?=w.heap[b]?
  size:w.heap.size<=w'.heap.size
  tape:w'.tape=w.tape
  os:w'.os=w.os
  out:w'.output=w.output
theorem Keep.refl (Low:Nat)(O:Nat->Prop)(w:World):Keep Low O w w:=⟨λ_ _=>rfl,λ_ _=>rfl,CG _,rfl,rfl,rfl⟩
theorem Keep.trans {O:Nat->Prop}{b c:World}(h:Keep Low O a b)(k:Keep Low O b c):Keep Low O a c:=
  ⟨λx d=>(k.still x d).trans (h.still x d),λx d=>(k.mine x d).trans (h.mine x d),CJ h.size k.size,k.tape.trans h.tape,k.os.trans h.os,k.out.trans h.out⟩
theorem Keep.at {O:Nat->Prop}{b:World}(h:Keep Low O a b)(d:Nat):Keep Low O a (b.at d):=⟨h.still,h.mine,h.size,h.tape,h.os,h.out⟩
theorem Keep.sub {O d:Nat->Prop}{b:World}(h:Keep Low O a b)(e:∀x,d x->O x):Keep Low d a b:=⟨h.still,λx f=>h.mine x (e x f),h.size,h.tape,h.os,h.out⟩
def Zq (c:Nat)(w:World):Prop:=∃s r,w.heap[c]?=some (.chan 0 #[] false s r false)
def JF (c:Nat)(w:World):Prop:=∃s r,w.heap[c]?=some (.chan 0 #[] true s r false)
def EvO (Low:Nat)(O:Nat->Prop)(e:Event):Prop:=∃a wr,e=⟨.cell a,wr,false⟩/\(O a.block\/(a.block<Low/\wr=false))
def grown (O:Nat->Prop)(w w':World):Nat->Prop:=λb=>O b\/(w.heap.size<=b/\b<w'.heap.size)
structure EY (Low:Nat)(O:Nat->Prop)(w w':World)(es:Array Event):Prop where
  rest:∀b,b<w.heap.size->¬O b->w'.heap[b]?=w.heap[b]?
  size:w.heap.size<=w'.heap.size
  tape:w'.tape=w.tape
  os:w'.os=w.os
  out:w'.output=w.output
  ev:∀e∈es,EvO Low (grown O w w') e\/e=⟨.mark .noRoom,false,true⟩
structure SC where
  c:Nat
  O:Nat->Prop
  vs:List Value
  g:Goroutine
  w:World
def IJ (P:Program)(Low:Nat)(X:SC->Prop)(x:SC):Prop:=
  x.g.status=.running/\
  ((∀b,Keep Low x.O x.w b->Zq x.c b->∃d e h,stepG P false x.g b=.go d e h/\d.status=.running/\EY Low x.O b e h/\X ⟨x.c,grown x.O b e,x.vs,d,e⟩)\/
   (∃v f,x.vs=v::f/\∀b,Keep Low x.O x.w b->Zq x.c b->(∃z,stepG P false x.g b=.comm x.g #[scase x.c v z] true .send b #[])/\X ⟨x.c,x.O,f,Conc.served x.g undef,b⟩)\/
   (x.vs=[]/\mayWake P x.g=true/\∀b s r,Keep Low x.O x.w b->b.heap[x.c]?=some (.chan 0 #[] false s r false)->∃d n,stepG P false x.g b=.go d (b.shut x.c s r false) #[⟨.obj x.c,false,true⟩,⟨.obj x.c,true,true⟩]/\d.status=.running/\QuitsIn P n d))
theorem IJ.mono {X Y:SC->Prop}(i:∀x,X x->Y x){x:SC}(h:IJ P Low X x):IJ P Low Y x:=by
  refine⟨h.1,?_⟩;rcases h.2 with h | ⟨v,l,e,h⟩ | h
  · exact .inl λf k o=>let ⟨j,p,n,a,b,c,d⟩:=h f k o;⟨j,p,n,a,b,c,i _ d⟩
  · exact .inr (.inl ⟨v,l,e,λf k o=>⟨(h f k o).1,i _ (h f k o).2⟩⟩)
  · exact .inr (.inr h)
def D4 (P:Program)(Low:Nat)(x:SC):Prop:=∀X:SC->Prop,(∀x,IJ P Low X x->X x)->X x
theorem D4.mk {x:SC}(h:IJ P Low (D4 P Low) x):D4 P Low x:=λX b=>b x (h.mono λ_y d=>d X b)
theorem D4.inv {x:SC}(h:D4 P Low x):IJ P Low (D4 P Low) x:=
  h (IJ P Low (D4 P Low)) λ_ b=>b.mono λ_ d=>D4.mk d
def Nx (P:Program)(Low:Nat)(y x:SC):Prop:=∃b,Keep Low x.O x.w b/\Zq x.c b/\
  ((∃f d h,stepG P false x.g b=.go f d h/\Zq x.c d/\y=⟨x.c,grown x.O b d,x.vs,f,d⟩)\/
   (∃v e z,x.vs=v::e/\stepG P false x.g b=.comm x.g #[scase x.c v z] true .send b #[]/\y=⟨x.c,x.O,e,Conc.served x.g undef,b⟩))
theorem D4.acc {x:SC}(h:D4 P Low x):Acc (Nx P Low) x:=by
  refine h _ λx I=>Acc.intro x λy E=>?_
  obtain⟨f,p,o,l⟩:=E;rcases I.2 with h | ⟨v,J,e,h⟩ | ⟨_,_,h⟩
  · obtain⟨G,N,M,d,_,_,i⟩:=h f p o
    rcases l with⟨w,q,A,b,_,rfl⟩ | ⟨v,J,z,_,b,rfl⟩
    · rw[d] at b;cases b;exact i
    · rw[d] at b;cases b
  · obtain⟨⟨z,d⟩,i⟩:=h f p o
    rcases l with⟨w,q,A,b,_,rfl⟩ | ⟨H,D,F,j,b,rfl⟩
    · rw[d] at b;cases b
    · rw[e] at j;cases j;exact i
  · obtain⟨s,r,C⟩:=o
    obtain⟨G,n,d,_⟩:=h f s r p C;rcases l with⟨w,q,A,b,⟨K,L,B⟩,rfl⟩ | ⟨H,D,F,j,b,rfl⟩
    · rw[d] at b;cases b
      rw[show(f.shut x.c s r false).heap[x.c]?=some (.chan 0 #[] true s r false) from heap_put C] at B;cases B
    · rw[d] at b;cases b
structure RC where
  O:Nat->Prop
  L:List (Nat × List Value × Bool)
  g:Goroutine
  w:World
def IL (P:Program)(Low:Nat)(Stop:Goroutine->World->Prop)(X:RC->Prop)(x:RC):Prop:=
  x.g.status=.running/\
  (((∀e∈x.L,e.2.2=true)/\∀d,Keep Low x.O x.w d->Stop x.g d)\/
   (∀d,Keep Low x.O x.w d->∃f i n,stepG P true x.g d=.go f i n/\f.status=.running/\EY Low x.O d i n/\X ⟨grown x.O d i,x.L,f,i⟩)\/
   (∃c,x.O c/\∀d,Keep Low x.O x.w d->∃f child h,stepG P true x.g d=.spawn f child d #[]/\f.status=.running/\child.status=.running/\Zq c d/\
      D4 P Low ⟨c,λ_=>False,h,child,d⟩/\X ⟨λb=>x.O b/\b≠c,x.L++[(c,h,false)],f,d⟩)\/
   (∃(j c:Nat) (h:List Value) (z:Value),x.L[j]?=some (c,h,false)/\∀d,Keep Low x.O x.w d->stepG P true x.g d=.comm x.g #[rcase c z] true (.recv true) d #[]/\
      (∀v l,h=v::l->X ⟨x.O,x.L.set j (c,l,false),Conc.served x.g (recvd true v true),d⟩)/\(h=[]->X ⟨x.O,x.L.set j (c,[],true),Conc.served x.g (recvd true z false),d⟩)))
theorem IL.mono {Stop:Goroutine->World->Prop}{X Y:RC->Prop}(l:∀x,X x->Y x){x:RC}(h:IL P Low Stop X x):IL P Low Stop Y x:=by
  refine⟨h.1,?_⟩;rcases h.2 with h | h | ⟨c,r,h⟩ | ⟨j,c,n,z,q,h⟩
  · exact .inl h
  · exact .inr (.inl λi k=>let ⟨o,A,y,a,b,c,d⟩:=h i k;⟨o,A,y,a,b,c,l _ d⟩)
  · exact .inr (.inr (.inl ⟨c,r,λi k=>let ⟨o,p,n,a,b,e,f,s,d⟩:=h i k;⟨o,p,n,a,b,e,f,s,l _ d⟩⟩))
  · exact .inr (.inr (.inr ⟨j,c,n,z,q,λi k=>⟨(h i k).1,λv w e=>l _ ((h i k).2.1 v w e),λe=>l _ ((h i k).2.2 e)⟩⟩))
def EK (P:Program)(Low:Nat)(Stop:Goroutine->World->Prop)(x:RC):Prop:=∀X:RC->Prop,(∀x,IL P Low Stop X x->X x)->X x
theorem EK.mk {Stop:Goroutine->World->Prop}{x:RC}(h:IL P Low Stop (EK P Low Stop) x):EK P Low Stop x:=λX b=>b x (h.mono λ_y d=>d X b)
theorem EK.inv {Stop:Goroutine->World->Prop}{x:RC}(h:EK P Low Stop x):IL P Low Stop (EK P Low Stop) x:=
  h (IL P Low Stop (EK P Low Stop)) λ_ b=>b.mono λ_ d=>EK.mk d
def RL {α:Type}(r:α->α->Prop)(b l:List α):Prop:=∃(i:Nat) (x y:α),l[i]?=some x/\r y x/\b=l.set i y
theorem RL.acc {α:Type}{r:α->α->Prop}:∀{l:List α},(∀x∈l,Acc r x)->Acc (RL r) l:=by
  intro l;induction l with
  | nil=>exact λ_=>Acc.intro _ λf ⟨i,x,y,h,_⟩=>by simp at h
  | cons a l d=>
    intro h;have e:=h a E4;have q:=d λx j=>h x (CQ _ j)
    clear h d;induction e generalizing l with
    | intro a _ n=>
      induction q with
      | intro l p o=>
        refine Acc.intro _ ?_;rintro f ⟨i,x,y,hi,b,rfl⟩;cases i with
        | zero=>
          simp at hi;subst hi;exact n y b l (Acc.intro l p)
        | succ i=>
          simp at hi;exact o (l.set i y) ⟨i,x,y,hi,b,rfl⟩
def LD (P:Program)(Low:Nat):SC ⊕ Nat->SC ⊕ Nat->Prop
  | .inl y, .inl x=>Nx P Low y x
  | .inr _, .inl _=>True
  | .inr m, .inr n=>m<n
  | .inl _, .inr _=>False
theorem Xc (P:Program)(Low:Nat)(n:Nat):Acc (LD P Low) (.inr n):=by
  induction n using Nat.strongRecOn with
  | ind n d=>
    refine Acc.intro _ λy b=>?_
    cases y with
    | inl y=>exact b.elim
    | inr m=>exact d m b
theorem uz {x:SC}(h:Acc (Nx P Low) x):Acc (LD P Low) (.inl x):=by
  induction h with
  | intro x _ d=>
    refine Acc.intro _ λy b=>?_
    cases y with
    | inl y=>exact d y b
    | inr m=>exact Xc P Low m
def Cl (Low:Nat)(ow:Nat->Nat->Prop)(g:Nat)(a:Touch):Prop:=
 (∃ad wr,a=⟨.cell ad,wr, .plain⟩/\(ow g ad.block\/(ad.block<Low/\wr=false)))\/∃c wr,a=⟨.obj c,wr, .atomic⟩
structure Tr (Low n0 m:Nat)(t₀ t:Trace)(ow:Nat->Nat->Prop):Prop where
 le:t₀.size<=t.size
 clean:∀said,¬Race said t
 kn0:∀i op a,t[i]?=some op->op.act.touch?=some a->a.loc.isMemory=true->(i<t₀.size\/op.g=0)->Knows t 0 i
 knS:∀j,j<m->∀i op a,t[i]?=some op->op.act.touch?=some a->a.loc.isMemory=true->i<t₀.size->Knows t (n0+j) i
 cls:∀i op a,t₀.size<=i->t[i]?=some op->op.act.touch?=some a->a.loc.isMemory=true->Cl Low ow op.g a
 who:∀i op a,t₀.size<=i->t[i]?=some op->op.act.touch?=some a->a.loc.isMemory=true->op.g=0\/∃j,j<m/\op.g=n0+j
 hears:Deaf t 0=0
 hearS:∀k,n0<=k->Deaf t k=0
structure Ow (Low:Nat)(ow:Nat->Nat->Prop)(size:Nat):Prop where
 apart:∀k l b,ow k b->ow l b->k=l
 low:∀k b,ow k b->Low<=b
 up:∀k b,ow k b->b<size
section
variable {a:Touch}{c g k size:Nat}{u:Trace}
variable {Low n0 m : Nat}{t₀ t : Trace}{ow tu : Nat -> Nat -> Prop}
theorem Cl.mono (h:Cl Low ow g a)(d:∀k b,ow k b->tu k b):Cl Low tu g a:=
 h.imp (λ⟨ad,wr,e,k⟩=>⟨ad,wr,e,k.imp (d _ _) id⟩) id
theorem Tr.wider (h:Tr Low n0 m t₀ t ow)(j:∀k b,ow k b->tu k b):Tr Low n0 m t₀ t tu:=
 ⟨h.le,h.clean,h.kn0,h.knS,λi op a hi e f d=>(h.cls i op a hi e f d).mono j,h.who,h.hears,h.hearS⟩
theorem tg {said:Bool}{g':Nat}(f:Ow Low ow size)(o:g≠g'){b:Touch}(e:Cl Low ow g a)(d:Cl Low ow g' b):¬a.conflicts said b:=by
 rintro⟨i,_,q,n⟩;rcases e with⟨ad,wr,rfl,e⟩ | ⟨c,wr,rfl⟩
 ·rcases d with⟨l,j,rfl,d⟩ | ⟨p,j,rfl⟩
  ·cases i
   rcases e with e | ⟨e,rfl⟩
   ·rcases d with d | ⟨d,rfl⟩
    ·exact o (f.apart _ _ _ e d)
    ·exact Nat.not_lt.2 (f.low _ _ e) d
   ·rcases d with d | ⟨d,rfl⟩
    ·exact Nat.not_lt.2 (f.low _ _ d) e
    ·rcases q with h | h<;>cases h
  ·cases i
 ·rcases d with⟨l,j,rfl,d⟩ | ⟨p,j,rfl⟩
  ·cases i
  ·rcases n with h | h | ⟨_,h,_⟩<;>cases h
theorem Tr.app (h:Tr Low n0 m t₀ t ow)(F:Ow Low ow size)(hg:g=0\/∃j,j<m/\g=n0+j)(hu:∀op∈u,op.g=g)
  (E:∀op∈u,∀a,op.act.touch?=some a->a.loc.isMemory=true->Cl Low ow g a) (hd:∀t:Trace,Deaf (t++u) g=Deaf t g):Tr Low n0 m t₀ (t++u) ow:=by
 have D:∀k,Deaf (t++u) k=Deaf t k:=by
  intro k;by_cases s:g=k
  ·subst s;exact hd t
  ·exact Deaf_other t s u hu
 refine⟨by rw[Array.size_append];have:=h.le;omega,λsaid=>?_,λi op a hi f w l=>?_,λj y i op a hi f w o=>?_,λi op a hi B v q=>?_,λi op a hi B v q=>?_,by rw[D];exact h.hears,λk s=>by rw[D];exact h.hearS k s⟩
 ·refine noRace_append (h.clean said) hu λi a f op I b G z=>?_
  obtain⟨x,r,A⟩:=touch_of f;have p:=z.2.1;have H:=z.1 ▸ p;rcases EZ i t₀.size with o | n
  ·rcases hg with rfl | ⟨j,y,rfl⟩
   ·exact h.kn0 i x a r A p (.inl o)
   ·exact h.knS j y i x a r A p o
  ·by_cases C:x.g=g
   ·have:=knows_own r
    rwa [C] at this
   ·exact absurd z (tg F C (h.cls i x a n r A p) (E op I b G H))
 ·rcases getElem?_append_cases hi with⟨_,d⟩ | ⟨n,e⟩
  ·exact(h.kn0 i op a d f w l).app u
  ·rcases l with l | l
   ·have:=h.le;omega
   ·have:=knows_own hi
    rwa [l] at this
 ·rcases getElem?_append_cases hi with⟨_,d⟩ | ⟨n,e⟩
  ·exact(h.knS j y i op a d f w o).app u
  ·have:=h.le;omega
 ·rcases getElem?_append_cases B with⟨_,d⟩ | ⟨n,e⟩
  ·exact h.cls i op a hi d v q
  ·rw[hu op e];exact E op e a v q
 ·rcases getElem?_append_cases B with⟨_,d⟩ | ⟨n,e⟩
  ·exact h.who i op a hi d v q
  ·rw[hu op e];exact hg
theorem Tr.one (h:Tr Low n0 m t₀ t ow){y:MemOp}(v:y.act.touch?=none)(hd:(y.g=0\/n0<=y.g)->y.act≠.mark .disable/\y.act≠.mark .enable):Tr Low n0 m t₀ (t++#[y]) ow:=by
 have o:∀i op a,(t++#[y])[i]?=some op->op.act.touch?=some a->i<t.size/\t[i]?=some op:=by
  intro i op a hi d;rcases getElem?_append_cases hi with⟨q,B⟩ | ⟨E,D⟩
  ·exact⟨q,B⟩
  ·have:op=y:=by simpa using D
   subst this;rw[v] at d;cases d
 have z:∀k,(k=0\/n0<=k)->Deaf (t++#[y]) k=Deaf t k:=by
  intro k n;by_cases w:y.g=k
  ·rw[Deaf_push]
   unfold deafStep;have:=hd (by rw[w];exact n)
   split
   ·rename_i e;exact absurd e this.1
   ·rename_i e;exact absurd e this.2
   ·rfl
  ·exact Deaf_other t w _ (λop l=>by have:op=y:=(by simpa using l);rw[this])
 refine⟨by rw[Array.size_append];have:=h.le;omega,λsaid=>?_,λi op a hi d p C=>(h.kn0 i op a (o i op a hi d).2 d p C).app _,λj A i op a hi d p q=>(h.knS j A i op a (o i op a hi d).2 d p q).app _,
  λi op a hi s f r=>h.cls i op a hi (o i op a s f).2 f r,λi op a hi s f r=>h.who i op a hi (o i op a s f).2 f r,by rw[z 0 (.inl rfl)];exact h.hears,λk n=>by rw[z k (.inr n)];exact h.hearS k n⟩
 refine noRace_append (g:=y.g) (h.clean said) (λop l=>by have:op=y:=(by simpa using l);rw[this]) λi a d op l b x=>?_
 have:op=y:=by simpa using l
 rw[this,v] at x;cases x
theorem Tr.silent (h:Tr Low n0 m t₀ t ow)(hu:∀op∈u,op.act.touch?=none/\((op.g=0\/n0<=op.g)->op.act≠.mark .disable/\op.act≠.mark .enable)):Tr Low n0 m t₀ (t++u) ow:=by
 obtain⟨l⟩:=u;induction l generalizing t with
 | nil=>simpa using h
 | cons y l d=>
  have e:t++(y::l).toArray=(t++#[y])++l.toArray:=AU
  rw[e];have b:=hu y AU;exact d (h.one b.1 b.2) λop hop=>hu op yFc
theorem Tr.spawn (h:Tr Low n0 m t₀ t ow)(fn f:FuncId)(pos d:String):Tr Low n0 (m+1) t₀ (t++#[{g:=0,fn,pos,act:=.go (n0+m)},{g:=n0+m,fn:=f,pos:=d,act:=.start}]) ow:=by
 have e:t++#[({g:=0,fn,pos,act:=.go (n0+m)}:MemOp),{g:=n0+m,fn:=f,pos:=d,act:=.start}]=(t++#[({g:=0,fn,pos,act:=.go (n0+m)}:MemOp)])++#[({g:=n0+m,fn:=f,pos:=d,act:=.start}:MemOp)]:=by rw[Array.append_assoc];rfl
 have b:Tr Low n0 m t₀ (t++#[{g:=0,fn,pos,act:=.go (n0+m)},{g:=n0+m,fn:=f,pos:=d,act:=.start}]) ow:=by
  rw[e];exact(h.one rfl (λ_=>⟨AU,AU⟩)).one rfl (λ_=>⟨AU,AU⟩)
 refine⟨b.le,b.clean,b.kn0,λj y i op a hi o q r=>?_,b.cls,λi op a hi B z v=>(b.who i op a hi B z v).imp id λ⟨j,y,e⟩=>⟨j,AQ,e⟩,b.hears,b.hearS⟩;rcases EZ j m with s | s
 ·exact b.knS j s i op a hi o q r
 ·obtain rfl:j=m:=by omega
  have F:=h.le;have w:t[i]?=some op:=by rw[getElem?_append_old AQ] at hi;exact hi
  have A:=h.kn0 i op a w o q (.inl r);generalize hu:(#[({g:=0,fn,pos,act:=.go (n0+j)}:MemOp),{g:=n0+j,fn:=f,pos:=d,act:=.start}]:Trace)=u at*;have n:(t++u)[t.size]?=some {g:=0,fn,pos,act:=.go (n0+j)}:=by subst hu;rw[RO (CG _)];simp
  have l:(t++u)[t.size+1]?=some {g:=n0+j,fn:=f,pos:=d,act:=.start}:=by subst hu;rw[RO AQ];simp
  have E:(t++u).deaf 0 t.size=0:=by rw[deaf_old (CG _)];exact h.hears
  have x:(t++u).deaf (n0+j) (t.size+1)=0:=by
   rw[deaf_succ n,deaf_old (CG _)];exact h.hearS (n0+j) AQ
  have D:=A.hb_new (u:=u) (CG _) n rfl;have C:HappensBefore (t++u) t.size (t.size+1):=.single (.inr ⟨.spawn (child:=n0+j) (by rw[act?_of n]) (by rw[act?_of l]) (by simp[Trace.g?,l]),⟨0,by simp[Trace.g?,n],E⟩,⟨n0+j,by simp[Trace.g?,l],x⟩⟩);exact⟨t.size+1,_,l,rfl, .inr (D.trans C)⟩
def Xk (t:Trace)(k c:Nat):Prop:=∃d op,t[d]?=some op/\op.g=k/\op.act=.close c/\t.heard d/\∀i b a,t[i]?=some b->b.g=k->b.act.touch?=some a->i<d
theorem Xk.app (h:Xk t k c)(hu:∀op∈u,op.g=k->op.act.touch?=none):Xk (t++u) k c:=by
 obtain⟨s,op,d,r,n,p,q⟩:=h;have j:=lt_size_of_getElem? d;refine⟨s,op,by rw[getElem?_append_old j];exact d,r,n,(heard_old j).2 p,λi f a hi e b=>?_⟩;rcases getElem?_append_cases hi with⟨_,l⟩ | ⟨_,o⟩
 ·exact q i f a l e b
 ·rw[hu f o e] at b;cases b
def IU (t:Trace)(k:Nat):Prop:=∀i op a,t[i]?=some op->op.g=k->op.act.touch?=some a->Knows t 0 i
theorem IU.app (h:IU t k)(hu:∀op∈u,op.g=k->op.act.touch?=none):IU (t++u) k:=by
 intro i op a hi d b;rcases getElem?_append_cases hi with⟨_,e⟩ | ⟨_,f⟩
 ·exact(h i op a e d b).app u
 ·rw[hu op f d] at b;cases b
theorem Xk.known (h:Xk t k c)(hears:Deaf t 0=0)(fn:FuncId)(pos:String):IU (t++#[{g:=0,fn,pos,act:=.recvClosed c}]) k:=by
 obtain⟨n,op,j,x,r,p,w⟩:=h;have f:=lt_size_of_getElem? j;generalize hu:(#[({g:=0,fn,pos,act:=.recvClosed c}:MemOp)]:Trace)=u;have b:(t++u)[t.size]?=some {g:=0,fn,pos,act:=.recvClosed c}:=by subst hu;simp
 have z:(t++u).deaf 0 t.size=0:=by rw[deaf_old (CG _)];exact hears
 have o:(t++u)[n]?=some op:=by rw[getElem?_append_old f];exact j
 have v:HappensBefore (t++u) n t.size:=.single (.inr ⟨.closed (c:=c) (by rw[act?_of o,r]) (by rw[act?_of b]),(heard_old f).2 p,⟨0,by simp[Trace.g?,b],z⟩⟩);intro i l a hi e d;rcases getElem?_append_cases hi with⟨_,q⟩ | ⟨_,s⟩
 ·have y:=w i l a q e d
  exact⟨t.size,_,b,rfl, .inr ((hb_po y hi o (e.trans x.symm)).trans v)⟩
 ·subst hu
  have:l={g:=0,fn,pos,act:=.recvClosed c}:=by simpa using s
  subst this;cases d
theorem Tr.close (h:Tr Low n0 m t₀ t ow)(s:Ow Low ow size)(l:∃j,j<m/\k=n0+j)(fn:FuncId)(pos:String):
  Tr Low n0 m t₀ (t++MemOp.ofEvents k fn pos #[⟨.obj c,false,true⟩,⟨.obj c,true,true⟩]) ow/\Xk (t++MemOp.ofEvents k fn pos #[⟨.obj c,false,true⟩,⟨.obj c,true,true⟩]) k c:=by
 have e:MemOp.ofEvents k fn pos #[⟨.obj c,false,true⟩,⟨.obj c,true,true⟩]=#[{g:=k,fn,pos,act:=.access ⟨.obj c,false,true⟩},{g:=k,fn,pos,act:=.close c}]:=by
  rw[ofEvents_eq];simp[MemAct.ofEvent]
 have hd:∀t:Trace,Deaf (t++MemOp.ofEvents k fn pos #[⟨.obj c,false,true⟩,⟨.obj c,true,true⟩]) k=Deaf t k:=λt=>by rw[Deaf_own];rfl
 have o:n0<=k:=by obtain⟨j,_,rfl⟩:=l;omega
 refine⟨h.app s (.inr l) (λop d=>by obtain⟨e,_,rfl⟩:=Go.Conc.mem_ofEvents d;rfl) (λop d a b _=>?_) hd,?_⟩
 ·rw[e] at d
  have:op={g:=k,fn,pos,act:=.access ⟨.obj c,false,true⟩}\/op={g:=k,fn,pos,act:=.close c}:=by simpa using d
  rcases this with rfl | rfl
  ·simp[MemAct.touch?] at b;subst b;exact .inr ⟨c,false,rfl⟩
  ·cases b
 ·rw[e]
  generalize hu:(#[({g:=k,fn,pos,act:=.access ⟨.obj c,false,true⟩}:MemOp),{g:=k,fn,pos,act:=.close c}]:Trace)=u;have q:(t++u)[t.size]?=some {g:=k,fn,pos,act:=.access ⟨.obj c,false,true⟩}:=by subst hu;rw[RO (CG _)];simp
  have f:(t++u)[t.size+1]?=some {g:=k,fn,pos,act:=.close c}:=by subst hu;rw[RO AQ];simp
  have n:(t++u).deaf k (t.size+1)=0:=by rw[deaf_succ q,deaf_old (CG _)];exact h.hearS k o
  refine⟨t.size+1,_,f,rfl,rfl,⟨k,by simp[Trace.g?,f],n⟩,λi y a hi v b=>?_⟩;have w:(t++u).size=t.size+2:=by subst hu;simp
  have:=lt_size_of_getElem? hi
  rcases EZ i (t.size+1) with r | x
  ·exact r
  ·obtain rfl:i=t.size+1:=by omega
   rw[f] at hi;cases hi;cases b
theorem Tr.past (h:Tr Low n0 m t₀ t ow)(D:∀j,j<m->IU t (n0+j)):∃B,Past (λ_=>False) B t:=by
 have p:∀i op a,t[i]?=some op->op.act.touch?=some a->a.loc.isMemory=true->Knows t 0 i:=by
  intro i op a hi d b;rcases EZ i t₀.size with w | A
  ·exact h.kn0 i op a hi d b (.inl w)
  ·rcases h.who i op a A hi d b with s | ⟨j,y,l⟩
   ·exact h.kn0 i op a hi d b (.inr s)
   ·exact D j y i op a hi l d
 obtain⟨B,_,v⟩:=eC t 0;refine⟨B,h.clean,λi a d b=>?_,λi g l F E=>?_,h.hears,v⟩
 ·obtain⟨op,e,o⟩:=touch_of d
  exact .inl (p i op a e o b)
 ·obtain⟨x,C,b,_⟩:=E
  obtain⟨op,e,o⟩:=touch_of C;obtain⟨q,z,f,r,n⟩:=p i op x e o b;have G:op.g=g:=by simpa[Trace.g?,e] using l
  rcases n with rfl | n
  ·rw[e] at f;cases f;exact absurd (G.symm.trans r) F
  ·exact⟨q,by simp[Trace.g?,f,r],n⟩
theorem Tr.begin {P:Program}{gs:Array Goroutine}{q:Nat->Nat}{B:Nat}(b:Past (λ_=>False) B t)(f:Leavers P t gs q):Tr Low gs.size 0 t t ow:=by
 refine⟨CG _,b.clean,λi op a hi e l _=>?_,λj n=>by omega,λi op a hi d=>?_,λi op a hi d=>?_,b.hears,f.above⟩
 ·rcases b.known i a (by rw[touchAt_of hi];exact e) l with h | h
  ·exact h
  ·exact h.1.elim
 ·have:=lt_size_of_getElem? d;omega
 ·have:=lt_size_of_getElem? d;omega
end
