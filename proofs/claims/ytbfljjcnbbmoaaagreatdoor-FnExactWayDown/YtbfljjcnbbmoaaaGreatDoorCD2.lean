import Derived.Test.YtbfljjcnbbmoaaaGreatDoorCC8
import Derived.Conc.CrowdComm
namespace Go.Co
open Go.Conc
open Go.ConcN (sumTo upd sumTo_upd upd_ne upd_same)
section
variable {g:Goroutine}
variable {P : Program}
def Frm (P:Program)(gs:Array Goroutine)(t:Trace)(g:Goroutine):Prop:=gs[0]?=some g/\(∃q,Leavers P t gs q)/\∃B,Past (λ_=>False) B t
def Comes (P:Program)(g:Goroutine)(w:World)(Stop:Goroutine->World->Prop):Prop:=
  ∀gs sl t,Frm P gs t g->OkG g->∃N gs' g' w' sl' t',runNT P N (crowd gs w sl) t=(.next (crowd gs' w' sl'),t')/\Frm P gs' t' g'/\OkG g'/\w'.tape=w.tape/\Stop g' w'
theorem Comes.stop {w:World}{Stop:Goroutine->World->Prop}(h:Stop g w):Comes P g w Stop:=
  λgs sl t hF hg=>⟨0,gs,g,w,sl,t,rfl,hF,hg,rfl,h⟩
theorem Comes.then {w:World}{S S':Goroutine->World->Prop}(h:Comes P g w S)(h':∀g' w',w'.tape=w.tape->S g' w'->Comes P g' w' S'):Comes P g w S':=by
  intro gs sl t hF hg;obtain⟨N,gs1,g1,w1,sl1,t1,hr,hF1,hg1,ht1,hs⟩:=h gs sl t hF hg;obtain⟨K,gs2,g2,w2,sl2,t2,hr2,hF2,hg2,ht2,hs2⟩:=h' g1 w1 ht1 hs gs1 sl1 t1 hF1 hg1;exact⟨N+K,gs2,g2,w2,sl2,t2,by rw[runNT_add,hr];exact hr2,hF2,hg2,ht2.trans ht1,hs2⟩
theorem Comes.mono {w:World}{S S':Goroutine->World->Prop}(h:Comes P g w S)(h':∀g' w',w'.tape=w.tape->S g' w'->S' g' w'):Comes P g w S':=
  h.then λ_ _ ht hs=>Comes.stop (h' _ _ ht hs)
theorem Aux (ops:Array MemOp)(B:Nat):∃B',B<=B'/\∀op∈ops,op.act.low B':=by
  have h1:∀x:MemAct,∃B,x.low B:=by
    intro x;cases x with
    | access e=>
      obtain⟨l,a,b⟩:=e;cases l with
      | cell a=>exact⟨a.block+1,Nat.lt_succ_self _⟩
      | obj r=>exact⟨r+1,Nat.lt_succ_self _⟩
      | _=>exact⟨0,trivial⟩
    | mark m=>
      cases m with
      | acquire a | release a | releaseMerge a | read a | write a=>exact⟨a.block+1,Nat.lt_succ_self _⟩
      | _=>exact⟨0,trivial⟩
    | go _ | start=>exact⟨0,trivial⟩
    | send c _ | sendDone c _ | recv c _ _ | recvDone c _ | close c | recvClosed c=>exact⟨c+1,Nat.lt_succ_self _⟩
  obtain⟨l⟩:=ops;induction l with
  | nil=>exact⟨B,A4d _,λop h=>by simp at h⟩
  | cons x l ih=>
    obtain⟨B1,hB1,hl⟩:=ih;obtain⟨B2,hx⟩:=h1 x.act;refine⟨max B1 B2,A4k hB1 (Nat.le_max_left _ _),λop hop=>?_⟩;have:op=x\/op∈l:=by simpa using hop
    rcases this with rfl | h
    · exact MemAct.low_mono (Nat.le_max_right _ _) hx
    · exact MemAct.low_mono (Nat.le_max_left _ _) (hl op (by simpa using h))
theorem Aj5 (hP:OkP P){Stop:Goroutine->World->Prop}{w:World}(h:Way P Stop g w):Comes P g w Stop:=by
  refine h (λg w=>Comes P g w Stop) (λg w h=>Comes.stop h) ?_;intro g w hg hrun hstep gs sl t ⟨h0,⟨q,hL⟩,B,gU⟩ _;have main:∀(M:Nat) (gs:Array Goroutine) (d0:Nat) (sl:Option (Nat × Nat)) (t:Trace) (q:Nat->Nat),sumTo gs.size q<=M->gs[0]?=some g->Leavers P t gs q->(∃B,Past (λ_=>False) B t)->
      ∃N gs' g' w' sl' t',runNT P N (crowd gs (w.at d0) sl) t=(.next (crowd gs' w' sl'),t')/\Frm P gs' t' g'/\OkG g'/\w'.tape=w.tape/\Stop g' w':=by
    intro M;induction M with
    | zero | succ M ih=>
      intro gs d0 sl t q hM h0 hL gU;have haw:∀x∈gs,awake x:=by
        intro x hx;obtain⟨i,hi,rfl⟩:=Array.mem_iff_getElem.1 hx;rcases Nat.eq_zero_or_pos i with rfl | hpos
        · have:gs[0]=g:=by simpa[Array.getElem?_eq_getElem hi] using h0
          rw[this];exact awake_of (.inl hrun)
        · exact awake_of ((hL.old i _ hpos (Array.getElem?_eq_getElem hi)).status.elim .inl λx=>.inr (.inr x))
      have hno:=λi x hi hx=>(hL.old i x hi hx).status
      obtain⟨i,x,d,sl',hi,hx,hst⟩:=crowd_pick (P:=P) (w:=w.at d0) (sl:=sl) haw ⟨0,g,h0,hrun⟩;rcases Nat.eq_zero_or_pos i with rfl | hpos
      · obtain rfl:x=g:=by rw[h0] at hi;exact(Option.some.inj hi).symm
        obtain⟨g',w',es,he,hr',hX⟩:=hstep d;have htape:w'.tape=w.tape:=by
          have:=(Auz hP hg (w.at d)).tape
          rw[he] at this;exact this
        obtain⟨gs',ops,hrunT,hsz,h0',hrest,hops,hdeaf⟩:=Ak5 (sl:=sl') hP hg h0 hno he hr';obtain⟨B,hB⟩:=gU;obtain⟨B',hBB,hlow⟩:=Aux ops B;have hok:=(Agx hP hg hrun he).1;have hP2:Past (λ_=>False) B' (t++ops):=(hB.mono hBB).app0 hops (λ_ _ _ _ h=>h.elim) (by rw[hdeaf t hB.hears,hB.hears]) hlow;have hL2:Leavers P (t++ops) gs' q:=by
          refine⟨λj y hj hy=>?_,λj hj=>?_⟩
          · rw[Deaf_other t (g':=0) omz _ hops]
            exact hL.old j y hj (by rw[<-hrest j hj];exact hy)
          · rw[Deaf_other t (g':=0) (by have:=(Array.getElem?_eq_some_iff.1 h0).1;omega) _ hops]
            exact hL.above j (by rw[<-hsz];exact hj)
        obtain⟨N,gs2,g2,w2,sl2,t2,hr2,hF2,hg2,ht2,hs2⟩:=hX gs' sl' (t++ops) ⟨h0',⟨q,hL2⟩,B',hP2⟩ hok;refine⟨N+1,gs2,g2,w2,sl2,t2,?_,hF2,hg2,ht2.trans htape,hs2⟩;simp only[runNT,hst];rw[show crowd gs ((w.at d0).at d) sl'=crowd gs (w.at d) sl' from rfl,hrunT];exact hr2
      · have hq:=hL.old i x hpos hi
        have hi0:(i==0)=false:=by simp;omega
        have hlt:=(Array.getElem?_eq_some_iff.1 hi).1;cases hqi:q i with
        | zero=>rw[hqi] at hq;rw[hq.1] at hx;cases hx
        | succ k=>
          rw[hqi] at hq;rcases hq with⟨hf,_⟩ | ⟨_,x',es,hm,hstp,hq'⟩
          · rw[hf] at hx;cases hx
          have hrunT:=runT_crowd_go (P:=P) (sl:=sl') (i:=i) hi (by rw[hi0];exact hstp (w.at d));have hsz:((gs.map (woken P x x' (w.at d))).setIfInBounds i x').size=gs.size:=spz
          have hsum:sumTo gs.size (upd q i k)+(k+1)=sumTo gs.size q+k:=by
            have:=sumTo_upd q k id hlt
            simpa[hqi] using this
          have hops:∀op∈MemOp.ofEvents i x.frame.fn x.frame.place es,op.g=i:=λop hop=>by obtain⟨e,_,rfl⟩:=Go.Conc.mem_ofEvents hop;rfl
          have h0':((gs.map (woken P x x' (w.at d))).setIfInBounds i x')[0]?=some g:=by
            have hne:i≠0:=omz
            rw[Array.getElem?_setIfInBounds_ne hne,Array.getElem?_map,h0];simp[woken_run hrun]
          have hL':Leavers P (t++MemOp.ofEvents i x.frame.fn x.frame.place es) ((gs.map (woken P x x' (w.at d))).setIfInBounds i x') (upd q i k):=by
            refine⟨λj y hj hy=>?_,λj hj=>?_⟩
            · by_cases hji:i=j
              · subst hji
                rw[A40 (by simpa using hlt)] at hy;obtain rfl:=Option.some.inj hy;rw[upd_same,Deaf_own];exact hq'
              · rw[Array.getElem?_setIfInBounds_ne hji,Array.getElem?_map] at hy
                obtain⟨z,hz,rfl⟩:=Option.map_eq_some_iff.1 hy;have hqj:=hL.old j z hj hz;rw[woken_quitsD hqj,upd_ne q k (Ne.symm hji),Deaf_other t hji _ hops];exact hqj
            · rw[Deaf_other t (g':=i) (by simp at hj;omega) _ hops]
              exact hL.above j (by simpa using hj)
          obtain⟨B,hB⟩:=gU;first
            | omega
            | (obtain⟨N,gs2,g2,w2,sl2,t2,hr2,hF2,hg2,ht2,hs2⟩:=ih _ d sl' _ (upd q i k) (by rw[hsz];omega) h0' hL' ⟨B,hB.mute omz hm⟩
               refine⟨N+1,gs2,g2,w2,sl2,t2,?_,hF2,hg2,ht2,hs2⟩;simp only[runNT,hst];rw[show crowd gs ((w.at d0).at d) sl'=crowd gs (w.at d) sl' from rfl,hrunT]
               exact hr2)
  exact main _ gs w.drawn sl t q (A4d _) h0 hL ⟨B,gU⟩
end
end Go.Co
namespace Go.Co
open Go.Conc
variable {Low:Nat}{P:Program}{a:World}
structure Keep (Low:Nat)(O:Nat->Prop)(w w':World):Prop where
  still:∀b,b<Low->w'.heap[b]?=w.heap[b]?
  mine:∀b,O b->w'.heap[b]?=w.heap[b]?
  size:w.heap.size<=w'.heap.size
  tape:w'.tape=w.tape
  os:w'.os=w.os
  out:w'.output=w.output
theorem Keep.refl (Low:Nat)(O:Nat->Prop)(w:World):Keep Low O w w:=⟨λ_ _=>rfl,λ_ _=>rfl,A4d _,rfl,rfl,rfl⟩
theorem Keep.trans {O:Nat->Prop}{b c:World}(h:Keep Low O a b)(k:Keep Low O b c):Keep Low O a c:=
  ⟨λx hx=>(k.still x hx).trans (h.still x hx),λx hx=>(k.mine x hx).trans (h.mine x hx),A4k h.size k.size,k.tape.trans h.tape,k.os.trans h.os,k.out.trans h.out⟩
theorem Keep.at {O:Nat->Prop}{b:World}(h:Keep Low O a b)(d:Nat):Keep Low O a (b.at d):=⟨h.still,h.mine,h.size,h.tape,h.os,h.out⟩
theorem Keep.sub {O O':Nat->Prop}{b:World}(h:Keep Low O a b)(ho:∀x,O' x->O x):Keep Low O' a b:=⟨h.still,λx hx=>h.mine x (ho x hx),h.size,h.tape,h.os,h.out⟩
def Xy (c:Nat)(w:World):Prop:=∃s r,w.heap[c]?=some (.chan 0 #[] false s r false)
def Anb (c:Nat)(w:World):Prop:=∃s r,w.heap[c]?=some (.chan 0 #[] true s r false)
def EvO (Low:Nat)(O:Nat->Prop)(e:Event):Prop:=∃a wr,e=⟨.cell a,wr,false⟩/\(O a.block\/(a.block<Low/\wr=false))
def grown (O:Nat->Prop)(w w':World):Nat->Prop:=λb=>O b\/(w.heap.size<=b/\b<w'.heap.size)
structure Anc (Low:Nat)(O:Nat->Prop)(w w':World)(es:Array Event):Prop where
  rest:∀b,b<w.heap.size->¬O b->w'.heap[b]?=w.heap[b]?
  size:w.heap.size<=w'.heap.size
  tape:w'.tape=w.tape
  os:w'.os=w.os
  out:w'.output=w.output
  ev:∀e∈es,EvO Low (grown O w w') e\/e=⟨.mark .noRoom,false,true⟩
structure SC where
  c:Nat
  O:Nat->Prop
  vs:List Value
  g:Goroutine
  w:World
def Y1 (P:Program)(Low:Nat)(X:SC->Prop)(x:SC):Prop:=
  x.g.status=.running/\
  ((∀w₁,Keep Low x.O x.w w₁->Xy x.c w₁->∃g' w' es,stepG P false x.g w₁=.go g' w' es/\g'.status=.running/\Anc Low x.O w₁ w' es/\X ⟨x.c,grown x.O w₁ w',x.vs,g',w'⟩)\/
   (∃v vs',x.vs=v::vs'/\∀w₁,Keep Low x.O x.w w₁->Xy x.c w₁->(∃z,stepG P false x.g w₁=.comm x.g #[scase x.c v z] true .send w₁ #[])/\X ⟨x.c,x.O,vs',Conc.served x.g undef,w₁⟩)\/
   (x.vs=[]/\mayWake P x.g=true/\∀w₁ s r,Keep Low x.O x.w w₁->w₁.heap[x.c]?=some (.chan 0 #[] false s r false)->∃g' n,stepG P false x.g w₁=.go g' (w₁.shut x.c s r false) #[⟨.obj x.c,false,true⟩,⟨.obj x.c,true,true⟩]/\g'.status=.running/\QuitsIn P n g'))
theorem Y1.mono {X Y:SC->Prop}(nY:∀x,X x->Y x){x:SC}(h:Y1 P Low X x):Y1 P Low Y x:=by
  refine⟨h.1,?_⟩;rcases h.2 with h | ⟨v,vs',e,h⟩ | h
  · exact .inl λw₁ k o=>let ⟨g',w',es,a,b,c,d⟩:=h w₁ k o;⟨g',w',es,a,b,c,nY _ d⟩
  · exact .inr (.inl ⟨v,vs',e,λw₁ k o=>⟨(h w₁ k o).1,nY _ (h w₁ k o).2⟩⟩)
  · exact .inr (.inr h)
def Snd (P:Program)(Low:Nat)(x:SC):Prop:=∀X:SC->Prop,(∀x,Y1 P Low X x->X x)->X x
theorem Snd.mk {x:SC}(h:Y1 P Low (Snd P Low) x):Snd P Low x:=λX hX=>hX x (h.mono λ_y hy=>hy X hX)
theorem Snd.inv {x:SC}(h:Snd P Low x):Y1 P Low (Snd P Low) x:=
  h (Y1 P Low (Snd P Low)) λ_ hy=>hy.mono λ_ hz=>Snd.mk hz
def Nx (P:Program)(Low:Nat)(y x:SC):Prop:=∃w₁,Keep Low x.O x.w w₁/\Xy x.c w₁/\
  ((∃g' w' es,stepG P false x.g w₁=.go g' w' es/\Xy x.c w'/\y=⟨x.c,grown x.O w₁ w',x.vs,g',w'⟩)\/
   (∃v vs' z,x.vs=v::vs'/\stepG P false x.g w₁=.comm x.g #[scase x.c v z] true .send w₁ #[]/\y=⟨x.c,x.O,vs',Conc.served x.g undef,w₁⟩))
theorem Snd.acc {x:SC}(h:Snd P Low x):Acc (Nx P Low) x:=by
  refine h _ λx hx=>Acc.intro x λy hy=>?_
  obtain⟨w₁,hk,ho,hcase⟩:=hy;rcases hx.2 with h | ⟨v,vs',e,h⟩ | ⟨_,_,h⟩
  · obtain⟨g',w',es,e1,_,_,hacc⟩:=h w₁ hk ho
    rcases hcase with⟨g2,w2,es2,e2,_,rfl⟩ | ⟨v,vs',z,_,e2,rfl⟩
    · rw[e1] at e2;cases e2;exact hacc
    · rw[e1] at e2;cases e2
  · obtain⟨⟨z,e1⟩,hacc⟩:=h w₁ hk ho
    rcases hcase with⟨g2,w2,es2,e2,_,rfl⟩ | ⟨v2,vs2,z2,e3,e2,rfl⟩
    · rw[e1] at e2;cases e2
    · rw[e] at e3;cases e3;exact hacc
  · obtain⟨s,r,hc⟩:=ho
    obtain⟨g',n,e1,_⟩:=h w₁ s r hk hc;rcases hcase with⟨g2,w2,es2,e2,⟨s2,r2,ho2⟩,rfl⟩ | ⟨v2,vs2,z2,e3,e2,rfl⟩
    · rw[e1] at e2;cases e2
      rw[show(w₁.shut x.c s r false).heap[x.c]?=some (.chan 0 #[] true s r false) from heap_put hc] at ho2;cases ho2
    · rw[e1] at e2;cases e2
structure RC where
  O:Nat->Prop
  L:List (Nat × List Value × Bool)
  g:Goroutine
  w:World
def Y2 (P:Program)(Low:Nat)(Stop:Goroutine->World->Prop)(X:RC->Prop)(x:RC):Prop:=
  x.g.status=.running/\
  (((∀e∈x.L,e.2.2=true)/\∀w₁,Keep Low x.O x.w w₁->Stop x.g w₁)\/
   (∀w₁,Keep Low x.O x.w w₁->∃g' w' es,stepG P true x.g w₁=.go g' w' es/\g'.status=.running/\Anc Low x.O w₁ w' es/\X ⟨grown x.O w₁ w',x.L,g',w'⟩)\/
   (∃c,x.O c/\∀w₁,Keep Low x.O x.w w₁->∃g' child vs,stepG P true x.g w₁=.spawn g' child w₁ #[]/\g'.status=.running/\child.status=.running/\Xy c w₁/\
      Snd P Low ⟨c,λ_=>False,vs,child,w₁⟩/\X ⟨λb=>x.O b/\b≠c,x.L++[(c,vs,false)],g',w₁⟩)\/
   (∃(j c:Nat) (vs:List Value) (z:Value),x.L[j]?=some (c,vs,false)/\∀w₁,Keep Low x.O x.w w₁->stepG P true x.g w₁=.comm x.g #[rcase c z] true (.recv true) w₁ #[]/\
      (∀v vs',vs=v::vs'->X ⟨x.O,x.L.set j (c,vs',false),Conc.served x.g (recvd true v true),w₁⟩)/\(vs=[]->X ⟨x.O,x.L.set j (c,[],true),Conc.served x.g (recvd true z false),w₁⟩)))
theorem Y2.mono {Stop:Goroutine->World->Prop}{X Y:RC->Prop}(nY:∀x,X x->Y x){x:RC}(h:Y2 P Low Stop X x):Y2 P Low Stop Y x:=by
  refine⟨h.1,?_⟩;rcases h.2 with h | h | ⟨c,hc,h⟩ | ⟨j,c,vs,z,hL,h⟩
  · exact .inl h
  · exact .inr (.inl λw₁ k=>let ⟨g',w',es,a,b,c,d⟩:=h w₁ k;⟨g',w',es,a,b,c,nY _ d⟩)
  · exact .inr (.inr (.inl ⟨c,hc,λw₁ k=>let ⟨g',ch,vs,a,b,e,f,s,d⟩:=h w₁ k;⟨g',ch,vs,a,b,e,f,s,nY _ d⟩⟩))
  · exact .inr (.inr (.inr ⟨j,c,vs,z,hL,λw₁ k=>⟨(h w₁ k).1,λv vs' e=>nY _ ((h w₁ k).2.1 v vs' e),λe=>nY _ ((h w₁ k).2.2 e)⟩⟩))
def Rcv (P:Program)(Low:Nat)(Stop:Goroutine->World->Prop)(x:RC):Prop:=∀X:RC->Prop,(∀x,Y2 P Low Stop X x->X x)->X x
theorem Rcv.mk {Stop:Goroutine->World->Prop}{x:RC}(h:Y2 P Low Stop (Rcv P Low Stop) x):Rcv P Low Stop x:=λX hX=>hX x (h.mono λ_y hy=>hy X hX)
theorem Rcv.inv {Stop:Goroutine->World->Prop}{x:RC}(h:Rcv P Low Stop x):Y2 P Low Stop (Rcv P Low Stop) x:=
  h (Y2 P Low Stop (Rcv P Low Stop)) λ_ hy=>hy.mono λ_ hz=>Rcv.mk hz
def RL {α:Type}(r:α->α->Prop)(l' l:List α):Prop:=∃(i:Nat) (x y:α),l[i]?=some x/\r y x/\l'=l.set i y
theorem RL.acc {α:Type}{r:α->α->Prop}:∀{l:List α},(∀x∈l,Acc r x)->Acc (RL r) l:=by
  intro l;induction l with
  | nil=>exact λ_=>Acc.intro _ λl' ⟨i,x,y,h,_⟩=>by simp at h
  | cons a l ih=>
    intro h;have ha:=h a List.mem_cons_self;have hl:=ih λx hx=>h x (A4c _ hx)
    clear h ih;induction ha generalizing l with
    | intro a _ iha=>
      induction hl with
      | intro l hl' ihl=>
        refine Acc.intro _ ?_;rintro l' ⟨i,x,y,hi,hr,rfl⟩;cases i with
        | zero=>
          simp at hi;subst hi;exact iha y hr l (Acc.intro l hl')
        | succ i=>
          simp at hi;exact ihl (l.set i y) ⟨i,x,y,hi,hr,rfl⟩
def A3d (P:Program)(Low:Nat):SC ⊕ Nat->SC ⊕ Nat->Prop
  | .inl y, .inl x=>Nx P Low y x
  | .inr _, .inl _=>True
  | .inr m, .inr n=>m<n
  | .inl _, .inr _=>False
theorem U3 (P:Program)(Low:Nat)(n:Nat):Acc (A3d P Low) (.inr n):=by
  induction n using Nat.strongRecOn with
  | ind n ih=>
    refine Acc.intro _ λy hy=>?_
    cases y with
    | inl y=>exact hy.elim
    | inr m=>exact ih m hy
theorem Amq {x:SC}(h:Acc (Nx P Low) x):Acc (A3d P Low) (.inl x):=by
  induction h with
  | intro x _ ih=>
    refine Acc.intro _ λy hy=>?_
    cases y with
    | inl y=>exact ih y hy
    | inr m=>exact U3 P Low m
end Go.Co
namespace Go.Co
open Go.Conc
def Cl (Low:Nat)(ow:Nat->Nat->Prop)(g:Nat)(a:Touch):Prop:=
 (∃ad wr,a=⟨.cell ad,wr, .plain⟩/\(ow g ad.block\/(ad.block<Low/\wr=false)))\/∃c wr,a=⟨.obj c,wr, .atomic⟩
structure Tr (Low n0 m:Nat)(t₀ t:Trace)(ow:Nat->Nat->Prop):Prop where
 le:t₀.size<=t.size
 clean:∀said,¬Race said t
 kn0:∀i op a,t[i]?=some op->op.act.touch?=some a->a.loc.isMemory=true->(i<t₀.size\/op.g=0)->Knows t 0 i
 knS:∀j,j<m->∀i op a,t[i]?=some op->op.act.touch?=some a->a.loc.isMemory=true->i<t₀.size->Knows t (n0+j) i
 cls:∀i op a,t₀.size<=i->t[i]?=some op->op.act.touch?=some a->a.loc.isMemory=true->Cl Low ow op.g a
 who:∀i op a,t₀.size<=i->t[i]?=some op->op.act.touch?=some a->a.loc.isMemory=true->op.g=0\/∃j,j<m/\op.g=n0+j
 hears:Deaf t 0=0
 hearS:∀k,n0<=k->Deaf t k=0
structure Ow (Low:Nat)(ow:Nat->Nat->Prop)(size:Nat):Prop where
 apart:∀k l b,ow k b->ow l b->k=l
 low:∀k b,ow k b->Low<=b
 up:∀k b,ow k b->b<size
section
variable {a:Touch}{c g k size:Nat}{u:Trace}
variable {Low n0 m : Nat}{t₀ t : Trace}{ow l7 : Nat -> Nat -> Prop}
theorem Cl.mono (h:Cl Low ow g a)(ho:∀k b,ow k b->l7 k b):Cl Low l7 g a:=
 h.imp (λ⟨ad,wr,e,k⟩=>⟨ad,wr,e,k.imp (ho _ _) id⟩) id
theorem Tr.wider (h:Tr Low n0 m t₀ t ow)(ho:∀k b,ow k b->l7 k b):Tr Low n0 m t₀ t l7:=
 ⟨h.le,h.clean,h.kn0,h.knS,λi op a hi h1 h2 h3=>(h.cls i op a hi h1 h2 h3).mono ho,h.who,h.hears,h.hearS⟩
theorem Alu {said:Bool}{g':Nat}(hO:Ow Low ow size)(hne:g≠g'){b:Touch}(ha:Cl Low ow g a)(hb:Cl Low ow g' b):¬a.conflicts said b:=by
 rintro⟨hl,_,hw,hk⟩;rcases ha with⟨ad,wr,rfl,ha⟩ | ⟨c,wr,rfl⟩
 ·rcases hb with⟨bd,wr',rfl,hb⟩ | ⟨c',wr',rfl⟩
  ·cases hl
   rcases ha with ha | ⟨ha,rfl⟩
   ·rcases hb with hb | ⟨hb,rfl⟩
    ·exact hne (hO.apart _ _ _ ha hb)
    ·exact Nat.not_lt.2 (hO.low _ _ ha) hb
   ·rcases hb with hb | ⟨hb,rfl⟩
    ·exact Nat.not_lt.2 (hO.low _ _ hb) ha
    ·rcases hw with h | h<;>cases h
  ·cases hl
 ·rcases hb with⟨bd,wr',rfl,hb⟩ | ⟨c',wr',rfl⟩
  ·cases hl
  ·rcases hk with h | h | ⟨_,h,_⟩<;>cases h
theorem Tr.app (h:Tr Low n0 m t₀ t ow)(hO:Ow Low ow size)(hg:g=0\/∃j,j<m/\g=n0+j)(hu:∀op∈u,op.g=g)
  (hc:∀op∈u,∀a,op.act.touch?=some a->a.loc.isMemory=true->Cl Low ow g a) (hd:∀t:Trace,Deaf (t++u) g=Deaf t g):Tr Low n0 m t₀ (t++u) ow:=by
 have hdeaf:∀k,Deaf (t++u) k=Deaf t k:=by
  intro k;by_cases hk:g=k
  ·subst hk;exact hd t
  ·exact Deaf_other t hk u hu
 refine⟨by rw[Array.size_append];have:=h.le;omega,λsaid=>?_,λi op a hi ha hm hc0=>?_,λj hj i op a hi ha hm hlt=>?_,λi op a hi h1 h2 h3=>?_,λi op a hi h1 h2 h3=>?_,by rw[hdeaf];exact h.hears,λk hk=>by rw[hdeaf];exact h.hearS k hk⟩
 ·refine noRace_append (h.clean said) hu λi a ha op hop b hb nU=>?_
  obtain⟨x,hx,hxa⟩:=touch_of ha;have hmem:=nU.2.1;have zC:=nU.1 ▸ hmem;rcases Nat.lt_or_ge i t₀.size with hlt | hge
  ·rcases hg with rfl | ⟨j,hj,rfl⟩
   ·exact h.kn0 i x a hx hxa hmem (.inl hlt)
   ·exact h.knS j hj i x a hx hxa hmem hlt
  ·by_cases hxg:x.g=g
   ·have:=knows_own hx
    rwa [hxg] at this
   ·exact absurd nU (Alu hO hxg (h.cls i x a hge hx hxa hmem) (hc op hop b hb zC))
 ·rcases getElem?_append_cases hi with⟨_,hi'⟩ | ⟨hge,hou⟩
  ·exact(h.kn0 i op a hi' ha hm hc0).app u
  ·rcases hc0 with hc0 | hc0
   ·have:=h.le;omega
   ·have:=knows_own hi
    rwa [hc0] at this
 ·rcases getElem?_append_cases hi with⟨_,hi'⟩ | ⟨hge,hou⟩
  ·exact(h.knS j hj i op a hi' ha hm hlt).app u
  ·have:=h.le;omega
 ·rcases getElem?_append_cases h1 with⟨_,hi'⟩ | ⟨hge,hou⟩
  ·exact h.cls i op a hi hi' h2 h3
  ·rw[hu op hou];exact hc op hou a h2 h3
 ·rcases getElem?_append_cases h1 with⟨_,hi'⟩ | ⟨hge,hou⟩
  ·exact h.who i op a hi hi' h2 h3
  ·rw[hu op hou];exact hg
theorem Tr.one (h:Tr Low n0 m t₀ t ow){y:MemOp}(hy:y.act.touch?=none)(hd:(y.g=0\/n0<=y.g)->y.act≠.mark .disable/\y.act≠.mark .enable):Tr Low n0 m t₀ (t++#[y]) ow:=by
 have hnew:∀i op a,(t++#[y])[i]?=some op->op.act.touch?=some a->i<t.size/\t[i]?=some op:=by
  intro i op a hi ha;rcases getElem?_append_cases hi with⟨hlt,hi'⟩ | ⟨hge,hou⟩
  ·exact⟨hlt,hi'⟩
  ·have:op=y:=by simpa using hou
   subst this;rw[hy] at ha;cases ha
 have hdeaf:∀k,(k=0\/n0<=k)->Deaf (t++#[y]) k=Deaf t k:=by
  intro k hk;by_cases hg:y.g=k
  ·rw[Deaf_push]
   unfold deafStep;have:=hd (by rw[hg];exact hk)
   split
   ·rename_i e;exact absurd e this.1
   ·rename_i e;exact absurd e this.2
   ·rfl
  ·exact Deaf_other t hg _ (λop hop=>by have:op=y:=(by simpa using hop);rw[this])
 refine⟨by rw[Array.size_append];have:=h.le;omega,λsaid=>?_,λi op a hi ha hm hc0=>(h.kn0 i op a (hnew i op a hi ha).2 ha hm hc0).app _,λj hj i op a hi ha hm hlt=>(h.knS j hj i op a (hnew i op a hi ha).2 ha hm hlt).app _,
  λi op a hi h1 h2 h3=>h.cls i op a hi (hnew i op a h1 h2).2 h2 h3,λi op a hi h1 h2 h3=>h.who i op a hi (hnew i op a h1 h2).2 h2 h3,by rw[hdeaf 0 (.inl rfl)];exact h.hears,λk hk=>by rw[hdeaf k (.inr hk)];exact h.hearS k hk⟩
 refine noRace_append (g:=y.g) (h.clean said) (λop hop=>by have:op=y:=(by simpa using hop);rw[this]) λi a ha op hop b hb=>?_
 have:op=y:=by simpa using hop
 rw[this,hy] at hb;cases hb
theorem Tr.silent (h:Tr Low n0 m t₀ t ow)(hu:∀op∈u,op.act.touch?=none/\((op.g=0\/n0<=op.g)->op.act≠.mark .disable/\op.act≠.mark .enable)):Tr Low n0 m t₀ (t++u) ow:=by
 obtain⟨l⟩:=u;induction l generalizing t with
 | nil=>simpa using h
 | cons y l ih=>
  have e:t++(y::l).toArray=(t++#[y])++l.toArray:=spz
  rw[e];have hy:=hu y spz;exact ih (h.one hy.1 hy.2) λop hop=>hu op (by simp at hop ⊢;exact .inr hop)
theorem Tr.spawn (h:Tr Low n0 m t₀ t ow)(fn fn':FuncId)(pos pos':String):Tr Low n0 (m+1) t₀ (t++#[{g:=0,fn,pos,act:=.go (n0+m)},{g:=n0+m,fn:=fn',pos:=pos',act:=.start}]) ow:=by
 have e:t++#[({g:=0,fn,pos,act:=.go (n0+m)}:MemOp),{g:=n0+m,fn:=fn',pos:=pos',act:=.start}]=(t++#[({g:=0,fn,pos,act:=.go (n0+m)}:MemOp)])++#[({g:=n0+m,fn:=fn',pos:=pos',act:=.start}:MemOp)]:=by rw[Array.append_assoc];rfl
 have h2:Tr Low n0 m t₀ (t++#[{g:=0,fn,pos,act:=.go (n0+m)},{g:=n0+m,fn:=fn',pos:=pos',act:=.start}]) ow:=by
  rw[e];exact(h.one rfl (λ_=>⟨spz,spz⟩)).one rfl (λ_=>⟨spz,spz⟩)
 refine⟨h2.le,h2.clean,h2.kn0,λj hj i op a hi ha hm hlt=>?_,h2.cls,λi op a hi h1 h3 h4=>(h2.who i op a hi h1 h3 h4).imp id λ⟨j,hj,e⟩=>⟨j,omz,e⟩,h2.hears,h2.hearS⟩;rcases Nat.lt_or_ge j m with hjm | hjm
 ·exact h2.knS j hjm i op a hi ha hm hlt
 ·obtain rfl:j=m:=by omega
  have hle:=h.le;have hi0:t[i]?=some op:=by rw[getElem?_append_old omz] at hi;exact hi
  have hk:=h.kn0 i op a hi0 ha hm (.inl hlt);generalize hu:(#[({g:=0,fn,pos,act:=.go (n0+j)}:MemOp),{g:=n0+j,fn:=fn',pos:=pos',act:=.start}]:Trace)=u at*;have e0:(t++u)[t.size]?=some {g:=0,fn,pos,act:=.go (n0+j)}:=by subst hu;rw[Array.getElem?_append_right (A4d _)];simp
  have e1:(t++u)[t.size+1]?=some {g:=n0+j,fn:=fn',pos:=pos',act:=.start}:=by subst hu;rw[Array.getElem?_append_right omz];simp
  have d0:(t++u).deaf 0 t.size=0:=by rw[deaf_old (A4d _)];exact h.hears
  have d1:(t++u).deaf (n0+j) (t.size+1)=0:=by
   rw[deaf_succ e0,deaf_old (A4d _)];exact h.hearS (n0+j) omz
  have hgo:=hk.hb_new (u:=u) (A4d _) e0 rfl;have hst:HappensBefore (t++u) t.size (t.size+1):=.single (.inr ⟨.spawn (child:=n0+j) (by rw[act?_of e0]) (by rw[act?_of e1]) (by simp[Trace.g?,e1]),⟨0,by simp[Trace.g?,e0],d0⟩,⟨n0+j,by simp[Trace.g?,e1],d1⟩⟩);exact⟨t.size+1,_,e1,rfl, .inr (hgo.trans hst)⟩
def Vd (t:Trace)(k c:Nat):Prop:=∃pc op,t[pc]?=some op/\op.g=k/\op.act=.close c/\t.heard pc/\∀i op' a,t[i]?=some op'->op'.g=k->op'.act.touch?=some a->i<pc
theorem Vd.app (h:Vd t k c)(hu:∀op∈u,op.g=k->op.act.touch?=none):Vd (t++u) k c:=by
 obtain⟨pc,op,h1,h2,h3,h4,h5⟩:=h;have hlt:=lt_size_of_getElem? h1;refine⟨pc,op,by rw[getElem?_append_old hlt];exact h1,h2,h3,(heard_old hlt).2 h4,λi op' a hi hg ha=>?_⟩;rcases getElem?_append_cases hi with⟨_,hi'⟩ | ⟨_,hou⟩
 ·exact h5 i op' a hi' hg ha
 ·rw[hu op' hou hg] at ha;cases ha
def Y4 (t:Trace)(k:Nat):Prop:=∀i op a,t[i]?=some op->op.g=k->op.act.touch?=some a->Knows t 0 i
theorem Y4.app (h:Y4 t k)(hu:∀op∈u,op.g=k->op.act.touch?=none):Y4 (t++u) k:=by
 intro i op a hi hg ha;rcases getElem?_append_cases hi with⟨_,hi'⟩ | ⟨_,hou⟩
 ·exact(h i op a hi' hg ha).app u
 ·rw[hu op hou hg] at ha;cases ha
theorem Vd.known (h:Vd t k c)(hears:Deaf t 0=0)(fn:FuncId)(pos:String):Y4 (t++#[{g:=0,fn,pos,act:=.recvClosed c}]) k:=by
 obtain⟨pc,op,h1,h2,h3,h4,h5⟩:=h;have hlt:=lt_size_of_getElem? h1;generalize hu:(#[({g:=0,fn,pos,act:=.recvClosed c}:MemOp)]:Trace)=u;have e0:(t++u)[t.size]?=some {g:=0,fn,pos,act:=.recvClosed c}:=by subst hu;simp
 have d0:(t++u).deaf 0 t.size=0:=by rw[deaf_old (A4d _)];exact hears
 have h1':(t++u)[pc]?=some op:=by rw[getElem?_append_old hlt];exact h1
 have hb:HappensBefore (t++u) pc t.size:=.single (.inr ⟨.closed (c:=c) (by rw[act?_of h1',h3]) (by rw[act?_of e0]),(heard_old hlt).2 h4,⟨0,by simp[Trace.g?,e0],d0⟩⟩);intro i op' a hi hg ha;rcases getElem?_append_cases hi with⟨_,hi'⟩ | ⟨_,hou⟩
 ·have hip:=h5 i op' a hi' hg ha
  exact⟨t.size,_,e0,rfl, .inr ((hb_po hip hi h1' (hg.trans h2.symm)).trans hb)⟩
 ·subst hu
  have:op'={g:=0,fn,pos,act:=.recvClosed c}:=by simpa using hou
  subst this;cases ha
theorem Tr.close (h:Tr Low n0 m t₀ t ow)(hO:Ow Low ow size)(hk:∃j,j<m/\k=n0+j)(fn:FuncId)(pos:String):
  Tr Low n0 m t₀ (t++MemOp.ofEvents k fn pos #[⟨.obj c,false,true⟩,⟨.obj c,true,true⟩]) ow/\Vd (t++MemOp.ofEvents k fn pos #[⟨.obj c,false,true⟩,⟨.obj c,true,true⟩]) k c:=by
 have e:MemOp.ofEvents k fn pos #[⟨.obj c,false,true⟩,⟨.obj c,true,true⟩]=#[{g:=k,fn,pos,act:=.access ⟨.obj c,false,true⟩},{g:=k,fn,pos,act:=.close c}]:=by
  rw[ofEvents_eq];simp[MemAct.ofEvent]
 have hd:∀t:Trace,Deaf (t++MemOp.ofEvents k fn pos #[⟨.obj c,false,true⟩,⟨.obj c,true,true⟩]) k=Deaf t k:=λt=>by rw[Deaf_own];rfl
 have hkn:n0<=k:=by obtain⟨j,_,rfl⟩:=hk;omega
 refine⟨h.app hO (.inr hk) (λop hop=>by obtain⟨e,_,rfl⟩:=Go.Conc.mem_ofEvents hop;rfl) (λop hop a ha _=>?_) hd,?_⟩
 ·rw[e] at hop
  have:op={g:=k,fn,pos,act:=.access ⟨.obj c,false,true⟩}\/op={g:=k,fn,pos,act:=.close c}:=by simpa using hop
  rcases this with rfl | rfl
  ·simp[MemAct.touch?] at ha;subst ha;exact .inr ⟨c,false,rfl⟩
  ·cases ha
 ·rw[e]
  generalize hu:(#[({g:=k,fn,pos,act:=.access ⟨.obj c,false,true⟩}:MemOp),{g:=k,fn,pos,act:=.close c}]:Trace)=u;have e0:(t++u)[t.size]?=some {g:=k,fn,pos,act:=.access ⟨.obj c,false,true⟩}:=by subst hu;rw[Array.getElem?_append_right (A4d _)];simp
  have e1:(t++u)[t.size+1]?=some {g:=k,fn,pos,act:=.close c}:=by subst hu;rw[Array.getElem?_append_right omz];simp
  have d1:(t++u).deaf k (t.size+1)=0:=by rw[deaf_succ e0,deaf_old (A4d _)];exact h.hearS k hkn
  refine⟨t.size+1,_,e1,rfl,rfl,⟨k,by simp[Trace.g?,e1],d1⟩,λi op' a hi hg ha=>?_⟩;have hsz:(t++u).size=t.size+2:=by subst hu;simp
  have:=lt_size_of_getElem? hi
  rcases Nat.lt_or_ge i (t.size+1) with hlt | hge
  ·exact hlt
  ·obtain rfl:i=t.size+1:=by omega
   rw[e1] at hi;cases hi;cases ha
theorem Tr.past (h:Tr Low n0 m t₀ t ow)(hk:∀j,j<m->Y4 t (n0+j)):∃B,Past (λ_=>False) B t:=by
 have hall:∀i op a,t[i]?=some op->op.act.touch?=some a->a.loc.isMemory=true->Knows t 0 i:=by
  intro i op a hi ha hm;rcases Nat.lt_or_ge i t₀.size with hlt | hge
  ·exact h.kn0 i op a hi ha hm (.inl hlt)
  ·rcases h.who i op a hge hi ha hm with h0 | ⟨j,hj,hg⟩
   ·exact h.kn0 i op a hi ha hm (.inr h0)
   ·exact hk j hj i op a hi hg ha
 obtain⟨B,_,hB⟩:=Aux t 0;refine⟨B,h.clean,λi a ha hm=>?_,λi g hg hne hc=>?_,h.hears,hB⟩
 ·obtain⟨op,ho,hoa⟩:=touch_of ha
  exact .inl (hall i op a ho hoa hm)
 ·obtain⟨x,hx,hm,_⟩:=hc
  obtain⟨op,ho,hoa⟩:=touch_of hx;obtain⟨q,z,hq,hz,hb⟩:=hall i op x ho hoa hm;have hgo:op.g=g:=by simpa[Trace.g?,ho] using hg
  rcases hb with rfl | hb
  ·rw[ho] at hq;cases hq;exact absurd (hgo.symm.trans hz) hne
  ·exact⟨q,by simp[Trace.g?,hq,hz],hb⟩
theorem Tr.begin {P:Program}{gs:Array Goroutine}{q:Nat->Nat}{B:Nat}(hP:Past (λ_=>False) B t)(hL:Leavers P t gs q):Tr Low gs.size 0 t t ow:=by
 refine⟨A4d _,hP.clean,λi op a hi ha hm _=>?_,λj hj=>by omega,λi op a hi h1=>?_,λi op a hi h1=>?_,hP.hears,hL.above⟩
 ·rcases hP.known i a (by rw[touchAt_of hi];exact ha) hm with h | h
  ·exact h
  ·exact h.1.elim
 ·have:=lt_size_of_getElem? h1;omega
 ·have:=lt_size_of_getElem? h1;omega
end
end Go.Co
