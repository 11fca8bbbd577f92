import Derived.Test.YtbfljjcnbbmoaaaGreatDoorCD7
namespace Go.Co
open Go.Conc
section
variable {P : Program} {Low : Nat} {n0 : Nat} {t₀ : Trace} {Stop : Goroutine -> World -> Prop}
theorem Ao3 {g:Goroutine} {cs:Array CommCase} {sh:CommShape} (hr:g.status=.running) (w:World):stepG P true {parked g cs sh with status:=.running} w=stepG P true g w:=by
 rw[stepG_tries];congr 1;obtain⟨a,b,c,d⟩:=g;simp at hr;subst hr;rfl
theorem pushes {t:Trace} {fn fn':FuncId} {pos pos':String} {k l:Nat} {a b:MemAct}:t++((MemOp.ofEvents k fn pos #[]).push {g:=k,fn,pos,act:=a}).push {g:=l,fn:=fn',pos:=pos',act:=b}=t++#[{g:=k,fn,pos,act:=a},{g:=l,fn:=fn',pos:=pos',act:=b}]:=by
 rw[ofEvents_eq];simp
theorem Ky (k:Nat) (fn:FuncId) (pos:String):MemOp.ofEvents k fn pos #[]=#[]:=by rw[ofEvents_eq];simp
theorem phase (tape:Nat->Question->Nat) {x:RC} (h:Rcv P Low Stop x):
  ∀ow comps gs w t sl,PhI P Low n0 t₀ x ow comps gs w t->w.tape=tape->Reach P Stop tape gs w sl t:=by
 refine h (λx=>∀ow comps gs w t sl,PhI P Low n0 t₀ x ow comps gs w t->w.tape=tape->Reach P Stop tape gs w sl t) ?_;intro x hx ow comps gs w t sl hI htape;have main:∀comps,Acc (RL (A3g P Low)) comps->∀(n:Nat) (gs:Array Goroutine) (ow:Nat->Nat->Prop) (w:World) (t:Trace) (sl:Option (Nat × Nat)),cnt gs.toList=n->PhI P Low n0 t₀ x ow comps gs w t->w.tape=tape->Reach P Stop tape gs w sl t:=by
  intro comps hacc;induction hacc with
  | intro comps _ ihA=>
  intro n;induction n using Nat.strongRecOn with
  | ind n ihN=>
  intro gs ow w t sl hcnt hI htape;by_cases hstop:(∀e∈x.L,e.2.2=true)/\∀w₁,Keep Low x.O x.w w₁->Stop x.g w₁
  ·exact⟨0,gs,x.g,w,sl,t,rfl,hI.ends hstop.1,htape,hstop.2 w hI.keep⟩
  have hn:=hI.pos
  obtain⟨i,y,d,sl',hi,hy,hst⟩:=crowd_pick (P:=P) (w:=w) (sl:=sl) (λg hg=>by
   obtain⟨i,hi⟩:=Array.mem_iff_getElem?.1 hg
   exact(hI.qt i g hi).awake) hI.runs
  replace hI:=hI.at d;have htape':(w.at d).tape=tape:=htape;generalize w.at d=w1 at hI hst htape';clear htape;have hilt:=(Array.getElem?_eq_some_iff.1 hi).1;have gsz:∀(l:Nat) (g:Goroutine),(gs.setIfInBounds l g).size=gs.size:=λl g=>by simp
  have closed:∀(j c:Nat) (vs:List Value) (z:Value) (q:Nat),i=0->x.L[j]?=some (c,vs,false)->stepG P true y w1=.comm x.g #[rcase c z] true (.recv true) w1 #[]->comps[n0+j]?=some (.inr q)->
    ((∀v vs',vs=v::vs'->∀ow comps gs w t sl,PhI P Low n0 t₀ ⟨x.O,x.L.set j (c,vs',false),Conc.served x.g (recvd true v true),w1⟩ ow comps gs w t->w.tape=tape->Reach P Stop tape gs w sl t)/\
     (vs=[]->∀ow comps gs w t sl,PhI P Low n0 t₀ ⟨x.O,x.L.set j (c,[],true),Conc.served x.g (recvd true z false),w1⟩ ow comps gs w t->w.tape=tape->Reach P Stop tape gs w sl t))->Reach P Stop tape gs w sl t:=by
   intro j c vs z q hi0 hL e1 hq hX;subst hi0;have hvs:vs=[]/\Amm c w1/\∀y',gs[n0+j]?=some y'->y'.status≠.blocked:=by
    rcases hI.snd j c vs false hL with⟨s',h1,_⟩ | ⟨q,y,h1,h2,h3,h4,h5,_⟩
    ·rw[hq] at h1;cases h1
    ·exact⟨h4,h5,λy' hy'=>by rw[hy'] at h2;cases h2;exact Y3 h3.status⟩
   obtain⟨hvs,⟨a,b,hc⟩,hnb⟩:=hvs;have hp:partners (gs.setIfInBounds 0 ph) c true=[]:=Aca λl y' hl hy'=>by
    by_cases hlj:l=n0+j
    ·subst hlj;exact offersAt_of_not_blocked (hnb y' hy') _ _
    ·exact hI.offT hL hlj hy'
   have hrT:=crowd_recv_closed (P:=P) (sl:=sl') (i:=0) hi (show stepG P (0==0) y w1=_ from e1) hc hp;rw[finishComm_recv,Ky,Array.empty_append] at hrT;refine Reach.step (hst.trans hrT) (hX.2 hvs _ _ _ _ _ _ (hI.seen hL hq rfl (gsz _ _) (by simp[hilt]) (λl hl=>Bi hl) _ _) htape')
  rcases Nat.eq_zero_or_pos i with rfl | hpos
  ·rcases hI.zero with h0 | ⟨j,c,vs,z,w₀,hL,hk0,hst0,⟨hp,_⟩ | ⟨hp,hsh⟩⟩
   ·obtain rfl:y=x.g:=by rw[h0] at hi;exact(Option.some.inj hi).symm
    rcases hx.2 with hst1 | hown | ⟨c,hc,hsp⟩ | ⟨j,c,vs,z,hL,hrc⟩
    ·exact absurd hst1 hstop
    ·obtain⟨g',w',es,e1,hr,hS,hX⟩:=hown w1 hI.keep
     have hI2:=hI.own0' h0 hr hS x.g.frame.fn x.g.frame.place;have hrT:=runT_crowd_go (P:=P) (sl:=sl') (i:=0) h0 (show stepG P (0==0) x.g w1=_ from e1);rw[Wh λl y' hl hy'=>(hI2.qt l y' (by rw[Bi hl];exact hy')).woken] at hrT;exact Reach.step (hst.trans hrT) (hX _ _ _ _ _ _ hI2 (hS.tape.trans htape'))
    ·obtain⟨g',child,vs,e1,hr,hrc,ho,hS,hX⟩:=hsp w1 hI.keep
     have hrT:=runT_crowd_spawn (P:=P) (sl:=sl') (i:=0) h0 (show stepG P (0==0) x.g w1=_ from e1);refine Reach.step (hst.trans hrT) ?_;rw[pushes];exact hX _ _ _ _ _ _ (hI.spawn h0 hc hr ho hS _ _ _ _) htape'
    ·obtain⟨e1,hX⟩:=hrc w1 hI.keep
     have hjj:=(hI.lt hL).2.1;rcases hI.snd j c vs false hL with⟨s,s1,s2,s3,_,hsnd,hk,ho,hg | ⟨v,z',w₀,hg,hk0,ho0,hst0⟩⟩ | ⟨q,y,h1,h2,h3,h4,h5,_⟩
     ·
      obtain⟨a,b,hc⟩:=ho;have hp:partners (gs.setIfInBounds 0 ph) c true=[]:=Aca λl y' hl hy'=>by
       by_cases hlj:l=n0+j
       ·subst hlj;rw[hg] at hy';cases hy';exact offersAt_of_not_blocked (Y3 (.inl hsnd.inv.1)) _ _
       ·exact hI.offT hL hlj hy'
      have hrT:=crowd_waits (P:=P) (sl:=sl') (i:=0) h0 (show stepG P (0==0) x.g w1=_ from e1) (λcc hcc=>by
       have:cc=rcase c z:=by simpa using hcc
       subst this
       exact ways_recv_none hc hp)
      refine Reach.step (hst.trans hrT) ?_;rw[Ky,Array.append_empty];refine ihN _ ?_ _ _ _ _ _ rfl (hI.park0 hL s1 hg e1) htape';rw[<-hcnt,Array.toList_setIfInBounds];exact Avt (x:=x.g) (by simpa using h0) (Y3 (.inl hI.run)) rfl
     ·
      obtain⟨a,b,hc⟩:=ho;have hkind:∃vs',s.vs=v::vs'/\(∃z,stepG P false s.g w1=.comm s.g #[scase s.c v z] true .send w1 #[])/\Snd P Low ⟨s.c,s.O,vs',Conc.served s.g undef,w1⟩:=by
       subst s2;rcases hsnd.inv.2 with ho' | ⟨v',vs',e,hv'⟩ | ⟨_,_,hcl⟩
       ·obtain⟨g',w',es,e2,_⟩:=ho' w₀ hk0 ho0
        rw[hst0] at e2;cases e2
       ·obtain⟨⟨z2,e2⟩,_⟩:=hv' w₀ hk0 ho0
        rw[hst0] at e2;have:v'=v:=by
         have:=congrArg (λs=>match s with | GStep.comm _ cs _ _ _ _=>cs.toList.map CommCase.send | _=>[]) e2
         simp[scase] at this;exact this.symm
        subst this;exact⟨vs',e,(hv' w1 hk ⟨a,b,hc⟩).1,(hv' w1 hk ⟨a,b,hc⟩).2⟩
       ·obtain⟨a',b',hc'⟩:=ho0
        obtain⟨g',n',e2,_⟩:=hcl w₀ a' b' hk0 hc';rw[hst0] at e2;cases e2
      obtain⟨vs',hvs,⟨z2,e2⟩,hS2⟩:=hkind;have hvs2:=s3.trans hvs;have hij:n0+j≠0:=by omega
      have hp:=Am6 hij hg (by rw[offersAt_parked_send,if_pos rfl]) λl y' hl hlj hy'=>hI.offT hL hlj hy'
      have hrT:=crowd_recv_meets (P:=P) (sl:=sl') (i:=0) h0 (show stepG P (0==0) x.g w1=_ from e1) hc hij hg hp;rw[finishComm_recv,finishComm_send,Ky,Array.empty_append] at hrT;refine Reach.step (hst.trans hrT) (hX.1 v vs' hvs2 _ _ _ _ _ _ (hI.meet (hvs2 ▸ hL) s1 hS2 rfl (by simp) ?_ ?_ ?_ ?_) htape')
      ·simp[hilt]
      ·rw[Bi (by omega)];exact A45 hjj
      ·intro l h1 h2;rw[Bi h1,Bi h2]
      ·intro op hop
       simp at hop;rcases hop with rfl | rfl | rfl | rfl<;>simp[MemAct.touch?]
     ·exact closed j c vs z q rfl hL e1 h1 hX
   ·rw[hp] at hi
    have:=Option.some.inj hi
    rw[<-this] at hy;cases hy
   ·have hye:y={parked x.g #[rcase c z] (.recv true) with status:=.running}:=by rw[hp] at hi;exact(Option.some.inj hi).symm
    have hsame:stepG P true y w1=stepG P true x.g w1:=by rw[hye];exact Ao3 hI.run w1
    obtain⟨q,hq⟩:∃q,comps[n0+j]?=some (.inr q):=by
     rcases hI.snd j c vs false hL with⟨s,s1,s2,s3,_,hsnd,hk,⟨a,b,ho⟩,_⟩ | ⟨q,y,h1,_⟩
     ·obtain⟨a',b',hc'⟩:=hsh
      rw[ho] at hc';cases hc'
     ·exact⟨q,h1⟩
    rcases hx.2 with⟨hall,_⟩ | hown | ⟨c,hc,hsp⟩ | ⟨j',c',vs',z',hL',hrc⟩
    ·have:=hall _ (List.mem_of_getElem? hL);cases this
    ·obtain⟨g',w',es,e1,_⟩:=hown w₀ hk0
     rw[hst0] at e1;cases e1
    ·obtain⟨g',child,vs,e1,_⟩:=hsp w₀ hk0
     rw[hst0] at e1;cases e1
    ·have e2:=(hrc w₀ hk0).1
     rw[hst0] at e2;have:c=c'/\z=z':=by
      have:=congrArg (λs=>match s with | GStep.comm _ cs _ _ _ _=>cs.toList | _=>[]) e2
      simp[rcase] at this;exact this
     obtain⟨rfl,rfl⟩:=this;obtain rfl:=hI.dist j j' c _ _ _ _ hL hL';rw[hL] at hL';cases hL';obtain⟨e1,hX⟩:=hrc w1 hI.keep;exact closed j c vs z q rfl hL (hsame.trans e1) hq hX
  ·have hi0:(i==0)=false:=by simp;omega
   rcases Nat.lt_or_ge i n0 with hin | hin
   ·
    obtain⟨q,y',h1,h2,h3⟩:=hI.old i hpos hin;rw[hi] at h2;cases h2;cases q with
    | zero=>rw[h3.1] at hy;cases hy
    | succ k=>
     rcases h3 with⟨hf,_⟩ | ⟨_,y',es,hm,hstp,hq'⟩
     ·rw[hf] at hy;cases hy
     have hI2:=hI.slipOld hpos hin hm hq' y.frame.fn y.frame.place;have hrT:=runT_crowd_go (P:=P) (sl:=sl') (i:=i) hi (by rw[hi0];exact hstp w1);rw[Wh λl y' hl hy'=>(hI2.qt l y' (by rw[Bi hl];exact hy')).woken] at hrT;exact Reach.step (hst.trans hrT) (ihA _ ⟨i, .inr (k+1), .inr k,h1,Nat.lt_succ_self k,rfl⟩ _ _ _ _ _ _ rfl hI2 htape')
   ·obtain⟨j,rfl⟩:∃j,i=n0+j:=⟨i - n0,by omega⟩
    have hj:j<x.L.length:=by have:=hI.siz;omega
    obtain⟨⟨c,rem,seen⟩,hL⟩:∃e,x.L[j]?=some e:=⟨_,A4u hj⟩
    rcases hI.snd j c rem seen hL with⟨s,s1,s2,s3,s4,hsnd,hk,ho,hg | ⟨v,z',w₀,hg,hk0,ho0,hst0⟩⟩ | ⟨q,y',h1,h2,h3,h4,h5,_⟩
    ·obtain rfl:y=s.g:=by rw[hg] at hi;exact(Option.some.inj hi).symm
     subst s2 s4;rcases hsnd.inv.2 with hown | ⟨v,vs',e,hv⟩ | ⟨hv0,hmw,hcl⟩
     ·obtain⟨g',w',es,e1,hr,hS,hX⟩:=hown w1 hk ho
      have hI2:=hI.ownJ hj s1 hg hr hS hX s.g.frame.fn s.g.frame.place;have hrT:=runT_crowd_go (P:=P) (sl:=sl') (i:=n0+j) hg (by rw[hi0];exact e1);rw[Wh λl y' hl hy'=>(hI2.qt l y' (by rw[Bi hl];exact hy')).woken] at hrT;refine Reach.step (hst.trans hrT) (ihA _ ⟨n0+j,_,_,s1,?_,rfl⟩ _ _ _ _ _ _ rfl hI2 (hS.tape.trans htape'));refine⟨w1,hk,ho, .inl ⟨g',w',es,e1,ho.chg hS.chg λhb=>?_,rfl⟩⟩;have:=hI.ows.apart _ _ _ (hI.chan j _ _ _ hL).1 (hI.ownS j s s1 _ hb)
      omega
     ·obtain⟨⟨z,e1⟩,hX⟩:=hv w1 hk ho
      obtain⟨a,b,hc⟩:=id ho;by_cases hpk:∃z',gs[0]?=some (parked x.g #[rcase s.c z'] (.recv true))
      ·obtain⟨z',hp0⟩:=hpk
       have hp:partners (gs.setIfInBounds (n0+j) ph) s.c false=[(0,0)]:=Am6 (by omega) hp0 (by rw[offersAt_parked_recv,if_pos rfl]) λl y' hl hl0 hy'=>hI.offF hl0 hy'
       have hrT:=crowd_send_meets (P:=P) (sl:=sl') (i:=n0+j) (j:=0) hg (by rw[hi0];exact e1) hc (by omega) hp0 hp;rw[finishComm_recv,finishComm_send,Ky,Array.empty_append] at hrT;rcases hI.zero with h0 | ⟨k,c',vs2,z2,w₀,hLk,hk0,hst0,⟨hpz,_⟩ | ⟨hpz,_⟩⟩
       ·rw[h0] at hp0
        have:=congrArg Goroutine.status (Option.some.inj hp0)
        rw[hI.run] at this;cases this
       ·rw[hpz] at hp0
        have hzz:c'=s.c/\z2=z':=by
         have:=congrArg Goroutine.offers (Option.some.inj hp0)
         simp[parked,rcase] at this;exact this
        obtain⟨rfl,rfl⟩:=hzz;obtain rfl:=hI.dist k j s.c _ _ _ _ hLk hL;rw[hL] at hLk;cases hLk;rcases hx.2 with⟨hall,_⟩ | hown | ⟨c,hc,hsp⟩ | ⟨j',c',vs3,z3,hL',hrc⟩
        ·have:=hall _ (List.mem_of_getElem? hL);cases this
        ·obtain⟨g',w',es,e1,_⟩:=hown w₀ hk0
         rw[hst0] at e1;cases e1
        ·obtain⟨g',child,vs,e1,_⟩:=hsp w₀ hk0
         rw[hst0] at e1;cases e1
        ·have e2:=(hrc w₀ hk0).1
         rw[hst0] at e2;have:s.c=c':=by
          have:=congrArg (λs=>match s with | GStep.comm _ cs _ _ _ _=>cs.toList | _=>[]) e2
          simp[rcase] at this;exact this.1
         subst this;obtain rfl:=hI.dist k j' s.c _ _ _ _ hL hL';rw[hL] at hL';cases hL';have hvs2:=s3.trans e;refine Reach.step (hst.trans hrT) ((hrc w1 hI.keep).2.1 v vs' hvs2 _ _ _ _ _ _ (hI.meet (hvs2 ▸ hL) s1 hX rfl (by simp) ?_ ?_ ?_ ?_) htape')
         ·rw[Bi (by omega)];exact A45 (by omega)
         ·exact A45 (by simpa using hilt)
         ·intro l h1 h2;rw[Bi h2,Bi h1]
         ·intro op hop
          simp at hop;rcases hop with rfl | rfl | rfl | rfl<;>simp[MemAct.touch?]
       ·rw[hpz] at hp0
        have:=congrArg Goroutine.status (Option.some.inj hp0)
        simp[parked] at this
      ·have hno:∀z',gs[0]?≠some (parked x.g #[rcase s.c z'] (.recv true)):=λz' hz=>hpk ⟨z',hz⟩
       have hp:partners (gs.setIfInBounds (n0+j) ph) s.c false=[]:=Aca λl y' hl hy'=>by
        rcases Nat.eq_zero_or_pos l with rfl | hl0
        ·rcases hI.zero with h0 | ⟨k,c',vs2,z2,w₀,hLk,hk0,hst0,⟨hpz,_⟩ | ⟨hpz,_⟩⟩
         ·rw[h0] at hy';cases hy';exact offersAt_of_not_blocked (Y3 (.inl hI.run)) _ _
         ·rw[hpz] at hy';cases hy'
          rw[offersAt_parked_recv,if_neg];rintro rfl;exact hno _ hpz
         ·rw[hpz] at hy';cases hy';exact offersAt_of_not_blocked (Y3 (.inl rfl)) _ _
        ·exact hI.offF (by omega) hy'
       have hrT:=crowd_waits (P:=P) (sl:=sl') (i:=n0+j) hg (by rw[hi0];exact e1) (λcc hcc=>by
        have:cc=scase s.c v z:=by simpa using hcc
        subst this
        exact ways_send_none hc (by simp) hp)
       refine Reach.step (hst.trans hrT) ?_;rw[Ky,Array.append_empty];refine ihN _ ?_ _ _ _ _ _ rfl (hI.parkJ hL s1 hg hno e1) htape';rw[<-hcnt,Array.toList_setIfInBounds];exact Avt (x:=s.g) (by simpa using hg) (Y3 (.inl hsnd.inv.1)) rfl
     ·obtain⟨a,b,hc⟩:=id ho
      obtain⟨g',nq,e1,hr,hq⟩:=hcl w1 a b hk hc;have hrem:=s3.trans hv0;subst hrem;have hrT:=runT_crowd_go (P:=P) (sl:=sl') (i:=n0+j) hg (by rw[hi0];exact e1);have hC:Chg (λb=>b=s.c) w1 (w1.shut s.c a b false):=Chg.put w1 s.c _;have hwk:∀l y',l≠0->l≠n0+j->gs[l]?=some y'->woken P s.g g' (w1.shut s.c a b false) y'=y':=by
       intro l y' hl0 hlj hy';have hlt:=(Array.getElem?_eq_some_iff.1 hy').1;rcases Nat.lt_or_ge l n0 with hln | hln
       ·obtain⟨q,y2,_,h2,h3⟩:=hI.old l (by omega) hln
        rw[hy'] at h2;cases h2;exact woken_quitsD h3
       ·obtain⟨k,rfl⟩:∃k,l=n0+k:=⟨l - n0,by omega⟩
        have hkl:k<x.L.length:=by have:=hI.siz;omega
        obtain⟨⟨c',rem,seen⟩,hLk⟩:∃e,x.L[k]?=some e:=⟨_,A4u hkl⟩
        rcases hI.snd k c' rem seen hLk with⟨s',_,_,_,_,hsnd',_,ho',h1 | ⟨v,z,w₀,h1,_⟩⟩ | ⟨q,y2,_,h2,h3,_⟩
        ·rw[h1] at hy';cases hy';exact woken_run hsnd'.inv.1
        ·rw[h1] at hy';cases hy'
         obtain⟨a2,b2,hc2⟩:=ho'.chg hC (λe=>hlj (by rw[hI.dist k j s.c _ _ _ _ (e ▸ hLk) hL]));exact woken_send_open _ _ hc2
        ·rw[h2] at hy';cases hy'
         exact woken_quitsD (QuitsD.of_quitsIn h3)
      have hsz:((gs.map (woken P s.g g' (w1.shut s.c a b false))).setIfInBounds (n0+j) g').size=gs.size:=by simp
      refine Reach.step (hst.trans hrT) (ihA _ ⟨n0+j, .inl s, .inr nq,s1,trivial,rfl⟩ _ _ _ _ _ _ rfl (hI.close hL s1 hc hq hsz ?_ ?_ ?_ _ _) htape')
      ·exact A45 (by simpa using hilt)
      ·intro l hl0 hlj
       rw[Bi hlj,Array.getElem?_map];cases hyl:gs[l]? with
       | none=>rfl
       | some y'=>simp[hwk l y' hl0 hlj hyl]
      ·rw[Bi (by omega),Array.getElem?_map]
       rcases hI.zero with h0 | ⟨k,c',vs2,z2,w₀,hLk,hk0,hst0,⟨hpz,_⟩ | ⟨hpz,_⟩⟩
       ·refine .inl ⟨by rw[h0];simp[woken_run hI.run],λz hz=>?_⟩
        rw[h0] at hz;have:=congrArg Goroutine.status (Option.some.inj hz)
        rw[hI.run] at this;cases this
       ·by_cases hcc:c'=s.c
        ·subst hcc
         refine .inr ⟨z2,hpz,?_⟩;rw[hpz];simp only[Option.map_some,Option.some.injEq];have hwake:(mayWake P s.g && g'.status !=.blocked && g'.status !=.waiting)=true:=by rw[hmw,hr];rfl
         unfold Conc.woken;rw[if_pos hwake];exact again_recv_closed (heap_put hc)
        ·refine .inl ⟨?_,λz hz=>?_⟩
         ·rw[hpz]
          simp only[Option.map_some,Option.some.injEq];have hoc:Xc c' w1:=by
           rcases hI.qt 0 _ hpz with h | ⟨g2,c2,z3,sh,e,ho2⟩ | ⟨g2,c2,v2,z3,sh,e,_⟩
           ·rcases h with h | h<;>cases h
           ·have:=congrArg Goroutine.offers e
            simp[parked,rcase] at this;rw[this.1.1];exact ho2
           ·have:=congrArg Goroutine.offers e
            simp[parked,rcase,scase] at this
          obtain⟨a2,b2,hc2⟩:=hoc.chg hC hcc;exact woken_recv_open _ _ hc2
         ·rw[hpz] at hz
          have:=congrArg Goroutine.offers (Option.some.inj hz)
          simp[parked,rcase] at this;exact hcc this.1
       ·refine .inl ⟨by rw[hpz];simp only[Option.map_some,Option.some.injEq];exact woken_run rfl,λz hz=>?_⟩
        rw[hpz] at hz;have:=congrArg Goroutine.status (Option.some.inj hz)
        simp[parked] at this
    ·rw[hg] at hi
     have:=Option.some.inj hi
     rw[<-this] at hy;cases hy
    ·rw[hi] at h2;cases h2
     cases q with
     | zero=>rw[show y.status=.finished from h3] at hy;cases hy
     | succ k=>
      rcases h3 with hf | ⟨_,y',hstp,hq'⟩
      ·rw[hf] at hy;cases hy
      have hI2:=hI.slipJ hL h1 hq';have hrT:=runT_crowd_go (P:=P) (sl:=sl') (i:=n0+j) hi (by rw[hi0];exact hstp w1);rw[Wh λl y' hl hy'=>(hI2.qt l y' (by rw[Bi hl];exact hy')).woken] at hrT;refine Reach.step (hst.trans hrT) ?_;rw[Ky,Array.append_empty];exact ihA _ ⟨n0+j, .inr (k+1), .inr k,h1,Nat.lt_succ_self k,rfl⟩ _ _ _ _ _ _ rfl hI2 htape'
 exact main comps hI.acc _ gs ow w t sl rfl hI htape
end
end Go.Co
