import Derived.Test.YtifcnfeppdbjdaaGreatDoorHg
import Derived.Shelf.RegionOpen
import Derived.OwnWalkIn
import Derived.LoopNIn
import Derived.LoopIn
set_option maxHeartbeats 4000000
set_option maxRecDepth 100000
namespace Go.Proofs.YtifcnfeppdbjdaaGreatDoor
open Tryz Stil
section
open Go.RowKit Go.Sort Go.BigFrame
theorem NW (op:Int)(a:Option Addr)(b cap:Nat)(w:World)(_h:b<=9223372036854775807):
  Calls prog 122 #[.agg #[AB op,AE a b cap]] w (AN w (.bool (op==0 && b==0))):=by
 by_cases c:op=0
 ·subst c
  go_enter func122,ntmps122
  go_wp2
  all_goals go_ret
  all_goals refine⟨Ae ?_,AW⟩
  all_goals (go_light;rw[DY];simp;try omega)
 ·have d:(op==0)=false:=by rw[CS];exact c
  go_enter func122,ntmps122
  go_wp2
  all_goals go_ret
  all_goals refine⟨Ae ?_,AW⟩
  all_goals (go_light;simp[d])
end
section
open Go.RowKit Go.Sort Go.BigFrame Go.Shelf
theorem YQ (k op:Int)(b:Value)(p:Option Addr)(a cap:Nat)(d:Option Addr)(f c:Nat)(g:b=AE d f c)(w:World):
  Calls prog 160 #[.agg #[AB k,AB op,b,AE p a cap]] w (AN w (AE p a cap)):=by
 subst g;go_enter func160,ntmps160
 go_wp2
 go_ret;exact⟨rfl,AW⟩
theorem YD (k op:Int)(c i j p:Option Addr)(g b f d m l a cap:Nat)(w:World):
  Calls prog 151 #[.agg #[AB k,AB op,AE c g b,AE i f d,AE j m l,AE p a cap]] w (AN w (AE p a cap)):=by
 go_enter func151,ntmps151
 go_wp2
 go_ret;exact⟨rfl,AW⟩
def ME (l Y B K:Nat)(W:World):Prop:=W.cell? ⟨Y,0,none⟩=some (.func (.yield l) #[] #[])/\W.cell? ⟨B,0,none⟩=some (.func (.func 165) #[] #[AH Y,AH B,AH K])/\W.cell? ⟨K,0,none⟩=some (.func (.func 160) #[] #[])
def Lo (w:World)(P:Stil.B9->Prop)(C:Nat->Prop)(M l Y B K N:Nat)(J c:List (Ur w P)->World->Prop)(es:List Stil.B9):Prop:=
 ∀(m:Nat) (v:Value) (pre:List (Ur w P)) (W:World),Qu w C W v es->ME l Y B K W->J pre W->AO w W->M<=W.heap.size->pre.length+(Eu es).length<=N->
  CallsIn Fence.wide m prog 165 #[v,AH Y,AH B,AH K] W λe b=>
   (e=.returned (.bool true)/\∃a:List (Ur w P),a.map Ur.net=Eu es/\J (pre++a) b/\Kept w.heap.size C W b)\/
   (e=.returned (.bool false)/\∃a:List (Ur w P),a.map Ur.net<+:Eu es/\c (pre++a) b)
def MF (l Y B K:Nat)(W:World):Prop:=W.cell? ⟨Y,0,none⟩=some (.func (.yield l) #[] #[])/\W.cell? ⟨B,0,none⟩=some (.func (.func 158) #[] #[AH Y,AH B,AH K])/\W.cell? ⟨K,0,none⟩=some (.func (.func 151) #[] #[])
def Lq (w:World)(P:Stil.B8->Prop)(C:Nat->Prop)(M l Y B K N:Nat)(J c:List (Sr w P)->World->Prop)(es:List Stil.B8):Prop:=
 ∀(m:Nat) (v:Value) (pre:List (Sr w P)) (W:World),Pz w C W v es->MF l Y B K W->J pre W->AO w W->M<=W.heap.size->pre.length+(Ed es).length<=N->
  CallsIn Fence.wide m prog 158 #[v,AH Y,AH B,AH K] W λe b=>
   (e=.returned (.bool true)/\∃a:List (Sr w P),a.map Sr.arm=Ed es/\J (pre++a) b/\Kept w.heap.size C W b)\/
   (e=.returned (.bool false)/\∃a:List (Sr w P),a.map Sr.arm<+:Ed es/\c (pre++a) b)
end
section
open Go.RowKit Go.Sort Go.BigFrame Go.Shelf
attribute [local go_sem] Oper.semAt_some
theorem ME.keep {l Y B K:Nat}{C:Nat->Prop}{W b:World}(h:ME l Y B K W)(d:¬C Y)(e:¬C B)(c:¬C K)(a:Ky C W b):ME l Y B K b:=⟨a.cell d h.1,a.cell e h.2.1,a.cell c h.2.2⟩
theorem zm0 {p:Prop}(h:p:=by
 go_simp
 refine aA _ _ ?_;clear aA KK;refine wpAnyIn_ready (rs:=[7]) AX AU ?_;refine AllReadyIn.cons rfl (λKK aA=>?_) AllReadyIn.nil;go_simp;refine aA _ _ ?_;clear aA KK;exact key1):p:=h
theorem zn0 {p:Prop}(h:p:=by
 go_simp
 refine aA _ _ ?_;clear aA KK;refine wpAnyIn_ready (rs:=[6]) AX AU ?_;refine AllReadyIn.cons rfl (λKK aA=>?_) AllReadyIn.nil;go_simp;refine aA _ _ ?_;clear aA KK;exact key1):p:=h
theorem zb {p:Prop}(h:p:=by
 intro key2
 refine wpAnyIn_ready (rs:=[3]) AX AU ?_;refine AllReadyIn.cons rfl (λKK aA=>?_) AllReadyIn.nil;go_simp;refine aA _ _ ?_;clear aA KK;refine wpAnyIn_ready (rs:=[4]) AX AU ?_;refine AllReadyIn.cons rfl (λKK aA=>?_) AllReadyIn.nil;go_simp;refine aA _ _ ?_;clear aA KK;refine wpAnyIn_ready (rs:=[5,6,7]) AX AU ?_;refine AllReadyIn.cons rfl (λKK aA=>?_) ?_
 ·go_simp
  refine aA _ _ ?_;clear aA KK;refine wpAnyIn_ready (rs:=[6,7]) AX AU ?_;refine AllReadyIn.cons rfl (λKK aA=>?_) ?_
  ·exact zm0
  refine AllReadyIn.cons rfl (λKK aA=>?_) ?_
  ·exact zn0
  exact AllReadyIn.nil
 refine AllReadyIn.cons rfl (λKK aA=>?_) ?_
 ·go_simp
  refine aA _ _ ?_;clear aA KK;refine wpAnyIn_ready (rs:=[5,7]) AX AU ?_;refine AllReadyIn.cons rfl (λKK aA=>?_) ?_
  ·exact zm0
  refine AllReadyIn.cons rfl (λKK aA=>?_) ?_
  ·go_simp
   refine aA _ _ ?_;clear aA KK;exact key2
  exact AllReadyIn.nil
 refine AllReadyIn.cons rfl (λKK aA=>?_) ?_
 ·go_simp
  refine aA _ _ ?_;clear aA KK;refine wpAnyIn_ready (rs:=[5,6]) AX AU ?_;refine AllReadyIn.cons rfl (λKK aA=>?_) ?_
  ·exact zn0
  refine AllReadyIn.cons rfl (λKK aA=>?_) ?_
  ·go_simp
   refine aA _ _ ?_;clear aA KK;exact key2
  exact AllReadyIn.nil
 exact AllReadyIn.nil):p:=h
theorem zd {p:Prop}(h:p:=by
 refine aA _ _ ?_
 clear aA KK;refine wpAnyIn_ready (rs:=[10]) AX AU ?_;refine AllReadyIn.cons rfl (λKK aA=>?_) AllReadyIn.nil;go_simp;refine aA _ _ ?_;clear aA KK;refine wpAnyIn_ready (rs:=[11]) AX AU ?_;refine AllReadyIn.cons rfl (λKK aA=>?_) AllReadyIn.nil;go_simp;refine aA _ _ ?_;clear aA KK;refine wpAnyIn_done AX ?_ _
 gi_wp2
 exact⟨⟨j+1,ys++[x]++zs,AQ,by go_num,kR zs hzs,by simpa[EV] using wZ,hkW.t hk4⟩,by simp[intOf];omega⟩):p:=h
theorem ze {p:Prop}(h:p:=by
 refine aA _ _ ?_
 clear aA KK;refine wpAnyIn_ready (rs:=[10]) AX AU ?_;refine AllReadyIn.cons rfl (λKK aA=>?_) AllReadyIn.nil;go_simp;refine aA _ _ ?_;clear aA KK;refine wpAnyIn_ready (rs:=[11]) AX AU ?_;refine AllReadyIn.cons rfl (λKK aA=>?_) AllReadyIn.nil;go_simp;refine aA _ _ ?_;clear aA KK;refine wpAnyIn_done AX ?_ _
 gi_wp2
 go_ret;exact .inr ⟨rfl,ys++[x]++zs,mV zs hzs,by simpa[EV] using hx4⟩):p:=h
theorem zj {p:Prop}(h:p:=by
 refine aA _ _ ?_
 clear aA KK;refine wpAnyIn_ready (rs:=[3]) AX AU ?_;refine AllReadyIn.cons rfl (λKK aA=>?_) AllReadyIn.nil;go_simp;refine aA _ _ ?_;clear aA KK;refine wpAnyIn_ready (rs:=[4]) AX AU ?_;refine AllReadyIn.cons rfl (λKK aA=>?_) AllReadyIn.nil;go_simp;refine aA _ _ ?_;clear aA KK;refine wpAnyIn_take (i:=5) (v:=undef) rfl rfl AX AX AX (λ_ _ _ h=>h) ⟨Or.inr ⟨Ao,rfl⟩,λ_=>rfl⟩ ?_;refine wpAnyIn_take (i:=6) (v:=undef) rfl rfl AX AX AX (λ_ _ _ h=>h) ⟨Or.inr ⟨Ao,rfl⟩,λ_=>rfl⟩ ?_;refine wpAnyIn_take (i:=7) (v:=undef) rfl rfl AX AX AX (λ_ _ _ h=>h) ⟨Or.inr ⟨Ao,rfl⟩,λ_=>rfl⟩ ?_;refine wpAnyIn_take (i:=8) (v:=undef) rfl rfl AX AX AX (λ_ _ _ h=>h) ⟨Or.inr ⟨Ao,rfl⟩,λ_=>rfl⟩ ?_;refine wpAnyIn_take (i:=9) (v:=undef) rfl rfl AX AX AX (λ_ _ _ h=>h) ⟨Or.inr ⟨Ao,rfl⟩,λ_=>rfl⟩ ?_;refine wpAnyIn_take (i:=10) (v:=undef) rfl rfl AX AX AX (λ_ _ _ h=>h) ⟨Or.inr ⟨Ao,rfl⟩,λ_=>rfl⟩ ?_;refine wpAnyIn_ready (rs:=[11]) AX AU ?_;refine AllReadyIn.cons rfl (λKK aA=>?_) AllReadyIn.nil;go_simp;refine aA _ _ ?_;clear aA KK;refine wpAnyIn_done AX ?_ _
 gi_wp2
 go_ret;exact .inr ⟨rfl,ys++[x],qQ.out,by simpa[EV] using hx3⟩):p:=h
theorem zw {p:Prop}(h:p:=by
 intro oQ
 refine wpAnyIn_ready (rs:=[0,1]) AX AU ?_;refine AllReadyIn.cons rfl (λKK aA=>?_) ?_
 ·go_simp
  refine aA _ _ ?_;clear aA KK;refine wpAnyIn_ready (rs:=[1]) AX AU ?_;refine AllReadyIn.cons rfl (λKK aA=>?_) AllReadyIn.nil;go_simp;refine aA _ _ ?_;clear aA KK;exact oQ
 refine AllReadyIn.cons rfl (λKK aA=>?_) ?_
 ·go_simp
  refine aA _ _ ?_;clear aA KK;refine wpAnyIn_ready (rs:=[0]) AX AU ?_;refine AllReadyIn.cons rfl (λKK aA=>?_) AllReadyIn.nil;go_simp;refine aA _ _ ?_;clear aA KK;exact oQ
 exact AllReadyIn.nil):p:=h
theorem V2 (w:World)(P:Stil.B9->Prop)(C:Nat->Prop)(hC:∀k,C k->w.heap.size<=k)(ab l Y B K N:Nat)(ar:∀k,C k->k<ab)(tJ:¬C Y)(oG:¬C B)(mO:¬C K)(J Q:List (Ur w P)->World->Prop)
  (hJ:∀s W d,J s W->AO W d->J s d)
  (hY:∀m pre (x:Ur w P) W,J pre W->pre.length<N->YieldAt Fence.wide m prog l #[.agg #[AB x.net.kind,AB x.net.one.op,x.av,x.kv]] W λe d=>
   (e=.returned (.bool true)/\J (pre++[x]) d/\Kept w.heap.size C W d)\/(e=.returned (.bool false)/\Q (pre++[x]) d))
  (es:List Stil.B9) (hl:es.length<=1048576) (hf:∀x∈es,P x) (ih:∀x∈es,Lo w P C ab l Y B K N J Q x.kids):Lo w P C ab l Y B K N J Q es:=by
 intro m v pre W hs ag hj hb hM hN;have HS:=AV (λd (h:Ky C W d)=>hs.keep h);have bY:=AV (λd (h:Ky C W d)=>ag.keep tJ oG mO h);have ak:=AV hY;have yC:=AV hJ;have IH:=AV ih;have HN:=AV hN;have HB:=AV hb;obtain⟨a,cap,rfl,_⟩:=hs;clear hJ hY ih hN hb ag;refine callsIn_of_wp func165 rfl trivial ?_ rfl;simp only[ntmps165,Cd,CH,CO,Nat.reduceAdd,Nat.reduceSub,DN,DO,DL,DR,C5,C4]
 gi_wp2
 gi_loopw [10] (λi wr=>∃(j:Nat) (ys:List (Ur w P)),j<=es.length/\i=AB j/\ys.map Ur.net=Eu (es.take j)/\J (pre++ys) wr/\Kept w.heap.size C W wr) (λi _=>es.length - (intOf i).toNat)
 case atStart=>exact⟨0,[],AQ,rfl,by simp[Eu],by simpa using hj,Kept.refl _ _ _⟩
 case round=>
  obtain⟨j,ys,ax,rfl,M,aa,E⟩:=hrel;by_cases q:j<es.length
  ·obtain⟨a',au,hv,aj⟩:=HS wr E.2
   obtain⟨b,o,rfl,aw,av,kv,x0,x1,x2,x3,U,O⟩:=aj j q;simp only[Value.slice.injEq,true_and] at hv;obtain⟨rfl,rfl⟩:=hv;obtain⟨b0,b1,b2⟩:=bY wr E.2;have ao:(pre++ys).length<N:=by
    have h1:=HN.out;have X:ys.length=(Eu (es.take j)).length:=by rw[<-M,CW]
    have D:=(NU es (j+1)).length_le;rw[U3 es j q] at D;simp only[CM,CH] at D ⊢;omega
   obtain⟨Z,r0,R,_⟩:=id U;obtain⟨I,L,V,_⟩:=id O;have af:∀x:Ur w P,x=⟨es[j],av,kv,U,O,hf _ (CN q)⟩->∀c,J (pre++ys) c->YieldAt Fence.wide (m - 1) prog l #[.agg #[AB es[j].kind,AB es[j].one.op, .slice Z es[j].one.args.length r0, .slice I es[j].kids.length L]] c λe d=>
     (e=.returned (.bool true)/\J (pre++ys++[x]) d/\Kept w.heap.size C c d)\/(e=.returned (.bool false)/\Q (pre++ys++[x]) d):=by
    intro x H c ap;have:=ak (m - 1) (pre++ys) x c ap ao
    rw[H] at this ⊢;simp only[R,V] at this ⊢;exact this
   obtain⟨x,H⟩:∃x:Ur w P,x=⟨es[j],av,kv,U,O,hf _ (CN q)⟩:=⟨_,rfl⟩
   have HV:=AV (af x H);have xI:Hid (x.net=es[j]):=by show _=_;rw[H]
   have nG:=AV O;clear af H;obtain⟨y,hy⟩:=AA (es[j])
   rw[<-hy] at x0 x1 HV xI nG R V;have S:=AV hy;rw[R] at x2;rw[V] at x3 nG;clear U O R V hy;have G:¬C wr.heap.size:=λh=>by have:=ar _ h;have:=E.2.size;omega
   have ja:=Be b0;have xB:=Be b1;have uA:=Be b2
   gi_wp2
   obtain⟨c,n⟩:=AA (wr.alloc (.cells #[AB y.kind,AB y.one.op,AE Z y.one.args.length r0,AE I y.kids.length L] 59))
   rw[<-n];have c0:c.cell? ⟨Y,0,none⟩=some (.func (.yield l) #[] #[]):=by rw[n];simp[go_sem,b0,ja]
   have c1:c.cell? ⟨B,0,none⟩=some (.func (.func 165) #[] #[AH Y,AH B,AH K]):=by rw[n];simp[go_sem,b1,xB]
   have c2:c.cell? ⟨K,0,none⟩=some (.func (.func 160) #[] #[]):=by rw[n];simp[go_sem,b2,uA]
   obtain⟨z,F⟩:=AA wr.heap.size
   rw[<-F] at G ⊢;have d0:c.cell? ⟨z,0,none⟩=some (AB y.kind):=by rw[n,F];simp[go_sem]
   have d1:c.cell? ⟨z,1,none⟩=some (AB y.one.op):=by rw[n,F];simp[go_sem]
   have d2:c.cell? ⟨z,2,none⟩=some (AE Z y.one.args.length r0):=by rw[n,F];simp[go_sem]
   have d3:c.cell? ⟨z,3,none⟩=some (AE I y.kids.length L):=by rw[n,F];simp[go_sem]
   have ac:AO wr c:=by rw[n];exact Aa _ _
   have ah:=E.t (Kept.of_below (CJ HB.size E.1.size) ac);have ae:=yC _ _ _ aa ac.drew;clear n ac b0 b1 b2 x0 x1 x2 x3 ja xB uA aa E F;obtain⟨fn,az,assign,body,ay,hR⟩:=HV c.drew ae;clear HV ae
   have al:Hid (∀(e:Ending) (f:World),(e=.returned (.bool true)/\J (pre++ys++[x]) f/\Kept w.heap.size C c.drew f)->f.cell? ⟨B,0,none⟩=some (.func (.func 165) #[] #[AH Y,AH B,AH K])/\f.cell? ⟨K,0,none⟩=some (.func (.func 160) #[] #[])/\
     f.cell? ⟨z,0,none⟩=some (AB y.kind)/\f.cell? ⟨z,1,none⟩=some (AB y.one.op)/\f.cell? ⟨z,2,none⟩=some (AE Z y.one.args.length r0)/\f.cell? ⟨z,3,none⟩=some (AE I y.kids.length L)):=
    λe f h=>⟨h.2.2.2.cell oG c1,h.2.2.2.cell mO c2,h.2.2.2.cell G d0,h.2.2.2.cell G d1,h.2.2.2.cell G d2,h.2.2.2.cell G d3⟩
   have qW:Hid (∀f g,Kept w.heap.size C c.drew f->AO f g->Kept w.heap.size C W g):=λf g X D=>
    ((ah.t ⟨(Below.refl _ _).drew,(Ky.refl _ _).drew⟩).t X).t (Kept.of_below (CJ (CJ HB.size ah.1.size) X.1.size) D)
   have jL:Hid (∀g,J (pre++ys++[x]) g->Kept w.heap.size C W g->CallsIn Fence.wide (m - 1) prog 165 #[AE I y.kids.length L,AH Y,AH B,AH K] g λe d=>
     (e=.returned (.bool true)/\∃zs:List (Ur w P),zs.map Ur.net=Eu y.kids/\J (pre++ys++[x]++zs) d/\Kept w.heap.size C g d)\/
     (e=.returned (.bool false)/\∃zs:List (Ur w P),zs.map Ur.net<+:Eu y.kids/\Q (pre++ys++[x]++zs) d)):=by
    intro g an A;have ai:=HB.trans A.1;refine IH y (by rw[S.out];exact CN q) (m - 1) _ _ g (Qu.of_at nG ai hC) (bY g A.2) an ai (CJ hM A.2.size) ?_;have h1:=HN.out;have X:ys.length=(Eu (es.take j)).length:=by rw[<-M,CW]
    have D:=(NU es (j+1)).length_le;rw[U3 es j q,<-S.out] at D;simp only[CM,CH,CO] at D ⊢;omega
   have kR:Hid (∀zs:List (Ur w P),zs.map Ur.net=Eu y.kids->(ys++[x]++zs).map Ur.net=Eu (es.take (j+1))):=by
    intro zs hzs;rw[U3 es j q,CU,CU,M,hzs,<-S.out];simp[xI.out]
   have mV:Hid (∀zs:List (Ur w P),zs.map Ur.net<+:Eu y.kids->(ys++[x]++zs).map Ur.net<+:Eu es):=by
    intro zs hzs;refine List.IsPrefix.trans ?_ (NU es (j+1));rw[U3 es j q,CU,CU,M,<-S.out];obtain⟨t,ht⟩:=hzs;exact⟨t,by simp[xI.out,<-ht]⟩
   have qQ:Hid ((ys++[x]).map Ur.net<+:Eu es):=by
    show _<+:_
    have:=mV.out [] AU
    simpa using this
   refine wpIn_region_any AX ?_;try (change wpAnyIn _ _ _ _ _ _ _ _ _ (World.drew _))
   apply share
   ·exact zw
   ·refine wpAnyIn_ready (rs:=[2]) AX AU ?_
    refine AllReadyIn.cons rfl (λKK aA=>?_) AllReadyIn.nil;go_simp;refine⟨λh=>BE,?_⟩;refine hR.mono ?_;rintro e f (⟨rfl,u,A⟩ | ⟨rfl,hx3⟩)
    ·refine aA _ _ ?_
     clear aA KK;obtain⟨T,f2,g0,g1,g2,g3⟩:=al _ _ ⟨rfl,u,A⟩;apply share
     ·intro key1
      apply share
      ·exact zb
      ·refine wpAnyIn_ready (rs:=[5,8]) AX AU ?_
       refine AllReadyIn.cons rfl (λKK aA=>?_) ?_
       ·go_simp
        refine aA _ _ ?_;clear aA KK;exact key1
       refine AllReadyIn.cons rfl (λKK aA=>?_) ?_
       ·go_simp
        refine⟨trivial,λh=>BE,?_⟩;refine(callsIn_wide.2 (YQ _ _ _ _ _ _ _ _ _ rfl _)).mono ?_;rintro e g ⟨rfl,r⟩;refine aA _ _ ?_;clear aA KK;have h1:=(r.cell (p:=⟨B,0,none⟩) (Be T)).trans T;have u:=yC _ _ _ u r;have hkW:=qW _ _ A r;refine wpAnyIn_ready (rs:=[5]) AX AU ?_;refine AllReadyIn.cons rfl (λKK aA=>?_) AllReadyIn.nil;go_simp;refine aA _ _ ?_;clear aA KK;refine wpAnyIn_ready (rs:=[9]) AX AU ?_;refine AllReadyIn.cons rfl (λKK aA=>?_) AllReadyIn.nil;go_simp;refine⟨trivial,λh=>BE,?_⟩;refine(jL _ u hkW).mono ?_;rintro e W4 (⟨rfl,zs,hzs,wZ,hk4⟩ | ⟨rfl,zs,hzs,hx4⟩)
        ·exact zd
        ·exact ze
       exact AllReadyIn.nil
     ·refine wpAnyIn_ready (rs:=[8]) AX AU ?_
      refine AllReadyIn.cons rfl (λKK aA=>?_) AllReadyIn.nil;go_simp;refine⟨trivial,λh=>BE,?_⟩;refine(callsIn_wide.2 (YQ _ _ _ _ _ _ _ _ _ rfl _)).mono ?_;rintro e g ⟨rfl,r⟩;refine aA _ _ ?_;clear aA KK;have h1:=(r.cell (p:=⟨B,0,none⟩) (Be T)).trans T;have u:=yC _ _ _ u r;have hkW:=qW _ _ A r;refine wpAnyIn_ready (rs:=[9]) AX AU ?_;refine AllReadyIn.cons rfl (λKK aA=>?_) AllReadyIn.nil;go_simp;refine⟨trivial,λh=>BE,?_⟩;refine(jL _ u hkW).mono ?_;rintro e W4 (⟨rfl,zs,hzs,wZ,hk4⟩ | ⟨rfl,zs,hzs,hx4⟩)
      ·exact zd
      ·exact ze
    ·exact zj
  ·gi_wp2
   go_ret;refine .inl ⟨rfl,ys,?_,aa,E⟩;rw[M,EA AQ]
end
section
open Go.RowKit Go.Sort Go.BigFrame Go.Shelf
attribute [local go_sem] Oper.semAt_some
theorem MF.keep {l Y B K:Nat}{C:Nat->Prop}{W b:World}(h:MF l Y B K W)(d:¬C Y)(e:¬C B)(c:¬C K)(a:Ky C W b):MF l Y B K b:=⟨a.cell d h.1,a.cell e h.2.1,a.cell c h.2.2⟩
theorem V5 (w:World)(P:Stil.B8->Prop)(C:Nat->Prop)(hC:∀k,C k->w.heap.size<=k)(ac l Y B K N:Nat)(au:∀k,C k->k<ac)(tJ:¬C Y)(oG:¬C B)(mO:¬C K)(J Q:List (Sr w P)->World->Prop)
  (hJ:∀s W d,J s W->AO W d->J s d)
  (hY:∀m pre (x:Sr w P) W,J pre W->pre.length<N->YieldAt Fence.wide m prog l #[.agg #[AB x.arm.net.kind,AB x.arm.net.one.op,x.av,x.nv,x.cv,x.kv]] W λe d=>
   (e=.returned (.bool true)/\J (pre++[x]) d/\Kept w.heap.size C W d)\/(e=.returned (.bool false)/\Q (pre++[x]) d))
  (es:List Stil.B8) (hl:es.length<=1048576) (hf:∀x∈es,P x) (ih:∀x∈es,Lq w P C ac l Y B K N J Q x.kids):Lq w P C ac l Y B K N J Q es:=by
 intro m v pre W hs ah hj hb hM hN;have HS:=AV (λd (h:Ky C W d)=>hs.keep h);have bY:=AV (λd (h:Ky C W d)=>ah.keep tJ oG mO h);have al:=AV hY;have yC:=AV hJ;have IH:=AV ih;have HN:=AV hN;have HB:=AV hb;obtain⟨a,cap,rfl,_⟩:=hs;clear hJ hY ih hN hb ah;refine callsIn_of_wp func158 rfl trivial ?_ rfl;simp only[ntmps158,Cd,CH,CO,Nat.reduceAdd,Nat.reduceSub,DN,DO,DL,DR,C5,C4]
 gi_wp2
 gi_loopw [10] (λi wr=>∃(j:Nat) (ys:List (Sr w P)),j<=es.length/\i=AB j/\ys.map Sr.arm=Ed (es.take j)/\J (pre++ys) wr/\Kept w.heap.size C W wr) (λi _=>es.length - (intOf i).toNat)
 case atStart=>exact⟨0,[],AQ,rfl,by simp[Ed],by simpa using hj,Kept.refl _ _ _⟩
 case round=>
  obtain⟨j,ys,ay,rfl,M,ab,G⟩:=hrel;by_cases r:j<es.length
  ·obtain⟨a',aw,hv,ak⟩:=HS wr G.2
   obtain⟨b,o,rfl,ax,av,nv,cv,kv,x0,x1,x2,x3,x4,x5,X,V,aa,O⟩:=ak j r;simp only[Value.slice.injEq,true_and] at hv;obtain⟨rfl,rfl⟩:=hv;obtain⟨b0,b1,b2⟩:=bY wr G.2;have ap:(pre++ys).length<N:=by
    have h1:=HN.out;have h2:ys.length=(Ed (es.take j)).length:=by rw[<-M,CW]
    have F:=(NN es (j+1)).length_le;rw[U6 es j r] at F;simp only[CM,CH] at F ⊢;omega
   obtain⟨p0,r0,R,_⟩:=id X;obtain⟨U,r2,Z,_⟩:=id V;obtain⟨p3,r3,e3,_⟩:=id aa;obtain⟨I,L,e1,_⟩:=id O;have ag:∀x:Sr w P,x=⟨es[j],av,nv,cv,kv,X,V,aa,O,hf _ (CN r)⟩->∀c,J (pre++ys) c->YieldAt Fence.wide (m - 1) prog l #[.agg #[AB es[j].net.kind,AB es[j].net.one.op, .slice p0 es[j].net.one.args.length r0, .slice U es[j].net.kids.length r2, .slice p3 es[j].coils.length r3, .slice I es[j].kids.length L]] c λe d=>
     (e=.returned (.bool true)/\J (pre++ys++[x]) d/\Kept w.heap.size C c d)\/(e=.returned (.bool false)/\Q (pre++ys++[x]) d):=by
    intro x H c ar;have:=al (m - 1) (pre++ys) x c ar ap
    rw[H] at this ⊢;simp only[R,e1,Z,e3] at this ⊢;exact this
   obtain⟨x,H⟩:∃x:Sr w P,x=⟨es[j],av,nv,cv,kv,X,V,aa,O,hf _ (CN r)⟩:=⟨_,rfl⟩
   have HV:=AV (ag x H);have xI:Hid (x.arm=es[j]):=by show _=_;rw[H]
   have nG:=AV O;clear ag H;obtain⟨y,hy⟩:=AA (es[j])
   rw[<-hy] at x0 x1 HV xI nG R e1 Z e3;have S:=AV hy;rw[R] at x2;rw[Z] at x3;rw[e3] at x4;rw[e1] at x5 nG;clear X V aa O R e1 Z e3 hy;have u:¬C wr.heap.size:=λh=>by have:=au _ h;have:=G.2.size;omega
   have ja:=Be b0;have xB:=Be b1;have uA:=Be b2
   gi_wp2
   obtain⟨c,n⟩:=AA (wr.alloc (.cells #[AB y.net.kind,AB y.net.one.op,AE p0 y.net.one.args.length r0,AE U y.net.kids.length r2,AE p3 y.coils.length r3,AE I y.kids.length L] 62))
   rw[<-n];have c0:c.cell? ⟨Y,0,none⟩=some (.func (.yield l) #[] #[]):=by rw[n];simp[go_sem,b0,ja]
   have c1:c.cell? ⟨B,0,none⟩=some (.func (.func 158) #[] #[AH Y,AH B,AH K]):=by rw[n];simp[go_sem,b1,xB]
   have c2:c.cell? ⟨K,0,none⟩=some (.func (.func 151) #[] #[]):=by rw[n];simp[go_sem,b2,uA]
   obtain⟨z,q⟩:=AA wr.heap.size
   rw[<-q] at u ⊢;have d0:c.cell? ⟨z,0,none⟩=some (AB y.net.kind):=by rw[n,q];simp[go_sem]
   have d1:c.cell? ⟨z,1,none⟩=some (AB y.net.one.op):=by rw[n,q];simp[go_sem]
   have d2:c.cell? ⟨z,2,none⟩=some (AE p0 y.net.one.args.length r0):=by rw[n,q];simp[go_sem]
   have d3:c.cell? ⟨z,3,none⟩=some (AE U y.net.kids.length r2):=by rw[n,q];simp[go_sem]
   have d4:c.cell? ⟨z,4,none⟩=some (AE p3 y.coils.length r3):=by rw[n,q];simp[go_sem]
   have d5:c.cell? ⟨z,5,none⟩=some (AE I y.kids.length L):=by rw[n,q];simp[go_sem]
   have ae:AO wr c:=by rw[n];exact Aa _ _
   have ai:=G.t (Kept.of_below (CJ HB.size G.1.size) ae);have af:=yC _ _ _ ab ae.drew;clear n ae b0 b1 b2 x0 x1 x2 x3 x4 x5 ja xB uA ab G q;obtain⟨fn,aB,assign,body,az,hR⟩:=HV c.drew af;clear HV af
   have an:Hid (∀(e:Ending) (f:World),(e=.returned (.bool true)/\J (pre++ys++[x]) f/\Kept w.heap.size C c.drew f)->f.cell? ⟨B,0,none⟩=some (.func (.func 158) #[] #[AH Y,AH B,AH K])/\f.cell? ⟨K,0,none⟩=some (.func (.func 151) #[] #[])/\
     f.cell? ⟨z,0,none⟩=some (AB y.net.kind)/\f.cell? ⟨z,1,none⟩=some (AB y.net.one.op)/\f.cell? ⟨z,2,none⟩=some (AE p0 y.net.one.args.length r0)/\f.cell? ⟨z,3,none⟩=some (AE U y.net.kids.length r2)/\f.cell? ⟨z,4,none⟩=some (AE p3 y.coils.length r3)/\f.cell? ⟨z,5,none⟩=some (AE I y.kids.length L)):=
    λe f h=>⟨h.2.2.2.cell oG c1,h.2.2.2.cell mO c2,h.2.2.2.cell u d0,h.2.2.2.cell u d1,h.2.2.2.cell u d2,h.2.2.2.cell u d3,h.2.2.2.cell u d4,h.2.2.2.cell u d5⟩
   have qW:Hid (∀f g,Kept w.heap.size C c.drew f->AO f g->Kept w.heap.size C W g):=λf g h2 F=>
    ((ai.t ⟨(Below.refl _ _).drew,(Ky.refl _ _).drew⟩).t h2).t (Kept.of_below (CJ (CJ HB.size ai.1.size) h2.1.size) F)
   have jL:Hid (∀g,J (pre++ys++[x]) g->Kept w.heap.size C W g->CallsIn Fence.wide (m - 1) prog 158 #[AE I y.kids.length L,AH Y,AH B,AH K] g λe d=>
     (e=.returned (.bool true)/\∃zs:List (Sr w P),zs.map Sr.arm=Ed y.kids/\J (pre++ys++[x]++zs) d/\Kept w.heap.size C g d)\/
     (e=.returned (.bool false)/\∃zs:List (Sr w P),zs.map Sr.arm<+:Ed y.kids/\Q (pre++ys++[x]++zs) d)):=by
    intro g ao E;have aj:=HB.trans E.1;refine IH y (by rw[S.out];exact CN r) (m - 1) _ _ g (Pz.of_at nG aj hC) (bY g E.2) ao aj (CJ hM E.2.size) ?_;have h1:=HN.out;have h2:ys.length=(Ed (es.take j)).length:=by rw[<-M,CW]
    have F:=(NN es (j+1)).length_le;rw[U6 es j r,<-S.out] at F;simp only[CM,CH,CO] at F ⊢;omega
   have kR:Hid (∀zs:List (Sr w P),zs.map Sr.arm=Ed y.kids->(ys++[x]++zs).map Sr.arm=Ed (es.take (j+1))):=by
    intro zs hzs;rw[U6 es j r,CU,CU,M,hzs,<-S.out];simp[xI.out]
   have mV:Hid (∀zs:List (Sr w P),zs.map Sr.arm<+:Ed y.kids->(ys++[x]++zs).map Sr.arm<+:Ed es):=by
    intro zs hzs;refine List.IsPrefix.trans ?_ (NN es (j+1));rw[U6 es j r,CU,CU,M,<-S.out];obtain⟨t,ht⟩:=hzs;exact⟨t,by simp[xI.out,<-ht]⟩
   have qQ:Hid ((ys++[x]).map Sr.arm<+:Ed es):=by
    show _<+:_
    have:=mV.out [] AU
    simpa using this
   refine wpIn_region_any AX ?_;try (change wpAnyIn _ _ _ _ _ _ _ _ _ (World.drew _))
   apply share
   ·exact zw
   ·refine wpAnyIn_ready (rs:=[2]) AX AU ?_
    refine AllReadyIn.cons rfl (λKK aA=>?_) AllReadyIn.nil;go_simp;refine⟨λh=>BE,?_⟩;refine hR.mono ?_;rintro e f (⟨rfl,D,E⟩ | ⟨rfl,hx3⟩)
    ·refine aA _ _ ?_
     clear aA KK;obtain⟨T,f2,g0,g1,g2,g3,g4,g5⟩:=an _ _ ⟨rfl,D,E⟩;apply share
     ·intro key1
      apply share
      ·exact zb
      ·refine wpAnyIn_ready (rs:=[5,8]) AX AU ?_
       refine AllReadyIn.cons rfl (λKK aA=>?_) ?_
       ·go_simp
        refine aA _ _ ?_;clear aA KK;exact key1
       refine AllReadyIn.cons rfl (λKK aA=>?_) ?_
       ·go_simp
        refine⟨trivial,λh=>BE,?_⟩;refine(callsIn_wide.2 (YD _ _ _ _ _ _ _ _ _ _ _ _ _ _ _)).mono ?_;rintro e g ⟨rfl,A⟩;refine aA _ _ ?_;clear aA KK;have h1:=(A.cell (p:=⟨B,0,none⟩) (Be T)).trans T;have D:=yC _ _ _ D A;have hkW:=qW _ _ E A;refine wpAnyIn_ready (rs:=[5]) AX AU ?_;refine AllReadyIn.cons rfl (λKK aA=>?_) AllReadyIn.nil;go_simp;refine aA _ _ ?_;clear aA KK;refine wpAnyIn_ready (rs:=[9]) AX AU ?_;refine AllReadyIn.cons rfl (λKK aA=>?_) AllReadyIn.nil;go_simp;refine⟨trivial,λh=>BE,?_⟩;refine(jL _ D hkW).mono ?_;rintro e W4 (⟨rfl,zs,hzs,wZ,hk4⟩ | ⟨rfl,zs,hzs,hx4⟩)
        ·exact zd
        ·exact ze
       exact AllReadyIn.nil
     ·refine wpAnyIn_ready (rs:=[8]) AX AU ?_
      refine AllReadyIn.cons rfl (λKK aA=>?_) AllReadyIn.nil;go_simp;refine⟨trivial,λh=>BE,?_⟩;refine(callsIn_wide.2 (YD _ _ _ _ _ _ _ _ _ _ _ _ _ _ _)).mono ?_;rintro e g ⟨rfl,A⟩;refine aA _ _ ?_;clear aA KK;have h1:=(A.cell (p:=⟨B,0,none⟩) (Be T)).trans T;have D:=yC _ _ _ D A;have hkW:=qW _ _ E A;refine wpAnyIn_ready (rs:=[9]) AX AU ?_;refine AllReadyIn.cons rfl (λKK aA=>?_) AllReadyIn.nil;go_simp;refine⟨trivial,λh=>BE,?_⟩;refine(jL _ D hkW).mono ?_;rintro e W4 (⟨rfl,zs,hzs,wZ,hk4⟩ | ⟨rfl,zs,hzs,hx4⟩)
      ·exact zd
      ·exact ze
    ·exact zj
  ·gi_wp2
   go_ret;refine .inl ⟨rfl,ys,?_,ab,G⟩;rw[M,EA AQ]
end
section
open Go.RowKit Go.Sort Go.BigFrame Go.Shelf
theorem qy (w:World)(P:Stil.B9->Prop)(z:∀x,P x->x.kids.length<=1048576/\∀y∈x.kids,P y)(C:Nat->Prop)(t:∀k,C k->w.heap.size<=k)(M l Y B K N:Nat)(p:∀k,C k->k<M)(r:¬C Y)(q:¬C B)(o:¬C K)(J d:List (Ur w P)->World->Prop)
  (u:∀s W c,J s W->AO W c->J s c)
  (j:∀m pre (x:Ur w P) W,J pre W->pre.length<N->YieldAt Fence.wide m prog l #[.agg #[AB x.net.kind,AB x.net.one.op,x.av,x.kv]] W λe c=>(e=.returned (.bool true)/\J (pre++[x]) c/\Kept w.heap.size C W c)\/(e=.returned (.bool false)/\d (pre++[x]) c))
  (es:List Stil.B9) (hl:es.length<=1048576) (g:∀x∈es,P x):Lo w P C M l Y B K N J d es:=by
 refine V2 w P C t M l Y B K N p r q o J d u j es hl g (λx A=>?_);have key:∀n:Stil.B9,P n->Lo w P C M l Y B K N J d n.kids:=by
  intro n;induction n using Gf with
  | h a b kids D=>
   intro v;have f:=z _ v;exact V2 w P C t M l Y B K N p r q o J d u j kids f.1 f.2 (λy i=>D y i (f.2 y i))
 exact key x (g x A)
theorem YO (w:World)(P:Stil.B9->Prop)(R:∀x,P x->x.kids.length<=1048576/\∀ag∈x.kids,P ag)(C:Nat->Prop)(F:∀k,C k->w.heap.size<=k)(M A K:Nat)(o:∀k,C k->k<M)(Z:¬C K)(_hAC:¬C A)(es:List Stil.B9)(hl:es.length<=1048576)(H:∀x∈es,P x)(v:Value)(w0:World)
  (u:AO w w0) (ab:M<=w0.heap.size) (g:Qu w C w0 v es) (D:w0.cell? ⟨A,0,none⟩=some v) (L:w0.cell? ⟨K,0,none⟩=some (.func (.func 160) #[] #[])) (n:Nat):
  SeqStopsK Fence.wide n prog 164 #[AH K,AH A] (λx:Ur w P=>#[Value.agg #[AB x.net.kind,AB x.net.one.op,x.av,x.kv]]) (Kept w.heap.size C) (λb=>b.map Ur.net=Eu es) (λpre=>pre.map Ur.net<+:Eu es) (Eu es).length w0:=by
 intro l J E W c G _ z Q;have ak:∀(f:Fn) (first cap:Array Value) (w:World),(Instr.makeFunc f first cap).run prog w=.ok (.func f first cap) w:=λ_ _ _ _=>rfl
 have aj:∀(f:Fn) (y t:Array Value) (P:Program) (w:World) (a:Addr) (m:Mode),(store a (.func f y t) m).run P w=stored P w a (.func f y t) m:=λf y t P w a m=>run_store P w a _ m rfl
 have ae:=(c.cell (p:=⟨A,0,none⟩) (Be D)).trans D;have B:=(c.cell (p:=⟨K,0,none⟩) (Be L)).trans L;have ah:=Be ae;have uA:=Be B;have ai:=c.size
 have jL:Hid (∀d,AO W d->d.cell? ⟨W.heap.size,0,none⟩=some (.func (.yield l) #[] #[])->d.cell? ⟨W.heap.size+1,0,none⟩=some (.func (.func 165) #[] #[AH W.heap.size,AH (W.heap.size+1),AH K])->
   CallsIn Fence.wide (n - 1) prog 165 #[v,AH W.heap.size,AH (W.heap.size+1),AH K] d λe r=>
    (e=.returned (.bool true)/\∃b:List (Ur w P),b.map Ur.net=Eu es/\J ([]++b) r/\Kept w.heap.size C d r)\/
    (e=.returned (.bool false)/\∃b:List (Ur w P),b.map Ur.net<+:Eu es/\E ([]++b) r)):=by
  intro d i V T;have N:∀(s:List (Ur w P)) (X Y:World),J s X->AO X Y->J s Y:=λs X Y g j=>G s X Y none g ⟨j.os,j.tape,j.output,j.size,λk hk _=>j.block k hk⟩ (λal e=>by cases e)
  have aa:=(u.trans (c.mono u.size)).trans (i.mono (CJ u.size c.size));refine qy w P R C F M l W.heap.size (W.heap.size+1) K (Eu es).length o (λh=>by have:=o _ h;omega) (λh=>by have:=o _ h;omega) Z J E N (λm pre x X U S=>YieldAt.anyDepth rfl m (z pre x X U S)) es hl H (n - 1) v [] d (g.keep ((Ky.of_below c).call i)) ⟨V,T,(i.cell (p:=⟨K,0,none⟩) uA).trans B⟩ (N _ _ _ Q i) aa (CJ ab (CJ c.size i.size)) AU
 obtain⟨O,sl,I,rfl⟩:∃O sl I,v=.slice O sl I:=by obtain⟨a,cap,hv,_⟩:=g;exact⟨_,_,_,hv⟩
 clear z G g hl H F o;refine callsIn_of_wp func164 rfl trivial ?_ rfl;simp only[ntmps164,Cd,CH,CO,Nat.reduceAdd,Nat.reduceSub,DN,DO,DL,DR,C5,C4]
 gi_wp2_with (refine⟨trivial,λh=>BE,?_⟩;refine(jL _ AW (by simp[go_sem]) (by simp[go_sem])).mono ?_;rintro e W3 (⟨rfl,b,q,ac,_⟩ | ⟨rfl,b,q,af⟩))
 ·go_end0
  exact⟨⟨_,rfl⟩, .inl ⟨b,q,by simpa using ac⟩⟩
 ·go_end0
  exact⟨⟨_,rfl⟩, .inr ⟨b,q,by simpa using af⟩⟩
theorem vl (a:Option Addr)(g cap:Nat)(w:World):Calls prog 159 #[AE a g cap, .func (.func 160) #[] #[]] w λe f=>e=.returned (.func (.func 164) #[] #[AH (w.heap.size+1),AH w.heap.size])/\
  f.cell? ⟨w.heap.size,0,none⟩=some (AE a g cap)/\f.cell? ⟨w.heap.size+1,0,none⟩=some (.func (.func 160) #[] #[])/\AO w f:=by
 have i:∀(b:Fn) (first cap:Array Value) (w:World),(Instr.makeFunc b first cap).run prog w=.ok (.func b first cap) w:=λ_ _ _ _=>rfl
 have j:∀(b:Fn) (d c:Array Value) (P:Program) (w:World) (a:Addr) (m:Mode),(store a (.func b d c) m).run P w=stored P w a (.func b d c) m:=λb d c P w a m=>run_store P w a _ m rfl
 go_enter func159,ntmps159
 go_wp2
 go_ret;exact⟨rfl,by simp[go_sem],by simp[go_sem],AW⟩
theorem qz (w:World)(P:Stil.B8->Prop)(z:∀x,P x->x.kids.length<=1048576/\∀y∈x.kids,P y)(C:Nat->Prop)(t:∀k,C k->w.heap.size<=k)(M l Y B K N:Nat)(p:∀k,C k->k<M)(r:¬C Y)(q:¬C B)(o:¬C K)(J d:List (Sr w P)->World->Prop)
  (u:∀s W c,J s W->AO W c->J s c)
  (j:∀m pre (x:Sr w P) W,J pre W->pre.length<N->YieldAt Fence.wide m prog l #[.agg #[AB x.arm.net.kind,AB x.arm.net.one.op,x.av,x.nv,x.cv,x.kv]] W λe c=>(e=.returned (.bool true)/\J (pre++[x]) c/\Kept w.heap.size C W c)\/(e=.returned (.bool false)/\d (pre++[x]) c))
  (es:List Stil.B8) (hl:es.length<=1048576) (g:∀x∈es,P x):Lq w P C M l Y B K N J d es:=by
 refine V5 w P C t M l Y B K N p r q o J d u j es hl g (λx A=>?_);have key:∀n:Stil.B8,P n->Lq w P C M l Y B K N J d n.kids:=by
  intro n;induction n using Gl with
  | h a b kids D=>
   intro v;have f:=z _ v;exact V5 w P C t M l Y B K N p r q o J d u j kids f.1 f.2 (λy i=>D y i (f.2 y i))
 exact key x (g x A)
theorem YP (w:World)(P:Stil.B8->Prop)(R:∀x,P x->x.kids.length<=1048576/\∀ag∈x.kids,P ag)(C:Nat->Prop)(F:∀k,C k->w.heap.size<=k)(M A K:Nat)(o:∀k,C k->k<M)(Z:¬C K)(_hAC:¬C A)(es:List Stil.B8)(hl:es.length<=1048576)(H:∀x∈es,P x)(v:Value)(w0:World)
  (u:AO w w0) (ab:M<=w0.heap.size) (g:Pz w C w0 v es) (D:w0.cell? ⟨A,0,none⟩=some v) (L:w0.cell? ⟨K,0,none⟩=some (.func (.func 151) #[] #[])) (n:Nat):
  SeqStopsK Fence.wide n prog 157 #[AH K,AH A] (λx:Sr w P=>#[Value.agg #[AB x.arm.net.kind,AB x.arm.net.one.op,x.av,x.nv,x.cv,x.kv]]) (Kept w.heap.size C) (λb=>b.map Sr.arm=Ed es) (λpre=>pre.map Sr.arm<+:Ed es) (Ed es).length w0:=by
 intro l J E W c G _ z Q;have ak:∀(f:Fn) (first cap:Array Value) (w:World),(Instr.makeFunc f first cap).run prog w=.ok (.func f first cap) w:=λ_ _ _ _=>rfl
 have aj:∀(f:Fn) (y t:Array Value) (P:Program) (w:World) (a:Addr) (m:Mode),(store a (.func f y t) m).run P w=stored P w a (.func f y t) m:=λf y t P w a m=>run_store P w a _ m rfl
 have ae:=(c.cell (p:=⟨A,0,none⟩) (Be D)).trans D;have B:=(c.cell (p:=⟨K,0,none⟩) (Be L)).trans L;have ah:=Be ae;have uA:=Be B;have ai:=c.size
 have jL:Hid (∀d,AO W d->d.cell? ⟨W.heap.size,0,none⟩=some (.func (.yield l) #[] #[])->d.cell? ⟨W.heap.size+1,0,none⟩=some (.func (.func 158) #[] #[AH W.heap.size,AH (W.heap.size+1),AH K])->
   CallsIn Fence.wide (n - 1) prog 158 #[v,AH W.heap.size,AH (W.heap.size+1),AH K] d λe r=>
    (e=.returned (.bool true)/\∃b:List (Sr w P),b.map Sr.arm=Ed es/\J ([]++b) r/\Kept w.heap.size C d r)\/
    (e=.returned (.bool false)/\∃b:List (Sr w P),b.map Sr.arm<+:Ed es/\E ([]++b) r)):=by
  intro d i V T;have N:∀(s:List (Sr w P)) (X Y:World),J s X->AO X Y->J s Y:=λs X Y g j=>G s X Y none g ⟨j.os,j.tape,j.output,j.size,λk hk _=>j.block k hk⟩ (λal e=>by cases e)
  have aa:=(u.trans (c.mono u.size)).trans (i.mono (CJ u.size c.size));refine qz w P R C F M l W.heap.size (W.heap.size+1) K (Ed es).length o (λh=>by have:=o _ h;omega) (λh=>by have:=o _ h;omega) Z J E N (λm pre x X U S=>YieldAt.anyDepth rfl m (z pre x X U S)) es hl H (n - 1) v [] d (g.keep ((Ky.of_below c).call i)) ⟨V,T,(i.cell (p:=⟨K,0,none⟩) uA).trans B⟩ (N _ _ _ Q i) aa (CJ ab (CJ c.size i.size)) AU
 obtain⟨O,sl,I,rfl⟩:∃O sl I,v=.slice O sl I:=by obtain⟨a,cap,hv,_⟩:=g;exact⟨_,_,_,hv⟩
 clear z G g hl H F o;refine callsIn_of_wp func157 rfl trivial ?_ rfl;simp only[ntmps157,Cd,CH,CO,Nat.reduceAdd,Nat.reduceSub,DN,DO,DL,DR,C5,C4]
 gi_wp2_with (refine⟨trivial,λh=>BE,?_⟩;refine(jL _ AW (by simp[go_sem]) (by simp[go_sem])).mono ?_;rintro e W3 (⟨rfl,b,q,ac,_⟩ | ⟨rfl,b,q,af⟩))
 ·go_end0
  exact⟨⟨_,rfl⟩, .inl ⟨b,q,by simpa using ac⟩⟩
 ·go_end0
  exact⟨⟨_,rfl⟩, .inr ⟨b,q,by simpa using af⟩⟩
theorem vm (a:Option Addr)(g cap:Nat)(w:World):Calls prog 150 #[AE a g cap, .func (.func 151) #[] #[]] w λe f=>e=.returned (.func (.func 157) #[] #[AH (w.heap.size+1),AH w.heap.size])/\
  f.cell? ⟨w.heap.size,0,none⟩=some (AE a g cap)/\f.cell? ⟨w.heap.size+1,0,none⟩=some (.func (.func 151) #[] #[])/\AO w f:=by
 have i:∀(b:Fn) (first cap:Array Value) (w:World),(Instr.makeFunc b first cap).run prog w=.ok (.func b first cap) w:=λ_ _ _ _=>rfl
 have j:∀(b:Fn) (d c:Array Value) (P:Program) (w:World) (a:Addr) (m:Mode),(store a (.func b d c) m).run P w=stored P w a (.func b d c) m:=λb d c P w a m=>run_store P w a _ m rfl
 go_enter func150,ntmps150
 go_wp2
 go_ret;exact⟨rfl,by simp[go_sem],by simp[go_sem],AW⟩
end
section
open Go.RowKit Go.Sort Go.BigFrame Go.Shelf
attribute [local go_sem] Oper.semAt_some
theorem WA (k op:Int)(d p:Option Addr)(f c g cap:Nat)(w:World):
  Calls prog 152 #[.agg #[AB k,AB op,AE d f c,AE p g cap]] w λe a=>∃b A K,e=.returned (.func (.func 164) #[] #[AH K,AH A])/\w.heap.size<=b/\w.heap.size<=A/\w.heap.size<=K/\
   a.cell? ⟨A,0,none⟩=some (AE (some ⟨b,0,none⟩) 1 1)/\a.cell? ⟨K,0,none⟩=some (.func (.func 160) #[] #[])/\
   a.cell? ⟨b,0,none⟩=some (AB k)/\a.cell? ⟨b,1,none⟩=some (AB op)/\a.cell? ⟨b,2,none⟩=some (AE d f c)/\a.cell? ⟨b,3,none⟩=some (AE p g cap)/\AO w a:=by
 have o:∀(i:Fn) (first cap:Array Value) (w:World),(Instr.makeFunc i first cap).run prog w=.ok (.func i first cap) w:=λ_ _ _ _=>rfl
 go_enter func152,ntmps152
 go_wp2_with (go_at_call 159;refine(vl _ _ _ _).mono ?_;rintro e q ⟨rfl,l,j,m⟩)
 simp only[World.size_alloc] at l j;go_ret;refine⟨w.heap.size+1,_,_,rfl,AQ,AQ,AQ,l,j,?_,?_,?_,?_,AW⟩;all_goals (rw[m.cell (p:=⟨w.heap.size+1,_,none⟩) AU];simp[go_sem])
theorem WB (a:Option Addr)(c cap:Nat)(w:World):
  Calls prog 139 #[AE a c cap] w λe b=>∃A K,e=.returned (.func (.func 157) #[] #[AH K,AH A])/\w.heap.size<=A/\w.heap.size<=K/\
   b.cell? ⟨A,0,none⟩=some (AE a c cap)/\b.cell? ⟨K,0,none⟩=some (.func (.func 151) #[] #[])/\AO w b:=by
 have i:∀(d:Fn) (first cap:Array Value) (w:World),(Instr.makeFunc d first cap).run prog w=.ok (.func d first cap) w:=λ_ _ _ _=>rfl
 go_enter func139,ntmps139
 go_wp2_with (go_at_call 150;refine(vm _ _ _ _).mono ?_;rintro e k ⟨rfl,g,f,j⟩)
 go_ret;exact⟨_,_,rfl,AQ,AQ,g,f,AW⟩
theorem vp (n:Stil.B9)(U H:Value)(d:Int)(w:World)(Z:Dk w U n.one.args)(J:Gn w H n.kids)(S:Dw n)(ah:Af n<=1000000000)(_hl1:-9223372036854775808<=d)(_hl2:d<=9223372036854775807):
  Calls prog 140 #[.agg #[AB n.kind,AB n.one.op,U,H],AB d] w λe w'=>∃r:Nat,e=.returned (AB r)/\((Af n:Int)<=d->r=Af n)/\(d<Af n->d<r)/\r<=Af n/\AO w w':=by
 have q:Hid ((Eu [n]).length=Af n):=by show _=_;rw[VA,Aus]
 obtain⟨z,Q⟩:=AA (Af n)
 rw[<-Q] at ah q ⊢;clear Q;refine(callsIn_wide (n:=9)).1 ?_;have dR:=AV Z;have qX:=AV J;obtain⟨E,F,rfl,_⟩:=Z;obtain⟨B,G,rfl,_⟩:=J;refine callsIn_of_wp_marks func140 rfl trivial ?_ rfl;simp only[ntmps140,Cd,CH,CO,Nat.reduceAdd,Nat.reduceSub,DN,DO,DL,DR,C5,C4]
 gi_wp2_with (refine⟨trivial,?_⟩;gi_at_call 152;refine(callsIn_wide.2 (WA _ _ _ _ _ _ _ _ _)).mono ?_;rintro e g ⟨b,A,K,rfl,af,ak,ar,M,j,I,X,Y,P,hb⟩)
 simp only[World.size_alloc] at af ak ar;have T:AO w g:=AW;have ao:g.cell? ⟨w.heap.size+1,0,none⟩=some (AB d):=A3 hb;have ag:g.cell? ⟨w.heap.size+1+1,0,none⟩=some (AB 0):=A3 hb;have ai:g.frozen? ⟨w.heap.size+1+1,0,none⟩=false:=A5 hb;have ae:w.heap.size+3<=g.heap.size:=by have:=hb.size;simp at this;omega
 have R:Qu w (λk=>k=w.heap.size+1+1) g (AE (some ⟨b,0,none⟩) 1 1) [n]:=by
  refine⟨_,1,rfl,λi hi=>⟨b,0,rfl,(λh:b=_=>by omega),AE E n.one.args.length F,AE B n.kids.length G,?_⟩⟩;obtain rfl:i=0:=by simpa using hi
  simp only[FG,CV,EP];exact⟨I,X,Y,P,dR.out,qX.out⟩
 have V:Hid (SeqStopsK Fence.wide (9 - 1) prog 164 #[AH K,AH A] (λx:Ur w Dw=>#[Value.agg #[AB x.net.kind,AB x.net.one.op,x.av,x.kv]]) (Kept w.heap.size (λk=>k=w.heap.size+1+1)) (λy=>y.map Ur.net=Eu [n]) (λpre=>pre.map Ur.net<+:Eu [n]) (Eu [n]).length g):=
  YO w Dw (λx O=>⟨(Dz O).2.2.1,(Dz O).2.2.2⟩) (λk=>k=w.heap.size+1+1) (λk (h:k=_)=>by omega) (w.heap.size+3) A K (λk (h:k=_)=>by omega) (λh:K=_=>by omega) (λh:A=_=>by omega) [n] AU (by simpa using S) _ g T ae R M j _
 clear R hb I X Y P M j S;obtain⟨N,L⟩:=AA ((Eu [n]).length)
 rw[<-L] at V;have ay:N=z:=by rw[L,q.out]
 refine wpIn_rangeFunc_ownG rfl AY (gf:=164) (lb:=#[AH K,AH A]) rfl trivial (enters_of func164 AX rfl)
  V Kept.t (Kept.b AQ) (Below.refl _ _) (λ_=>rfl)
  (λpre W=>(W.cell? ⟨w.heap.size+1+1,0,none⟩=some (AB (pre.length:Int))/\W.frozen? ⟨w.heap.size+1+1,0,none⟩=false/\W.cell? ⟨w.heap.size+1,0,none⟩=some (AB d))/\AO w W)
  (λc pre W=>(c=.exit 0/\d<pre.length/\W.cell? ⟨w.heap.size+1+1,0,none⟩=some (AB (pre.length:Int)))/\AO w W)
  (OwnFrom.and (Own.from (λs A an row f m o=>⟨cell_kept f.1 m o,(frozen_kept f.1 m o).trans f.2.1,cell_kept f.2.2 m o⟩) _) (ownFrom_below (CG _) AQ))
  (λc=>OwnFrom.and (Own.from (λs A an row f m o=>⟨f.1,f.2.1,cell_kept f.2.2 m o⟩) _) (ownFrom_below (CG _) AQ))
  ⟨⟨by simpa using ag,ai,ao⟩,T⟩
  (λx=>{tmps:=#[.agg #[AB n.kind,AB n.one.op,AE E n.one.args.length F,AE B n.kids.length G],AB d,AH w.heap.size,AH (w.heap.size+1),AB 0,AH (w.heap.size+1+1), .agg #[AB n.kind,AB n.one.op,AE E n.one.args.length F,AE B n.kids.length G], .func (.func 164) #[] #[AH K,AH A], .agg #[AB x.net.kind,AB x.net.one.op,x.av,x.kv],undef,undef,undef,undef,undef,undef],defers:=[]}) ?assign ?body ?done ?stop
 case assign=>
  intro ap x W KK aA
  gi_wp2
  simpa using aA
 case body=>
  rintro ap pre x W ⟨⟨u,al,aj⟩,l⟩ aw;have az:=Be u;have hw:IntKind.i64.wrap ((pre.length:Int)+1)=(pre.length:Int)+1:=by rw[IntKind.wrap_i64];omega
  have aa:(W.setCell ⟨w.heap.size+1+1,0,none⟩ (AB ((pre.length:Int)+1))).cell? ⟨w.heap.size+1+1,0,none⟩=some (AB ((pre++[x]).length:Int)):=by
   rw[Fb u];simp
  by_cases au:d<(pre.length:Int)+1
  ·gi_wp2
   exact⟨(KeepsOthers.setCell _ _ _).from _,⟨rfl,by simp;omega,aa⟩,l.setCell (p:=⟨w.heap.size+1+1,0,none⟩) Ax _⟩
  ·gi_wp2
   exact⟨(KeepsOthers.setCell _ _ _).from _,⟨(Below.refl _ W).setCell (p:=⟨w.heap.size+1+1,0,none⟩) Ax _,Ky.set (C:=λk=>k=w.heap.size+1+1) (Ky.refl _ _) (show _=_ from rfl) _⟩,⟨aa,by rw[World.frozen?_setCell];exact al,by rw[Bj AQ];exact aj⟩,l.setCell (p:=⟨w.heap.size+1+1,0,none⟩) Ax _⟩
 case done=>
  rintro D y W hD hS ⟨⟨u,_⟩,l⟩ j;have ab:y.length=z:=by have:=congrArg List.length hS;rw[CW,q.out] at this;exact this
  gi_wp2
  refine⟨AU, .inl ⟨_,_,rfl,run_takeDeferred j,?_⟩⟩;exact⟨_,results_tmp rfl _ _ _,z,rfl,λ_=>rfl,λh=>h,CG _,l.trans (belowK_b (w:=w) (CG _) W D _ _ AQ j rfl rfl)⟩
 case stop=>
  rintro D c pre W hD ac ⟨⟨rfl,ax,u⟩,l⟩ j;have ab:pre.length<=z:=by have:=ac.length_le;rw[CW,q.out] at this;exact this
  gi_wp2
  refine⟨AU, .inl ⟨_,_,rfl,run_takeDeferred j,?_⟩⟩;exact⟨_,results_tmp rfl _ _ _,pre.length,rfl,λh=>by omega,λh=>by omega,AQ,l.trans (belowK_b (w:=w) (CG _) W D _ _ AQ j rfl rfl)⟩
end
section
open Go.RowKit Go.Sort Go.BigFrame Go.Shelf
attribute [local go_sem] Oper.semAt_some
theorem U4 (n:Stil.B9)(m l:Value)(w:World)(D:Dk w m n.one.args)(A:Gn w l n.kids)(c:Dw n):
  Calls prog 83 #[.agg #[AB n.kind,AB n.one.op,m,l]] w (AN w (.bool (Am n))):=by
 obtain⟨_,x,C,_⟩:=Dz c;have B:=x.2.1;obtain⟨y,z,rfl,_⟩:=D;obtain⟨F,G,rfl,_⟩:=A;clear c x;have a:Hid (Am n=((n.kind==0 && (n.one.op==0 && n.one.args.length==0)) && n.kids.length==0)):=by show _=_;unfold Am;simp only[Bool.and_assoc]
 have b:Hid (∀W,Calls prog 122 #[.agg #[AB n.one.op,AE y n.one.args.length z]] W (AN W (.bool (n.one.op==0 && n.one.args.length==0)))):=λW=>NW _ _ _ _ _ AQ
 obtain⟨i,r⟩:=AA ((n.one.op==0 && n.one.args.length==0))
 rw[<-r] at a b;obtain⟨g,t⟩:=AA n.kids.length
 obtain⟨v,q⟩:=AA n.one.args.length
 rw[<-t] at a C ⊢;rw[<-q] at b B ⊢;obtain⟨k,u⟩:=AA n.kind
 rw[<-u] at a ⊢;clear r t q u;by_cases o:k=0
 ·subst o
  cases i
  ·go_enter func83,ntmps83
   go_wp2_with (go_at_call 122;refine(b _).mono ?_;rintro e s ⟨rfl,d⟩)
   all_goals go_ret
   all_goals exact⟨Ae (by rw[a.out];simp),AW⟩
  ·by_cases f:g=0
   ·subst f
    go_enter func83,ntmps83
    go_wp2_with (go_at_call 122;refine(b _).mono ?_;rintro e s ⟨rfl,d⟩;obtain⟨E,c⟩:=Ef d)
    all_goals go_ret
    all_goals exact⟨Ae (by rw[a.out];simp),AW⟩
   ·have H:((g:Int)==0)=false:=by rw[CS];omega
    go_enter func83,ntmps83
    go_wp2_with (go_at_call 122;refine(b _).mono ?_;rintro e s ⟨rfl,d⟩;obtain⟨E,c⟩:=Ef d)
    all_goals go_ret
    all_goals exact⟨Ae (by rw[a.out];simp[f]),AW⟩
 ·have f:(k==0)=false:=by rw[CS];exact o
  go_enter func83,ntmps83
  go_wp2
  all_goals go_ret
  all_goals exact⟨Ae (by rw[a.out,f];rfl),AW⟩
end
open Go.RowKit Go.Sort Go.BigFrame Go.Shelf
attribute [local go_sem] Oper.semAt_some
def NC (W:World)(B:Nat)(k op:Int)(a n c d:Value):Prop:=W.cell? ⟨B,0,none⟩=some (AB k)/\W.cell? ⟨B,1,none⟩=some (AB op)/\W.cell? ⟨B,2,none⟩=some a/\W.cell? ⟨B,3,none⟩=some n/\W.cell? ⟨B,4,none⟩=some c/\W.cell? ⟨B,5,none⟩=some d
theorem XG {β:Type}(B:Nat)(k op:Int)(a n c d:Value):Own (λ(_:β) W=>NC W B k op a n c d):=λ_ _ _ _ f b e=>
 ⟨cell_kept f.1 b e,cell_kept f.2.1 b e,cell_kept f.2.2.1 b e,cell_kept f.2.2.2.1 b e,cell_kept f.2.2.2.2.1 b e,cell_kept f.2.2.2.2.2 b e⟩
theorem zt {p:Prop}(h:p:=by
 have hrn:r=ns:=by
  by_cases h:(ns:Int)<=limit - ((S:Int)+(1+cn))
  ·exact hr1 h
  ·have:=hr2 AQ
   omega
 gi_wp2
 exact⟨by(repeat (first | with_reducible exact KeepsFrom.refl _ _ | with_reducible refine Xq ?_ _ _ | with_reducible refine Si ?_ | with_reducible refine Ol ?_ _ | with_reducible refine Sj ?_ Br)),QI (b:=w.heap.size+1) (Wu (Azc (Wu (QI (b:=w.heap.size+1) (Kept.refl w.heap.size (λk=>k=w.heap.size+1) W) BF rfl _) hn hb2)) hn hb3) BF rfl _,⟨⟨⟨by rw[Fb c3,bW.out,hoe];simp;omega,by rw[World.frozen?_setCell];exact z3,by rw[Bj BF];exact l3⟩,AW⟩,by rw[bW.out];omega,by rw[bW.out,HPL.out];omega,by have:=hb2.size;have:=hb3.size;simp at*;omega⟩⟩):p:=h
theorem zf0 {p:Prop}(h:p:=by
 gi_wp2
 exact⟨by(repeat (first | with_reducible exact KeepsFrom.refl _ _ | with_reducible refine Xq ?_ _ _ | with_reducible refine Si ?_ | with_reducible refine Ol ?_ _ | with_reducible refine Sj ?_ Br)),⟨rfl,S+(1+cn)+r,by omega,by rw[bW.out];omega,by rw[Fb c3];simp⟩,AW⟩):p:=h
theorem va (g:List Stil.B8)(v:Value)(limit:Int)(w:World)(U:Fe w v g)(hf:∀x∈g,Dh x)(hl:g.length<=1048576)(al:Bz g<=1000000000)(aQ:0<=limit)(aV:limit<=9223372036854775807):
  Calls prog 116 #[v,AB limit] w λe w'=>∃r:Nat,e=.returned (AB r)/\((Bz g:Int)<=limit->r=Bz g)/\(limit<Bz g->limit<r)/\r<=Bz g/\AO w w':=by
 have J:=AV (v8 g);obtain⟨z,hz⟩:=AA (Bz g)
 rw[<-hz] at al J ⊢;clear hz;have vK:Hid (∀W,AO w W->Pz w (λk=>k=w.heap.size+1) W v g):=λW h=>Pz.of_at U h (λk (h:k=_)=>by omega)
 obtain⟨p0,r0,rfl,_⟩:=U;refine(callsIn_wide (n:=9)).1 ?_;refine callsIn_of_wp_marks func116 rfl trivial ?_ rfl;simp only[ntmps116,Cd,CH,CO,Nat.reduceAdd,Nat.reduceSub,DN,DO,DL,DR,C5,C4]
 gi_wp2_with (refine⟨trivial,?_⟩;gi_at_call 139;refine(callsIn_wide.2 (WB _ _ _ _)).mono ?_;rintro e u ⟨A,K,rfl,aE,aM,hA,C,hb⟩)
 simp only[World.size_alloc] at aE aM;have ac:AO w u:=AW;have aH:u.cell? ⟨w.heap.size,0,none⟩=some (AB limit):=by rw[hb.cell (p:=⟨w.heap.size,0,none⟩) Ax];simp[go_sem]
 have ay:u.cell? ⟨w.heap.size+1,0,none⟩=some (AB 0):=A3 hb;have aC:u.frozen? ⟨w.heap.size+1,0,none⟩=false:=A5 hb;have ax:w.heap.size+2<=u.heap.size:=by have:=hb.size;simp at this;omega
 have HS:Hid (SeqStopsK Fence.wide (9 - 1) prog 157 #[AH K,AH A] (λx:Sr w (λa=>a∈Ed g)=>#[Value.agg #[AB x.arm.net.kind,AB x.arm.net.one.op,x.av,x.nv,x.cv,x.kv]]) (Kept w.heap.size (λk=>k=w.heap.size+1)) (λys=>ys.map Sr.arm=Ed g) (λpre=>pre.map Sr.arm<+:Ed g) (Ed g).length u):=
  YP w (λa=>a∈Ed g) (λx B=>⟨(Il (TT g hf x B)).2.2.2.1,tQ g x B⟩) (λk=>k=w.heap.size+1) (λk (h:k=_)=>by omega) (w.heap.size+2) A K (λk (h:k=_)=>by omega) (λh:K=_=>by omega) (λh:A=_=>by omega) g hl (v9 g) _ u ac ax (vK u ac) hA C _
 have aB:Hid (∀x∈Ed g,Rn x<=z):=λx B=>by rw[<-J.out];exact Auy _ B
 have qi:=AV (TT g hf);have aU:(Ed g).length<=z:=by rw[<-J.out];exact Ni Rn (λx=>by unfold Rn;omega) _
 clear hb hA C hf vK;refine wpIn_rangeFunc_ownH rfl AY (gf:=157) (lb:=#[AH K,AH A]) rfl trivial (enters_of func157 AX rfl)
  HS Kept.t (Kept.b AQ) (Below.refl _ _) (λ_=>rfl)
  (λpre W=>((W.cell? ⟨w.heap.size+1,0,none⟩=some (AB ((pre.map (Rn ∘ Sr.arm)).sum:Nat))/\W.frozen? ⟨w.heap.size+1,0,none⟩=false/\W.cell? ⟨w.heap.size,0,none⟩=some (AB limit))/\AO w W)/\(((pre.map (Rn ∘ Sr.arm)).sum:Nat):Int)<=limit/\(pre.map (Rn ∘ Sr.arm)).sum<=pre.length*z/\u.heap.size<=W.heap.size)
  (λc pre W=>(c=.exit 0/\∃t:Nat,limit<t/\t<=(pre.map (Rn ∘ Sr.arm)).sum/\W.cell? ⟨w.heap.size+1,0,none⟩=some (AB t))/\AO w W)
  (OwnFrom.and (OwnFrom.and (Own.from (λs A ab row i y E=>⟨cell_kept i.1 y E,(frozen_kept i.1 y E).trans i.2.1,cell_kept i.2.2 y E⟩) _) (ownFrom_below (CG _) AQ)) (OwnFrom.and (ownFrom_pure _ _) (OwnFrom.and (ownFrom_pure _ _) (λ_ _ _ _ i y _=>CJ i y.size))))
  (λc=>OwnFrom.and (Own.from (λs A ab row i y E=>⟨i.1,i.2.elim λt ht=>⟨t,ht.1,ht.2.1,cell_kept ht.2.2 y E⟩⟩) _) (ownFrom_below (CG _) AQ))
  ⟨⟨⟨by simpa using ay,aC,aH⟩,ac⟩,by simpa using aQ,AU,CG _⟩
  (λx a' W=>∃j,u.heap.size<=j/\NC W j x.arm.net.kind x.arm.net.one.op x.av x.nv x.cv x.kv/\a'={tmps:=#[AE p0 g.length r0,AB limit,undef,AH w.heap.size,AB 0,AH (w.heap.size+1),AH j,AE p0 g.length r0, .func (.func 157) #[] #[AH K,AH A], .agg #[AB x.arm.net.kind,AB x.arm.net.one.op,x.av,x.nv,x.cv,x.kv],undef,undef,undef,undef,undef,undef,undef,undef,undef,undef,undef,undef,undef,undef,undef,undef,undef,undef,undef,undef,undef,undef],defers:=[]})
  (λx a' s A ab row i y E=>i.elim λj B=>⟨j,B.1,XG (β:=Unit) j _ _ _ _ _ _ s A ab row B.2.1 y (λr e=>(E r e).2),B.2.2⟩) ?assign ?body ?done ?stop
 case assign=>
  rintro l pre x W f ⟨⟨⟨m,hfz,O⟩,H⟩,M,ah,aO⟩ d;have aF:=Be m;obtain⟨x,av,nv,cv,kv,U,aG,aL,aK,aY⟩:=x;obtain⟨q0,s0,rfl,_⟩:=id U;obtain⟨q1,s1,rfl,_⟩:=id aG;obtain⟨q2,s2,rfl,_⟩:=id aL;obtain⟨q3,s3,rfl,_⟩:=id aK
  gi_wp2
  exact d _ _ ((KeepsOthers.alloc _ _).from _) (Kept.of_below H.size (Aa _ _)) ⟨⟨⟨Px _ m,Qe _ m hfz,Px _ O⟩,AW⟩,M,ah,by simp;omega⟩ ⟨W.heap.size,AQ,⟨by simp[go_sem],by simp[go_sem],by simp[go_sem],by simp[go_sem],by simp[go_sem],by simp[go_sem]⟩,rfl⟩
 case body=>
  rintro l pre x a' W aN _ ⟨⟨⟨m,hfz,O⟩,H⟩,M,ah,aO⟩ ⟨j,aS,⟨y0,y1,y2,y3,y4,y5⟩,rfl⟩ aJ;have aF:=Be m;have aX:w.heap.size<W.heap.size:=AQ
  have xB:=Be y0;have hn:w.heap.size<=W.heap.size:=AQ
  have T:¬j=w.heap.size+1:=AQ
  have aT:¬j=w.heap.size:=AQ
  have bW:Hid (((pre++[x]).map (Rn ∘ Sr.arm)).sum=(pre.map (Rn ∘ Sr.arm)).sum+Rn x.arm):=by show _=_;rw[CU,GV];simp
  have HPL:Hid ((pre++[x]).length*z=pre.length*z+z):=by show _=_;rw[CM,Nat.add_mul];simp
  have aW:pre.length*z<=1000000000*1000000000:=Nat.mul_le_mul AQ al;have ae:=(Il (qi _ x.mem)).1;have az:=(Il (qi _ x.mem)).2.1;have aw:=aB _ x.mem;have D:Hid (Rn x.arm=1+x.arm.coils.length+(if Am x.arm.net then 0 else Af x.arm.net)):=rfl;obtain⟨q0,s0,Z,_⟩:=id x.hav;obtain⟨q1,s1,e1,_⟩:=id x.hnv;obtain⟨q2,s2,e2,_⟩:=id x.hcv;obtain⟨q3,s3,e3,_⟩:=id x.hkv;have G:=AV (λaf I=>U4 x.arm.net x.av x.nv af (x.hav.below I) (x.hnv.below I) ae);have N:=AV (λaf I i aP h1 h2=>vp x.arm.net x.av x.nv aP af (x.hav.below I) (x.hnv.below I) ae i h1 h2);rw[Z,e1] at G N;rw[Z] at y2;rw[e1] at y3;rw[e2] at y4;rw[e3] at y5;obtain⟨S,hS⟩:=AA ((pre.map (Rn ∘ Sr.arm)).sum)
  obtain⟨o,ho⟩:=AA (Rn x.arm)
  obtain⟨cn,an⟩:=AA x.arm.coils.length
  rw[<-hS] at m M ah bW;rw[<-ho] at aw bW D;rw[<-an] at az D y4;clear ae hS ho an Z e1 e2 e3 aJ aN;cases V:Am x.arm.net
  ·rw[V] at G D
   have hoe:o=1+cn+Af x.arm.net:=by rw[D.out];simp
   obtain⟨ns,ak⟩:=AA (Af x.arm.net)
   rw[<-ak] at hoe N;clear ak V D;have ar:IntKind.i64.wrap (limit - ((S:Int)+(1+cn)))=limit - ((S:Int)+(1+cn)):=by rw[IntKind.wrap_i64];omega
   gi_wp2_with (refine⟨trivial,?_⟩;gi_at_call 83;refine(CallsIn.inRound l (callsIn_wide.2 (G _ AW))).mono ?_;rintro e L ⟨rfl,hb2⟩;have q:=(hb2.cell (p:=⟨w.heap.size+1,0,none⟩) Ax).trans (Fb m);have P:L.frozen? ⟨w.heap.size+1,0,none⟩=false:=(hb2.frozen (p:=⟨w.heap.size+1,0,none⟩) Ax).trans yEh;have F:=(hb2.cell (p:=⟨w.heap.size,0,none⟩) Ax).trans ((Bj AQ).trans O);have v0:=(hb2.cell (p:=⟨j,0,none⟩) Ax).trans ((Bj T).trans y0);have v1:=(hb2.cell (p:=⟨j,1,none⟩) Ax).trans ((Bj T).trans y1);have v2:=(hb2.cell (p:=⟨j,2,none⟩) Ax).trans ((Bj T).trans y2);have v3:=(hb2.cell (p:=⟨j,3,none⟩) Ax).trans ((Bj T).trans y3))
   refine wpIn_region_any AX ?_;try (change wpAnyIn _ _ _ _ _ _ _ _ _ (World.drew _))
   apply share
   ·intro zn
    apply share
    ·intro R
     apply share
     ·intro zl
      apply share
      ·intro ap
       apply share
       ·intro zk
        apply share
        ·intro zi
         apply share
         ·intro Q
          apply share
          ·intro ao
           apply share
           ·intro zh
            apply share
            ·intro aj
             apply share
             ·intro zV
              apply share
              ·intro X
               apply share
               ·intro vY
                apply share
                ·intro vX
                 apply share
                 ·intro zU
                  apply share
                  ·intro zT
                   apply share
                   ·intro Y
                    apply share
                    ·intro zS
                     apply share
                     ·intro zQ
                      apply share
                      ·intro zO
                       apply share
                       ·intro zN
                        apply share
                        ·intro zM
                         apply share
                         ·intro zL
                          refine wpAnyIn_ready (rs:=[0,1,3,4]) AX AU ?_;refine AllReadyIn.cons rfl (λf d=>?_) ?_
                          ·go_simp
                           refine d _ _ ?_;clear d f;refine wpAnyIn_ready (rs:=[1,3,4]) AX AU ?_;refine AllReadyIn.cons rfl (λf d=>?_) ?_
                           ·go_simp
                            refine d _ _ ?_;clear d f;exact zS
                           refine AllReadyIn.cons rfl (λf d=>?_) ?_
                           ·go_simp
                            refine d _ _ ?_;clear d f;exact zQ
                           refine AllReadyIn.cons rfl (λf d=>?_) ?_
                           ·go_simp
                            refine d _ _ ?_;clear d f;exact zO
                           exact AllReadyIn.nil
                          refine AllReadyIn.cons rfl (λf d=>?_) ?_
                          ·go_simp
                           refine d _ _ ?_;clear d f;refine wpAnyIn_ready (rs:=[0,2,3,4]) AX AU ?_;refine AllReadyIn.cons rfl (λf d=>?_) ?_
                           ·go_simp
                            refine d _ _ ?_;clear d f;exact zS
                           refine AllReadyIn.cons rfl (λf d=>?_) ?_
                           ·go_simp
                            refine d _ _ ?_;clear d f;refine wpAnyIn_ready (rs:=[0,3,4]) AX AU ?_;refine AllReadyIn.cons rfl (λf d=>?_) ?_
                            ·go_simp
                             refine d _ _ ?_;clear d f;exact zV
                            refine AllReadyIn.cons rfl (λf d=>?_) ?_
                            ·go_simp
                             refine d _ _ ?_;clear d f;exact zU
                            refine AllReadyIn.cons rfl (λf d=>?_) ?_
                            ·go_simp
                             refine d _ _ ?_;clear d f;exact zT
                            exact AllReadyIn.nil
                           refine AllReadyIn.cons rfl (λf d=>?_) ?_
                           ·go_simp
                            refine d _ _ ?_;clear d f;exact zN
                           refine AllReadyIn.cons rfl (λf d=>?_) ?_
                           ·go_simp
                            refine d _ _ ?_;clear d f;exact zM
                           exact AllReadyIn.nil
                          refine AllReadyIn.cons rfl (λf d=>?_) ?_
                          ·go_simp
                           refine d _ _ ?_;clear d f;refine wpAnyIn_ready (rs:=[0,1,4]) AX AU ?_;refine AllReadyIn.cons rfl (λf d=>?_) ?_
                           ·go_simp
                            refine d _ _ ?_;clear d f;exact zQ
                           refine AllReadyIn.cons rfl (λf d=>?_) ?_
                           ·go_simp
                            refine d _ _ ?_;clear d f;exact zN
                           refine AllReadyIn.cons rfl (λf d=>?_) ?_
                           ·go_simp
                            refine d _ _ ?_;clear d f;exact zL
                           exact AllReadyIn.nil
                          refine AllReadyIn.cons rfl (λf d=>?_) ?_
                          ·go_simp
                           refine d _ _ ?_;clear d f;refine wpAnyIn_ready (rs:=[0,1,3]) AX AU ?_;refine AllReadyIn.cons rfl (λf d=>?_) ?_
                           ·go_simp
                            refine d _ _ ?_;clear d f;exact zO
                           refine AllReadyIn.cons rfl (λf d=>?_) ?_
                           ·go_simp
                            refine d _ _ ?_;clear d f;exact zM
                           refine AllReadyIn.cons rfl (λf d=>?_) ?_
                           ·go_simp
                            refine d _ _ ?_;clear d f;exact zL
                           exact AllReadyIn.nil
                          exact AllReadyIn.nil
                         ·refine wpAnyIn_ready (rs:=[0,1,5]) AX AU ?_
                          refine AllReadyIn.cons rfl (λf d=>?_) ?_
                          ·go_simp
                           refine d _ _ ?_;clear d f;exact vX
                          refine AllReadyIn.cons rfl (λf d=>?_) ?_
                          ·go_simp
                           refine d _ _ ?_;clear d f;exact Y
                          refine AllReadyIn.cons rfl (λf d=>?_) ?_
                          ·go_simp
                           refine d _ _ ?_;clear d f;refine wpAnyIn_ready (rs:=[0,1]) AX AU ?_;refine AllReadyIn.cons rfl (λf d=>?_) ?_
                           ·go_simp
                            refine d _ _ ?_;clear d f;exact ao
                           refine AllReadyIn.cons rfl (λf d=>?_) ?_
                           ·go_simp
                            refine d _ _ ?_;clear d f;exact aj
                           exact AllReadyIn.nil
                          exact AllReadyIn.nil
                        ·refine wpAnyIn_ready (rs:=[0,2,3]) AX AU ?_
                         refine AllReadyIn.cons rfl (λf d=>?_) ?_
                         ·go_simp
                          refine d _ _ ?_;clear d f;exact vY
                         refine AllReadyIn.cons rfl (λf d=>?_) ?_
                         ·go_simp
                          refine d _ _ ?_;clear d f;exact zT
                         refine AllReadyIn.cons rfl (λf d=>?_) ?_
                         ·go_simp
                          refine d _ _ ?_;clear d f;exact Y
                         exact AllReadyIn.nil
                       ·refine wpAnyIn_ready (rs:=[0,2,4]) AX AU ?_
                        refine AllReadyIn.cons rfl (λf d=>?_) ?_
                        ·go_simp
                         refine d _ _ ?_;clear d f;exact X
                        refine AllReadyIn.cons rfl (λf d=>?_) ?_
                        ·go_simp
                         refine d _ _ ?_;clear d f;exact zU
                        refine AllReadyIn.cons rfl (λf d=>?_) ?_
                        ·go_simp
                         refine d _ _ ?_;clear d f;exact Y
                        exact AllReadyIn.nil
                      ·refine wpAnyIn_ready (rs:=[1,3]) AX AU ?_
                       refine AllReadyIn.cons rfl (λf d=>?_) ?_
                       ·go_simp
                        refine d _ _ ?_;clear d f;exact vY
                       refine AllReadyIn.cons rfl (λf d=>?_) ?_
                       ·go_simp
                        refine d _ _ ?_;clear d f;exact vX
                       exact AllReadyIn.nil
                     ·refine wpAnyIn_ready (rs:=[1,4]) AX AU ?_
                      refine AllReadyIn.cons rfl (λf d=>?_) ?_
                      ·go_simp
                       refine d _ _ ?_;clear d f;exact X
                      refine AllReadyIn.cons rfl (λf d=>?_) ?_
                      ·go_simp
                       refine d _ _ ?_;clear d f;exact vX
                      exact AllReadyIn.nil
                    ·refine wpAnyIn_ready (rs:=[2,3,4]) AX AU ?_
                     refine AllReadyIn.cons rfl (λf d=>?_) ?_
                     ·go_simp
                      refine d _ _ ?_;clear d f;exact zV
                     refine AllReadyIn.cons rfl (λf d=>?_) ?_
                     ·go_simp
                      refine d _ _ ?_;clear d f;exact X
                     refine AllReadyIn.cons rfl (λf d=>?_) ?_
                     ·go_simp
                      refine d _ _ ?_;clear d f;exact vY
                     exact AllReadyIn.nil
                   ·refine wpAnyIn_ready (rs:=[0,2,5]) AX AU ?_
                    refine AllReadyIn.cons rfl (λf d=>?_) ?_
                    ·go_simp
                     refine d _ _ ?_;clear d f;exact Q
                    refine AllReadyIn.cons rfl (λf d=>?_) ?_
                    ·go_simp
                     refine d _ _ ?_;clear d f;exact zh
                    refine AllReadyIn.cons rfl (λf d=>?_) ?_
                    ·go_simp
                     refine d _ _ ?_;clear d f;exact aj
                    exact AllReadyIn.nil
                  ·refine wpAnyIn_ready (rs:=[0,3]) AX AU ?_
                   refine AllReadyIn.cons rfl (λf d=>?_) ?_
                   ·go_simp
                    refine d _ _ ?_;clear d f;exact zi
                   refine AllReadyIn.cons rfl (λf d=>?_) ?_
                   ·go_simp
                    refine d _ _ ?_;clear d f;exact zh
                   exact AllReadyIn.nil
                 ·refine wpAnyIn_ready (rs:=[0,4]) AX AU ?_
                  refine AllReadyIn.cons rfl (λf d=>?_) ?_
                  ·go_simp
                   refine d _ _ ?_;clear d f;exact zk
                  refine AllReadyIn.cons rfl (λf d=>?_) ?_
                  ·go_simp
                   refine d _ _ ?_;clear d f;exact zh
                  exact AllReadyIn.nil
                ·refine wpAnyIn_ready (rs:=[1,5]) AX AU ?_
                 refine AllReadyIn.cons rfl (λf d=>?_) ?_
                 ·go_simp
                  refine d _ _ ?_;clear d f;exact Q
                 refine AllReadyIn.cons rfl (λf d=>?_) ?_
                 ·go_simp
                  refine d _ _ ?_;clear d f;exact ao
                 exact AllReadyIn.nil
               ·refine wpAnyIn_ready (rs:=[2,3]) AX AU ?_
                refine AllReadyIn.cons rfl (λf d=>?_) ?_
                ·go_simp
                 refine d _ _ ?_;clear d f;exact zi
                refine AllReadyIn.cons rfl (λf d=>?_) ?_
                ·go_simp
                 refine d _ _ ?_;clear d f;exact Q
                exact AllReadyIn.nil
              ·refine wpAnyIn_ready (rs:=[2,4]) AX AU ?_
               refine AllReadyIn.cons rfl (λf d=>?_) ?_
               ·go_simp
                refine d _ _ ?_;clear d f;exact zk
               refine AllReadyIn.cons rfl (λf d=>?_) ?_
               ·go_simp
                refine d _ _ ?_;clear d f;exact Q
               exact AllReadyIn.nil
             ·refine wpAnyIn_ready (rs:=[3,4]) AX AU ?_
              refine AllReadyIn.cons rfl (λf d=>?_) ?_
              ·go_simp
               refine d _ _ ?_;clear d f;exact zk
              refine AllReadyIn.cons rfl (λf d=>?_) ?_
              ·go_simp
               refine d _ _ ?_;clear d f;exact zi
              exact AllReadyIn.nil
            ·refine wpAnyIn_ready (rs:=[0,2]) AX AU ?_
             refine AllReadyIn.cons rfl (λf d=>?_) ?_
             ·go_simp
              refine d _ _ ?_;clear d f;exact zl
             refine AllReadyIn.cons rfl (λf d=>?_) ?_
             ·go_simp
              refine d _ _ ?_;clear d f;exact ap
             exact AllReadyIn.nil
           ·refine wpAnyIn_ready (rs:=[0,5]) AX AU ?_
            refine AllReadyIn.cons rfl (λf d=>?_) ?_
            ·go_simp
             refine d _ _ ?_;clear d f;exact R
            refine AllReadyIn.cons rfl (λf d=>?_) ?_
            ·go_simp
             refine d _ _ ?_;clear d f;exact ap
            exact AllReadyIn.nil
          ·refine wpAnyIn_ready (rs:=[1]) AX AU ?_
           refine AllReadyIn.cons rfl (λf d=>?_) AllReadyIn.nil;go_simp;refine d _ _ ?_;clear d f;exact zl
         ·refine wpAnyIn_ready (rs:=[2,5]) AX AU ?_
          refine AllReadyIn.cons rfl (λf d=>?_) ?_
          ·go_simp
           refine d _ _ ?_;clear d f;exact R
          refine AllReadyIn.cons rfl (λf d=>?_) ?_
          ·go_simp
           refine d _ _ ?_;clear d f;exact zl
          exact AllReadyIn.nil
        ·refine wpAnyIn_ready (rs:=[3]) AX AU ?_
         refine AllReadyIn.cons rfl (λf d=>?_) AllReadyIn.nil;go_simp;refine d _ _ ?_;clear d f;exact R
       ·refine wpAnyIn_ready (rs:=[4]) AX AU ?_
        refine AllReadyIn.cons rfl (λf d=>?_) AllReadyIn.nil;go_simp;refine d _ _ ?_;clear d f;exact R
      ·refine wpAnyIn_ready (rs:=[0,6]) AX AU ?_
       refine AllReadyIn.cons rfl (λf d=>?_) ?_
       ·go_simp
        refine d _ _ ?_;clear d f;exact zn
       refine AllReadyIn.cons rfl (λf d=>?_) ?_
       ·go_simp
        try simp only[ar]
        refine⟨trivial,?_⟩;refine(CallsIn.inRound l (callsIn_wide.2 (N _ AW AQ (limit - ((S:Int)+(1+cn))) AQ AQ))).mono ?_;rintro e W3 ⟨r,rfl,hr1,hr2,aD,hb3⟩;refine d _ _ ?_;clear d f;have c3:=(hb3.cell (p:=⟨w.heap.size+1,0,none⟩) (Be q)).trans q;have z3:=(hb3.frozen (p:=⟨w.heap.size+1,0,none⟩) (Be q)).trans P;have l3:=(hb3.cell (p:=⟨w.heap.size,0,none⟩) (Be F)).trans F;have aa:IntKind.i64.wrap ((S:Int)+(1+cn)+r)=(S:Int)+(1+cn)+r:=by rw[IntKind.wrap_i64];omega
        refine wpAnyIn_ready (rs:=[0]) AX AU ?_;refine AllReadyIn.cons rfl (λf d=>?_) AllReadyIn.nil;go_simp;refine d _ _ ?_;clear d f;refine wpAnyIn_ready (rs:=[7]) AX AU ?_;refine AllReadyIn.cons rfl (λf d=>?_) AllReadyIn.nil;go_simp;try simp only[aa]
        refine d _ _ ?_;clear d f;refine wpAnyIn_ready (rs:=[8]) AX AU ?_;refine AllReadyIn.cons rfl (λf d=>?_) AllReadyIn.nil;go_simp;refine d _ _ ?_;clear d f;refine wpAnyIn_done AX ?_ _;by_cases ai:limit<(S:Int)+(1+cn)+r
        ·exact zf0
        ·exact zt
       exact AllReadyIn.nil
     ·refine wpAnyIn_ready (rs:=[2]) AX AU ?_
      refine AllReadyIn.cons rfl (λf d=>?_) AllReadyIn.nil;go_simp;refine d _ _ ?_;clear d f;exact zn
    ·refine wpAnyIn_ready (rs:=[5]) AX AU ?_
     refine AllReadyIn.cons rfl (λf d=>?_) AllReadyIn.nil;go_simp;refine d _ _ ?_;clear d f;exact zn
   ·refine wpAnyIn_ready (rs:=[6]) AX AU ?_
    refine AllReadyIn.cons rfl (λf d=>?_) AllReadyIn.nil;go_simp;try simp only[ar]
    refine⟨trivial,?_⟩;refine(CallsIn.inRound l (callsIn_wide.2 (N _ AW AQ (limit - ((S:Int)+(1+cn))) AQ AQ))).mono ?_;rintro e W3 ⟨r,rfl,hr1,hr2,aD,hb3⟩;refine d _ _ ?_;clear d f;have c3:=(hb3.cell (p:=⟨w.heap.size+1,0,none⟩) (Be q)).trans q;have z3:=(hb3.frozen (p:=⟨w.heap.size+1,0,none⟩) (Be q)).trans P;have l3:=(hb3.cell (p:=⟨w.heap.size,0,none⟩) (Be F)).trans F;have aa:IntKind.i64.wrap ((S:Int)+(1+cn)+r)=(S:Int)+(1+cn)+r:=by rw[IntKind.wrap_i64];omega
    refine wpAnyIn_ready (rs:=[7]) AX AU ?_;refine AllReadyIn.cons rfl (λf d=>?_) AllReadyIn.nil;go_simp;try simp only[aa]
    refine d _ _ ?_;clear d f;refine wpAnyIn_ready (rs:=[8]) AX AU ?_;refine AllReadyIn.cons rfl (λf d=>?_) AllReadyIn.nil;go_simp;refine d _ _ ?_;clear d f;refine wpAnyIn_done AX ?_ _;by_cases ai:limit<(S:Int)+(1+cn)+r
    ·exact zf0
    ·exact zt
  ·rw[V] at G D
   have hoe:o=1+cn:=by rw[D.out];simp
   clear V D N;by_cases ai:limit<(S:Int)+(1+cn)
   ·gi_wp2_with (refine⟨trivial,?_⟩;gi_at_call 83;refine(CallsIn.inRound l (callsIn_wide.2 (G _ AW))).mono ?_;rintro e L ⟨rfl,hb2⟩;have q:=(hb2.cell (p:=⟨w.heap.size+1,0,none⟩) Ax).trans (Fb m);have P:L.frozen? ⟨w.heap.size+1,0,none⟩=false:=(hb2.frozen (p:=⟨w.heap.size+1,0,none⟩) Ax).trans yEh;have F:=(hb2.cell (p:=⟨w.heap.size,0,none⟩) Ax).trans ((Bj AQ).trans O))
    exact⟨by(repeat (first | with_reducible exact KeepsFrom.refl _ _ | with_reducible refine Xq ?_ _ _ | with_reducible refine Si ?_ | with_reducible refine Ol ?_ _ | with_reducible refine Sj ?_ Br)),⟨rfl,S+(1+cn),by omega,by rw[bW.out];omega,by rw[q];simp⟩,AW⟩
   ·gi_wp2_with (refine⟨trivial,?_⟩;gi_at_call 83;refine(CallsIn.inRound l (callsIn_wide.2 (G _ AW))).mono ?_;rintro e L ⟨rfl,hb2⟩;have q:=(hb2.cell (p:=⟨w.heap.size+1,0,none⟩) Ax).trans (Fb m);have P:L.frozen? ⟨w.heap.size+1,0,none⟩=false:=(hb2.frozen (p:=⟨w.heap.size+1,0,none⟩) Ax).trans yEh;have F:=(hb2.cell (p:=⟨w.heap.size,0,none⟩) Ax).trans ((Bj AQ).trans O))
    exact⟨by(repeat (first | with_reducible exact KeepsFrom.refl _ _ | with_reducible refine Xq ?_ _ _ | with_reducible refine Si ?_ | with_reducible refine Ol ?_ _ | with_reducible refine Sj ?_ Br)),Wu (QI (b:=w.heap.size+1) (Kept.refl w.heap.size (λk=>k=w.heap.size+1) W) BF rfl _) hn hb2,⟨⟨⟨by rw[q,bW.out,hoe];simp,P,F⟩,AW⟩,by rw[bW.out];omega,by rw[bW.out,HPL.out];omega,by have:=hb2.size;simp at*;omega⟩⟩
 case done=>
  rintro ag ys W hD hS ⟨⟨⟨m,_⟩,H⟩,M,_⟩ C;rw[<-FI,hS,J.out] at m M
  gi_wp2
  refine⟨AU, .inl ⟨_,_,rfl,run_takeDeferred C,?_⟩⟩;exact⟨_,results_tmp rfl _ _ _,z,rfl,λ_=>rfl,λh=>h,CG _,H.trans (belowK_b (w:=w) (CG _) W ag _ _ AQ C rfl rfl)⟩
 case stop=>
  rintro ag c pre W hD au ⟨⟨rfl,t,aR,aZ,m⟩,H⟩ C;have aI:t<=z:=by have:=yh Rn au;rw[J.out,FI] at this;omega
  gi_wp2
  refine⟨AU, .inl ⟨_,_,rfl,run_takeDeferred C,?_⟩⟩;exact⟨_,results_tmp rfl _ _ _,t,rfl,λh=>by omega,λh=>by omega,aI,H.trans (belowK_b (w:=w) (CG _) W ag _ _ AQ C rfl rfl)⟩
