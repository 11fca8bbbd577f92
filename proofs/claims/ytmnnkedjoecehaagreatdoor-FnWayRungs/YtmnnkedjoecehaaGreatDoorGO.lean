import Derived.Test.YtmnnkedjoecehaaGreatDoorHg
import Derived.Shelf.RegionOpen
import Derived.OwnWalkIn
import Derived.LoopNIn
import Derived.LoopIn
set_option linter.defProp false
set_option maxHeartbeats 4000000
set_option maxRecDepth 100000
namespace Go.Proofs.YtmnnkedjoecehaaGreatDoor
open Tryz Stil
section
open Go.RowKit Go.Sort Go.BigFrame
def NV (op:Int)(a:Option Addr)(b cap:Nat)(w:World)(_h:b<=9223372036854775807):
  Calls prog 128 #[.agg #[AB op,AE a b cap]] w (AN w (.bool (op==0 && b==0))):=by
 by_cases c:op=0
 ·subst c
  go_enter func128,ntmps128
  go_wp2
  all_goals go_ret
  all_goals refine⟨Ae ?_,AW⟩
  all_goals (go_light;rw[DY];simp;try omega)
 ·have f:(op==0)=false:=by rw[CS];exact c
  go_enter func128,ntmps128
  go_wp2
  all_goals go_ret
  all_goals refine⟨Ae ?_,AW⟩
  all_goals (go_light;simp[f])
end
section
open Go.RowKit Go.Sort Go.BigFrame Go.Shelf
def YN (k op:Int)(b:Value)(p:Option Addr)(a cap:Nat)(i:Option Addr)(d g:Nat)(c:b=AE i d g)(w:World):
  Calls prog 154 #[.agg #[AB k,AB op,b,AE p a cap]] w (AN w (AE p a cap)):=by
 subst c;go_enter func154,ntmps154
 go_wp2
 go_ret;exact⟨rfl,AW⟩
def YO (k op:Int)(g d m p:Option Addr)(c o j i b f a cap:Nat)(w:World):
  Calls prog 142 #[.agg #[AB k,AB op,AE g c o,AE d j i,AE m b f,AE p a cap]] w (AN w (AE p a cap)):=by
 go_enter func142,ntmps142
 go_wp2
 go_ret;exact⟨rfl,AW⟩
def MO (l Y B K:Nat)(W:World):Prop:=W.cell? ⟨Y,0,none⟩=some (.func (.yield l) #[] #[])/\W.cell? ⟨B,0,none⟩=some (.func (.func 160) #[] #[AH Y,AH B,AH K])/\W.cell? ⟨K,0,none⟩=some (.func (.func 154) #[] #[])
def L2 (w:World)(P:Stil.B8->Prop)(C:Nat->Prop)(M l Y B K N:Nat)(J c:List (U1 w P)->World->Prop)(es:List Stil.B8):Prop:=
 ∀(m:Nat) (v:Value) (pre:List (U1 w P)) (W:World),Q8 w C W v es->MO l Y B K W->J pre W->AO w W->M<=W.heap.size->pre.length+(Ey es).length<=N->
  CallsIn Fence.wide m prog 160 #[v,AH Y,AH B,AH K] W λe b=>
   (e=.returned (.bool true)/\∃a:List (U1 w P),a.map U1.net=Ey es/\J (pre++a) b/\Kept w.heap.size C W b)\/
   (e=.returned (.bool false)/\∃a:List (U1 w P),a.map U1.net<+:Ey es/\c (pre++a) b)
def MP (l Y B K:Nat)(W:World):Prop:=W.cell? ⟨Y,0,none⟩=some (.func (.yield l) #[] #[])/\W.cell? ⟨B,0,none⟩=some (.func (.func 152) #[] #[AH Y,AH B,AH K])/\W.cell? ⟨K,0,none⟩=some (.func (.func 142) #[] #[])
def MA (w:World)(P:Stil.B9->Prop)(C:Nat->Prop)(M l Y B K N:Nat)(J c:List (Ti w P)->World->Prop)(es:List Stil.B9):Prop:=
 ∀(m:Nat) (v:Value) (pre:List (Ti w P)) (W:World),Qa w C W v es->MP l Y B K W->J pre W->AO w W->M<=W.heap.size->pre.length+(Ef es).length<=N->
  CallsIn Fence.wide m prog 152 #[v,AH Y,AH B,AH K] W λe b=>
   (e=.returned (.bool true)/\∃a:List (Ti w P),a.map Ti.arm=Ef es/\J (pre++a) b/\Kept w.heap.size C W b)\/
   (e=.returned (.bool false)/\∃a:List (Ti w P),a.map Ti.arm<+:Ef es/\c (pre++a) b)
end
section
open Go.RowKit Go.Sort Go.BigFrame Go.Shelf
attribute [local go_sem] Oper.semAt_some
def MO.keep {l Y B K:Nat}{C:Nat->Prop}{W b:World}(h:MO l Y B K W)(c:¬C Y)(d:¬C B)(e:¬C K)(a:Ky C W b):MO l Y B K b:=⟨a.cell c h.1,a.cell d h.2.1,a.cell e h.2.2⟩
def zm0 {p:Prop}(h:p:=by
 go_simp
 refine aA _ _ ?_;clear aA KK;refine wpAnyIn_ready (rs:=[7]) AX AU ?_;refine AllReadyIn.cons rfl (λKK aA=>?_) AllReadyIn.nil;go_simp;refine aA _ _ ?_;clear aA KK;exact key1):p:=h
def zn0 {p:Prop}(h:p:=by
 go_simp
 refine aA _ _ ?_;clear aA KK;refine wpAnyIn_ready (rs:=[6]) AX AU ?_;refine AllReadyIn.cons rfl (λKK aA=>?_) AllReadyIn.nil;go_simp;refine aA _ _ ?_;clear aA KK;exact key1):p:=h
def zb {p:Prop}(h:p:=by
 intro key2
 refine wpAnyIn_ready (rs:=[3]) AX AU ?_;refine AllReadyIn.cons rfl (λKK aA=>?_) AllReadyIn.nil;go_simp;refine aA _ _ ?_;clear aA KK;refine wpAnyIn_ready (rs:=[4]) AX AU ?_;refine AllReadyIn.cons rfl (λKK aA=>?_) AllReadyIn.nil;go_simp;refine aA _ _ ?_;clear aA KK;refine wpAnyIn_ready (rs:=[5,6,7]) AX AU ?_;refine AllReadyIn.cons rfl (λKK aA=>?_) ?_
 ·go_simp
  refine aA _ _ ?_;clear aA KK;refine wpAnyIn_ready (rs:=[6,7]) AX AU ?_;refine AllReadyIn.cons rfl (λKK aA=>?_) ?_
  ·exact zm0
  refine AllReadyIn.cons rfl (λKK aA=>?_) ?_
  ·exact zn0
  exact AllReadyIn.nil
 refine AllReadyIn.cons rfl (λKK aA=>?_) ?_
 ·go_simp
  refine aA _ _ ?_;clear aA KK;refine wpAnyIn_ready (rs:=[5,7]) AX AU ?_;refine AllReadyIn.cons rfl (λKK aA=>?_) ?_
  ·exact zm0
  refine AllReadyIn.cons rfl (λKK aA=>?_) ?_
  ·go_simp
   refine aA _ _ ?_;clear aA KK;exact key2
  exact AllReadyIn.nil
 refine AllReadyIn.cons rfl (λKK aA=>?_) ?_
 ·go_simp
  refine aA _ _ ?_;clear aA KK;refine wpAnyIn_ready (rs:=[5,6]) AX AU ?_;refine AllReadyIn.cons rfl (λKK aA=>?_) ?_
  ·exact zn0
  refine AllReadyIn.cons rfl (λKK aA=>?_) ?_
  ·go_simp
   refine aA _ _ ?_;clear aA KK;exact key2
  exact AllReadyIn.nil
 exact AllReadyIn.nil):p:=h
def zd {p:Prop}(h:p:=by
 refine aA _ _ ?_
 clear aA KK;refine wpAnyIn_ready (rs:=[10]) AX AU ?_;refine AllReadyIn.cons rfl (λKK aA=>?_) AllReadyIn.nil;go_simp;refine aA _ _ ?_;clear aA KK;refine wpAnyIn_ready (rs:=[11]) AX AU ?_;refine AllReadyIn.cons rfl (λKK aA=>?_) AllReadyIn.nil;go_simp;refine aA _ _ ?_;clear aA KK;refine wpAnyIn_done AX ?_ _
 gi_wp2
 exact⟨⟨j+1,ys++[x]++zs,AQ,by go_num,kZ zs hzs,by simpa[EI] using xQ,hkW.t hk4⟩,by simp[intOf];omega⟩):p:=h
def ze {p:Prop}(h:p:=by
 refine aA _ _ ?_
 clear aA KK;refine wpAnyIn_ready (rs:=[10]) AX AU ?_;refine AllReadyIn.cons rfl (λKK aA=>?_) AllReadyIn.nil;go_simp;refine aA _ _ ?_;clear aA KK;refine wpAnyIn_ready (rs:=[11]) AX AU ?_;refine AllReadyIn.cons rfl (λKK aA=>?_) AllReadyIn.nil;go_simp;refine aA _ _ ?_;clear aA KK;refine wpAnyIn_done AX ?_ _
 gi_wp2
 go_ret;exact .inr ⟨rfl,ys++[x]++zs,mX zs hzs,by simpa[EI] using hx4⟩):p:=h
def zj {p:Prop}(h:p:=by
 refine aA _ _ ?_
 clear aA KK;refine wpAnyIn_ready (rs:=[3]) AX AU ?_;refine AllReadyIn.cons rfl (λKK aA=>?_) AllReadyIn.nil;go_simp;refine aA _ _ ?_;clear aA KK;refine wpAnyIn_ready (rs:=[4]) AX AU ?_;refine AllReadyIn.cons rfl (λKK aA=>?_) AllReadyIn.nil;go_simp;refine aA _ _ ?_;clear aA KK;refine wpAnyIn_take (i:=5) (v:=undef) rfl rfl AX AX AX (λ_ _ _ h=>h) ⟨Or.inr ⟨Ab,rfl⟩,λ_=>rfl⟩ ?_;refine wpAnyIn_take (i:=6) (v:=undef) rfl rfl AX AX AX (λ_ _ _ h=>h) ⟨Or.inr ⟨Ab,rfl⟩,λ_=>rfl⟩ ?_;refine wpAnyIn_take (i:=7) (v:=undef) rfl rfl AX AX AX (λ_ _ _ h=>h) ⟨Or.inr ⟨Ab,rfl⟩,λ_=>rfl⟩ ?_;refine wpAnyIn_take (i:=8) (v:=undef) rfl rfl AX AX AX (λ_ _ _ h=>h) ⟨Or.inr ⟨Ab,rfl⟩,λ_=>rfl⟩ ?_;refine wpAnyIn_take (i:=9) (v:=undef) rfl rfl AX AX AX (λ_ _ _ h=>h) ⟨Or.inr ⟨Ab,rfl⟩,λ_=>rfl⟩ ?_;refine wpAnyIn_take (i:=10) (v:=undef) rfl rfl AX AX AX (λ_ _ _ h=>h) ⟨Or.inr ⟨Ab,rfl⟩,λ_=>rfl⟩ ?_;refine wpAnyIn_ready (rs:=[11]) AX AU ?_;refine AllReadyIn.cons rfl (λKK aA=>?_) AllReadyIn.nil;go_simp;refine aA _ _ ?_;clear aA KK;refine wpAnyIn_done AX ?_ _
 gi_wp2
 go_ret;exact .inr ⟨rfl,ys++[x],qQ.out,by simpa[EI] using hx3⟩):p:=h
def zw {p:Prop}(h:p:=by
 intro oV
 refine wpAnyIn_ready (rs:=[0,1]) AX AU ?_;refine AllReadyIn.cons rfl (λKK aA=>?_) ?_
 ·go_simp
  refine aA _ _ ?_;clear aA KK;refine wpAnyIn_ready (rs:=[1]) AX AU ?_;refine AllReadyIn.cons rfl (λKK aA=>?_) AllReadyIn.nil;go_simp;refine aA _ _ ?_;clear aA KK;exact oV
 refine AllReadyIn.cons rfl (λKK aA=>?_) ?_
 ·go_simp
  refine aA _ _ ?_;clear aA KK;refine wpAnyIn_ready (rs:=[0]) AX AU ?_;refine AllReadyIn.cons rfl (λKK aA=>?_) AllReadyIn.nil;go_simp;refine aA _ _ ?_;clear aA KK;exact oV
 exact AllReadyIn.nil):p:=h
def XL (w:World)(P:Stil.B8->Prop)(C:Nat->Prop)(hC:∀k,C k->w.heap.size<=k)(ac l Y B K N:Nat)(al:∀k,C k->k<ac)(tK:¬C Y)(oG:¬C B)(mQ:¬C K)(J I:List (U1 w P)->World->Prop)
  (hJ:∀s W d,J s W->AO W d->J s d)
  (hY:∀m pre (x:U1 w P) W,J pre W->pre.length<N->YieldAt Fence.wide m prog l #[.agg #[AB x.net.kind,AB x.net.one.op,x.av,x.kv]] W λe d=>
   (e=.returned (.bool true)/\J (pre++[x]) d/\Kept w.heap.size C W d)\/(e=.returned (.bool false)/\I (pre++[x]) d))
  (es:List Stil.B8) (hl:es.length<=1048576) (hf:∀x∈es,P x) (ih:∀x∈es,L2 w P C ac l Y B K N J I x.kids):L2 w P C ac l Y B K N J I es:=by
 intro m v pre W hs ae hj hb hM hN;have HS:=AV (λd (h:Ky C W d)=>hs.keep h);have dH:=AV (λd (h:Ky C W d)=>ae.keep tK oG mQ h);have ao:=AV hY;have yO:=AV hJ;have IH:=AV ih;have HN:=AV hN;have HB:=AV hb;obtain⟨a,cap,rfl,_⟩:=hs;clear hJ hY ih hN hb ae;refine callsIn_of_wp func160 rfl trivial ?_ rfl;simp only[ntmps160,Cd,CH,CP,Nat.reduceAdd,Nat.reduceSub,DK,DL,DJ,DN,C5,C4]
 gi_wp2
 gi_loopw [10] (λi wr=>∃(j:Nat) (ys:List (U1 w P)),j<=es.length/\i=AB j/\ys.map U1.net=Ey (es.take j)/\J (pre++ys) wr/\Kept w.heap.size C W wr) (λi _=>es.length - (intOf i).toNat)
 case atStart=>exact⟨0,[],AQ,rfl,by simp[Ey],by simpa using hj,Kept.refl _ _ _⟩
 case round=>
  obtain⟨j,ys,aw,rfl,H,aa,A⟩:=hrel;by_cases q:j<es.length
  ·obtain⟨a',au,hv,ap⟩:=HS wr A.2
   obtain⟨b,o,rfl,ax,av,kv,x0,x1,x2,x3,U,G⟩:=ap j q;simp only[Value.slice.injEq,true_and] at hv;obtain⟨rfl,rfl⟩:=hv;obtain⟨b0,b1,b2⟩:=dH wr A.2;have ak:(pre++ys).length<N:=by
    have h1:=HN.out;have X:ys.length=(Ey (es.take j)).length:=by rw[<-H,CW]
    have u:=(Nn es (j+1)).length_le;rw[Vd es j q] at u;simp only[CO,CH] at u ⊢;omega
   obtain⟨T,R,Z,_⟩:=id U;obtain⟨L,O,V,_⟩:=id G;have ai:∀x:U1 w P,x=⟨es[j],av,kv,U,G,hf _ (CJ q)⟩->∀c,J (pre++ys) c->YieldAt Fence.wide (m - 1) prog l #[.agg #[AB es[j].kind,AB es[j].one.op, .slice T es[j].one.args.length R, .slice L es[j].kids.length O]] c λe d=>
     (e=.returned (.bool true)/\J (pre++ys++[x]) d/\Kept w.heap.size C c d)\/(e=.returned (.bool false)/\I (pre++ys++[x]) d):=by
    intro x Q c aj;have:=ao (m - 1) (pre++ys) x c aj ak
    rw[Q] at this ⊢;simp only[Z,V] at this ⊢;exact this
   obtain⟨x,Q⟩:∃x:U1 w P,x=⟨es[j],av,kv,U,G,hf _ (CJ q)⟩:=⟨_,rfl⟩
   have HV:=AV (ai x Q);have yA:Hid (x.net=es[j]):=by show _=_;rw[Q]
   have nI:=AV G;clear ai Q;obtain⟨y,hy⟩:=AA (es[j])
   rw[<-hy] at x0 x1 HV yA nI Z V;have S:=AV hy;rw[Z] at x2;rw[V] at x3 nI;clear U G Z V hy;have M:¬C wr.heap.size:=λh=>by have:=al _ h;have:=A.2.size;omega
   have jl:=Bf b0;have xU:=Bf b1;have uB:=Bf b2
   gi_wp2
   obtain⟨c,n⟩:=AA (wr.alloc (.cells #[AB y.kind,AB y.one.op,AE T y.one.args.length R,AE L y.kids.length O] 59))
   rw[<-n];have c0:c.cell? ⟨Y,0,none⟩=some (.func (.yield l) #[] #[]):=by rw[n];simp[go_sem,b0,jl]
   have c1:c.cell? ⟨B,0,none⟩=some (.func (.func 160) #[] #[AH Y,AH B,AH K]):=by rw[n];simp[go_sem,b1,xU]
   have c2:c.cell? ⟨K,0,none⟩=some (.func (.func 154) #[] #[]):=by rw[n];simp[go_sem,b2,uB]
   obtain⟨z,F⟩:=AA wr.heap.size
   rw[<-F] at M ⊢;have d0:c.cell? ⟨z,0,none⟩=some (AB y.kind):=by rw[n,F];simp[go_sem]
   have d1:c.cell? ⟨z,1,none⟩=some (AB y.one.op):=by rw[n,F];simp[go_sem]
   have d2:c.cell? ⟨z,2,none⟩=some (AE T y.one.args.length R):=by rw[n,F];simp[go_sem]
   have d3:c.cell? ⟨z,3,none⟩=some (AE L y.kids.length O):=by rw[n,F];simp[go_sem]
   have ab:AO wr c:=by rw[n];exact Aa _ _
   have ah:=A.t (Kept.of_below (CM HB.size A.1.size) ab);have af:=yO _ _ _ aa ab.drew;clear n ab b0 b1 b2 x0 x1 x2 x3 jl xU uB aa A F;obtain⟨fn,az,assign,body,ay,hR⟩:=HV c.drew af;clear HV af
   have ar:Hid (∀(e:Ending) (f:World),(e=.returned (.bool true)/\J (pre++ys++[x]) f/\Kept w.heap.size C c.drew f)->f.cell? ⟨B,0,none⟩=some (.func (.func 160) #[] #[AH Y,AH B,AH K])/\f.cell? ⟨K,0,none⟩=some (.func (.func 154) #[] #[])/\
     f.cell? ⟨z,0,none⟩=some (AB y.kind)/\f.cell? ⟨z,1,none⟩=some (AB y.one.op)/\f.cell? ⟨z,2,none⟩=some (AE T y.one.args.length R)/\f.cell? ⟨z,3,none⟩=some (AE L y.kids.length O)):=
    λe f h=>⟨h.2.2.2.cell oG c1,h.2.2.2.cell mQ c2,h.2.2.2.cell M d0,h.2.2.2.cell M d1,h.2.2.2.cell M d2,h.2.2.2.cell M d3⟩
   have qW:Hid (∀f g,Kept w.heap.size C c.drew f->AO f g->Kept w.heap.size C W g):=λf g X u=>
    ((ah.t ⟨(Below.refl _ _).drew,(Ky.refl _ _).drew⟩).t X).t (Kept.of_below (CM (CM HB.size ah.1.size) X.1.size) u)
   have jP:Hid (∀g,J (pre++ys++[x]) g->Kept w.heap.size C W g->CallsIn Fence.wide (m - 1) prog 160 #[AE L y.kids.length O,AH Y,AH B,AH K] g λe d=>
     (e=.returned (.bool true)/\∃zs:List (U1 w P),zs.map U1.net=Ey y.kids/\J (pre++ys++[x]++zs) d/\Kept w.heap.size C g d)\/
     (e=.returned (.bool false)/\∃zs:List (U1 w P),zs.map U1.net<+:Ey y.kids/\I (pre++ys++[x]++zs) d)):=by
    intro g an r;have ag:=HB.trans r.1;refine IH y (by rw[S.out];exact CJ q) (m - 1) _ _ g (Q8.of_at nI ag hC) (dH g r.2) an ag (CM hM r.2.size) ?_;have h1:=HN.out;have X:ys.length=(Ey (es.take j)).length:=by rw[<-H,CW]
    have u:=(Nn es (j+1)).length_le;rw[Vd es j q,<-S.out] at u;simp only[CO,CH,CP] at u ⊢;omega
   have kZ:Hid (∀zs:List (U1 w P),zs.map U1.net=Ey y.kids->(ys++[x]++zs).map U1.net=Ey (es.take (j+1))):=by
    intro zs hzs;rw[Vd es j q,CU,CU,H,hzs,<-S.out];simp[yA.out]
   have mX:Hid (∀zs:List (U1 w P),zs.map U1.net<+:Ey y.kids->(ys++[x]++zs).map U1.net<+:Ey es):=by
    intro zs hzs;refine List.IsPrefix.trans ?_ (Nn es (j+1));rw[Vd es j q,CU,CU,H,<-S.out];obtain⟨t,ht⟩:=hzs;exact⟨t,by simp[yA.out,<-ht]⟩
   have qQ:Hid ((ys++[x]).map U1.net<+:Ey es):=by
    show _<+:_
    have:=mX.out [] AU
    simpa using this
   refine wpIn_region_any AX ?_;try (change wpAnyIn _ _ _ _ _ _ _ _ _ (World.drew _))
   apply share
   ·exact zw
   ·refine wpAnyIn_ready (rs:=[2]) AX AU ?_
    refine AllReadyIn.cons rfl (λKK aA=>?_) AllReadyIn.nil;go_simp;refine⟨λh=>BE,?_⟩;refine hR.mono ?_;rintro e f (⟨rfl,D,r⟩ | ⟨rfl,hx3⟩)
    ·refine aA _ _ ?_
     clear aA KK;obtain⟨f1,f2,g0,g1,g2,g3⟩:=ar _ _ ⟨rfl,D,r⟩;apply share
     ·intro key1
      apply share
      ·exact zb
      ·refine wpAnyIn_ready (rs:=[5,8]) AX AU ?_
       refine AllReadyIn.cons rfl (λKK aA=>?_) ?_
       ·go_simp
        refine aA _ _ ?_;clear aA KK;exact key1
       refine AllReadyIn.cons rfl (λKK aA=>?_) ?_
       ·go_simp
        refine⟨trivial,λh=>BE,?_⟩;refine(callsIn_wide.2 (YN _ _ _ _ _ _ _ _ _ rfl _)).mono ?_;rintro e g ⟨rfl,E⟩;refine aA _ _ ?_;clear aA KK;have h1:=(E.cell (p:=⟨B,0,none⟩) (Bf f1)).trans f1;have D:=yO _ _ _ D E;have hkW:=qW _ _ r E;refine wpAnyIn_ready (rs:=[5]) AX AU ?_;refine AllReadyIn.cons rfl (λKK aA=>?_) AllReadyIn.nil;go_simp;refine aA _ _ ?_;clear aA KK;refine wpAnyIn_ready (rs:=[9]) AX AU ?_;refine AllReadyIn.cons rfl (λKK aA=>?_) AllReadyIn.nil;go_simp;refine⟨trivial,λh=>BE,?_⟩;refine(jP _ D hkW).mono ?_;rintro e W4 (⟨rfl,zs,hzs,xQ,hk4⟩ | ⟨rfl,zs,hzs,hx4⟩)
        ·exact zd
        ·exact ze
       exact AllReadyIn.nil
     ·refine wpAnyIn_ready (rs:=[8]) AX AU ?_
      refine AllReadyIn.cons rfl (λKK aA=>?_) AllReadyIn.nil;go_simp;refine⟨trivial,λh=>BE,?_⟩;refine(callsIn_wide.2 (YN _ _ _ _ _ _ _ _ _ rfl _)).mono ?_;rintro e g ⟨rfl,E⟩;refine aA _ _ ?_;clear aA KK;have h1:=(E.cell (p:=⟨B,0,none⟩) (Bf f1)).trans f1;have D:=yO _ _ _ D E;have hkW:=qW _ _ r E;refine wpAnyIn_ready (rs:=[9]) AX AU ?_;refine AllReadyIn.cons rfl (λKK aA=>?_) AllReadyIn.nil;go_simp;refine⟨trivial,λh=>BE,?_⟩;refine(jP _ D hkW).mono ?_;rintro e W4 (⟨rfl,zs,hzs,xQ,hk4⟩ | ⟨rfl,zs,hzs,hx4⟩)
      ·exact zd
      ·exact ze
    ·exact zj
  ·gi_wp2
   go_ret;refine .inl ⟨rfl,ys,?_,aa,A⟩;rw[H,EC AQ]
end
section
open Go.RowKit Go.Sort Go.BigFrame Go.Shelf
attribute [local go_sem] Oper.semAt_some
def MP.keep {l Y B K:Nat}{C:Nat->Prop}{W b:World}(h:MP l Y B K W)(c:¬C Y)(d:¬C B)(e:¬C K)(a:Ky C W b):MP l Y B K b:=⟨a.cell c h.1,a.cell d h.2.1,a.cell e h.2.2⟩
def XM (w:World)(P:Stil.B9->Prop)(C:Nat->Prop)(hC:∀k,C k->w.heap.size<=k)(af l Y B K N:Nat)(ao:∀k,C k->k<af)(tK:¬C Y)(oG:¬C B)(mQ:¬C K)(J L:List (Ti w P)->World->Prop)
  (hJ:∀s W d,J s W->AO W d->J s d)
  (hY:∀m pre (x:Ti w P) W,J pre W->pre.length<N->YieldAt Fence.wide m prog l #[.agg #[AB x.arm.net.kind,AB x.arm.net.one.op,x.av,x.nv,x.cv,x.kv]] W λe d=>
   (e=.returned (.bool true)/\J (pre++[x]) d/\Kept w.heap.size C W d)\/(e=.returned (.bool false)/\L (pre++[x]) d))
  (es:List Stil.B9) (hl:es.length<=1048576) (hf:∀x∈es,P x) (ih:∀x∈es,MA w P C af l Y B K N J L x.kids):MA w P C af l Y B K N J L es:=by
 intro m v pre W hs ag hj hb hM hN;have HS:=AV (λd (h:Ky C W d)=>hs.keep h);have dH:=AV (λd (h:Ky C W d)=>ag.keep tK oG mQ h);have ar:=AV hY;have yO:=AV hJ;have IH:=AV ih;have HN:=AV hN;have HB:=AV hb;obtain⟨a,cap,rfl,_⟩:=hs;clear hJ hY ih hN hb ag;refine callsIn_of_wp func152 rfl trivial ?_ rfl;simp only[ntmps152,Cd,CH,CP,Nat.reduceAdd,Nat.reduceSub,DK,DL,DJ,DN,C5,C4]
 gi_wp2
 gi_loopw [10] (λi wr=>∃(j:Nat) (ys:List (Ti w P)),j<=es.length/\i=AB j/\ys.map Ti.arm=Ef (es.take j)/\J (pre++ys) wr/\Kept w.heap.size C W wr) (λi _=>es.length - (intOf i).toNat)
 case atStart=>exact⟨0,[],AQ,rfl,by simp[Ef],by simpa using hj,Kept.refl _ _ _⟩
 case round=>
  obtain⟨j,ys,ay,rfl,I,ac,D⟩:=hrel;by_cases q:j<es.length
  ·obtain⟨a',ax,hv,au⟩:=HS wr D.2
   obtain⟨b,o,rfl,az,av,nv,cv,kv,x0,x1,x2,x3,x4,x5,aa,U,ab,H⟩:=au j q;simp only[Value.slice.injEq,true_and] at hv;obtain⟨rfl,rfl⟩:=hv;obtain⟨b0,b1,b2⟩:=dH wr D.2;have an:(pre++ys).length<N:=by
    have h1:=HN.out;have h2:ys.length=(Ef (es.take j)).length:=by rw[<-I,CW]
    have A:=(N2 es (j+1)).length_le;rw[Vg es j q] at A;simp only[CO,CH] at A ⊢;omega
   obtain⟨T,R,e0,_⟩:=id aa;obtain⟨p2,V,e2,_⟩:=id U;obtain⟨p3,X,Z,_⟩:=id ab;obtain⟨M,O,e1,_⟩:=id H;have ak:∀x:Ti w P,x=⟨es[j],av,nv,cv,kv,aa,U,ab,H,hf _ (CJ q)⟩->∀c,J (pre++ys) c->YieldAt Fence.wide (m - 1) prog l #[.agg #[AB es[j].net.kind,AB es[j].net.one.op, .slice T es[j].net.one.args.length R, .slice p2 es[j].net.kids.length V, .slice p3 es[j].coils.length X, .slice M es[j].kids.length O]] c λe d=>
     (e=.returned (.bool true)/\J (pre++ys++[x]) d/\Kept w.heap.size C c d)\/(e=.returned (.bool false)/\L (pre++ys++[x]) d):=by
    intro x Q c al;have:=ar (m - 1) (pre++ys) x c al an
    rw[Q] at this ⊢;simp only[e0,e1,e2,Z] at this ⊢;exact this
   obtain⟨x,Q⟩:∃x:Ti w P,x=⟨es[j],av,nv,cv,kv,aa,U,ab,H,hf _ (CJ q)⟩:=⟨_,rfl⟩
   have HV:=AV (ak x Q);have yA:Hid (x.arm=es[j]):=by show _=_;rw[Q]
   have nI:=AV H;clear ak Q;obtain⟨y,hy⟩:=AA (es[j])
   rw[<-hy] at x0 x1 HV yA nI e0 e1 e2 Z;have S:=AV hy;rw[e0] at x2;rw[e2] at x3;rw[Z] at x4;rw[e1] at x5 nI;clear aa U ab H e0 e1 e2 Z hy;have F:¬C wr.heap.size:=λh=>by have:=ao _ h;have:=D.2.size;omega
   have jl:=Bf b0;have xU:=Bf b1;have uB:=Bf b2
   gi_wp2
   obtain⟨c,n⟩:=AA (wr.alloc (.cells #[AB y.net.kind,AB y.net.one.op,AE T y.net.one.args.length R,AE p2 y.net.kids.length V,AE p3 y.coils.length X,AE M y.kids.length O] 62))
   rw[<-n];have c0:c.cell? ⟨Y,0,none⟩=some (.func (.yield l) #[] #[]):=by rw[n];simp[go_sem,b0,jl]
   have c1:c.cell? ⟨B,0,none⟩=some (.func (.func 152) #[] #[AH Y,AH B,AH K]):=by rw[n];simp[go_sem,b1,xU]
   have c2:c.cell? ⟨K,0,none⟩=some (.func (.func 142) #[] #[]):=by rw[n];simp[go_sem,b2,uB]
   obtain⟨z,r⟩:=AA wr.heap.size
   rw[<-r] at F ⊢;have d0:c.cell? ⟨z,0,none⟩=some (AB y.net.kind):=by rw[n,r];simp[go_sem]
   have d1:c.cell? ⟨z,1,none⟩=some (AB y.net.one.op):=by rw[n,r];simp[go_sem]
   have d2:c.cell? ⟨z,2,none⟩=some (AE T y.net.one.args.length R):=by rw[n,r];simp[go_sem]
   have d3:c.cell? ⟨z,3,none⟩=some (AE p2 y.net.kids.length V):=by rw[n,r];simp[go_sem]
   have d4:c.cell? ⟨z,4,none⟩=some (AE p3 y.coils.length X):=by rw[n,r];simp[go_sem]
   have d5:c.cell? ⟨z,5,none⟩=some (AE M y.kids.length O):=by rw[n,r];simp[go_sem]
   have ae:AO wr c:=by rw[n];exact Aa _ _
   have aj:=D.t (Kept.of_below (CM HB.size D.1.size) ae);have ah:=yO _ _ _ ac ae.drew;clear n ae b0 b1 b2 x0 x1 x2 x3 x4 x5 jl xU uB ac D r;obtain⟨fn,aC,assign,body,aB,hR⟩:=HV c.drew ah;clear HV ah
   have aw:Hid (∀(e:Ending) (f:World),(e=.returned (.bool true)/\J (pre++ys++[x]) f/\Kept w.heap.size C c.drew f)->f.cell? ⟨B,0,none⟩=some (.func (.func 152) #[] #[AH Y,AH B,AH K])/\f.cell? ⟨K,0,none⟩=some (.func (.func 142) #[] #[])/\
     f.cell? ⟨z,0,none⟩=some (AB y.net.kind)/\f.cell? ⟨z,1,none⟩=some (AB y.net.one.op)/\f.cell? ⟨z,2,none⟩=some (AE T y.net.one.args.length R)/\f.cell? ⟨z,3,none⟩=some (AE p2 y.net.kids.length V)/\f.cell? ⟨z,4,none⟩=some (AE p3 y.coils.length X)/\f.cell? ⟨z,5,none⟩=some (AE M y.kids.length O)):=
    λe f h=>⟨h.2.2.2.cell oG c1,h.2.2.2.cell mQ c2,h.2.2.2.cell F d0,h.2.2.2.cell F d1,h.2.2.2.cell F d2,h.2.2.2.cell F d3,h.2.2.2.cell F d4,h.2.2.2.cell F d5⟩
   have qW:Hid (∀f g,Kept w.heap.size C c.drew f->AO f g->Kept w.heap.size C W g):=λf g h2 A=>
    ((aj.t ⟨(Below.refl _ _).drew,(Ky.refl _ _).drew⟩).t h2).t (Kept.of_below (CM (CM HB.size aj.1.size) h2.1.size) A)
   have jP:Hid (∀g,J (pre++ys++[x]) g->Kept w.heap.size C W g->CallsIn Fence.wide (m - 1) prog 152 #[AE M y.kids.length O,AH Y,AH B,AH K] g λe d=>
     (e=.returned (.bool true)/\∃zs:List (Ti w P),zs.map Ti.arm=Ef y.kids/\J (pre++ys++[x]++zs) d/\Kept w.heap.size C g d)\/
     (e=.returned (.bool false)/\∃zs:List (Ti w P),zs.map Ti.arm<+:Ef y.kids/\L (pre++ys++[x]++zs) d)):=by
    intro g ap u;have ai:=HB.trans u.1;refine IH y (by rw[S.out];exact CJ q) (m - 1) _ _ g (Qa.of_at nI ai hC) (dH g u.2) ap ai (CM hM u.2.size) ?_;have h1:=HN.out;have h2:ys.length=(Ef (es.take j)).length:=by rw[<-I,CW]
    have A:=(N2 es (j+1)).length_le;rw[Vg es j q,<-S.out] at A;simp only[CO,CH,CP] at A ⊢;omega
   have kZ:Hid (∀zs:List (Ti w P),zs.map Ti.arm=Ef y.kids->(ys++[x]++zs).map Ti.arm=Ef (es.take (j+1))):=by
    intro zs hzs;rw[Vg es j q,CU,CU,I,hzs,<-S.out];simp[yA.out]
   have mX:Hid (∀zs:List (Ti w P),zs.map Ti.arm<+:Ef y.kids->(ys++[x]++zs).map Ti.arm<+:Ef es):=by
    intro zs hzs;refine List.IsPrefix.trans ?_ (N2 es (j+1));rw[Vg es j q,CU,CU,I,<-S.out];obtain⟨t,ht⟩:=hzs;exact⟨t,by simp[yA.out,<-ht]⟩
   have qQ:Hid ((ys++[x]).map Ti.arm<+:Ef es):=by
    show _<+:_
    have:=mX.out [] AU
    simpa using this
   refine wpIn_region_any AX ?_;try (change wpAnyIn _ _ _ _ _ _ _ _ _ (World.drew _))
   apply share
   ·exact zw
   ·refine wpAnyIn_ready (rs:=[2]) AX AU ?_
    refine AllReadyIn.cons rfl (λKK aA=>?_) AllReadyIn.nil;go_simp;refine⟨λh=>BE,?_⟩;refine hR.mono ?_;rintro e f (⟨rfl,E,u⟩ | ⟨rfl,hx3⟩)
    ·refine aA _ _ ?_
     clear aA KK;obtain⟨f1,f2,g0,g1,g2,g3,g4,g5⟩:=aw _ _ ⟨rfl,E,u⟩;apply share
     ·intro key1
      apply share
      ·exact zb
      ·refine wpAnyIn_ready (rs:=[5,8]) AX AU ?_
       refine AllReadyIn.cons rfl (λKK aA=>?_) ?_
       ·go_simp
        refine aA _ _ ?_;clear aA KK;exact key1
       refine AllReadyIn.cons rfl (λKK aA=>?_) ?_
       ·go_simp
        refine⟨trivial,λh=>BE,?_⟩;refine(callsIn_wide.2 (YO _ _ _ _ _ _ _ _ _ _ _ _ _ _ _)).mono ?_;rintro e g ⟨rfl,G⟩;refine aA _ _ ?_;clear aA KK;have h1:=(G.cell (p:=⟨B,0,none⟩) (Bf f1)).trans f1;have E:=yO _ _ _ E G;have hkW:=qW _ _ u G;refine wpAnyIn_ready (rs:=[5]) AX AU ?_;refine AllReadyIn.cons rfl (λKK aA=>?_) AllReadyIn.nil;go_simp;refine aA _ _ ?_;clear aA KK;refine wpAnyIn_ready (rs:=[9]) AX AU ?_;refine AllReadyIn.cons rfl (λKK aA=>?_) AllReadyIn.nil;go_simp;refine⟨trivial,λh=>BE,?_⟩;refine(jP _ E hkW).mono ?_;rintro e W4 (⟨rfl,zs,hzs,xQ,hk4⟩ | ⟨rfl,zs,hzs,hx4⟩)
        ·exact zd
        ·exact ze
       exact AllReadyIn.nil
     ·refine wpAnyIn_ready (rs:=[8]) AX AU ?_
      refine AllReadyIn.cons rfl (λKK aA=>?_) AllReadyIn.nil;go_simp;refine⟨trivial,λh=>BE,?_⟩;refine(callsIn_wide.2 (YO _ _ _ _ _ _ _ _ _ _ _ _ _ _ _)).mono ?_;rintro e g ⟨rfl,G⟩;refine aA _ _ ?_;clear aA KK;have h1:=(G.cell (p:=⟨B,0,none⟩) (Bf f1)).trans f1;have E:=yO _ _ _ E G;have hkW:=qW _ _ u G;refine wpAnyIn_ready (rs:=[9]) AX AU ?_;refine AllReadyIn.cons rfl (λKK aA=>?_) AllReadyIn.nil;go_simp;refine⟨trivial,λh=>BE,?_⟩;refine(jP _ E hkW).mono ?_;rintro e W4 (⟨rfl,zs,hzs,xQ,hk4⟩ | ⟨rfl,zs,hzs,hx4⟩)
      ·exact zd
      ·exact ze
    ·exact zj
  ·gi_wp2
   go_ret;refine .inl ⟨rfl,ys,?_,ac,D⟩;rw[I,EC AQ]
end
section
open Go.RowKit Go.Sort Go.BigFrame Go.Shelf
def rS (w:World)(P:Stil.B8->Prop)(v:∀x,P x->x.kids.length<=1048576/\∀y∈x.kids,P y)(C:Nat->Prop)(g:∀k,C k->w.heap.size<=k)(M l Y B K N:Nat)(i:∀k,C k->k<M)(o:¬C Y)(r:¬C B)(u:¬C K)(J d:List (U1 w P)->World->Prop)
  (j:∀s W c,J s W->AO W c->J s c)
  (p:∀m pre (x:U1 w P) W,J pre W->pre.length<N->YieldAt Fence.wide m prog l #[.agg #[AB x.net.kind,AB x.net.one.op,x.av,x.kv]] W λe c=>(e=.returned (.bool true)/\J (pre++[x]) c/\Kept w.heap.size C W c)\/(e=.returned (.bool false)/\d (pre++[x]) c))
  (es:List Stil.B8) (hl:es.length<=1048576) (t:∀x∈es,P x):L2 w P C M l Y B K N J d es:=by
 refine XL w P C g M l Y B K N i o r u J d j p es hl t (λx A=>?_);have key:∀n:Stil.B8,P n->L2 w P C M l Y B K N J d n.kids:=by
  intro n;induction n using Fp with
  | h a b kids z=>
   intro D;have f:=v _ D;exact XL w P C g M l Y B K N i o r u J d j p kids f.1 f.2 (λy q=>z y q (f.2 y q))
 exact key x (t x A)
def YL (w:World)(P:Stil.B8->Prop)(hP:∀x,P x->x.kids.length<=1048576/\∀y∈x.kids,P y)(C:Nat->Prop)(B:∀k,C k->w.heap.size<=k)(M A K:Nat)(o:∀k,C k->k<M)(mQ:¬C K)(_hAC:¬C A)(es:List Stil.B8)(hl:es.length<=1048576)(Q:∀x∈es,P x)(v:Value)(w0:World)
  (q:AO w w0) (U:M<=w0.heap.size) (j:Q8 w C w0 v es) (L:w0.cell? ⟨A,0,none⟩=some v) (G:w0.cell? ⟨K,0,none⟩=some (.func (.func 154) #[] #[])) (n:Nat):
  SeqStopsK Fence.wide n prog 159 #[AH K,AH A] (λx:U1 w P=>#[Value.agg #[AB x.net.kind,AB x.net.one.op,x.av,x.kv]]) (Kept w.heap.size C) (λb=>b.map U1.net=Ey es) (λpre=>pre.map U1.net<+:Ey es) (Ey es).length w0:=by
 intro l J H W d E _ O S;have ag:∀(f:Fn) (first cap:Array Value) (w:World),(Instr.makeFunc f first cap).run prog w=.ok (.func f first cap) w:=λ_ _ _ _=>rfl
 have ah:∀(f:Fn) (z u:Array Value) (P:Program) (w:World) (a:Addr) (m:Mode),(store a (.func f z u) m).run P w=stored P w a (.func f z u) m:=λf z u P w a m=>run_store P w a _ m rfl
 have af:=(d.cell (p:=⟨A,0,none⟩) (Bf L)).trans L;have N:=(d.cell (p:=⟨K,0,none⟩) (Bf G)).trans G;have aj:=Bf af;have V:=Bf N;have ai:=d.size
 have jP:Hid (∀c,AO W c->c.cell? ⟨W.heap.size,0,none⟩=some (.func (.yield l) #[] #[])->c.cell? ⟨W.heap.size+1,0,none⟩=some (.func (.func 160) #[] #[AH W.heap.size,AH (W.heap.size+1),AH K])->
   CallsIn Fence.wide (n - 1) prog 160 #[v,AH W.heap.size,AH (W.heap.size+1),AH K] c λe r=>
    (e=.returned (.bool true)/\∃b:List (U1 w P),b.map U1.net=Ey es/\J ([]++b) r/\Kept w.heap.size C c r)\/
    (e=.returned (.bool false)/\∃b:List (U1 w P),b.map U1.net<+:Ey es/\H ([]++b) r)):=by
  intro c i hy Z;have D:∀(s:List (U1 w P)) (X Y:World),J s X->AO X Y->J s Y:=λs X Y j g=>E s X Y none j ⟨g.os,g.tape,g.output,g.size,λk hk _=>g.block k hk⟩ (λak e=>by cases e)
  have aa:=(q.trans (d.mono q.size)).trans (i.mono (CM q.size d.size));refine rS w P hP C B M l W.heap.size (W.heap.size+1) K (Ey es).length o (λh=>by have:=o _ h;omega) (λh=>by have:=o _ h;omega) mQ J H D (λm pre x X ab ac=>YieldAt.anyDepth rfl m (O pre x X ab ac)) es hl Q (n - 1) v [] c (j.keep ((Ky.of_below d).call i)) ⟨hy,Z,(i.cell (p:=⟨K,0,none⟩) V).trans N⟩ (D _ _ _ S i) aa (CM U (CM d.size i.size)) AU
 obtain⟨I,sl,F,rfl⟩:∃I sl F,v=.slice I sl F:=by obtain⟨a,cap,T,_⟩:=j;exact⟨_,_,_,T⟩
 clear O E j hl Q B o;refine callsIn_of_wp func159 rfl trivial ?_ rfl;simp only[ntmps159,Cd,CH,CP,Nat.reduceAdd,Nat.reduceSub,DK,DL,DJ,DN,C5,C4]
 gi_wp2_with (refine⟨trivial,λh=>BE,?_⟩;refine(jP _ AW (by simp[go_sem]) (by simp[go_sem])).mono ?_;rintro e W3 (⟨rfl,b,t,ae,_⟩ | ⟨rfl,b,t,R⟩))
 ·go_end0
  exact⟨⟨_,rfl⟩, .inl ⟨b,t,by simpa using ae⟩⟩
 ·go_end0
  exact⟨⟨_,rfl⟩, .inr ⟨b,t,by simpa using R⟩⟩
def uL (a:Option Addr)(g cap:Nat)(w:World):Calls prog 153 #[AE a g cap, .func (.func 154) #[] #[]] w λe d=>e=.returned (.func (.func 159) #[] #[AH (w.heap.size+1),AH w.heap.size])/\
  d.cell? ⟨w.heap.size,0,none⟩=some (AE a g cap)/\d.cell? ⟨w.heap.size+1,0,none⟩=some (.func (.func 154) #[] #[])/\AO w d:=by
 have i:∀(b:Fn) (first cap:Array Value) (w:World),(Instr.makeFunc b first cap).run prog w=.ok (.func b first cap) w:=λ_ _ _ _=>rfl
 have j:∀(b:Fn) (c f:Array Value) (P:Program) (w:World) (a:Addr) (m:Mode),(store a (.func b c f) m).run P w=stored P w a (.func b c f) m:=λb c f P w a m=>run_store P w a _ m rfl
 go_enter func153,ntmps153
 go_wp2
 go_ret;exact⟨rfl,by simp[go_sem],by simp[go_sem],AW⟩
def qV (w:World)(P:Stil.B9->Prop)(v:∀x,P x->x.kids.length<=1048576/\∀y∈x.kids,P y)(C:Nat->Prop)(g:∀k,C k->w.heap.size<=k)(M l Y B K N:Nat)(i:∀k,C k->k<M)(o:¬C Y)(r:¬C B)(u:¬C K)(J d:List (Ti w P)->World->Prop)
  (j:∀s W c,J s W->AO W c->J s c)
  (p:∀m pre (x:Ti w P) W,J pre W->pre.length<N->YieldAt Fence.wide m prog l #[.agg #[AB x.arm.net.kind,AB x.arm.net.one.op,x.av,x.nv,x.cv,x.kv]] W λe c=>(e=.returned (.bool true)/\J (pre++[x]) c/\Kept w.heap.size C W c)\/(e=.returned (.bool false)/\d (pre++[x]) c))
  (es:List Stil.B9) (hl:es.length<=1048576) (t:∀x∈es,P x):MA w P C M l Y B K N J d es:=by
 refine XM w P C g M l Y B K N i o r u J d j p es hl t (λx A=>?_);have key:∀n:Stil.B9,P n->MA w P C M l Y B K N J d n.kids:=by
  intro n;induction n using Fq with
  | h a b kids z=>
   intro D;have f:=v _ D;exact XM w P C g M l Y B K N i o r u J d j p kids f.1 f.2 (λy q=>z y q (f.2 y q))
 exact key x (t x A)
def YM (w:World)(P:Stil.B9->Prop)(hP:∀x,P x->x.kids.length<=1048576/\∀y∈x.kids,P y)(C:Nat->Prop)(B:∀k,C k->w.heap.size<=k)(M A K:Nat)(o:∀k,C k->k<M)(mQ:¬C K)(_hAC:¬C A)(es:List Stil.B9)(hl:es.length<=1048576)(Q:∀x∈es,P x)(v:Value)(w0:World)
  (q:AO w w0) (U:M<=w0.heap.size) (j:Qa w C w0 v es) (L:w0.cell? ⟨A,0,none⟩=some v) (G:w0.cell? ⟨K,0,none⟩=some (.func (.func 142) #[] #[])) (n:Nat):
  SeqStopsK Fence.wide n prog 151 #[AH K,AH A] (λx:Ti w P=>#[Value.agg #[AB x.arm.net.kind,AB x.arm.net.one.op,x.av,x.nv,x.cv,x.kv]]) (Kept w.heap.size C) (λb=>b.map Ti.arm=Ef es) (λpre=>pre.map Ti.arm<+:Ef es) (Ef es).length w0:=by
 intro l J H W d E _ O S;have ag:∀(f:Fn) (first cap:Array Value) (w:World),(Instr.makeFunc f first cap).run prog w=.ok (.func f first cap) w:=λ_ _ _ _=>rfl
 have ah:∀(f:Fn) (z u:Array Value) (P:Program) (w:World) (a:Addr) (m:Mode),(store a (.func f z u) m).run P w=stored P w a (.func f z u) m:=λf z u P w a m=>run_store P w a _ m rfl
 have af:=(d.cell (p:=⟨A,0,none⟩) (Bf L)).trans L;have N:=(d.cell (p:=⟨K,0,none⟩) (Bf G)).trans G;have aj:=Bf af;have V:=Bf N;have ai:=d.size
 have jP:Hid (∀c,AO W c->c.cell? ⟨W.heap.size,0,none⟩=some (.func (.yield l) #[] #[])->c.cell? ⟨W.heap.size+1,0,none⟩=some (.func (.func 152) #[] #[AH W.heap.size,AH (W.heap.size+1),AH K])->
   CallsIn Fence.wide (n - 1) prog 152 #[v,AH W.heap.size,AH (W.heap.size+1),AH K] c λe r=>
    (e=.returned (.bool true)/\∃b:List (Ti w P),b.map Ti.arm=Ef es/\J ([]++b) r/\Kept w.heap.size C c r)\/
    (e=.returned (.bool false)/\∃b:List (Ti w P),b.map Ti.arm<+:Ef es/\H ([]++b) r)):=by
  intro c i hy Z;have D:∀(s:List (Ti w P)) (X Y:World),J s X->AO X Y->J s Y:=λs X Y j g=>E s X Y none j ⟨g.os,g.tape,g.output,g.size,λk hk _=>g.block k hk⟩ (λak e=>by cases e)
  have aa:=(q.trans (d.mono q.size)).trans (i.mono (CM q.size d.size));refine qV w P hP C B M l W.heap.size (W.heap.size+1) K (Ef es).length o (λh=>by have:=o _ h;omega) (λh=>by have:=o _ h;omega) mQ J H D (λm pre x X ab ac=>YieldAt.anyDepth rfl m (O pre x X ab ac)) es hl Q (n - 1) v [] c (j.keep ((Ky.of_below d).call i)) ⟨hy,Z,(i.cell (p:=⟨K,0,none⟩) V).trans N⟩ (D _ _ _ S i) aa (CM U (CM d.size i.size)) AU
 obtain⟨I,sl,F,rfl⟩:∃I sl F,v=.slice I sl F:=by obtain⟨a,cap,T,_⟩:=j;exact⟨_,_,_,T⟩
 clear O E j hl Q B o;refine callsIn_of_wp func151 rfl trivial ?_ rfl;simp only[ntmps151,Cd,CH,CP,Nat.reduceAdd,Nat.reduceSub,DK,DL,DJ,DN,C5,C4]
 gi_wp2_with (refine⟨trivial,λh=>BE,?_⟩;refine(jP _ AW (by simp[go_sem]) (by simp[go_sem])).mono ?_;rintro e W3 (⟨rfl,b,t,ae,_⟩ | ⟨rfl,b,t,R⟩))
 ·go_end0
  exact⟨⟨_,rfl⟩, .inl ⟨b,t,by simpa using ae⟩⟩
 ·go_end0
  exact⟨⟨_,rfl⟩, .inr ⟨b,t,by simpa using R⟩⟩
def uQ (a:Option Addr)(g cap:Nat)(w:World):Calls prog 141 #[AE a g cap, .func (.func 142) #[] #[]] w λe d=>e=.returned (.func (.func 151) #[] #[AH (w.heap.size+1),AH w.heap.size])/\
  d.cell? ⟨w.heap.size,0,none⟩=some (AE a g cap)/\d.cell? ⟨w.heap.size+1,0,none⟩=some (.func (.func 142) #[] #[])/\AO w d:=by
 have i:∀(b:Fn) (first cap:Array Value) (w:World),(Instr.makeFunc b first cap).run prog w=.ok (.func b first cap) w:=λ_ _ _ _=>rfl
 have j:∀(b:Fn) (c f:Array Value) (P:Program) (w:World) (a:Addr) (m:Mode),(store a (.func b c f) m).run P w=stored P w a (.func b c f) m:=λb c f P w a m=>run_store P w a _ m rfl
 go_enter func141,ntmps141
 go_wp2
 go_ret;exact⟨rfl,by simp[go_sem],by simp[go_sem],AW⟩
end
section
open Go.RowKit Go.Sort Go.BigFrame Go.Shelf
attribute [local go_sem] Oper.semAt_some
def XO (k op:Int)(j p:Option Addr)(f l d cap:Nat)(w:World):
  Calls prog 143 #[.agg #[AB k,AB op,AE j f l,AE p d cap]] w λe a=>∃b A K,e=.returned (.func (.func 159) #[] #[AH K,AH A])/\w.heap.size<=b/\w.heap.size<=A/\w.heap.size<=K/\
   a.cell? ⟨A,0,none⟩=some (AE (some ⟨b,0,none⟩) 1 1)/\a.cell? ⟨K,0,none⟩=some (.func (.func 154) #[] #[])/\
   a.cell? ⟨b,0,none⟩=some (AB k)/\a.cell? ⟨b,1,none⟩=some (AB op)/\a.cell? ⟨b,2,none⟩=some (AE j f l)/\a.cell? ⟨b,3,none⟩=some (AE p d cap)/\AO w a:=by
 have o:∀(g:Fn) (first cap:Array Value) (w:World),(Instr.makeFunc g first cap).run prog w=.ok (.func g first cap) w:=λ_ _ _ _=>rfl
 go_enter func143,ntmps143
 go_wp2_with (go_at_call 153;refine(uL _ _ _ _).mono ?_;rintro e q ⟨rfl,c,i,m⟩)
 simp only[World.size_alloc] at c i;go_ret;refine⟨w.heap.size+1,_,_,rfl,AQ,AQ,AQ,c,i,?_,?_,?_,?_,AW⟩;all_goals (rw[m.cell (p:=⟨w.heap.size+1,_,none⟩) AU];simp[go_sem])
def XP (a:Option Addr)(c cap:Nat)(w:World):
  Calls prog 123 #[AE a c cap] w λe b=>∃A K,e=.returned (.func (.func 151) #[] #[AH K,AH A])/\w.heap.size<=A/\w.heap.size<=K/\
   b.cell? ⟨A,0,none⟩=some (AE a c cap)/\b.cell? ⟨K,0,none⟩=some (.func (.func 142) #[] #[])/\AO w b:=by
 have j:∀(d:Fn) (first cap:Array Value) (w:World),(Instr.makeFunc d first cap).run prog w=.ok (.func d first cap) w:=λ_ _ _ _=>rfl
 go_enter func123,ntmps123
 go_wp2_with (go_at_call 141;refine(uQ _ _ _ _).mono ?_;rintro e k ⟨rfl,f,g,i⟩)
 go_ret;exact⟨_,_,rfl,AQ,AQ,f,g,AW⟩
def ud (n:Stil.B8)(J H:Value)(d:Int)(w:World)(I:Dj w J n.one.args)(M:Gg w H n.kids)(Z:Dz n)(ak:Ai n<=1000000000)(_hl1:-9223372036854775808<=d)(_hl2:d<=9223372036854775807):
  Calls prog 124 #[.agg #[AB n.kind,AB n.one.op,J,H],AB d] w λe w'=>∃r:Nat,e=.returned (AB r)/\((Ai n:Int)<=d->r=Ai n)/\(d<Ai n->d<r)/\r<=Ai n/\AO w w':=by
 have q:Hid ((Ey [n]).length=Ai n):=by show _=_;rw[VQ,wj]
 obtain⟨z,hz⟩:=AA (Ai n)
 rw[<-hz] at ak q ⊢;clear hz;refine(callsIn_wide (n:=9)).1 ?_;have eY:=AV I;have vY:=AV M;obtain⟨F,E,rfl,_⟩:=I;obtain⟨G,y,rfl,_⟩:=M;refine callsIn_of_wp_marks func124 rfl trivial ?_ rfl;simp only[ntmps124,Cd,CH,CP,Nat.reduceAdd,Nat.reduceSub,DK,DL,DJ,DN,C5,C4]
 gi_wp2_with (refine⟨trivial,?_⟩;gi_at_call 143;refine(callsIn_wide.2 (XO _ _ _ _ _ _ _ _ _)).mono ?_;rintro e f ⟨b,A,K,rfl,ap,ag,an,S,g,Y,L,R,U,hb⟩)
 simp only[World.size_alloc] at ap ag an;have T:AO w f:=AW;have aa:f.cell? ⟨w.heap.size+1,0,none⟩=some (AB d):=A0 hb;have af:f.cell? ⟨w.heap.size+1+1,0,none⟩=some (AB 0):=A0 hb;have ab:f.frozen? ⟨w.heap.size+1+1,0,none⟩=false:=A5 hb;have ac:w.heap.size+3<=f.heap.size:=by have:=hb.size;simp at this;omega
 have O:Q8 w (λk=>k=w.heap.size+1+1) f (AE (some ⟨b,0,none⟩) 1 1) [n]:=by
  refine⟨_,1,rfl,λi hi=>⟨b,0,rfl,(λh:b=_=>by omega),AE F n.one.args.length E,AE G n.kids.length y,?_⟩⟩;obtain rfl:i=0:=by simpa using hi
  simp only[FQ,CV,EO];exact⟨Y,L,R,U,eY.out,vY.out⟩
 have V:Hid (SeqStopsK Fence.wide (9 - 1) prog 159 #[AH K,AH A] (λx:U1 w Dz=>#[Value.agg #[AB x.net.kind,AB x.net.one.op,x.av,x.kv]]) (Kept w.heap.size (λk=>k=w.heap.size+1+1)) (λB=>B.map U1.net=Ey [n]) (λpre=>pre.map U1.net<+:Ey [n]) (Ey [n]).length f):=
  YL w Dz (λx X=>⟨(D5 X).2.2.1,(D5 X).2.2.2⟩) (λk=>k=w.heap.size+1+1) (λk (h:k=_)=>by omega) (w.heap.size+3) A K (λk (h:k=_)=>by omega) (λh:K=_=>by omega) (λh:A=_=>by omega) [n] AU (by simpa using Z) _ f T ac O S g _
 clear O hb Y L R U S g Z;obtain⟨N,P⟩:=AA ((Ey [n]).length)
 rw[<-P] at V;have ax:N=z:=by rw[P,q.out]
 refine wpIn_rangeFunc_ownG rfl AY (gf:=159) (lb:=#[AH K,AH A]) rfl trivial (enters_of func159 AX rfl)
  V Kept.t (Kept.b AQ) (Below.refl _ _) (λ_=>rfl)
  (λpre W=>(W.cell? ⟨w.heap.size+1+1,0,none⟩=some (AB (pre.length:Int))/\W.frozen? ⟨w.heap.size+1+1,0,none⟩=false/\W.cell? ⟨w.heap.size+1,0,none⟩=some (AB d))/\AO w W)
  (λc pre W=>(c=.exit 0/\d<pre.length/\W.cell? ⟨w.heap.size+1+1,0,none⟩=some (AB (pre.length:Int)))/\AO w W)
  (OwnFrom.and (Own.from (λs A al row j o m=>⟨cell_kept j.1 o m,(frozen_kept j.1 o m).trans j.2.1,cell_kept j.2.2 o m⟩) _) (ownFrom_below (CG _) AQ))
  (λc=>OwnFrom.and (Own.from (λs A al row j o m=>⟨j.1,j.2.1,cell_kept j.2.2 o m⟩) _) (ownFrom_below (CG _) AQ))
  ⟨⟨by simpa using af,ab,aa⟩,T⟩
  (λx=>{tmps:=#[.agg #[AB n.kind,AB n.one.op,AE F n.one.args.length E,AE G n.kids.length y],AB d,AH w.heap.size,AH (w.heap.size+1),AB 0,AH (w.heap.size+1+1), .agg #[AB n.kind,AB n.one.op,AE F n.one.args.length E,AE G n.kids.length y], .func (.func 159) #[] #[AH K,AH A], .agg #[AB x.net.kind,AB x.net.one.op,x.av,x.kv],undef,undef,undef,undef,undef,undef],defers:=[]}) ?assign ?body ?done ?stop
 case assign=>
  intro ah x W KK aA
  gi_wp2
  simpa using aA
 case body=>
  rintro ah pre x W ⟨⟨u,aj,ai⟩,l⟩ au;have aw:=Bf u;have hw:IntKind.i64.wrap ((pre.length:Int)+1)=(pre.length:Int)+1:=by rw[IntKind.wrap_i64];omega
  have Q:(W.setCell ⟨w.heap.size+1+1,0,none⟩ (AB ((pre.length:Int)+1))).cell? ⟨w.heap.size+1+1,0,none⟩=some (AB ((pre++[x]).length:Int)):=by
   rw[Fb u];simp
  by_cases ay:d<(pre.length:Int)+1
  ·gi_wp2
   exact⟨(KeepsOthers.setCell _ _ _).from _,⟨rfl,by simp;omega,Q⟩,l.setCell (p:=⟨w.heap.size+1+1,0,none⟩) Ax _⟩
  ·gi_wp2
   exact⟨(KeepsOthers.setCell _ _ _).from _,⟨(Below.refl _ W).setCell (p:=⟨w.heap.size+1+1,0,none⟩) Ax _,Ky.set (C:=λk=>k=w.heap.size+1+1) (Ky.refl _ _) (show _=_ from rfl) _⟩,⟨Q,by rw[World.frozen?_setCell];exact aj,by rw[Bl AQ];exact ai⟩,l.setCell (p:=⟨w.heap.size+1+1,0,none⟩) Ax _⟩
 case done=>
  rintro D B W hD hS ⟨⟨u,_⟩,l⟩ g;have ao:B.length=z:=by have:=congrArg List.length hS;rw[CW,q.out] at this;exact this
  gi_wp2
  refine⟨AU, .inl ⟨_,_,rfl,run_takeDeferred g,?_⟩⟩;exact⟨_,results_tmp rfl _ _ _,z,rfl,λ_=>rfl,λh=>h,CG _,l.trans (belowK_b (w:=w) (CG _) W D _ _ AQ g rfl rfl)⟩
 case stop=>
  rintro D c pre W hD ae ⟨⟨rfl,ar,u⟩,l⟩ g;have ao:pre.length<=z:=by have:=ae.length_le;rw[CW,q.out] at this;exact this
  gi_wp2
  refine⟨AU, .inl ⟨_,_,rfl,run_takeDeferred g,?_⟩⟩;exact⟨_,results_tmp rfl _ _ _,pre.length,rfl,λh=>by omega,λh=>by omega,AQ,l.trans (belowK_b (w:=w) (CG _) W D _ _ AQ g rfl rfl)⟩
end
section
open Go.RowKit Go.Sort Go.BigFrame Go.Shelf
attribute [local go_sem] Oper.semAt_some
def Ve (n:Stil.B8)(m l:Value)(w:World)(z:Dj w m n.one.args)(B:Gg w l n.kids)(g:Dz n):
  Calls prog 91 #[.agg #[AB n.kind,AB n.one.op,m,l]] w (AN w (.bool (Am n))):=by
 obtain⟨_,o,E,_⟩:=D5 g;have y:=o.2.1;obtain⟨A,C,rfl,_⟩:=z;obtain⟨H,G,rfl,_⟩:=B;clear g o;have a:Hid (Am n=((n.kind==0 && (n.one.op==0 && n.one.args.length==0)) && n.kids.length==0)):=by show _=_;unfold Am;simp only[Bool.and_assoc]
 have b:Hid (∀W,Calls prog 128 #[.agg #[AB n.one.op,AE A n.one.args.length C]] W (AN W (.bool (n.one.op==0 && n.one.args.length==0)))):=λW=>NV _ _ _ _ _ AQ
 obtain⟨j,x⟩:=AA ((n.one.op==0 && n.one.args.length==0))
 rw[<-x] at a b;obtain⟨d,q⟩:=AA n.kids.length
 obtain⟨v,t⟩:=AA n.one.args.length
 rw[<-q] at a E ⊢;rw[<-t] at b y ⊢;obtain⟨k,r⟩:=AA n.kind
 rw[<-r] at a ⊢;clear x q t r;by_cases u:k=0
 ·subst u
  cases j
  ·go_enter func91,ntmps91
   go_wp2_with (go_at_call 128;refine(b _).mono ?_;rintro e s ⟨rfl,c⟩)
   all_goals go_ret
   all_goals exact⟨Ae (by rw[a.out];simp),AW⟩
  ·by_cases f:d=0
   ·subst f
    go_enter func91,ntmps91
    go_wp2_with (go_at_call 128;refine(b _).mono ?_;rintro e s ⟨rfl,c⟩;obtain⟨D,g⟩:=En c)
    all_goals go_ret
    all_goals exact⟨Ae (by rw[a.out];simp),AW⟩
   ·have F:((d:Int)==0)=false:=by rw[CS];omega
    go_enter func91,ntmps91
    go_wp2_with (go_at_call 128;refine(b _).mono ?_;rintro e s ⟨rfl,c⟩;obtain⟨D,g⟩:=En c)
    all_goals go_ret
    all_goals exact⟨Ae (by rw[a.out];simp[f]),AW⟩
 ·have f:(k==0)=false:=by rw[CS];exact u
  go_enter func91,ntmps91
  go_wp2
  all_goals go_ret
  all_goals exact⟨Ae (by rw[a.out,f];rfl),AW⟩
end
open Go.RowKit Go.Sort Go.BigFrame Go.Shelf
attribute [local go_sem] Oper.semAt_some
def NI (W:World)(B:Nat)(k op:Int)(a n c d:Value):Prop:=W.cell? ⟨B,0,none⟩=some (AB k)/\W.cell? ⟨B,1,none⟩=some (AB op)/\W.cell? ⟨B,2,none⟩=some a/\W.cell? ⟨B,3,none⟩=some n/\W.cell? ⟨B,4,none⟩=some c/\W.cell? ⟨B,5,none⟩=some d
def W8 {β:Type}(B:Nat)(k op:Int)(a n c d:Value):Own (λ(_:β) W=>NI W B k op a n c d):=λ_ _ _ _ b e f=>
 ⟨cell_kept b.1 e f,cell_kept b.2.1 e f,cell_kept b.2.2.1 e f,cell_kept b.2.2.2.1 e f,cell_kept b.2.2.2.2.1 e f,cell_kept b.2.2.2.2.2 e f⟩
def zt {p:Prop}(h:p:=by
 have hrn:r=ns:=by
  by_cases h:(ns:Int)<=limit - ((S:Int)+(1+cn))
  ·exact hr1 h
  ·have:=hr2 AQ
   omega
 gi_wp2
 exact⟨by(repeat (first | with_reducible exact KeepsFrom.refl _ _ | with_reducible refine X8 ?_ _ _ | with_reducible refine Sz ?_ | with_reducible refine Ou ?_ _ | with_reducible refine S9 ?_ Bw)),QI (b:=w.heap.size+1) (Xl (Azj (Xl (QI (b:=w.heap.size+1) (Kept.refl w.heap.size (λk=>k=w.heap.size+1) W) BF rfl _) hn hb2)) hn hb3) BF rfl _,⟨⟨⟨by rw[Fb c3,dG.out,hoe];simp;omega,by rw[World.frozen?_setCell];exact z3,by rw[Bl BF];exact l3⟩,AW⟩,by rw[dG.out];omega,by rw[dG.out,HPL.out];omega,by have:=hb2.size;have:=hb3.size;simp at*;omega⟩⟩):p:=h
def zf0 {p:Prop}(h:p:=by
 gi_wp2
 exact⟨by(repeat (first | with_reducible exact KeepsFrom.refl _ _ | with_reducible refine X8 ?_ _ _ | with_reducible refine Sz ?_ | with_reducible refine Ou ?_ _ | with_reducible refine S9 ?_ Bw)),⟨rfl,S+(1+cn)+r,by omega,by rw[dG.out];omega,by rw[Fb c3];simp⟩,AW⟩):p:=h
def vU (g:List Stil.B9)(v:Value)(limit:Int)(w:World)(R:E8 w v g)(hf:∀x∈g,Dh x)(hl:g.length<=1048576)(ay:Aw g<=1000000000)(aQ:0<=limit)(a9:limit<=9223372036854775807):
  Calls prog 86 #[v,AB limit] w λe w'=>∃r:Nat,e=.returned (AB r)/\((Aw g:Int)<=limit->r=Aw g)/\(limit<Aw g->limit<r)/\r<=Aw g/\AO w w':=by
 have N:=AV (vw g);obtain⟨z,hz⟩:=AA (Aw g)
 rw[<-hz] at ay N ⊢;clear hz;have vT:Hid (∀W,AO w W->Qa w (λk=>k=w.heap.size+1) W v g):=λW h=>Qa.of_at R h (λk (h:k=_)=>by omega)
 obtain⟨p0,r0,rfl,_⟩:=R;refine(callsIn_wide (n:=9)).1 ?_;refine callsIn_of_wp_marks func86 rfl trivial ?_ rfl;simp only[ntmps86,Cd,CH,CP,Nat.reduceAdd,Nat.reduceSub,DK,DL,DJ,DN,C5,C4]
 gi_wp2_with (refine⟨trivial,?_⟩;gi_at_call 123;refine(callsIn_wide.2 (XP _ _ _ _)).mono ?_;rintro e u ⟨A,K,rfl,aX,a2,hA,B,hb⟩)
 simp only[World.size_alloc] at aX a2;have ab:AO w u:=AW;have aG:u.cell? ⟨w.heap.size,0,none⟩=some (AB limit):=by rw[hb.cell (p:=⟨w.heap.size,0,none⟩) Ax];simp[go_sem]
 have aU:u.cell? ⟨w.heap.size+1,0,none⟩=some (AB 0):=A0 hb;have aR:u.frozen? ⟨w.heap.size+1,0,none⟩=false:=A5 hb;have aI:w.heap.size+2<=u.heap.size:=by have:=hb.size;simp at this;omega
 have HS:Hid (SeqStopsK Fence.wide (9 - 1) prog 151 #[AH K,AH A] (λx:Ti w (λa=>a∈Ef g)=>#[Value.agg #[AB x.arm.net.kind,AB x.arm.net.one.op,x.av,x.nv,x.cv,x.kv]]) (Kept w.heap.size (λk=>k=w.heap.size+1)) (λys=>ys.map Ti.arm=Ef g) (λpre=>pre.map Ti.arm<+:Ef g) (Ef g).length u):=
  YM w (λa=>a∈Ef g) (λx D=>⟨(Ih (UX g hf x D)).2.2.2.1,sr g x D⟩) (λk=>k=w.heap.size+1) (λk (h:k=_)=>by omega) (w.heap.size+2) A K (λk (h:k=_)=>by omega) (λh:K=_=>by omega) (λh:A=_=>by omega) g hl (vx g) _ u ab aI (vT u ab) hA B _
 have aY:Hid (∀x∈Ef g,Ry x<=z):=λx D=>by rw[<-N.out];exact xR _ D
 have rf:=AV (UX g hf);have bb:(Ef g).length<=z:=by rw[<-N.out];exact OD Ry (λx=>by unfold Ry;omega) _
 clear hb hA B hf vT;refine wpIn_rangeFunc_ownH rfl AY (gf:=151) (lb:=#[AH K,AH A]) rfl trivial (enters_of func151 AX rfl)
  HS Kept.t (Kept.b AQ) (Below.refl _ _) (λ_=>rfl)
  (λpre W=>((W.cell? ⟨w.heap.size+1,0,none⟩=some (AB ((pre.map (Ry ∘ Ti.arm)).sum:Nat))/\W.frozen? ⟨w.heap.size+1,0,none⟩=false/\W.cell? ⟨w.heap.size,0,none⟩=some (AB limit))/\AO w W)/\(((pre.map (Ry ∘ Ti.arm)).sum:Nat):Int)<=limit/\(pre.map (Ry ∘ Ti.arm)).sum<=pre.length*z/\u.heap.size<=W.heap.size)
  (λc pre W=>(c=.exit 0/\∃t:Nat,limit<t/\t<=(pre.map (Ry ∘ Ti.arm)).sum/\W.cell? ⟨w.heap.size+1,0,none⟩=some (AB t))/\AO w W)
  (OwnFrom.and (OwnFrom.and (Own.from (λs A ac row j y E=>⟨cell_kept j.1 y E,(frozen_kept j.1 y E).trans j.2.1,cell_kept j.2.2 y E⟩) _) (ownFrom_below (CG _) AQ)) (OwnFrom.and (ownFrom_pure _ _) (OwnFrom.and (ownFrom_pure _ _) (λ_ _ _ _ j y _=>CM j y.size))))
  (λc=>OwnFrom.and (Own.from (λs A ac row j y E=>⟨j.1,j.2.elim λt ht=>⟨t,ht.1,ht.2.1,cell_kept ht.2.2 y E⟩⟩) _) (ownFrom_below (CG _) AQ))
  ⟨⟨⟨by simpa using aU,aR,aG⟩,ab⟩,by simpa using aQ,AU,CG _⟩
  (λx a' W=>∃i,u.heap.size<=i/\NI W i x.arm.net.kind x.arm.net.one.op x.av x.nv x.cv x.kv/\a'={tmps:=#[AE p0 g.length r0,AB limit,undef,AH w.heap.size,AB 0,AH (w.heap.size+1),AH i,AE p0 g.length r0, .func (.func 151) #[] #[AH K,AH A], .agg #[AB x.arm.net.kind,AB x.arm.net.one.op,x.av,x.nv,x.cv,x.kv],undef,undef,undef,undef,undef,undef,undef,undef,undef,undef,undef,undef,undef,undef,undef,undef,undef,undef,undef,undef,undef,undef],defers:=[]})
  (λx a' s A ac row j y E=>j.elim λi D=>⟨i,D.1,W8 (β:=Unit) i _ _ _ _ _ _ s A ac row D.2.1 y (λr e=>(E r e).2),D.2.2⟩) ?assign ?body ?done ?stop
 case assign=>
  rintro l pre x W f ⟨⟨⟨m,hfz,L⟩,G⟩,P,ae,aJ⟩ d;have aL:=Bf m;obtain⟨x,av,nv,cv,kv,R,aM,aW,aH,a5⟩:=x;obtain⟨q0,s0,rfl,_⟩:=id R;obtain⟨q1,s1,rfl,_⟩:=id aM;obtain⟨q2,s2,rfl,_⟩:=id aW;obtain⟨q3,s3,rfl,_⟩:=id aH
  gi_wp2
  exact d _ _ ((KeepsOthers.alloc _ _).from _) (Kept.of_below G.size (Aa _ _)) ⟨⟨⟨P8 _ m,Qm _ m hfz,P8 _ L⟩,AW⟩,P,ae,by simp;omega⟩ ⟨W.heap.size,AQ,⟨by simp[go_sem],by simp[go_sem],by simp[go_sem],by simp[go_sem],by simp[go_sem],by simp[go_sem]⟩,rfl⟩
 case body=>
  rintro l pre x a' W aT _ ⟨⟨⟨m,hfz,L⟩,G⟩,P,ae,aJ⟩ ⟨i,bc,⟨y0,y1,y2,y3,y4,y5⟩,rfl⟩ aK;have aL:=Bf m;have ba:w.heap.size<W.heap.size:=AQ
  have xU:=Bf y0;have hn:w.heap.size<=W.heap.size:=AQ
  have V:¬i=w.heap.size+1:=AQ
  have a3:¬i=w.heap.size:=AQ
  have dG:Hid (((pre++[x]).map (Ry ∘ Ti.arm)).sum=(pre.map (Ry ∘ Ti.arm)).sum+Ry x.arm):=by show _=_;rw[CU,GF];simp
  have HPL:Hid ((pre++[x]).length*z=pre.length*z+z):=by show _=_;rw[CO,Nat.add_mul];simp
  have a6:pre.length*z<=1000000000*1000000000:=Nat.mul_le_mul AQ ay;have ao:=(Ih (rf _ x.mem)).1;have aN:=(Ih (rf _ x.mem)).2.1;have aV:=aY _ x.mem;have C:Hid (Ry x.arm=1+x.arm.coils.length+(if Am x.arm.net then 0 else Ai x.arm.net)):=rfl;obtain⟨q0,s0,e0,_⟩:=id x.hav;obtain⟨q1,s1,e1,_⟩:=id x.hnv;obtain⟨q2,s2,e2,_⟩:=id x.hcv;obtain⟨q3,s3,e3,_⟩:=id x.hkv;have H:=AV (λaf J=>Ve x.arm.net x.av x.nv af (x.hav.below J) (x.hnv.below J) ao);have M:=AV (λaf J j aO h1 h2=>ud x.arm.net x.av x.nv aO af (x.hav.below J) (x.hnv.below J) ao j h1 h2);rw[e0,e1] at H M;rw[e0] at y2;rw[e1] at y3;rw[e2] at y4;rw[e3] at y5;obtain⟨S,hS⟩:=AA ((pre.map (Ry ∘ Ti.arm)).sum)
  obtain⟨o,ho⟩:=AA (Ry x.arm)
  obtain⟨cn,aD⟩:=AA x.arm.coils.length
  rw[<-hS] at m P ae dG;rw[<-ho] at aV dG C;rw[<-aD] at aN C y4;clear ao hS ho aD e0 e1 e2 e3 aK aT;cases T:Am x.arm.net
  ·rw[T] at H C
   have hoe:o=1+cn+Ai x.arm.net:=by rw[C.out];simp
   obtain⟨ns,aB⟩:=AA (Ai x.arm.net)
   rw[<-aB] at hoe M;clear aB T C;have aF:IntKind.i64.wrap (limit - ((S:Int)+(1+cn)))=limit - ((S:Int)+(1+cn)):=by rw[IntKind.wrap_i64];omega
   gi_wp2_with (refine⟨trivial,?_⟩;gi_at_call 91;refine(CallsIn.inRound l (callsIn_wide.2 (H _ AW))).mono ?_;rintro e I ⟨rfl,hb2⟩;have q:=(hb2.cell (p:=⟨w.heap.size+1,0,none⟩) Ax).trans (Fb m);have O:I.frozen? ⟨w.heap.size+1,0,none⟩=false:=(hb2.frozen (p:=⟨w.heap.size+1,0,none⟩) Ax).trans yEg;have F:=(hb2.cell (p:=⟨w.heap.size,0,none⟩) Ax).trans ((Bl AQ).trans L);have v0:=(hb2.cell (p:=⟨i,0,none⟩) Ax).trans ((Bl V).trans y0);have v1:=(hb2.cell (p:=⟨i,1,none⟩) Ax).trans ((Bl V).trans y1);have v2:=(hb2.cell (p:=⟨i,2,none⟩) Ax).trans ((Bl V).trans y2);have v3:=(hb2.cell (p:=⟨i,3,none⟩) Ax).trans ((Bl V).trans y3))
   refine wpIn_region_any AX ?_;try (change wpAnyIn _ _ _ _ _ _ _ _ _ (World.drew _))
   apply share
   ·intro Y
    apply share
    ·intro U
     apply share
     ·intro an
      apply share
      ·intro aw
       apply share
       ·intro al
        apply share
        ·intro ar
         apply share
         ·intro Q
          apply share
          ·intro aE
           apply share
           ·intro aa
            apply share
            ·intro aC
             apply share
             ·intro ax
              apply share
              ·intro wL
               apply share
               ·intro Z
                apply share
                ·intro wJ
                 apply share
                 ·intro au
                  apply share
                  ·intro ak
                   apply share
                   ·intro X
                    apply share
                    ·intro aj
                     apply share
                     ·intro ai
                      apply share
                      ·intro ah
                       apply share
                       ·intro zZ
                        apply share
                        ·intro zY
                         apply share
                         ·intro zX
                          refine wpAnyIn_ready (rs:=[0,1,3,4]) AX AU ?_;refine AllReadyIn.cons rfl (λf d=>?_) ?_
                          ·go_simp
                           refine d _ _ ?_;clear d f;refine wpAnyIn_ready (rs:=[1,3,4]) AX AU ?_;refine AllReadyIn.cons rfl (λf d=>?_) ?_
                           ·go_simp
                            refine d _ _ ?_;clear d f;exact aj
                           refine AllReadyIn.cons rfl (λf d=>?_) ?_
                           ·go_simp
                            refine d _ _ ?_;clear d f;exact ai
                           refine AllReadyIn.cons rfl (λf d=>?_) ?_
                           ·go_simp
                            refine d _ _ ?_;clear d f;exact ah
                           exact AllReadyIn.nil
                          refine AllReadyIn.cons rfl (λf d=>?_) ?_
                          ·go_simp
                           refine d _ _ ?_;clear d f;refine wpAnyIn_ready (rs:=[0,2,3,4]) AX AU ?_;refine AllReadyIn.cons rfl (λf d=>?_) ?_
                           ·go_simp
                            refine d _ _ ?_;clear d f;exact aj
                           refine AllReadyIn.cons rfl (λf d=>?_) ?_
                           ·go_simp
                            refine d _ _ ?_;clear d f;refine wpAnyIn_ready (rs:=[0,3,4]) AX AU ?_;refine AllReadyIn.cons rfl (λf d=>?_) ?_
                            ·go_simp
                             refine d _ _ ?_;clear d f;exact ax
                            refine AllReadyIn.cons rfl (λf d=>?_) ?_
                            ·go_simp
                             refine d _ _ ?_;clear d f;exact au
                            refine AllReadyIn.cons rfl (λf d=>?_) ?_
                            ·go_simp
                             refine d _ _ ?_;clear d f;exact ak
                            exact AllReadyIn.nil
                           refine AllReadyIn.cons rfl (λf d=>?_) ?_
                           ·go_simp
                            refine d _ _ ?_;clear d f;exact zZ
                           refine AllReadyIn.cons rfl (λf d=>?_) ?_
                           ·go_simp
                            refine d _ _ ?_;clear d f;exact zY
                           exact AllReadyIn.nil
                          refine AllReadyIn.cons rfl (λf d=>?_) ?_
                          ·go_simp
                           refine d _ _ ?_;clear d f;refine wpAnyIn_ready (rs:=[0,1,4]) AX AU ?_;refine AllReadyIn.cons rfl (λf d=>?_) ?_
                           ·go_simp
                            refine d _ _ ?_;clear d f;exact ai
                           refine AllReadyIn.cons rfl (λf d=>?_) ?_
                           ·go_simp
                            refine d _ _ ?_;clear d f;exact zZ
                           refine AllReadyIn.cons rfl (λf d=>?_) ?_
                           ·go_simp
                            refine d _ _ ?_;clear d f;exact zX
                           exact AllReadyIn.nil
                          refine AllReadyIn.cons rfl (λf d=>?_) ?_
                          ·go_simp
                           refine d _ _ ?_;clear d f;refine wpAnyIn_ready (rs:=[0,1,3]) AX AU ?_;refine AllReadyIn.cons rfl (λf d=>?_) ?_
                           ·go_simp
                            refine d _ _ ?_;clear d f;exact ah
                           refine AllReadyIn.cons rfl (λf d=>?_) ?_
                           ·go_simp
                            refine d _ _ ?_;clear d f;exact zY
                           refine AllReadyIn.cons rfl (λf d=>?_) ?_
                           ·go_simp
                            refine d _ _ ?_;clear d f;exact zX
                           exact AllReadyIn.nil
                          exact AllReadyIn.nil
                         ·refine wpAnyIn_ready (rs:=[0,1,5]) AX AU ?_
                          refine AllReadyIn.cons rfl (λf d=>?_) ?_
                          ·go_simp
                           refine d _ _ ?_;clear d f;exact wJ
                          refine AllReadyIn.cons rfl (λf d=>?_) ?_
                          ·go_simp
                           refine d _ _ ?_;clear d f;exact X
                          refine AllReadyIn.cons rfl (λf d=>?_) ?_
                          ·go_simp
                           refine d _ _ ?_;clear d f;refine wpAnyIn_ready (rs:=[0,1]) AX AU ?_;refine AllReadyIn.cons rfl (λf d=>?_) ?_
                           ·go_simp
                            refine d _ _ ?_;clear d f;exact aE
                           refine AllReadyIn.cons rfl (λf d=>?_) ?_
                           ·go_simp
                            refine d _ _ ?_;clear d f;exact aC
                           exact AllReadyIn.nil
                          exact AllReadyIn.nil
                        ·refine wpAnyIn_ready (rs:=[0,2,3]) AX AU ?_
                         refine AllReadyIn.cons rfl (λf d=>?_) ?_
                         ·go_simp
                          refine d _ _ ?_;clear d f;exact Z
                         refine AllReadyIn.cons rfl (λf d=>?_) ?_
                         ·go_simp
                          refine d _ _ ?_;clear d f;exact ak
                         refine AllReadyIn.cons rfl (λf d=>?_) ?_
                         ·go_simp
                          refine d _ _ ?_;clear d f;exact X
                         exact AllReadyIn.nil
                       ·refine wpAnyIn_ready (rs:=[0,2,4]) AX AU ?_
                        refine AllReadyIn.cons rfl (λf d=>?_) ?_
                        ·go_simp
                         refine d _ _ ?_;clear d f;exact wL
                        refine AllReadyIn.cons rfl (λf d=>?_) ?_
                        ·go_simp
                         refine d _ _ ?_;clear d f;exact au
                        refine AllReadyIn.cons rfl (λf d=>?_) ?_
                        ·go_simp
                         refine d _ _ ?_;clear d f;exact X
                        exact AllReadyIn.nil
                      ·refine wpAnyIn_ready (rs:=[1,3]) AX AU ?_
                       refine AllReadyIn.cons rfl (λf d=>?_) ?_
                       ·go_simp
                        refine d _ _ ?_;clear d f;exact Z
                       refine AllReadyIn.cons rfl (λf d=>?_) ?_
                       ·go_simp
                        refine d _ _ ?_;clear d f;exact wJ
                       exact AllReadyIn.nil
                     ·refine wpAnyIn_ready (rs:=[1,4]) AX AU ?_
                      refine AllReadyIn.cons rfl (λf d=>?_) ?_
                      ·go_simp
                       refine d _ _ ?_;clear d f;exact wL
                      refine AllReadyIn.cons rfl (λf d=>?_) ?_
                      ·go_simp
                       refine d _ _ ?_;clear d f;exact wJ
                      exact AllReadyIn.nil
                    ·refine wpAnyIn_ready (rs:=[2,3,4]) AX AU ?_
                     refine AllReadyIn.cons rfl (λf d=>?_) ?_
                     ·go_simp
                      refine d _ _ ?_;clear d f;exact ax
                     refine AllReadyIn.cons rfl (λf d=>?_) ?_
                     ·go_simp
                      refine d _ _ ?_;clear d f;exact wL
                     refine AllReadyIn.cons rfl (λf d=>?_) ?_
                     ·go_simp
                      refine d _ _ ?_;clear d f;exact Z
                     exact AllReadyIn.nil
                   ·refine wpAnyIn_ready (rs:=[0,2,5]) AX AU ?_
                    refine AllReadyIn.cons rfl (λf d=>?_) ?_
                    ·go_simp
                     refine d _ _ ?_;clear d f;exact Q
                    refine AllReadyIn.cons rfl (λf d=>?_) ?_
                    ·go_simp
                     refine d _ _ ?_;clear d f;exact aa
                    refine AllReadyIn.cons rfl (λf d=>?_) ?_
                    ·go_simp
                     refine d _ _ ?_;clear d f;exact aC
                    exact AllReadyIn.nil
                  ·refine wpAnyIn_ready (rs:=[0,3]) AX AU ?_
                   refine AllReadyIn.cons rfl (λf d=>?_) ?_
                   ·go_simp
                    refine d _ _ ?_;clear d f;exact ar
                   refine AllReadyIn.cons rfl (λf d=>?_) ?_
                   ·go_simp
                    refine d _ _ ?_;clear d f;exact aa
                   exact AllReadyIn.nil
                 ·refine wpAnyIn_ready (rs:=[0,4]) AX AU ?_
                  refine AllReadyIn.cons rfl (λf d=>?_) ?_
                  ·go_simp
                   refine d _ _ ?_;clear d f;exact al
                  refine AllReadyIn.cons rfl (λf d=>?_) ?_
                  ·go_simp
                   refine d _ _ ?_;clear d f;exact aa
                  exact AllReadyIn.nil
                ·refine wpAnyIn_ready (rs:=[1,5]) AX AU ?_
                 refine AllReadyIn.cons rfl (λf d=>?_) ?_
                 ·go_simp
                  refine d _ _ ?_;clear d f;exact Q
                 refine AllReadyIn.cons rfl (λf d=>?_) ?_
                 ·go_simp
                  refine d _ _ ?_;clear d f;exact aE
                 exact AllReadyIn.nil
               ·refine wpAnyIn_ready (rs:=[2,3]) AX AU ?_
                refine AllReadyIn.cons rfl (λf d=>?_) ?_
                ·go_simp
                 refine d _ _ ?_;clear d f;exact ar
                refine AllReadyIn.cons rfl (λf d=>?_) ?_
                ·go_simp
                 refine d _ _ ?_;clear d f;exact Q
                exact AllReadyIn.nil
              ·refine wpAnyIn_ready (rs:=[2,4]) AX AU ?_
               refine AllReadyIn.cons rfl (λf d=>?_) ?_
               ·go_simp
                refine d _ _ ?_;clear d f;exact al
               refine AllReadyIn.cons rfl (λf d=>?_) ?_
               ·go_simp
                refine d _ _ ?_;clear d f;exact Q
               exact AllReadyIn.nil
             ·refine wpAnyIn_ready (rs:=[3,4]) AX AU ?_
              refine AllReadyIn.cons rfl (λf d=>?_) ?_
              ·go_simp
               refine d _ _ ?_;clear d f;exact al
              refine AllReadyIn.cons rfl (λf d=>?_) ?_
              ·go_simp
               refine d _ _ ?_;clear d f;exact ar
              exact AllReadyIn.nil
            ·refine wpAnyIn_ready (rs:=[0,2]) AX AU ?_
             refine AllReadyIn.cons rfl (λf d=>?_) ?_
             ·go_simp
              refine d _ _ ?_;clear d f;exact an
             refine AllReadyIn.cons rfl (λf d=>?_) ?_
             ·go_simp
              refine d _ _ ?_;clear d f;exact aw
             exact AllReadyIn.nil
           ·refine wpAnyIn_ready (rs:=[0,5]) AX AU ?_
            refine AllReadyIn.cons rfl (λf d=>?_) ?_
            ·go_simp
             refine d _ _ ?_;clear d f;exact U
            refine AllReadyIn.cons rfl (λf d=>?_) ?_
            ·go_simp
             refine d _ _ ?_;clear d f;exact aw
            exact AllReadyIn.nil
          ·refine wpAnyIn_ready (rs:=[1]) AX AU ?_
           refine AllReadyIn.cons rfl (λf d=>?_) AllReadyIn.nil;go_simp;refine d _ _ ?_;clear d f;exact an
         ·refine wpAnyIn_ready (rs:=[2,5]) AX AU ?_
          refine AllReadyIn.cons rfl (λf d=>?_) ?_
          ·go_simp
           refine d _ _ ?_;clear d f;exact U
          refine AllReadyIn.cons rfl (λf d=>?_) ?_
          ·go_simp
           refine d _ _ ?_;clear d f;exact an
          exact AllReadyIn.nil
        ·refine wpAnyIn_ready (rs:=[3]) AX AU ?_
         refine AllReadyIn.cons rfl (λf d=>?_) AllReadyIn.nil;go_simp;refine d _ _ ?_;clear d f;exact U
       ·refine wpAnyIn_ready (rs:=[4]) AX AU ?_
        refine AllReadyIn.cons rfl (λf d=>?_) AllReadyIn.nil;go_simp;refine d _ _ ?_;clear d f;exact U
      ·refine wpAnyIn_ready (rs:=[0,6]) AX AU ?_
       refine AllReadyIn.cons rfl (λf d=>?_) ?_
       ·go_simp
        refine d _ _ ?_;clear d f;exact Y
       refine AllReadyIn.cons rfl (λf d=>?_) ?_
       ·go_simp
        try simp only[aF]
        refine⟨trivial,?_⟩;refine(CallsIn.inRound l (callsIn_wide.2 (M _ AW AQ (limit - ((S:Int)+(1+cn))) AQ AQ))).mono ?_;rintro e W3 ⟨r,rfl,hr1,hr2,aZ,hb3⟩;refine d _ _ ?_;clear d f;have c3:=(hb3.cell (p:=⟨w.heap.size+1,0,none⟩) (Bf q)).trans q;have z3:=(hb3.frozen (p:=⟨w.heap.size+1,0,none⟩) (Bf q)).trans O;have l3:=(hb3.cell (p:=⟨w.heap.size,0,none⟩) (Bf F)).trans F;have ap:IntKind.i64.wrap ((S:Int)+(1+cn)+r)=(S:Int)+(1+cn)+r:=by rw[IntKind.wrap_i64];omega
        refine wpAnyIn_ready (rs:=[0]) AX AU ?_;refine AllReadyIn.cons rfl (λf d=>?_) AllReadyIn.nil;go_simp;refine d _ _ ?_;clear d f;refine wpAnyIn_ready (rs:=[7]) AX AU ?_;refine AllReadyIn.cons rfl (λf d=>?_) AllReadyIn.nil;go_simp;try simp only[ap]
        refine d _ _ ?_;clear d f;refine wpAnyIn_ready (rs:=[8]) AX AU ?_;refine AllReadyIn.cons rfl (λf d=>?_) AllReadyIn.nil;go_simp;refine d _ _ ?_;clear d f;refine wpAnyIn_done AX ?_ _;by_cases az:limit<(S:Int)+(1+cn)+r
        ·exact zf0
        ·exact zt
       exact AllReadyIn.nil
     ·refine wpAnyIn_ready (rs:=[2]) AX AU ?_
      refine AllReadyIn.cons rfl (λf d=>?_) AllReadyIn.nil;go_simp;refine d _ _ ?_;clear d f;exact Y
    ·refine wpAnyIn_ready (rs:=[5]) AX AU ?_
     refine AllReadyIn.cons rfl (λf d=>?_) AllReadyIn.nil;go_simp;refine d _ _ ?_;clear d f;exact Y
   ·refine wpAnyIn_ready (rs:=[6]) AX AU ?_
    refine AllReadyIn.cons rfl (λf d=>?_) AllReadyIn.nil;go_simp;try simp only[aF]
    refine⟨trivial,?_⟩;refine(CallsIn.inRound l (callsIn_wide.2 (M _ AW AQ (limit - ((S:Int)+(1+cn))) AQ AQ))).mono ?_;rintro e W3 ⟨r,rfl,hr1,hr2,aZ,hb3⟩;refine d _ _ ?_;clear d f;have c3:=(hb3.cell (p:=⟨w.heap.size+1,0,none⟩) (Bf q)).trans q;have z3:=(hb3.frozen (p:=⟨w.heap.size+1,0,none⟩) (Bf q)).trans O;have l3:=(hb3.cell (p:=⟨w.heap.size,0,none⟩) (Bf F)).trans F;have ap:IntKind.i64.wrap ((S:Int)+(1+cn)+r)=(S:Int)+(1+cn)+r:=by rw[IntKind.wrap_i64];omega
    refine wpAnyIn_ready (rs:=[7]) AX AU ?_;refine AllReadyIn.cons rfl (λf d=>?_) AllReadyIn.nil;go_simp;try simp only[ap]
    refine d _ _ ?_;clear d f;refine wpAnyIn_ready (rs:=[8]) AX AU ?_;refine AllReadyIn.cons rfl (λf d=>?_) AllReadyIn.nil;go_simp;refine d _ _ ?_;clear d f;refine wpAnyIn_done AX ?_ _;by_cases az:limit<(S:Int)+(1+cn)+r
    ·exact zf0
    ·exact zt
  ·rw[T] at H C
   have hoe:o=1+cn:=by rw[C.out];simp
   clear T C M;by_cases az:limit<(S:Int)+(1+cn)
   ·gi_wp2_with (refine⟨trivial,?_⟩;gi_at_call 91;refine(CallsIn.inRound l (callsIn_wide.2 (H _ AW))).mono ?_;rintro e I ⟨rfl,hb2⟩;have q:=(hb2.cell (p:=⟨w.heap.size+1,0,none⟩) Ax).trans (Fb m);have O:I.frozen? ⟨w.heap.size+1,0,none⟩=false:=(hb2.frozen (p:=⟨w.heap.size+1,0,none⟩) Ax).trans yEg;have F:=(hb2.cell (p:=⟨w.heap.size,0,none⟩) Ax).trans ((Bl AQ).trans L))
    exact⟨by(repeat (first | with_reducible exact KeepsFrom.refl _ _ | with_reducible refine X8 ?_ _ _ | with_reducible refine Sz ?_ | with_reducible refine Ou ?_ _ | with_reducible refine S9 ?_ Bw)),⟨rfl,S+(1+cn),by omega,by rw[dG.out];omega,by rw[q];simp⟩,AW⟩
   ·gi_wp2_with (refine⟨trivial,?_⟩;gi_at_call 91;refine(CallsIn.inRound l (callsIn_wide.2 (H _ AW))).mono ?_;rintro e I ⟨rfl,hb2⟩;have q:=(hb2.cell (p:=⟨w.heap.size+1,0,none⟩) Ax).trans (Fb m);have O:I.frozen? ⟨w.heap.size+1,0,none⟩=false:=(hb2.frozen (p:=⟨w.heap.size+1,0,none⟩) Ax).trans yEg;have F:=(hb2.cell (p:=⟨w.heap.size,0,none⟩) Ax).trans ((Bl AQ).trans L))
    exact⟨by(repeat (first | with_reducible exact KeepsFrom.refl _ _ | with_reducible refine X8 ?_ _ _ | with_reducible refine Sz ?_ | with_reducible refine Ou ?_ _ | with_reducible refine S9 ?_ Bw)),Xl (QI (b:=w.heap.size+1) (Kept.refl w.heap.size (λk=>k=w.heap.size+1) W) BF rfl _) hn hb2,⟨⟨⟨by rw[q,dG.out,hoe];simp,O,F⟩,AW⟩,by rw[dG.out];omega,by rw[dG.out,HPL.out];omega,by have:=hb2.size;simp at*;omega⟩⟩
 case done=>
  rintro ag ys W hD hS ⟨⟨⟨m,_⟩,G⟩,P,_⟩ B;rw[<-EZ,hS,N.out] at m P
  gi_wp2
  refine⟨AU, .inl ⟨_,_,rfl,run_takeDeferred B,?_⟩⟩;exact⟨_,results_tmp rfl _ _ _,z,rfl,λ_=>rfl,λh=>h,CG _,G.trans (belowK_b (w:=w) (CG _) W ag _ _ AQ B rfl rfl)⟩
 case stop=>
  rintro ag c pre W hD aS ⟨⟨rfl,t,a7,a8,m⟩,G⟩ B;have aP:t<=z:=by have:=yh Ry aS;rw[N.out,EZ] at this;omega
  gi_wp2
  refine⟨AU, .inl ⟨_,_,rfl,run_takeDeferred B,?_⟩⟩;exact⟨_,results_tmp rfl _ _ _,t,rfl,λh=>by omega,λh=>by omega,aP,G.trans (belowK_b (w:=w) (CG _) W ag _ _ AQ B rfl rfl)⟩
