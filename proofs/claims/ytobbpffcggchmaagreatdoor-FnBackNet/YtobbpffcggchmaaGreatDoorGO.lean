import Derived.Test.YtobbpffcggchmaaGreatDoorGU
import Derived.Shelf.RegionOpen
import Derived.OwnWalkIn
import Derived.TacticsInMore
import Derived.LoopNIn
import Derived.LoopIn
set_option maxHeartbeats 4000000
set_option maxRecDepth 100000
namespace Go.Proofs.YtobbpffcggchmaaGreatDoor
open Tryz
open Stil
open Go.RowKit Go.Sort Go.BigFrame
theorem Y2 (op:Int)(a:Option Addr)(b cap:Nat)(w:World)(_h:b<=9223372036854775807):
  Calls prog 75 #[.agg #[.int .i64 op, .slice a b cap]] w λe d=>e=.returned (.bool (op==0 && b==0))/\Below w.heap.size w d:=by
 by_cases c:op=0
 ·subst c
  go_enter func75,ntmps75
  go_wp2
  all_goals go_ret
  all_goals refine⟨Ad ?_,blA⟩
  all_goals (go_light;rw[Baf];simp;try omega)
 ·have f:(op==0)=false:=by rw[A95];exact c
  go_enter func75,ntmps75
  go_wp2
  all_goals go_ret
  all_goals refine⟨Ad ?_,blA⟩
  all_goals (go_light;simp[f])
end Go.Proofs.YtobbpffcggchmaaGreatDoor
namespace Go.Proofs.YtobbpffcggchmaaGreatDoor
open Tryz
open Stil
open Go.RowKit Go.Sort Go.BigFrame Go.Shelf
theorem Alz (k op:Int)(a:Value)(p:Option Addr)(b cap:Nat)(c:Option Addr)(i g:Nat)(f:a=.slice c i g)(w:World):
  Calls prog 104 #[.agg #[.int .i64 k, .int .i64 op,a, .slice p b cap]] w λe d=>e=.returned (.slice p b cap)/\Below w.heap.size w d:=by
 subst f;go_enter func104,ntmps104
 go_wp2
 go_ret;exact⟨rfl,blA⟩
theorem Al2 (k op:Int)(f b j p:Option Addr)(d c m o g l a cap:Nat)(w:World):
  Calls prog 90 #[.agg #[.int .i64 k, .int .i64 op, .slice f d c, .slice b m o, .slice j g l, .slice p a cap]] w λe i=>e=.returned (.slice p a cap)/\Below w.heap.size w i:=by
 go_enter func90,ntmps90
 go_wp2
 go_ret;exact⟨rfl,blA⟩
def Aj7 (l Y B K:Nat)(W:World):Prop:=W.cell? ⟨Y,0,none⟩=some (.func (.yield l) #[] #[])/\W.cell? ⟨B,0,none⟩=some (.func (.func 119) #[] #[.pointer (some ⟨Y,0,none⟩), .pointer (some ⟨B,0,none⟩), .pointer (some ⟨K,0,none⟩)])/\W.cell? ⟨K,0,none⟩=some (.func (.func 104) #[] #[])
def Adh (w:World)(P:Stil.Net->Prop)(C:Nat->Prop)(M l Y B K N:Nat)(J c:List (Sm w P)->World->Prop)(es:List Stil.Net):Prop:=
 ∀(m:Nat) (v:Value) (pre:List (Sm w P)) (W:World),Qb w C W v es->Aj7 l Y B K W->J pre W->Below w.heap.size w W->M<=W.heap.size->pre.length+(Ef es).length<=N->
  CallsIn Fence.wide m prog 119 #[v, .pointer (some ⟨Y,0,none⟩), .pointer (some ⟨B,0,none⟩), .pointer (some ⟨K,0,none⟩)] W λe b=>
   (e=.returned (.bool true)/\∃a:List (Sm w P),a.map Sm.net=Ef es/\J (pre++a) b/\Kept w.heap.size C W b)\/
   (e=.returned (.bool false)/\∃a:List (Sm w P),a.map Sm.net<+:Ef es/\c (pre++a) b)
def Aj8 (l Y B K:Nat)(W:World):Prop:=W.cell? ⟨Y,0,none⟩=some (.func (.yield l) #[] #[])/\W.cell? ⟨B,0,none⟩=some (.func (.func 106) #[] #[.pointer (some ⟨Y,0,none⟩), .pointer (some ⟨B,0,none⟩), .pointer (some ⟨K,0,none⟩)])/\W.cell? ⟨K,0,none⟩=some (.func (.func 90) #[] #[])
def Adi (w:World)(P:Stil.Arm->Prop)(C:Nat->Prop)(M l Y B K N:Nat)(J c:List (Qy w P)->World->Prop)(es:List Stil.Arm):Prop:=
 ∀(m:Nat) (v:Value) (pre:List (Qy w P)) (W:World),O0 w C W v es->Aj8 l Y B K W->J pre W->Below w.heap.size w W->M<=W.heap.size->pre.length+(Dz es).length<=N->
  CallsIn Fence.wide m prog 106 #[v, .pointer (some ⟨Y,0,none⟩), .pointer (some ⟨B,0,none⟩), .pointer (some ⟨K,0,none⟩)] W λe b=>
   (e=.returned (.bool true)/\∃a:List (Qy w P),a.map Qy.arm=Dz es/\J (pre++a) b/\Kept w.heap.size C W b)\/
   (e=.returned (.bool false)/\∃a:List (Qy w P),a.map Qy.arm<+:Dz es/\c (pre++a) b)
end Go.Proofs.YtobbpffcggchmaaGreatDoor
namespace Go.Proofs.YtobbpffcggchmaaGreatDoor
open Tryz
open Stil
open Go.RowKit Go.Sort Go.BigFrame Go.Shelf
attribute [local go_sem] Oper.semAt_some
theorem Aj7.keep {l Y B K:Nat}{C:Nat->Prop}{W b:World}(h:Aj7 l Y B K W)(e:¬C Y)(d:¬C B)(c:¬C K)(a:J3 C W b):Aj7 l Y B K b:=⟨a.cell e h.1,a.cell d h.2.1,a.cell c h.2.2⟩
theorem zp0 {p:Prop}(h:p:=by
 go_simp
 refine aA _ _ ?_;clear aA KK;refine wpAnyIn_ready (rs:=[7]) krz spz ?_;refine AllReadyIn.cons rfl (λKK aA=>?_) AllReadyIn.nil;go_simp;refine aA _ _ ?_;clear aA KK;exact key1):p:=h
theorem zq0 {p:Prop}(h:p:=by
 go_simp
 refine aA _ _ ?_;clear aA KK;refine wpAnyIn_ready (rs:=[6]) krz spz ?_;refine AllReadyIn.cons rfl (λKK aA=>?_) AllReadyIn.nil;go_simp;refine aA _ _ ?_;clear aA KK;exact key1):p:=h
theorem zc {p:Prop}(h:p:=by
 intro key2
 refine wpAnyIn_ready (rs:=[3]) krz spz ?_;refine AllReadyIn.cons rfl (λKK aA=>?_) AllReadyIn.nil;go_simp;refine aA _ _ ?_;clear aA KK;refine wpAnyIn_ready (rs:=[4]) krz spz ?_;refine AllReadyIn.cons rfl (λKK aA=>?_) AllReadyIn.nil;go_simp;refine aA _ _ ?_;clear aA KK;refine wpAnyIn_ready (rs:=[5,6,7]) krz spz ?_;refine AllReadyIn.cons rfl (λKK aA=>?_) ?_
 ·go_simp
  refine aA _ _ ?_;clear aA KK;refine wpAnyIn_ready (rs:=[6,7]) krz spz ?_;refine AllReadyIn.cons rfl (λKK aA=>?_) ?_
  ·exact zp0
  refine AllReadyIn.cons rfl (λKK aA=>?_) ?_
  ·exact zq0
  exact AllReadyIn.nil
 refine AllReadyIn.cons rfl (λKK aA=>?_) ?_
 ·go_simp
  refine aA _ _ ?_;clear aA KK;refine wpAnyIn_ready (rs:=[5,7]) krz spz ?_;refine AllReadyIn.cons rfl (λKK aA=>?_) ?_
  ·exact zp0
  refine AllReadyIn.cons rfl (λKK aA=>?_) ?_
  ·go_simp
   refine aA _ _ ?_;clear aA KK;exact key2
  exact AllReadyIn.nil
 refine AllReadyIn.cons rfl (λKK aA=>?_) ?_
 ·go_simp
  refine aA _ _ ?_;clear aA KK;refine wpAnyIn_ready (rs:=[5,6]) krz spz ?_;refine AllReadyIn.cons rfl (λKK aA=>?_) ?_
  ·exact zq0
  refine AllReadyIn.cons rfl (λKK aA=>?_) ?_
  ·go_simp
   refine aA _ _ ?_;clear aA KK;exact key2
  exact AllReadyIn.nil
 exact AllReadyIn.nil):p:=h
theorem zd {p:Prop}(h:p:=by
 refine aA _ _ ?_
 clear aA KK;refine wpAnyIn_ready (rs:=[10]) krz spz ?_;refine AllReadyIn.cons rfl (λKK aA=>?_) AllReadyIn.nil;go_simp;refine aA _ _ ?_;clear aA KK;refine wpAnyIn_ready (rs:=[11]) krz spz ?_;refine AllReadyIn.cons rfl (λKK aA=>?_) AllReadyIn.nil;go_simp;refine aA _ _ ?_;clear aA KK;refine wpAnyIn_done krz ?_ _
 gi_wp2
 exact⟨⟨j+1,ys++[x]++zs,omz,by go_num,iP zs hzs,by simpa[A9r] using rY,hkW.t hk4⟩,by simp[intOf];omega⟩):p:=h
theorem ze {p:Prop}(h:p:=by
 refine aA _ _ ?_
 clear aA KK;refine wpAnyIn_ready (rs:=[10]) krz spz ?_;refine AllReadyIn.cons rfl (λKK aA=>?_) AllReadyIn.nil;go_simp;refine aA _ _ ?_;clear aA KK;refine wpAnyIn_ready (rs:=[11]) krz spz ?_;refine AllReadyIn.cons rfl (λKK aA=>?_) AllReadyIn.nil;go_simp;refine aA _ _ ?_;clear aA KK;refine wpAnyIn_done krz ?_ _
 gi_wp2
 go_ret;exact .inr ⟨rfl,ys++[x]++zs,jM zs hzs,by simpa[A9r] using hx4⟩):p:=h
theorem zj {p:Prop}(h:p:=by
 refine aA _ _ ?_
 clear aA KK;refine wpAnyIn_ready (rs:=[3]) krz spz ?_;refine AllReadyIn.cons rfl (λKK aA=>?_) AllReadyIn.nil;go_simp;refine aA _ _ ?_;clear aA KK;refine wpAnyIn_ready (rs:=[4]) krz spz ?_;refine AllReadyIn.cons rfl (λKK aA=>?_) AllReadyIn.nil;go_simp;refine aA _ _ ?_;clear aA KK;refine wpAnyIn_take (i:=5) (v:=undef) rfl rfl krz krz krz (λ_ _ _ h=>h) ⟨Or.inr ⟨rrz,rfl⟩,λ_=>rfl⟩ ?_;refine wpAnyIn_take (i:=6) (v:=undef) rfl rfl krz krz krz (λ_ _ _ h=>h) ⟨Or.inr ⟨rrz,rfl⟩,λ_=>rfl⟩ ?_;refine wpAnyIn_take (i:=7) (v:=undef) rfl rfl krz krz krz (λ_ _ _ h=>h) ⟨Or.inr ⟨rrz,rfl⟩,λ_=>rfl⟩ ?_;refine wpAnyIn_take (i:=8) (v:=undef) rfl rfl krz krz krz (λ_ _ _ h=>h) ⟨Or.inr ⟨rrz,rfl⟩,λ_=>rfl⟩ ?_;refine wpAnyIn_take (i:=9) (v:=undef) rfl rfl krz krz krz (λ_ _ _ h=>h) ⟨Or.inr ⟨rrz,rfl⟩,λ_=>rfl⟩ ?_;refine wpAnyIn_take (i:=10) (v:=undef) rfl rfl krz krz krz (λ_ _ _ h=>h) ⟨Or.inr ⟨rrz,rfl⟩,λ_=>rfl⟩ ?_;refine wpAnyIn_ready (rs:=[11]) krz spz ?_;refine AllReadyIn.cons rfl (λKK aA=>?_) AllReadyIn.nil;go_simp;refine aA _ _ ?_;clear aA KK;refine wpAnyIn_done krz ?_ _
 gi_wp2
 go_ret;exact .inr ⟨rfl,ys++[x],mV.out,by simpa[A9r] using hx3⟩):p:=h
theorem zE {p:Prop}(h:p:=by
 intro kZ
 refine wpAnyIn_ready (rs:=[0,1]) krz spz ?_;refine AllReadyIn.cons rfl (λKK aA=>?_) ?_
 ·go_simp
  refine aA _ _ ?_;clear aA KK;refine wpAnyIn_ready (rs:=[1]) krz spz ?_;refine AllReadyIn.cons rfl (λKK aA=>?_) AllReadyIn.nil;go_simp;refine aA _ _ ?_;clear aA KK;exact kZ
 refine AllReadyIn.cons rfl (λKK aA=>?_) ?_
 ·go_simp
  refine aA _ _ ?_;clear aA KK;refine wpAnyIn_ready (rs:=[0]) krz spz ?_;refine AllReadyIn.cons rfl (λKK aA=>?_) AllReadyIn.nil;go_simp;refine aA _ _ ?_;clear aA KK;exact kZ
 exact AllReadyIn.nil):p:=h
theorem Ahl (w:World)(P:Stil.Net->Prop)(C:Nat->Prop)(hC:∀k,C k->w.heap.size<=k)(ac l Y B K N:Nat)(ak:∀k,C k->k<ac)(oG:¬C Y)(kH:¬C B)(jI:¬C K)(J O:List (Sm w P)->World->Prop)
  (hJ:∀s W d,J s W->Below W.heap.size W d->J s d)
  (hY:∀m pre (x:Sm w P) W,J pre W->pre.length<N->YieldAt Fence.wide m prog l #[.agg #[.int .i64 x.net.kind, .int .i64 x.net.one.op,x.av,x.kv]] W λe d=>
   (e=.returned (.bool true)/\J (pre++[x]) d/\Kept w.heap.size C W d)\/(e=.returned (.bool false)/\O (pre++[x]) d))
  (es:List Stil.Net) (hl:es.length<=1048576) (hf:∀x∈es,P x) (ih:∀x∈es,Adh w P C ac l Y B K N J O x.kids):Adh w P C ac l Y B K N J O es:=by
 intro m v pre W hs ag hj hb hM hN;have HS:=hid (λd (h:J3 C W d)=>hs.keep h);have cO:=hid (λd (h:J3 C W d)=>ag.keep oG kH jI h);have qj:=hid hY;have sQ:=hid hJ;have IH:=hid ih;have HN:=hid hN;have HB:=hid hb;obtain⟨a,cap,rfl,_⟩:=hs;clear hJ hY ih hN hb ag;refine callsIn_of_wp func119 rfl trivial ?_ rfl;simp only[ntmps119,A86,A84,A85,Nat.reduceAdd,Nat.reduceSub,A9w,A9x,A92,A9z,A9u,A9t]
 gi_wp2
 gi_loopw [10] (λi wr=>∃(j:Nat) (ys:List (Sm w P)),j<=es.length/\i=.int .i64 j/\ys.map Sm.net=Ef (es.take j)/\J (pre++ys) wr/\Kept w.heap.size C W wr) (λi _=>es.length - (intOf i).toNat)
 case atStart=>exact⟨0,[],omz,rfl,by simp[Ef],by simpa using hj,Kept.refl _ _ _⟩
 case round=>
  obtain⟨j,ys,ay,rfl,Q,aa,A⟩:=hrel;by_cases q:j<es.length
  ·obtain⟨a',ax,hv,ao⟩:=HS wr A.2
   obtain⟨b,o,rfl,aw,av,kv,x0,x1,x2,x3,S,L⟩:=ao j q;simp only[Value.slice.injEq,true_and] at hv;obtain⟨rfl,rfl⟩:=hv;obtain⟨b0,b1,b2⟩:=cO wr A.2;have ap:(pre++ys).length<N:=by
    have h1:=HN.out;have h2:ys.length=(Ef (es.take j)).length:=by rw[<-Q,A9j]
    have r:=(Yz es (j+1)).length_le;rw[Ti es j q] at r;simp only[A83,A84] at r ⊢;omega
   obtain⟨X,V,Z,_⟩:=id S;obtain⟨G,H,R,_⟩:=id L;have ah:∀x:Sm w P,x=⟨es[j],av,kv,S,L,hf _ (A9a q)⟩->∀c,J (pre++ys) c->YieldAt Fence.wide (m - 1) prog l #[.agg #[.int .i64 es[j].kind, .int .i64 es[j].one.op, .slice X es[j].one.args.length V, .slice G es[j].kids.length H]] c λe d=>
     (e=.returned (.bool true)/\J (pre++ys++[x]) d/\Kept w.heap.size C c d)\/(e=.returned (.bool false)/\O (pre++ys++[x]) d):=by
    intro x M c al;have:=qj (m - 1) (pre++ys) x c al ap
    rw[M] at this ⊢;simp only[Z,R] at this ⊢;exact this
   obtain⟨x,M⟩:∃x:Sm w P,x=⟨es[j],av,kv,S,L,hf _ (A9a q)⟩:=⟨_,rfl⟩
   have HV:=hid (ah x M);have sF:Hid (x.net=es[j]):=by show _=_;rw[M]
   have jQ:=hid L;clear ah M;obtain⟨y,hy⟩:∃y,y=es[j]:=⟨_,rfl⟩
   rw[<-hy] at x0 x1 HV sF jQ Z R;have T:=hid hy;rw[Z] at x2;rw[R] at x3 jQ;clear S L Z R hy;have I:¬C wr.heap.size:=λh=>by have:=ak _ h;have:=A.2.size;omega
   have wU:=Bo b0;have rZ:=Bo b1;have oJ:=Bo b2
   gi_wp2
   obtain⟨c,n⟩:∃c,c=wr.alloc (.cells #[.int .i64 y.kind, .int .i64 y.one.op, .slice X y.one.args.length V, .slice G y.kids.length H] 30):=⟨_,rfl⟩
   rw[<-n];have c0:c.cell? ⟨Y,0,none⟩=some (.func (.yield l) #[] #[]):=by rw[n];simp[go_sem,b0,wU]
   have c1:c.cell? ⟨B,0,none⟩=some (.func (.func 119) #[] #[.pointer (some ⟨Y,0,none⟩), .pointer (some ⟨B,0,none⟩), .pointer (some ⟨K,0,none⟩)]):=by rw[n];simp[go_sem,b1,rZ]
   have c2:c.cell? ⟨K,0,none⟩=some (.func (.func 104) #[] #[]):=by rw[n];simp[go_sem,b2,oJ]
   obtain⟨z,F⟩:∃z,z=wr.heap.size:=⟨_,rfl⟩
   rw[<-F] at I ⊢;have d0:c.cell? ⟨z,0,none⟩=some (.int .i64 y.kind):=by rw[n,F];simp[go_sem]
   have d1:c.cell? ⟨z,1,none⟩=some (.int .i64 y.one.op):=by rw[n,F];simp[go_sem]
   have d2:c.cell? ⟨z,2,none⟩=some (.slice X y.one.args.length V):=by rw[n,F];simp[go_sem]
   have d3:c.cell? ⟨z,3,none⟩=some (.slice G y.kids.length H):=by rw[n,F];simp[go_sem]
   have ab:Below wr.heap.size wr c:=by rw[n];exact Aa _ _
   have ae:=A.t (Kept.of_below (A9f HB.size A.1.size) ab);have af:=sQ _ _ _ aa ab.drew;clear n ab b0 b1 b2 x0 x1 x2 x3 wU rZ oJ aa A F;obtain⟨fn,ar,assign,body,au,hR⟩:=HV c.drew af;clear HV af
   have an:Hid (∀(e:Ending) (f:World),(e=.returned (.bool true)/\J (pre++ys++[x]) f/\Kept w.heap.size C c.drew f)->f.cell? ⟨B,0,none⟩=some (.func (.func 119) #[] #[.pointer (some ⟨Y,0,none⟩), .pointer (some ⟨B,0,none⟩), .pointer (some ⟨K,0,none⟩)])/\f.cell? ⟨K,0,none⟩=some (.func (.func 104) #[] #[])/\
     f.cell? ⟨z,0,none⟩=some (.int .i64 y.kind)/\f.cell? ⟨z,1,none⟩=some (.int .i64 y.one.op)/\f.cell? ⟨z,2,none⟩=some (.slice X y.one.args.length V)/\f.cell? ⟨z,3,none⟩=some (.slice G y.kids.length H)):=
    λe f h=>⟨h.2.2.2.cell kH c1,h.2.2.2.cell jI c2,h.2.2.2.cell I d0,h.2.2.2.cell I d1,h.2.2.2.cell I d2,h.2.2.2.cell I d3⟩
   have yH:Hid (∀f g,Kept w.heap.size C c.drew f->Below f.heap.size f g->Kept w.heap.size C W g):=λf g h2 r=>
    ((ae.t ⟨(Below.refl _ _).drew,(J3.refl _ _).drew⟩).t h2).t (Kept.of_below (A9f (A9f HB.size ae.1.size) h2.1.size) r)
   have gU:Hid (∀g,J (pre++ys++[x]) g->Kept w.heap.size C W g->CallsIn Fence.wide (m - 1) prog 119 #[.slice G y.kids.length H, .pointer (some ⟨Y,0,none⟩), .pointer (some ⟨B,0,none⟩), .pointer (some ⟨K,0,none⟩)] g λe d=>
     (e=.returned (.bool true)/\∃zs:List (Sm w P),zs.map Sm.net=Ef y.kids/\J (pre++ys++[x]++zs) d/\Kept w.heap.size C g d)\/
     (e=.returned (.bool false)/\∃zs:List (Sm w P),zs.map Sm.net<+:Ef y.kids/\O (pre++ys++[x]++zs) d)):=by
    intro g aj D;have ai:=HB.trans D.1;refine IH y (by rw[T.out];exact A9a q) (m - 1) _ _ g (Qb.of_at jQ ai hC) (cO g D.2) aj ai (A9f hM D.2.size) ?_;have h1:=HN.out;have h2:ys.length=(Ef (es.take j)).length:=by rw[<-Q,A9j]
    have r:=(Yz es (j+1)).length_le;rw[Ti es j q,<-T.out] at r;simp only[A83,A84,A85] at r ⊢;omega
   have iP:Hid (∀zs:List (Sm w P),zs.map Sm.net=Ef y.kids->(ys++[x]++zs).map Sm.net=Ef (es.take (j+1))):=by
    intro zs hzs;rw[Ti es j q,A9h,A9h,Q,hzs,<-T.out];simp[sF.out]
   have jM:Hid (∀zs:List (Sm w P),zs.map Sm.net<+:Ef y.kids->(ys++[x]++zs).map Sm.net<+:Ef es):=by
    intro zs hzs;refine List.IsPrefix.trans ?_ (Yz es (j+1));rw[Ti es j q,A9h,A9h,Q,<-T.out];obtain⟨t,ht⟩:=hzs;exact⟨t,by simp[sF.out,<-ht]⟩
   have mV:Hid ((ys++[x]).map Sm.net<+:Ef es):=by
    show _<+:_
    have:=jM.out [] spz
    simpa using this
   refine wpIn_region_any krz ?_;try (change wpAnyIn _ _ _ _ _ _ _ _ _ (World.drew _))
   apply share
   ·exact zE
   ·refine wpAnyIn_ready (rs:=[2]) krz spz ?_
    refine AllReadyIn.cons rfl (λKK aA=>?_) AllReadyIn.nil;go_simp;refine⟨λh=>yBb,?_⟩;refine hR.mono ?_;rintro e f (⟨rfl,E,D⟩ | ⟨rfl,hx3⟩)
    ·refine aA _ _ ?_
     clear aA KK;obtain⟨U,f2,g0,g1,g2,g3⟩:=an _ _ ⟨rfl,E,D⟩;apply share
     ·intro key1
      apply share
      ·exact zc
      ·refine wpAnyIn_ready (rs:=[5,8]) krz spz ?_
       refine AllReadyIn.cons rfl (λKK aA=>?_) ?_
       ·go_simp
        refine aA _ _ ?_;clear aA KK;exact key1
       refine AllReadyIn.cons rfl (λKK aA=>?_) ?_
       ·go_simp
        refine⟨trivial,λh=>yBb,?_⟩;refine(callsIn_wide.2 (Alz _ _ _ _ _ _ _ _ _ rfl _)).mono ?_;rintro e g ⟨rfl,u⟩;refine aA _ _ ?_;clear aA KK;have h1:=(u.cell (p:=⟨B,0,none⟩) (Bo U)).trans U;have E:=sQ _ _ _ E u;have hkW:=yH _ _ D u;refine wpAnyIn_ready (rs:=[5]) krz spz ?_;refine AllReadyIn.cons rfl (λKK aA=>?_) AllReadyIn.nil;go_simp;refine aA _ _ ?_;clear aA KK;refine wpAnyIn_ready (rs:=[9]) krz spz ?_;refine AllReadyIn.cons rfl (λKK aA=>?_) AllReadyIn.nil;go_simp;refine⟨trivial,λh=>yBb,?_⟩;refine(gU _ E hkW).mono ?_;rintro e W4 (⟨rfl,zs,hzs,rY,hk4⟩ | ⟨rfl,zs,hzs,hx4⟩)
        ·exact zd
        ·exact ze
       exact AllReadyIn.nil
     ·refine wpAnyIn_ready (rs:=[8]) krz spz ?_
      refine AllReadyIn.cons rfl (λKK aA=>?_) AllReadyIn.nil;go_simp;refine⟨trivial,λh=>yBb,?_⟩;refine(callsIn_wide.2 (Alz _ _ _ _ _ _ _ _ _ rfl _)).mono ?_;rintro e g ⟨rfl,u⟩;refine aA _ _ ?_;clear aA KK;have h1:=(u.cell (p:=⟨B,0,none⟩) (Bo U)).trans U;have E:=sQ _ _ _ E u;have hkW:=yH _ _ D u;refine wpAnyIn_ready (rs:=[9]) krz spz ?_;refine AllReadyIn.cons rfl (λKK aA=>?_) AllReadyIn.nil;go_simp;refine⟨trivial,λh=>yBb,?_⟩;refine(gU _ E hkW).mono ?_;rintro e W4 (⟨rfl,zs,hzs,rY,hk4⟩ | ⟨rfl,zs,hzs,hx4⟩)
      ·exact zd
      ·exact ze
    ·exact zj
  ·gi_wp2
   go_ret;refine .inl ⟨rfl,ys,?_,aa,A⟩;rw[Q,A9y omz]
end Go.Proofs.YtobbpffcggchmaaGreatDoor
namespace Go.Proofs.YtobbpffcggchmaaGreatDoor
open Tryz
open Stil
open Go.RowKit Go.Sort Go.BigFrame Go.Shelf
attribute [local go_sem] Oper.semAt_some
theorem Aj8.keep {l Y B K:Nat}{C:Nat->Prop}{W b:World}(h:Aj8 l Y B K W)(e:¬C Y)(d:¬C B)(c:¬C K)(a:J3 C W b):Aj8 l Y B K b:=⟨a.cell e h.1,a.cell d h.2.1,a.cell c h.2.2⟩
theorem Ahm (w:World)(P:Stil.Arm->Prop)(C:Nat->Prop)(hC:∀k,C k->w.heap.size<=k)(ac l Y B K N:Nat)(ak:∀k,C k->k<ac)(oG:¬C Y)(kH:¬C B)(jI:¬C K)(J O:List (Qy w P)->World->Prop)
  (hJ:∀s W d,J s W->Below W.heap.size W d->J s d)
  (hY:∀m pre (x:Qy w P) W,J pre W->pre.length<N->YieldAt Fence.wide m prog l #[.agg #[.int .i64 x.arm.net.kind, .int .i64 x.arm.net.one.op,x.av,x.nv,x.cv,x.kv]] W λe d=>
   (e=.returned (.bool true)/\J (pre++[x]) d/\Kept w.heap.size C W d)\/(e=.returned (.bool false)/\O (pre++[x]) d))
  (es:List Stil.Arm) (hl:es.length<=1048576) (hf:∀x∈es,P x) (ih:∀x∈es,Adi w P C ac l Y B K N J O x.kids):Adi w P C ac l Y B K N J O es:=by
 intro m v pre W hs ag hj hb hM hN;have HS:=hid (λd (h:J3 C W d)=>hs.keep h);have cO:=hid (λd (h:J3 C W d)=>ag.keep oG kH jI h);have qj:=hid hY;have sQ:=hid hJ;have IH:=hid ih;have HN:=hid hN;have HB:=hid hb;obtain⟨a,cap,rfl,_⟩:=hs;clear hJ hY ih hN hb ag;refine callsIn_of_wp func106 rfl trivial ?_ rfl;simp only[ntmps106,A86,A84,A85,Nat.reduceAdd,Nat.reduceSub,A9w,A9x,A92,A9z,A9u,A9t]
 gi_wp2
 gi_loopw [10] (λi wr=>∃(j:Nat) (ys:List (Qy w P)),j<=es.length/\i=.int .i64 j/\ys.map Qy.arm=Dz (es.take j)/\J (pre++ys) wr/\Kept w.heap.size C W wr) (λi _=>es.length - (intOf i).toNat)
 case atStart=>exact⟨0,[],omz,rfl,by simp[Dz],by simpa using hj,Kept.refl _ _ _⟩
 case round=>
  obtain⟨j,ys,ay,rfl,Q,aa,E⟩:=hrel;by_cases q:j<es.length
  ·obtain⟨a',ax,hv,ao⟩:=HS wr E.2
   obtain⟨b,o,rfl,aw,av,nv,cv,kv,x0,x1,x2,x3,x4,x5,V,S,T,L⟩:=ao j q;simp only[Value.slice.injEq,true_and] at hv;obtain⟨rfl,rfl⟩:=hv;obtain⟨b0,b1,b2⟩:=cO wr E.2;have ap:(pre++ys).length<N:=by
    have h1:=HN.out;have h2:ys.length=(Dz (es.take j)).length:=by rw[<-Q,A9j]
    have A:=(Zb es (j+1)).length_le;rw[Tt es j q] at A;simp only[A83,A84] at A ⊢;omega
   obtain⟨p0,r0,e0,_⟩:=id V;obtain⟨U,X,e2,_⟩:=id S;obtain⟨p3,r3,e3,_⟩:=id T;obtain⟨H,I,R,_⟩:=id L;have ah:∀x:Qy w P,x=⟨es[j],av,nv,cv,kv,V,S,T,L,hf _ (A9a q)⟩->∀c,J (pre++ys) c->YieldAt Fence.wide (m - 1) prog l #[.agg #[.int .i64 es[j].net.kind, .int .i64 es[j].net.one.op, .slice p0 es[j].net.one.args.length r0, .slice U es[j].net.kids.length X, .slice p3 es[j].coils.length r3, .slice H es[j].kids.length I]] c λe d=>
     (e=.returned (.bool true)/\J (pre++ys++[x]) d/\Kept w.heap.size C c d)\/(e=.returned (.bool false)/\O (pre++ys++[x]) d):=by
    intro x M c al;have:=qj (m - 1) (pre++ys) x c al ap
    rw[M] at this ⊢;simp only[e0,R,e2,e3] at this ⊢;exact this
   obtain⟨x,M⟩:∃x:Qy w P,x=⟨es[j],av,nv,cv,kv,V,S,T,L,hf _ (A9a q)⟩:=⟨_,rfl⟩
   have HV:=hid (ah x M);have sF:Hid (x.arm=es[j]):=by show _=_;rw[M]
   have jQ:=hid L;clear ah M;obtain⟨y,hy⟩:∃y,y=es[j]:=⟨_,rfl⟩
   rw[<-hy] at x0 x1 HV sF jQ e0 R e2 e3;have Z:=hid hy;rw[e0] at x2;rw[e2] at x3;rw[e3] at x4;rw[R] at x5 jQ;clear V S T L e0 R e2 e3 hy;have u:¬C wr.heap.size:=λh=>by have:=ak _ h;have:=E.2.size;omega
   have wU:=Bo b0;have rZ:=Bo b1;have oJ:=Bo b2
   gi_wp2
   obtain⟨c,n⟩:∃c,c=wr.alloc (.cells #[.int .i64 y.net.kind, .int .i64 y.net.one.op, .slice p0 y.net.one.args.length r0, .slice U y.net.kids.length X, .slice p3 y.coils.length r3, .slice H y.kids.length I] 38):=⟨_,rfl⟩
   rw[<-n];have c0:c.cell? ⟨Y,0,none⟩=some (.func (.yield l) #[] #[]):=by rw[n];simp[go_sem,b0,wU]
   have c1:c.cell? ⟨B,0,none⟩=some (.func (.func 106) #[] #[.pointer (some ⟨Y,0,none⟩), .pointer (some ⟨B,0,none⟩), .pointer (some ⟨K,0,none⟩)]):=by rw[n];simp[go_sem,b1,rZ]
   have c2:c.cell? ⟨K,0,none⟩=some (.func (.func 90) #[] #[]):=by rw[n];simp[go_sem,b2,oJ]
   obtain⟨z,r⟩:∃z,z=wr.heap.size:=⟨_,rfl⟩
   rw[<-r] at u ⊢;have d0:c.cell? ⟨z,0,none⟩=some (.int .i64 y.net.kind):=by rw[n,r];simp[go_sem]
   have d1:c.cell? ⟨z,1,none⟩=some (.int .i64 y.net.one.op):=by rw[n,r];simp[go_sem]
   have d2:c.cell? ⟨z,2,none⟩=some (.slice p0 y.net.one.args.length r0):=by rw[n,r];simp[go_sem]
   have d3:c.cell? ⟨z,3,none⟩=some (.slice U y.net.kids.length X):=by rw[n,r];simp[go_sem]
   have d4:c.cell? ⟨z,4,none⟩=some (.slice p3 y.coils.length r3):=by rw[n,r];simp[go_sem]
   have d5:c.cell? ⟨z,5,none⟩=some (.slice H y.kids.length I):=by rw[n,r];simp[go_sem]
   have ab:Below wr.heap.size wr c:=by rw[n];exact Aa _ _
   have ae:=E.t (Kept.of_below (A9f HB.size E.1.size) ab);have af:=sQ _ _ _ aa ab.drew;clear n ab b0 b1 b2 x0 x1 x2 x3 x4 x5 wU rZ oJ aa E r;obtain⟨fn,ar,assign,body,au,hR⟩:=HV c.drew af;clear HV af
   have an:Hid (∀(e:Ending) (f:World),(e=.returned (.bool true)/\J (pre++ys++[x]) f/\Kept w.heap.size C c.drew f)->f.cell? ⟨B,0,none⟩=some (.func (.func 106) #[] #[.pointer (some ⟨Y,0,none⟩), .pointer (some ⟨B,0,none⟩), .pointer (some ⟨K,0,none⟩)])/\f.cell? ⟨K,0,none⟩=some (.func (.func 90) #[] #[])/\
     f.cell? ⟨z,0,none⟩=some (.int .i64 y.net.kind)/\f.cell? ⟨z,1,none⟩=some (.int .i64 y.net.one.op)/\f.cell? ⟨z,2,none⟩=some (.slice p0 y.net.one.args.length r0)/\f.cell? ⟨z,3,none⟩=some (.slice U y.net.kids.length X)/\f.cell? ⟨z,4,none⟩=some (.slice p3 y.coils.length r3)/\f.cell? ⟨z,5,none⟩=some (.slice H y.kids.length I)):=
    λe f h=>⟨h.2.2.2.cell kH c1,h.2.2.2.cell jI c2,h.2.2.2.cell u d0,h.2.2.2.cell u d1,h.2.2.2.cell u d2,h.2.2.2.cell u d3,h.2.2.2.cell u d4,h.2.2.2.cell u d5⟩
   have yH:Hid (∀f g,Kept w.heap.size C c.drew f->Below f.heap.size f g->Kept w.heap.size C W g):=λf g h2 A=>
    ((ae.t ⟨(Below.refl _ _).drew,(J3.refl _ _).drew⟩).t h2).t (Kept.of_below (A9f (A9f HB.size ae.1.size) h2.1.size) A)
   have gU:Hid (∀g,J (pre++ys++[x]) g->Kept w.heap.size C W g->CallsIn Fence.wide (m - 1) prog 106 #[.slice H y.kids.length I, .pointer (some ⟨Y,0,none⟩), .pointer (some ⟨B,0,none⟩), .pointer (some ⟨K,0,none⟩)] g λe d=>
     (e=.returned (.bool true)/\∃zs:List (Qy w P),zs.map Qy.arm=Dz y.kids/\J (pre++ys++[x]++zs) d/\Kept w.heap.size C g d)\/
     (e=.returned (.bool false)/\∃zs:List (Qy w P),zs.map Qy.arm<+:Dz y.kids/\O (pre++ys++[x]++zs) d)):=by
    intro g aj F;have ai:=HB.trans F.1;refine IH y (by rw[Z.out];exact A9a q) (m - 1) _ _ g (O0.of_at jQ ai hC) (cO g F.2) aj ai (A9f hM F.2.size) ?_;have h1:=HN.out;have h2:ys.length=(Dz (es.take j)).length:=by rw[<-Q,A9j]
    have A:=(Zb es (j+1)).length_le;rw[Tt es j q,<-Z.out] at A;simp only[A83,A84,A85] at A ⊢;omega
   have iP:Hid (∀zs:List (Qy w P),zs.map Qy.arm=Dz y.kids->(ys++[x]++zs).map Qy.arm=Dz (es.take (j+1))):=by
    intro zs hzs;rw[Tt es j q,A9h,A9h,Q,hzs,<-Z.out];simp[sF.out]
   have jM:Hid (∀zs:List (Qy w P),zs.map Qy.arm<+:Dz y.kids->(ys++[x]++zs).map Qy.arm<+:Dz es):=by
    intro zs hzs;refine List.IsPrefix.trans ?_ (Zb es (j+1));rw[Tt es j q,A9h,A9h,Q,<-Z.out];obtain⟨t,ht⟩:=hzs;exact⟨t,by simp[sF.out,<-ht]⟩
   have mV:Hid ((ys++[x]).map Qy.arm<+:Dz es):=by
    show _<+:_
    have:=jM.out [] spz
    simpa using this
   refine wpIn_region_any krz ?_;try (change wpAnyIn _ _ _ _ _ _ _ _ _ (World.drew _))
   apply share
   ·exact zE
   ·refine wpAnyIn_ready (rs:=[2]) krz spz ?_
    refine AllReadyIn.cons rfl (λKK aA=>?_) AllReadyIn.nil;go_simp;refine⟨λh=>yBb,?_⟩;refine hR.mono ?_;rintro e f (⟨rfl,G,F⟩ | ⟨rfl,hx3⟩)
    ·refine aA _ _ ?_
     clear aA KK;obtain⟨f1,f2,g0,g1,g2,g3,g4,g5⟩:=an _ _ ⟨rfl,G,F⟩;apply share
     ·intro key1
      apply share
      ·exact zc
      ·refine wpAnyIn_ready (rs:=[5,8]) krz spz ?_
       refine AllReadyIn.cons rfl (λKK aA=>?_) ?_
       ·go_simp
        refine aA _ _ ?_;clear aA KK;exact key1
       refine AllReadyIn.cons rfl (λKK aA=>?_) ?_
       ·go_simp
        refine⟨trivial,λh=>yBb,?_⟩;refine(callsIn_wide.2 (Al2 _ _ _ _ _ _ _ _ _ _ _ _ _ _ _)).mono ?_;rintro e g ⟨rfl,D⟩;refine aA _ _ ?_;clear aA KK;have h1:=(D.cell (p:=⟨B,0,none⟩) (Bo f1)).trans f1;have G:=sQ _ _ _ G D;have hkW:=yH _ _ F D;refine wpAnyIn_ready (rs:=[5]) krz spz ?_;refine AllReadyIn.cons rfl (λKK aA=>?_) AllReadyIn.nil;go_simp;refine aA _ _ ?_;clear aA KK;refine wpAnyIn_ready (rs:=[9]) krz spz ?_;refine AllReadyIn.cons rfl (λKK aA=>?_) AllReadyIn.nil;go_simp;refine⟨trivial,λh=>yBb,?_⟩;refine(gU _ G hkW).mono ?_;rintro e W4 (⟨rfl,zs,hzs,rY,hk4⟩ | ⟨rfl,zs,hzs,hx4⟩)
        ·exact zd
        ·exact ze
       exact AllReadyIn.nil
     ·refine wpAnyIn_ready (rs:=[8]) krz spz ?_
      refine AllReadyIn.cons rfl (λKK aA=>?_) AllReadyIn.nil;go_simp;refine⟨trivial,λh=>yBb,?_⟩;refine(callsIn_wide.2 (Al2 _ _ _ _ _ _ _ _ _ _ _ _ _ _ _)).mono ?_;rintro e g ⟨rfl,D⟩;refine aA _ _ ?_;clear aA KK;have h1:=(D.cell (p:=⟨B,0,none⟩) (Bo f1)).trans f1;have G:=sQ _ _ _ G D;have hkW:=yH _ _ F D;refine wpAnyIn_ready (rs:=[9]) krz spz ?_;refine AllReadyIn.cons rfl (λKK aA=>?_) AllReadyIn.nil;go_simp;refine⟨trivial,λh=>yBb,?_⟩;refine(gU _ G hkW).mono ?_;rintro e W4 (⟨rfl,zs,hzs,rY,hk4⟩ | ⟨rfl,zs,hzs,hx4⟩)
      ·exact zd
      ·exact ze
    ·exact zj
  ·gi_wp2
   go_ret;refine .inl ⟨rfl,ys,?_,aa,E⟩;rw[Q,A9y omz]
end Go.Proofs.YtobbpffcggchmaaGreatDoor
namespace Go.Proofs.YtobbpffcggchmaaGreatDoor
open Tryz
open Stil
open Go.RowKit Go.Sort Go.BigFrame Go.Shelf
theorem Ai4 (w:World)(P:Stil.Net->Prop)(z:∀x,P x->x.kids.length<=1048576/\∀y∈x.kids,P y)(C:Nat->Prop)(u:∀k,C k->w.heap.size<=k)(M l Y B K N:Nat)(q:∀k,C k->k<M)(t:¬C Y)(i:¬C B)(j:¬C K)(J d:List (Sm w P)->World->Prop)
  (r:∀s W c,J s W->Below W.heap.size W c->J s c)
  (o:∀m pre (x:Sm w P) W,J pre W->pre.length<N->YieldAt Fence.wide m prog l #[.agg #[.int .i64 x.net.kind, .int .i64 x.net.one.op,x.av,x.kv]] W λe c=>(e=.returned (.bool true)/\J (pre++[x]) c/\Kept w.heap.size C W c)\/(e=.returned (.bool false)/\d (pre++[x]) c))
  (es:List Stil.Net) (hl:es.length<=1048576) (p:∀x∈es,P x):Adh w P C M l Y B K N J d es:=by
 refine Ahl w P C u M l Y B K N q t i j J d r o es hl p (λx v=>?_);have key:∀n:Stil.Net,P n->Adh w P C M l Y B K N J d n.kids:=by
  intro n;induction n using Et with
  | h a b kids D=>
   intro A;have f:=z _ A;exact Ahl w P C u M l Y B K N q t i j J d r o kids f.1 f.2 (λy g=>D y g (f.2 y g))
 exact key x (p x v)
theorem Alt (w:World)(P:Stil.Net->Prop)(hP:∀x,P x->x.kids.length<=1048576/\∀ab∈x.kids,P ab)(C:Nat->Prop)(O:∀k,C k->w.heap.size<=k)(M A K:Nat)(o:∀k,C k->k<M)(Z:¬C K)(_hAC:¬C A)(es:List Stil.Net)(hl:es.length<=1048576)(L:∀x∈es,P x)(v:Value)(w0:World)
  (t:Below w.heap.size w w0) (Q:M<=w0.heap.size) (g:Qb w C w0 v es) (D:w0.cell? ⟨A,0,none⟩=some v) (N:w0.cell? ⟨K,0,none⟩=some (.func (.func 104) #[] #[])) (n:Nat):
  SeqStopsK Fence.wide n prog 118 #[.pointer (some ⟨K,0,none⟩), .pointer (some ⟨A,0,none⟩)] (λx:Sm w P=>#[Value.agg #[.int .i64 x.net.kind, .int .i64 x.net.one.op,x.av,x.kv]]) (Kept w.heap.size C) (λb=>b.map Sm.net=Ef es) (λpre=>pre.map Sm.net<+:Ef es) (Ef es).length w0:=by
 intro l J E W d G _ H U;have aj:∀(f:Fn) (first cap:Array Value) (w:World),(Instr.makeFunc f first cap).run prog w=.ok (.func f first cap) w:=λ_ _ _ _=>rfl
 have al:∀(f:Fn) (r q:Array Value) (P:Program) (w:World) (a:Addr) (m:Mode),(store a (.func f r q) m).run P w=stored P w a (.func f r q) m:=λf r q P w a m=>run_store P w a _ m rfl
 have aa:=(d.cell (p:=⟨A,0,none⟩) (Bo D)).trans D;have z:=(d.cell (p:=⟨K,0,none⟩) (Bo N)).trans N;have ah:=Bo aa;have oJ:=Bo z;have ak:=d.size
 have V:Hid (∀c,Below W.heap.size W c->c.cell? ⟨W.heap.size,0,none⟩=some (.func (.yield l) #[] #[])->c.cell? ⟨W.heap.size+1,0,none⟩=some (.func (.func 119) #[] #[.pointer (some ⟨W.heap.size,0,none⟩), .pointer (some ⟨W.heap.size+1,0,none⟩), .pointer (some ⟨K,0,none⟩)])->
   CallsIn Fence.wide (n - 1) prog 119 #[v, .pointer (some ⟨W.heap.size,0,none⟩), .pointer (some ⟨W.heap.size+1,0,none⟩), .pointer (some ⟨K,0,none⟩)] c λe y=>
    (e=.returned (.bool true)/\∃b:List (Sm w P),b.map Sm.net=Ef es/\J ([]++b) y/\Kept w.heap.size C c y)\/
    (e=.returned (.bool false)/\∃b:List (Sm w P),b.map Sm.net<+:Ef es/\E ([]++b) y)):=by
  intro c j T ae;have I:∀(s:List (Sm w P)) (X Y:World),J s X->Below X.heap.size X Y->J s Y:=λs X Y g i=>G s X Y none g ⟨i.os,i.tape,i.output,i.size,λk hk _=>i.block k hk⟩ (λai e=>by cases e)
  have af:=(t.trans (d.mono t.size)).trans (j.mono (A9f t.size d.size));refine Ai4 w P hP C O M l W.heap.size (W.heap.size+1) K (Ef es).length o (λh=>by have:=o _ h;omega) (λh=>by have:=o _ h;omega) Z J E I (λm pre x X R S=>YieldAt.anyDepth rfl m (H pre x X R S)) es hl L (n - 1) v [] c (g.keep ((J3.of_below d).call j)) ⟨T,ae,(j.cell (p:=⟨K,0,none⟩) oJ).trans z⟩ (I _ _ _ U j) af (A9f Q (A9f d.size j.size)) spz
 obtain⟨F,sl,B,rfl⟩:∃F sl B,v=.slice F sl B:=by obtain⟨a,cap,hv,_⟩:=g;exact⟨_,_,_,hv⟩
 clear H G g hl L O o;refine callsIn_of_wp func118 rfl trivial ?_ rfl;simp only[ntmps118,A86,A84,A85,Nat.reduceAdd,Nat.reduceSub,A9w,A9x,A92,A9z,A9u,A9t]
 gi_wp2_with (refine⟨trivial,λh=>yBb,?_⟩;refine(V _ blA (by simp[go_sem]) (by simp[go_sem])).mono ?_;rintro e W3 (⟨rfl,b,u,ag,_⟩ | ⟨rfl,b,u,ac⟩))
 ·go_end0
  exact⟨⟨_,rfl⟩, .inl ⟨b,u,by simpa using ag⟩⟩
 ·go_end0
  exact⟨⟨_,rfl⟩, .inr ⟨b,u,by simpa using ac⟩⟩
theorem Aox (a:Option Addr)(g cap:Nat)(w:World):Calls prog 103 #[.slice a g cap, .func (.func 104) #[] #[]] w λe c=>e=.returned (.func (.func 118) #[] #[.pointer (some ⟨w.heap.size+1,0,none⟩), .pointer (some ⟨w.heap.size,0,none⟩)])/\
  c.cell? ⟨w.heap.size,0,none⟩=some (.slice a g cap)/\c.cell? ⟨w.heap.size+1,0,none⟩=some (.func (.func 104) #[] #[])/\Below w.heap.size w c:=by
 have j:∀(b:Fn) (first cap:Array Value) (w:World),(Instr.makeFunc b first cap).run prog w=.ok (.func b first cap) w:=λ_ _ _ _=>rfl
 have i:∀(b:Fn) (d f:Array Value) (P:Program) (w:World) (a:Addr) (m:Mode),(store a (.func b d f) m).run P w=stored P w a (.func b d f) m:=λb d f P w a m=>run_store P w a _ m rfl
 go_enter func103,ntmps103
 go_wp2
 go_ret;exact⟨rfl,by simp[go_sem],by simp[go_sem],blA⟩
theorem Ai5 (w:World)(P:Stil.Arm->Prop)(z:∀x,P x->x.kids.length<=1048576/\∀y∈x.kids,P y)(C:Nat->Prop)(u:∀k,C k->w.heap.size<=k)(M l Y B K N:Nat)(q:∀k,C k->k<M)(t:¬C Y)(i:¬C B)(j:¬C K)(J d:List (Qy w P)->World->Prop)
  (r:∀s W c,J s W->Below W.heap.size W c->J s c)
  (o:∀m pre (x:Qy w P) W,J pre W->pre.length<N->YieldAt Fence.wide m prog l #[.agg #[.int .i64 x.arm.net.kind, .int .i64 x.arm.net.one.op,x.av,x.nv,x.cv,x.kv]] W λe c=>(e=.returned (.bool true)/\J (pre++[x]) c/\Kept w.heap.size C W c)\/(e=.returned (.bool false)/\d (pre++[x]) c))
  (es:List Stil.Arm) (hl:es.length<=1048576) (p:∀x∈es,P x):Adi w P C M l Y B K N J d es:=by
 refine Ahm w P C u M l Y B K N q t i j J d r o es hl p (λx v=>?_);have key:∀n:Stil.Arm,P n->Adi w P C M l Y B K N J d n.kids:=by
  intro n;induction n using I9 with
  | h a b kids D=>
   intro A;have f:=z _ A;exact Ahm w P C u M l Y B K N q t i j J d r o kids f.1 f.2 (λy g=>D y g (f.2 y g))
 exact key x (p x v)
theorem Alu (w:World)(P:Stil.Arm->Prop)(hP:∀x,P x->x.kids.length<=1048576/\∀ab∈x.kids,P ab)(C:Nat->Prop)(O:∀k,C k->w.heap.size<=k)(M A K:Nat)(o:∀k,C k->k<M)(Z:¬C K)(_hAC:¬C A)(es:List Stil.Arm)(hl:es.length<=1048576)(L:∀x∈es,P x)(v:Value)(w0:World)
  (t:Below w.heap.size w w0) (Q:M<=w0.heap.size) (g:O0 w C w0 v es) (D:w0.cell? ⟨A,0,none⟩=some v) (N:w0.cell? ⟨K,0,none⟩=some (.func (.func 90) #[] #[])) (n:Nat):
  SeqStopsK Fence.wide n prog 105 #[.pointer (some ⟨K,0,none⟩), .pointer (some ⟨A,0,none⟩)] (λx:Qy w P=>#[Value.agg #[.int .i64 x.arm.net.kind, .int .i64 x.arm.net.one.op,x.av,x.nv,x.cv,x.kv]]) (Kept w.heap.size C) (λb=>b.map Qy.arm=Dz es) (λpre=>pre.map Qy.arm<+:Dz es) (Dz es).length w0:=by
 intro l J E W d G _ H U;have aj:∀(f:Fn) (first cap:Array Value) (w:World),(Instr.makeFunc f first cap).run prog w=.ok (.func f first cap) w:=λ_ _ _ _=>rfl
 have al:∀(f:Fn) (r q:Array Value) (P:Program) (w:World) (a:Addr) (m:Mode),(store a (.func f r q) m).run P w=stored P w a (.func f r q) m:=λf r q P w a m=>run_store P w a _ m rfl
 have aa:=(d.cell (p:=⟨A,0,none⟩) (Bo D)).trans D;have z:=(d.cell (p:=⟨K,0,none⟩) (Bo N)).trans N;have ah:=Bo aa;have oJ:=Bo z;have ak:=d.size
 have V:Hid (∀c,Below W.heap.size W c->c.cell? ⟨W.heap.size,0,none⟩=some (.func (.yield l) #[] #[])->c.cell? ⟨W.heap.size+1,0,none⟩=some (.func (.func 106) #[] #[.pointer (some ⟨W.heap.size,0,none⟩), .pointer (some ⟨W.heap.size+1,0,none⟩), .pointer (some ⟨K,0,none⟩)])->
   CallsIn Fence.wide (n - 1) prog 106 #[v, .pointer (some ⟨W.heap.size,0,none⟩), .pointer (some ⟨W.heap.size+1,0,none⟩), .pointer (some ⟨K,0,none⟩)] c λe y=>
    (e=.returned (.bool true)/\∃b:List (Qy w P),b.map Qy.arm=Dz es/\J ([]++b) y/\Kept w.heap.size C c y)\/
    (e=.returned (.bool false)/\∃b:List (Qy w P),b.map Qy.arm<+:Dz es/\E ([]++b) y)):=by
  intro c j T ae;have I:∀(s:List (Qy w P)) (X Y:World),J s X->Below X.heap.size X Y->J s Y:=λs X Y g i=>G s X Y none g ⟨i.os,i.tape,i.output,i.size,λk hk _=>i.block k hk⟩ (λai e=>by cases e)
  have af:=(t.trans (d.mono t.size)).trans (j.mono (A9f t.size d.size));refine Ai5 w P hP C O M l W.heap.size (W.heap.size+1) K (Dz es).length o (λh=>by have:=o _ h;omega) (λh=>by have:=o _ h;omega) Z J E I (λm pre x X R S=>YieldAt.anyDepth rfl m (H pre x X R S)) es hl L (n - 1) v [] c (g.keep ((J3.of_below d).call j)) ⟨T,ae,(j.cell (p:=⟨K,0,none⟩) oJ).trans z⟩ (I _ _ _ U j) af (A9f Q (A9f d.size j.size)) spz
 obtain⟨F,sl,B,rfl⟩:∃F sl B,v=.slice F sl B:=by obtain⟨a,cap,hv,_⟩:=g;exact⟨_,_,_,hv⟩
 clear H G g hl L O o;refine callsIn_of_wp func105 rfl trivial ?_ rfl;simp only[ntmps105,A86,A84,A85,Nat.reduceAdd,Nat.reduceSub,A9w,A9x,A92,A9z,A9u,A9t]
 gi_wp2_with (refine⟨trivial,λh=>yBb,?_⟩;refine(V _ blA (by simp[go_sem]) (by simp[go_sem])).mono ?_;rintro e W3 (⟨rfl,b,u,ag,_⟩ | ⟨rfl,b,u,ac⟩))
 ·go_end0
  exact⟨⟨_,rfl⟩, .inl ⟨b,u,by simpa using ag⟩⟩
 ·go_end0
  exact⟨⟨_,rfl⟩, .inr ⟨b,u,by simpa using ac⟩⟩
theorem Aoy (a:Option Addr)(g cap:Nat)(w:World):Calls prog 89 #[.slice a g cap, .func (.func 90) #[] #[]] w λe c=>e=.returned (.func (.func 105) #[] #[.pointer (some ⟨w.heap.size+1,0,none⟩), .pointer (some ⟨w.heap.size,0,none⟩)])/\
  c.cell? ⟨w.heap.size,0,none⟩=some (.slice a g cap)/\c.cell? ⟨w.heap.size+1,0,none⟩=some (.func (.func 90) #[] #[])/\Below w.heap.size w c:=by
 have j:∀(b:Fn) (first cap:Array Value) (w:World),(Instr.makeFunc b first cap).run prog w=.ok (.func b first cap) w:=λ_ _ _ _=>rfl
 have i:∀(b:Fn) (d f:Array Value) (P:Program) (w:World) (a:Addr) (m:Mode),(store a (.func b d f) m).run P w=stored P w a (.func b d f) m:=λb d f P w a m=>run_store P w a _ m rfl
 go_enter func89,ntmps89
 go_wp2
 go_ret;exact⟨rfl,by simp[go_sem],by simp[go_sem],blA⟩
end Go.Proofs.YtobbpffcggchmaaGreatDoor
namespace Go.Proofs.YtobbpffcggchmaaGreatDoor
open Tryz
open Stil
open Go.RowKit Go.Sort Go.BigFrame Go.Shelf
attribute [local go_sem] Oper.semAt_some
theorem Ahn (k op:Int)(g p:Option Addr)(f d j cap:Nat)(w:World):
  Calls prog 78 #[.agg #[.int .i64 k, .int .i64 op, .slice g f d, .slice p j cap]] w λe a=>∃b A K,e=.returned (.func (.func 118) #[] #[.pointer (some ⟨K,0,none⟩), .pointer (some ⟨A,0,none⟩)])/\w.heap.size<=b/\w.heap.size<=A/\w.heap.size<=K/\
   a.cell? ⟨A,0,none⟩=some (.slice (some ⟨b,0,none⟩) 1 1)/\a.cell? ⟨K,0,none⟩=some (.func (.func 104) #[] #[])/\
   a.cell? ⟨b,0,none⟩=some (.int .i64 k)/\a.cell? ⟨b,1,none⟩=some (.int .i64 op)/\a.cell? ⟨b,2,none⟩=some (.slice g f d)/\a.cell? ⟨b,3,none⟩=some (.slice p j cap)/\Below w.heap.size w a:=by
 have q:∀(c:Fn) (first cap:Array Value) (w:World),(Instr.makeFunc c first cap).run prog w=.ok (.func c first cap) w:=λ_ _ _ _=>rfl
 go_enter func78,ntmps78
 go_wp2_with (go_at_call 103;refine(Aox _ _ _ _).mono ?_;rintro e o ⟨rfl,l,i,m⟩)
 simp only[World.size_alloc] at l i;go_ret;refine⟨w.heap.size+1,_,_,rfl,omz,omz,omz,l,i,?_,?_,?_,?_,blA⟩;all_goals (rw[m.cell (p:=⟨w.heap.size+1,_,none⟩) spz];simp[go_sem])
theorem Aho (a:Option Addr)(d cap:Nat)(w:World):
  Calls prog 61 #[.slice a d cap] w λe b=>∃A K,e=.returned (.func (.func 105) #[] #[.pointer (some ⟨K,0,none⟩), .pointer (some ⟨A,0,none⟩)])/\w.heap.size<=A/\w.heap.size<=K/\
   b.cell? ⟨A,0,none⟩=some (.slice a d cap)/\b.cell? ⟨K,0,none⟩=some (.func (.func 90) #[] #[])/\Below w.heap.size w b:=by
 have j:∀(c:Fn) (first cap:Array Value) (w:World),(Instr.makeFunc c first cap).run prog w=.ok (.func c first cap) w:=λ_ _ _ _=>rfl
 go_enter func61,ntmps61
 go_wp2_with (go_at_call 89;refine(Aoy _ _ _ _).mono ?_;rintro e i ⟨rfl,g,f,k⟩)
 go_ret;exact⟨_,_,rfl,omz,omz,g,f,blA⟩
theorem Aex (n:Stil.Net)(R P:Value)(d:Int)(w:World)(V:A7 w R n.one.args)(Y:D8 w P n.kids)(X:Cj n)(ao:Aj n<=1000000000)(_hl1:-9223372036854775808<=d)(_hl2:d<=9223372036854775807):
  Calls prog 51 #[.agg #[.int .i64 n.kind, .int .i64 n.one.op,R,P], .int .i64 d] w λe w'=>∃r:Nat,e=.returned (.int .i64 r)/\((Aj n:Int)<=d->r=Aj n)/\(d<Aj n->d<r)/\r<=Aj n/\Below w.heap.size w w':=by
 have u:Hid ((Ef [n]).length=Aj n):=by show _=_;rw[Aen,As0]
 obtain⟨z,hz⟩:∃z,z=Aj n:=⟨_,rfl⟩
 rw[<-hz] at ao u ⊢;clear hz;refine(callsIn_wide (n:=9)).1 ?_;have dN:=hid V;have uG:=hid Y;obtain⟨y,G,rfl,_⟩:=V;obtain⟨B,F,rfl,_⟩:=Y;refine callsIn_of_wp_marks func51 rfl trivial ?_ rfl;simp only[ntmps51,A86,A84,A85,Nat.reduceAdd,Nat.reduceSub,A9w,A9x,A92,A9z,A9u,A9t]
 gi_wp2_with (refine⟨trivial,?_⟩;gi_at_call 78;refine(callsIn_wide.2 (Ahn _ _ _ _ _ _ _ _ _)).mono ?_;rintro e g ⟨b,A,K,rfl,ak,ae,ag,J,j,Z,Q,T,U,hb⟩)
 simp only[World.size_alloc] at ak ae ag;have H:Below w.heap.size w g:=blA;have ap:g.cell? ⟨w.heap.size+1,0,none⟩=some (.int .i64 d):=clA hb;have an:g.cell? ⟨w.heap.size+1+1,0,none⟩=some (.int .i64 0):=clA hb;have ah:g.frozen? ⟨w.heap.size+1+1,0,none⟩=false:=frA hb;have al:w.heap.size+3<=g.heap.size:=by have:=hb.size;simp at this;omega
 have L:Qb w (λk=>k=w.heap.size+1+1) g (.slice (some ⟨b,0,none⟩) 1 1) [n]:=by
  refine⟨_,1,rfl,λi hi=>⟨b,0,rfl,(λh:b=_=>by omega), .slice y n.one.args.length G, .slice B n.kids.length F,?_⟩⟩;obtain rfl:i=0:=by simpa using hi
  simp only[Bbd,A9c,Bab];exact⟨Z,Q,T,U,dN.out,uG.out⟩
 have S:Hid (SeqStopsK Fence.wide (9 - 1) prog 118 #[.pointer (some ⟨K,0,none⟩), .pointer (some ⟨A,0,none⟩)] (λx:Sm w Cj=>#[Value.agg #[.int .i64 x.net.kind, .int .i64 x.net.one.op,x.av,x.kv]]) (Kept w.heap.size (λk=>k=w.heap.size+1+1)) (λE=>E.map Sm.net=Ef [n]) (λpre=>pre.map Sm.net<+:Ef [n]) (Ef [n]).length g):=
  Alt w Cj (λx I=>⟨(Es I).2.2.1,(Es I).2.2.2⟩) (λk=>k=w.heap.size+1+1) (λk (h:k=_)=>by omega) (w.heap.size+3) A K (λk (h:k=_)=>by omega) (λh:K=_=>by omega) (λh:A=_=>by omega) [n] spz (by simpa using X) _ g H al L J j _
 clear L hb Z Q T U J j X;obtain⟨N,O⟩:∃N,N=(Ef [n]).length:=⟨_,rfl⟩
 rw[<-O] at S;have aw:N=z:=by rw[O,u.out]
 refine wpIn_rangeFunc_ownG rfl dcz (gf:=118) (lb:=#[.pointer (some ⟨K,0,none⟩), .pointer (some ⟨A,0,none⟩)]) rfl trivial (enters_of func118 krz rfl)
  S Kept.t (Kept.b omz) (Below.refl _ _) (λ_=>rfl)
  (λpre W=>(W.cell? ⟨w.heap.size+1+1,0,none⟩=some (.int .i64 (pre.length:Int))/\W.frozen? ⟨w.heap.size+1+1,0,none⟩=false/\W.cell? ⟨w.heap.size+1,0,none⟩=some (.int .i64 d))/\Below w.heap.size w W)
  (λc pre W=>(c=.exit 0/\d<pre.length/\W.cell? ⟨w.heap.size+1+1,0,none⟩=some (.int .i64 (pre.length:Int)))/\Below w.heap.size w W)
  (OwnFrom.and (Own.from (λs A ac row f m o=>⟨cell_kept f.1 m o,(frozen_kept f.1 m o).trans f.2.1,cell_kept f.2.2 m o⟩) _) (ownFrom_below (A88 _) omz))
  (λc=>OwnFrom.and (Own.from (λs A ac row f m o=>⟨f.1,f.2.1,cell_kept f.2.2 m o⟩) _) (ownFrom_below (A88 _) omz))
  ⟨⟨by simpa using an,ah,ap⟩,H⟩
  (λx=>{tmps:=#[.agg #[.int .i64 n.kind, .int .i64 n.one.op, .slice y n.one.args.length G, .slice B n.kids.length F], .int .i64 d, .pointer (some ⟨w.heap.size,0,none⟩), .pointer (some ⟨w.heap.size+1,0,none⟩), .int .i64 0, .pointer (some ⟨w.heap.size+1+1,0,none⟩), .agg #[.int .i64 n.kind, .int .i64 n.one.op, .slice y n.one.args.length G, .slice B n.kids.length F], .func (.func 118) #[] #[.pointer (some ⟨K,0,none⟩), .pointer (some ⟨A,0,none⟩)], .agg #[.int .i64 x.net.kind, .int .i64 x.net.one.op,x.av,x.kv],undef,undef,undef,undef,undef,undef],defers:=[]}) ?assign ?body ?done ?stop
 case assign=>
  intro aj x W KK aA
  gi_wp2
  simpa using aA
 case body=>
  rintro aj pre x W ⟨⟨q,aa,af⟩,l⟩ ay;have ar:=Bo q;have hw:IntKind.i64.wrap ((pre.length:Int)+1)=(pre.length:Int)+1:=by rw[IntKind.wrap_i64];omega
  have M:(W.setCell ⟨w.heap.size+1+1,0,none⟩ (.int .i64 ((pre.length:Int)+1))).cell? ⟨w.heap.size+1+1,0,none⟩=some (.int .i64 ((pre++[x]).length:Int)):=by
   rw[Gg q];simp
  by_cases au:d<(pre.length:Int)+1
  ·gi_wp2
   exact⟨(KeepsOthers.setCell _ _ _).from _,⟨rfl,by simp;omega,M⟩,l.setCell (p:=⟨w.heap.size+1+1,0,none⟩) yAb _⟩
  ·gi_wp2
   exact⟨(KeepsOthers.setCell _ _ _).from _,⟨(Below.refl _ W).setCell (p:=⟨w.heap.size+1+1,0,none⟩) yAb _,J3.set (C:=λk=>k=w.heap.size+1+1) (J3.refl _ _) (show _=_ from rfl) _⟩,⟨M,by rw[World.frozen?_setCell];exact aa,by rw[Bz omz];exact af⟩,l.setCell (p:=⟨w.heap.size+1+1,0,none⟩) yAb _⟩
 case done=>
  rintro D E W hD hS ⟨⟨q,_⟩,l⟩ j;have ai:E.length=z:=by have:=congrArg List.length hS;rw[A9j,u.out] at this;exact this
  gi_wp2
  refine⟨spz, .inl ⟨_,_,rfl,run_takeDeferred j,?_⟩⟩;exact⟨_,results_tmp rfl _ _ _,z,rfl,λ_=>rfl,λh=>h,A88 _,l.trans (belowK_b (w:=w) (A88 _) W D _ _ omz j rfl rfl)⟩
 case stop=>
  rintro D c pre W hD ab ⟨⟨rfl,ax,q⟩,l⟩ j;have ai:pre.length<=z:=by have:=ab.length_le;rw[A9j,u.out] at this;exact this
  gi_wp2
  refine⟨spz, .inl ⟨_,_,rfl,run_takeDeferred j,?_⟩⟩;exact⟨_,results_tmp rfl _ _ _,pre.length,rfl,λh=>by omega,λh=>by omega,omz,l.trans (belowK_b (w:=w) (A88 _) W D _ _ omz j rfl rfl)⟩
end Go.Proofs.YtobbpffcggchmaaGreatDoor
namespace Go.Proofs.YtobbpffcggchmaaGreatDoor
open Tryz
open Stil
open Go.RowKit Go.Sort Go.BigFrame Go.Shelf
attribute [local go_sem] Oper.semAt_some
theorem Tm (n:Stil.Net)(l u:Value)(w:World)(A:A7 w l n.one.args)(C:D8 w u n.kids)(d:Cj n):
  Calls prog 62 #[.agg #[.int .i64 n.kind, .int .i64 n.one.op,l,u]] w λe j=>e=.returned (.bool (Bl n))/\Below w.heap.size w j:=by
 obtain⟨_,q,B,_⟩:=Es d;have D:=q.2.1;obtain⟨y,E,rfl,_⟩:=A;obtain⟨G,F,rfl,_⟩:=C;clear d q;have a:Hid (Bl n=((n.kind==0 && (n.one.op==0 && n.one.args.length==0)) && n.kids.length==0)):=by show _=_;unfold Bl;simp only[Bool.and_assoc]
 have b:Hid (∀W,Calls prog 75 #[.agg #[.int .i64 n.one.op, .slice y n.one.args.length E]] W λe j=>e=.returned (.bool (n.one.op==0 && n.one.args.length==0))/\Below W.heap.size W j):=λW=>Y2 _ _ _ _ _ omz
 obtain⟨i,m⟩:∃i,i=(n.one.op==0 && n.one.args.length==0):=⟨_,rfl⟩
 rw[<-m] at a b;obtain⟨f,s⟩:∃f,f=n.kids.length:=⟨_,rfl⟩
 obtain⟨t,x⟩:∃t,t=n.one.args.length:=⟨_,rfl⟩
 rw[<-s] at a B ⊢;rw[<-x] at b D ⊢;obtain⟨k,v⟩:∃k,k=n.kind:=⟨_,rfl⟩
 rw[<-v] at a ⊢;clear m s x v;by_cases o:k=0
 ·subst o
  cases i
  ·go_enter func62,ntmps62
   go_wp2_with (go_at_call 75;refine(b _).mono ?_;rintro e r ⟨rfl,c⟩)
   all_goals go_ret
   all_goals exact⟨Ad (by rw[a.out];simp),blA⟩
  ·by_cases g:f=0
   ·subst g
    go_enter func62,ntmps62
    go_wp2_with (go_at_call 75;refine(b _).mono ?_;rintro e r ⟨rfl,c⟩;obtain⟨z,d⟩:=Eh c)
    all_goals go_ret
    all_goals exact⟨Ad (by rw[a.out];simp),blA⟩
   ·have H:((f:Int)==0)=false:=by rw[A95];omega
    go_enter func62,ntmps62
    go_wp2_with (go_at_call 75;refine(b _).mono ?_;rintro e r ⟨rfl,c⟩;obtain⟨z,d⟩:=Eh c)
    all_goals go_ret
    all_goals exact⟨Ad (by rw[a.out];simp[g]),blA⟩
 ·have g:(k==0)=false:=by rw[A95];exact o
  go_enter func62,ntmps62
  go_wp2
  all_goals go_ret
  all_goals exact⟨Ad (by rw[a.out,g];rfl),blA⟩
end Go.Proofs.YtobbpffcggchmaaGreatDoor
namespace Go.Proofs.YtobbpffcggchmaaGreatDoor
open Tryz
open Stil
open Go.RowKit Go.Sort Go.BigFrame Go.Shelf
attribute [local go_sem] Oper.semAt_some
def A0u (W:World)(B:Nat)(k op:Int)(a n c d:Value):Prop:=W.cell? ⟨B,0,none⟩=some (.int .i64 k)/\W.cell? ⟨B,1,none⟩=some (.int .i64 op)/\W.cell? ⟨B,2,none⟩=some a/\W.cell? ⟨B,3,none⟩=some n/\W.cell? ⟨B,4,none⟩=some c/\W.cell? ⟨B,5,none⟩=some d
theorem Aib {β:Type}(B:Nat)(k op:Int)(a n c d:Value):Own (λ(_:β) W=>A0u W B k op a n c d):=λ_ _ _ _ f b e=>
 ⟨cell_kept f.1 b e,cell_kept f.2.1 b e,cell_kept f.2.2.1 b e,cell_kept f.2.2.2.1 b e,cell_kept f.2.2.2.2.1 b e,cell_kept f.2.2.2.2.2 b e⟩
theorem zt {p:Prop}(h:p:=by
 have hrn:r=ns:=by
  by_cases h:(ns:Int)<=limit - ((S:Int)+(1+cn))
  ·exact hr1 h
  ·have:=hr2 omz
   omega
 gi_wp2
 exact⟨by(repeat (first | with_reducible exact KeepsFrom.refl _ _ | with_reducible refine V4 ?_ _ _ | with_reducible refine Qv ?_ | with_reducible refine Ns ?_ _ | with_reducible refine Qw ?_ yCe)),Alp (b:=w.heap.size+1) (Vj (Aym (Vj (Alp (b:=w.heap.size+1) (Kept.refl w.heap.size (λk=>k=w.heap.size+1) W) yBa rfl _) hn hb2)) hn hb3) yBa rfl _,⟨⟨⟨by rw[Gg c3,dK.out,hoe];simp;omega,by rw[World.frozen?_setCell];exact z3,by rw[Bz yBa];exact l3⟩,blA⟩,by rw[dK.out];omega,by rw[dK.out,tu.out];omega,by have:=hb2.size;have:=hb3.size;simp at*;omega⟩⟩):p:=h
theorem zg0 {p:Prop}(h:p:=by
 gi_wp2
 exact⟨by(repeat (first | with_reducible exact KeepsFrom.refl _ _ | with_reducible refine V4 ?_ _ _ | with_reducible refine Qv ?_ | with_reducible refine Ns ?_ _ | with_reducible refine Qw ?_ yCe)),⟨rfl,S+(1+cn)+r,by omega,by rw[dK.out];omega,by rw[Gg c3];simp⟩,blA⟩):p:=h
theorem Aeu (g:List Stil.Arm)(v:Value)(limit:Int)(w:World)(T:Eb w v g)(hf:∀x∈g,D7 x)(hl:g.length<=1048576)(ah:Ce g<=1000000000)(aG:0<=limit)(aQ:limit<=9223372036854775807):
  Calls prog 27 #[v, .int .i64 limit] w λe w'=>∃r:Nat,e=.returned (.int .i64 r)/\((Ce g:Int)<=limit->r=Ce g)/\(limit<Ce g->limit<r)/\r<=Ce g/\Below w.heap.size w w':=by
 have Q:=hid (Apu g);obtain⟨z,hz⟩:∃z,z=Ce g:=⟨_,rfl⟩
 rw[<-hz] at ah Q ⊢;clear hz;have qG:Hid (∀W,Below w.heap.size w W->O0 w (λk=>k=w.heap.size+1) W v g):=λW h=>O0.of_at T h (λk (h:k=_)=>by omega)
 obtain⟨p0,r0,rfl,_⟩:=T;refine(callsIn_wide (n:=9)).1 ?_;refine callsIn_of_wp_marks func27 rfl trivial ?_ rfl;simp only[ntmps27,A86,A84,A85,Nat.reduceAdd,Nat.reduceSub,A9w,A9x,A92,A9z,A9u,A9t]
 gi_wp2_with (refine⟨trivial,?_⟩;gi_at_call 61;refine(callsIn_wide.2 (Aho _ _ _ _)).mono ?_;rintro e u ⟨A,K,rfl,al,aD,hA,F,hb⟩)
 simp only[World.size_alloc] at al aD;have ab:Below w.heap.size w u:=blA;have ay:u.cell? ⟨w.heap.size,0,none⟩=some (.int .i64 limit):=by rw[hb.cell (p:=⟨w.heap.size,0,none⟩) yAb];simp[go_sem]
 have aI:u.cell? ⟨w.heap.size+1,0,none⟩=some (.int .i64 0):=clA hb;have aE:u.frozen? ⟨w.heap.size+1,0,none⟩=false:=frA hb;have au:w.heap.size+2<=u.heap.size:=by have:=hb.size;simp at this;omega
 have HS:Hid (SeqStopsK Fence.wide (9 - 1) prog 105 #[.pointer (some ⟨K,0,none⟩), .pointer (some ⟨A,0,none⟩)] (λx:Qy w (λa=>a∈Dz g)=>#[Value.agg #[.int .i64 x.arm.net.kind, .int .i64 x.arm.net.one.op,x.av,x.nv,x.cv,x.kv]]) (Kept w.heap.size (λk=>k=w.heap.size+1)) (λys=>ys.map Qy.arm=Dz g) (λpre=>pre.map Qy.arm<+:Dz g) (Dz g).length u):=
  Alu w (λa=>a∈Dz g) (λx E=>⟨(H5 (Acl g hf x E)).2.2.2.1,Am6 g x E⟩) (λk=>k=w.heap.size+1) (λk (h:k=_)=>by omega) (w.heap.size+2) A K (λk (h:k=_)=>by omega) (λh:K=_=>by omega) (λh:A=_=>by omega) g hl (Apv g) _ u ab au (qG u ab) hA F _
 have aw:Hid (∀x∈Dz g,Qr x<=z):=λx E=>by rw[<-Q.out];exact As9 _ E
 have yO:=hid (Acl g hf);have aR:(Dz g).length<=z:=by rw[<-Q.out];exact Ahj Qr (λx=>by unfold Qr;omega) _
 clear hb hA F hf qG;refine wpIn_rangeFunc_ownH rfl dcz (gf:=105) (lb:=#[.pointer (some ⟨K,0,none⟩), .pointer (some ⟨A,0,none⟩)]) rfl trivial (enters_of func105 krz rfl)
  HS Kept.t (Kept.b omz) (Below.refl _ _) (λ_=>rfl)
  (λpre W=>((W.cell? ⟨w.heap.size+1,0,none⟩=some (.int .i64 ((pre.map (Qr ∘ Qy.arm)).sum:Nat))/\W.frozen? ⟨w.heap.size+1,0,none⟩=false/\W.cell? ⟨w.heap.size,0,none⟩=some (.int .i64 limit))/\Below w.heap.size w W)/\(((pre.map (Qr ∘ Qy.arm)).sum:Nat):Int)<=limit/\(pre.map (Qr ∘ Qy.arm)).sum<=pre.length*z/\u.heap.size<=W.heap.size)
  (λc pre W=>(c=.exit 0/\∃t:Nat,limit<t/\t<=(pre.map (Qr ∘ Qy.arm)).sum/\W.cell? ⟨w.heap.size+1,0,none⟩=some (.int .i64 t))/\Below w.heap.size w W)
  (OwnFrom.and (OwnFrom.and (Own.from (λs A B row i y H=>⟨cell_kept i.1 y H,(frozen_kept i.1 y H).trans i.2.1,cell_kept i.2.2 y H⟩) _) (ownFrom_below (A88 _) omz)) (OwnFrom.and (ownFrom_pure _ _) (OwnFrom.and (ownFrom_pure _ _) (λ_ _ _ _ i y _=>A9f i y.size))))
  (λc=>OwnFrom.and (Own.from (λs A B row i y H=>⟨i.1,i.2.elim λt ht=>⟨t,ht.1,ht.2.1,cell_kept ht.2.2 y H⟩⟩) _) (ownFrom_below (A88 _) omz))
  ⟨⟨⟨by simpa using aI,aE,ay⟩,ab⟩,by simpa using aG,spz,A88 _⟩
  (λx a' W=>∃j,u.heap.size<=j/\A0u W j x.arm.net.kind x.arm.net.one.op x.av x.nv x.cv x.kv/\a'={tmps:=#[.slice p0 g.length r0, .int .i64 limit,undef, .pointer (some ⟨w.heap.size,0,none⟩), .int .i64 0, .pointer (some ⟨w.heap.size+1,0,none⟩), .pointer (some ⟨j,0,none⟩), .slice p0 g.length r0, .func (.func 105) #[] #[.pointer (some ⟨K,0,none⟩), .pointer (some ⟨A,0,none⟩)], .agg #[.int .i64 x.arm.net.kind, .int .i64 x.arm.net.one.op,x.av,x.nv,x.cv,x.kv],undef,undef,undef,undef,undef,undef,undef,undef,undef,undef,undef,undef,undef,undef,undef,undef,undef,undef,undef,undef,undef,undef],defers:=[]})
  (λx a' s A B row i y H=>i.elim λj E=>⟨j,E.1,Aib (β:=Unit) j _ _ _ _ _ _ s A B row E.2.1 y (λr e=>(H r e).2),E.2.2⟩) ?assign ?body ?done ?stop
 case assign=>
  rintro l pre x W f ⟨⟨⟨m,hfz,O⟩,J⟩,P,ac,aB⟩ d;have an:=Bo m;obtain⟨x,av,nv,cv,kv,T,ao,ap,ax,zo⟩:=x;obtain⟨q0,s0,rfl,_⟩:=id T;obtain⟨q1,s1,rfl,_⟩:=id ao;obtain⟨q2,s2,rfl,_⟩:=id ap;obtain⟨q3,s3,rfl,_⟩:=id ax
  gi_wp2
  exact d _ _ ((KeepsOthers.alloc _ _).from _) (Kept.of_below J.size (Aa _ _)) ⟨⟨⟨Ox _ m,Pe _ m hfz,Ox _ O⟩,blA⟩,P,ac,by simp;omega⟩ ⟨W.heap.size,omz,⟨by simp[go_sem],by simp[go_sem],by simp[go_sem],by simp[go_sem],by simp[go_sem],by simp[go_sem]⟩,rfl⟩
 case body=>
  rintro l pre x a' W aC _ ⟨⟨⟨m,hfz,O⟩,J⟩,P,ac,aB⟩ ⟨j,aL,⟨y0,y1,y2,y3,y4,y5⟩,rfl⟩ aK;have an:=Bo m;have aN:w.heap.size<W.heap.size:=omz
  have rZ:=Bo y0;have hn:w.heap.size<=W.heap.size:=omz
  have Y:¬j=w.heap.size+1:=omz
  have aP:¬j=w.heap.size:=omz
  have dK:Hid (((pre++[x]).map (Qr ∘ Qy.arm)).sum=(pre.map (Qr ∘ Qy.arm)).sum+Qr x.arm):=by show _=_;rw[A9h,Bbb];simp
  have tu:Hid ((pre++[x]).length*z=pre.length*z+z):=by show _=_;rw[A83,Nat.add_mul];simp
  have aS:pre.length*z<=1000000000*1000000000:=Nat.mul_le_mul omz ah;have ae:=(H5 (yO _ x.mem)).1;have lq:=(H5 (yO _ x.mem)).2.1;have aJ:=aw _ x.mem;have C:Hid (Qr x.arm=1+x.arm.coils.length+(if Bl x.arm.net then 0 else Aj x.arm.net)):=rfl;obtain⟨q0,s0,e0,_⟩:=id x.hav;obtain⟨q1,s1,Z,_⟩:=id x.hnv;obtain⟨q2,s2,e2,_⟩:=id x.hcv;obtain⟨q3,s3,e3,_⟩:=id x.hkv;have I:=hid (λaa L=>Tm x.arm.net x.av x.nv aa (x.hav.below L) (x.hnv.below L) ae);have N:=hid (λaa L i aF h1 h2=>Aex x.arm.net x.av x.nv aF aa (x.hav.below L) (x.hnv.below L) ae i h1 h2);rw[e0,Z] at I N;rw[e0] at y2;rw[Z] at y3;rw[e2] at y4;rw[e3] at y5;obtain⟨S,hS⟩:∃S,S=(pre.map (Qr ∘ Qy.arm)).sum:=⟨_,rfl⟩
  obtain⟨o,ho⟩:∃o,o=Qr x.arm:=⟨_,rfl⟩
  obtain⟨cn,ag⟩:∃cn,cn=x.arm.coils.length:=⟨_,rfl⟩
  rw[<-hS] at m P ac dK;rw[<-ho] at aJ dK C;rw[<-ag] at lq C y4;clear ae hS ho ag e0 Z e2 e3 aK aC;cases V:Bl x.arm.net
  ·rw[V] at I C
   have hoe:o=1+cn+Aj x.arm.net:=by rw[C.out];simp
   obtain⟨ns,ak⟩:∃ns,ns=Aj x.arm.net:=⟨_,rfl⟩
   rw[<-ak] at hoe N;clear ak V C;have aj:IntKind.i64.wrap (limit - ((S:Int)+(1+cn)))=limit - ((S:Int)+(1+cn)):=by rw[IntKind.wrap_i64];omega
   gi_wp2_with (refine⟨trivial,?_⟩;gi_at_call 62;refine(CallsIn.inRound l (callsIn_wide.2 (I _ blA))).mono ?_;rintro e M ⟨rfl,hb2⟩;have q:=(hb2.cell (p:=⟨w.heap.size+1,0,none⟩) yAb).trans (Gg m);have R:M.frozen? ⟨w.heap.size+1,0,none⟩=false:=(hb2.frozen (p:=⟨w.heap.size+1,0,none⟩) yAb).trans yDf;have G:=(hb2.cell (p:=⟨w.heap.size,0,none⟩) yAb).trans ((Bz omz).trans O);have v0:=(hb2.cell (p:=⟨j,0,none⟩) yAb).trans ((Bz Y).trans y0);have v1:=(hb2.cell (p:=⟨j,1,none⟩) yAb).trans ((Bz Y).trans y1);have v2:=(hb2.cell (p:=⟨j,2,none⟩) yAb).trans ((Bz Y).trans y2);have v3:=(hb2.cell (p:=⟨j,3,none⟩) yAb).trans ((Bz Y).trans y3))
   refine wpIn_region_any krz ?_;try (change wpAnyIn _ _ _ _ _ _ _ _ _ (World.drew _))
   apply share
   ·intro dw
    apply share
    ·intro X
     apply share
     ·intro dn
      apply share
      ·intro zh
       apply share
       ·intro dm
        apply share
        ·intro di
         apply share
         ·intro U
          apply share
          ·intro zg
           apply share
           ·intro dh
            apply share
            ·intro zf
             apply share
             ·intro vC
              apply share
              ·intro rD
               apply share
               ·intro rC
                apply share
                ·intro qZ
                 apply share
                 ·intro uZ
                  apply share
                  ·intro uY
                   apply share
                   ·intro qY
                    apply share
                    ·intro uX
                     apply share
                     ·intro uV
                      apply share
                      ·intro uU
                       apply share
                       ·intro uT
                        apply share
                        ·intro uS
                         apply share
                         ·intro uQ
                          refine wpAnyIn_ready (rs:=[0,1,3,4]) krz spz ?_;refine AllReadyIn.cons rfl (λf d=>?_) ?_
                          ·go_simp
                           refine d _ _ ?_;clear d f;refine wpAnyIn_ready (rs:=[1,3,4]) krz spz ?_;refine AllReadyIn.cons rfl (λf d=>?_) ?_
                           ·go_simp
                            refine d _ _ ?_;clear d f;exact uX
                           refine AllReadyIn.cons rfl (λf d=>?_) ?_
                           ·go_simp
                            refine d _ _ ?_;clear d f;exact uV
                           refine AllReadyIn.cons rfl (λf d=>?_) ?_
                           ·go_simp
                            refine d _ _ ?_;clear d f;exact uU
                           exact AllReadyIn.nil
                          refine AllReadyIn.cons rfl (λf d=>?_) ?_
                          ·go_simp
                           refine d _ _ ?_;clear d f;refine wpAnyIn_ready (rs:=[0,2,3,4]) krz spz ?_;refine AllReadyIn.cons rfl (λf d=>?_) ?_
                           ·go_simp
                            refine d _ _ ?_;clear d f;exact uX
                           refine AllReadyIn.cons rfl (λf d=>?_) ?_
                           ·go_simp
                            refine d _ _ ?_;clear d f;refine wpAnyIn_ready (rs:=[0,3,4]) krz spz ?_;refine AllReadyIn.cons rfl (λf d=>?_) ?_
                            ·go_simp
                             refine d _ _ ?_;clear d f;exact vC
                            refine AllReadyIn.cons rfl (λf d=>?_) ?_
                            ·go_simp
                             refine d _ _ ?_;clear d f;exact uZ
                            refine AllReadyIn.cons rfl (λf d=>?_) ?_
                            ·go_simp
                             refine d _ _ ?_;clear d f;exact uY
                            exact AllReadyIn.nil
                           refine AllReadyIn.cons rfl (λf d=>?_) ?_
                           ·go_simp
                            refine d _ _ ?_;clear d f;exact uT
                           refine AllReadyIn.cons rfl (λf d=>?_) ?_
                           ·go_simp
                            refine d _ _ ?_;clear d f;exact uS
                           exact AllReadyIn.nil
                          refine AllReadyIn.cons rfl (λf d=>?_) ?_
                          ·go_simp
                           refine d _ _ ?_;clear d f;refine wpAnyIn_ready (rs:=[0,1,4]) krz spz ?_;refine AllReadyIn.cons rfl (λf d=>?_) ?_
                           ·go_simp
                            refine d _ _ ?_;clear d f;exact uV
                           refine AllReadyIn.cons rfl (λf d=>?_) ?_
                           ·go_simp
                            refine d _ _ ?_;clear d f;exact uT
                           refine AllReadyIn.cons rfl (λf d=>?_) ?_
                           ·go_simp
                            refine d _ _ ?_;clear d f;exact uQ
                           exact AllReadyIn.nil
                          refine AllReadyIn.cons rfl (λf d=>?_) ?_
                          ·go_simp
                           refine d _ _ ?_;clear d f;refine wpAnyIn_ready (rs:=[0,1,3]) krz spz ?_;refine AllReadyIn.cons rfl (λf d=>?_) ?_
                           ·go_simp
                            refine d _ _ ?_;clear d f;exact uU
                           refine AllReadyIn.cons rfl (λf d=>?_) ?_
                           ·go_simp
                            refine d _ _ ?_;clear d f;exact uS
                           refine AllReadyIn.cons rfl (λf d=>?_) ?_
                           ·go_simp
                            refine d _ _ ?_;clear d f;exact uQ
                           exact AllReadyIn.nil
                          exact AllReadyIn.nil
                         ·refine wpAnyIn_ready (rs:=[0,1,5]) krz spz ?_
                          refine AllReadyIn.cons rfl (λf d=>?_) ?_
                          ·go_simp
                           refine d _ _ ?_;clear d f;exact qZ
                          refine AllReadyIn.cons rfl (λf d=>?_) ?_
                          ·go_simp
                           refine d _ _ ?_;clear d f;exact qY
                          refine AllReadyIn.cons rfl (λf d=>?_) ?_
                          ·go_simp
                           refine d _ _ ?_;clear d f;refine wpAnyIn_ready (rs:=[0,1]) krz spz ?_;refine AllReadyIn.cons rfl (λf d=>?_) ?_
                           ·go_simp
                            refine d _ _ ?_;clear d f;exact zg
                           refine AllReadyIn.cons rfl (λf d=>?_) ?_
                           ·go_simp
                            refine d _ _ ?_;clear d f;exact zf
                           exact AllReadyIn.nil
                          exact AllReadyIn.nil
                        ·refine wpAnyIn_ready (rs:=[0,2,3]) krz spz ?_
                         refine AllReadyIn.cons rfl (λf d=>?_) ?_
                         ·go_simp
                          refine d _ _ ?_;clear d f;exact rC
                         refine AllReadyIn.cons rfl (λf d=>?_) ?_
                         ·go_simp
                          refine d _ _ ?_;clear d f;exact uY
                         refine AllReadyIn.cons rfl (λf d=>?_) ?_
                         ·go_simp
                          refine d _ _ ?_;clear d f;exact qY
                         exact AllReadyIn.nil
                       ·refine wpAnyIn_ready (rs:=[0,2,4]) krz spz ?_
                        refine AllReadyIn.cons rfl (λf d=>?_) ?_
                        ·go_simp
                         refine d _ _ ?_;clear d f;exact rD
                        refine AllReadyIn.cons rfl (λf d=>?_) ?_
                        ·go_simp
                         refine d _ _ ?_;clear d f;exact uZ
                        refine AllReadyIn.cons rfl (λf d=>?_) ?_
                        ·go_simp
                         refine d _ _ ?_;clear d f;exact qY
                        exact AllReadyIn.nil
                      ·refine wpAnyIn_ready (rs:=[1,3]) krz spz ?_
                       refine AllReadyIn.cons rfl (λf d=>?_) ?_
                       ·go_simp
                        refine d _ _ ?_;clear d f;exact rC
                       refine AllReadyIn.cons rfl (λf d=>?_) ?_
                       ·go_simp
                        refine d _ _ ?_;clear d f;exact qZ
                       exact AllReadyIn.nil
                     ·refine wpAnyIn_ready (rs:=[1,4]) krz spz ?_
                      refine AllReadyIn.cons rfl (λf d=>?_) ?_
                      ·go_simp
                       refine d _ _ ?_;clear d f;exact rD
                      refine AllReadyIn.cons rfl (λf d=>?_) ?_
                      ·go_simp
                       refine d _ _ ?_;clear d f;exact qZ
                      exact AllReadyIn.nil
                    ·refine wpAnyIn_ready (rs:=[2,3,4]) krz spz ?_
                     refine AllReadyIn.cons rfl (λf d=>?_) ?_
                     ·go_simp
                      refine d _ _ ?_;clear d f;exact vC
                     refine AllReadyIn.cons rfl (λf d=>?_) ?_
                     ·go_simp
                      refine d _ _ ?_;clear d f;exact rD
                     refine AllReadyIn.cons rfl (λf d=>?_) ?_
                     ·go_simp
                      refine d _ _ ?_;clear d f;exact rC
                     exact AllReadyIn.nil
                   ·refine wpAnyIn_ready (rs:=[0,2,5]) krz spz ?_
                    refine AllReadyIn.cons rfl (λf d=>?_) ?_
                    ·go_simp
                     refine d _ _ ?_;clear d f;exact U
                    refine AllReadyIn.cons rfl (λf d=>?_) ?_
                    ·go_simp
                     refine d _ _ ?_;clear d f;exact dh
                    refine AllReadyIn.cons rfl (λf d=>?_) ?_
                    ·go_simp
                     refine d _ _ ?_;clear d f;exact zf
                    exact AllReadyIn.nil
                  ·refine wpAnyIn_ready (rs:=[0,3]) krz spz ?_
                   refine AllReadyIn.cons rfl (λf d=>?_) ?_
                   ·go_simp
                    refine d _ _ ?_;clear d f;exact di
                   refine AllReadyIn.cons rfl (λf d=>?_) ?_
                   ·go_simp
                    refine d _ _ ?_;clear d f;exact dh
                   exact AllReadyIn.nil
                 ·refine wpAnyIn_ready (rs:=[0,4]) krz spz ?_
                  refine AllReadyIn.cons rfl (λf d=>?_) ?_
                  ·go_simp
                   refine d _ _ ?_;clear d f;exact dm
                  refine AllReadyIn.cons rfl (λf d=>?_) ?_
                  ·go_simp
                   refine d _ _ ?_;clear d f;exact dh
                  exact AllReadyIn.nil
                ·refine wpAnyIn_ready (rs:=[1,5]) krz spz ?_
                 refine AllReadyIn.cons rfl (λf d=>?_) ?_
                 ·go_simp
                  refine d _ _ ?_;clear d f;exact U
                 refine AllReadyIn.cons rfl (λf d=>?_) ?_
                 ·go_simp
                  refine d _ _ ?_;clear d f;exact zg
                 exact AllReadyIn.nil
               ·refine wpAnyIn_ready (rs:=[2,3]) krz spz ?_
                refine AllReadyIn.cons rfl (λf d=>?_) ?_
                ·go_simp
                 refine d _ _ ?_;clear d f;exact di
                refine AllReadyIn.cons rfl (λf d=>?_) ?_
                ·go_simp
                 refine d _ _ ?_;clear d f;exact U
                exact AllReadyIn.nil
              ·refine wpAnyIn_ready (rs:=[2,4]) krz spz ?_
               refine AllReadyIn.cons rfl (λf d=>?_) ?_
               ·go_simp
                refine d _ _ ?_;clear d f;exact dm
               refine AllReadyIn.cons rfl (λf d=>?_) ?_
               ·go_simp
                refine d _ _ ?_;clear d f;exact U
               exact AllReadyIn.nil
             ·refine wpAnyIn_ready (rs:=[3,4]) krz spz ?_
              refine AllReadyIn.cons rfl (λf d=>?_) ?_
              ·go_simp
               refine d _ _ ?_;clear d f;exact dm
              refine AllReadyIn.cons rfl (λf d=>?_) ?_
              ·go_simp
               refine d _ _ ?_;clear d f;exact di
              exact AllReadyIn.nil
            ·refine wpAnyIn_ready (rs:=[0,2]) krz spz ?_
             refine AllReadyIn.cons rfl (λf d=>?_) ?_
             ·go_simp
              refine d _ _ ?_;clear d f;exact dn
             refine AllReadyIn.cons rfl (λf d=>?_) ?_
             ·go_simp
              refine d _ _ ?_;clear d f;exact zh
             exact AllReadyIn.nil
           ·refine wpAnyIn_ready (rs:=[0,5]) krz spz ?_
            refine AllReadyIn.cons rfl (λf d=>?_) ?_
            ·go_simp
             refine d _ _ ?_;clear d f;exact X
            refine AllReadyIn.cons rfl (λf d=>?_) ?_
            ·go_simp
             refine d _ _ ?_;clear d f;exact zh
            exact AllReadyIn.nil
          ·refine wpAnyIn_ready (rs:=[1]) krz spz ?_
           refine AllReadyIn.cons rfl (λf d=>?_) AllReadyIn.nil;go_simp;refine d _ _ ?_;clear d f;exact dn
         ·refine wpAnyIn_ready (rs:=[2,5]) krz spz ?_
          refine AllReadyIn.cons rfl (λf d=>?_) ?_
          ·go_simp
           refine d _ _ ?_;clear d f;exact X
          refine AllReadyIn.cons rfl (λf d=>?_) ?_
          ·go_simp
           refine d _ _ ?_;clear d f;exact dn
          exact AllReadyIn.nil
        ·refine wpAnyIn_ready (rs:=[3]) krz spz ?_
         refine AllReadyIn.cons rfl (λf d=>?_) AllReadyIn.nil;go_simp;refine d _ _ ?_;clear d f;exact X
       ·refine wpAnyIn_ready (rs:=[4]) krz spz ?_
        refine AllReadyIn.cons rfl (λf d=>?_) AllReadyIn.nil;go_simp;refine d _ _ ?_;clear d f;exact X
      ·refine wpAnyIn_ready (rs:=[0,6]) krz spz ?_
       refine AllReadyIn.cons rfl (λf d=>?_) ?_
       ·go_simp
        refine d _ _ ?_;clear d f;exact dw
       refine AllReadyIn.cons rfl (λf d=>?_) ?_
       ·go_simp
        try simp only[aj]
        refine⟨trivial,?_⟩;refine(CallsIn.inRound l (callsIn_wide.2 (N _ blA omz (limit - ((S:Int)+(1+cn))) omz omz))).mono ?_;rintro e W3 ⟨r,rfl,hr1,hr2,ar,hb3⟩;refine d _ _ ?_;clear d f;have c3:=(hb3.cell (p:=⟨w.heap.size+1,0,none⟩) (Bo q)).trans q;have z3:=(hb3.frozen (p:=⟨w.heap.size+1,0,none⟩) (Bo q)).trans R;have l3:=(hb3.cell (p:=⟨w.heap.size,0,none⟩) (Bo G)).trans G;have af:IntKind.i64.wrap ((S:Int)+(1+cn)+r)=(S:Int)+(1+cn)+r:=by rw[IntKind.wrap_i64];omega
        refine wpAnyIn_ready (rs:=[0]) krz spz ?_;refine AllReadyIn.cons rfl (λf d=>?_) AllReadyIn.nil;go_simp;refine d _ _ ?_;clear d f;refine wpAnyIn_ready (rs:=[7]) krz spz ?_;refine AllReadyIn.cons rfl (λf d=>?_) AllReadyIn.nil;go_simp;try simp only[af]
        refine d _ _ ?_;clear d f;refine wpAnyIn_ready (rs:=[8]) krz spz ?_;refine AllReadyIn.cons rfl (λf d=>?_) AllReadyIn.nil;go_simp;refine d _ _ ?_;clear d f;refine wpAnyIn_done krz ?_ _;by_cases ai:limit<(S:Int)+(1+cn)+r
        ·exact zg0
        ·exact zt
       exact AllReadyIn.nil
     ·refine wpAnyIn_ready (rs:=[2]) krz spz ?_
      refine AllReadyIn.cons rfl (λf d=>?_) AllReadyIn.nil;go_simp;refine d _ _ ?_;clear d f;exact dw
    ·refine wpAnyIn_ready (rs:=[5]) krz spz ?_
     refine AllReadyIn.cons rfl (λf d=>?_) AllReadyIn.nil;go_simp;refine d _ _ ?_;clear d f;exact dw
   ·refine wpAnyIn_ready (rs:=[6]) krz spz ?_
    refine AllReadyIn.cons rfl (λf d=>?_) AllReadyIn.nil;go_simp;try simp only[aj]
    refine⟨trivial,?_⟩;refine(CallsIn.inRound l (callsIn_wide.2 (N _ blA omz (limit - ((S:Int)+(1+cn))) omz omz))).mono ?_;rintro e W3 ⟨r,rfl,hr1,hr2,ar,hb3⟩;refine d _ _ ?_;clear d f;have c3:=(hb3.cell (p:=⟨w.heap.size+1,0,none⟩) (Bo q)).trans q;have z3:=(hb3.frozen (p:=⟨w.heap.size+1,0,none⟩) (Bo q)).trans R;have l3:=(hb3.cell (p:=⟨w.heap.size,0,none⟩) (Bo G)).trans G;have af:IntKind.i64.wrap ((S:Int)+(1+cn)+r)=(S:Int)+(1+cn)+r:=by rw[IntKind.wrap_i64];omega
    refine wpAnyIn_ready (rs:=[7]) krz spz ?_;refine AllReadyIn.cons rfl (λf d=>?_) AllReadyIn.nil;go_simp;try simp only[af]
    refine d _ _ ?_;clear d f;refine wpAnyIn_ready (rs:=[8]) krz spz ?_;refine AllReadyIn.cons rfl (λf d=>?_) AllReadyIn.nil;go_simp;refine d _ _ ?_;clear d f;refine wpAnyIn_done krz ?_ _;by_cases ai:limit<(S:Int)+(1+cn)+r
    ·exact zg0
    ·exact zt
  ·rw[V] at I C
   have hoe:o=1+cn:=by rw[C.out];simp
   clear V C N;by_cases ai:limit<(S:Int)+(1+cn)
   ·gi_wp2_with (refine⟨trivial,?_⟩;gi_at_call 62;refine(CallsIn.inRound l (callsIn_wide.2 (I _ blA))).mono ?_;rintro e M ⟨rfl,hb2⟩;have q:=(hb2.cell (p:=⟨w.heap.size+1,0,none⟩) yAb).trans (Gg m);have R:M.frozen? ⟨w.heap.size+1,0,none⟩=false:=(hb2.frozen (p:=⟨w.heap.size+1,0,none⟩) yAb).trans yDf;have G:=(hb2.cell (p:=⟨w.heap.size,0,none⟩) yAb).trans ((Bz omz).trans O))
    exact⟨by(repeat (first | with_reducible exact KeepsFrom.refl _ _ | with_reducible refine V4 ?_ _ _ | with_reducible refine Qv ?_ | with_reducible refine Ns ?_ _ | with_reducible refine Qw ?_ yCe)),⟨rfl,S+(1+cn),by omega,by rw[dK.out];omega,by rw[q];simp⟩,blA⟩
   ·gi_wp2_with (refine⟨trivial,?_⟩;gi_at_call 62;refine(CallsIn.inRound l (callsIn_wide.2 (I _ blA))).mono ?_;rintro e M ⟨rfl,hb2⟩;have q:=(hb2.cell (p:=⟨w.heap.size+1,0,none⟩) yAb).trans (Gg m);have R:M.frozen? ⟨w.heap.size+1,0,none⟩=false:=(hb2.frozen (p:=⟨w.heap.size+1,0,none⟩) yAb).trans yDf;have G:=(hb2.cell (p:=⟨w.heap.size,0,none⟩) yAb).trans ((Bz omz).trans O))
    exact⟨by(repeat (first | with_reducible exact KeepsFrom.refl _ _ | with_reducible refine V4 ?_ _ _ | with_reducible refine Qv ?_ | with_reducible refine Ns ?_ _ | with_reducible refine Qw ?_ yCe)),Vj (Alp (b:=w.heap.size+1) (Kept.refl w.heap.size (λk=>k=w.heap.size+1) W) yBa rfl _) hn hb2,⟨⟨⟨by rw[q,dK.out,hoe];simp,R,G⟩,blA⟩,by rw[dK.out];omega,by rw[dK.out,tu.out];omega,by have:=hb2.size;simp at*;omega⟩⟩
 case done=>
  rintro D ys W hD hS ⟨⟨⟨m,_⟩,J⟩,P,_⟩ F;rw[<-Bbf,hS,Q.out] at m P
  gi_wp2
  refine⟨spz, .inl ⟨_,_,rfl,run_takeDeferred F,?_⟩⟩;exact⟨_,results_tmp rfl _ _ _,z,rfl,λ_=>rfl,λh=>h,A88 _,J.trans (belowK_b (w:=w) (A88 _) W D _ _ omz F rfl rfl)⟩
 case stop=>
  rintro D c pre W hD az ⟨⟨rfl,t,aO,aM,m⟩,J⟩ F;have aH:t<=z:=by have:=Asf Qr az;rw[Q.out,Bbf] at this;omega
  gi_wp2
  refine⟨spz, .inl ⟨_,_,rfl,run_takeDeferred F,?_⟩⟩;exact⟨_,results_tmp rfl _ _ _,t,rfl,λh=>by omega,λh=>by omega,aH,J.trans (belowK_b (w:=w) (A88 _) W D _ _ omz F rfl rfl)⟩
theorem Atf (a:List Stil.Arm)(v:Value)(w:World)(i:Eb w v a)(d:Ce a<=1000000000)(c:∀x∈a,D7 x)(hl:a.length<=1048576):
  Calls prog 8 #[v] w λe b=>e=.returned (.int .i64 (Ce a))/\Below w.heap.size w b:=by
 have H:Hid (∀W,Below w.heap.size w W->Calls prog 27 #[v, .int .i64 9223372036854775807] W λe b=>e=.returned (.int .i64 (Ce a))/\Below W.heap.size W b):=λW k=>
  (Aeu a v 9223372036854775807 W (i.below k) c hl d omz omz).mono λe b ⟨r,j,l,_,_,g⟩=>⟨by rw[j,l omz],g⟩
 obtain⟨m,q,rfl,_⟩:=i;obtain⟨z,f⟩:∃z,z=Ce a:=⟨_,rfl⟩
 rw[<-f] at H ⊢;clear f c d;go_enter func8,ntmps8
 go_wp2_with (go_at_call 27;refine(H _ blA).mono ?_;rintro e o ⟨rfl,g⟩)
 go_ret;exact⟨rfl,blA⟩
end Go.Proofs.YtobbpffcggchmaaGreatDoor
