import Derived.Shelf.RegionOpen
import Derived.OwnWalkIn
import Derived.Test.YthdogflpbpkbeaaGreatDoorGU
import Derived.LoopNIn
import Derived.LoopIn
set_option linter.defProp false
set_option maxHeartbeats 4000000
set_option maxRecDepth 100000
namespace Go.Proofs.YthdogflpbpkbeaaGreatDoor
open Tryz Stil
section
open Go.RowKit Go.Sort Go.BigFrame
def QH(op:Int)(a:Δ)(b cap:Nat)(w:AU)(_h:b<=9223372036854775807):
  Calls prog 165 #[.agg #[AB op,AE a b cap]] w (AN w (.bool (op==0 && b==0))):=by
 by_cases c:op=0
 .subst c;go_enter func165,ntmps165;go_wp2;all_goals go_ret
  all_goals refine⟨Ac ?_,BV⟩
  all_goals(go_light;rw[FB];simp;try omega)
 have d:(op==0)=false:=by rwa[DX]
 go_enter func165,ntmps165;go_wp2;all_goals go_ret
 all_goals refine⟨Ac ?_,BV⟩
 all_goals(go_light;simp[d])
end
structure WrR(G:Prop):Prop where
 o:G
def TX(_:Γ):Prop:=True
abbrev TX.rs{rs:Γ}(_:TX rs):Γ:=rs
def Su(rs:Γ){G G':Prop}(k:G')(f:TX rs->WrR G'->G:=by(intro hR hZ;refine wpAnyIn_ready (rs:=hR.rs) BW (List.cons_ne_nil _ _) ?_;refine AllReadyIn.cons rfl (λKK aC=>?_) AllReadyIn.nil;go_simp;refine aC _ _ ?_;clear aC KK;exact hZ.o)):G:=f trivial ⟨k⟩
def Js{F:Fence}{n:Nat}{P:AY}{md:Region.Mode}{ops:Array Oper}{Q:Exit->Act->World->Prop}{fuel:Nat}{listed:Array Bool}{a:Act}{w:AU}{i:Nat}{o:Oper}{rs:Γ}{G:Prop}(ho:ops[i]?=some o)(k:G)(hs:AllReadyIn F n P md ops Q fuel listed a w rs)(f:WrR G->∀K':Act->World->Prop,(∀a w,wpAnyIn F n P md ops Q fuel (listed.setIfInBounds i true) a w->K' a w)->if Region.wanted o (yielded ops a.tmps)=true then Oper.wpIn F n P o a w K' Q else(∀f,o.about P w a.eval=some f->F.fn f)/\K' (a.put o.dst AQ) w:=by(intro hZ KK aC;go_simp;refine aC _ _ ?_;clear aC KK;exact hZ.o)):AllReadyIn F n P md ops Q fuel listed a w (i::rs):=AllReadyIn.cons ho (f ⟨k⟩) hs
section
open Go.RowKit Go.Sort Go.BigFrame Go.Shelf
def cq(k op:Int)(a:AW)(p:Δ)(b cap:Nat)(i:Δ)(c f:Nat)(d:a=AE i c f)(w:AU):
  Calls prog 189 #[.agg #[AB k,AB op,a,AE p b cap]] w (AN w (AE p b cap)):=by subst d;go_enter func189,ntmps189;go_wp2;go_ret;exact⟨rfl,BV⟩
def ct(k op:Int)(o j b p:Δ)(c g m d l f a cap:Nat)(w:AU):
  Calls prog 164 #[.agg #[AB k,AB op,AE o c g,AE j m d,AE b l f,AE p a cap]] w (AN w (AE p a cap)):=by go_enter func164,ntmps164;go_wp2;go_ret;exact⟨rfl,BV⟩
def MK(l Y B K:Nat)(W:AU):Prop:=W.cell? (AK Y 0)=some (.func (.yield l) #[] #[])/\W.cell? (AK B 0)=some (.func (.func 201) #[] #[AH Y,AH B,AH K])/\W.cell? (AK K 0)=some (.func (.func 189) #[] #[])
def MB(w:AU)(P:Stil.DK->Prop)(C:Φ)(M l Y B K N:Nat)(J c:List (Uk w P)->World->Prop)(es:Ξ):Prop:=
 ∀(m:Nat)(v:AW)(pre:List (Uk w P))(W:AU),P6 w C W v es->MK l Y B K W->J pre W->AO w W->M<=W.heap.size->pre.length+(Ez es).length<=N->
  CallsIn Fence.wide m prog 201 #[v,AH Y,AH B,AH K] W λe b=>
   (e=.returned (.bool true)/\∃a:List (Uk w P),a.map Uk.N=Ez es/\J (pre++a) b/\Kept w.heap.size C W b)\/
   (e=.returned (.bool false)/\∃a:List (Uk w P),a.map Uk.N<+:Ez es/\c (pre++a) b)
def ML(l Y B K:Nat)(W:AU):Prop:=W.cell? (AK Y 0)=some (.func (.yield l) #[] #[])/\W.cell? (AK B 0)=some (.func (.func 187) #[] #[AH Y,AH B,AH K])/\W.cell? (AK K 0)=some (.func (.func 164) #[] #[])
def MC(w:AU)(P:Stil.DL->Prop)(C:Φ)(M l Y B K N:Nat)(J c:List (Ro w P)->World->Prop)(es:Ek):Prop:=
 ∀(m:Nat)(v:AW)(pre:List (Ro w P))(W:AU),Ol w C W v es->ML l Y B K W->J pre W->AO w W->M<=W.heap.size->pre.length+(Eb es).length<=N->
  CallsIn Fence.wide m prog 187 #[v,AH Y,AH B,AH K] W λe b=>
   (e=.returned (.bool true)/\∃a:List (Ro w P),a.map Ro.A=Eb es/\J (pre++a) b/\Kept w.heap.size C W b)\/
   (e=.returned (.bool false)/\∃a:List (Ro w P),a.map Ro.A<+:Eb es/\c (pre++a) b)
end
section
open Go.RowKit Go.Sort Go.BigFrame Go.Shelf
attribute [local go_sem] Oper.semAt_some
def MK.keep{l Y B K:Nat}{C:Φ}{W b:AU}(h:MK l Y B K W)(d:¬C Y)(c:¬C B)(e:¬C K)(a:Kz C W b):MK l Y B K b:=⟨a.cell d h.1,a.cell c h.2.1,a.cell e h.2.2⟩
def zj{p:Prop}(h:p:=by refine aC _ _ ?_;clear aC KK;refine Su [3] ?_;refine Su [4] ?_;refine wpAnyIn_take (i:=5) (v:=AQ) rfl rfl BW BW BW (λ_ _ _ h=>h) ⟨Or.inr ⟨Br,rfl⟩,λ_=>rfl⟩ ?_;refine wpAnyIn_take (i:=6) (v:=AQ) rfl rfl BW BW BW (λ_ _ _ h=>h) ⟨Or.inr ⟨Br,rfl⟩,λ_=>rfl⟩ ?_;refine wpAnyIn_take (i:=7) (v:=AQ) rfl rfl BW BW BW (λ_ _ _ h=>h) ⟨Or.inr ⟨Br,rfl⟩,λ_=>rfl⟩ ?_;refine wpAnyIn_take (i:=8) (v:=AQ) rfl rfl BW BW BW (λ_ _ _ h=>h) ⟨Or.inr ⟨Br,rfl⟩,λ_=>rfl⟩ ?_;refine wpAnyIn_take (i:=9) (v:=AQ) rfl rfl BW BW BW (λ_ _ _ h=>h) ⟨Or.inr ⟨Br,rfl⟩,λ_=>rfl⟩ ?_;refine wpAnyIn_take (i:=10) (v:=AQ) rfl rfl BW BW BW (λ_ _ _ h=>h) ⟨Or.inr ⟨Br,rfl⟩,λ_=>rfl⟩ ?_;refine Su [11] ?_;refine wpAnyIn_done BW ?_ _;gi_wp2;go_ret;exact .inr ⟨rfl,ys++[x],oH.out,by simpa[EJ]using hx3⟩):p:=h
def zp {p:Prop}(h:p:=by
 intro key2;refine Su [3] ?_;refine Su [4] ?_;refine wpAnyIn_ready (rs:=[5,6,7]) BW BU ?_;refine Js rfl ?_ ?_
 .refine wpAnyIn_ready (rs:=[6,7]) BW BU ?_;refine Js rfl ?_ ?_;{refine Su [7] ?_;exact key1};refine Js rfl ?_ ?_;{refine Su [6] ?_;exact key1};exact AllReadyIn.nil
 refine Js rfl ?_ ?_
 .refine wpAnyIn_ready (rs:=[5,7]) BW BU ?_;refine Js rfl ?_ ?_;{refine Su [7] ?_;exact key1};refine Js rfl ?_ ?_;{exact key2};exact AllReadyIn.nil
 refine Js rfl ?_ ?_
 {refine wpAnyIn_ready (rs:=[5,6]) BW BU ?_;refine Js rfl ?_ ?_;{refine Su [6] ?_;exact key1};refine Js rfl ?_ ?_;{exact key2};exact AllReadyIn.nil};exact AllReadyIn.nil):p:=h
def zw{p:Prop}(h:p:=by refine aC _ _ ?_;clear aC KK;refine Su [10] ?_;refine Su [11] ?_;refine wpAnyIn_done BW ?_ _;gi_wp2;exact⟨⟨j+1,ys++[x]++zs,BS,by go_num,jK zs hzs,by simpa[EJ]using uD,hkW.t hk4⟩,by simp[intOf];omega⟩):p:=h
def zP{p:Prop}(h:p:=by refine aC _ _ ?_;clear aC KK;refine Su [10] ?_;refine Su [11] ?_;refine wpAnyIn_done BW ?_ _;gi_wp2;go_ret;exact .inr ⟨rfl,ys++[x]++zs,iV zs hzs,by simpa[EJ]using hx4⟩):p:=h
def zj0 {p:Prop}(h:p:=by
 intro mJ;refine wpAnyIn_ready (rs:=[0,1]) BW BU ?_;refine Js rfl ?_ ?_
 .refine Su [1] ?_;exact mJ
 refine Js rfl ?_ ?_
 {refine Su [0] ?_;exact mJ};exact AllReadyIn.nil):p:=h
def ZJ(w:AU)(P:Stil.DK->Prop)(C:Φ)(hC:∀k,C k->w.heap.size<=k)(M l Y B K N:Nat)(ao:∀k,C k->k<M)(pK:¬C Y)(lH:¬C B)(jY:¬C K)(J u:List (Uk w P)->World->Prop)
  (hJ:∀s W c,J s W->AO W c->J s c)
  (hY:∀m pre (x:Uk w P) W,J pre W->pre.length<N->YieldAt Fence.wide m prog l #[.agg #[AB x.N.kind,AB x.N.O.op,x.av,x.kv]] W λe c=>
   (e=.returned (.bool true)/\J (pre++[x]) c/\Kept w.heap.size C W c)\/(e=.returned (.bool false)/\u (pre++[x]) c))
  (es:Ξ) (hl:es.length<=1048576) (hf:∀x∈es,P x) (ih:∀x∈es,MB w P C M l Y B K N J u x.K):MB w P C M l Y B K N J u es:=by
 intro m v pre W hs af hj hb hM hN;have HS:=BZ (λc(h:Kz C W c)=>hs.keep h);have iH:=BZ (λc(h:Kz C W c)=>af.keep pK lH jY h);have zM:=BZ hY;have qI:=BZ hJ;have IH:=BZ ih;have HN:=BZ hN;have HB:=BZ hb;obtain⟨a,cap,rfl,_⟩:=hs;clear hJ hY ih hN hb af;refine callsIn_of_wp func201 rfl trivial ?_ rfl;simp only[ntmps201,D1,DT,DW,Nat.reduceAdd,Nat.reduceSub,EV,EW,EY,EX,ED,EA];gi_wp2;gi_loopw [10] (λi wr=>∃(j:Nat)(ys:List (Uk w P)),j<=es.length/\i=AB j/\ys.map Uk.N=Ez (es.take j)/\J (pre++ys) wr/\Kept w.heap.size C W wr) (λi _=>es.length - (intOf i).toNat);case atStart=>exact⟨0,[],BS,rfl,by simp[Ez],by simpa using hj,Kept.refl _ _ _⟩
 case round=>
  obtain⟨j,ys,ap,rfl,V,ab,H⟩:=hrel;by_cases A:j<es.length
  .have⟨a',ar,hv,aj⟩:=HS wr H.2;obtain⟨b,o,rfl,au,av,kv,x0,x1,x2,x3,aa,U⟩:=aj j A;simp only[BN,true_and]at hv;obtain⟨rfl,rfl⟩:=hv;have⟨b0,b1,b2⟩:=iH wr H.2;have an:(pre++ys).length<N:=by have h1:=HN.out;have h2:ys.length=(Ez (es.take j)).length:=(by rw[<-V,Db]);have L:=(QD es (j+1)).length_le;rw[Uw es j A]at L;simp only[DV,DT]at L⊢;omega
   have⟨T,Z,e0,_⟩:=id aa;have⟨O,S,e1,_⟩:=id U;have ah:∀x:Uk w P,x=⟨es[j],av,kv,aa,U,hf _ (DY A)⟩->∀d,J (pre++ys) d->YieldAt Fence.wide (m - 1) prog l #[.agg #[AB es[j].kind,AB es[j].O.op,.slice T es[j].O.args.length Z,.slice O es[j].K.length S]] d λe c=>
     (e=.returned (.bool true)/\J (pre++ys++[x]) c/\Kept w.heap.size C d c)\/(e=.returned (.bool false)/\u (pre++ys++[x]) c):=by
    intro x X d ak;have:=zM (m - 1) (pre++ys) x d ak an
    rw[X]at this⊢;simp only[e0,e1]at this⊢;exact this
   obtain⟨x,X⟩:∃x:Uk w P,x=⟨es[j],av,kv,aa,U,hf _ (DY A)⟩:=⟨_,rfl⟩;have HV:=BZ (ah x X);have uH:Hid (x.N=es[j]):=(by show _=_;rw[X]);have kH:=BZ U;clear ah X;have⟨y,hy⟩:=AA (es[j]);(rw[<-hy]at x0 x1 HV uH kH e0 e1;have qC:=BZ hy;rw[e0]at x2;rw[e1]at x3 kH;clear aa U e0 e1 hy;have hZ:¬C wr.heap.size:=λh=>by have:=ao _ h;have:=H.2.size;omega);have yT:=Bd b0;have uG:=Bd b1;have pW:=Bd b2;gi_wp2;have⟨d,r⟩:=AA (wr.alloc (A2 y T Z O S 63));(rw[<-r];have c0:d.cell? (AK Y 0)=some (.func (.yield l) #[] #[]):=by rw[r];simp[go_sem,b0,yT]);have c1:d.cell? (AK B 0)=some (.func (.func 201) #[] #[AH Y,AH B,AH K]):=(by rw[r];simp[go_sem,b1,uG]);have c2:d.cell? (AK K 0)=some (.func (.func 189) #[] #[]):=(by rw[r];simp[go_sem,b2,pW]);have⟨z,R⟩:=AA wr.heap.size;rw[<-R]at hZ⊢;have d0:d.cell? (AK z 0)=some (AB y.kind):=xCe;have d1:d.cell? (AK z 1)=some (AB y.O.op):=xCe;have d2:d.cell? (AK z 2)=some (AE T y.O.args.length Z):=xCe;have d3:d.cell? (AK z 3)=some (AE O y.K.length S):=xCe;have ac:AO wr d:=(by rw[r];exact Aa _ _);have ag:Kept w.heap.size C W d:=H.t (Kept.of_below (DU HB.size H.1.size) ac);have ad:J (pre++ys) d.drew:=qI _ _ _ ab ac.drew;clear r ac b0 b1 b2 x0 x1 x2 x3 yT uG pW ab H R;have⟨fn,tmps,assign,body,gu,hR⟩:=HV d.drew ad;clear HV ad
   have ai:Hid (∀(e:Ending) (q:AU),(e=.returned (.bool true)/\J (pre++ys++[x]) q/\Kept w.heap.size C d.drew q)->q.cell? (AK B 0)=some (.func (.func 201) #[] #[AH Y,AH B,AH K])/\q.cell? (AK K 0)=some (.func (.func 189) #[] #[])/\
     q.cell? (AK z 0)=some (AB y.kind)/\q.cell? (AK z 1)=some (AB y.O.op)/\q.cell? (AK z 2)=some (AE T y.O.args.length Z)/\q.cell? (AK z 3)=some (AE O y.K.length S)):=
    λe q h=>⟨h.2.2.2.cell lH c1,h.2.2.2.cell jY c2,h.2.2.2.cell hZ d0,h.2.2.2.cell hZ d1,h.2.2.2.cell hZ d2,h.2.2.2.cell hZ d3⟩
   have zX:Hid (∀q g,Kept w.heap.size C d.drew q->AO q g->Kept w.heap.size C W g):=λq g h2 L=>((ag.t ⟨(BP _ _).drew,(Kz.refl _ _).drew⟩).t h2).t (Kept.of_below (DU (DU HB.size ag.1.size) h2.1.size) L)
   have iU:Hid (∀g,J (pre++ys++[x]) g->Kept w.heap.size C W g->CallsIn Fence.wide (m - 1) prog 201 #[AE O y.K.length S,AH Y,AH B,AH K] g λe c=>
     (e=.returned (.bool true)/\∃zs:List (Uk w P),zs.map Uk.N=Ez y.K/\J (pre++ys++[x]++zs) c/\Kept w.heap.size C g c)\/
     (e=.returned (.bool false)/\∃zs:List (Uk w P),zs.map Uk.N<+:Ez y.K/\u (pre++ys++[x]++zs) c)):=by
    intro g al I;have ae:AO w g:=HB.trans I.1;refine IH y (by rw[qC.out];exact DY A) (m - 1) _ _ g (P6.of_at kH ae hC) (iH g I.2) al ae (DU hM I.2.size) ?_;have h1:=HN.out;have h2:ys.length=(Ez (es.take j)).length:=by rw[<-V,Db]
    have L:=(QD es (j+1)).length_le;rw[Uw es j A,<-qC.out]at L;simp only[DV,DT,DW]at L⊢;omega
   have jK:Hid (∀zs:List (Uk w P),zs.map Uk.N=Ez y.K->(ys++[x]++zs).map Uk.N=Ez (es.take (j+1))):=(by intro zs hzs;rw[Uw es j A,D4,D4,V,hzs,<-qC.out];simp[uH.out]);have iV:Hid (∀zs:List (Uk w P),zs.map Uk.N<+:Ez y.K->(ys++[x]++zs).map Uk.N<+:Ez es):=(by intro zs hzs;refine List.IsPrefix.trans ?_ (QD es (j+1));rw[Uw es j A,D4,D4,V,<-qC.out];obtain⟨t,ht⟩:=hzs;exact⟨t,by simp[uH.out,<-ht]⟩);have oH:Hid ((ys++[x]).map Uk.N<+:Ez es):=(by show _<+:_;have:=iV.out [] BU;simpa using this);(refine wpIn_region_any BW ?_;try(change wpAnyIn _ _ _ _ _ _ _ _ _ (World.drew _)));apply share;{exact zj0};refine wpAnyIn_ready (rs:=[2]) BW BU ?_;refine AllReadyIn.cons rfl (λKK aC=>?_) AllReadyIn.nil;go_simp;refine⟨λh=>CQ,?_⟩;refine hR.mono ?_;rintro e q (⟨rfl,E,I⟩|⟨rfl,hx3⟩);{refine aC _ _ ?_;clear aC KK;have⟨f1,f2,g0,g1,g2,g3⟩:=ai _ _ ⟨rfl,E,I⟩;apply share;{intro key1;apply share;{exact zp};refine wpAnyIn_ready (rs:=[5,8]) BW BU ?_;refine Js rfl ?_ ?_;{exact key1};refine AllReadyIn.cons rfl (λKK aC=>?_) ?_;{go_simp;refine⟨trivial,λh=>CQ,?_⟩;refine(callsIn_wide.2 (cq _ _ _ _ _ _ _ _ _ rfl _)).mono ?_;rintro e g⟨rfl,D⟩;refine aC _ _ ?_;clear aC KK;have h1:=(D.cell (p:=(AK B 0)) (Bd f1)).trans f1;have E:=qI _ _ _ E D;have hkW:Kept w.heap.size C W g:=zX _ _ I D;refine Su [5] ?_;refine wpAnyIn_ready (rs:=[9]) BW BU ?_;refine AllReadyIn.cons rfl (λKK aC=>?_) AllReadyIn.nil;go_simp;refine⟨trivial,λh=>CQ,?_⟩;refine(iU _ E hkW).mono ?_;rintro e W4 (⟨rfl,zs,hzs,uD,hk4⟩|⟨rfl,zs,hzs,hx4⟩);{exact zw};exact zP};exact AllReadyIn.nil};refine wpAnyIn_ready (rs:=[8]) BW BU ?_;refine AllReadyIn.cons rfl (λKK aC=>?_) AllReadyIn.nil;go_simp;refine⟨trivial,λh=>CQ,?_⟩;refine(callsIn_wide.2 (cq _ _ _ _ _ _ _ _ _ rfl _)).mono ?_;rintro e g⟨rfl,D⟩;refine aC _ _ ?_;clear aC KK;have h1:=(D.cell (p:=(AK B 0)) (Bd f1)).trans f1;have E:=qI _ _ _ E D;have hkW:Kept w.heap.size C W g:=zX _ _ I D;refine wpAnyIn_ready (rs:=[9]) BW BU ?_;refine AllReadyIn.cons rfl (λKK aC=>?_) AllReadyIn.nil;go_simp;refine⟨trivial,λh=>CQ,?_⟩;refine(iU _ E hkW).mono ?_;rintro e W4 (⟨rfl,zs,hzs,uD,hk4⟩|⟨rfl,zs,hzs,hx4⟩);{exact zw};exact zP};exact zj
  gi_wp2;go_ret;refine .inl ⟨rfl,ys,?_,ab,H⟩;rw[V,E0 BS]
end
section
open Go.RowKit Go.Sort Go.BigFrame Go.Shelf
attribute [local go_sem] Oper.semAt_some
def ML.keep{l Y B K:Nat}{C:Φ}{W b:AU}(h:ML l Y B K W)(d:¬C Y)(c:¬C B)(e:¬C K)(a:Kz C W b):ML l Y B K b:=⟨a.cell d h.1,a.cell c h.2.1,a.cell e h.2.2⟩
def ZK(w:AU)(P:Stil.DL->Prop)(C:Φ)(hC:∀k,C k->w.heap.size<=k)(M l Y B K N:Nat)(ar:∀k,C k->k<M)(pK:¬C Y)(lH:¬C B)(jY:¬C K)(J u:List (Ro w P)->World->Prop)
  (hJ:∀s W c,J s W->AO W c->J s c)
  (hY:∀m pre (x:Ro w P) W,J pre W->pre.length<N->YieldAt Fence.wide m prog l #[.agg #[AB x.A.N.kind,AB x.A.N.O.op,x.av,x.nv,x.cv,x.kv]] W λe c=>
   (e=.returned (.bool true)/\J (pre++[x]) c/\Kept w.heap.size C W c)\/(e=.returned (.bool false)/\u (pre++[x]) c))
  (es:Ek) (hl:es.length<=1048576) (hf:∀x∈es,P x) (ih:∀x∈es,MC w P C M l Y B K N J u x.K):MC w P C M l Y B K N J u es:=by
 intro m v pre W hs ah hj hb hM hN;have HS:=BZ (λc(h:Kz C W c)=>hs.keep h);have iH:=BZ (λc(h:Kz C W c)=>ah.keep pK lH jY h);have zM:=BZ hY;have qI:=BZ hJ;have IH:=BZ ih;have HN:=BZ hN;have HB:=BZ hb;obtain⟨a,cap,rfl,_⟩:=hs;clear hJ hY ih hN hb ah;refine callsIn_of_wp func187 rfl trivial ?_ rfl;simp only[ntmps187,D1,DT,DW,Nat.reduceAdd,Nat.reduceSub,EV,EW,EY,EX,ED,EA];gi_wp2;gi_loopw [10] (λi wr=>∃(j:Nat)(ys:List (Ro w P)),j<=es.length/\i=AB j/\ys.map Ro.A=Eb (es.take j)/\J (pre++ys) wr/\Kept w.heap.size C W wr) (λi _=>es.length - (intOf i).toNat);case atStart=>exact⟨0,[],BS,rfl,by simp[Eb],by simpa using hj,Kept.refl _ _ _⟩
 case round=>
  obtain⟨j,ys,au,rfl,V,ad,I⟩:=hrel;by_cases D:j<es.length
  .have⟨a',aw,hv,al⟩:=HS wr I.2;obtain⟨b,o,rfl,ax,av,nv,cv,kv,x0,x1,x2,x3,x4,x5,ab,aa,ac,U⟩:=al j D;simp only[BN,true_and]at hv;obtain⟨rfl,rfl⟩:=hv;have⟨b0,b1,b2⟩:=iH wr I.2;have ap:(pre++ys).length<N:=by have h1:=HN.out;have h2:ys.length=(Eb (es.take j)).length:=(by rw[<-V,Db]);have O:=(QJ es (j+1)).length_le;rw[U1 es j D]at O;simp only[DV,DT]at O⊢;omega
   have⟨T,r0,e0,_⟩:=id ab;have⟨p2,X,e2,_⟩:=id aa;have⟨p3,r3,e3,_⟩:=id ac;have⟨R,S,e1,_⟩:=id U;have aj:∀x:Ro w P,x=⟨es[j],av,nv,cv,kv,ab,aa,ac,U,hf _ (DY D)⟩->∀d,J (pre++ys) d->YieldAt Fence.wide (m - 1) prog l #[.agg #[AB es[j].N.kind,AB es[j].N.O.op,.slice T es[j].N.O.args.length r0,.slice p2 es[j].N.K.length X,.slice p3 es[j].C.length r3,.slice R es[j].K.length S]] d λe c=>
     (e=.returned (.bool true)/\J (pre++ys++[x]) c/\Kept w.heap.size C d c)\/(e=.returned (.bool false)/\u (pre++ys++[x]) c):=by
    intro x Z d an;have:=zM (m - 1) (pre++ys) x d an ap
    rw[Z]at this⊢;simp only[e0,e1,e2,e3]at this⊢;exact this
   obtain⟨x,Z⟩:∃x:Ro w P,x=⟨es[j],av,nv,cv,kv,ab,aa,ac,U,hf _ (DY D)⟩:=⟨_,rfl⟩;have HV:=BZ (aj x Z);have uH:Hid (x.A=es[j]):=(by show _=_;rw[Z]);have kH:=BZ U;clear aj Z;have⟨y,hy⟩:=AA (es[j]);(rw[<-hy]at x0 x1 HV uH kH e0 e1 e2 e3;have qC:=BZ hy;rw[e0]at x2;rw[e2]at x3;rw[e3]at x4;rw[e1]at x5 kH;clear ab aa ac U e0 e1 e2 e3 hy;have hZ:¬C wr.heap.size:=λh=>by have:=ar _ h;have:=I.2.size;omega);have yT:=Bd b0;have uG:=Bd b1;have pW:=Bd b2;gi_wp2;have⟨d,r⟩:=AA (wr.alloc (A5 y T r0 p2 X p3 r3 R S 66));(rw[<-r];have c0:d.cell? (AK Y 0)=some (.func (.yield l) #[] #[]):=by rw[r];simp[go_sem,b0,yT]);have c1:d.cell? (AK B 0)=some (.func (.func 187) #[] #[AH Y,AH B,AH K]):=(by rw[r];simp[go_sem,b1,uG]);have c2:d.cell? (AK K 0)=some (.func (.func 164) #[] #[]):=(by rw[r];simp[go_sem,b2,pW]);have⟨z,A⟩:=AA wr.heap.size;rw[<-A]at hZ⊢;have d0:d.cell? (AK z 0)=some (AB y.N.kind):=xAx;have d1:d.cell? (AK z 1)=some (AB y.N.O.op):=xAx;have d2:d.cell? (AK z 2)=some (AE T y.N.O.args.length r0):=xAx;have d3:d.cell? (AK z 3)=some (AE p2 y.N.K.length X):=xAx;have d4:d.cell? (AK z 4)=some (AE p3 y.C.length r3):=xAx;have d5:d.cell? (AK z 5)=some (AE R y.K.length S):=xAx;have ae:AO wr d:=(by rw[r];exact Aa _ _);have ai:Kept w.heap.size C W d:=I.t (Kept.of_below (DU HB.size I.1.size) ae);have af:J (pre++ys) d.drew:=qI _ _ _ ad ae.drew;clear r ae b0 b1 b2 x0 x1 x2 x3 x4 x5 yT uG pW ad I A;have⟨fn,tmps,assign,body,gu,hR⟩:=HV d.drew af;clear HV af
   have ak:Hid (∀(e:Ending) (g:AU),(e=.returned (.bool true)/\J (pre++ys++[x]) g/\Kept w.heap.size C d.drew g)->g.cell? (AK B 0)=some (.func (.func 187) #[] #[AH Y,AH B,AH K])/\g.cell? (AK K 0)=some (.func (.func 164) #[] #[])/\
     g.cell? (AK z 0)=some (AB y.N.kind)/\g.cell? (AK z 1)=some (AB y.N.O.op)/\g.cell? (AK z 2)=some (AE T y.N.O.args.length r0)/\g.cell? (AK z 3)=some (AE p2 y.N.K.length X)/\g.cell? (AK z 4)=some (AE p3 y.C.length r3)/\g.cell? (AK z 5)=some (AE R y.K.length S)):=
    λe g h=>⟨h.2.2.2.cell lH c1,h.2.2.2.cell jY c2,h.2.2.2.cell hZ d0,h.2.2.2.cell hZ d1,h.2.2.2.cell hZ d2,h.2.2.2.cell hZ d3,h.2.2.2.cell hZ d4,h.2.2.2.cell hZ d5⟩
   have zX:Hid (∀g q,Kept w.heap.size C d.drew g->AO g q->Kept w.heap.size C W q):=λg q h2 O=>((ai.t ⟨(BP _ _).drew,(Kz.refl _ _).drew⟩).t h2).t (Kept.of_below (DU (DU HB.size ai.1.size) h2.1.size) O)
   have iU:Hid (∀q,J (pre++ys++[x]) q->Kept w.heap.size C W q->CallsIn Fence.wide (m - 1) prog 187 #[AE R y.K.length S,AH Y,AH B,AH K] q λe c=>
     (e=.returned (.bool true)/\∃zs:List (Ro w P),zs.map Ro.A=Eb y.K/\J (pre++ys++[x]++zs) c/\Kept w.heap.size C q c)\/
     (e=.returned (.bool false)/\∃zs:List (Ro w P),zs.map Ro.A<+:Eb y.K/\u (pre++ys++[x]++zs) c)):=by
    intro q ao L;have ag:AO w q:=HB.trans L.1;refine IH y (by rw[qC.out];exact DY D) (m - 1) _ _ q (Ol.of_at kH ag hC) (iH q L.2) ao ag (DU hM L.2.size) ?_;have h1:=HN.out;have h2:ys.length=(Eb (es.take j)).length:=by rw[<-V,Db]
    have O:=(QJ es (j+1)).length_le;rw[U1 es j D,<-qC.out]at O;simp only[DV,DT,DW]at O⊢;omega
   have jK:Hid (∀zs:List (Ro w P),zs.map Ro.A=Eb y.K->(ys++[x]++zs).map Ro.A=Eb (es.take (j+1))):=(by intro zs hzs;rw[U1 es j D,D4,D4,V,hzs,<-qC.out];simp[uH.out]);have iV:Hid (∀zs:List (Ro w P),zs.map Ro.A<+:Eb y.K->(ys++[x]++zs).map Ro.A<+:Eb es):=(by intro zs hzs;refine List.IsPrefix.trans ?_ (QJ es (j+1));rw[U1 es j D,D4,D4,V,<-qC.out];obtain⟨t,ht⟩:=hzs;exact⟨t,by simp[uH.out,<-ht]⟩);have oH:Hid ((ys++[x]).map Ro.A<+:Eb es):=(by show _<+:_;have:=iV.out [] BU;simpa using this);(refine wpIn_region_any BW ?_;try(change wpAnyIn _ _ _ _ _ _ _ _ _ (World.drew _)));apply share;{exact zj0};refine wpAnyIn_ready (rs:=[2]) BW BU ?_;refine AllReadyIn.cons rfl (λKK aC=>?_) AllReadyIn.nil;go_simp;refine⟨λh=>CQ,?_⟩;refine hR.mono ?_;rintro e g (⟨rfl,H,L⟩|⟨rfl,hx3⟩);{refine aC _ _ ?_;clear aC KK;have⟨f1,f2,g0,g1,g2,g3,g4,g5⟩:=ak _ _ ⟨rfl,H,L⟩;apply share;{intro key1;apply share;{exact zp};refine wpAnyIn_ready (rs:=[5,8]) BW BU ?_;refine Js rfl ?_ ?_;{exact key1};refine AllReadyIn.cons rfl (λKK aC=>?_) ?_;{go_simp;refine⟨trivial,λh=>CQ,?_⟩;refine(callsIn_wide.2 (ct _ _ _ _ _ _ _ _ _ _ _ _ _ _ _)).mono ?_;rintro e q⟨rfl,E⟩;refine aC _ _ ?_;clear aC KK;have h1:=(E.cell (p:=(AK B 0)) (Bd f1)).trans f1;have H:=qI _ _ _ H E;have hkW:Kept w.heap.size C W q:=zX _ _ L E;refine Su [5] ?_;refine wpAnyIn_ready (rs:=[9]) BW BU ?_;refine AllReadyIn.cons rfl (λKK aC=>?_) AllReadyIn.nil;go_simp;refine⟨trivial,λh=>CQ,?_⟩;refine(iU _ H hkW).mono ?_;rintro e W4 (⟨rfl,zs,hzs,uD,hk4⟩|⟨rfl,zs,hzs,hx4⟩);{exact zw};exact zP};exact AllReadyIn.nil};refine wpAnyIn_ready (rs:=[8]) BW BU ?_;refine AllReadyIn.cons rfl (λKK aC=>?_) AllReadyIn.nil;go_simp;refine⟨trivial,λh=>CQ,?_⟩;refine(callsIn_wide.2 (ct _ _ _ _ _ _ _ _ _ _ _ _ _ _ _)).mono ?_;rintro e q⟨rfl,E⟩;refine aC _ _ ?_;clear aC KK;have h1:=(E.cell (p:=(AK B 0)) (Bd f1)).trans f1;have H:=qI _ _ _ H E;have hkW:Kept w.heap.size C W q:=zX _ _ L E;refine wpAnyIn_ready (rs:=[9]) BW BU ?_;refine AllReadyIn.cons rfl (λKK aC=>?_) AllReadyIn.nil;go_simp;refine⟨trivial,λh=>CQ,?_⟩;refine(iU _ H hkW).mono ?_;rintro e W4 (⟨rfl,zs,hzs,uD,hk4⟩|⟨rfl,zs,hzs,hx4⟩);{exact zw};exact zP};exact zj
  gi_wp2;go_ret;refine .inl ⟨rfl,ys,?_,ad,I⟩;rw[V,E0 BS]
end
section
open Go.RowKit Go.Sort Go.BigFrame Go.Shelf
def tX(w:AU)(P:Stil.DK->Prop)(v:∀x,P x->x.K.length<=1048576/\∀y∈x.K,P y)(C:Φ)(o:∀k,C k->w.heap.size<=k)(M l Y B K N:Nat)(q:∀k,C k->k<M)(j:¬C Y)(t:¬C B)(i:¬C K)(J d:List (Uk w P)->World->Prop)
  (u:∀s W c,J s W->AO W c->J s c)
  (p:∀m pre(x:Uk w P)W,J pre W->pre.length<N->YieldAt Fence.wide m prog l #[.agg #[AB x.N.kind,AB x.N.O.op,x.av,x.kv]] W λe c=>(e=.returned (.bool true)/\J (pre++[x]) c/\Kept w.heap.size C W c)\/(e=.returned (.bool false)/\d (pre++[x]) c))
  (es:Ξ) (hl:es.length<=1048576) (g:∀x∈es,P x):MB w P C M l Y B K N J d es:=by
 refine ZJ w P C o M l Y B K N q j t i J d u p es hl g (λx D=>?_);have key:∀n:Stil.DK,P n->MB w P C M l Y B K N J d n.K:=by
  intro n;induction n using Gp with
  |h a b kids A=>intro z;have f:=v _ z;exact ZJ w P C o M l Y B K N q j t i J d u p kids f.1 f.2 (λy r=>A y r (f.2 y r))
 exact key x (g x D)
def zpa {p:Prop}(h:p:=by
 gi_wp2_with(refine⟨trivial,λh=>CQ,?_⟩;refine(iU _ BV (by simp[go_sem]) (by simp[go_sem])).mono ?_;rintro e W3 (⟨rfl,ys,hys,hJ3,_⟩|⟨rfl,ys,hys,hx3⟩))
 .go_end0;exact⟨⟨_,rfl⟩,.inl ⟨ys,hys,by simpa using hJ3⟩⟩
 go_end0;exact⟨⟨_,rfl⟩, .inr ⟨ys,hys,by simpa using hx3⟩⟩):p:=h
def cg(w:AU)(P:Stil.DK->Prop)(R:∀x,P x->x.K.length<=1048576/\∀y∈x.K,P y)(C:Φ)(H:∀k,C k->w.heap.size<=k)(M A K:Nat)(j:∀k,C k->k<M)(Q:¬C K)(_hAC:¬C A)(es:Ξ)(hl:es.length<=1048576)(u:∀x∈es,P x)(v:AW)(w0:AU)
  (o:AO w w0) (T:M<=w0.heap.size) (g:P6 w C w0 v es) (z:w0.cell? (AK A 0)=some v) (N:w0.cell? (AK K 0)=some (.func (.func 189) #[] #[])) (n:Nat):
  SeqStopsK Fence.wide n prog 200 #[AH K,AH A] (λx:Uk w P=>#[Value.agg #[AB x.N.kind,AB x.N.O.op,x.av,x.kv]]) (Kept w.heap.size C) (λys=>ys.map Uk.N=Ez es) (λpre=>pre.map Uk.N<+:Ez es) (Ez es).length w0:=by
 intro l J F W c L _ B h0;have ab:∀(d:Fn)(first cap:δ)(w:AU),(Instr.makeFunc d first cap).run prog w=.ok (.func d first cap) w:=λ_ _ _ _=>rfl;have ad:∀(d:Fn)(t q:δ)(P:AY)(w:AU)(a:Ab)(m:Mode),(store a (.func d t q) m).run P w=stored P w a (.func d t q) m:=λd t q P w a m=>run_store P w a _ m rfl;have U:=(c.cell (p:=(AK A 0)) (Bd z)).tr z;have D:=(c.cell (p:=(AK K 0)) (Bd N)).tr N;have ac:=Bd U;have pW:=Bd D;have aa:=c.size
 have iU:Hid (∀b,AO W b->b.c (AL W 0)=some (.func (.yield l) #[] #[])->b.c (AK (W.heap.size+1) 0)=some (.func (.func 201) #[] #[AH W.heap.size,AH (W.heap.size+1),AH K])->
   CallsIn Fence.wide (n - 1) prog 201 #[v,AH W.heap.size,AH (W.heap.size+1),AH K] b λe r=>
    (e=.returned (.bool true)/\∃ys:List (Uk w P),ys.map Uk.N=Ez es/\J ([]++ys) r/\Kept w.heap.size C b r)\/
    (e=.returned (.bool false)/\∃ys:List (Uk w P),ys.map Uk.N<+:Ez es/\F ([]++ys) r)):=by
  intro b i hy Z;have G:∀(s:List (Uk w P))(X Y:AU),J s X->AO X Y->J s Y:=λs X Y g f=>L s X Y none g ⟨f.os,f.tape,f.output,f.size,λk hk _=>f.block k hk⟩ (λae e=>by cases e)
  have O:=(o.tr (c.mo o.size)).tr (i.mo (DU o.size c.size));refine tX w P R C H M l W.heap.size (W.heap.size+1) K (Ez es).length j (λh=>by have:=j _ h;omega) (λh=>by have:=j _ h;omega) Q J F G (λm pre x X V S=>YieldAt.anyDepth rfl m (B pre x X V S)) es hl u (n - 1) v [] b (g.keep ((Kz.of_below c).call i)) ⟨hy,Z,(i.cell (p:=(AK K 0)) pW).tr D⟩ (G _ _ _ h0 i) O (DU T (DU c.size i.size)) BU
 obtain⟨I,sl,E,rfl⟩:∃I sl E,v=.slice I sl E:=xBv;clear B L g hl u H j;refine callsIn_of_wp func200 rfl trivial ?_ rfl;simp only[ntmps200,D1,DT,DW,Nat.reduceAdd,Nat.reduceSub,EV,EW,EY,EX,ED,EA];exact zpa
def ym(a:Δ)(g cap:Nat)(w:AU):Calls prog 188 #[.slice a g cap,.func (.func 189) #[] #[]] w λe f=>e=.returned (.func (.func 200) #[] #[.pointer (some ⟨w.heap.size+1,0,none⟩),.pointer (some ⟨w.heap.size,0,none⟩)])/\
  f.cell? ⟨w.heap.size,0,none⟩=some (.slice a g cap)/\f.cell? ⟨w.heap.size+1,0,none⟩=some (.func (.func 189) #[] #[])/\Below w.heap.size w f:=by have i:∀(b:Fn)(first cap:δ)(w:AU),(Instr.makeFunc b first cap).run prog w=.ok (.func b first cap) w:=λ_ _ _ _=>rfl;have j:∀(b:Fn)(c d:δ)(P:AY)(w:AU)(a:Ab)(m:Mode),(store a (.func b c d) m).run P w=stored P w a (.func b c d) m:=λb c d P w a m=>run_store P w a _ m rfl;go_enter func188,ntmps188;go_wp2;go_ret;exact⟨rfl,by simp[go_sem],by simp[go_sem],BV⟩
def tY(w:AU)(P:Stil.DL->Prop)(v:∀x,P x->x.K.length<=1048576/\∀y∈x.K,P y)(C:Φ)(o:∀k,C k->w.heap.size<=k)(M l Y B K N:Nat)(q:∀k,C k->k<M)(j:¬C Y)(t:¬C B)(i:¬C K)(J d:List (Ro w P)->World->Prop)
  (u:∀s W c,J s W->AO W c->J s c)
  (p:∀m pre(x:Ro w P)W,J pre W->pre.length<N->YieldAt Fence.wide m prog l #[.agg #[AB x.A.N.kind,AB x.A.N.O.op,x.av,x.nv,x.cv,x.kv]] W λe c=>(e=.returned (.bool true)/\J (pre++[x]) c/\Kept w.heap.size C W c)\/(e=.returned (.bool false)/\d (pre++[x]) c))
  (es:Ek) (hl:es.length<=1048576) (g:∀x∈es,P x):MC w P C M l Y B K N J d es:=by
 refine ZK w P C o M l Y B K N q j t i J d u p es hl g (λx D=>?_);have key:∀n:Stil.DL,P n->MC w P C M l Y B K N J d n.K:=by
  intro n;induction n using Fz with
  |h a b kids A=>intro z;have f:=v _ z;exact ZK w P C o M l Y B K N q j t i J d u p kids f.1 f.2 (λy r=>A y r (f.2 y r))
 exact key x (g x D)
def ck(w:AU)(P:Stil.DL->Prop)(R:∀x,P x->x.K.length<=1048576/\∀y∈x.K,P y)(C:Φ)(H:∀k,C k->w.heap.size<=k)(M A K:Nat)(j:∀k,C k->k<M)(Q:¬C K)(_hAC:¬C A)(es:Ek)(hl:es.length<=1048576)(u:∀x∈es,P x)(v:AW)(w0:AU)
  (o:AO w w0) (T:M<=w0.heap.size) (g:Ol w C w0 v es) (z:w0.cell? (AK A 0)=some v) (N:w0.cell? (AK K 0)=some (.func (.func 164) #[] #[])) (n:Nat):
  SeqStopsK Fence.wide n prog 186 #[AH K,AH A] (λx:Ro w P=>#[Value.agg #[AB x.A.N.kind,AB x.A.N.O.op,x.av,x.nv,x.cv,x.kv]]) (Kept w.heap.size C) (λys=>ys.map Ro.A=Eb es) (λpre=>pre.map Ro.A<+:Eb es) (Eb es).length w0:=by
 intro l J F W c L _ B h0;have ab:∀(d:Fn)(first cap:δ)(w:AU),(Instr.makeFunc d first cap).run prog w=.ok (.func d first cap) w:=λ_ _ _ _=>rfl;have ad:∀(d:Fn)(t q:δ)(P:AY)(w:AU)(a:Ab)(m:Mode),(store a (.func d t q) m).run P w=stored P w a (.func d t q) m:=λd t q P w a m=>run_store P w a _ m rfl;have U:=(c.cell (p:=(AK A 0)) (Bd z)).tr z;have D:=(c.cell (p:=(AK K 0)) (Bd N)).tr N;have ac:=Bd U;have pW:=Bd D;have aa:=c.size
 have iU:Hid (∀b,AO W b->b.c (AL W 0)=some (.func (.yield l) #[] #[])->b.c (AK (W.heap.size+1) 0)=some (.func (.func 187) #[] #[AH W.heap.size,AH (W.heap.size+1),AH K])->
   CallsIn Fence.wide (n - 1) prog 187 #[v,AH W.heap.size,AH (W.heap.size+1),AH K] b λe r=>
    (e=.returned (.bool true)/\∃ys:List (Ro w P),ys.map Ro.A=Eb es/\J ([]++ys) r/\Kept w.heap.size C b r)\/
    (e=.returned (.bool false)/\∃ys:List (Ro w P),ys.map Ro.A<+:Eb es/\F ([]++ys) r)):=by
  intro b i hy Z;have G:∀(s:List (Ro w P))(X Y:AU),J s X->AO X Y->J s Y:=λs X Y g f=>L s X Y none g ⟨f.os,f.tape,f.output,f.size,λk hk _=>f.block k hk⟩ (λae e=>by cases e)
  have O:=(o.tr (c.mo o.size)).tr (i.mo (DU o.size c.size));refine tY w P R C H M l W.heap.size (W.heap.size+1) K (Eb es).length j (λh=>by have:=j _ h;omega) (λh=>by have:=j _ h;omega) Q J F G (λm pre x X V S=>YieldAt.anyDepth rfl m (B pre x X V S)) es hl u (n - 1) v [] b (g.keep ((Kz.of_below c).call i)) ⟨hy,Z,(i.cell (p:=(AK K 0)) pW).tr D⟩ (G _ _ _ h0 i) O (DU T (DU c.size i.size)) BU
 obtain⟨I,sl,E,rfl⟩:∃I sl E,v=.slice I sl E:=xBv;clear B L g hl u H j;refine callsIn_of_wp func186 rfl trivial ?_ rfl;simp only[ntmps186,D1,DT,DW,Nat.reduceAdd,Nat.reduceSub,EV,EW,EY,EX,ED,EA];exact zpa
def yo(a:Δ)(g cap:Nat)(w:AU):Calls prog 163 #[AE a g cap,.func (.func 164) #[] #[]] w λe f=>e=.returned (.func (.func 186) #[] #[AH (w.heap.size+1),AH w.heap.size])/\
  f.cell? (AL w 0)=some (AE a g cap)/\f.cell? (AK (w.heap.size+1) 0)=some (.func (.func 164) #[] #[])/\AO w f:=by have i:∀(b:Fn)(first cap:δ)(w:AU),(Instr.makeFunc b first cap).run prog w=.ok (.func b first cap) w:=λ_ _ _ _=>rfl;have j:∀(b:Fn)(c d:δ)(P:AY)(w:AU)(a:Ab)(m:Mode),(store a (.func b c d) m).run P w=stored P w a (.func b c d) m:=λb c d P w a m=>run_store P w a _ m rfl;go_enter func163,ntmps163;go_wp2;go_ret;exact⟨rfl,xAa,xAa,BV⟩
end
section
open Go.RowKit Go.Sort Go.BigFrame Go.Shelf
attribute [local go_sem] Oper.semAt_some
def ZL(k op:Int)(l p:Δ)(d f c cap:Nat)(w:AU):
  Calls prog 166 #[.agg #[.int .i64 k,.int .i64 op,.slice l d f,.slice p c cap]] w λe a=>∃b A K,e=.returned (.func (.func 200) #[] #[.pointer (some ⟨K,0,none⟩),.pointer (some ⟨A,0,none⟩)])/\w.heap.size<=b/\w.heap.size<=A/\w.heap.size<=K/\
   a.cell? ⟨A,0,none⟩=some (.slice (some ⟨b,0,none⟩) 1 1)/\a.cell? ⟨K,0,none⟩=some (.func (.func 189) #[] #[])/\
   a.cell? ⟨b,0,none⟩=some (.int .i64 k)/\a.cell? ⟨b,1,none⟩=some (.int .i64 op)/\a.cell? ⟨b,2,none⟩=some (.slice l d f)/\a.cell? ⟨b,3,none⟩=some (.slice p c cap)/\Below w.heap.size w a:=by have o:∀(i:Fn)(first cap:δ)(w:AU),(Instr.makeFunc i first cap).run prog w=.ok (.func i first cap) w:=λ_ _ _ _=>rfl;go_enter func166,ntmps166;go_wp2_with(go_at_call 188;refine(ym _ _ _ _).mono ?_;rintro e q⟨rfl,j,g,m⟩);simp only[BG]at j g;go_ret;refine⟨w.heap.size+1,_,_,rfl,BS,BS,BS,j,g,?_,?_,?_,?_,BV⟩;all_goals(rw[m.cell (p:=⟨w.heap.size+1,_,none⟩) BU];simp[go_sem])
def ZM(a:Δ)(c cap:Nat)(w:AU):
  Calls prog 123 #[AE a c cap] w λe b=>∃A K,e=.returned (.func (.func 186) #[] #[AH K,AH A])/\w.heap.size<=A/\w.heap.size<=K/\
   b.cell? (AK A 0)=some (AE a c cap)/\b.cell? (AK K 0)=some (.func (.func 164) #[] #[])/\AO w b:=by have i:∀(d:Fn)(first cap:δ)(w:AU),(Instr.makeFunc d first cap).run prog w=.ok (.func d first cap) w:=λ_ _ _ _=>rfl;go_enter func123,ntmps123;go_wp2_with(go_at_call 163;refine(yo _ _ _ _).mo ?_;rintro e j⟨rfl,g,f,k⟩);go_ret;exact⟨_,_,rfl,BS,BS,g,f,BV⟩
def zEa{p:Prop}(h:p:=by gi_wp2;refine⟨BU, .inl ⟨_,_,rfl,run_takeDeferred hK,?_⟩⟩;exact⟨_,results_tmp rfl _ _ _,z,rfl,λ_=>rfl,λh=>h,DN _,hB.tr (belowK_b (w:=w) (DN _) W D _ _ BS hK rfl rfl)⟩):p:=h
def y9(n:Stil.DK)(U T:AW)(d:Int)(w:AU)(Q:Aq w U n.O.args)(P:Eg w T n.K)(G:Ci n)(ac:Ad n<=1000000000)(_hl1:-9223372036854775808<=d)(_hl2:d<=9223372036854775807):
  Calls prog 125 #[.agg #[AB n.kind,AB n.O.op,U,T],AB d] w λe w'=>∃r:Nat,e=.returned (AB r)/\((Ad n:Int)<=d->r=Ad n)/\(d<Ad n->d<r)/\r<=Ad n/\AO w w':=by
 have m:Hid ((Ez [n]).length=Ad n):=by show _=_;rw[Wg,Au7]
 have⟨z,Z⟩:=AA (Ad n);rw[<-Z]at ac m⊢;clear Z;refine(callsIn_wide (n:=9)).1 ?_;have bI:=BZ Q;have zk:=BZ P;obtain⟨q,E,rfl,_⟩:=Q;obtain⟨y,F,rfl,_⟩:=P;refine callsIn_of_wp_marks func125 rfl trivial ?_ rfl;simp only[ntmps125,D1,DT,DW,Nat.reduceAdd,Nat.reduceSub,EV,EW,EY,EX,ED,EA];gi_wp2_with(refine⟨trivial,?_⟩;gi_at_call 166;refine(callsIn_wide.2 (ZL _ _ _ _ _ _ _ _ _)).mono ?_;rintro e g⟨b,A,K,rfl,ae,aa,al,H,hK,M,V,Y,J,hb⟩);simp only[BG]at ae aa al;have R:AO w g:=BV;have af:g.cell? (AK (w.heap.size+1) 0)=some (AB d):=Bn hb;have ai:g.cell? (AK (w.heap.size+1+1) 0)=some (AB 0):=Bn hb;have aj:g.frozen? (AK (w.heap.size+1+1) 0)=false:=Bt hb;have ah:w.heap.size+3<=g.heap.size:=xBq;have I:P6 w (λk=>k=w.heap.size+1+1) g (AE (some (AK b 0)) 1 1) [n]:=by refine⟨_,1,rfl,λi hi=>⟨b,0,rfl,(λh:b=_=>by omega),AE q n.O.args.length E,AE y n.K.length F,?_⟩⟩;obtain rfl:i=0:=yEh;simp only[G0,EF,IQ];exact⟨M,V,Y,J,bI.out,zk.out⟩
 have L:Hid (SeqStopsK Fence.wide (9 - 1) prog 200 #[AH K,AH A] (λx:Uk w Ci=>#[Value.agg #[AB x.N.kind,AB x.N.O.op,x.av,x.kv]]) (Kept w.heap.size (λk=>k=w.heap.size+1+1)) (λu=>u.map Uk.N=Ez [n]) (λpre=>pre.map Uk.N<+:Ez [n]) (Ez [n]).length g):=
  cg w Ci (λx S=>⟨(Ea S).2.2.1,(Ea S).2.2.2⟩) (λk=>k=w.heap.size+1+1) (λk(h:k=_)=>by omega) (w.heap.size+3) A K (λk(h:k=_)=>by omega) (λh:K=_=>by omega) (λh:A=_=>by omega) [n] BU (by simpa using G) _ g R ah I H hK _
 clear I hb M V Y J H hK G;have⟨N,X⟩:=AA ((Ez [n]).length);rw[<-X]at L;have ar:N=z:=by rw[X,m.out]
 refine wpIn_rangeFunc_ownG rfl BX (gf:=200) (lb:=#[AH K,AH A]) rfl trivial (enters_of func200 BW rfl)
  L Kept.t (Kept.b BS) (BP _ _) (λ_=>rfl)
  (λpre W=>(W.cell? (AK (w.heap.size+1+1) 0)=some (AB (pre.length:Int))/\W.frozen? (AK (w.heap.size+1+1) 0)=false/\W.cell? (AK (w.heap.size+1) 0)=some (AB d))/\AO w W)
  (λc pre W=>(c=.exit 0/\d<pre.length/\W.cell? (AK (w.heap.size+1+1) 0)=some (AB (pre.length:Int)))/\AO w W)
  (OwnFrom.and (Own.from (λs A B row f l j=>⟨cell_kept f.1 l j,(frozen_kept f.1 l j).trans f.2.1,cell_kept f.2.2 l j⟩) _) (ownFrom_below (DN _) BS))
  (λc=>OwnFrom.and (Own.from (λs A B row f l j=>⟨f.1,f.2.1,cell_kept f.2.2 l j⟩) _) (ownFrom_below (DN _) BS))
  ⟨⟨by simpa using ai,aj,af⟩,R⟩
  (λx=>{tmps:=#[A0 n q E y F,AB d,AH w.heap.size,AH (w.heap.size+1),AB 0,AH (w.heap.size+1+1), (A0 n q E y F),.func (.func 200) #[] #[AH K,AH A],.agg #[AB x.N.kind,AB x.N.O.op,x.av,x.kv],AQ,AQ,AQ,AQ,AQ,AQ],defers:=[]}) ?assign ?body ?done ?stop
 case assign=>intro an x W KK aC;gi_wp2;simpa using aC
 case body=>
  rintro an pre x W⟨⟨o,ab,ak⟩,hB⟩ ao;have au:=Bd o;have hw:IntKind.i64.wrap ((pre.length:Int)+1)=(pre.length:Int)+1:=xAe;have O:(W.setCell (AK (w.heap.size+1+1) 0) (AB ((pre.length:Int)+1))).cell? (AK (w.heap.size+1+1) 0)=some (AB ((pre++[x]).length:Int)):=by rw[Ff o];simp
  by_cases ap:d<(pre.length:Int)+1;{gi_wp2;exact⟨(KeepsOthers.setCell _ _ _).from _,⟨rfl,B1,O⟩,hB.setCell (p:=(AK (w.heap.size+1+1) 0)) B1 _⟩};gi_wp2;exact⟨(KeepsOthers.setCell _ _ _).from _,⟨(BP _ W).setCell (p:=(AK (w.heap.size+1+1) 0)) B1 _,Kz.set (C:=λk=>k=w.heap.size+1+1) (Kz.refl _ _) (show _=_ from rfl) _⟩,⟨O,xAu,by rwa[Ec BS]⟩,hB.setCell (p:=(AK (w.heap.size+1+1) 0)) B1 _⟩
 case done=>
  rintro D u W hD hS⟨⟨o,_⟩,hB⟩ hK;have ag:u.length=z:=by have:=congrArg List.length hS;rw[Db,m.out]at this;exact this
  exact zEa
 case stop=>
  rintro D c pre W hD ad⟨⟨rfl,aw,o⟩,hB⟩ hK;have ag:pre.length<=z:=by have:=ad.length_le;rw[Db,m.out]at this;exact this
  gi_wp2;refine⟨BU,.inl ⟨_,_,rfl,run_takeDeferred hK,?_⟩⟩;exact⟨_,results_tmp rfl _ _ _,pre.length,rfl,λh=>by omega,λh=>by omega,BS,hB.trans (belowK_b (w:=w) (DN _) W D _ _ BS hK rfl rfl)⟩
end
section
open Go.RowKit Go.Sort Go.BigFrame Go.Shelf
attribute [local go_sem] Oper.semAt_some
def Ux(n:Stil.DK)(v t:AW)(w:AU)(y:Aq w v n.O.args)(D:Eg w t n.K)(c:Ci n):
  Calls prog 124 #[.agg #[AB n.kind,AB n.O.op,v,t]] w (AN w (.bool (Aj n))):=by
 have⟨_,o,E,_⟩:=Ea c;have C:=o.2.1;obtain⟨z,B,rfl,_⟩:=y;obtain⟨G,H,rfl,_⟩:=D;clear c o;have a:Hid (Aj n=((n.kind==0 && (n.O.op==0 && n.O.args.length==0)) && n.K.length==0)):=by show _=_;unfold Aj;simp only[Bool.and_assoc]
 have b:Hid (∀W,Calls prog 165 #[.agg #[AB n.O.op,AE z n.O.args.length B]] W (AN W (.bool (n.O.op==0 && n.O.args.length==0)))):=λW=>QH _ _ _ _ _ BS;have⟨j,m⟩:=AA ((n.O.op==0 && n.O.args.length==0));rw[<-m]at a b;have⟨g,r⟩:=AA n.K.length;have⟨l,u⟩:=AA n.O.args.length;rw[<-r]at a E⊢;rw[<-u]at b C⊢;have⟨k,x⟩:=AA n.kind;rw[<-x]at a⊢;clear m r u x;by_cases q:k=0
 .subst q;cases j;{go_enter func124,ntmps124;go_wp2_with(go_at_call 165;refine(b _).mo ?_;rintro e s⟨rfl,f⟩);(all_goals go_ret);all_goals exact⟨Ac (by rw[a.out];simp),BV⟩};by_cases d:g=0;{subst d;go_enter func124,ntmps124;go_wp2_with(go_at_call 165;refine(b _).mo ?_;rintro e s⟨rfl,f⟩;have⟨A,c⟩:=F7 f);(all_goals go_ret);all_goals exact⟨Ac (by rw[a.out];simp),BV⟩};have F:((g:Int)==0)=false:=by rw[DX];omega
  go_enter func124,ntmps124;go_wp2_with(go_at_call 165;refine(b _).mo ?_;rintro e s⟨rfl,f⟩;have⟨A,c⟩:=F7 f);all_goals go_ret
  all_goals exact⟨Ac (by rw[a.out];simp[d]),BV⟩
 have d:(k==0)=false:=by rwa[DX]
 go_enter func124,ntmps124;go_wp2;all_goals go_ret
 all_goals exact⟨Ac (by rw[a.out,d];rfl),BV⟩
end
open Go.RowKit Go.Sort Go.BigFrame Go.Shelf
attribute [local go_sem] Oper.semAt_some
def PS(W:AU)(B:Nat)(k op:Int)(a n c d:AW):Prop:=W.cell? (AK B 0)=some (AB k)/\W.cell? (AK B 1)=some (AB op)/\W.cell? (AK B 2)=some a/\W.cell? (AK B 3)=some n/\W.cell? (AK B 4)=some c/\W.cell? (AK B 5)=some d
def ZG{β:Type}(B:Nat)(k op:Int)(a n c d:AW):Own (λ(_:β)W=>PS W B k op a n c d):=λ_ _ _ _ f e b=>
 ⟨cell_kept f.1 e b,cell_kept f.2.1 e b,cell_kept f.2.2.1 e b,cell_kept f.2.2.2.1 e b,cell_kept f.2.2.2.2.1 e b,cell_kept f.2.2.2.2.2 e b⟩
def zm {p:Prop}(h:p:=by
 have hrn:r=ns:=by by_cases h:(ns:Int)<=limit - ((S:Int)+(1+cn));{exact hr1 h};have:=hr2 BS;omega
 gi_wp2;exact⟨yQa,SQ (b:=w.heap.size+1) (Xd (Azy (Xd (SQ (b:=w.heap.size+1) (Kept.refl w.heap.size (λk=>k=w.heap.size+1) W) CX rfl _) hn hb2)) hn hb3) CX rfl _,⟨⟨⟨by rw[Ff c3,cZ.out,hoe];simp;omega,by rw[World.frozen?_setCell];exact z3,by rw[Ec CX];exact l3⟩,BV⟩,by rw[cZ.out];omega,by rw[cZ.out,jR.out];omega,by have:=hb2.size;have:=hb3.size;simp at*;omega⟩⟩):p:=h
def zg0{p:Prop}(h:p:=by gi_wp2;exact⟨yQa,⟨rfl,S+(1+cn)+r,by omega,by rw[cZ.out];omega,by rw[Ff c3];simp⟩,BV⟩):p:=h
def zQa {p:Prop}(h:p:=by
 refine aC _ _ ?_;clear aC KK;refine Su [8] ?_;refine wpAnyIn_done BW ?_ _;by_cases hgt:limit<(S:Int)+(1+cn)+r
 .exact zg0
 exact zm):p:=h
def ya(d:Ek)(v:AW)(limit:Int)(w:AU)(aa:Dj w v d)(hf:∀x∈d,Ba x)(hl:d.length<=1048576)(ak:Aw d<=1000000000)(ay:0<=limit)(aR:limit<=9223372036854775807):
  Calls prog 75 #[v,AB limit] w λe T=>∃r:Nat,e=.returned (AB r)/\((Aw d:Int)<=limit->r=Aw d)/\(limit<Aw d->limit<r)/\r<=Aw d/\AO w T:=by
 have R:Hid (((Eb d).map Qb).sum=Aw d):=Ark d;have⟨z,hz⟩:=AA (Aw d);rw[<-hz]at ak R⊢;clear hz;have rE:Hid (∀W,AO w W->Ol w (λk=>k=w.heap.size+1) W v d):=λW h=>Ol.of_at aa h (λk(h:k=_)=>by omega);obtain⟨p0,r0,rfl,_⟩:=aa;refine(callsIn_wide (n:=9)).1 ?_;refine callsIn_of_wp_marks func75 rfl trivial ?_ rfl;simp only[ntmps75,D1,DT,DW,Nat.reduceAdd,Nat.reduceSub,EV,EW,EY,EX,ED,EA];gi_wp2_with(refine⟨trivial,?_⟩;gi_at_call 123;refine(callsIn_wide.2 (ZM _ _ _ _)).mono ?_;rintro e u⟨A,K,rfl,ar,aM,hA,hK,hb⟩);simp only[BG]at ar aM;have ad:AO w u:=BV;have aI:u.cell? (AL w 0)=some (AB limit):=by rw[hb.cell (p:=(AL w 0)) B1];simp[go_sem]
 have aw:u.cell? (AK (w.heap.size+1) 0)=some (AB 0):=Bn hb;have ax:u.frozen? (AK (w.heap.size+1) 0)=false:=Bt hb;have aK:w.heap.size+2<=u.heap.size:=xBq;have HS:Hid (SeqStopsK Fence.wide (9 - 1) prog 186 #[AH K,AH A] (λx:Ro w (λa=>a∈Eb d)=>#[Value.agg #[AB x.A.N.kind,AB x.A.N.O.op,x.av,x.nv,x.cv,x.kv]]) (Kept w.heap.size (λk=>k=w.heap.size+1)) (λys=>ys.map Ro.A=Eb d) (λpre=>pre.map Ro.A<+:Eb d) (Eb d).length u):=
  ck w (λa=>a∈Eb d) (λx C=>⟨(Io (WH d hf x C)).2.2.2.1,wJ d x C⟩) (λk=>k=w.heap.size+1) (λk(h:k=_)=>by omega) (w.heap.size+2) A K (λk(h:k=_)=>by omega) (λh:K=_=>by omega) (λh:A=_=>by omega) d hl (Arl d) _ u ad aK (rE u ad) hA hK _
 have aF:Hid (∀x∈Eb d,Qb x<=z):=λx C=>by rw[<-R.out];exact Avd _ C
 have ah:Hid (∀x∈Eb d,Ba x):=WH d hf;have aQ:(Eb d).length<=z:=by rw[<-R.out];exact QN Qb (λx=>by unfold Qb;omega) _
 clear hb hA hK hf rE;refine wpIn_rangeFunc_ownH rfl BX (gf:=186) (lb:=#[AH K,AH A]) rfl trivial (enters_of func186 BW rfl)
  HS Kept.t (Kept.b BS) (BP _ _) (λ_=>rfl)
  (λpre W=>((W.cell? (AK (w.heap.size+1) 0)=some (AB ((pre.map (Qb ∘ Ro.A)).sum:Nat))/\W.frozen? (AK (w.heap.size+1) 0)=false/\W.cell? (AL w 0)=some (AB limit))/\AO w W)/\(((pre.map (Qb ∘ Ro.A)).sum:Nat):Int)<=limit/\(pre.map (Qb ∘ Ro.A)).sum<=pre.length*z/\u.heap.size<=W.heap.size)
  (λc pre W=>(c=.exit 0/\∃t:Nat,limit<t/\t<=(pre.map (Qb ∘ Ro.A)).sum/\W.cell? (AK (w.heap.size+1) 0)=some (AB t))/\AO w W)
  (OwnFrom.and (OwnFrom.and (Own.from (λs A ac row hs y I=>⟨cell_kept hs.1 y I,(frozen_kept hs.1 y I).trans hs.2.1,cell_kept hs.2.2 y I⟩) _) (ownFrom_below (DN _) BS)) (OwnFrom.and (ownFrom_pure _ _) (OwnFrom.and (ownFrom_pure _ _) (λ_ _ _ _ hs y _=>DU hs y.size))))
  (λc=>OwnFrom.and (Own.from (λs A ac row hs y I=>⟨hs.1,hs.2.elim λt ht=>⟨t,ht.1,ht.2.1,cell_kept ht.2.2 y I⟩⟩) _) (ownFrom_below (DN _) BS))
  ⟨⟨⟨by simpa using aw,ax,aI⟩,ad⟩,by simpa using ay,BU,DN _⟩
  (λx a' W=>∃g,u.heap.size<=g/\PS W g x.A.N.kind x.A.N.O.op x.av x.nv x.cv x.kv/\a'={tmps:=#[AE p0 d.length r0,AB limit,AQ,AH w.heap.size,AB 0,AH (w.heap.size+1),AH g,AE p0 d.length r0,.func (.func 186) #[] #[AH K,AH A],.agg #[AB x.A.N.kind,AB x.A.N.O.op,x.av,x.nv,x.cv,x.kv],AQ,AQ,AQ,AQ,AQ,AQ,AQ,AQ,AQ,AQ,AQ,AQ,AQ,AQ,AQ,AQ,AQ,AQ,AQ,AQ,AQ,AQ],defers:=[]})
  (λx a' s A ac row hs y I=>hs.elim λg C=>⟨g,C.1,ZG (β:=Unit) g _ _ _ _ _ _ s A ac row C.2.1 y (λr e=>(I r e).2),C.2.2⟩) ?assign ?body ?done ?stop
 case assign=>rintro l pre x W KK⟨⟨⟨m,hfz,V⟩,hB⟩,O,ae,aA⟩ aC;have az:w.heap.size+1<W.heap.size:=Bd m;obtain⟨x,av,nv,cv,kv,aa,ap,aL,au,mO⟩:=x;obtain⟨q0,s0,rfl,_⟩:=id aa;obtain⟨q1,s1,rfl,_⟩:=id ap;obtain⟨q2,s2,rfl,_⟩:=id aL;obtain⟨q3,s3,rfl,_⟩:=id au;gi_wp2;exact aC _ _ ((KeepsOthers.alloc _ _).from _) (Kept.of_below hB.size (Aa _ _)) ⟨⟨⟨Pz _ m,Qh _ m hfz,Pz _ V⟩,BV⟩,O,ae,B1⟩ ⟨W.heap.size,BS,⟨xAa,xAa,xAa,xAa,xAa,xAa⟩,rfl⟩
 case body=>
  rintro l pre x a' W aJ _⟨⟨⟨m,hfz,V⟩,hB⟩,O,ae,aA⟩ ⟨g,aS,⟨y0,y1,y2,y3,y4,y5⟩,rfl⟩ aD;have az:w.heap.size+1<W.heap.size:=Bd m;have aT:w.heap.size<W.heap.size:=BS;have uG:g<W.heap.size:=Bd y0;have hn:w.heap.size<=W.heap.size:=BS;have Y:¬g=w.heap.size+1:=BS;have aU:¬g=w.heap.size:=BS;have cZ:Hid (((pre++[x]).map (Qb ∘ Ro.A)).sum=(pre.map (Qb ∘ Ro.A)).sum+Qb x.A):=by show _=_;rw[D4,KE];simp
  have jR:Hid ((pre++[x]).length*z=pre.length*z+z):=by show _=_;rw[DV,Nat.add_mul];simp
  have aN:pre.length*z<=1000000000*1000000000:=Nat.mul_le_mul BS ak;have af:=(Io (ah _ x.mem)).1;have uk:=(Io (ah _ x.mem)).2.1;have aH:=aF _ x.mem;have B:Hid (Qb x.A=1+x.A.C.length+(if Aj x.A.N then 0 else Ad x.A.N)):=rfl;have⟨q0,s0,e0,_⟩:=id x.hav;have⟨q1,s1,e1,_⟩:=id x.hnv;have⟨q2,s2,e2,_⟩:=id x.hcv;have⟨q3,s3,e3,_⟩:=id x.hkv;have L:Hid (∀X,AO w X->Calls prog 124 #[.agg #[AB x.A.N.kind,AB x.A.N.O.op,x.av,x.nv]] X (AN X (.bool (Aj x.A.N)))):=λX N=>Ux x.A.N x.av x.nv X (x.hav.below N) (x.hnv.below N) af;have U:Hid (∀X,AO w X->Ad x.A.N<=1000000000->∀E,-9223372036854775808<=E->E<=9223372036854775807->Calls prog 125 #[.agg #[AB x.A.N.kind,AB x.A.N.O.op,x.av,x.nv],AB E] X λe T=>∃r:Nat,e=.returned (AB r)/\((Ad x.A.N:Int)<=E->r=Ad x.A.N)/\(E<Ad x.A.N->E<r)/\r<=Ad x.A.N/\AO X T):=λX N hs E h1 h2=>y9 x.A.N x.av x.nv E X (x.hav.below N) (x.hnv.below N) af hs h1 h2;rw[e0,e1]at L U;rw[e0]at y2;rw[e1]at y3;rw[e2]at y4;rw[e3]at y5;have⟨S,hS⟩:=AA ((pre.map (Qb ∘ Ro.A)).sum);have⟨o,ho⟩:=AA (Qb x.A);have⟨cn,ao⟩:=AA x.A.C.length;rw[<-hS]at m O ae cZ;rw[<-ho]at aH cZ B;rw[<-ao]at uk B y4;clear af hS ho ao e0 e1 e2 e3 aD aJ;cases ab:Aj x.A.N;{rw[ab]at L B;have hoe:o=1+cn+Ad x.A.N:=(by rw[B.out];simp);have⟨ns,ai⟩:=AA (Ad x.A.N);rw[<-ai]at hoe U;clear ai ab B;have an:IntKind.i64.wrap (limit - ((S:Int)+(1+cn)))=limit - ((S:Int)+(1+cn)):=xAe;gi_wp2_with(refine⟨trivial,?_⟩;gi_at_call 124;refine(CallsIn.inRound l (callsIn_wide.2 (L _ BV))).mono ?_;rintro e j⟨rfl,hb2⟩;have q:j.cell? (AK (w.heap.size+1) 0)=some (AB ((S:Int)+(1+cn))):=(hb2.cell (p:=(AK (w.heap.size+1) 0)) B1).trans (Ff m);have M:j.frozen? (AK (w.heap.size+1) 0)=false:=(hb2.frozen (p:=(AK (w.heap.size+1) 0)) B1).trans yEb;have J:j.cell? (AL w 0)=some (AB limit):=(hb2.cell (p:=(AL w 0)) B1).trans ((Ec BS).trans V);have v0:j.cell? (AK g 0)=some (AB x.A.N.kind):=(hb2.cell (p:=(AK g 0)) B1).trans ((Ec Y).trans y0);have v1:j.cell? (AK g 1)=some (AB x.A.N.O.op):=(hb2.cell (p:=(AK g 1)) B1).trans ((Ec Y).trans y1);have v2:j.cell? (AK g 2)=some (AE q0 x.A.N.O.args.length s0):=(hb2.cell (p:=(AK g 2)) B1).trans ((Ec Y).trans y2);have v3:j.cell? (AK g 3)=some (AE q1 x.A.N.K.length s1):=(hb2.cell (p:=(AK g 3)) B1).trans ((Ec Y).trans y3));(refine wpIn_region_any BW ?_;try(change wpAnyIn _ _ _ _ _ _ _ _ _ (World.drew _)));apply share;{intro sF;apply share;{intro Z;apply share;{intro rV;apply share;{intro wZ;apply share;{intro vK;apply share;{intro vJ;apply share;{intro rU;apply share;{intro al;apply share;{intro pz;apply share;{intro aj;apply share;{intro xK;apply share;{intro rZ;apply share;{intro rY;apply share;{intro rX;apply share;{intro xJ;apply share;{intro xI;apply share;{intro rW;apply share;{intro xH;apply share;{intro xG;apply share;{intro xE;apply share;{intro xC;apply share;{intro xB;apply share;{intro xA;refine wpAnyIn_ready (rs:=[0,1,3,4]) BW BU ?_;refine Js rfl ?_ ?_;{refine wpAnyIn_ready (rs:=[1,3,4]) BW BU ?_;refine Js rfl ?_ ?_;{exact xH};refine Js rfl ?_ ?_;{exact xG};refine Js rfl ?_ ?_;{exact xE};exact AllReadyIn.nil};refine Js rfl ?_ ?_;{refine wpAnyIn_ready (rs:=[0,2,3,4]) BW BU ?_;refine Js rfl ?_ ?_;{exact xH};refine Js rfl ?_ ?_;{refine wpAnyIn_ready (rs:=[0,3,4]) BW BU ?_;refine Js rfl ?_ ?_;{exact xK};refine Js rfl ?_ ?_;{exact xJ};refine Js rfl ?_ ?_;{exact xI};exact AllReadyIn.nil};refine Js rfl ?_ ?_;{exact xC};refine Js rfl ?_ ?_;{exact xB};exact AllReadyIn.nil};refine Js rfl ?_ ?_;{refine wpAnyIn_ready (rs:=[0,1,4]) BW BU ?_;refine Js rfl ?_ ?_;{exact xG};refine Js rfl ?_ ?_;{exact xC};refine Js rfl ?_ ?_;{exact xA};exact AllReadyIn.nil};refine Js rfl ?_ ?_;{refine wpAnyIn_ready (rs:=[0,1,3]) BW BU ?_;refine Js rfl ?_ ?_;{exact xE};refine Js rfl ?_ ?_;{exact xB};refine Js rfl ?_ ?_;{exact xA};exact AllReadyIn.nil};exact AllReadyIn.nil};refine wpAnyIn_ready (rs:=[0,1,5]) BW BU ?_;refine Js rfl ?_ ?_;{exact rX};refine Js rfl ?_ ?_;{exact rW};refine Js rfl ?_ ?_;{refine wpAnyIn_ready (rs:=[0,1]) BW BU ?_;refine Js rfl ?_ ?_;{exact al};refine Js rfl ?_ ?_;{exact aj};exact AllReadyIn.nil};exact AllReadyIn.nil};refine wpAnyIn_ready (rs:=[0,2,3]) BW BU ?_;refine Js rfl ?_ ?_;{exact rY};refine Js rfl ?_ ?_;{exact xI};refine Js rfl ?_ ?_;{exact rW};exact AllReadyIn.nil};refine wpAnyIn_ready (rs:=[0,2,4]) BW BU ?_;refine Js rfl ?_ ?_;{exact rZ};refine Js rfl ?_ ?_;{exact xJ};refine Js rfl ?_ ?_;{exact rW};exact AllReadyIn.nil};refine wpAnyIn_ready (rs:=[1,3]) BW BU ?_;refine Js rfl ?_ ?_;{exact rY};refine Js rfl ?_ ?_;{exact rX};exact AllReadyIn.nil};refine wpAnyIn_ready (rs:=[1,4]) BW BU ?_;refine Js rfl ?_ ?_;{exact rZ};refine Js rfl ?_ ?_;{exact rX};exact AllReadyIn.nil};refine wpAnyIn_ready (rs:=[2,3,4]) BW BU ?_;refine Js rfl ?_ ?_;{exact xK};refine Js rfl ?_ ?_;{exact rZ};refine Js rfl ?_ ?_;{exact rY};exact AllReadyIn.nil};refine wpAnyIn_ready (rs:=[0,2,5]) BW BU ?_;refine Js rfl ?_ ?_;{exact rU};refine Js rfl ?_ ?_;{exact pz};refine Js rfl ?_ ?_;{exact aj};exact AllReadyIn.nil};refine wpAnyIn_ready (rs:=[0,3]) BW BU ?_;refine Js rfl ?_ ?_;{exact vJ};refine Js rfl ?_ ?_;{exact pz};exact AllReadyIn.nil};refine wpAnyIn_ready (rs:=[0,4]) BW BU ?_;refine Js rfl ?_ ?_;{exact vK};refine Js rfl ?_ ?_;{exact pz};exact AllReadyIn.nil};refine wpAnyIn_ready (rs:=[1,5]) BW BU ?_;refine Js rfl ?_ ?_;{exact rU};refine Js rfl ?_ ?_;{exact al};exact AllReadyIn.nil};refine wpAnyIn_ready (rs:=[2,3]) BW BU ?_;refine Js rfl ?_ ?_;{exact vJ};refine Js rfl ?_ ?_;{exact rU};exact AllReadyIn.nil};refine wpAnyIn_ready (rs:=[2,4]) BW BU ?_;refine Js rfl ?_ ?_;{exact vK};refine Js rfl ?_ ?_;{exact rU};exact AllReadyIn.nil};refine wpAnyIn_ready (rs:=[3,4]) BW BU ?_;refine Js rfl ?_ ?_;{exact vK};refine Js rfl ?_ ?_;{exact vJ};exact AllReadyIn.nil};refine wpAnyIn_ready (rs:=[0,2]) BW BU ?_;refine Js rfl ?_ ?_;{exact rV};refine Js rfl ?_ ?_;{exact wZ};exact AllReadyIn.nil};refine wpAnyIn_ready (rs:=[0,5]) BW BU ?_;refine Js rfl ?_ ?_;{exact Z};refine Js rfl ?_ ?_;{exact wZ};exact AllReadyIn.nil};refine Su [1] ?_;exact rV};refine wpAnyIn_ready (rs:=[2,5]) BW BU ?_;refine Js rfl ?_ ?_;{exact Z};refine Js rfl ?_ ?_;{exact rV};exact AllReadyIn.nil};refine Su [3] ?_;exact Z};refine Su [4] ?_;exact Z};refine wpAnyIn_ready (rs:=[0,6]) BW BU ?_;refine Js rfl ?_ ?_;{exact sF};refine AllReadyIn.cons rfl (λKK aC=>?_) ?_;{go_simp;(try simp only[an]);refine⟨trivial,?_⟩;refine(CallsIn.inRound l (callsIn_wide.2 (U _ BV BS (limit - ((S:Int)+(1+cn))) BS BS))).mono ?_;rintro e H⟨r,rfl,hr1,hr2,aG,hb3⟩;refine aC _ _ ?_;clear aC KK;have c3:H.cell? (AK (w.heap.size+1) 0)=some (AB ((S:Int)+(1+cn))):=(hb3.cell (p:=(AK (w.heap.size+1) 0)) (Bd q)).trans q;have z3:H.frozen? (AK (w.heap.size+1) 0)=false:=(hb3.frozen (p:=(AK (w.heap.size+1) 0)) (Bd q)).trans M;have l3:H.cell? (AL w 0)=some (AB limit):=(hb3.cell (p:=(AL w 0)) (Bd J)).trans J;have ag:IntKind.i64.wrap ((S:Int)+(1+cn)+r)=(S:Int)+(1+cn)+r:=xAe;(refine Su [0] ?_;refine wpAnyIn_ready (rs:=[7]) BW BU ?_;refine AllReadyIn.cons rfl (λKK aC=>?_) AllReadyIn.nil;go_simp;try simp only[ag]);exact zQa};exact AllReadyIn.nil};refine Su [2] ?_;exact sF};refine Su [5] ?_;exact sF};refine wpAnyIn_ready (rs:=[6]) BW BU ?_;(refine AllReadyIn.cons rfl (λKK aC=>?_) AllReadyIn.nil;go_simp;try simp only[an]);refine⟨trivial,?_⟩;refine(CallsIn.inRound l (callsIn_wide.2 (U _ BV BS (limit - ((S:Int)+(1+cn))) BS BS))).mono ?_;rintro e H⟨r,rfl,hr1,hr2,aG,hb3⟩;refine aC _ _ ?_;clear aC KK;have c3:H.cell? (AK (w.heap.size+1) 0)=some (AB ((S:Int)+(1+cn))):=(hb3.cell (p:=(AK (w.heap.size+1) 0)) (Bd q)).trans q;have z3:H.frozen? (AK (w.heap.size+1) 0)=false:=(hb3.frozen (p:=(AK (w.heap.size+1) 0)) (Bd q)).trans M;have l3:H.cell? (AL w 0)=some (AB limit):=(hb3.cell (p:=(AL w 0)) (Bd J)).trans J;have ag:IntKind.i64.wrap ((S:Int)+(1+cn)+r)=(S:Int)+(1+cn)+r:=xAe;(refine wpAnyIn_ready (rs:=[7]) BW BU ?_;refine AllReadyIn.cons rfl (λKK aC=>?_) AllReadyIn.nil;go_simp;try simp only[ag]);exact zQa};rw[ab]at L B;have hoe:o=1+cn:=by rw[B.out];simp
  clear ab B U;by_cases hgt:limit<(S:Int)+(1+cn);{gi_wp2_with (refine⟨trivial,?_⟩;gi_at_call 124;refine(CallsIn.inRound l (callsIn_wide.2 (L _ BV))).mono ?_;rintro e j⟨rfl,hb2⟩;have q:j.cell? (AK (w.heap.size+1) 0)=some (AB ((S:Int)+(1+cn))):=(hb2.cell (p:=(AK (w.heap.size+1) 0)) B1).trans (Ff m);have M:j.frozen? (AK (w.heap.size+1) 0)=false:=(hb2.frozen (p:=(AK (w.heap.size+1) 0)) B1).trans yEb;have J:j.cell? (AL w 0)=some (AB limit):=(hb2.cell (p:=(AL w 0)) B1).trans ((Ec BS).trans V));exact⟨yQa,⟨rfl,S+(1+cn),BS,by rw[cZ.out];omega,by rw[q];simp⟩,BV⟩};gi_wp2_with (refine⟨trivial,?_⟩;gi_at_call 124;refine(CallsIn.inRound l (callsIn_wide.2 (L _ BV))).mono ?_;rintro e j⟨rfl,hb2⟩;have q:j.cell? (AK (w.heap.size+1) 0)=some (AB ((S:Int)+(1+cn))):=(hb2.cell (p:=(AK (w.heap.size+1) 0)) B1).trans (Ff m);have M:j.frozen? (AK (w.heap.size+1) 0)=false:=(hb2.frozen (p:=(AK (w.heap.size+1) 0)) B1).trans yEb;have J:j.cell? (AL w 0)=some (AB limit):=(hb2.cell (p:=(AL w 0)) B1).trans ((Ec BS).trans V));exact⟨yQa,Xd (SQ (b:=w.heap.size+1) (Kept.refl w.heap.size (λk=>k=w.heap.size+1) W) CX rfl _) hn hb2,⟨⟨⟨by rw[q,cZ.out,hoe];simp,M,J⟩,BV⟩,by rw[cZ.out];omega,by rw[cZ.out,jR.out];omega,by have:=hb2.size;simp at*;omega⟩⟩
 case done=>rintro D ys W hD hS⟨⟨⟨m,_⟩,hB⟩,O,_⟩ hK;rw[<-IW,hS,R.out]at m O;exact zEa
 case stop=>
  rintro D c pre W hD aE⟨⟨rfl,t,aP,aO,m⟩,hB⟩ hK;have aB:t<=z:=by have:=Aur Qb aE;rw[R.out,IW]at this;omega
  gi_wp2;refine⟨BU,.inl ⟨_,_,rfl,run_takeDeferred hK,?_⟩⟩;exact⟨_,results_tmp rfl _ _ _,t,rfl,λh=>by omega,λh=>by omega,aB,hB.trans (belowK_b (w:=w) (DN _) W D _ _ BS hK rfl rfl)⟩
