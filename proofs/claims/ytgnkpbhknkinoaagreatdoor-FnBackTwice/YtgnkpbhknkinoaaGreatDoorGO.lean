import Derived.Shelf.RegionOpen
import Derived.OwnWalkIn
import Derived.Test.YtgnkpbhknkinoaaGreatDoorGa
import Derived.LoopNIn
import Derived.LoopIn
set_option linter.defProp false
set_option maxHeartbeats 4000000
set_option maxRecDepth 100000
namespace Go.Proofs.YtgnkpbhknkinoaaGreatDoor
open Tryz Stil
section
open Go.RowKit Go.Sort Go.BigFrame
def P2(op:Int)(a:Option Ab)(b cap:Nat)(w:AU)(_h:b<=9223372036854775807):
  Calls prog 164 #[.agg #[AB op,AE a b cap]] w (AN w (.bool (op==0 && b==0))):=by
 by_cases c:op=0
 .subst c;go_enter func164,ntmps164;go_wp2;all_goals go_ret
  all_goals refine⟨Ad ?_,BV⟩
  all_goals(go_light;rw[E6];simp;try omega)
 have d:(op==0)=false:=by rwa[DV]
 go_enter func164,ntmps164;go_wp2;all_goals go_ret
 all_goals refine⟨Ad ?_,BV⟩
 all_goals(go_light;simp[d])
end
structure WrR(G:Prop):Prop where
 o:G
def TI(_:List Nat):Prop:=True
abbrev TI.rs{rs:List Nat}(_:TI rs):List Nat:=rs
def Si(rs:List Nat){G G':Prop}(k:G')(f:TI rs->WrR G'->G:=by(intro hR hZ;refine wpAnyIn_ready (rs:=hR.rs) BW (List.cons_ne_nil _ _) ?_;refine AllReadyIn.cons rfl (λKK aA=>?_) AllReadyIn.nil;go_simp;refine aA _ _ ?_;clear aA KK;exact hZ.o)):G:=f trivial ⟨k⟩
def Jo{F:Fence}{n:Nat}{P:AY}{md:Region.Mode}{ops:Array Oper}{Q:Exit->Act->World->Prop}{fuel:Nat}{listed:Array Bool}{a:Act}{w:AU}{i:Nat}{o:Oper}{rs:List Nat}{G:Prop}(ho:ops[i]?=some o)(k:G)(hs:AllReadyIn F n P md ops Q fuel listed a w rs)(f:WrR G->∀K':Act->World->Prop,(∀a w,wpAnyIn F n P md ops Q fuel (listed.setIfInBounds i true) a w->K' a w)->if Region.wanted o (yielded ops a.tmps)=true then Oper.wpIn F n P o a w K' Q else(∀f,o.about P w a.eval=some f->F.fn f)/\K' (a.put o.dst AQ) w:=by(intro hZ KK aA;go_simp;refine aA _ _ ?_;clear aA KK;exact hZ.o)):AllReadyIn F n P md ops Q fuel listed a w (i::rs):=AllReadyIn.cons ho (f ⟨k⟩) hs
section
open Go.RowKit Go.Sort Go.BigFrame Go.Shelf
def ZW(k op:Int)(b:AW)(p:Option Ab)(a cap:Nat)(d:Option Ab)(i c:Nat)(g:b=AE d i c)(w:AU):
  Calls prog 189 #[.agg #[AB k,AB op,b,AE p a cap]] w (AN w (AE p a cap)):=by subst g;go_enter func189,ntmps189;go_wp2;go_ret;exact⟨rfl,BV⟩
def cE(k op:Int)(l o g p:Option Ab)(i c j b d f a cap:Nat)(w:AU):
  Calls prog 177 #[.agg #[AB k,AB op,AE l i c,AE o j b,AE g d f,AE p a cap]] w (AN w (AE p a cap)):=by go_enter func177,ntmps177;go_wp2;go_ret;exact⟨rfl,BV⟩
def MF(l Y B K:Nat)(W:AU):Prop:=W.cell? (AK Y 0)=some (.func (.yield l) #[] #[])/\W.cell? (AK B 0)=some (.func (.func 195) #[] #[AH Y,AH B,AH K])/\W.cell? (AK K 0)=some (.func (.func 189) #[] #[])
def Lq(w:AU)(P:Stil.DI->Prop)(C:Nat->Prop)(M l Y B K N:Nat)(J c:List (Ug w P)->World->Prop)(es:List Stil.DI):Prop:=
 ∀(m:Nat)(v:AW)(pre:List (Ug w P))(W:AU),Px w C W v es->MF l Y B K W->J pre W->AO w W->M<=W.heap.size->pre.length+(Et es).length<=N->
  CallsIn Fence.wide m prog 195 #[v,AH Y,AH B,AH K] W λe b=>
   (e=.returned (.bool true)/\∃a:List (Ug w P),a.map Ug.N=Et es/\J (pre++a) b/\Kept w.heap.size C W b)\/
   (e=.returned (.bool false)/\∃a:List (Ug w P),a.map Ug.N<+:Et es/\c (pre++a) b)
def MG(l Y B K:Nat)(W:AU):Prop:=W.cell? (AK Y 0)=some (.func (.yield l) #[] #[])/\W.cell? (AK B 0)=some (.func (.func 187) #[] #[AH Y,AH B,AH K])/\W.cell? (AK K 0)=some (.func (.func 177) #[] #[])
def Lx(w:AU)(P:Stil.DJ->Prop)(C:Nat->Prop)(M l Y B K N:Nat)(J c:List (Rk w P)->World->Prop)(es:List Stil.DJ):Prop:=
 ∀(m:Nat)(v:AW)(pre:List (Rk w P))(W:AU),Og w C W v es->MG l Y B K W->J pre W->AO w W->M<=W.heap.size->pre.length+(D9 es).length<=N->
  CallsIn Fence.wide m prog 187 #[v,AH Y,AH B,AH K] W λe b=>
   (e=.returned (.bool true)/\∃a:List (Rk w P),a.map Rk.A=D9 es/\J (pre++a) b/\Kept w.heap.size C W b)\/
   (e=.returned (.bool false)/\∃a:List (Rk w P),a.map Rk.A<+:D9 es/\c (pre++a) b)
end
section
open Go.RowKit Go.Sort Go.BigFrame Go.Shelf
attribute [local go_sem] Oper.semAt_some
def MF.keep{l Y B K:Nat}{C:Nat->Prop}{W b:AU}(h:MF l Y B K W)(d:¬C Y)(e:¬C B)(c:¬C K)(a:Kw C W b):MF l Y B K b:=⟨a.cell d h.1,a.cell e h.2.1,a.cell c h.2.2⟩
def zj{p:Prop}(h:p:=by refine aA _ _ ?_;clear aA KK;refine Si [3] ?_;refine Si [4] ?_;refine wpAnyIn_take (i:=5) (v:=AQ) rfl rfl BW BW BW (λ_ _ _ h=>h) ⟨Or.inr ⟨Bn,rfl⟩,λ_=>rfl⟩ ?_;refine wpAnyIn_take (i:=6) (v:=AQ) rfl rfl BW BW BW (λ_ _ _ h=>h) ⟨Or.inr ⟨Bn,rfl⟩,λ_=>rfl⟩ ?_;refine wpAnyIn_take (i:=7) (v:=AQ) rfl rfl BW BW BW (λ_ _ _ h=>h) ⟨Or.inr ⟨Bn,rfl⟩,λ_=>rfl⟩ ?_;refine wpAnyIn_take (i:=8) (v:=AQ) rfl rfl BW BW BW (λ_ _ _ h=>h) ⟨Or.inr ⟨Bn,rfl⟩,λ_=>rfl⟩ ?_;refine wpAnyIn_take (i:=9) (v:=AQ) rfl rfl BW BW BW (λ_ _ _ h=>h) ⟨Or.inr ⟨Bn,rfl⟩,λ_=>rfl⟩ ?_;refine wpAnyIn_take (i:=10) (v:=AQ) rfl rfl BW BW BW (λ_ _ _ h=>h) ⟨Or.inr ⟨Bn,rfl⟩,λ_=>rfl⟩ ?_;refine Si [11] ?_;refine wpAnyIn_done BW ?_ _;gi_wp2;go_ret;exact .inr ⟨rfl,ys++[x],nU.out,by simpa[EG]using hx3⟩):p:=h
def zp {p:Prop}(h:p:=by
 intro key2;refine Si [3] ?_;refine Si [4] ?_;refine wpAnyIn_ready (rs:=[5,6,7]) BW BU ?_;refine Jo rfl ?_ ?_
 .refine wpAnyIn_ready (rs:=[6,7]) BW BU ?_;refine Jo rfl ?_ ?_;{refine Si [7] ?_;exact key1};refine Jo rfl ?_ ?_;{refine Si [6] ?_;exact key1};exact AllReadyIn.nil
 refine Jo rfl ?_ ?_
 .refine wpAnyIn_ready (rs:=[5,7]) BW BU ?_;refine Jo rfl ?_ ?_;{refine Si [7] ?_;exact key1};refine Jo rfl ?_ ?_;{exact key2};exact AllReadyIn.nil
 refine Jo rfl ?_ ?_
 {refine wpAnyIn_ready (rs:=[5,6]) BW BU ?_;refine Jo rfl ?_ ?_;{refine Si [6] ?_;exact key1};refine Jo rfl ?_ ?_;{exact key2};exact AllReadyIn.nil};exact AllReadyIn.nil):p:=h
def zw{p:Prop}(h:p:=by refine aA _ _ ?_;clear aA KK;refine Si [10] ?_;refine Si [11] ?_;refine wpAnyIn_done BW ?_ _;gi_wp2;exact⟨⟨j+1,ys++[x]++zs,BS,by go_num,jF zs hzs,by simpa[EG]using tX,hkW.t hk4⟩,by simp[intOf];omega⟩):p:=h
def zP{p:Prop}(h:p:=by refine aA _ _ ?_;clear aA KK;refine Si [10] ?_;refine Si [11] ?_;refine wpAnyIn_done BW ?_ _;gi_wp2;go_ret;exact .inr ⟨rfl,ys++[x]++zs,iP zs hzs,by simpa[EG]using hx4⟩):p:=h
def zj0 {p:Prop}(h:p:=by
 intro lZ;refine wpAnyIn_ready (rs:=[0,1]) BW BU ?_;refine Jo rfl ?_ ?_
 .refine Si [1] ?_;exact lZ
 refine Jo rfl ?_ ?_
 {refine Si [0] ?_;exact lZ};exact AllReadyIn.nil):p:=h
def ZB(w:AU)(P:Stil.DI->Prop)(C:Nat->Prop)(hC:∀k,C k->w.heap.size<=k)(M l Y B K N:Nat)(al:∀k,C k->k<M)(oP:¬C Y)(lD:¬C B)(jT:¬C K)(J A:List (Ug w P)->World->Prop)
  (hJ:∀s W c,J s W->AO W c->J s c)
  (hY:∀m pre (x:Ug w P) W,J pre W->pre.length<N->YieldAt Fence.wide m prog l #[.agg #[AB x.N.kind,AB x.N.O.op,x.av,x.kv]] W λe c=>
   (e=.returned (.bool true)/\J (pre++[x]) c/\Kept w.heap.size C W c)\/(e=.returned (.bool false)/\A (pre++[x]) c))
  (es:List Stil.DI) (hl:es.length<=1048576) (hf:∀x∈es,P x) (ih:∀x∈es,Lq w P C M l Y B K N J A x.K):Lq w P C M l Y B K N J A es:=by
 intro m v pre W hs ag hj hb hM hN;have HS:=BX (λc(h:Kw C W c)=>hs.keep h);have jM:=BX (λc(h:Kw C W c)=>ag.keep oP lD jT h);have yY:=BX hY;have qA:=BX hJ;have IH:=BX ih;have HN:=BX hN;have HB:=BX hb;obtain⟨a,cap,rfl,_⟩:=hs;clear hJ hY ih hN hb ag;refine callsIn_of_wp func195 rfl trivial ?_ rfl;simp only[ntmps195,Db,DO,DU,Nat.reduceAdd,Nat.reduceSub,ES,ET,EV,EU,EB,D4];gi_wp2;gi_loopw [10] (λi wr=>∃(j:Nat)(ys:List (Ug w P)),j<=es.length/\i=AB j/\ys.map Ug.N=Et (es.take j)/\J (pre++ys) wr/\Kept w.heap.size C W wr) (λi _=>es.length - (intOf i).toNat);case atStart=>exact⟨0,[],BS,rfl,by simp[Et],by simpa using hj,Kept.refl _ _ _⟩
 case round=>
  obtain⟨j,ys,ap,rfl,U,ac,I⟩:=hrel;by_cases u:j<es.length
  .have⟨a',au,hv,ao⟩:=HS wr I.2;obtain⟨b,o,rfl,ar,av,kv,x0,x1,x2,x3,aa,T⟩:=ao j u;simp only[BN,true_and]at hv;obtain⟨rfl,rfl⟩:=hv;have⟨b0,b1,b2⟩:=jM wr I.2;have ai:(pre++ys).length<N:=by have h1:=HN.out;have h2:ys.length=(Et (es.take j)).length:=(by rw[<-U,DZ]);have L:=(Pl es (j+1)).length_le;rw[Ur es j u]at L;simp only[DT,DO]at L⊢;omega
   have⟨V,X,e0,_⟩:=id aa;have⟨S,O,e1,_⟩:=id T;have ad:∀x:Ug w P,x=⟨es[j],av,kv,aa,T,hf _ (DW u)⟩->∀d,J (pre++ys) d->YieldAt Fence.wide (m - 1) prog l #[.agg #[AB es[j].kind,AB es[j].O.op,.slice V es[j].O.args.length X,.slice S es[j].K.length O]] d λe c=>
     (e=.returned (.bool true)/\J (pre++ys++[x]) c/\Kept w.heap.size C d c)\/(e=.returned (.bool false)/\A (pre++ys++[x]) c):=by
    intro x Z d ak;have:=yY (m - 1) (pre++ys) x d ak ai
    rw[Z]at this⊢;simp only[e0,e1]at this⊢;exact this
   obtain⟨x,Z⟩:∃x:Ug w P,x=⟨es[j],av,kv,aa,T,hf _ (DW u)⟩:=⟨_,rfl⟩;have HV:=BX (ad x Z);have tZ:Hid (x.N=es[j]):=(by show _=_;rw[Z]);have kC:=BX T;clear ad Z;have⟨y,hy⟩:=AA (es[j]);(rw[<-hy]at x0 x1 HV tZ kC e0 e1;have pM:=BX hy;rw[e0]at x2;rw[e1]at x3 kC;clear aa T e0 e1 hy;have hZ:¬C wr.heap.size:=λh=>by have:=al _ h;have:=I.2.size;omega);have yG:=Ba b0;have tY:=Ba b1;have pF:=Ba b2;gi_wp2;have⟨d,r⟩:=AA (wr.alloc (A2 y V X S O 56));(rw[<-r];have c0:d.cell? (AK Y 0)=some (.func (.yield l) #[] #[]):=by rw[r];simp[go_sem,b0,yG]);have c1:d.cell? (AK B 0)=some (.func (.func 195) #[] #[AH Y,AH B,AH K]):=(by rw[r];simp[go_sem,b1,tY]);have c2:d.cell? (AK K 0)=some (.func (.func 189) #[] #[]):=(by rw[r];simp[go_sem,b2,pF]);have⟨z,R⟩:=AA wr.heap.size;rw[<-R]at hZ⊢;have d0:d.cell? (AK z 0)=some (AB y.kind):=xCa;have d1:d.cell? (AK z 1)=some (AB y.O.op):=xCa;have d2:d.cell? (AK z 2)=some (AE V y.O.args.length X):=xCa;have d3:d.cell? (AK z 3)=some (AE S y.K.length O):=xCa;have ab:AO wr d:=(by rw[r];exact Aa _ _);have ae:Kept w.heap.size C W d:=I.t (Kept.of_below (DR HB.size I.1.size) ab);have ah:J (pre++ys) d.drew:=qA _ _ _ ac ab.drew;clear r ab b0 b1 b2 x0 x1 x2 x3 yG tY pF ac I R;have⟨fn,tmps,assign,body,ax,hR⟩:=HV d.drew ah;clear HV ah
   have an:Hid (∀(e:Ending) (q:AU),(e=.returned (.bool true)/\J (pre++ys++[x]) q/\Kept w.heap.size C d.drew q)->q.cell? (AK B 0)=some (.func (.func 195) #[] #[AH Y,AH B,AH K])/\q.cell? (AK K 0)=some (.func (.func 189) #[] #[])/\
     q.cell? (AK z 0)=some (AB y.kind)/\q.cell? (AK z 1)=some (AB y.O.op)/\q.cell? (AK z 2)=some (AE V y.O.args.length X)/\q.cell? (AK z 3)=some (AE S y.K.length O)):=
    λe q h=>⟨h.2.2.2.cell lD c1,h.2.2.2.cell jT c2,h.2.2.2.cell hZ d0,h.2.2.2.cell hZ d1,h.2.2.2.cell hZ d2,h.2.2.2.cell hZ d3⟩
   have zJ:Hid (∀q g,Kept w.heap.size C d.drew q->AO q g->Kept w.heap.size C W g):=λq g h2 L=>((ae.t ⟨(BP _ _).drew,(Kw.refl _ _).drew⟩).t h2).t (Kept.of_below (DR (DR HB.size ae.1.size) h2.1.size) L)
   have iO:Hid (∀g,J (pre++ys++[x]) g->Kept w.heap.size C W g->CallsIn Fence.wide (m - 1) prog 195 #[AE S y.K.length O,AH Y,AH B,AH K] g λe c=>
     (e=.returned (.bool true)/\∃zs:List (Ug w P),zs.map Ug.N=Et y.K/\J (pre++ys++[x]++zs) c/\Kept w.heap.size C g c)\/
     (e=.returned (.bool false)/\∃zs:List (Ug w P),zs.map Ug.N<+:Et y.K/\A (pre++ys++[x]++zs) c)):=by
    intro g aj E;have af:AO w g:=HB.trans E.1;refine IH y (by rw[pM.out];exact DW u) (m - 1) _ _ g (Px.of_at kC af hC) (jM g E.2) aj af (DR hM E.2.size) ?_;have h1:=HN.out;have h2:ys.length=(Et (es.take j)).length:=by rw[<-U,DZ]
    have L:=(Pl es (j+1)).length_le;rw[Ur es j u,<-pM.out]at L;simp only[DT,DO,DU]at L⊢;omega
   have jF:Hid (∀zs:List (Ug w P),zs.map Ug.N=Et y.K->(ys++[x]++zs).map Ug.N=Et (es.take (j+1))):=(by intro zs hzs;rw[Ur es j u,D2,D2,U,hzs,<-pM.out];simp[tZ.out]);have iP:Hid (∀zs:List (Ug w P),zs.map Ug.N<+:Et y.K->(ys++[x]++zs).map Ug.N<+:Et es):=(by intro zs hzs;refine List.IsPrefix.trans ?_ (Pl es (j+1));rw[Ur es j u,D2,D2,U,<-pM.out];obtain⟨t,ht⟩:=hzs;exact⟨t,by simp[tZ.out,<-ht]⟩);have nU:Hid ((ys++[x]).map Ug.N<+:Et es):=(by show _<+:_;have:=iP.out [] BU;simpa using this);(refine wpIn_region_any BW ?_;try(change wpAnyIn _ _ _ _ _ _ _ _ _ (World.drew _)));apply share;{exact zj0};refine wpAnyIn_ready (rs:=[2]) BW BU ?_;refine AllReadyIn.cons rfl (λKK aA=>?_) AllReadyIn.nil;go_simp;refine⟨λh=>CQ,?_⟩;refine hR.mono ?_;rintro e q (⟨rfl,H,E⟩|⟨rfl,hx3⟩);{refine aA _ _ ?_;clear aA KK;have⟨f1,f2,g0,g1,g2,g3⟩:=an _ _ ⟨rfl,H,E⟩;apply share;{intro key1;apply share;{exact zp};refine wpAnyIn_ready (rs:=[5,8]) BW BU ?_;refine Jo rfl ?_ ?_;{exact key1};refine AllReadyIn.cons rfl (λKK aA=>?_) ?_;{go_simp;refine⟨trivial,λh=>CQ,?_⟩;refine(callsIn_wide.2 (ZW _ _ _ _ _ _ _ _ _ rfl _)).mono ?_;rintro e g⟨rfl,D⟩;refine aA _ _ ?_;clear aA KK;have h1:=(D.cell (p:=(AK B 0)) (Ba f1)).trans f1;have H:=qA _ _ _ H D;have hkW:Kept w.heap.size C W g:=zJ _ _ E D;refine Si [5] ?_;refine wpAnyIn_ready (rs:=[9]) BW BU ?_;refine AllReadyIn.cons rfl (λKK aA=>?_) AllReadyIn.nil;go_simp;refine⟨trivial,λh=>CQ,?_⟩;refine(iO _ H hkW).mono ?_;rintro e W4 (⟨rfl,zs,hzs,tX,hk4⟩|⟨rfl,zs,hzs,hx4⟩);{exact zw};exact zP};exact AllReadyIn.nil};refine wpAnyIn_ready (rs:=[8]) BW BU ?_;refine AllReadyIn.cons rfl (λKK aA=>?_) AllReadyIn.nil;go_simp;refine⟨trivial,λh=>CQ,?_⟩;refine(callsIn_wide.2 (ZW _ _ _ _ _ _ _ _ _ rfl _)).mono ?_;rintro e g⟨rfl,D⟩;refine aA _ _ ?_;clear aA KK;have h1:=(D.cell (p:=(AK B 0)) (Ba f1)).trans f1;have H:=qA _ _ _ H D;have hkW:Kept w.heap.size C W g:=zJ _ _ E D;refine wpAnyIn_ready (rs:=[9]) BW BU ?_;refine AllReadyIn.cons rfl (λKK aA=>?_) AllReadyIn.nil;go_simp;refine⟨trivial,λh=>CQ,?_⟩;refine(iO _ H hkW).mono ?_;rintro e W4 (⟨rfl,zs,hzs,tX,hk4⟩|⟨rfl,zs,hzs,hx4⟩);{exact zw};exact zP};exact zj
  gi_wp2;go_ret;refine .inl ⟨rfl,ys,?_,ac,I⟩;rw[U,FB BS]
end
section
open Go.RowKit Go.Sort Go.BigFrame Go.Shelf
attribute [local go_sem] Oper.semAt_some
def MG.keep{l Y B K:Nat}{C:Nat->Prop}{W b:AU}(h:MG l Y B K W)(d:¬C Y)(e:¬C B)(c:¬C K)(a:Kw C W b):MG l Y B K b:=⟨a.cell d h.1,a.cell e h.2.1,a.cell c h.2.2⟩
def XW(w:AU)(P:Stil.DJ->Prop)(C:Nat->Prop)(hC:∀k,C k->w.heap.size<=k)(M l Y B K N:Nat)(ao:∀k,C k->k<M)(oP:¬C Y)(lD:¬C B)(jT:¬C K)(J D:List (Rk w P)->World->Prop)
  (hJ:∀s W c,J s W->AO W c->J s c)
  (hY:∀m pre (x:Rk w P) W,J pre W->pre.length<N->YieldAt Fence.wide m prog l #[.agg #[AB x.A.N.kind,AB x.A.N.O.op,x.av,x.nv,x.cv,x.kv]] W λe c=>
   (e=.returned (.bool true)/\J (pre++[x]) c/\Kept w.heap.size C W c)\/(e=.returned (.bool false)/\D (pre++[x]) c))
  (es:List Stil.DJ) (hl:es.length<=1048576) (hf:∀x∈es,P x) (ih:∀x∈es,Lx w P C M l Y B K N J D x.K):Lx w P C M l Y B K N J D es:=by
 intro m v pre W hs ai hj hb hM hN;have HS:=BX (λc(h:Kw C W c)=>hs.keep h);have jM:=BX (λc(h:Kw C W c)=>ai.keep oP lD jT h);have yY:=BX hY;have qA:=BX hJ;have IH:=BX ih;have HN:=BX hN;have HB:=BX hb;obtain⟨a,cap,rfl,_⟩:=hs;clear hJ hY ih hN hb ai;refine callsIn_of_wp func187 rfl trivial ?_ rfl;simp only[ntmps187,Db,DO,DU,Nat.reduceAdd,Nat.reduceSub,ES,ET,EV,EU,EB,D4];gi_wp2;gi_loopw [10] (λi wr=>∃(j:Nat)(ys:List (Rk w P)),j<=es.length/\i=AB j/\ys.map Rk.A=D9 (es.take j)/\J (pre++ys) wr/\Kept w.heap.size C W wr) (λi _=>es.length - (intOf i).toNat);case atStart=>exact⟨0,[],BS,rfl,by simp[D9],by simpa using hj,Kept.refl _ _ _⟩
 case round=>
  obtain⟨j,ys,au,rfl,Z,ae,L⟩:=hrel;by_cases u:j<es.length
  .have⟨a',ay,hv,ar⟩:=HS wr L.2;obtain⟨b,o,rfl,aw,av,nv,cv,kv,x0,x1,x2,x3,x4,x5,ac,ab,aa,U⟩:=ar j u;simp only[BN,true_and]at hv;obtain⟨rfl,rfl⟩:=hv;have⟨b0,b1,b2⟩:=jM wr L.2;have ak:(pre++ys).length<N:=by have h1:=HN.out;have h2:ys.length=(D9 (es.take j)).length:=(by rw[<-Z,DZ]);have O:=(QA es (j+1)).length_le;rw[Ux es j u]at O;simp only[DT,DO]at O⊢;omega
   have⟨p0,r0,e0,_⟩:=id ac;have⟨T,X,e2,_⟩:=id ab;have⟨p3,V,e3,_⟩:=id aa;have⟨S,R,e1,_⟩:=id U;have af:∀x:Rk w P,x=⟨es[j],av,nv,cv,kv,ac,ab,aa,U,hf _ (DW u)⟩->∀d,J (pre++ys) d->YieldAt Fence.wide (m - 1) prog l #[.agg #[AB es[j].N.kind,AB es[j].N.O.op,.slice p0 es[j].N.O.args.length r0,.slice T es[j].N.K.length X,.slice p3 es[j].C.length V,.slice S es[j].K.length R]] d λe c=>
     (e=.returned (.bool true)/\J (pre++ys++[x]) c/\Kept w.heap.size C d c)\/(e=.returned (.bool false)/\D (pre++ys++[x]) c):=by
    intro x hx d an;have:=yY (m - 1) (pre++ys) x d an ak
    rw[hx]at this⊢;simp only[e0,e1,e2,e3]at this⊢;exact this
   obtain⟨x,hx⟩:∃x:Rk w P,x=⟨es[j],av,nv,cv,kv,ac,ab,aa,U,hf _ (DW u)⟩:=⟨_,rfl⟩;have HV:=BX (af x hx);have tZ:Hid (x.A=es[j]):=(by show _=_;rw[hx]);have kC:=BX U;clear af hx;have⟨y,hy⟩:=AA (es[j]);(rw[<-hy]at x0 x1 HV tZ kC e0 e1 e2 e3;have pM:=BX hy;rw[e0]at x2;rw[e2]at x3;rw[e3]at x4;rw[e1]at x5 kC;clear ac ab aa U e0 e1 e2 e3 hy;have hZ:¬C wr.heap.size:=λh=>by have:=ao _ h;have:=L.2.size;omega);have yG:=Ba b0;have tY:=Ba b1;have pF:=Ba b2;gi_wp2;have⟨d,r⟩:=AA (wr.alloc (A5 y p0 r0 T X p3 V S R 59));(rw[<-r];have c0:d.cell? (AK Y 0)=some (.func (.yield l) #[] #[]):=by rw[r];simp[go_sem,b0,yG]);have c1:d.cell? (AK B 0)=some (.func (.func 187) #[] #[AH Y,AH B,AH K]):=(by rw[r];simp[go_sem,b1,tY]);have c2:d.cell? (AK K 0)=some (.func (.func 177) #[] #[]):=(by rw[r];simp[go_sem,b2,pF]);have⟨z,A⟩:=AA wr.heap.size;rw[<-A]at hZ⊢;have d0:d.cell? (AK z 0)=some (AB y.N.kind):=xAt;have d1:d.cell? (AK z 1)=some (AB y.N.O.op):=xAt;have d2:d.cell? (AK z 2)=some (AE p0 y.N.O.args.length r0):=xAt;have d3:d.cell? (AK z 3)=some (AE T y.N.K.length X):=xAt;have d4:d.cell? (AK z 4)=some (AE p3 y.C.length V):=xAt;have d5:d.cell? (AK z 5)=some (AE S y.K.length R):=xAt;have ad:AO wr d:=(by rw[r];exact Aa _ _);have ag:Kept w.heap.size C W d:=L.t (Kept.of_below (DR HB.size L.1.size) ad);have aj:J (pre++ys) d.drew:=qA _ _ _ ae ad.drew;clear r ad b0 b1 b2 x0 x1 x2 x3 x4 x5 yG tY pF ae L A;have⟨fn,tmps,assign,body,ax,hR⟩:=HV d.drew aj;clear HV aj
   have ap:Hid (∀(e:Ending) (g:AU),(e=.returned (.bool true)/\J (pre++ys++[x]) g/\Kept w.heap.size C d.drew g)->g.cell? (AK B 0)=some (.func (.func 187) #[] #[AH Y,AH B,AH K])/\g.cell? (AK K 0)=some (.func (.func 177) #[] #[])/\
     g.cell? (AK z 0)=some (AB y.N.kind)/\g.cell? (AK z 1)=some (AB y.N.O.op)/\g.cell? (AK z 2)=some (AE p0 y.N.O.args.length r0)/\g.cell? (AK z 3)=some (AE T y.N.K.length X)/\g.cell? (AK z 4)=some (AE p3 y.C.length V)/\g.cell? (AK z 5)=some (AE S y.K.length R)):=
    λe g h=>⟨h.2.2.2.cell lD c1,h.2.2.2.cell jT c2,h.2.2.2.cell hZ d0,h.2.2.2.cell hZ d1,h.2.2.2.cell hZ d2,h.2.2.2.cell hZ d3,h.2.2.2.cell hZ d4,h.2.2.2.cell hZ d5⟩
   have zJ:Hid (∀g q,Kept w.heap.size C d.drew g->AO g q->Kept w.heap.size C W q):=λg q h2 O=>((ag.t ⟨(BP _ _).drew,(Kw.refl _ _).drew⟩).t h2).t (Kept.of_below (DR (DR HB.size ag.1.size) h2.1.size) O)
   have iO:Hid (∀q,J (pre++ys++[x]) q->Kept w.heap.size C W q->CallsIn Fence.wide (m - 1) prog 187 #[AE S y.K.length R,AH Y,AH B,AH K] q λe c=>
     (e=.returned (.bool true)/\∃zs:List (Rk w P),zs.map Rk.A=D9 y.K/\J (pre++ys++[x]++zs) c/\Kept w.heap.size C q c)\/
     (e=.returned (.bool false)/\∃zs:List (Rk w P),zs.map Rk.A<+:D9 y.K/\D (pre++ys++[x]++zs) c)):=by
    intro q al H;have ah:AO w q:=HB.trans H.1;refine IH y (by rw[pM.out];exact DW u) (m - 1) _ _ q (Og.of_at kC ah hC) (jM q H.2) al ah (DR hM H.2.size) ?_;have h1:=HN.out;have h2:ys.length=(D9 (es.take j)).length:=by rw[<-Z,DZ]
    have O:=(QA es (j+1)).length_le;rw[Ux es j u,<-pM.out]at O;simp only[DT,DO,DU]at O⊢;omega
   have jF:Hid (∀zs:List (Rk w P),zs.map Rk.A=D9 y.K->(ys++[x]++zs).map Rk.A=D9 (es.take (j+1))):=(by intro zs hzs;rw[Ux es j u,D2,D2,Z,hzs,<-pM.out];simp[tZ.out]);have iP:Hid (∀zs:List (Rk w P),zs.map Rk.A<+:D9 y.K->(ys++[x]++zs).map Rk.A<+:D9 es):=(by intro zs hzs;refine List.IsPrefix.trans ?_ (QA es (j+1));rw[Ux es j u,D2,D2,Z,<-pM.out];obtain⟨t,ht⟩:=hzs;exact⟨t,by simp[tZ.out,<-ht]⟩);have nU:Hid ((ys++[x]).map Rk.A<+:D9 es):=(by show _<+:_;have:=iP.out [] BU;simpa using this);(refine wpIn_region_any BW ?_;try(change wpAnyIn _ _ _ _ _ _ _ _ _ (World.drew _)));apply share;{exact zj0};refine wpAnyIn_ready (rs:=[2]) BW BU ?_;refine AllReadyIn.cons rfl (λKK aA=>?_) AllReadyIn.nil;go_simp;refine⟨λh=>CQ,?_⟩;refine hR.mono ?_;rintro e g (⟨rfl,I,H⟩|⟨rfl,hx3⟩);{refine aA _ _ ?_;clear aA KK;have⟨f1,f2,g0,g1,g2,g3,g4,g5⟩:=ap _ _ ⟨rfl,I,H⟩;apply share;{intro key1;apply share;{exact zp};refine wpAnyIn_ready (rs:=[5,8]) BW BU ?_;refine Jo rfl ?_ ?_;{exact key1};refine AllReadyIn.cons rfl (λKK aA=>?_) ?_;{go_simp;refine⟨trivial,λh=>CQ,?_⟩;refine(callsIn_wide.2 (cE _ _ _ _ _ _ _ _ _ _ _ _ _ _ _)).mono ?_;rintro e q⟨rfl,E⟩;refine aA _ _ ?_;clear aA KK;have h1:=(E.cell (p:=(AK B 0)) (Ba f1)).trans f1;have I:=qA _ _ _ I E;have hkW:Kept w.heap.size C W q:=zJ _ _ H E;refine Si [5] ?_;refine wpAnyIn_ready (rs:=[9]) BW BU ?_;refine AllReadyIn.cons rfl (λKK aA=>?_) AllReadyIn.nil;go_simp;refine⟨trivial,λh=>CQ,?_⟩;refine(iO _ I hkW).mono ?_;rintro e W4 (⟨rfl,zs,hzs,tX,hk4⟩|⟨rfl,zs,hzs,hx4⟩);{exact zw};exact zP};exact AllReadyIn.nil};refine wpAnyIn_ready (rs:=[8]) BW BU ?_;refine AllReadyIn.cons rfl (λKK aA=>?_) AllReadyIn.nil;go_simp;refine⟨trivial,λh=>CQ,?_⟩;refine(callsIn_wide.2 (cE _ _ _ _ _ _ _ _ _ _ _ _ _ _ _)).mono ?_;rintro e q⟨rfl,E⟩;refine aA _ _ ?_;clear aA KK;have h1:=(E.cell (p:=(AK B 0)) (Ba f1)).trans f1;have I:=qA _ _ _ I E;have hkW:Kept w.heap.size C W q:=zJ _ _ H E;refine wpAnyIn_ready (rs:=[9]) BW BU ?_;refine AllReadyIn.cons rfl (λKK aA=>?_) AllReadyIn.nil;go_simp;refine⟨trivial,λh=>CQ,?_⟩;refine(iO _ I hkW).mono ?_;rintro e W4 (⟨rfl,zs,hzs,tX,hk4⟩|⟨rfl,zs,hzs,hx4⟩);{exact zw};exact zP};exact zj
  gi_wp2;go_ret;refine .inl ⟨rfl,ys,?_,ae,L⟩;rw[Z,FB BS]
end
section
open Go.RowKit Go.Sort Go.BigFrame Go.Shelf
def sA(w:AU)(P:Stil.DI->Prop)(v:∀x,P x->x.K.length<=1048576/\∀y∈x.K,P y)(C:Nat->Prop)(q:∀k,C k->w.heap.size<=k)(M l Y B K N:Nat)(p:∀k,C k->k<M)(r:¬C Y)(j:¬C B)(g:¬C K)(J d:List (Ug w P)->World->Prop)
  (o:∀s W c,J s W->AO W c->J s c)
  (i:∀m pre(x:Ug w P)W,J pre W->pre.length<N->YieldAt Fence.wide m prog l #[.agg #[AB x.N.kind,AB x.N.O.op,x.av,x.kv]] W λe c=>(e=.returned (.bool true)/\J (pre++[x]) c/\Kept w.heap.size C W c)\/(e=.returned (.bool false)/\d (pre++[x]) c))
  (es:List Stil.DI) (hl:es.length<=1048576) (u:∀x∈es,P x):Lq w P C M l Y B K N J d es:=by
 refine ZB w P C q M l Y B K N p r j g J d o i es hl u (λx z=>?_);have key:∀n:Stil.DI,P n->Lq w P C M l Y B K N J d n.K:=by
  intro n;induction n using Gs with
  |h a b kids D=>intro A;have f:=v _ A;exact ZB w P C q M l Y B K N p r j g J d o i kids f.1 f.2 (λy t=>D y t (f.2 y t))
 exact key x (u x z)
def zpa {p:Prop}(h:p:=by
 gi_wp2_with(refine⟨trivial,λh=>CQ,?_⟩;refine(iO _ BV (by simp[go_sem]) (by simp[go_sem])).mono ?_;rintro e W3 (⟨rfl,ys,hys,hJ3,_⟩|⟨rfl,ys,hys,hx3⟩))
 .go_end0;exact⟨⟨_,rfl⟩,.inl ⟨ys,hys,by simpa using hJ3⟩⟩
 go_end0;exact⟨⟨_,rfl⟩, .inr ⟨ys,hys,by simpa using hx3⟩⟩):p:=h
def ZU(w:World)(P:Stil.DI->Prop)(S:∀x,P x->x.K.length<=1048576/\∀y∈x.K,P y)(C:Nat->Prop)(L:∀k,C k->w.heap.size<=k)(M A K:Nat)(j:∀k,C k->k<M)(jT:¬C K)(_hAC:¬C A)(es:List Stil.DI)(hl:es.length<=1048576)(F:∀x∈es,P x)(v:Value)(w0:World)
  (r:Below w.heap.size w w0) (Z:M<=w0.heap.size) (f:Px w C w0 v es) (u:w0.cell? ⟨A,0,none⟩=some v) (z:w0.cell? ⟨K,0,none⟩=some (.func (.func 189) #[] #[])) (n:Nat):
  SeqStopsK Fence.wide n prog 194 #[.pointer (some ⟨K,0,none⟩),.pointer (some ⟨A,0,none⟩)] (λx:Ug w P=>#[Value.agg #[.int .i64 x.N.kind,.int .i64 x.N.O.op,x.av,x.kv]]) (Kept w.heap.size C) (λys=>ys.map Ug.N=Et es) (λpre=>pre.map Ug.N<+:Et es) (Et es).length w0:=by
 intro l J I W c H _ G O;have ad:∀(d:Fn)(first cap:Array Value)(w:World),(Instr.makeFunc d first cap).run prog w=.ok (.func d first cap) w:=λ_ _ _ _=>rfl;have ab:∀(d:Fn)(q o:Array Value)(P:Program)(w:World)(a:Addr)(m:Mode),(store a (.func d q o) m).run P w=stored P w a (.func d q o) m:=λd q o P w a m=>run_store P w a _ m rfl;have R:=(c.cell (p:=⟨A,0,none⟩) (Ba u)).trans u;have N:=(c.cell (p:=⟨K,0,none⟩) (Ba z)).trans z;have ae:=Ba R;have V:=Ba N;have ac:=c.size
 have iO:Hid (∀b,Below W.heap.size W b->b.cell? ⟨W.heap.size,0,none⟩=some (.func (.yield l) #[] #[])->b.cell? ⟨W.heap.size+1,0,none⟩=some (.func (.func 195) #[] #[.pointer (some ⟨W.heap.size,0,none⟩), .pointer (some ⟨W.heap.size+1,0,none⟩), .pointer (some ⟨K,0,none⟩)])->
   CallsIn Fence.wide (n - 1) prog 195 #[v,.pointer (some ⟨W.heap.size,0,none⟩),.pointer (some ⟨W.heap.size+1,0,none⟩),.pointer (some ⟨K,0,none⟩)] b λe t=>
    (e=.returned (.bool true)/\∃ys:List (Ug w P),ys.map Ug.N=Et es/\J ([]++ys) t/\Kept w.heap.size C b t)\/
    (e=.returned (.bool false)/\∃ys:List (Ug w P),ys.map Ug.N<+:Et es/\I ([]++ys) t)):=by
  intro b g T aa;have E:∀(s:List (Ug w P))(X Y:World),J s X->Below X.heap.size X Y->J s Y:=λs X Y f i=>H s X Y none f ⟨i.os,i.tape,i.output,i.size,λk hk _=>i.block k hk⟩ (λaf e=>by cases e)
  have U:=(r.trans (c.mono r.size)).trans (g.mono (DR r.size c.size));refine sA w P S C L M l W.heap.size (W.heap.size+1) K (Et es).length j (λh=>by have:=j _ h;omega) (λh=>by have:=j _ h;omega) jT J I E (λm pre x X vF Q=>YieldAt.anyDepth rfl m (G pre x X vF Q)) es hl F (n - 1) v [] b (f.keep ((Kw.of_below c).call g)) ⟨T,aa,(g.cell (p:=⟨K,0,none⟩) V).trans N⟩ (E _ _ _ O g) U (DR Z (DR c.size g.size)) BU
 obtain⟨B,sl,D,rfl⟩:∃B sl D,v=.slice B sl D:=by obtain⟨a,cap,hv,_⟩:=f;exact⟨_,_,_,hv⟩
 clear G H f hl F L j;refine callsIn_of_wp func194 rfl trivial ?_ rfl;simp only[ntmps194,Db,DO,DU,Nat.reduceAdd,Nat.reduceSub,ES,ET,EV,EU,EB,D4];exact zpa
def vd(a:Option Addr)(g cap:Nat)(w:World):Calls prog 188 #[.slice a g cap,.func (.func 189) #[] #[]] w λe d=>e=.returned (.func (.func 194) #[] #[.pointer (some ⟨w.heap.size+1,0,none⟩),.pointer (some ⟨w.heap.size,0,none⟩)])/\
  d.cell? ⟨w.heap.size,0,none⟩=some (.slice a g cap)/\d.cell? ⟨w.heap.size+1,0,none⟩=some (.func (.func 189) #[] #[])/\Below w.heap.size w d:=by have j:∀(b:Fn)(first cap:Array Value)(w:World),(Instr.makeFunc b first cap).run prog w=.ok (.func b first cap) w:=λ_ _ _ _=>rfl;have i:∀(b:Fn)(f c:Array Value)(P:Program)(w:World)(a:Addr)(m:Mode),(store a (.func b f c) m).run P w=stored P w a (.func b f c) m:=λb f c P w a m=>run_store P w a _ m rfl;go_enter func188,ntmps188;go_wp2;go_ret;exact⟨rfl,by simp[go_sem],by simp[go_sem],BV⟩
def sM(w:AU)(P:Stil.DJ->Prop)(v:∀x,P x->x.K.length<=1048576/\∀y∈x.K,P y)(C:Nat->Prop)(q:∀k,C k->w.heap.size<=k)(M l Y B K N:Nat)(p:∀k,C k->k<M)(r:¬C Y)(j:¬C B)(g:¬C K)(J d:List (Rk w P)->World->Prop)
  (o:∀s W c,J s W->AO W c->J s c)
  (i:∀m pre(x:Rk w P)W,J pre W->pre.length<N->YieldAt Fence.wide m prog l #[.agg #[AB x.A.N.kind,AB x.A.N.O.op,x.av,x.nv,x.cv,x.kv]] W λe c=>(e=.returned (.bool true)/\J (pre++[x]) c/\Kept w.heap.size C W c)\/(e=.returned (.bool false)/\d (pre++[x]) c))
  (es:List Stil.DJ) (hl:es.length<=1048576) (u:∀x∈es,P x):Lx w P C M l Y B K N J d es:=by
 refine XW w P C q M l Y B K N p r j g J d o i es hl u (λx z=>?_);have key:∀n:Stil.DJ,P n->Lx w P C M l Y B K N J d n.K:=by
  intro n;induction n using Fv with
  |h a b kids D=>intro A;have f:=v _ A;exact XW w P C q M l Y B K N p r j g J d o i kids f.1 f.2 (λy t=>D y t (f.2 y t))
 exact key x (u x z)
def ZV(w:World)(P:Stil.DJ->Prop)(S:∀x,P x->x.K.length<=1048576/\∀y∈x.K,P y)(C:Nat->Prop)(L:∀k,C k->w.heap.size<=k)(M A K:Nat)(j:∀k,C k->k<M)(jT:¬C K)(_hAC:¬C A)(es:List Stil.DJ)(hl:es.length<=1048576)(F:∀x∈es,P x)(v:Value)(w0:World)
  (r:Below w.heap.size w w0) (Z:M<=w0.heap.size) (f:Og w C w0 v es) (u:w0.cell? ⟨A,0,none⟩=some v) (z:w0.cell? ⟨K,0,none⟩=some (.func (.func 177) #[] #[])) (n:Nat):
  SeqStopsK Fence.wide n prog 186 #[.pointer (some ⟨K,0,none⟩),.pointer (some ⟨A,0,none⟩)] (λx:Rk w P=>#[Value.agg #[.int .i64 x.A.N.kind,.int .i64 x.A.N.O.op,x.av,x.nv,x.cv,x.kv]]) (Kept w.heap.size C) (λys=>ys.map Rk.A=D9 es) (λpre=>pre.map Rk.A<+:D9 es) (D9 es).length w0:=by
 intro l J I W c H _ G O;have ad:∀(d:Fn)(first cap:Array Value)(w:World),(Instr.makeFunc d first cap).run prog w=.ok (.func d first cap) w:=λ_ _ _ _=>rfl;have ab:∀(d:Fn)(q o:Array Value)(P:Program)(w:World)(a:Addr)(m:Mode),(store a (.func d q o) m).run P w=stored P w a (.func d q o) m:=λd q o P w a m=>run_store P w a _ m rfl;have R:=(c.cell (p:=⟨A,0,none⟩) (Ba u)).trans u;have N:=(c.cell (p:=⟨K,0,none⟩) (Ba z)).trans z;have ae:=Ba R;have V:=Ba N;have ac:=c.size
 have iO:Hid (∀b,Below W.heap.size W b->b.cell? ⟨W.heap.size,0,none⟩=some (.func (.yield l) #[] #[])->b.cell? ⟨W.heap.size+1,0,none⟩=some (.func (.func 187) #[] #[.pointer (some ⟨W.heap.size,0,none⟩), .pointer (some ⟨W.heap.size+1,0,none⟩), .pointer (some ⟨K,0,none⟩)])->
   CallsIn Fence.wide (n - 1) prog 187 #[v,.pointer (some ⟨W.heap.size,0,none⟩),.pointer (some ⟨W.heap.size+1,0,none⟩),.pointer (some ⟨K,0,none⟩)] b λe t=>
    (e=.returned (.bool true)/\∃ys:List (Rk w P),ys.map Rk.A=D9 es/\J ([]++ys) t/\Kept w.heap.size C b t)\/
    (e=.returned (.bool false)/\∃ys:List (Rk w P),ys.map Rk.A<+:D9 es/\I ([]++ys) t)):=by
  intro b g T aa;have E:∀(s:List (Rk w P))(X Y:World),J s X->Below X.heap.size X Y->J s Y:=λs X Y f i=>H s X Y none f ⟨i.os,i.tape,i.output,i.size,λk hk _=>i.block k hk⟩ (λaf e=>by cases e)
  have U:=(r.trans (c.mono r.size)).trans (g.mono (DR r.size c.size));refine sM w P S C L M l W.heap.size (W.heap.size+1) K (D9 es).length j (λh=>by have:=j _ h;omega) (λh=>by have:=j _ h;omega) jT J I E (λm pre x X vF Q=>YieldAt.anyDepth rfl m (G pre x X vF Q)) es hl F (n - 1) v [] b (f.keep ((Kw.of_below c).call g)) ⟨T,aa,(g.cell (p:=⟨K,0,none⟩) V).trans N⟩ (E _ _ _ O g) U (DR Z (DR c.size g.size)) BU
 obtain⟨B,sl,D,rfl⟩:∃B sl D,v=.slice B sl D:=by obtain⟨a,cap,hv,_⟩:=f;exact⟨_,_,_,hv⟩
 clear G H f hl F L j;refine callsIn_of_wp func186 rfl trivial ?_ rfl;simp only[ntmps186,Db,DO,DU,Nat.reduceAdd,Nat.reduceSub,ES,ET,EV,EU,EB,D4];exact zpa
def vf(a:Option Ab)(g cap:Nat)(w:AU):Calls prog 176 #[AE a g cap,.func (.func 177) #[] #[]] w λe d=>e=.returned (.func (.func 186) #[] #[AH (w.heap.size+1),AH w.heap.size])/\
  d.cell? (AL w 0)=some (AE a g cap)/\d.cell? (AK (w.heap.size+1) 0)=some (.func (.func 177) #[] #[])/\AO w d:=by have j:∀(b:Fn)(first cap:Array AW)(w:AU),(Instr.makeFunc b first cap).run prog w=.ok (.func b first cap) w:=λ_ _ _ _=>rfl;have i:∀(b:Fn)(f c:Array AW)(P:AY)(w:AU)(a:Ab)(m:Mode),(store a (.func b f c) m).run P w=stored P w a (.func b f c) m:=λb f c P w a m=>run_store P w a _ m rfl;go_enter func176,ntmps176;go_wp2;go_ret;exact⟨rfl,AP,AP,BV⟩
end
section
open Go.RowKit Go.Sort Go.BigFrame Go.Shelf
attribute [local go_sem] Oper.semAt_some
def XY(k op:Int)(j p:Option Addr)(g d l cap:Nat)(w:World):
  Calls prog 178 #[.agg #[.int .i64 k,.int .i64 op,.slice j g d,.slice p l cap]] w λe a=>∃b A K,e=.returned (.func (.func 194) #[] #[.pointer (some ⟨K,0,none⟩),.pointer (some ⟨A,0,none⟩)])/\w.heap.size<=b/\w.heap.size<=A/\w.heap.size<=K/\
   a.cell? ⟨A,0,none⟩=some (.slice (some ⟨b,0,none⟩) 1 1)/\a.cell? ⟨K,0,none⟩=some (.func (.func 189) #[] #[])/\
   a.cell? ⟨b,0,none⟩=some (.int .i64 k)/\a.cell? ⟨b,1,none⟩=some (.int .i64 op)/\a.cell? ⟨b,2,none⟩=some (.slice j g d)/\a.cell? ⟨b,3,none⟩=some (.slice p l cap)/\Below w.heap.size w a:=by have o:∀(f:Fn)(first cap:Array Value)(w:World),(Instr.makeFunc f first cap).run prog w=.ok (.func f first cap) w:=λ_ _ _ _=>rfl;go_enter func178,ntmps178;go_wp2_with(go_at_call 188;refine(vd _ _ _ _).mono ?_;rintro e q⟨rfl,c,i,m⟩);simp only[World.size_alloc]at c i;go_ret;refine⟨w.heap.size+1,_,_,rfl,BS,BS,BS,c,i,?_,?_,?_,?_,BV⟩;all_goals(rw[m.cell (p:=⟨w.heap.size+1,_,none⟩) BU];simp[go_sem])
def XZ(a:Option Ab)(d cap:Nat)(w:AU):
  Calls prog 159 #[AE a d cap] w λe b=>∃A K,e=.returned (.func (.func 186) #[] #[AH K,AH A])/\w.heap.size<=A/\w.heap.size<=K/\
   b.cell? (AK A 0)=some (AE a d cap)/\b.cell? (AK K 0)=some (.func (.func 177) #[] #[])/\AO w b:=by have i:∀(c:Fn)(first cap:Array AW)(w:AU),(Instr.makeFunc c first cap).run prog w=.ok (.func c first cap) w:=λ_ _ _ _=>rfl;go_enter func159,ntmps159;go_wp2_with(go_at_call 176;refine(vf _ _ _ _).mo ?_;rintro e j⟨rfl,f,g,k⟩);go_ret;exact⟨_,_,rfl,BS,BS,f,g,BV⟩
def zCa{p:Prop}(h:p:=by gi_wp2;refine⟨BU, .inl ⟨_,_,rfl,run_takeDeferred hK,?_⟩⟩;exact⟨_,results_tmp rfl _ _ _,z,rfl,λ_=>rfl,λh=>h,DK _,hB.tr (belowK_b (w:=w) (DK _) W D _ _ BS hK rfl rfl)⟩):p:=h
def wj(n:Stil.DI)(V O:AW)(d:Int)(w:AU)(X:Ar w V n.O.args)(I:Fe w O n.K)(L:Cj n)(ad:Ac n<=1000000000)(_hl1:-9223372036854775808<=d)(_hl2:d<=9223372036854775807):
  Calls prog 160 #[.agg #[AB n.kind,AB n.O.op,V,O],AB d] w λe w'=>∃r:Nat,e=.returned (AB r)/\((Ac n:Int)<=d->r=Ac n)/\(d<Ac n->d<r)/\r<=Ac n/\AO w w':=by
 have m:Hid ((Et [n]).length=Ac n):=by show _=_;rw[WQ,Aui]
 have⟨z,J⟩:=AA (Ac n);rw[<-J]at ad m⊢;clear J;refine(callsIn_wide (n:=9)).1 ?_;have aZ:=BX X;have xg:=BX I;obtain⟨u,y,rfl,_⟩:=X;obtain⟨E,B,rfl,_⟩:=I;refine callsIn_of_wp_marks func160 rfl trivial ?_ rfl;simp only[ntmps160,Db,DO,DU,Nat.reduceAdd,Nat.reduceSub,ES,ET,EV,EU,EB,D4];gi_wp2_with(refine⟨trivial,?_⟩;gi_at_call 178;refine(callsIn_wide.2 (XY _ _ _ _ _ _ _ _ _)).mono ?_;rintro e g⟨b,A,K,rfl,aa,an,al,F,hK,M,S,Y,P,hb⟩);simp only[BG]at aa an al;have Q:AO w g:=BV;have ae:g.cell? (AK (w.heap.size+1) 0)=some (AB d):=B0 hb;have ab:g.cell? (AK (w.heap.size+1+1) 0)=some (AB 0):=B0 hb;have ag:g.frozen? (AK (w.heap.size+1+1) 0)=false:=B1 hb;have Z:w.heap.size+3<=g.heap.size:=xBl;have G:Px w (λk=>k=w.heap.size+1+1) g (AE (some (AK b 0)) 1 1) [n]:=by refine⟨_,1,rfl,λi hi=>⟨b,0,rfl,(λh:b=_=>by omega),AE u n.O.args.length y,AE E n.K.length B,?_⟩⟩;obtain rfl:i=0:=yEf;simp only[GZ,ED,II];exact⟨M,S,Y,P,aZ.out,xg.out⟩
 have R:Hid (SeqStopsK Fence.wide (9 - 1) prog 194 #[AH K,AH A] (λx:Ug w Cj=>#[Value.agg #[AB x.N.kind,AB x.N.O.op,x.av,x.kv]]) (Kept w.heap.size (λk=>k=w.heap.size+1+1)) (λq=>q.map Ug.N=Et [n]) (λpre=>pre.map Ug.N<+:Et [n]) (Et [n]).length g):=
  ZU w Cj (λx T=>⟨(D8 T).2.2.1,(D8 T).2.2.2⟩) (λk=>k=w.heap.size+1+1) (λk(h:k=_)=>by omega) (w.heap.size+3) A K (λk(h:k=_)=>by omega) (λh:K=_=>by omega) (λh:A=_=>by omega) [n] BU (by simpa using L) _ g Q Z G F hK _
 clear G hb M S Y P F hK L;have⟨N,U⟩:=AA ((Et [n]).length);rw[<-U]at R;have aw:N=z:=by rw[U,m.out]
 refine wpIn_rangeFunc_ownG rfl BZ (gf:=194) (lb:=#[AH K,AH A]) rfl trivial (enters_of func194 BW rfl)
  R Kept.t (Kept.b BS) (BP _ _) (λ_=>rfl)
  (λpre W=>(W.cell? (AK (w.heap.size+1+1) 0)=some (AB (pre.length:Int))/\W.frozen? (AK (w.heap.size+1+1) 0)=false/\W.cell? (AK (w.heap.size+1) 0)=some (AB d))/\AO w W)
  (λc pre W=>(c=.exit 0/\d<pre.length/\W.cell? (AK (w.heap.size+1+1) 0)=some (AB (pre.length:Int)))/\AO w W)
  (OwnFrom.and (Own.from (λs A ai row f l j=>⟨cell_kept f.1 l j,(frozen_kept f.1 l j).trans f.2.1,cell_kept f.2.2 l j⟩) _) (ownFrom_below (DK _) BS))
  (λc=>OwnFrom.and (Own.from (λs A ai row f l j=>⟨f.1,f.2.1,cell_kept f.2.2 l j⟩) _) (ownFrom_below (DK _) BS))
  ⟨⟨by simpa using ab,ag,ae⟩,Q⟩
  (λx=>{tmps:=#[A0 n u y E B,AB d,AH w.heap.size,AH (w.heap.size+1),AB 0,AH (w.heap.size+1+1), (A0 n u y E B),.func (.func 194) #[] #[AH K,AH A],.agg #[AB x.N.kind,AB x.N.O.op,x.av,x.kv],AQ,AQ,AQ,AQ,AQ,AQ],defers:=[]}) ?assign ?body ?done ?stop
 case assign=>intro aj x W KK aA;gi_wp2;simpa using aA
 case body=>
  rintro aj pre x W⟨⟨o,ah,ac⟩,hB⟩ ao;have ap:=Ba o;have hw:IntKind.i64.wrap ((pre.length:Int)+1)=(pre.length:Int)+1:=xAe;have H:(W.setCell (AK (w.heap.size+1+1) 0) (AB ((pre.length:Int)+1))).cell? (AK (w.heap.size+1+1) 0)=some (AB ((pre++[x]).length:Int)):=by rw[E8 o];simp
  by_cases au:d<(pre.length:Int)+1;{gi_wp2;exact⟨(KeepsOthers.setCell _ _ _).from _,⟨rfl,Bw,H⟩,hB.setCell (p:=(AK (w.heap.size+1+1) 0)) Bw _⟩};gi_wp2;exact⟨(KeepsOthers.setCell _ _ _).from _,⟨(BP _ W).setCell (p:=(AK (w.heap.size+1+1) 0)) Bw _,Kw.set (C:=λk=>k=w.heap.size+1+1) (Kw.refl _ _) (show _=_ from rfl) _⟩,⟨H,xAo,by rwa[Ea BS]⟩,hB.setCell (p:=(AK (w.heap.size+1+1) 0)) Bw _⟩
 case done=>
  rintro D q W hD hS⟨⟨o,_⟩,hB⟩ hK;have ak:q.length=z:=by have:=congrArg List.length hS;rw[DZ,m.out]at this;exact this
  exact zCa
 case stop=>
  rintro D c pre W hD af⟨⟨rfl,ar,o⟩,hB⟩ hK;have ak:pre.length<=z:=by have:=af.length_le;rw[DZ,m.out]at this;exact this
  gi_wp2;refine⟨BU,.inl ⟨_,_,rfl,run_takeDeferred hK,?_⟩⟩;exact⟨_,results_tmp rfl _ _ _,pre.length,rfl,λh=>by omega,λh=>by omega,BS,hB.trans (belowK_b (w:=w) (DK _) W D _ _ BS hK rfl rfl)⟩
end
section
open Go.RowKit Go.Sort Go.BigFrame Go.Shelf
attribute [local go_sem] Oper.semAt_some
def Us(n:Stil.DI)(t x:AW)(w:AU)(D:Ar w t n.O.args)(C:Fe w x n.K)(g:Cj n):
  Calls prog 131 #[.agg #[AB n.kind,AB n.O.op,t,x]] w (AN w (.bool (Ai n))):=by
 have⟨_,l,z,_⟩:=D8 g;have A:=l.2.1;obtain⟨B,y,rfl,_⟩:=D;obtain⟨H,G,rfl,_⟩:=C;clear g l;have a:Hid (Ai n=((n.kind==0 && (n.O.op==0 && n.O.args.length==0)) && n.K.length==0)):=by show _=_;unfold Ai;simp only[Bool.and_assoc]
 have b:Hid (∀W,Calls prog 164 #[.agg #[AB n.O.op,AE B n.O.args.length y]] W (AN W (.bool (n.O.op==0 && n.O.args.length==0)))):=λW=>P2 _ _ _ _ _ BS;have⟨j,r⟩:=AA ((n.O.op==0 && n.O.args.length==0));rw[<-r]at a b;have⟨d,q⟩:=AA n.K.length;have⟨u,v⟩:=AA n.O.args.length;rw[<-q]at a z⊢;rw[<-v]at b A⊢;have⟨k,s⟩:=AA n.kind;rw[<-s]at a⊢;clear r q v s;by_cases m:k=0
 .subst m;cases j;{go_enter func131,ntmps131;go_wp2_with(go_at_call 164;refine(b _).mo ?_;rintro e o⟨rfl,f⟩);(all_goals go_ret);all_goals exact⟨Ad (by rw[a.out];simp),BV⟩};by_cases c:d=0;{subst c;go_enter func131,ntmps131;go_wp2_with(go_at_call 164;refine(b _).mo ?_;rintro e o⟨rfl,f⟩;have⟨E,g⟩:=F8 f);(all_goals go_ret);all_goals exact⟨Ad (by rw[a.out];simp),BV⟩};have F:((d:Int)==0)=false:=by rw[DV];omega
  go_enter func131,ntmps131;go_wp2_with(go_at_call 164;refine(b _).mo ?_;rintro e o⟨rfl,f⟩;have⟨E,g⟩:=F8 f);all_goals go_ret
  all_goals exact⟨Ad (by rw[a.out];simp[c]),BV⟩
 have c:(k==0)=false:=by rwa[DV]
 go_enter func131,ntmps131;go_wp2;all_goals go_ret
 all_goals exact⟨Ad (by rw[a.out,c];rfl),BV⟩
end
open Go.RowKit Go.Sort Go.BigFrame Go.Shelf
attribute [local go_sem] Oper.semAt_some
def PK(W:AU)(B:Nat)(k op:Int)(a n c d:AW):Prop:=W.cell? (AK B 0)=some (AB k)/\W.cell? (AK B 1)=some (AB op)/\W.cell? (AK B 2)=some a/\W.cell? (AK B 3)=some n/\W.cell? (AK B 4)=some c/\W.cell? (AK B 5)=some d
def ZH{β:Type}(B:Nat)(k op:Int)(a n c d:AW):Own (λ(_:β)W=>PK W B k op a n c d):=λ_ _ _ _ b e f=>
 ⟨cell_kept b.1 e f,cell_kept b.2.1 e f,cell_kept b.2.2.1 e f,cell_kept b.2.2.2.1 e f,cell_kept b.2.2.2.2.1 e f,cell_kept b.2.2.2.2.2 e f⟩
def zm {p:Prop}(h:p:=by
 have hrn:r=ns:=by by_cases h:(ns:Int)<=limit - ((S:Int)+(1+cn));{exact hr1 h};have:=hr2 BS;omega
 gi_wp2;exact⟨yQa,SB (b:=w.heap.size+1) (Wy (Ay7 (Wy (SB (b:=w.heap.size+1) (Kept.refl w.heap.size (λk=>k=w.heap.size+1) W) CW rfl _) hn hb2)) hn hb3) CW rfl _,⟨⟨⟨by rw[E8 c3,dF.out,hoe];simp;omega,by rw[World.frozen?_setCell];exact z3,by rw[Ea CW];exact l3⟩,BV⟩,by rw[dF.out];omega,by rw[dF.out,lJ.out];omega,by have:=hb2.size;have:=hb3.size;simp at*;omega⟩⟩):p:=h
def zf0{p:Prop}(h:p:=by gi_wp2;exact⟨yQa,⟨rfl,S+(1+cn)+r,by omega,by rw[dF.out];omega,by rw[E8 c3];simp⟩,BV⟩):p:=h
def zPa {p:Prop}(h:p:=by
 refine aA _ _ ?_;clear aA KK;refine Si [8] ?_;refine wpAnyIn_done BW ?_ _;by_cases hgt:limit<(S:Int)+(1+cn)+r
 .exact zf0
 exact zm):p:=h
def wA(d:List Stil.DJ)(v:AW)(limit:Int)(w:AU)(ab:Dx w v d)(hf:∀x∈d,Bh x)(hl:d.length<=1048576)(aj:Au d<=1000000000)(aK:0<=limit)(aL:limit<=9223372036854775807):
  Calls prog 126 #[v,AB limit] w λe O=>∃r:Nat,e=.returned (AB r)/\((Au d:Int)<=limit->r=Au d)/\(limit<Au d->limit<r)/\r<=Au d/\AO w O:=by
 have U:Hid (((D9 d).map P8).sum=Au d):=xX d;have⟨z,hz⟩:=AA (Au d);rw[<-hz]at aj U⊢;clear hz;have qW:Hid (∀W,AO w W->Og w (λk=>k=w.heap.size+1) W v d):=λW h=>Og.of_at ab h (λk(h:k=_)=>by omega);obtain⟨p0,r0,rfl,_⟩:=ab;refine(callsIn_wide (n:=9)).1 ?_;refine callsIn_of_wp_marks func126 rfl trivial ?_ rfl;simp only[ntmps126,Db,DO,DU,Nat.reduceAdd,Nat.reduceSub,ES,ET,EV,EU,EB,D4];gi_wp2_with(refine⟨trivial,?_⟩;gi_at_call 159;refine(callsIn_wide.2 (XZ _ _ _ _)).mono ?_;rintro e q⟨A,K,rfl,aB,az,hA,hK,hb⟩);simp only[BG]at aB az;have af:AO w q:=BV;have aD:q.cell? (AL w 0)=some (AB limit):=by rw[hb.cell (p:=(AL w 0)) Bw];simp[go_sem]
 have aC:q.cell? (AK (w.heap.size+1) 0)=some (AB 0):=B0 hb;have aI:q.frozen? (AK (w.heap.size+1) 0)=false:=B1 hb;have an:w.heap.size+2<=q.heap.size:=xBl;have HS:Hid (SeqStopsK Fence.wide (9 - 1) prog 186 #[AH K,AH A] (λx:Rk w (λa=>a∈D9 d)=>#[Value.agg #[AB x.A.N.kind,AB x.A.N.O.op,x.av,x.nv,x.cv,x.kv]]) (Kept w.heap.size (λk=>k=w.heap.size+1)) (λys=>ys.map Rk.A=D9 d) (λpre=>pre.map Rk.A<+:D9 d) (D9 d).length q):=
  ZV w (λa=>a∈D9 d) (λx C=>⟨(Ig (VT d hf x C)).2.2.2.1,t9 d x C⟩) (λk=>k=w.heap.size+1) (λk(h:k=_)=>by omega) (w.heap.size+2) A K (λk(h:k=_)=>by omega) (λh:K=_=>by omega) (λh:A=_=>by omega) d hl (xd d) _ q af an (qW q af) hA hK _
 have ap:Hid (∀x∈D9 d,P8 x<=z):=λx C=>by rw[<-U.out];exact Auo _ C
 have zN:Hid (∀x∈D9 d,Bh x):=VT d hf;have aR:(D9 d).length<=z:=by rw[<-U.out];exact QM P8 (λx=>by unfold P8;omega) _
 clear hb hA hK hf qW;refine wpIn_rangeFunc_ownH rfl BZ (gf:=186) (lb:=#[AH K,AH A]) rfl trivial (enters_of func186 BW rfl)
  HS Kept.t (Kept.b BS) (BP _ _) (λ_=>rfl)
  (λpre W=>((W.cell? (AK (w.heap.size+1) 0)=some (AB ((pre.map (P8 ∘ Rk.A)).sum:Nat))/\W.frozen? (AK (w.heap.size+1) 0)=false/\W.cell? (AL w 0)=some (AB limit))/\AO w W)/\(((pre.map (P8 ∘ Rk.A)).sum:Nat):Int)<=limit/\(pre.map (P8 ∘ Rk.A)).sum<=pre.length*z/\q.heap.size<=W.heap.size)
  (λc pre W=>(c=.exit 0/\∃t:Nat,limit<t/\t<=(pre.map (P8 ∘ Rk.A)).sum/\W.cell? (AK (w.heap.size+1) 0)=some (AB t))/\AO w W)
  (OwnFrom.and (OwnFrom.and (Own.from (λs A ag row hs y I=>⟨cell_kept hs.1 y I,(frozen_kept hs.1 y I).trans hs.2.1,cell_kept hs.2.2 y I⟩) _) (ownFrom_below (DK _) BS)) (OwnFrom.and (ownFrom_pure _ _) (OwnFrom.and (ownFrom_pure _ _) (λ_ _ _ _ hs y _=>DR hs y.size))))
  (λc=>OwnFrom.and (Own.from (λs A ag row hs y I=>⟨hs.1,hs.2.elim λt ht=>⟨t,ht.1,ht.2.1,cell_kept ht.2.2 y I⟩⟩) _) (ownFrom_below (DK _) BS))
  ⟨⟨⟨by simpa using aC,aI,aD⟩,af⟩,by simpa using aK,BU,DK _⟩
  (λx a' W=>∃g,q.heap.size<=g/\PK W g x.A.N.kind x.A.N.O.op x.av x.nv x.cv x.kv/\a'={tmps:=#[AE p0 d.length r0,AB limit,AQ,AH w.heap.size,AB 0,AH (w.heap.size+1),AH g,AE p0 d.length r0,.func (.func 186) #[] #[AH K,AH A],.agg #[AB x.A.N.kind,AB x.A.N.O.op,x.av,x.nv,x.cv,x.kv],AQ,AQ,AQ,AQ,AQ,AQ,AQ,AQ,AQ,AQ,AQ,AQ,AQ,AQ,AQ,AQ,AQ,AQ,AQ,AQ,AQ,AQ],defers:=[]})
  (λx a' s A ag row hs y I=>hs.elim λg C=>⟨g,C.1,ZH (β:=Unit) g _ _ _ _ _ _ s A ag row C.2.1 y (λr e=>(I r e).2),C.2.2⟩) ?assign ?body ?done ?stop
 case assign=>rintro l pre x W KK⟨⟨⟨m,hfz,M⟩,hB⟩,R,ae,aH⟩ aA;have aE:w.heap.size+1<W.heap.size:=Ba m;obtain⟨x,av,nv,cv,kv,ab,aJ,ax,au,mF⟩:=x;obtain⟨q0,s0,rfl,_⟩:=id ab;obtain⟨q1,s1,rfl,_⟩:=id aJ;obtain⟨q2,s2,rfl,_⟩:=id ax;obtain⟨q3,s3,rfl,_⟩:=id au;gi_wp2;exact aA _ _ ((KeepsOthers.alloc _ _).from _) (Kept.of_below hB.size (Aa _ _)) ⟨⟨⟨Po _ m,Qd _ m hfz,Po _ M⟩,BV⟩,R,ae,Bw⟩ ⟨W.heap.size,BS,⟨AP,AP,AP,AP,AP,AP⟩,rfl⟩
 case body=>
  rintro l pre x a' W ao _⟨⟨⟨m,hfz,M⟩,hB⟩,R,ae,aH⟩ ⟨g,aP,⟨y0,y1,y2,y3,y4,y5⟩,rfl⟩ ar;have aE:w.heap.size+1<W.heap.size:=Ba m;have aQ:w.heap.size<W.heap.size:=BS;have tY:g<W.heap.size:=Ba y0;have hn:w.heap.size<=W.heap.size:=BS;have aa:¬g=w.heap.size+1:=BS;have aM:¬g=w.heap.size:=BS;have dF:Hid (((pre++[x]).map (P8 ∘ Rk.A)).sum=(pre.map (P8 ∘ Rk.A)).sum+P8 x.A):=by show _=_;rw[D2,KB];simp
  have lJ:Hid ((pre++[x]).length*z=pre.length*z+z):=by show _=_;rw[DT,Nat.add_mul];simp
  have aN:pre.length*z<=1000000000*1000000000:=Nat.mul_le_mul BS aj;have ad:=(Ig (zN _ x.mem)).1;have ql:=(Ig (zN _ x.mem)).2.1;have aG:=ap _ x.mem;have B:Hid (P8 x.A=1+x.A.C.length+(if Ai x.A.N then 0 else Ac x.A.N)):=rfl;have⟨q0,s0,e0,_⟩:=id x.hav;have⟨q1,s1,e1,_⟩:=id x.hnv;have⟨q2,s2,e2,_⟩:=id x.hcv;have⟨q3,s3,e3,_⟩:=id x.hkv;have L:Hid (∀X,AO w X->Calls prog 131 #[.agg #[AB x.A.N.kind,AB x.A.N.O.op,x.av,x.nv]] X (AN X (.bool (Ai x.A.N)))):=λX T=>Us x.A.N x.av x.nv X (x.hav.below T) (x.hnv.below T) ad;have N:Hid (∀X,AO w X->Ac x.A.N<=1000000000->∀E,-9223372036854775808<=E->E<=9223372036854775807->Calls prog 160 #[.agg #[AB x.A.N.kind,AB x.A.N.O.op,x.av,x.nv],AB E] X λe O=>∃r:Nat,e=.returned (AB r)/\((Ac x.A.N:Int)<=E->r=Ac x.A.N)/\(E<Ac x.A.N->E<r)/\r<=Ac x.A.N/\AO X O):=λX T hs E h1 h2=>wj x.A.N x.av x.nv E X (x.hav.below T) (x.hnv.below T) ad hs h1 h2;rw[e0,e1]at L N;rw[e0]at y2;rw[e1]at y3;rw[e2]at y4;rw[e3]at y5;have⟨S,hS⟩:=AA ((pre.map (P8 ∘ Rk.A)).sum);have⟨o,ho⟩:=AA (P8 x.A);have⟨cn,ah⟩:=AA x.A.C.length;rw[<-hS]at m R ae dF;rw[<-ho]at aG dF B;rw[<-ah]at ql B y4;clear ad hS ho ah e0 e1 e2 e3 ar ao;cases Z:Ai x.A.N;{rw[Z]at L B;have hoe:o=1+cn+Ac x.A.N:=(by rw[B.out];simp);have⟨ns,al⟩:=AA (Ac x.A.N);rw[<-al]at hoe N;clear al Z B;have ai:IntKind.i64.wrap (limit - ((S:Int)+(1+cn)))=limit - ((S:Int)+(1+cn)):=xAe;gi_wp2_with(refine⟨trivial,?_⟩;gi_at_call 131;refine(CallsIn.inRound l (callsIn_wide.2 (L _ BV))).mono ?_;rintro e j⟨rfl,hb2⟩;have u:j.cell? (AK (w.heap.size+1) 0)=some (AB ((S:Int)+(1+cn))):=(hb2.cell (p:=(AK (w.heap.size+1) 0)) Bw).trans (E8 m);have V:j.frozen? (AK (w.heap.size+1) 0)=false:=(hb2.frozen (p:=(AK (w.heap.size+1) 0)) Bw).trans yDj;have H:j.cell? (AL w 0)=some (AB limit):=(hb2.cell (p:=(AL w 0)) Bw).trans ((Ea BS).trans M);have v0:j.cell? (AK g 0)=some (AB x.A.N.kind):=(hb2.cell (p:=(AK g 0)) Bw).trans ((Ea aa).trans y0);have v1:j.cell? (AK g 1)=some (AB x.A.N.O.op):=(hb2.cell (p:=(AK g 1)) Bw).trans ((Ea aa).trans y1);have v2:j.cell? (AK g 2)=some (AE q0 x.A.N.O.args.length s0):=(hb2.cell (p:=(AK g 2)) Bw).trans ((Ea aa).trans y2);have v3:j.cell? (AK g 3)=some (AE q1 x.A.N.K.length s1):=(hb2.cell (p:=(AK g 3)) Bw).trans ((Ea aa).trans y3));(refine wpIn_region_any BW ?_;try(change wpAnyIn _ _ _ _ _ _ _ _ _ (World.drew _)));apply share;{intro rV;apply share;{intro Y;apply share;{intro rJ;apply share;{intro wM;apply share;{intro uX;apply share;{intro uV;apply share;{intro rH;apply share;{intro ak;apply share;{intro kz;apply share;{intro zy;apply share;{intro wX;apply share;{intro rQ;apply share;{intro rP;apply share;{intro rO;apply share;{intro wW;apply share;{intro wV;apply share;{intro rM;apply share;{intro wU;apply share;{intro wS;apply share;{intro wR;apply share;{intro wQ;apply share;{intro wP;apply share;{intro wO;refine wpAnyIn_ready (rs:=[0,1,3,4]) BW BU ?_;refine Jo rfl ?_ ?_;{refine wpAnyIn_ready (rs:=[1,3,4]) BW BU ?_;refine Jo rfl ?_ ?_;{exact wU};refine Jo rfl ?_ ?_;{exact wS};refine Jo rfl ?_ ?_;{exact wR};exact AllReadyIn.nil};refine Jo rfl ?_ ?_;{refine wpAnyIn_ready (rs:=[0,2,3,4]) BW BU ?_;refine Jo rfl ?_ ?_;{exact wU};refine Jo rfl ?_ ?_;{refine wpAnyIn_ready (rs:=[0,3,4]) BW BU ?_;refine Jo rfl ?_ ?_;{exact wX};refine Jo rfl ?_ ?_;{exact wW};refine Jo rfl ?_ ?_;{exact wV};exact AllReadyIn.nil};refine Jo rfl ?_ ?_;{exact wQ};refine Jo rfl ?_ ?_;{exact wP};exact AllReadyIn.nil};refine Jo rfl ?_ ?_;{refine wpAnyIn_ready (rs:=[0,1,4]) BW BU ?_;refine Jo rfl ?_ ?_;{exact wS};refine Jo rfl ?_ ?_;{exact wQ};refine Jo rfl ?_ ?_;{exact wO};exact AllReadyIn.nil};refine Jo rfl ?_ ?_;{refine wpAnyIn_ready (rs:=[0,1,3]) BW BU ?_;refine Jo rfl ?_ ?_;{exact wR};refine Jo rfl ?_ ?_;{exact wP};refine Jo rfl ?_ ?_;{exact wO};exact AllReadyIn.nil};exact AllReadyIn.nil};refine wpAnyIn_ready (rs:=[0,1,5]) BW BU ?_;refine Jo rfl ?_ ?_;{exact rO};refine Jo rfl ?_ ?_;{exact rM};refine Jo rfl ?_ ?_;{refine wpAnyIn_ready (rs:=[0,1]) BW BU ?_;refine Jo rfl ?_ ?_;{exact ak};refine Jo rfl ?_ ?_;{exact zy};exact AllReadyIn.nil};exact AllReadyIn.nil};refine wpAnyIn_ready (rs:=[0,2,3]) BW BU ?_;refine Jo rfl ?_ ?_;{exact rP};refine Jo rfl ?_ ?_;{exact wV};refine Jo rfl ?_ ?_;{exact rM};exact AllReadyIn.nil};refine wpAnyIn_ready (rs:=[0,2,4]) BW BU ?_;refine Jo rfl ?_ ?_;{exact rQ};refine Jo rfl ?_ ?_;{exact wW};refine Jo rfl ?_ ?_;{exact rM};exact AllReadyIn.nil};refine wpAnyIn_ready (rs:=[1,3]) BW BU ?_;refine Jo rfl ?_ ?_;{exact rP};refine Jo rfl ?_ ?_;{exact rO};exact AllReadyIn.nil};refine wpAnyIn_ready (rs:=[1,4]) BW BU ?_;refine Jo rfl ?_ ?_;{exact rQ};refine Jo rfl ?_ ?_;{exact rO};exact AllReadyIn.nil};refine wpAnyIn_ready (rs:=[2,3,4]) BW BU ?_;refine Jo rfl ?_ ?_;{exact wX};refine Jo rfl ?_ ?_;{exact rQ};refine Jo rfl ?_ ?_;{exact rP};exact AllReadyIn.nil};refine wpAnyIn_ready (rs:=[0,2,5]) BW BU ?_;refine Jo rfl ?_ ?_;{exact rH};refine Jo rfl ?_ ?_;{exact kz};refine Jo rfl ?_ ?_;{exact zy};exact AllReadyIn.nil};refine wpAnyIn_ready (rs:=[0,3]) BW BU ?_;refine Jo rfl ?_ ?_;{exact uV};refine Jo rfl ?_ ?_;{exact kz};exact AllReadyIn.nil};refine wpAnyIn_ready (rs:=[0,4]) BW BU ?_;refine Jo rfl ?_ ?_;{exact uX};refine Jo rfl ?_ ?_;{exact kz};exact AllReadyIn.nil};refine wpAnyIn_ready (rs:=[1,5]) BW BU ?_;refine Jo rfl ?_ ?_;{exact rH};refine Jo rfl ?_ ?_;{exact ak};exact AllReadyIn.nil};refine wpAnyIn_ready (rs:=[2,3]) BW BU ?_;refine Jo rfl ?_ ?_;{exact uV};refine Jo rfl ?_ ?_;{exact rH};exact AllReadyIn.nil};refine wpAnyIn_ready (rs:=[2,4]) BW BU ?_;refine Jo rfl ?_ ?_;{exact uX};refine Jo rfl ?_ ?_;{exact rH};exact AllReadyIn.nil};refine wpAnyIn_ready (rs:=[3,4]) BW BU ?_;refine Jo rfl ?_ ?_;{exact uX};refine Jo rfl ?_ ?_;{exact uV};exact AllReadyIn.nil};refine wpAnyIn_ready (rs:=[0,2]) BW BU ?_;refine Jo rfl ?_ ?_;{exact rJ};refine Jo rfl ?_ ?_;{exact wM};exact AllReadyIn.nil};refine wpAnyIn_ready (rs:=[0,5]) BW BU ?_;refine Jo rfl ?_ ?_;{exact Y};refine Jo rfl ?_ ?_;{exact wM};exact AllReadyIn.nil};refine Si [1] ?_;exact rJ};refine wpAnyIn_ready (rs:=[2,5]) BW BU ?_;refine Jo rfl ?_ ?_;{exact Y};refine Jo rfl ?_ ?_;{exact rJ};exact AllReadyIn.nil};refine Si [3] ?_;exact Y};refine Si [4] ?_;exact Y};refine wpAnyIn_ready (rs:=[0,6]) BW BU ?_;refine Jo rfl ?_ ?_;{exact rV};refine AllReadyIn.cons rfl (λKK aA=>?_) ?_;{go_simp;(try simp only[ai]);refine⟨trivial,?_⟩;refine(CallsIn.inRound l (callsIn_wide.2 (N _ BV BS (limit - ((S:Int)+(1+cn))) BS BS))).mono ?_;rintro e J⟨r,rfl,hr1,hr2,aw,hb3⟩;refine aA _ _ ?_;clear aA KK;have c3:J.cell? (AK (w.heap.size+1) 0)=some (AB ((S:Int)+(1+cn))):=(hb3.cell (p:=(AK (w.heap.size+1) 0)) (Ba u)).trans u;have z3:J.frozen? (AK (w.heap.size+1) 0)=false:=(hb3.frozen (p:=(AK (w.heap.size+1) 0)) (Ba u)).trans V;have l3:J.cell? (AL w 0)=some (AB limit):=(hb3.cell (p:=(AL w 0)) (Ba H)).trans H;have ac:IntKind.i64.wrap ((S:Int)+(1+cn)+r)=(S:Int)+(1+cn)+r:=xAe;(refine Si [0] ?_;refine wpAnyIn_ready (rs:=[7]) BW BU ?_;refine AllReadyIn.cons rfl (λKK aA=>?_) AllReadyIn.nil;go_simp;try simp only[ac]);exact zPa};exact AllReadyIn.nil};refine Si [2] ?_;exact rV};refine Si [5] ?_;exact rV};refine wpAnyIn_ready (rs:=[6]) BW BU ?_;(refine AllReadyIn.cons rfl (λKK aA=>?_) AllReadyIn.nil;go_simp;try simp only[ai]);refine⟨trivial,?_⟩;refine(CallsIn.inRound l (callsIn_wide.2 (N _ BV BS (limit - ((S:Int)+(1+cn))) BS BS))).mono ?_;rintro e J⟨r,rfl,hr1,hr2,aw,hb3⟩;refine aA _ _ ?_;clear aA KK;have c3:J.cell? (AK (w.heap.size+1) 0)=some (AB ((S:Int)+(1+cn))):=(hb3.cell (p:=(AK (w.heap.size+1) 0)) (Ba u)).trans u;have z3:J.frozen? (AK (w.heap.size+1) 0)=false:=(hb3.frozen (p:=(AK (w.heap.size+1) 0)) (Ba u)).trans V;have l3:J.cell? (AL w 0)=some (AB limit):=(hb3.cell (p:=(AL w 0)) (Ba H)).trans H;have ac:IntKind.i64.wrap ((S:Int)+(1+cn)+r)=(S:Int)+(1+cn)+r:=xAe;(refine wpAnyIn_ready (rs:=[7]) BW BU ?_;refine AllReadyIn.cons rfl (λKK aA=>?_) AllReadyIn.nil;go_simp;try simp only[ac]);exact zPa};rw[Z]at L B;have hoe:o=1+cn:=by rw[B.out];simp
  clear Z B N;by_cases hgt:limit<(S:Int)+(1+cn);{gi_wp2_with (refine⟨trivial,?_⟩;gi_at_call 131;refine(CallsIn.inRound l (callsIn_wide.2 (L _ BV))).mono ?_;rintro e j⟨rfl,hb2⟩;have u:j.cell? (AK (w.heap.size+1) 0)=some (AB ((S:Int)+(1+cn))):=(hb2.cell (p:=(AK (w.heap.size+1) 0)) Bw).trans (E8 m);have V:j.frozen? (AK (w.heap.size+1) 0)=false:=(hb2.frozen (p:=(AK (w.heap.size+1) 0)) Bw).trans yDj;have H:j.cell? (AL w 0)=some (AB limit):=(hb2.cell (p:=(AL w 0)) Bw).trans ((Ea BS).trans M));exact⟨yQa,⟨rfl,S+(1+cn),BS,by rw[dF.out];omega,by rw[u];simp⟩,BV⟩};gi_wp2_with (refine⟨trivial,?_⟩;gi_at_call 131;refine(CallsIn.inRound l (callsIn_wide.2 (L _ BV))).mono ?_;rintro e j⟨rfl,hb2⟩;have u:j.cell? (AK (w.heap.size+1) 0)=some (AB ((S:Int)+(1+cn))):=(hb2.cell (p:=(AK (w.heap.size+1) 0)) Bw).trans (E8 m);have V:j.frozen? (AK (w.heap.size+1) 0)=false:=(hb2.frozen (p:=(AK (w.heap.size+1) 0)) Bw).trans yDj;have H:j.cell? (AL w 0)=some (AB limit):=(hb2.cell (p:=(AL w 0)) Bw).trans ((Ea BS).trans M));exact⟨yQa,Wy (SB (b:=w.heap.size+1) (Kept.refl w.heap.size (λk=>k=w.heap.size+1) W) CW rfl _) hn hb2,⟨⟨⟨by rw[u,dF.out,hoe];simp,V,H⟩,BV⟩,by rw[dF.out];omega,by rw[dF.out,lJ.out];omega,by have:=hb2.size;simp at*;omega⟩⟩
 case done=>rintro D ys W hD hS⟨⟨⟨m,_⟩,hB⟩,R,_⟩ hK;rw[<-IP,hS,U.out]at m R;exact zCa
 case stop=>
  rintro D c pre W hD aF⟨⟨rfl,t,aO,aS,m⟩,hB⟩ hK;have ay:t<=z:=by have:=xm P8 aF;rw[U.out,IP]at this;omega
  gi_wp2;refine⟨BU,.inl ⟨_,_,rfl,run_takeDeferred hK,?_⟩⟩;exact⟨_,results_tmp rfl _ _ _,t,rfl,λh=>by omega,λh=>by omega,ay,hB.trans (belowK_b (w:=w) (DK _) W D _ _ BS hK rfl rfl)⟩
