import Derived.Shelf.RegionOpen
import Derived.OwnWalkIn
import Derived.Test.YtfeablpbkcgdjaaGreatDoorGU
import Derived.LoopNIn
import Derived.LoopIn
set_option linter.defProp false
set_option maxHeartbeats 4000000
set_option maxRecDepth 100000
namespace Go.Proofs.YtfeablpbkcgdjaaGreatDoor
open Tryz Stil
section
open Go.RowKit Go.Sort Go.BigFrame
def Yy (op:Int)(a:Option Addr)(b cap:Nat)(w:World)(_h:b<=9223372036854775807):
  Calls prog 136 #[.agg #[.int .i64 op, .slice a b cap]] w λe d=>e=.returned (.bool (op==0 && b==0))/\Below w.heap.size w d:=by
 by_cases c:op=0
 .subst c
  go_enter func136,ntmps136
  go_wp2
  all_goals go_ret
  all_goals refine⟨Ad ?_,AX⟩
  all_goals (go_light;rw[Db];simp;try omega)
 .have f:(op==0)=false:=by rw[CJ];exact c
  go_enter func136,ntmps136
  go_wp2
  all_goals go_ret
  all_goals refine⟨Ad ?_,AX⟩
  all_goals (go_light;simp[f])
end
structure WrR (G:Prop):Prop where
 o:G
def Pl (_:List Nat):Prop:=True
abbrev Pl.rs {rs:List Nat}(_:Pl rs):List Nat:=rs
def Qn (rs:List Nat){G G':Prop}(k:G')(f:Pl rs->WrR G'->G:=by(intro hR hZ;refine wpAnyIn_ready (rs:=hR.rs) AY (List.cons_ne_nil _ _) ?_;refine AllReadyIn.cons rfl (λKK aA=>?_) AllReadyIn.nil;go_simp;refine aA _ _ ?_;clear aA KK;exact hZ.o)):G:=f trivial ⟨k⟩
def Iq {F:Fence}{n:Nat}{P:Program}{md:Region.Mode}{ops:Array Oper}{Q:Exit->Act->World->Prop}{fuel:Nat}{listed:Array Bool}{a:Act}{w:World}{i:Nat}{o:Oper}{rs:List Nat}{G:Prop}(ho:ops[i]?=some o)(k:G)(hs:AllReadyIn F n P md ops Q fuel listed a w rs)(f:WrR G->∀K':Act->World->Prop,(∀a w,wpAnyIn F n P md ops Q fuel (listed.setIfInBounds i true) a w->K' a w)->if Region.wanted o (yielded ops a.tmps)=true then Oper.wpIn F n P o a w K' Q else(∀f,o.about P w a.eval=some f->F.fn f)/\K' (a.put o.dst undef) w:=by(intro hZ KK aA;go_simp;refine aA _ _ ?_;clear aA KK;exact hZ.o)):AllReadyIn F n P md ops Q fuel listed a w (i::rs):=AllReadyIn.cons ho (f ⟨k⟩) hs
section
open Go.RowKit Go.Sort Go.BigFrame Go.Shelf
def VO (k op:Int)(a:Value)(p:Option Addr)(b cap:Nat)(c:Option Addr)(f g:Nat)(i:a=.slice c f g)(w:World):
  Calls prog 170 #[.agg #[.int .i64 k, .int .i64 op,a, .slice p b cap]] w λe d=>e=.returned (.slice p b cap)/\Below w.heap.size w d:=by
 subst i;go_enter func170,ntmps170
 go_wp2
 go_ret;exact⟨rfl,AX⟩
def VQ (k op:Int)(c d i p:Option Addr)(g o b l j f a cap:Nat)(w:World):
  Calls prog 157 #[.agg #[.int .i64 k, .int .i64 op, .slice c g o, .slice d b l, .slice i j f, .slice p a cap]] w λe m=>e=.returned (.slice p a cap)/\Below w.heap.size w m:=by
 go_enter func157,ntmps157
 go_wp2
 go_ret;exact⟨rfl,AX⟩
def KP (l Y B K:Nat)(W:World):Prop:=W.cell? ⟨Y,0,none⟩=some (.func (.yield l) #[] #[])/\W.cell? ⟨B,0,none⟩=some (.func (.func 177) #[] #[.pointer (some ⟨Y,0,none⟩), .pointer (some ⟨B,0,none⟩), .pointer (some ⟨K,0,none⟩)])/\W.cell? ⟨K,0,none⟩=some (.func (.func 170) #[] #[])
def KD (w:World)(P:Stil.B1->Prop)(C:Nat->Prop)(M l Y B K N:Nat)(J c:List (Ro w P)->World->Prop)(es:List Stil.B1):Prop:=
 ∀(m:Nat) (v:Value) (pre:List (Ro w P)) (W:World),Nz w C W v es->KP l Y B K W->J pre W->Below w.heap.size w W->M<=W.heap.size->pre.length+(Ei es).length<=N->
  CallsIn Fence.wide m prog 177 #[v, .pointer (some ⟨Y,0,none⟩), .pointer (some ⟨B,0,none⟩), .pointer (some ⟨K,0,none⟩)] W λe b=>
   (e=.returned (.bool true)/\∃a:List (Ro w P),a.map Ro.net=Ei es/\J (pre++a) b/\Kept w.heap.size C W b)\/
   (e=.returned (.bool false)/\∃a:List (Ro w P),a.map Ro.net<+:Ei es/\c (pre++a) b)
def KQ (l Y B K:Nat)(W:World):Prop:=W.cell? ⟨Y,0,none⟩=some (.func (.yield l) #[] #[])/\W.cell? ⟨B,0,none⟩=some (.func (.func 168) #[] #[.pointer (some ⟨Y,0,none⟩), .pointer (some ⟨B,0,none⟩), .pointer (some ⟨K,0,none⟩)])/\W.cell? ⟨K,0,none⟩=some (.func (.func 157) #[] #[])
def KE (w:World)(P:Stil.B5->Prop)(C:Nat->Prop)(M l Y B K N:Nat)(J c:List (P7 w P)->World->Prop)(es:List Stil.B5):Prop:=
 ∀(m:Nat) (v:Value) (pre:List (P7 w P)) (W:World),Ls w C W v es->KQ l Y B K W->J pre W->Below w.heap.size w W->M<=W.heap.size->pre.length+(Dy es).length<=N->
  CallsIn Fence.wide m prog 168 #[v, .pointer (some ⟨Y,0,none⟩), .pointer (some ⟨B,0,none⟩), .pointer (some ⟨K,0,none⟩)] W λe b=>
   (e=.returned (.bool true)/\∃a:List (P7 w P),a.map P7.arm=Dy es/\J (pre++a) b/\Kept w.heap.size C W b)\/
   (e=.returned (.bool false)/\∃a:List (P7 w P),a.map P7.arm<+:Dy es/\c (pre++a) b)
end
section
open Go.RowKit Go.Sort Go.BigFrame Go.Shelf
attribute [local go_sem] Oper.semAt_some
def KP.keep {l Y B K:Nat}{C:Nat->Prop}{W b:World}(h:KP l Y B K W)(e:¬C Y)(c:¬C B)(d:¬C K)(a:Jf C W b):KP l Y B K b:=⟨a.cell e h.1,a.cell c h.2.1,a.cell d h.2.2⟩
def zd {p:Prop}(h:p:=by
 refine aA _ _ ?_
 clear aA KK;refine Qn [3] ?_;refine Qn [4] ?_;refine wpAnyIn_take (i:=5) (v:=undef) rfl rfl AY AY AY (λ_ _ _ h=>h) ⟨Or.inr ⟨A0,rfl⟩,λ_=>rfl⟩ ?_;refine wpAnyIn_take (i:=6) (v:=undef) rfl rfl AY AY AY (λ_ _ _ h=>h) ⟨Or.inr ⟨A0,rfl⟩,λ_=>rfl⟩ ?_;refine wpAnyIn_take (i:=7) (v:=undef) rfl rfl AY AY AY (λ_ _ _ h=>h) ⟨Or.inr ⟨A0,rfl⟩,λ_=>rfl⟩ ?_;refine wpAnyIn_take (i:=8) (v:=undef) rfl rfl AY AY AY (λ_ _ _ h=>h) ⟨Or.inr ⟨A0,rfl⟩,λ_=>rfl⟩ ?_;refine wpAnyIn_take (i:=9) (v:=undef) rfl rfl AY AY AY (λ_ _ _ h=>h) ⟨Or.inr ⟨A0,rfl⟩,λ_=>rfl⟩ ?_;refine wpAnyIn_take (i:=10) (v:=undef) rfl rfl AY AY AY (λ_ _ _ h=>h) ⟨Or.inr ⟨A0,rfl⟩,λ_=>rfl⟩ ?_;refine Qn [11] ?_;refine wpAnyIn_done AY ?_ _
 gi_wp2
 go_ret;exact .inr ⟨rfl,ys++[x],kP.out,by simpa[C6] using hx3⟩):p:=h
def zj {p:Prop}(h:p:=by
 intro key2
 refine Qn [3] ?_;refine Qn [4] ?_;refine wpAnyIn_ready (rs:=[5,6,7]) AY AW ?_;refine Iq rfl ?_ ?_
 .refine wpAnyIn_ready (rs:=[6,7]) AY AW ?_
  refine Iq rfl ?_ ?_
  .refine Qn [7] ?_
   exact key1
  refine Iq rfl ?_ ?_
  .refine Qn [6] ?_
   exact key1
  exact AllReadyIn.nil
 refine Iq rfl ?_ ?_
 .refine wpAnyIn_ready (rs:=[5,7]) AY AW ?_
  refine Iq rfl ?_ ?_
  .refine Qn [7] ?_
   exact key1
  refine Iq rfl ?_ ?_
  .exact key2
  exact AllReadyIn.nil
 refine Iq rfl ?_ ?_
 .refine wpAnyIn_ready (rs:=[5,6]) AY AW ?_
  refine Iq rfl ?_ ?_
  .refine Qn [6] ?_
   exact key1
  refine Iq rfl ?_ ?_
  .exact key2
  exact AllReadyIn.nil
 exact AllReadyIn.nil):p:=h
def zm {p:Prop}(h:p:=by
 refine aA _ _ ?_
 clear aA KK;refine Qn [10] ?_;refine Qn [11] ?_;refine wpAnyIn_done AY ?_ _
 gi_wp2
 exact⟨⟨j+1,ys++[x]++zs,AU,by go_num,gI zs hzs,by simpa[C6] using pJ,hkW.t hk4⟩,by simp[intOf];omega⟩):p:=h
def zv {p:Prop}(h:p:=by
 refine aA _ _ ?_
 clear aA KK;refine Qn [10] ?_;refine Qn [11] ?_;refine wpAnyIn_done AY ?_ _
 gi_wp2
 go_ret;exact .inr ⟨rfl,ys++[x]++zs,fG zs hzs,by simpa[C6] using hx4⟩):p:=h
def zc0 {p:Prop}(h:p:=by
 intro jQ
 refine wpAnyIn_ready (rs:=[0,1]) AY AW ?_;refine Iq rfl ?_ ?_
 .refine Qn [1] ?_
  exact jQ
 refine Iq rfl ?_ ?_
 .refine Qn [0] ?_
  exact jQ
 exact AllReadyIn.nil):p:=h
def TP (w:World)(P:Stil.B1->Prop)(C:Nat->Prop)(hC:∀k,C k->w.heap.size<=k)(M l Y B K N:Nat)(aj:∀k,C k->k<M)(lI:¬C Y)(jG:¬C B)(iH:¬C K)(J u:List (Ro w P)->World->Prop)
  (hJ:∀s W c,J s W->Below W.heap.size W c->J s c)
  (hY:∀m pre (x:Ro w P) W,J pre W->pre.length<N->YieldAt Fence.wide m prog l #[.agg #[.int .i64 x.net.kind, .int .i64 x.net.one.op,x.av,x.kv]] W λe c=>
   (e=.returned (.bool true)/\J (pre++[x]) c/\Kept w.heap.size C W c)\/(e=.returned (.bool false)/\u (pre++[x]) c))
  (es:List Stil.B1) (hl:es.length<=1048576) (hf:∀x∈es,P x) (ih:∀x∈es,KD w P C M l Y B K N J u x.kids):KD w P C M l Y B K N J u es:=by
 intro m v pre W hs ad hj hb hM hN;have HS:Hid (∀c,Jf C W c->Nz w C c v es):=λc h=>hs.keep h
 have gY:Hid (∀c,Jf C W c->KP l Y B K c):=λc h=>ad.keep lI jG iH h
 have vP:Hid (∀m pre (x:Ro w P) W,J pre W->pre.length<N->YieldAt Fence.wide m prog l #[.agg #[.int .i64 x.net.kind, .int .i64 x.net.one.op,x.av,x.kv]] W λe c=>
   (e=.returned (.bool true)/\J (pre++[x]) c/\Kept w.heap.size C W c)\/(e=.returned (.bool false)/\u (pre++[x]) c)):=hY
 have lZ:Hid (∀s W c,J s W->Below W.heap.size W c->J s c):=hJ;have IH:Hid (∀x∈es,KD w P C M l Y B K N J u x.kids):=ih;have HN:Hid (pre.length+(Ei es).length<=N):=hN;have HB:Hid (Below w.heap.size w W):=hb;obtain⟨a,cap,rfl,_⟩:=hs;clear hJ hY ih hN hb ad;refine callsIn_of_wp func177 rfl trivial ?_ rfl;simp only[ntmps177,CS,CC,CM,Nat.reduceAdd,Nat.reduceSub,DF,DG,DJ,DI,C3,CY]
 gi_wp2
 gi_loopw [10] (λi wr=>∃(j:Nat) (ys:List (Ro w P)),j<=es.length/\i=.int .i64 j/\ys.map Ro.net=Ei (es.take j)/\J (pre++ys) wr/\Kept w.heap.size C W wr) (λi _=>es.length - (intOf i).toNat)
 case atStart=>exact⟨0,[],AU,rfl,by simp[Ei],by simpa using hj,Kept.refl _ _ _⟩
 case round=>
  obtain⟨j,ys,ar,rfl,V,ac,D⟩:=hrel;by_cases A:j<es.length
  .obtain⟨a',ap,hv,ak⟩:=HS wr D.2
   obtain⟨b,o,rfl,zy,av,kv,x0,x1,x2,x3,aa,Z⟩:=ak j A;simp only[Value.slice.injEq,true_and] at hv;obtain⟨rfl,rfl⟩:=hv;obtain⟨b0,b1,b2⟩:=gY wr D.2;have al:(pre++ys).length<N:=by
    have h1:=HN.out;have h2:ys.length=(Ei (es.take j)).length:=by rw[<-V,CP]
    have E:=(Yv es (j+1)).length_le;rw[Si es j A] at E;simp only[CO,CC] at E ⊢;omega
   obtain⟨T,X,e0,_⟩:=id aa;obtain⟨O,R,e1,_⟩:=id Z;have ae:∀x:Ro w P,x=⟨es[j],av,kv,aa,Z,hf _ (CG A)⟩->∀d,J (pre++ys) d->YieldAt Fence.wide (m - 1) prog l #[.agg #[.int .i64 es[j].kind, .int .i64 es[j].one.op, .slice T es[j].one.args.length X, .slice O es[j].kids.length R]] d λe c=>
     (e=.returned (.bool true)/\J (pre++ys++[x]) c/\Kept w.heap.size C d c)\/(e=.returned (.bool false)/\u (pre++ys++[x]) c):=by
    intro x U d an;have:=vP (m - 1) (pre++ys) x d an al
    rw[U] at this ⊢;simp only[e0,e1] at this ⊢;exact this
   obtain⟨x,U⟩:∃x:Ro w P,x=⟨es[j],av,kv,aa,Z,hf _ (CG A)⟩:=⟨_,rfl⟩
   have HV:Hid (∀d,J (pre++ys) d->YieldAt Fence.wide (m - 1) prog l #[.agg #[.int .i64 es[j].kind, .int .i64 es[j].one.op, .slice T es[j].one.args.length X, .slice O es[j].kids.length R]] d λe c=>
     (e=.returned (.bool true)/\J (pre++ys++[x]) c/\Kept w.heap.size C d c)\/(e=.returned (.bool false)/\u (pre++ys++[x]) c)):=ae x U
   have pR:Hid (x.net=es[j]):=by show _=_;rw[U]
   have iO:Hid (Eo w kv es[j].kids):=Z;clear ae U;obtain⟨y,hy⟩:∃y,y=es[j]:=⟨_,rfl⟩
   rw[<-hy] at x0 x1 HV pR iO e0 e1;have lW:Hid (y=es[j]):=hy;rw[e0] at x2;rw[e1] at x3 iO;clear aa Z e0 e1 hy;have hZ:¬C wr.heap.size:=λh=>by have:=aj _ h;have:=D.2.size;omega
   have uJ:=Aq b0;have pM:=Aq b1;have lQ:=Aq b2
   gi_wp2
   obtain⟨d,r⟩:∃d,d=wr.alloc (.cells #[.int .i64 y.kind, .int .i64 y.one.op, .slice T y.one.args.length X, .slice O y.kids.length R] 54):=⟨_,rfl⟩
   rw[<-r];have c0:d.cell? ⟨Y,0,none⟩=some (.func (.yield l) #[] #[]):=by rw[r];simp[go_sem,b0,uJ]
   have c1:d.cell? ⟨B,0,none⟩=some (.func (.func 177) #[] #[.pointer (some ⟨Y,0,none⟩), .pointer (some ⟨B,0,none⟩), .pointer (some ⟨K,0,none⟩)]):=by rw[r];simp[go_sem,b1,pM]
   have c2:d.cell? ⟨K,0,none⟩=some (.func (.func 170) #[] #[]):=by rw[r];simp[go_sem,b2,lQ]
   obtain⟨z,S⟩:∃z,z=wr.heap.size:=⟨_,rfl⟩
   rw[<-S] at hZ ⊢;have d0:d.cell? ⟨z,0,none⟩=some (.int .i64 y.kind):=by rw[r,S];simp[go_sem]
   have d1:d.cell? ⟨z,1,none⟩=some (.int .i64 y.one.op):=by rw[r,S];simp[go_sem]
   have d2:d.cell? ⟨z,2,none⟩=some (.slice T y.one.args.length X):=by rw[r,S];simp[go_sem]
   have d3:d.cell? ⟨z,3,none⟩=some (.slice O y.kids.length R):=by rw[r,S];simp[go_sem]
   have ab:Below wr.heap.size wr d:=by rw[r];exact Aa _ _
   have af:Kept w.heap.size C W d:=D.t (Kept.of_below (CB HB.size D.1.size) ab);have ag:J (pre++ys) d.drew:=lZ _ _ _ ac ab.drew;clear r ab b0 b1 b2 x0 x1 x2 x3 uJ pM lQ ac D S;obtain⟨fn,tmps,assign,body,wW,hR⟩:=HV d.drew ag;clear HV ag
   have ai:Hid (∀(e:Ending) (q:World),(e=.returned (.bool true)/\J (pre++ys++[x]) q/\Kept w.heap.size C d.drew q)->q.cell? ⟨B,0,none⟩=some (.func (.func 177) #[] #[.pointer (some ⟨Y,0,none⟩), .pointer (some ⟨B,0,none⟩), .pointer (some ⟨K,0,none⟩)])/\q.cell? ⟨K,0,none⟩=some (.func (.func 170) #[] #[])/\
     q.cell? ⟨z,0,none⟩=some (.int .i64 y.kind)/\q.cell? ⟨z,1,none⟩=some (.int .i64 y.one.op)/\q.cell? ⟨z,2,none⟩=some (.slice T y.one.args.length X)/\q.cell? ⟨z,3,none⟩=some (.slice O y.kids.length R)):=
    λe q h=>⟨h.2.2.2.cell jG c1,h.2.2.2.cell iH c2,h.2.2.2.cell hZ d0,h.2.2.2.cell hZ d1,h.2.2.2.cell hZ d2,h.2.2.2.cell hZ d3⟩
   have wC:Hid (∀q g,Kept w.heap.size C d.drew q->Below q.heap.size q g->Kept w.heap.size C W g):=λq g h2 E=>
    ((af.t ⟨(Below.refl _ _).drew,(Jf.refl _ _).drew⟩).t h2).t (Kept.of_below (CB (CB HB.size af.1.size) h2.1.size) E)
   have fF:Hid (∀g,J (pre++ys++[x]) g->Kept w.heap.size C W g->CallsIn Fence.wide (m - 1) prog 177 #[.slice O y.kids.length R, .pointer (some ⟨Y,0,none⟩), .pointer (some ⟨B,0,none⟩), .pointer (some ⟨K,0,none⟩)] g λe c=>
     (e=.returned (.bool true)/\∃zs:List (Ro w P),zs.map Ro.net=Ei y.kids/\J (pre++ys++[x]++zs) c/\Kept w.heap.size C g c)\/
     (e=.returned (.bool false)/\∃zs:List (Ro w P),zs.map Ro.net<+:Ei y.kids/\u (pre++ys++[x]++zs) c)):=by
    intro g ao I;have ah:Below w.heap.size w g:=HB.trans I.1;refine IH y (by rw[lW.out];exact CG A) (m - 1) _ _ g (Nz.of_at iO ah hC) (gY g I.2) ao ah (CB hM I.2.size) ?_;have h1:=HN.out;have h2:ys.length=(Ei (es.take j)).length:=by rw[<-V,CP]
    have E:=(Yv es (j+1)).length_le;rw[Si es j A,<-lW.out] at E;simp only[CO,CC,CM] at E ⊢;omega
   have gI:Hid (∀zs:List (Ro w P),zs.map Ro.net=Ei y.kids->(ys++[x]++zs).map Ro.net=Ei (es.take (j+1))):=by
    intro zs hzs;rw[Si es j A,CX,CX,V,hzs,<-lW.out];simp[pR.out]
   have fG:Hid (∀zs:List (Ro w P),zs.map Ro.net<+:Ei y.kids->(ys++[x]++zs).map Ro.net<+:Ei es):=by
    intro zs hzs;refine List.IsPrefix.trans ?_ (Yv es (j+1));rw[Si es j A,CX,CX,V,<-lW.out];obtain⟨t,ht⟩:=hzs;exact⟨t,by simp[pR.out,<-ht]⟩
   have kP:Hid ((ys++[x]).map Ro.net<+:Ei es):=by
    show _<+:_
    have:=fG.out [] AW
    simpa using this
   refine wpIn_region_any AY ?_;try (change wpAnyIn _ _ _ _ _ _ _ _ _ (World.drew _))
   apply share
   .exact zc0
   .refine wpAnyIn_ready (rs:=[2]) AY AW ?_
    refine AllReadyIn.cons rfl (λKK aA=>?_) AllReadyIn.nil;go_simp;refine⟨λh=>BM,?_⟩;refine hR.mono ?_;rintro e q (⟨rfl,H,I⟩ | ⟨rfl,hx3⟩)
    .refine aA _ _ ?_
     clear aA KK;obtain⟨f1,f2,g0,g1,g2,g3⟩:=ai _ _ ⟨rfl,H,I⟩;apply share
     .intro key1
      apply share
      .exact zj
      .refine wpAnyIn_ready (rs:=[5,8]) AY AW ?_
       refine Iq rfl ?_ ?_
       .exact key1
       refine AllReadyIn.cons rfl (λKK aA=>?_) ?_
       .go_simp
        refine⟨trivial,λh=>BM,?_⟩;refine(callsIn_wide.2 (VO _ _ _ _ _ _ _ _ _ rfl _)).mono ?_;rintro e g ⟨rfl,L⟩;refine aA _ _ ?_;clear aA KK;have h1:=(L.cell (p:=⟨B,0,none⟩) (Aq f1)).trans f1;have H:=lZ _ _ _ H L;have hkW:Kept w.heap.size C W g:=wC _ _ I L;refine Qn [5] ?_;refine wpAnyIn_ready (rs:=[9]) AY AW ?_;refine AllReadyIn.cons rfl (λKK aA=>?_) AllReadyIn.nil;go_simp;refine⟨trivial,λh=>BM,?_⟩;refine(fF _ H hkW).mono ?_;rintro e W4 (⟨rfl,zs,hzs,pJ,hk4⟩ | ⟨rfl,zs,hzs,hx4⟩)
        .exact zm
        .exact zv
       exact AllReadyIn.nil
     .refine wpAnyIn_ready (rs:=[8]) AY AW ?_
      refine AllReadyIn.cons rfl (λKK aA=>?_) AllReadyIn.nil;go_simp;refine⟨trivial,λh=>BM,?_⟩;refine(callsIn_wide.2 (VO _ _ _ _ _ _ _ _ _ rfl _)).mono ?_;rintro e g ⟨rfl,L⟩;refine aA _ _ ?_;clear aA KK;have h1:=(L.cell (p:=⟨B,0,none⟩) (Aq f1)).trans f1;have H:=lZ _ _ _ H L;have hkW:Kept w.heap.size C W g:=wC _ _ I L;refine wpAnyIn_ready (rs:=[9]) AY AW ?_;refine AllReadyIn.cons rfl (λKK aA=>?_) AllReadyIn.nil;go_simp;refine⟨trivial,λh=>BM,?_⟩;refine(fF _ H hkW).mono ?_;rintro e W4 (⟨rfl,zs,hzs,pJ,hk4⟩ | ⟨rfl,zs,hzs,hx4⟩)
      .exact zm
      .exact zv
    .exact zd
  .gi_wp2
   go_ret;refine .inl ⟨rfl,ys,?_,ac,D⟩;rw[V,EC AU]
end
section
open Go.RowKit Go.Sort Go.BigFrame Go.Shelf
attribute [local go_sem] Oper.semAt_some
def KQ.keep {l Y B K:Nat}{C:Nat->Prop}{W b:World}(h:KQ l Y B K W)(e:¬C Y)(c:¬C B)(d:¬C K)(a:Jf C W b):KQ l Y B K b:=⟨a.cell e h.1,a.cell c h.2.1,a.cell d h.2.2⟩
def TQ (w:World)(P:Stil.B5->Prop)(C:Nat->Prop)(hC:∀k,C k->w.heap.size<=k)(M l Y B K N:Nat)(ao:∀k,C k->k<M)(lI:¬C Y)(jG:¬C B)(iH:¬C K)(J u:List (P7 w P)->World->Prop)
  (hJ:∀s W c,J s W->Below W.heap.size W c->J s c)
  (hY:∀m pre (x:P7 w P) W,J pre W->pre.length<N->YieldAt Fence.wide m prog l #[.agg #[.int .i64 x.arm.net.kind, .int .i64 x.arm.net.one.op,x.av,x.nv,x.cv,x.kv]] W λe c=>
   (e=.returned (.bool true)/\J (pre++[x]) c/\Kept w.heap.size C W c)\/(e=.returned (.bool false)/\u (pre++[x]) c))
  (es:List Stil.B5) (hl:es.length<=1048576) (hf:∀x∈es,P x) (ih:∀x∈es,KE w P C M l Y B K N J u x.kids):KE w P C M l Y B K N J u es:=by
 intro m v pre W hs ah hj hb hM hN;have HS:Hid (∀c,Jf C W c->Ls w C c v es):=λc h=>hs.keep h
 have gY:Hid (∀c,Jf C W c->KQ l Y B K c):=λc h=>ah.keep lI jG iH h
 have vP:Hid (∀m pre (x:P7 w P) W,J pre W->pre.length<N->YieldAt Fence.wide m prog l #[.agg #[.int .i64 x.arm.net.kind, .int .i64 x.arm.net.one.op,x.av,x.nv,x.cv,x.kv]] W λe c=>
   (e=.returned (.bool true)/\J (pre++[x]) c/\Kept w.heap.size C W c)\/(e=.returned (.bool false)/\u (pre++[x]) c)):=hY
 have lZ:Hid (∀s W c,J s W->Below W.heap.size W c->J s c):=hJ;have IH:Hid (∀x∈es,KE w P C M l Y B K N J u x.kids):=ih;have HN:Hid (pre.length+(Dy es).length<=N):=hN;have HB:Hid (Below w.heap.size w W):=hb;obtain⟨a,cap,rfl,_⟩:=hs;clear hJ hY ih hN hb ah;refine callsIn_of_wp func168 rfl trivial ?_ rfl;simp only[ntmps168,CS,CC,CM,Nat.reduceAdd,Nat.reduceSub,DF,DG,DJ,DI,C3,CY]
 gi_wp2
 gi_loopw [10] (λi wr=>∃(j:Nat) (ys:List (P7 w P)),j<=es.length/\i=.int .i64 j/\ys.map P7.arm=Dy (es.take j)/\J (pre++ys) wr/\Kept w.heap.size C W wr) (λi _=>es.length - (intOf i).toNat)
 case atStart=>exact⟨0,[],AU,rfl,by simp[Dy],by simpa using hj,Kept.refl _ _ _⟩
 case round=>
  obtain⟨j,ys,ay,rfl,aa,ag,E⟩:=hrel;by_cases D:j<es.length
  .obtain⟨a',ax,hv,ap⟩:=HS wr E.2
   obtain⟨b,o,rfl,zy,av,nv,cv,kv,x0,x1,x2,x3,x4,x5,ac,ae,ad,ab⟩:=ap j D;simp only[Value.slice.injEq,true_and] at hv;obtain⟨rfl,rfl⟩:=hv;obtain⟨b0,b1,b2⟩:=gY wr E.2;have ar:(pre++ys).length<N:=by
    have h1:=HN.out;have h2:ys.length=(Dy (es.take j)).length:=by rw[<-aa,CP]
    have H:=(Y7 es (j+1)).length_le;rw[Su es j D] at H;simp only[CO,CC] at H ⊢;omega
   obtain⟨V,r0,e0,_⟩:=id ac;obtain⟨p2,Z,e2,_⟩:=id ae;obtain⟨U,T,e3,_⟩:=id ad;obtain⟨R,S,e1,_⟩:=id ab;have ai:∀x:P7 w P,x=⟨es[j],av,nv,cv,kv,ac,ae,ad,ab,hf _ (CG D)⟩->∀d,J (pre++ys) d->YieldAt Fence.wide (m - 1) prog l #[.agg #[.int .i64 es[j].net.kind, .int .i64 es[j].net.one.op, .slice V es[j].net.one.args.length r0, .slice p2 es[j].net.kids.length Z, .slice U es[j].coils.length T, .slice R es[j].kids.length S]] d λe c=>
     (e=.returned (.bool true)/\J (pre++ys++[x]) c/\Kept w.heap.size C d c)\/(e=.returned (.bool false)/\u (pre++ys++[x]) c):=by
    intro x X d au;have:=vP (m - 1) (pre++ys) x d au ar
    rw[X] at this ⊢;simp only[e0,e1,e2,e3] at this ⊢;exact this
   obtain⟨x,X⟩:∃x:P7 w P,x=⟨es[j],av,nv,cv,kv,ac,ae,ad,ab,hf _ (CG D)⟩:=⟨_,rfl⟩
   have HV:Hid (∀d,J (pre++ys) d->YieldAt Fence.wide (m - 1) prog l #[.agg #[.int .i64 es[j].net.kind, .int .i64 es[j].net.one.op, .slice V es[j].net.one.args.length r0, .slice p2 es[j].net.kids.length Z, .slice U es[j].coils.length T, .slice R es[j].kids.length S]] d λe c=>
     (e=.returned (.bool true)/\J (pre++ys++[x]) c/\Kept w.heap.size C d c)\/(e=.returned (.bool false)/\u (pre++ys++[x]) c)):=ai x X
   have pR:Hid (x.arm=es[j]):=by show _=_;rw[X]
   have iO:Hid (Dc w kv es[j].kids):=ab;clear ai X;obtain⟨y,hy⟩:∃y,y=es[j]:=⟨_,rfl⟩
   rw[<-hy] at x0 x1 HV pR iO e0 e1 e2 e3;have lW:Hid (y=es[j]):=hy;rw[e0] at x2;rw[e2] at x3;rw[e3] at x4;rw[e1] at x5 iO;clear ac ae ad ab e0 e1 e2 e3 hy;have hZ:¬C wr.heap.size:=λh=>by have:=ao _ h;have:=E.2.size;omega
   have uJ:=Aq b0;have pM:=Aq b1;have lQ:=Aq b2
   gi_wp2
   obtain⟨d,r⟩:∃d,d=wr.alloc (.cells #[.int .i64 y.net.kind, .int .i64 y.net.one.op, .slice V y.net.one.args.length r0, .slice p2 y.net.kids.length Z, .slice U y.coils.length T, .slice R y.kids.length S] 60):=⟨_,rfl⟩
   rw[<-r];have c0:d.cell? ⟨Y,0,none⟩=some (.func (.yield l) #[] #[]):=by rw[r];simp[go_sem,b0,uJ]
   have c1:d.cell? ⟨B,0,none⟩=some (.func (.func 168) #[] #[.pointer (some ⟨Y,0,none⟩), .pointer (some ⟨B,0,none⟩), .pointer (some ⟨K,0,none⟩)]):=by rw[r];simp[go_sem,b1,pM]
   have c2:d.cell? ⟨K,0,none⟩=some (.func (.func 157) #[] #[]):=by rw[r];simp[go_sem,b2,lQ]
   obtain⟨z,A⟩:∃z,z=wr.heap.size:=⟨_,rfl⟩
   rw[<-A] at hZ ⊢;have d0:d.cell? ⟨z,0,none⟩=some (.int .i64 y.net.kind):=by rw[r,A];simp[go_sem]
   have d1:d.cell? ⟨z,1,none⟩=some (.int .i64 y.net.one.op):=by rw[r,A];simp[go_sem]
   have d2:d.cell? ⟨z,2,none⟩=some (.slice V y.net.one.args.length r0):=by rw[r,A];simp[go_sem]
   have d3:d.cell? ⟨z,3,none⟩=some (.slice p2 y.net.kids.length Z):=by rw[r,A];simp[go_sem]
   have d4:d.cell? ⟨z,4,none⟩=some (.slice U y.coils.length T):=by rw[r,A];simp[go_sem]
   have d5:d.cell? ⟨z,5,none⟩=some (.slice R y.kids.length S):=by rw[r,A];simp[go_sem]
   have af:Below wr.heap.size wr d:=by rw[r];exact Aa _ _
   have aj:Kept w.heap.size C W d:=E.t (Kept.of_below (CB HB.size E.1.size) af);have ak:J (pre++ys) d.drew:=lZ _ _ _ ag af.drew;clear r af b0 b1 b2 x0 x1 x2 x3 x4 x5 uJ pM lQ ag E A;obtain⟨fn,tmps,assign,body,wW,hR⟩:=HV d.drew ak;clear HV ak
   have an:Hid (∀(e:Ending) (g:World),(e=.returned (.bool true)/\J (pre++ys++[x]) g/\Kept w.heap.size C d.drew g)->g.cell? ⟨B,0,none⟩=some (.func (.func 168) #[] #[.pointer (some ⟨Y,0,none⟩), .pointer (some ⟨B,0,none⟩), .pointer (some ⟨K,0,none⟩)])/\g.cell? ⟨K,0,none⟩=some (.func (.func 157) #[] #[])/\
     g.cell? ⟨z,0,none⟩=some (.int .i64 y.net.kind)/\g.cell? ⟨z,1,none⟩=some (.int .i64 y.net.one.op)/\g.cell? ⟨z,2,none⟩=some (.slice V y.net.one.args.length r0)/\g.cell? ⟨z,3,none⟩=some (.slice p2 y.net.kids.length Z)/\g.cell? ⟨z,4,none⟩=some (.slice U y.coils.length T)/\g.cell? ⟨z,5,none⟩=some (.slice R y.kids.length S)):=
    λe g h=>⟨h.2.2.2.cell jG c1,h.2.2.2.cell iH c2,h.2.2.2.cell hZ d0,h.2.2.2.cell hZ d1,h.2.2.2.cell hZ d2,h.2.2.2.cell hZ d3,h.2.2.2.cell hZ d4,h.2.2.2.cell hZ d5⟩
   have wC:Hid (∀g q,Kept w.heap.size C d.drew g->Below g.heap.size g q->Kept w.heap.size C W q):=λg q h2 H=>
    ((aj.t ⟨(Below.refl _ _).drew,(Jf.refl _ _).drew⟩).t h2).t (Kept.of_below (CB (CB HB.size aj.1.size) h2.1.size) H)
   have fF:Hid (∀q,J (pre++ys++[x]) q->Kept w.heap.size C W q->CallsIn Fence.wide (m - 1) prog 168 #[.slice R y.kids.length S, .pointer (some ⟨Y,0,none⟩), .pointer (some ⟨B,0,none⟩), .pointer (some ⟨K,0,none⟩)] q λe c=>
     (e=.returned (.bool true)/\∃zs:List (P7 w P),zs.map P7.arm=Dy y.kids/\J (pre++ys++[x]++zs) c/\Kept w.heap.size C q c)\/
     (e=.returned (.bool false)/\∃zs:List (P7 w P),zs.map P7.arm<+:Dy y.kids/\u (pre++ys++[x]++zs) c)):=by
    intro q aw L;have al:Below w.heap.size w q:=HB.trans L.1;refine IH y (by rw[lW.out];exact CG D) (m - 1) _ _ q (Ls.of_at iO al hC) (gY q L.2) aw al (CB hM L.2.size) ?_;have h1:=HN.out;have h2:ys.length=(Dy (es.take j)).length:=by rw[<-aa,CP]
    have H:=(Y7 es (j+1)).length_le;rw[Su es j D,<-lW.out] at H;simp only[CO,CC,CM] at H ⊢;omega
   have gI:Hid (∀zs:List (P7 w P),zs.map P7.arm=Dy y.kids->(ys++[x]++zs).map P7.arm=Dy (es.take (j+1))):=by
    intro zs hzs;rw[Su es j D,CX,CX,aa,hzs,<-lW.out];simp[pR.out]
   have fG:Hid (∀zs:List (P7 w P),zs.map P7.arm<+:Dy y.kids->(ys++[x]++zs).map P7.arm<+:Dy es):=by
    intro zs hzs;refine List.IsPrefix.trans ?_ (Y7 es (j+1));rw[Su es j D,CX,CX,aa,<-lW.out];obtain⟨t,ht⟩:=hzs;exact⟨t,by simp[pR.out,<-ht]⟩
   have kP:Hid ((ys++[x]).map P7.arm<+:Dy es):=by
    show _<+:_
    have:=fG.out [] AW
    simpa using this
   refine wpIn_region_any AY ?_;try (change wpAnyIn _ _ _ _ _ _ _ _ _ (World.drew _))
   apply share
   .exact zc0
   .refine wpAnyIn_ready (rs:=[2]) AY AW ?_
    refine AllReadyIn.cons rfl (λKK aA=>?_) AllReadyIn.nil;go_simp;refine⟨λh=>BM,?_⟩;refine hR.mono ?_;rintro e g (⟨rfl,I,L⟩ | ⟨rfl,hx3⟩)
    .refine aA _ _ ?_
     clear aA KK;obtain⟨f1,f2,g0,g1,g2,g3,g4,g5⟩:=an _ _ ⟨rfl,I,L⟩;apply share
     .intro key1
      apply share
      .exact zj
      .refine wpAnyIn_ready (rs:=[5,8]) AY AW ?_
       refine Iq rfl ?_ ?_
       .exact key1
       refine AllReadyIn.cons rfl (λKK aA=>?_) ?_
       .go_simp
        refine⟨trivial,λh=>BM,?_⟩;refine(callsIn_wide.2 (VQ _ _ _ _ _ _ _ _ _ _ _ _ _ _ _)).mono ?_;rintro e q ⟨rfl,O⟩;refine aA _ _ ?_;clear aA KK;have h1:=(O.cell (p:=⟨B,0,none⟩) (Aq f1)).trans f1;have I:=lZ _ _ _ I O;have hkW:Kept w.heap.size C W q:=wC _ _ L O;refine Qn [5] ?_;refine wpAnyIn_ready (rs:=[9]) AY AW ?_;refine AllReadyIn.cons rfl (λKK aA=>?_) AllReadyIn.nil;go_simp;refine⟨trivial,λh=>BM,?_⟩;refine(fF _ I hkW).mono ?_;rintro e W4 (⟨rfl,zs,hzs,pJ,hk4⟩ | ⟨rfl,zs,hzs,hx4⟩)
        .exact zm
        .exact zv
       exact AllReadyIn.nil
     .refine wpAnyIn_ready (rs:=[8]) AY AW ?_
      refine AllReadyIn.cons rfl (λKK aA=>?_) AllReadyIn.nil;go_simp;refine⟨trivial,λh=>BM,?_⟩;refine(callsIn_wide.2 (VQ _ _ _ _ _ _ _ _ _ _ _ _ _ _ _)).mono ?_;rintro e q ⟨rfl,O⟩;refine aA _ _ ?_;clear aA KK;have h1:=(O.cell (p:=⟨B,0,none⟩) (Aq f1)).trans f1;have I:=lZ _ _ _ I O;have hkW:Kept w.heap.size C W q:=wC _ _ L O;refine wpAnyIn_ready (rs:=[9]) AY AW ?_;refine AllReadyIn.cons rfl (λKK aA=>?_) AllReadyIn.nil;go_simp;refine⟨trivial,λh=>BM,?_⟩;refine(fF _ I hkW).mono ?_;rintro e W4 (⟨rfl,zs,hzs,pJ,hk4⟩ | ⟨rfl,zs,hzs,hx4⟩)
      .exact zm
      .exact zv
    .exact zd
  .gi_wp2
   go_ret;refine .inl ⟨rfl,ys,?_,ag,E⟩;rw[aa,EC AU]
end
section
open Go.RowKit Go.Sort Go.BigFrame Go.Shelf
def iz (w:World)(P:Stil.B1->Prop)(v:∀x,P x->x.kids.length<=1048576/\∀y∈x.kids,P y)(C:Nat->Prop)(q:∀k,C k->w.heap.size<=k)(M l Y B K N:Nat)(u:∀k,C k->k<M)(o:¬C Y)(g:¬C B)(i:¬C K)(J d:List (Ro w P)->World->Prop)
  (r:∀s W c,J s W->Below W.heap.size W c->J s c)
  (p:∀m pre (x:Ro w P) W,J pre W->pre.length<N->YieldAt Fence.wide m prog l #[.agg #[.int .i64 x.net.kind, .int .i64 x.net.one.op,x.av,x.kv]] W λe c=>(e=.returned (.bool true)/\J (pre++[x]) c/\Kept w.heap.size C W c)\/(e=.returned (.bool false)/\d (pre++[x]) c))
  (es:List Stil.B1) (hl:es.length<=1048576) (t:∀x∈es,P x):KD w P C M l Y B K N J d es:=by
 refine TP w P C q M l Y B K N u o g i J d r p es hl t (λx A=>?_);have key:∀n:Stil.B1,P n->KD w P C M l Y B K N J d n.kids:=by
  intro n;induction n using Fv with
  | h a b kids D=>
   intro z;have f:=v _ z;exact TP w P C q M l Y B K N u o g i J d r p kids f.1 f.2 (λy j=>D y j (f.2 y j))
 exact key x (t x A)
def zna {p:Prop}(h:p:=by
 gi_wp2_with (refine⟨trivial,λh=>BM,?_⟩;refine(fF _ AX (by simp[go_sem]) (by simp[go_sem])).mono ?_;rintro e W3 (⟨rfl,ys,hys,hJ3,_⟩ | ⟨rfl,ys,hys,hx3⟩))
 .go_end0
  exact⟨⟨_,rfl⟩, .inl ⟨ys,hys,by simpa using hJ3⟩⟩
 .go_end0
  exact⟨⟨_,rfl⟩, .inr ⟨ys,hys,by simpa using hx3⟩⟩):p:=h
def Vv (w:World)(P:Stil.B1->Prop)(hP:∀x,P x->x.kids.length<=1048576/\∀aa∈x.kids,P aa)(C:Nat->Prop)(y:∀k,C k->w.heap.size<=k)(M A K:Nat)(j:∀k,C k->k<M)(N:¬C K)(_hAC:¬C A)(es:List Stil.B1)(hl:es.length<=1048576)(L:∀x∈es,P x)(v:Value)(w0:World)
  (o:Below w.heap.size w w0) (zZ:M<=w0.heap.size) (i:Nz w C w0 v es) (B:w0.cell? ⟨A,0,none⟩=some v) (H:w0.cell? ⟨K,0,none⟩=some (.func (.func 170) #[] #[])) (n:Nat):
  SeqStopsK Fence.wide n prog 176 #[.pointer (some ⟨K,0,none⟩), .pointer (some ⟨A,0,none⟩)] (λx:Ro w P=>#[Value.agg #[.int .i64 x.net.kind, .int .i64 x.net.one.op,x.av,x.kv]]) (Kept w.heap.size C) (λys=>ys.map Ro.net=Ei es) (λpre=>pre.map Ro.net<+:Ei es) (Ei es).length w0:=by
 intro l J G W c D _ u h0;have af:∀(d:Fn) (first cap:Array Value) (w:World),(Instr.makeFunc d first cap).run prog w=.ok (.func d first cap) w:=λ_ _ _ _=>rfl
 have ad:∀(d:Fn) (q t:Array Value) (P:Program) (w:World) (a:Addr) (m:Mode),(store a (.func d q t) m).run P w=stored P w a (.func d q t) m:=λd q t P w a m=>run_store P w a _ m rfl
 have ab:=(c.cell (p:=⟨A,0,none⟩) (Aq B)).trans B;have E:=(c.cell (p:=⟨K,0,none⟩) (Aq H)).trans H;have ac:=Aq ab;have U:=Aq E;have ae:=c.size
 have fF:Hid (∀b,Below W.heap.size W b->b.cell? ⟨W.heap.size,0,none⟩=some (.func (.yield l) #[] #[])->b.cell? ⟨W.heap.size+1,0,none⟩=some (.func (.func 177) #[] #[.pointer (some ⟨W.heap.size,0,none⟩), .pointer (some ⟨W.heap.size+1,0,none⟩), .pointer (some ⟨K,0,none⟩)])->
   CallsIn Fence.wide (n - 1) prog 177 #[v, .pointer (some ⟨W.heap.size,0,none⟩), .pointer (some ⟨W.heap.size+1,0,none⟩), .pointer (some ⟨K,0,none⟩)] b λe r=>
    (e=.returned (.bool true)/\∃ys:List (Ro w P),ys.map Ro.net=Ei es/\J ([]++ys) r/\Kept w.heap.size C b r)\/
    (e=.returned (.bool false)/\∃ys:List (Ro w P),ys.map Ro.net<+:Ei es/\G ([]++ys) r)):=by
  intro b g O S;have F:∀(s:List (Ro w P)) (X Y:World),J s X->Below X.heap.size X Y->J s Y:=λs X Y i f=>D s X Y none i ⟨f.os,f.tape,f.output,f.size,λk T _=>f.block k T⟩ (λag e=>by cases e)
  have R:=(o.trans (c.mono o.size)).trans (g.mono (CB o.size c.size));refine iz w P hP C y M l W.heap.size (W.heap.size+1) K (Ei es).length j (λh=>by have:=j _ h;omega) (λh=>by have:=j _ h;omega) N J G F (λm pre x X V Z=>YieldAt.anyDepth rfl m (u pre x X V Z)) es hl L (n - 1) v [] b (i.keep ((Jf.of_below c).call g)) ⟨O,S,(g.cell (p:=⟨K,0,none⟩) U).trans E⟩ (F _ _ _ h0 g) R (CB zZ (CB c.size g.size)) AW
 obtain⟨I,sl,z,rfl⟩:∃I sl z,v=.slice I sl z:=by obtain⟨a,cap,Q,_⟩:=i;exact⟨_,_,_,Q⟩
 clear u D i hl L y j;refine callsIn_of_wp func176 rfl trivial ?_ rfl;simp only[ntmps176,CS,CC,CM,Nat.reduceAdd,Nat.reduceSub,DF,DG,DJ,DI,C3,CY]
 exact zna
def mO (a:Option Addr)(g cap:Nat)(w:World):Calls prog 169 #[.slice a g cap, .func (.func 170) #[] #[]] w λe d=>e=.returned (.func (.func 176) #[] #[.pointer (some ⟨w.heap.size+1,0,none⟩), .pointer (some ⟨w.heap.size,0,none⟩)])/\
  d.cell? ⟨w.heap.size,0,none⟩=some (.slice a g cap)/\d.cell? ⟨w.heap.size+1,0,none⟩=some (.func (.func 170) #[] #[])/\Below w.heap.size w d:=by
 have j:∀(b:Fn) (first cap:Array Value) (w:World),(Instr.makeFunc b first cap).run prog w=.ok (.func b first cap) w:=λ_ _ _ _=>rfl
 have i:∀(b:Fn) (c f:Array Value) (P:Program) (w:World) (a:Addr) (m:Mode),(store a (.func b c f) m).run P w=stored P w a (.func b c f) m:=λb c f P w a m=>run_store P w a _ m rfl
 go_enter func169,ntmps169
 go_wp2
 go_ret;exact⟨rfl,by simp[go_sem],by simp[go_sem],AX⟩
def i3 (w:World)(P:Stil.B5->Prop)(v:∀x,P x->x.kids.length<=1048576/\∀y∈x.kids,P y)(C:Nat->Prop)(q:∀k,C k->w.heap.size<=k)(M l Y B K N:Nat)(u:∀k,C k->k<M)(o:¬C Y)(g:¬C B)(i:¬C K)(J d:List (P7 w P)->World->Prop)
  (r:∀s W c,J s W->Below W.heap.size W c->J s c)
  (p:∀m pre (x:P7 w P) W,J pre W->pre.length<N->YieldAt Fence.wide m prog l #[.agg #[.int .i64 x.arm.net.kind, .int .i64 x.arm.net.one.op,x.av,x.nv,x.cv,x.kv]] W λe c=>(e=.returned (.bool true)/\J (pre++[x]) c/\Kept w.heap.size C W c)\/(e=.returned (.bool false)/\d (pre++[x]) c))
  (es:List Stil.B5) (hl:es.length<=1048576) (t:∀x∈es,P x):KE w P C M l Y B K N J d es:=by
 refine TQ w P C q M l Y B K N u o g i J d r p es hl t (λx A=>?_);have key:∀n:Stil.B5,P n->KE w P C M l Y B K N J d n.kids:=by
  intro n;induction n using Fb with
  | h a b kids D=>
   intro z;have f:=v _ z;exact TQ w P C q M l Y B K N u o g i J d r p kids f.1 f.2 (λy j=>D y j (f.2 y j))
 exact key x (t x A)
def V0 (w:World)(P:Stil.B5->Prop)(hP:∀x,P x->x.kids.length<=1048576/\∀aa∈x.kids,P aa)(C:Nat->Prop)(y:∀k,C k->w.heap.size<=k)(M A K:Nat)(j:∀k,C k->k<M)(N:¬C K)(_hAC:¬C A)(es:List Stil.B5)(hl:es.length<=1048576)(L:∀x∈es,P x)(v:Value)(w0:World)
  (o:Below w.heap.size w w0) (zZ:M<=w0.heap.size) (i:Ls w C w0 v es) (B:w0.cell? ⟨A,0,none⟩=some v) (H:w0.cell? ⟨K,0,none⟩=some (.func (.func 157) #[] #[])) (n:Nat):
  SeqStopsK Fence.wide n prog 167 #[.pointer (some ⟨K,0,none⟩), .pointer (some ⟨A,0,none⟩)] (λx:P7 w P=>#[Value.agg #[.int .i64 x.arm.net.kind, .int .i64 x.arm.net.one.op,x.av,x.nv,x.cv,x.kv]]) (Kept w.heap.size C) (λys=>ys.map P7.arm=Dy es) (λpre=>pre.map P7.arm<+:Dy es) (Dy es).length w0:=by
 intro l J G W c D _ u h0;have af:∀(d:Fn) (first cap:Array Value) (w:World),(Instr.makeFunc d first cap).run prog w=.ok (.func d first cap) w:=λ_ _ _ _=>rfl
 have ad:∀(d:Fn) (q t:Array Value) (P:Program) (w:World) (a:Addr) (m:Mode),(store a (.func d q t) m).run P w=stored P w a (.func d q t) m:=λd q t P w a m=>run_store P w a _ m rfl
 have ab:=(c.cell (p:=⟨A,0,none⟩) (Aq B)).trans B;have E:=(c.cell (p:=⟨K,0,none⟩) (Aq H)).trans H;have ac:=Aq ab;have U:=Aq E;have ae:=c.size
 have fF:Hid (∀b,Below W.heap.size W b->b.cell? ⟨W.heap.size,0,none⟩=some (.func (.yield l) #[] #[])->b.cell? ⟨W.heap.size+1,0,none⟩=some (.func (.func 168) #[] #[.pointer (some ⟨W.heap.size,0,none⟩), .pointer (some ⟨W.heap.size+1,0,none⟩), .pointer (some ⟨K,0,none⟩)])->
   CallsIn Fence.wide (n - 1) prog 168 #[v, .pointer (some ⟨W.heap.size,0,none⟩), .pointer (some ⟨W.heap.size+1,0,none⟩), .pointer (some ⟨K,0,none⟩)] b λe r=>
    (e=.returned (.bool true)/\∃ys:List (P7 w P),ys.map P7.arm=Dy es/\J ([]++ys) r/\Kept w.heap.size C b r)\/
    (e=.returned (.bool false)/\∃ys:List (P7 w P),ys.map P7.arm<+:Dy es/\G ([]++ys) r)):=by
  intro b g O S;have F:∀(s:List (P7 w P)) (X Y:World),J s X->Below X.heap.size X Y->J s Y:=λs X Y i f=>D s X Y none i ⟨f.os,f.tape,f.output,f.size,λk T _=>f.block k T⟩ (λag e=>by cases e)
  have R:=(o.trans (c.mono o.size)).trans (g.mono (CB o.size c.size));refine i3 w P hP C y M l W.heap.size (W.heap.size+1) K (Dy es).length j (λh=>by have:=j _ h;omega) (λh=>by have:=j _ h;omega) N J G F (λm pre x X V Z=>YieldAt.anyDepth rfl m (u pre x X V Z)) es hl L (n - 1) v [] b (i.keep ((Jf.of_below c).call g)) ⟨O,S,(g.cell (p:=⟨K,0,none⟩) U).trans E⟩ (F _ _ _ h0 g) R (CB zZ (CB c.size g.size)) AW
 obtain⟨I,sl,z,rfl⟩:∃I sl z,v=.slice I sl z:=by obtain⟨a,cap,Q,_⟩:=i;exact⟨_,_,_,Q⟩
 clear u D i hl L y j;refine callsIn_of_wp func167 rfl trivial ?_ rfl;simp only[ntmps167,CS,CC,CM,Nat.reduceAdd,Nat.reduceSub,DF,DG,DJ,DI,C3,CY]
 exact zna
def mP (a:Option Addr)(g cap:Nat)(w:World):Calls prog 156 #[.slice a g cap, .func (.func 157) #[] #[]] w λe d=>e=.returned (.func (.func 167) #[] #[.pointer (some ⟨w.heap.size+1,0,none⟩), .pointer (some ⟨w.heap.size,0,none⟩)])/\
  d.cell? ⟨w.heap.size,0,none⟩=some (.slice a g cap)/\d.cell? ⟨w.heap.size+1,0,none⟩=some (.func (.func 157) #[] #[])/\Below w.heap.size w d:=by
 have j:∀(b:Fn) (first cap:Array Value) (w:World),(Instr.makeFunc b first cap).run prog w=.ok (.func b first cap) w:=λ_ _ _ _=>rfl
 have i:∀(b:Fn) (c f:Array Value) (P:Program) (w:World) (a:Addr) (m:Mode),(store a (.func b c f) m).run P w=stored P w a (.func b c f) m:=λb c f P w a m=>run_store P w a _ m rfl
 go_enter func156,ntmps156
 go_wp2
 go_ret;exact⟨rfl,by simp[go_sem],by simp[go_sem],AX⟩
end
section
open Go.RowKit Go.Sort Go.BigFrame Go.Shelf
attribute [local go_sem] Oper.semAt_some
def TR (k op:Int)(c p:Option Addr)(g l f cap:Nat)(w:World):
  Calls prog 158 #[.agg #[.int .i64 k, .int .i64 op, .slice c g l, .slice p f cap]] w λe a=>∃b A K,e=.returned (.func (.func 176) #[] #[.pointer (some ⟨K,0,none⟩), .pointer (some ⟨A,0,none⟩)])/\w.heap.size<=b/\w.heap.size<=A/\w.heap.size<=K/\
   a.cell? ⟨A,0,none⟩=some (.slice (some ⟨b,0,none⟩) 1 1)/\a.cell? ⟨K,0,none⟩=some (.func (.func 170) #[] #[])/\
   a.cell? ⟨b,0,none⟩=some (.int .i64 k)/\a.cell? ⟨b,1,none⟩=some (.int .i64 op)/\a.cell? ⟨b,2,none⟩=some (.slice c g l)/\a.cell? ⟨b,3,none⟩=some (.slice p f cap)/\Below w.heap.size w a:=by
 have q:∀(i:Fn) (first cap:Array Value) (w:World),(Instr.makeFunc i first cap).run prog w=.ok (.func i first cap) w:=λ_ _ _ _=>rfl
 go_enter func158,ntmps158
 go_wp2_with (go_at_call 169;refine(mO _ _ _ _).mono ?_;rintro e o ⟨rfl,j,d,m⟩)
 simp only[World.size_alloc] at j d;go_ret;refine⟨w.heap.size+1,_,_,rfl,AU,AU,AU,j,d,?_,?_,?_,?_,AX⟩;all_goals (rw[m.cell (p:=⟨w.heap.size+1,_,none⟩) AW];simp[go_sem])
def TS (a:Option Addr)(c cap:Nat)(w:World):
  Calls prog 131 #[.slice a c cap] w λe b=>∃A K,e=.returned (.func (.func 167) #[] #[.pointer (some ⟨K,0,none⟩), .pointer (some ⟨A,0,none⟩)])/\w.heap.size<=A/\w.heap.size<=K/\
   b.cell? ⟨A,0,none⟩=some (.slice a c cap)/\b.cell? ⟨K,0,none⟩=some (.func (.func 157) #[] #[])/\Below w.heap.size w b:=by
 have k:∀(d:Fn) (first cap:Array Value) (w:World),(Instr.makeFunc d first cap).run prog w=.ok (.func d first cap) w:=λ_ _ _ _=>rfl
 go_enter func131,ntmps131
 go_wp2_with (go_at_call 156;refine(mP _ _ _ _).mono ?_;rintro e i ⟨rfl,g,f,j⟩)
 go_ret;exact⟨_,_,rfl,AU,AU,g,f,AX⟩
def zxa {p:Prop}(h:p:=by
 gi_wp2
 refine⟨AW, .inl ⟨_,_,rfl,run_takeDeferred hK,?_⟩⟩;exact⟨_,results_tmp rfl _ _ _,z,rfl,λ_=>rfl,λh=>h,B7 _,hB.trans (belowK_b (w:=w) (B7 _) W D _ _ AU hK rfl rfl)⟩):p:=h
def mj (n:Stil.B1)(Q P:Value)(d:Int)(w:World)(H:Ak w Q n.one.args)(U:Eo w P n.kids)(T:Bi n)(an:Ac n<=1000000000)(_hl1:-9223372036854775808<=d)(_hl2:d<=9223372036854775807):
  Calls prog 132 #[.agg #[.int .i64 n.kind, .int .i64 n.one.op,Q,P], .int .i64 d] w λe w'=>∃r:Nat,e=.returned (.int .i64 r)/\((Ac n:Int)<=d->r=Ac n)/\(d<Ac n->d<r)/\r<=Ac n/\Below w.heap.size w w':=by
 have m:Hid ((Ei [n]).length=Ac n):=by show _=_;rw[S0,pH]
 obtain⟨z,X⟩:∃z,z=Ac n:=⟨_,rfl⟩
 rw[<-X] at an m ⊢;clear X;refine(callsIn_wide (n:=9)).1 ?_;have eU:=Ab H;have dw:=Ab U;obtain⟨E,B,rfl,_⟩:=H;obtain⟨u,y,rfl,_⟩:=U;refine callsIn_of_wp_marks func132 rfl trivial ?_ rfl;simp only[ntmps132,CS,CC,CM,Nat.reduceAdd,Nat.reduceSub,DF,DG,DJ,DI,C3,CY]
 gi_wp2_with (refine⟨trivial,?_⟩;gi_at_call 158;refine(callsIn_wide.2 (TR _ _ _ _ _ _ _ _ _)).mono ?_;rintro e g ⟨b,A,K,rfl,Z,ai,aj,F,hK,J,L,M,V,hb⟩)
 simp only[World.size_alloc] at Z ai aj;have Y:Below w.heap.size w g:=AX;have ab:g.cell? ⟨w.heap.size+1,0,none⟩=some (.int .i64 d):=A3 hb;have ae:g.cell? ⟨w.heap.size+1+1,0,none⟩=some (.int .i64 0):=A3 hb;have ah:g.frozen? ⟨w.heap.size+1+1,0,none⟩=false:=A4 hb;have aa:w.heap.size+3<=g.heap.size:=by have:=hb.size;simp at this;omega
 have O:Nz w (λk=>k=w.heap.size+1+1) g (.slice (some ⟨b,0,none⟩) 1 1) [n]:=by
  refine⟨_,1,rfl,λi hi=>⟨b,0,rfl,(λh:b=_=>by omega), .slice E n.one.args.length B, .slice u n.kids.length y,?_⟩⟩;obtain rfl:i=0:=by simpa using hi
  simp only[ER,Cd,FM];exact⟨J,L,M,V,eU.out,dw.out⟩
 have R:Hid (SeqStopsK Fence.wide (9 - 1) prog 176 #[.pointer (some ⟨K,0,none⟩), .pointer (some ⟨A,0,none⟩)] (λx:Ro w Bi=>#[Value.agg #[.int .i64 x.net.kind, .int .i64 x.net.one.op,x.av,x.kv]]) (Kept w.heap.size (λk=>k=w.heap.size+1+1)) (λq=>q.map Ro.net=Ei [n]) (λpre=>pre.map Ro.net<+:Ei [n]) (Ei [n]).length g):=
  Vv w Bi (λx S=>⟨(Dw S).2.2.1,(Dw S).2.2.2⟩) (λk=>k=w.heap.size+1+1) (λk (h:k=_)=>by omega) (w.heap.size+3) A K (λk (h:k=_)=>by omega) (λh:K=_=>by omega) (λh:A=_=>by omega) [n] AW (by simpa using T) _ g Y aa O F hK _
 clear O hb J L M V F hK T;obtain⟨N,G⟩:∃N,N=(Ei [n]).length:=⟨_,rfl⟩
 rw[<-G] at R;have zk:N=z:=by rw[G,m.out]
 refine wpIn_rangeFunc_ownG rfl AZ (gf:=176) (lb:=#[.pointer (some ⟨K,0,none⟩), .pointer (some ⟨A,0,none⟩)]) rfl trivial (enters_of func176 AY rfl)
  R Kept.t (Kept.b AU) (Below.refl _ _) (λ_=>rfl)
  (λpre W=>(W.cell? ⟨w.heap.size+1+1,0,none⟩=some (.int .i64 (pre.length:Int))/\W.frozen? ⟨w.heap.size+1+1,0,none⟩=false/\W.cell? ⟨w.heap.size+1,0,none⟩=some (.int .i64 d))/\Below w.heap.size w W)
  (λc pre W=>(c=.exit 0/\d<pre.length/\W.cell? ⟨w.heap.size+1+1,0,none⟩=some (.int .i64 (pre.length:Int)))/\Below w.heap.size w W)
  (OwnFrom.and (Own.from (λs A ac row f j l=>⟨cell_kept f.1 j l,(frozen_kept f.1 j l).trans f.2.1,cell_kept f.2.2 j l⟩) _) (ownFrom_below (B7 _) AU))
  (λc=>OwnFrom.and (Own.from (λs A ac row f j l=>⟨f.1,f.2.1,cell_kept f.2.2 j l⟩) _) (ownFrom_below (B7 _) AU))
  ⟨⟨by simpa using ae,ah,ab⟩,Y⟩
  (λx=>{tmps:=#[.agg #[.int .i64 n.kind, .int .i64 n.one.op, .slice E n.one.args.length B, .slice u n.kids.length y], .int .i64 d, .pointer (some ⟨w.heap.size,0,none⟩), .pointer (some ⟨w.heap.size+1,0,none⟩), .int .i64 0, .pointer (some ⟨w.heap.size+1+1,0,none⟩), .agg #[.int .i64 n.kind, .int .i64 n.one.op, .slice E n.one.args.length B, .slice u n.kids.length y], .func (.func 176) #[] #[.pointer (some ⟨K,0,none⟩), .pointer (some ⟨A,0,none⟩)], .agg #[.int .i64 x.net.kind, .int .i64 x.net.one.op,x.av,x.kv],undef,undef,undef,undef,undef,undef],defers:=[]}) ?assign ?body ?done ?stop
 case assign=>
  intro al x W KK aA
  gi_wp2
  simpa using aA
 case body=>
  rintro al pre x W ⟨⟨o,af,ad⟩,hB⟩ ar;have ap:=Aq o;have hw:IntKind.i64.wrap ((pre.length:Int)+1)=(pre.length:Int)+1:=by rw[IntKind.wrap_i64];omega
  have I:(W.setCell ⟨w.heap.size+1+1,0,none⟩ (.int .i64 ((pre.length:Int)+1))).cell? ⟨w.heap.size+1+1,0,none⟩=some (.int .i64 ((pre++[x]).length:Int)):=by
   rw[Fp o];simp
  by_cases ao:d<(pre.length:Int)+1
  .gi_wp2
   exact⟨(KeepsOthers.setCell _ _ _).from _,⟨rfl,by simp;omega,I⟩,hB.setCell (p:=⟨w.heap.size+1+1,0,none⟩) Ax _⟩
  .gi_wp2
   exact⟨(KeepsOthers.setCell _ _ _).from _,⟨(Below.refl _ W).setCell (p:=⟨w.heap.size+1+1,0,none⟩) Ax _,Jf.set (C:=λk=>k=w.heap.size+1+1) (Jf.refl _ _) (show _=_ from rfl) _⟩,⟨I,by rw[World.frozen?_setCell];exact af,by rw[Dz AU];exact ad⟩,hB.setCell (p:=⟨w.heap.size+1+1,0,none⟩) Ax _⟩
 case done=>
  rintro D q W hD hS ⟨⟨o,_⟩,hB⟩ hK;have ak:q.length=z:=by have:=congrArg List.length hS;rw[CP,m.out] at this;exact this
  exact zxa
 case stop=>
  rintro D c pre W hD ag ⟨⟨rfl,au,o⟩,hB⟩ hK;have ak:pre.length<=z:=by have:=ag.length_le;rw[CP,m.out] at this;exact this
  gi_wp2
  refine⟨AW, .inl ⟨_,_,rfl,run_takeDeferred hK,?_⟩⟩;exact⟨_,results_tmp rfl _ _ _,pre.length,rfl,λh=>by omega,λh=>by omega,AU,hB.trans (belowK_b (w:=w) (B7 _) W D _ _ AU hK rfl rfl)⟩
end
section
open Go.RowKit Go.Sort Go.BigFrame Go.Shelf
attribute [local go_sem] Oper.semAt_some
def Sj (n:Stil.B1)(q m:Value)(w:World)(B:Ak w q n.one.args)(D:Eo w m n.kids)(f:Bi n):
  Calls prog 105 #[.agg #[.int .i64 n.kind, .int .i64 n.one.op,q,m]] w λe j=>e=.returned (.bool (Ai n))/\Below w.heap.size w j:=by
 obtain⟨_,t,E,_⟩:=Dw f;have z:=t.2.1;obtain⟨A,y,rfl,_⟩:=B;obtain⟨G,H,rfl,_⟩:=D;clear f t;have a:Hid (Ai n=((n.kind==0 && (n.one.op==0 && n.one.args.length==0)) && n.kids.length==0)):=by show _=_;unfold Ai;simp only[Bool.and_assoc]
 have b:Hid (∀W,Calls prog 136 #[.agg #[.int .i64 n.one.op, .slice A n.one.args.length y]] W λe j=>e=.returned (.bool (n.one.op==0 && n.one.args.length==0))/\Below W.heap.size W j):=λW=>Yy _ _ _ _ _ AU
 obtain⟨i,l⟩:∃i,i=(n.one.op==0 && n.one.args.length==0):=⟨_,rfl⟩
 rw[<-l] at a b;obtain⟨d,r⟩:∃d,d=n.kids.length:=⟨_,rfl⟩
 obtain⟨o,x⟩:∃o,o=n.one.args.length:=⟨_,rfl⟩
 rw[<-r] at a E ⊢;rw[<-x] at b z ⊢;obtain⟨k,u⟩:∃k,k=n.kind:=⟨_,rfl⟩
 rw[<-u] at a ⊢;clear l r x u;by_cases v:k=0
 .subst v
  cases i
  .go_enter func105,ntmps105
   go_wp2_with (go_at_call 136;refine(b _).mono ?_;rintro e s ⟨rfl,c⟩)
   all_goals go_ret
   all_goals exact⟨Ad (by rw[a.out];simp),AX⟩
  .by_cases g:d=0
   .subst g
    go_enter func105,ntmps105
    go_wp2_with (go_at_call 136;refine(b _).mono ?_;rintro e s ⟨rfl,c⟩;obtain⟨C,f⟩:=Ff c)
    all_goals go_ret
    all_goals exact⟨Ad (by rw[a.out];simp),AX⟩
   .have F:((d:Int)==0)=false:=by rw[CJ];omega
    go_enter func105,ntmps105
    go_wp2_with (go_at_call 136;refine(b _).mono ?_;rintro e s ⟨rfl,c⟩;obtain⟨C,f⟩:=Ff c)
    all_goals go_ret
    all_goals exact⟨Ad (by rw[a.out];simp[g]),AX⟩
 .have g:(k==0)=false:=by rw[CJ];exact v
  go_enter func105,ntmps105
  go_wp2
  all_goals go_ret
  all_goals exact⟨Ad (by rw[a.out,g];rfl),AX⟩
end
open Go.RowKit Go.Sort Go.BigFrame Go.Shelf
attribute [local go_sem] Oper.semAt_some
def PY (W:World)(B:Nat)(k op:Int)(a n c d:Value):Prop:=W.cell? ⟨B,0,none⟩=some (.int .i64 k)/\W.cell? ⟨B,1,none⟩=some (.int .i64 op)/\W.cell? ⟨B,2,none⟩=some a/\W.cell? ⟨B,3,none⟩=some n/\W.cell? ⟨B,4,none⟩=some c/\W.cell? ⟨B,5,none⟩=some d
def VA {β:Type}(B:Nat)(k op:Int)(a n c d:Value):Own (λ(_:β) W=>PY W B k op a n c d):=λ_ _ _ _ f e b=>
 ⟨cell_kept f.1 e b,cell_kept f.2.1 e b,cell_kept f.2.2.1 e b,cell_kept f.2.2.2.1 e b,cell_kept f.2.2.2.2.1 e b,cell_kept f.2.2.2.2.2 e b⟩
def ze {p:Prop}(h:p:=by
 have hrn:r=ns:=by
  by_cases h:(ns:Int)<=limit - ((S:Int)+(1+cn))
  .exact hr1 h
  .have:=hr2 AU
   omega
 gi_wp2
 exact⟨by(repeat (first | with_reducible exact KeepsFrom.refl _ _ | with_reducible refine Vy ?_ _ _ | with_reducible refine P9 ?_ | with_reducible refine Lp ?_ _ | with_reducible refine Qa ?_ Bm)),OQ (b:=w.heap.size+1) (Vf (ve (Vf (OQ (b:=w.heap.size+1) (Kept.refl w.heap.size (λk=>k=w.heap.size+1) W) BS rfl _) hn hb2)) hn hb3) BS rfl _,⟨⟨⟨by rw[Fp c3,bC.out,hoe];simp;omega,by rw[World.frozen?_setCell];exact z3,by rw[Dz BS];exact l3⟩,AX⟩,by rw[bC.out];omega,by rw[bC.out,dh.out];omega,by have:=hb2.size;have:=hb3.size;simp at*;omega⟩⟩):p:=h
def z8 {p:Prop}(h:p:=by
 gi_wp2
 exact⟨by(repeat (first | with_reducible exact KeepsFrom.refl _ _ | with_reducible refine Vy ?_ _ _ | with_reducible refine P9 ?_ | with_reducible refine Lp ?_ _ | with_reducible refine Qa ?_ Bm)),⟨rfl,S+(1+cn)+r,by omega,by rw[bC.out];omega,by rw[Fp c3];simp⟩,AX⟩):p:=h
def zIa {p:Prop}(h:p:=by
 refine aA _ _ ?_;clear aA KK;refine Qn [8] ?_;refine wpAnyIn_done AY ?_ _;by_cases hgt:limit<(S:Int)+(1+cn)+r
 .exact z8
 .exact ze):p:=h
def nA (d:List Stil.B5)(v:Value)(limit:Int)(w:World)(Y:Dc w v d)(hf:∀x∈d,Ba x)(hl:d.length<=1048576)(ai:Bc d<=1000000000)(aG:0<=limit)(aO:limit<=9223372036854775807):
  Calls prog 99 #[v, .int .i64 limit] w λe V=>∃r:Nat,e=.returned (.int .i64 r)/\((Bc d:Int)<=limit->r=Bc d)/\(limit<Bc d->limit<r)/\r<=Bc d/\Below w.heap.size w V:=by
 have N:Hid (((Dy d).map Oc).sum=Bc d):=oV d;obtain⟨z,hz⟩:∃z,z=Bc d:=⟨_,rfl⟩
 rw[<-hz] at ai N ⊢;clear hz;have nC:Hid (∀W,Below w.heap.size w W->Ls w (λk=>k=w.heap.size+1) W v d):=λW h=>Ls.of_at Y h (λk (h:k=_)=>by omega)
 obtain⟨p0,r0,rfl,_⟩:=Y;refine(callsIn_wide (n:=9)).1 ?_;refine callsIn_of_wp_marks func99 rfl trivial ?_ rfl;simp only[ntmps99,CS,CC,CM,Nat.reduceAdd,Nat.reduceSub,DF,DG,DJ,DI,C3,CY]
 gi_wp2_with (refine⟨trivial,?_⟩;gi_at_call 131;refine(callsIn_wide.2 (TS _ _ _ _)).mono ?_;rintro e u ⟨A,K,rfl,aC,aD,hA,hK,hb⟩)
 simp only[World.size_alloc] at aC aD;have af:Below w.heap.size w u:=AX;have ak:u.cell? ⟨w.heap.size,0,none⟩=some (.int .i64 limit):=by rw[hb.cell (p:=⟨w.heap.size,0,none⟩) Ax];simp[go_sem]
 have ao:u.cell? ⟨w.heap.size+1,0,none⟩=some (.int .i64 0):=A3 hb;have au:u.frozen? ⟨w.heap.size+1,0,none⟩=false:=A4 hb;have ay:w.heap.size+2<=u.heap.size:=by have:=hb.size;simp at this;omega
 have HS:Hid (SeqStopsK Fence.wide (9 - 1) prog 167 #[.pointer (some ⟨K,0,none⟩), .pointer (some ⟨A,0,none⟩)] (λx:P7 w (λa=>a∈Dy d)=>#[Value.agg #[.int .i64 x.arm.net.kind, .int .i64 x.arm.net.one.op,x.av,x.nv,x.cv,x.kv]]) (Kept w.heap.size (λk=>k=w.heap.size+1)) (λys=>ys.map P7.arm=Dy d) (λpre=>pre.map P7.arm<+:Dy d) (Dy d).length u):=
  V0 w (λa=>a∈Dy d) (λx B=>⟨(G9 (SD d hf x B)).2.2.2.1,ki d x B⟩) (λk=>k=w.heap.size+1) (λk (h:k=_)=>by omega) (w.heap.size+2) A K (λk (h:k=_)=>by omega) (λh:K=_=>by omega) (λh:A=_=>by omega) d hl (nL d) _ u af ay (nC u af) hA hK _
 have az:Hid (∀x∈Dy d,Oc x<=z):=λx B=>by rw[<-N.out];exact rL _ B
 have wH:Hid (∀x∈Dy d,Ba x):=SD d hf;have zk:(Dy d).length<=z:=by rw[<-N.out];exact NA Oc (λx=>by unfold Oc;omega) _
 clear hb hA hK hf nC;refine wpIn_rangeFunc_ownH rfl AZ (gf:=167) (lb:=#[.pointer (some ⟨K,0,none⟩), .pointer (some ⟨A,0,none⟩)]) rfl trivial (enters_of func167 AY rfl)
  HS Kept.t (Kept.b AU) (Below.refl _ _) (λ_=>rfl)
  (λpre W=>((W.cell? ⟨w.heap.size+1,0,none⟩=some (.int .i64 ((pre.map (Oc ∘ P7.arm)).sum:Nat))/\W.frozen? ⟨w.heap.size+1,0,none⟩=false/\W.cell? ⟨w.heap.size,0,none⟩=some (.int .i64 limit))/\Below w.heap.size w W)/\(((pre.map (Oc ∘ P7.arm)).sum:Nat):Int)<=limit/\(pre.map (Oc ∘ P7.arm)).sum<=pre.length*z/\u.heap.size<=W.heap.size)
  (λc pre W=>(c=.exit 0/\∃t:Nat,limit<t/\t<=(pre.map (Oc ∘ P7.arm)).sum/\W.cell? ⟨w.heap.size+1,0,none⟩=some (.int .i64 t))/\Below w.heap.size w W)
  (OwnFrom.and (OwnFrom.and (Own.from (λs A ac row hs y I=>⟨cell_kept hs.1 y I,(frozen_kept hs.1 y I).trans hs.2.1,cell_kept hs.2.2 y I⟩) _) (ownFrom_below (B7 _) AU)) (OwnFrom.and (ownFrom_pure _ _) (OwnFrom.and (ownFrom_pure _ _) (λ_ _ _ _ hs y _=>CB hs y.size))))
  (λc=>OwnFrom.and (Own.from (λs A ac row hs y I=>⟨hs.1,hs.2.elim λt ht=>⟨t,ht.1,ht.2.1,cell_kept ht.2.2 y I⟩⟩) _) (ownFrom_below (B7 _) AU))
  ⟨⟨⟨by simpa using ao,au,ak⟩,af⟩,by simpa using aG,AW,B7 _⟩
  (λx a' W=>∃g,u.heap.size<=g/\PY W g x.arm.net.kind x.arm.net.one.op x.av x.nv x.cv x.kv/\a'={tmps:=#[.slice p0 d.length r0, .int .i64 limit,undef, .pointer (some ⟨w.heap.size,0,none⟩), .int .i64 0, .pointer (some ⟨w.heap.size+1,0,none⟩), .pointer (some ⟨g,0,none⟩), .slice p0 d.length r0, .func (.func 167) #[] #[.pointer (some ⟨K,0,none⟩), .pointer (some ⟨A,0,none⟩)], .agg #[.int .i64 x.arm.net.kind, .int .i64 x.arm.net.one.op,x.av,x.nv,x.cv,x.kv],undef,undef,undef,undef,undef,undef,undef,undef,undef,undef,undef,undef,undef,undef,undef,undef,undef,undef,undef,undef,undef,undef],defers:=[]})
  (λx a' s A ac row hs y I=>hs.elim λg B=>⟨g,B.1,VA (β:=Unit) g _ _ _ _ _ _ s A ac row B.2.1 y (λr e=>(I r e).2),B.2.2⟩) ?assign ?body ?done ?stop
 case assign=>
  rintro l pre x W KK ⟨⟨⟨m,hfz,T⟩,hB⟩,M,ab,an⟩ aA;have al:w.heap.size+1<W.heap.size:=Aq m;obtain⟨x,av,nv,cv,kv,Y,aE,ax,aF,mJ⟩:=x;obtain⟨q0,s0,rfl,_⟩:=id Y;obtain⟨q1,s1,rfl,_⟩:=id aE;obtain⟨q2,s2,rfl,_⟩:=id ax;obtain⟨q3,s3,rfl,_⟩:=id aF
  gi_wp2
  exact aA _ _ ((KeepsOthers.alloc _ _).from _) (Kept.of_below hB.size (Aa _ _)) ⟨⟨⟨Nw _ m,Ot _ m hfz,Nw _ T⟩,AX⟩,M,ab,by simp;omega⟩ ⟨W.heap.size,AU,⟨by simp[go_sem],by simp[go_sem],by simp[go_sem],by simp[go_sem],by simp[go_sem],by simp[go_sem]⟩,rfl⟩
 case body=>
  rintro l pre x a' W aH _ ⟨⟨⟨m,hfz,T⟩,hB⟩,M,ab,an⟩ ⟨g,aN,⟨y0,y1,y2,y3,y4,y5⟩,rfl⟩ aw;have al:w.heap.size+1<W.heap.size:=Aq m;have aM:w.heap.size<W.heap.size:=AU
  have pM:g<W.heap.size:=Aq y0;have hn:w.heap.size<=W.heap.size:=AU
  have Z:¬g=w.heap.size+1:=AU
  have aL:¬g=w.heap.size:=AU
  have bC:Hid (((pre++[x]).map (Oc ∘ P7.arm)).sum=(pre.map (Oc ∘ P7.arm)).sum+Oc x.arm):=by show _=_;rw[CX,FX];simp
  have dh:Hid ((pre++[x]).length*z=pre.length*z+z):=by show _=_;rw[CO,Nat.add_mul];simp
  have aK:pre.length*z<=1000000000*1000000000:=Nat.mul_le_mul AU ai;have ae:=(G9 (wH _ x.mem)).1;have zO:=(G9 (wH _ x.mem)).2.1;have xg:=az _ x.mem;have E:Hid (Oc x.arm=1+x.arm.coils.length+(if Ai x.arm.net then 0 else Ac x.arm.net)):=rfl;obtain⟨q0,s0,e0,_⟩:=id x.hav;obtain⟨q1,s1,e1,_⟩:=id x.hnv;obtain⟨q2,s2,e2,_⟩:=id x.hcv;obtain⟨q3,s3,e3,_⟩:=id x.hkv;have L:Hid (∀X,Below w.heap.size w X->Calls prog 105 #[.agg #[.int .i64 x.arm.net.kind, .int .i64 x.arm.net.one.op,x.av,x.nv]] X λe V=>e=.returned (.bool (Ai x.arm.net))/\Below X.heap.size X V):=λX O=>Sj x.arm.net x.av x.nv X (x.hav.below O) (x.hnv.below O) ae
  have R:Hid (∀X,Below w.heap.size w X->Ac x.arm.net<=1000000000->∀C,-9223372036854775808<=C->C<=9223372036854775807->Calls prog 132 #[.agg #[.int .i64 x.arm.net.kind, .int .i64 x.arm.net.one.op,x.av,x.nv], .int .i64 C] X λe V=>∃r:Nat,e=.returned (.int .i64 r)/\((Ac x.arm.net:Int)<=C->r=Ac x.arm.net)/\(C<Ac x.arm.net->C<r)/\r<=Ac x.arm.net/\Below X.heap.size X V):=λX O hs C h1 h2=>mj x.arm.net x.av x.nv C X (x.hav.below O) (x.hnv.below O) ae hs h1 h2
  rw[e0,e1] at L R;rw[e0] at y2;rw[e1] at y3;rw[e2] at y4;rw[e3] at y5;obtain⟨S,hS⟩:∃S,S=(pre.map (Oc ∘ P7.arm)).sum:=⟨_,rfl⟩
  obtain⟨o,ho⟩:∃o,o=Oc x.arm:=⟨_,rfl⟩
  obtain⟨cn,ag⟩:∃cn,cn=x.arm.coils.length:=⟨_,rfl⟩
  rw[<-hS] at m M ab bC;rw[<-ho] at xg bC E;rw[<-ag] at zO E y4;clear ae hS ho ag e0 e1 e2 e3 aw aH;cases aa:Ai x.arm.net
  .rw[aa] at L E
   have hoe:o=1+cn+Ac x.arm.net:=by rw[E.out];simp
   obtain⟨ns,ah⟩:∃ns,ns=Ac x.arm.net:=⟨_,rfl⟩
   rw[<-ah] at hoe R;clear ah aa E;have aj:IntKind.i64.wrap (limit - ((S:Int)+(1+cn)))=limit - ((S:Int)+(1+cn)):=by rw[IntKind.wrap_i64];omega
   gi_wp2_with (refine⟨trivial,?_⟩;gi_at_call 105;refine(CallsIn.inRound l (callsIn_wide.2 (L _ AX))).mono ?_;rintro e j ⟨rfl,hb2⟩;have q:j.cell? ⟨w.heap.size+1,0,none⟩=some (.int .i64 ((S:Int)+(1+cn))):=(hb2.cell (p:=⟨w.heap.size+1,0,none⟩) Ax).trans (Fp m);have U:j.frozen? ⟨w.heap.size+1,0,none⟩=false:=(hb2.frozen (p:=⟨w.heap.size+1,0,none⟩) Ax).trans yDd;have J:j.cell? ⟨w.heap.size,0,none⟩=some (.int .i64 limit):=(hb2.cell (p:=⟨w.heap.size,0,none⟩) Ax).trans ((Dz AU).trans T);have v0:j.cell? ⟨g,0,none⟩=some (.int .i64 x.arm.net.kind):=(hb2.cell (p:=⟨g,0,none⟩) Ax).trans ((Dz Z).trans y0);have v1:j.cell? ⟨g,1,none⟩=some (.int .i64 x.arm.net.one.op):=(hb2.cell (p:=⟨g,1,none⟩) Ax).trans ((Dz Z).trans y1);have v2:j.cell? ⟨g,2,none⟩=some (.slice q0 x.arm.net.one.args.length s0):=(hb2.cell (p:=⟨g,2,none⟩) Ax).trans ((Dz Z).trans y2);have v3:j.cell? ⟨g,3,none⟩=some (.slice q1 x.arm.net.kids.length s1):=(hb2.cell (p:=⟨g,3,none⟩) Ax).trans ((Dz Z).trans y3))
   refine wpIn_region_any AY ?_;try (change wpAnyIn _ _ _ _ _ _ _ _ _ (World.drew _))
   apply share
   .intro nT
    apply share
    .intro nS
     apply share
     .intro nM
      apply share
      .intro rU
       apply share
       .intro qP
        apply share
        .intro qO
         apply share
         .intro nK
          apply share
          .intro jd
           apply share
           .intro yN
            apply share
            .intro jc
             apply share
             .intro sH
              apply share
              .intro nR
               apply share
               .intro nP
                apply share
                .intro nO
                 apply share
                 .intro sG
                  apply share
                  .intro sF
                   apply share
                   .intro nN
                    apply share
                    .intro sD
                     apply share
                     .intro rZ
                      apply share
                      .intro rY
                       apply share
                       .intro rX
                        apply share
                        .intro rW
                         apply share
                         .intro rV
                          refine wpAnyIn_ready (rs:=[0,1,3,4]) AY AW ?_;refine Iq rfl ?_ ?_
                          .refine wpAnyIn_ready (rs:=[1,3,4]) AY AW ?_
                           refine Iq rfl ?_ ?_
                           .exact sD
                           refine Iq rfl ?_ ?_
                           .exact rZ
                           refine Iq rfl ?_ ?_
                           .exact rY
                           exact AllReadyIn.nil
                          refine Iq rfl ?_ ?_
                          .refine wpAnyIn_ready (rs:=[0,2,3,4]) AY AW ?_
                           refine Iq rfl ?_ ?_
                           .exact sD
                           refine Iq rfl ?_ ?_
                           .refine wpAnyIn_ready (rs:=[0,3,4]) AY AW ?_
                            refine Iq rfl ?_ ?_
                            .exact sH
                            refine Iq rfl ?_ ?_
                            .exact sG
                            refine Iq rfl ?_ ?_
                            .exact sF
                            exact AllReadyIn.nil
                           refine Iq rfl ?_ ?_
                           .exact rX
                           refine Iq rfl ?_ ?_
                           .exact rW
                           exact AllReadyIn.nil
                          refine Iq rfl ?_ ?_
                          .refine wpAnyIn_ready (rs:=[0,1,4]) AY AW ?_
                           refine Iq rfl ?_ ?_
                           .exact rZ
                           refine Iq rfl ?_ ?_
                           .exact rX
                           refine Iq rfl ?_ ?_
                           .exact rV
                           exact AllReadyIn.nil
                          refine Iq rfl ?_ ?_
                          .refine wpAnyIn_ready (rs:=[0,1,3]) AY AW ?_
                           refine Iq rfl ?_ ?_
                           .exact rY
                           refine Iq rfl ?_ ?_
                           .exact rW
                           refine Iq rfl ?_ ?_
                           .exact rV
                           exact AllReadyIn.nil
                          exact AllReadyIn.nil
                         .refine wpAnyIn_ready (rs:=[0,1,5]) AY AW ?_
                          refine Iq rfl ?_ ?_
                          .exact nO
                          refine Iq rfl ?_ ?_
                          .exact nN
                          refine Iq rfl ?_ ?_
                          .refine wpAnyIn_ready (rs:=[0,1]) AY AW ?_
                           refine Iq rfl ?_ ?_
                           .exact jd
                           refine Iq rfl ?_ ?_
                           .exact jc
                           exact AllReadyIn.nil
                          exact AllReadyIn.nil
                        .refine wpAnyIn_ready (rs:=[0,2,3]) AY AW ?_
                         refine Iq rfl ?_ ?_
                         .exact nP
                         refine Iq rfl ?_ ?_
                         .exact sF
                         refine Iq rfl ?_ ?_
                         .exact nN
                         exact AllReadyIn.nil
                       .refine wpAnyIn_ready (rs:=[0,2,4]) AY AW ?_
                        refine Iq rfl ?_ ?_
                        .exact nR
                        refine Iq rfl ?_ ?_
                        .exact sG
                        refine Iq rfl ?_ ?_
                        .exact nN
                        exact AllReadyIn.nil
                      .refine wpAnyIn_ready (rs:=[1,3]) AY AW ?_
                       refine Iq rfl ?_ ?_
                       .exact nP
                       refine Iq rfl ?_ ?_
                       .exact nO
                       exact AllReadyIn.nil
                     .refine wpAnyIn_ready (rs:=[1,4]) AY AW ?_
                      refine Iq rfl ?_ ?_
                      .exact nR
                      refine Iq rfl ?_ ?_
                      .exact nO
                      exact AllReadyIn.nil
                    .refine wpAnyIn_ready (rs:=[2,3,4]) AY AW ?_
                     refine Iq rfl ?_ ?_
                     .exact sH
                     refine Iq rfl ?_ ?_
                     .exact nR
                     refine Iq rfl ?_ ?_
                     .exact nP
                     exact AllReadyIn.nil
                   .refine wpAnyIn_ready (rs:=[0,2,5]) AY AW ?_
                    refine Iq rfl ?_ ?_
                    .exact nK
                    refine Iq rfl ?_ ?_
                    .exact yN
                    refine Iq rfl ?_ ?_
                    .exact jc
                    exact AllReadyIn.nil
                  .refine wpAnyIn_ready (rs:=[0,3]) AY AW ?_
                   refine Iq rfl ?_ ?_
                   .exact qO
                   refine Iq rfl ?_ ?_
                   .exact yN
                   exact AllReadyIn.nil
                 .refine wpAnyIn_ready (rs:=[0,4]) AY AW ?_
                  refine Iq rfl ?_ ?_
                  .exact qP
                  refine Iq rfl ?_ ?_
                  .exact yN
                  exact AllReadyIn.nil
                .refine wpAnyIn_ready (rs:=[1,5]) AY AW ?_
                 refine Iq rfl ?_ ?_
                 .exact nK
                 refine Iq rfl ?_ ?_
                 .exact jd
                 exact AllReadyIn.nil
               .refine wpAnyIn_ready (rs:=[2,3]) AY AW ?_
                refine Iq rfl ?_ ?_
                .exact qO
                refine Iq rfl ?_ ?_
                .exact nK
                exact AllReadyIn.nil
              .refine wpAnyIn_ready (rs:=[2,4]) AY AW ?_
               refine Iq rfl ?_ ?_
               .exact qP
               refine Iq rfl ?_ ?_
               .exact nK
               exact AllReadyIn.nil
             .refine wpAnyIn_ready (rs:=[3,4]) AY AW ?_
              refine Iq rfl ?_ ?_
              .exact qP
              refine Iq rfl ?_ ?_
              .exact qO
              exact AllReadyIn.nil
            .refine wpAnyIn_ready (rs:=[0,2]) AY AW ?_
             refine Iq rfl ?_ ?_
             .exact nM
             refine Iq rfl ?_ ?_
             .exact rU
             exact AllReadyIn.nil
           .refine wpAnyIn_ready (rs:=[0,5]) AY AW ?_
            refine Iq rfl ?_ ?_
            .exact nS
            refine Iq rfl ?_ ?_
            .exact rU
            exact AllReadyIn.nil
          .refine Qn [1] ?_
           exact nM
         .refine wpAnyIn_ready (rs:=[2,5]) AY AW ?_
          refine Iq rfl ?_ ?_
          .exact nS
          refine Iq rfl ?_ ?_
          .exact nM
          exact AllReadyIn.nil
        .refine Qn [3] ?_
         exact nS
       .refine Qn [4] ?_
        exact nS
      .refine wpAnyIn_ready (rs:=[0,6]) AY AW ?_
       refine Iq rfl ?_ ?_
       .exact nT
       refine AllReadyIn.cons rfl (λKK aA=>?_) ?_
       .go_simp
        try simp only[aj]
        refine⟨trivial,?_⟩;refine(CallsIn.inRound l (callsIn_wide.2 (R _ AX AU (limit - ((S:Int)+(1+cn))) AU AU))).mono ?_;rintro e H ⟨r,rfl,hr1,hr2,ap,hb3⟩;refine aA _ _ ?_;clear aA KK;have c3:H.cell? ⟨w.heap.size+1,0,none⟩=some (.int .i64 ((S:Int)+(1+cn))):=(hb3.cell (p:=⟨w.heap.size+1,0,none⟩) (Aq q)).trans q;have z3:H.frozen? ⟨w.heap.size+1,0,none⟩=false:=(hb3.frozen (p:=⟨w.heap.size+1,0,none⟩) (Aq q)).trans U;have l3:H.cell? ⟨w.heap.size,0,none⟩=some (.int .i64 limit):=(hb3.cell (p:=⟨w.heap.size,0,none⟩) (Aq J)).trans J;have ad:IntKind.i64.wrap ((S:Int)+(1+cn)+r)=(S:Int)+(1+cn)+r:=by rw[IntKind.wrap_i64];omega
        refine Qn [0] ?_;refine wpAnyIn_ready (rs:=[7]) AY AW ?_;refine AllReadyIn.cons rfl (λKK aA=>?_) AllReadyIn.nil;go_simp;try simp only[ad]
        exact zIa
       exact AllReadyIn.nil
     .refine Qn [2] ?_
      exact nT
    .refine Qn [5] ?_
     exact nT
   .refine wpAnyIn_ready (rs:=[6]) AY AW ?_
    refine AllReadyIn.cons rfl (λKK aA=>?_) AllReadyIn.nil;go_simp;try simp only[aj]
    refine⟨trivial,?_⟩;refine(CallsIn.inRound l (callsIn_wide.2 (R _ AX AU (limit - ((S:Int)+(1+cn))) AU AU))).mono ?_;rintro e H ⟨r,rfl,hr1,hr2,ap,hb3⟩;refine aA _ _ ?_;clear aA KK;have c3:H.cell? ⟨w.heap.size+1,0,none⟩=some (.int .i64 ((S:Int)+(1+cn))):=(hb3.cell (p:=⟨w.heap.size+1,0,none⟩) (Aq q)).trans q;have z3:H.frozen? ⟨w.heap.size+1,0,none⟩=false:=(hb3.frozen (p:=⟨w.heap.size+1,0,none⟩) (Aq q)).trans U;have l3:H.cell? ⟨w.heap.size,0,none⟩=some (.int .i64 limit):=(hb3.cell (p:=⟨w.heap.size,0,none⟩) (Aq J)).trans J;have ad:IntKind.i64.wrap ((S:Int)+(1+cn)+r)=(S:Int)+(1+cn)+r:=by rw[IntKind.wrap_i64];omega
    refine wpAnyIn_ready (rs:=[7]) AY AW ?_;refine AllReadyIn.cons rfl (λKK aA=>?_) AllReadyIn.nil;go_simp;try simp only[ad]
    exact zIa
  .rw[aa] at L E
   have hoe:o=1+cn:=by rw[E.out];simp
   clear aa E R;by_cases hgt:limit<(S:Int)+(1+cn)
   .gi_wp2_with (refine⟨trivial,?_⟩;gi_at_call 105;refine(CallsIn.inRound l (callsIn_wide.2 (L _ AX))).mono ?_;rintro e j ⟨rfl,hb2⟩;have q:j.cell? ⟨w.heap.size+1,0,none⟩=some (.int .i64 ((S:Int)+(1+cn))):=(hb2.cell (p:=⟨w.heap.size+1,0,none⟩) Ax).trans (Fp m);have U:j.frozen? ⟨w.heap.size+1,0,none⟩=false:=(hb2.frozen (p:=⟨w.heap.size+1,0,none⟩) Ax).trans yDd;have J:j.cell? ⟨w.heap.size,0,none⟩=some (.int .i64 limit):=(hb2.cell (p:=⟨w.heap.size,0,none⟩) Ax).trans ((Dz AU).trans T))
    exact⟨by(repeat (first | with_reducible exact KeepsFrom.refl _ _ | with_reducible refine Vy ?_ _ _ | with_reducible refine P9 ?_ | with_reducible refine Lp ?_ _ | with_reducible refine Qa ?_ Bm)),⟨rfl,S+(1+cn),by omega,by rw[bC.out];omega,by rw[q];simp⟩,AX⟩
   .gi_wp2_with (refine⟨trivial,?_⟩;gi_at_call 105;refine(CallsIn.inRound l (callsIn_wide.2 (L _ AX))).mono ?_;rintro e j ⟨rfl,hb2⟩;have q:j.cell? ⟨w.heap.size+1,0,none⟩=some (.int .i64 ((S:Int)+(1+cn))):=(hb2.cell (p:=⟨w.heap.size+1,0,none⟩) Ax).trans (Fp m);have U:j.frozen? ⟨w.heap.size+1,0,none⟩=false:=(hb2.frozen (p:=⟨w.heap.size+1,0,none⟩) Ax).trans yDd;have J:j.cell? ⟨w.heap.size,0,none⟩=some (.int .i64 limit):=(hb2.cell (p:=⟨w.heap.size,0,none⟩) Ax).trans ((Dz AU).trans T))
    exact⟨by(repeat (first | with_reducible exact KeepsFrom.refl _ _ | with_reducible refine Vy ?_ _ _ | with_reducible refine P9 ?_ | with_reducible refine Lp ?_ _ | with_reducible refine Qa ?_ Bm)),Vf (OQ (b:=w.heap.size+1) (Kept.refl w.heap.size (λk=>k=w.heap.size+1) W) BS rfl _) hn hb2,⟨⟨⟨by rw[q,bC.out,hoe];simp,U,J⟩,AX⟩,by rw[bC.out];omega,by rw[bC.out,dh.out];omega,by have:=hb2.size;simp at*;omega⟩⟩
 case done=>
  rintro D ys W hD hS ⟨⟨⟨m,_⟩,hB⟩,M,_⟩ hK;rw[<-FY,hS,N.out] at m M
  exact zxa
 case stop=>
  rintro D c pre W hD aB ⟨⟨rfl,t,aJ,aI,m⟩,hB⟩ hK;have ar:t<=z:=by have:=qL Oc aB;rw[N.out,FY] at this;omega
  gi_wp2
  refine⟨AW, .inl ⟨_,_,rfl,run_takeDeferred hK,?_⟩⟩;exact⟨_,results_tmp rfl _ _ _,t,rfl,λh=>by omega,λh=>by omega,ar,hB.trans (belowK_b (w:=w) (B7 _) W D _ _ AU hK rfl rfl)⟩
