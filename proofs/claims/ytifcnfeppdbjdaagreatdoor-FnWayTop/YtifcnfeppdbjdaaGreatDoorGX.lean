import Derived.Test.YtifcnfeppdbjdaaGreatDoorGO
import Derived.Test.YtifcnfeppdbjdaaGreatDoorGJ
set_option maxHeartbeats 4000000
set_option maxRecDepth 100000
namespace Go.Proofs.YtifcnfeppdbjdaaGreatDoor
open Tryz Stil
section
open Go.RowKit Go.Sort Go.BigFrame Go.Shelf
attribute [local go_sem] Oper.semAt_some
def errOf (c:Int):Value:=if 0<c then .iface 144 (AB c) else .nilIface
theorem zp {p:Prop}(h:p:=by
 go_enter func161,ntmps161
 go_wp2_with (go_at_call 122;refine(HC _).mono ?_;rintro e w1 ⟨rfl,hb⟩;obtain⟨hc,hfz⟩:=Ef hb)
 all_goals go_ret
 all_goals exact⟨Ae (by rw[HX.out];simp),AW⟩):p:=h
theorem Azx (n:Stil.B9)(m l:Value)(w:World)(C:Dk w m n.one.args)(z:Gn w l n.kids)(j:Dw n):
  Calls prog 161 #[.agg #[AB n.kind,AB n.one.op,m,l]] w (AN w (.bool (Im n))):=by
 obtain⟨_,v,B,_⟩:=Dz j;have A:=v.2.1;obtain⟨x,y,rfl,_⟩:=C;obtain⟨D,G,rfl,_⟩:=z;clear j v;have HC:Hid (∀W,Calls prog 122 #[.agg #[AB n.one.op,AE x n.one.args.length y]] W (AN W (.bool (n.one.op==0 && n.one.args.length==0)))):=λW=>NW _ _ _ _ _ AQ
 have a:Hid (Im n=if n.kind=1 then decide (n.kids.length=0) else if n.kind=2\/n.kind=3 then(n.one.op==0 && n.one.args.length==0) && decide (0<n.kids.length) else if n.kind=4 then(n.one.op==0 && n.one.args.length==0) && decide (n.kids.length=1) else false):=rfl;obtain⟨b,q⟩:=AA ((n.one.op==0 && n.one.args.length==0))
 rw[<-q] at a HC;obtain⟨d,s⟩:=AA n.kids.length
 obtain⟨u,o⟩:=AA n.one.args.length
 rw[<-s] at a B ⊢;rw[<-o] at HC A ⊢;obtain⟨k,t⟩:=AA n.kind
 rw[<-t] at a ⊢;obtain⟨R,r⟩:=AA (Im n)
 rw[<-r] at a ⊢;clear q s o t r;by_cases f:k=1
 ·subst f
  have HX:Hid (R=((d:Int)==0)):=by show _=_;rw[a.out,if_pos rfl,DY];simp
  clear a HC;go_enter func161,ntmps161
  go_wp2
  all_goals go_ret
  all_goals exact⟨Ae Bn,AW⟩
 ·have E:(k==1)=false:=by rw[CS];exact f
  by_cases c:k=2\/k=3
  ·have HX:Hid (R=(b && decide ((0:Int)<(d:Int)))):=by show _=_;rw[a.out,if_neg f,if_pos c,DY];simp
   clear a;cases b
   ·rcases c with rfl | rfl
    ·exact zp
    ·exact zp
   ·rcases c with rfl | rfl
    ·exact zp
    ·exact zp
  ·have I:(k==2)=false:=by rw[CS];omega
   have F:(k==3)=false:=by rw[CS];omega
   by_cases g:k=4
   ·subst g
    have HX:Hid (R=(b && ((d:Int)==1))):=by show _=_;rw[a.out,if_neg f,if_neg c,if_pos rfl,DY];simp;omega
    clear a;cases b
    ·exact zp
    ·exact zp
   ·have H:(k==4)=false:=by rw[CS];exact g
    have HX:Hid (R=false):=by show _=_;rw[a.out,if_neg f,if_neg c,if_neg g]
    clear a HC;go_enter func161,ntmps161
    go_wp2
    all_goals go_ret
    all_goals exact⟨Ae Bn,AW⟩
end
section
open Go.RowKit Go.Sort Go.BigFrame Go.Shelf
def SS (W:World)(B:Nat)(k op:Int)(a n:Value):Prop:=W.cell? ⟨B,0,none⟩=some (AB k)/\W.cell? ⟨B,1,none⟩=some (AB op)/\W.cell? ⟨B,2,none⟩=some a/\W.cell? ⟨B,3,none⟩=some n
theorem Aux {β:Type}(B:Nat)(k op:Int)(a n:Value):Own (λ(_:β) W=>SS W B k op a n):=λ_ _ _ _ d b c=>
 ⟨cell_kept d.1 b c,cell_kept d.2.1 b c,cell_kept d.2.2.1 b c,cell_kept d.2.2.2 b c⟩
end
section
open Go.RowKit Go.Sort Go.BigFrame Go.Shelf
variable {α:Type}
attribute [local go_sem] Oper.semAt_some
theorem Yi (f:α->Int){a b:List α}(h:a<+:b)(d:0<Ar (a.map f)):Ar (b.map f)=Ar (a.map f):=by
 obtain⟨c,rfl⟩:=h;rw[CU,Uf,if_pos d]
theorem TL (f:α->Int)(l:List α)(x:α)(h:¬0<Ar (l.map f)):Ar ((l++[x]).map f)=if 0<f x then f x else 0:=by
 rw[CU,Uf,if_neg h];simp[Ar]
theorem Azu (n:Stil.B9)(Y kv:Value)(w:World)(hr:Et w)(P:Dk w Y n.one.args)(Q:Gn w kv n.kids)(hf:Dw n):
  Calls prog 153 #[.agg #[AB n.kind,AB n.one.op,Y,kv]] w (AN w (errOf (Ai n))):=by
 have yE:Hid (Ar ((Eu [n]).map Gg)=Ai n):=by show _=_;rw[VA,sf]
 have ar:=La n;obtain⟨z,hz⟩:=AA (Ai n)
 rw[<-hz] at yE ar ⊢;clear hz;refine(callsIn_wide (n:=9)).1 ?_;have dR:=AV P;have qX:=AV Q;have aw:=AV (λW (h:AO w W)=>hr.below h);obtain⟨p0,r0,rfl,_⟩:=P;obtain⟨V,Z,rfl,_⟩:=Q;refine callsIn_of_wp_marks func153 rfl trivial ?_ rfl;simp only[ntmps153,Cd,CH,CO,Nat.reduceAdd,Nat.reduceSub,DN,DO,DL,DR,C5,C4]
 gi_wp2_with (refine⟨trivial,?_⟩;gi_at_call 152;refine(callsIn_wide.2 (WA _ _ _ _ _ _ _ _ _)).mono ?_;rintro e q ⟨b,A,K,rfl,an,ap,aB,hA,u,x0,x1,x2,x3,hb⟩)
 simp only[World.size_alloc] at an ap aB;have ak:AO w q:=AW;have au:q.cell? (AK (w.heap.size+1) 0)=some .nilIface:=A3 hb;have ao:q.frozen? (AK (w.heap.size+1) 0)=false:=A5 hb;have aC:w.heap.size+2<=q.heap.size:=by have:=hb.size;simp at this;omega
 have fC:Qu w (λ_=>False) q (AE (some (AK b 0)) 1 1) [n]:=by
  refine⟨_,1,rfl,λi hi=>⟨b,0,rfl,(λh=>h),AE p0 n.one.args.length r0,AE V n.kids.length Z,?_⟩⟩;obtain rfl:i=0:=by simpa using hi
  simp only[FG,CV,EP];exact⟨x0,x1,x2,x3,dR.out,qX.out⟩
 have HS:Hid (SeqStopsK Fence.wide (9 - 1) prog 164 #[AH K,AH A] (λx:Ur w Dw=>#[Value.agg #[AB x.net.kind,AB x.net.one.op,x.av,x.kv]]) (Kept w.heap.size (λ_=>False)) (λys=>ys.map Ur.net=Eu [n]) (λpre=>pre.map Ur.net<+:Eu [n]) (Eu [n]).length q):=
  YO w Dw (λx I=>⟨(Dz I).2.2.1,(Dz I).2.2.2⟩) (λ_=>False) (λ_ h=>h.elim) 0 A K (λ_ h=>h.elim) (λh=>h) (λh=>h) [n] AU (by simpa using hf) _ q ak (DI _) fC hA u _
 clear fC hb x0 x1 x2 x3 hA u hf;refine wpIn_rangeFunc_ownH rfl AY (gf:=164) (lb:=#[AH K,AH A]) rfl trivial (enters_of func164 AX rfl)
  HS Kept.t (Kept.b AQ) (Below.refl _ _) (λ_=>rfl)
  (λpre W=>((W.cell? (AK (w.heap.size+1) 0)=some .nilIface/\W.frozen? (AK (w.heap.size+1) 0)=false)/\AO w W)/\¬0<Ar (pre.map (Gg ∘ Ur.net))/\q.heap.size<=W.heap.size)
  (λc pre W=>(c=.ret/\∃k,0<k/\Ar (pre.map (Gg ∘ Ur.net))=k/\W.cell? (AK (w.heap.size+1) 0)=some (.iface 144 (AB k)))/\AO w W)
  (OwnFrom.and (OwnFrom.and (Own.from (λs A aa row o B hr=>⟨cell_kept o.1 B hr,(frozen_kept o.1 B hr).trans o.2⟩) _) (ownFrom_below (CG _) AQ)) (OwnFrom.and (ownFrom_pure _ _) (λ_ _ _ _ o B _=>CJ o B.size)))
  (λc=>OwnFrom.and (Own.from (λs A aa row o B hr=>⟨o.1,o.2.elim λt ht=>⟨t,ht.1,ht.2.1,cell_kept ht.2.2 B hr⟩⟩) _) (ownFrom_below (CG _) AQ))
  ⟨⟨⟨au,ao⟩,ak⟩,by simp[Ar],CG _⟩
  (λx T W=>∃C,q.heap.size<=C/\SS W C x.net.kind x.net.one.op x.av x.kv/\T={tmps:=#[.agg #[AB n.kind,AB n.one.op,AE p0 n.one.args.length r0,AE V n.kids.length Z],AH w.heap.size,AH (w.heap.size+1),AH C, .agg #[AB n.kind,AB n.one.op,AE p0 n.one.args.length r0,AE V n.kids.length Z], .func (.func 164) #[] #[AH K,AH A], .agg #[AB x.net.kind,AB x.net.one.op,x.av,x.kv],undef,undef,undef,undef,undef,undef,undef,undef,undef,undef,undef,undef,undef,undef],defers:=[]})
  (λx T s A aa row o B hr=>o.elim λC I=>⟨C,I.1,Aux (β:=Unit) C _ _ _ _ s A aa row I.2.1 B (λag e=>(hr ag e).2),I.2.2⟩) ?assign ?body ?done ?stop
 case assign=>
  rintro l pre x W KK ⟨⟨⟨f,H⟩,J⟩,F,az⟩ aA;obtain⟨x,Y,kv,P,Q,aF⟩:=x;obtain⟨q0,s0,rfl,_⟩:=id P;obtain⟨q1,s1,rfl,_⟩:=id Q
  gi_wp2
  exact aA _ _ ((KeepsOthers.alloc _ _).from _) (Kept.of_below J.size (Aa _ _)) ⟨⟨⟨Px _ f,Qe _ f H⟩,AW⟩,F,by simp;omega⟩ ⟨W.heap.size,AQ,⟨by simp[go_sem],by simp[go_sem],by simp[go_sem],by simp[go_sem]⟩,rfl⟩
 case body=>
  rintro l pre x T W ay _ ⟨⟨⟨f,H⟩,J⟩,F,az⟩ ⟨C,aD,⟨y0,y1,y2,y3⟩,rfl⟩ ax;have r:=Be f;have xB:=Be y0;have hn:w.heap.size<=W.heap.size:=AQ
  have G:=AV (λX M=>Azx x.net x.av x.kv X (x.hav.below M) (x.hkv.below M) x.mem);have N:=AV (λX M=>UQ x.net.one.op x.av x.net.one.args X (aw X M) (x.hav.below M) (Dz x.mem).2.1.2.2 (by have:=(Dz x.mem).2.1.2.1;omega));have y:Hid (Ar ((pre++[x]).map (Gg ∘ Ur.net))=if 0<Gg x.net then Gg x.net else 0):=TL _ _ _ F;have g:Hid (Gg x.net=if Im x.net then(if x.net.kind=1 then(if Du x.net.one.op x.net.one.args then 0 else 3) else 0) else 2):=rfl;obtain⟨q0,s0,S,_⟩:=id x.hav;obtain⟨q1,s1,e1,_⟩:=id x.hkv;rw[S,e1] at G;rw[S] at N y2;rw[e1] at y3;obtain⟨R,aj⟩:=AA (Im x.net)
  obtain⟨ic,ah⟩:=AA (Du x.net.one.op x.net.one.args)
  obtain⟨O,ai⟩:=AA x.net.kind
  rw[<-aj] at G g;rw[<-ah] at N g;rw[<-ai] at G g y0;clear aj ah ai S e1 ax ay F;cases R
  ·have m:Hid (Ar ((pre++[x]).map (Gg ∘ Ur.net))=2):=by show _=_;rw[y.out,g.out];simp
   clear y g
   gi_wp2_with (refine⟨trivial,?_⟩;gi_at_call 161;refine(CallsIn.inRound l (callsIn_wide.2 (G _ AW))).mono ?_;rintro e U ⟨rfl,d⟩;have j:=(d.cell (p:=(AK (w.heap.size+1) 0)) r).trans f;have L:=(d.frozen (p:=(AK (w.heap.size+1) 0)) r).trans H)
   exact⟨by(repeat (first | with_reducible exact KeepsFrom.refl _ _ | with_reducible refine Xq ?_ _ _ | with_reducible refine Si ?_ | with_reducible refine Ol ?_ _ | with_reducible refine Sj ?_ Br)),⟨rfl,2,by omega,m.out,Fb j⟩,AW⟩
  ·by_cases af:O=1
   ·subst af
    cases ic
    ·have m:Hid (Ar ((pre++[x]).map (Gg ∘ Ur.net))=3):=by show _=_;rw[y.out,g.out];simp
     clear y g
     gi_wp2_with (first | (refine⟨trivial,?_⟩;gi_at_call 161;refine(CallsIn.inRound l (callsIn_wide.2 (G _ AW))).mono ?_;rintro e U ⟨rfl,d⟩;have j:=(d.cell (p:=(AK (w.heap.size+1) 0)) r).trans f;have L:=(d.frozen (p:=(AK (w.heap.size+1) 0)) r).trans H;obtain⟨ig,gu⟩:=Ef d) | (refine⟨trivial,?_⟩;gi_at_call 145;refine(CallsIn.inRound l (callsIn_wide.2 (N _ AW))).mono ?_;rintro e W3 ⟨rfl,E⟩;have c3:=(E.cell (p:=(AK (w.heap.size+1) 0)) (Be j)).trans j;have z3:=(E.frozen (p:=(AK (w.heap.size+1) 0)) (Be j)).trans L))
     exact⟨by(repeat (first | with_reducible exact KeepsFrom.refl _ _ | with_reducible refine Xq ?_ _ _ | with_reducible refine Si ?_ | with_reducible refine Ol ?_ _ | with_reducible refine Sj ?_ Br)),⟨rfl,3,by omega,m.out,Fb c3⟩,AW⟩
    ·have m:Hid (Ar ((pre++[x]).map (Gg ∘ Ur.net))=0):=by show _=_;rw[y.out,g.out];simp
     clear y g
     gi_wp2_with (first | (refine⟨trivial,?_⟩;gi_at_call 161;refine(CallsIn.inRound l (callsIn_wide.2 (G _ AW))).mono ?_;rintro e U ⟨rfl,d⟩;have j:=(d.cell (p:=(AK (w.heap.size+1) 0)) r).trans f;have L:=(d.frozen (p:=(AK (w.heap.size+1) 0)) r).trans H;obtain⟨ig,gu⟩:=Ef d) | (refine⟨trivial,?_⟩;gi_at_call 145;refine(CallsIn.inRound l (callsIn_wide.2 (N _ AW))).mono ?_;rintro e W3 ⟨rfl,E⟩;have c3:=(E.cell (p:=(AK (w.heap.size+1) 0)) (Be j)).trans j;have z3:=(E.frozen (p:=(AK (w.heap.size+1) 0)) (Be j)).trans L))
     exact⟨by(repeat (first | with_reducible exact KeepsFrom.refl _ _ | with_reducible refine Xq ?_ _ _ | with_reducible refine Si ?_ | with_reducible refine Ol ?_ _ | with_reducible refine Sj ?_ Br)),Wu (Wu (Kept.refl _ _ _) hn d) hn E,⟨⟨⟨c3,z3⟩,AW⟩,by rw[m.out];omega,by have:=d.size;have:=E.size;omega⟩⟩
   ·have aE:(O==1)=false:=by rw[CS];exact af
    have m:Hid (Ar ((pre++[x]).map (Gg ∘ Ur.net))=0):=by show _=_;rw[y.out,g.out];simp[af]
    clear y g
    gi_wp2_with (refine⟨trivial,?_⟩;gi_at_call 161;refine(CallsIn.inRound l (callsIn_wide.2 (G _ AW))).mono ?_;rintro e U ⟨rfl,d⟩;have j:=(d.cell (p:=(AK (w.heap.size+1) 0)) r).trans f;have L:=(d.frozen (p:=(AK (w.heap.size+1) 0)) r).trans H;obtain⟨ig,gu⟩:=Ef d)
    refine⟨trivial,?_⟩
    gi_wp2
    exact⟨by(repeat (first | with_reducible exact KeepsFrom.refl _ _ | with_reducible refine Xq ?_ _ _ | with_reducible refine Si ?_ | with_reducible refine Ol ?_ _ | with_reducible refine Sj ?_ Br)),Wu (Kept.refl _ _ _) hn d,⟨⟨⟨j,L⟩,AW⟩,by rw[m.out];omega,by have:=d.size;omega⟩⟩
 case done=>
  rintro D ys W hD hS ⟨⟨⟨f,H⟩,J⟩,F,_⟩ u;rw[<-FI,hS,yE.out] at F;have m:Hid (errOf z=.nilIface):=by show _=_;unfold errOf;rw[if_neg F]
  gi_wp2
  have ab:=(KeepsOthers.setCell W (AK (w.heap.size+1) 0) .nilIface).same D _ u rfl;refine⟨AU, .inl ⟨_,_,rfl,run_takeDeferred ab,?_⟩⟩;have ac:=cell_kept (Fb f (v:=.nilIface)) (grownBy_putObj' _ D (.deferred none)) (λag e=>by cases e;exact⟨_,ab,rfl⟩);refine⟨.nilIface,?_,by rw[m.out],(J.setCell (p:=(AK (w.heap.size+1) 0)) AU _).trans (belowK_b (w:=w) (CG _) _ D _ _ AQ ab rfl rfl)⟩;simp[results,Tryz.f153,go_sem,ac]
 case stop=>
  rintro D c pre W hD al ⟨⟨rfl,k,hk,ae,f⟩,J⟩ u;have zZ:z=k:=by
   rw[<-FI] at ae;have:=Yi Gg al (by rw[ae];exact hk)
   rw[yE.out,ae] at this;exact this
  have m:Hid (errOf z=.iface 144 (AB k)):=by show _=_;unfold errOf;rw[zZ,if_pos hk]
  gi_wp2
  refine⟨AU, .inl ⟨_,_,rfl,run_takeDeferred u,?_⟩⟩;have ac:=cell_kept f (grownBy_putObj' _ D (.deferred none)) (λag e=>by cases e;exact⟨_,u,rfl⟩);refine⟨.iface 144 (AB k),?_,by rw[m.out],J.trans (belowK_b (w:=w) (CG _) W D _ _ AQ u rfl rfl)⟩;simp[results,Tryz.f153,go_sem,ac]
end
section
open Go.RowKit Go.Sort Go.BigFrame
theorem Oi {c:Int}(h:0<c):errOf c=.iface 144 (AB c):=by unfold errOf;rw[if_pos h]
theorem Rh {c:Int}(h:¬0<c):errOf c=.nilIface:=by unfold errOf;rw[if_neg h]
theorem za {p:Prop}(h:p:=by
 clear hbs;obtain⟨m,hm,rfl,hcb,hB⟩:=hrel;have eU:=AV hcb;clear hcb;have hz:w.heap.size<wr.heap.size:=by have:=hB.size;simp at this;omega
 have c0:wr.cell? (AL w 0)=some (AB n.kind):=A3 hB;have f0:wr.frozen? (AL w 0)=false:=A5 hB;have c1:wr.cell? (AL w 1)=some (AB n.one.op):=A3 hB;have f1:wr.frozen? (AL w 1)=false:=A5 hB;have c2:wr.cell? (AL w 2)=some (AE p0 n.one.args.length r0):=A3 hB;have f2:wr.frozen? (AL w 2)=false:=A5 hB;have c3:wr.cell? (AL w 3)=some (AE p1 n.kids.length r1):=A3 hB;have f3:wr.frozen? (AL w 3)=false:=A5 hB;have c4:wr.cell? (AL w 4)=some (AE p2 lc r2):=A3 hB;have f4:wr.frozen? (AL w 4)=false:=A5 hB;have c5:wr.cell? (AL w 5)=some (AE p3 lk r3):=A3 hB;have f5:wr.frozen? (AL w 5)=false:=A5 hB;have hbw:=(Aa _ _).trans (hB.mono AQ);by_cases hlt:m<lc
 ·have hlt':m<coils.length:=by have:=xZ.out;omega
  obtain⟨b,o,rfl,hbl,hce⟩:=yI m hlt';obtain⟨x0,jy,x1,kJ⟩:=hce.below hbw hbl;have gK:=yH _ (CN hlt');have HI:=AV (λW hW=>XJ coils[m].op jy coils[m].args W (HRR W (hbw.trans (hW.mono hbw.size))) (kJ.below hW) gK.2.2 (by have:=gK.2.1;omega));have HD:Hid (Dv coils=(!Gt coils[m].op coils[m].args || Dv (coils.drop (m+1)))):=by show _=_;rw[eU.out,Xa _ _ hlt']
  obtain⟨ic,hic⟩:=AA (Gt coils[m].op coils[m].args)
  rw[<-hic] at HI HD;obtain⟨y,hy⟩:=AA (coils[m])
  rw[<-hy] at HI x0;obtain⟨t1,t2,g1,_⟩:=kJ;rw[<-hy] at g1;subst g1;clear hic hy hce gK eU;cases ic
  ·have HX:Hid (R=3):=by show _=_;rw[HR2.out,HD.out];rfl
   go_wp2_with (go_at_call 146;refine(HI _ AW).mono ?_;rintro e w3 ⟨rfl,hb3⟩)
   go_ret;exact⟨by rw[HX.out,Oi AQ];rfl,AW⟩
  ·have HX:Hid (Dv coils=Dv (coils.drop (m+1))):=by show _=_;rw[HD.out];rfl
   go_wp2_with (go_at_call 146;refine(HI _ AW).mono ?_;rintro e w3 ⟨rfl,hb3⟩)
   exact⟨⟨m+1,AQ,by go_num,HX.out,hB.trans (((Aa _ _).trans (hb3.mono AU)).mono hz)⟩,by simp[intOf];omega⟩
 ·have hcb0:Dv coils=false:=by rw[eU.out,GR (by have:=xZ.out;omega)];rfl
  have HR3:Hid (R=if lc=0/\lk=0 then 5 else 0):=by show _=_;rw[HR2.out,hcb0];rfl
  clear hcb0 eU HR2;by_cases hl0:lc=0/\lk=0
  ·have HX:Hid (R=5):=by show _=_;rw[HR3.out,if_pos hl0]
   obtain⟨rfl,rfl⟩:=hl0;clear HR3
   go_wp2
   go_ret;exact⟨by rw[HX.out,Oi AQ];rfl,AW⟩
  ·have HX:Hid (R=0):=by show _=_;rw[HR3.out,if_neg hl0]
   clear HR3;have hcase:((lc:Int)==0)=false\/((lk:Int)==0)=false:=by
    by_cases h:lc=0
    ·right;rw[CS];omega
    ·left;rw[CS];omega
   clear hl0;rcases hcase with hq | hq
   ·go_wp2
    all_goals go_ret
    all_goals exact⟨by rw[HX.out,Rh AQ];rfl,AW⟩
   ·go_wp2
    all_goals go_ret
    all_goals exact⟨by rw[HX.out,Rh AQ];rfl,AW⟩):p:=h
theorem Azv (x:Stil.B8)(q k N G:Value)(w:World)(hr:Et w)(A:Dk w q x.net.one.args)(t:Gn w k x.net.kids)(K:Iz w N x.coils)(J:Fe w G x.kids)(F:Dh x):
  Calls prog 141 #[.agg #[AB x.net.kind,AB x.net.one.op,q,k,N,G]] w (AN w (errOf (Cj x))):=by
 obtain⟨n,coils,kids⟩:=x;simp only at A t K J ⊢;obtain⟨l,Q,C,H,_⟩:=Il F;simp only at l Q C H;have r:=AV (λW hW=>U4 n q k W (A.below hW) (t.below hW) l);have f:=AV (λW hW=>Azu n q k W (hr.below hW) (A.below hW) (t.below hW) l);have yH:=AV C;have HRR:=AV (λW (h:AO w W)=>hr.below h);obtain⟨p0,r0,rfl,_⟩:=A;obtain⟨p1,r1,rfl,_⟩:=t;obtain⟨p2,r2,rfl,S⟩:=K;obtain⟨p3,r3,rfl,_⟩:=J;have yI:=AV S;have d:Hid (Cj ⟨n,coils,kids⟩=if Am n=false/\0<Ai n then Ai n else if Dv coils then 3 else if coils.length=0/\kids.length=0 then 5 else 0):=rfl;obtain⟨D,I⟩:=AA (Am n)
 obtain⟨B,O⟩:=AA (Ai n)
 rw[<-I] at r d;rw[<-O] at f d;obtain⟨lc,E⟩:=AA coils.length
 obtain⟨lk,P⟩:=AA kids.length
 have xZ:=AV E;rw[<-E] at Q d ⊢;rw[<-P] at H d ⊢;obtain⟨R,M⟩:=AA (Cj ⟨n,coils,kids⟩)
 rw[<-M] at d ⊢;clear F l C S I O E P M hr;cases D
 ·by_cases g:0<B
  ·have HX:Hid (R=B):=by show _=_;rw[d.out];simp[g]
   rw[Oi g] at f;go_enter func141,ntmps141
   go_wp2_with (first | (go_at_call 83;refine(r _ AW).mono ?_;rintro e u ⟨rfl,c⟩;obtain⟨s,j⟩:=Ef c) | (go_at_call 153;refine(f _ AW).mono ?_;rintro e L ⟨rfl,z⟩))
   go_ret;exact⟨by rw[HX.out,Oi g];rfl,AW⟩
  ·have HR2:Hid (R=if Dv coils then 3 else if lc=0/\lk=0 then 5 else 0):=by show _=_;rw[d.out];simp[g]
   rw[Rh g] at f;clear d;go_enter func141,ntmps141
   go_wp2_with (first | (go_at_call 83;refine(r _ AW).mono ?_;rintro e u ⟨rfl,c⟩;obtain⟨s,j⟩:=Ef c;have U:w.heap.size<u.heap.size:=CB AU c.size) | (go_at_call 153;refine(f _ AW).mono ?_;rintro e L ⟨rfl,z⟩;obtain⟨T,V⟩:=Ef z))
   have hbs:Below (w.heap.size+1) (w.alloc (.cells #[AB n.kind,AB n.one.op,AE p0 n.one.args.length r0,AE p1 n.kids.length r1,AE p2 lc r2,AE p3 lk r3] 62)) L:=by
    have h1:=c.size;simp only[World.size_alloc] at c h1;exact c.trans (z.mono h1)
   clear c z s j T V U;go_loopw [19] (λi wr=>∃m:Nat,m<=lc/\i=AB m/\Dv coils=Dv (coils.drop m)/\Below (w.heap.size+1) (w.alloc (.cells #[AB n.kind,AB n.one.op,AE p0 n.one.args.length r0,AE p1 n.kids.length r1,AE p2 lc r2,AE p3 lk r3] 62)) wr) (λi _=>lc - (intOf i).toNat)
   case atStart=>exact⟨0,AQ,rfl,rfl,hbs⟩
   case round=>exact za
 ·have HR2:Hid (R=if Dv coils then 3 else if lc=0/\lk=0 then 5 else 0):=by show _=_;rw[d.out];simp
  clear d f;go_enter func141,ntmps141
  go_wp2_with (go_at_call 83;refine(r _ AW).mono ?_;rintro e u ⟨rfl,c⟩;obtain⟨s,j⟩:=Ef c)
  have hbs:Below (w.heap.size+1) (w.alloc (.cells #[AB n.kind,AB n.one.op,AE p0 n.one.args.length r0,AE p1 n.kids.length r1,AE p2 lc r2,AE p3 lk r3] 62)) u:=by simpa using c
  clear c s j;go_loopw [19] (λi wr=>∃m:Nat,m<=lc/\i=AB m/\Dv coils=Dv (coils.drop m)/\Below (w.heap.size+1) (w.alloc (.cells #[AB n.kind,AB n.one.op,AE p0 n.one.args.length r0,AE p1 n.kids.length r1,AE p2 lc r2,AE p3 lk r3] 62)) wr) (λi _=>lc - (intOf i).toNat)
  case atStart=>exact⟨0,AQ,rfl,rfl,hbs⟩
  case round=>exact za
end
section
open Go.RowKit Go.Sort Go.BigFrame Go.Shelf
attribute [local go_sem] Oper.semAt_some
theorem Avc (x:Stil.B8)(K I cv X:Value)(w:World)(hr:Et w)(N:Dk w K x.net.one.args)(L:Gn w I x.net.kids)(Z:Iz w cv x.coils)(Y:Fe w X x.kids)(hf:Dh x):
  Calls prog 117 #[.agg #[AB x.net.kind,AB x.net.one.op,K,I,cv,X]] w (AN w (errOf (Fg x))):=by
 have C:Hid (Fg x=if Am x.net then 4 else Cf x):=rfl;have yE:Hid (Ar ((Ed [x]).map Cj)=Cf x):=by
  show _=_
  rw[<-TU];simp[Ed]
 have bD:=AV (λW hW=>U4 x.net K I W (N.below hW) (L.below hW) (Il hf).1);have ax:=AV (λW (h:AO w W)=>hr.below h);have dR:Hid (Dk w K x.net.one.args/\Gn w I x.net.kids/\Iz w cv x.coils/\Fe w X x.kids):=⟨N,L,Z,Y⟩
 obtain⟨Q,S,rfl,_⟩:=N;obtain⟨J,M,rfl,_⟩:=L;obtain⟨U,r2,rfl,_⟩:=Z;obtain⟨p3,r3,rfl,_⟩:=Y;obtain⟨R,hR⟩:=AA (Fg x)
 obtain⟨z,hz⟩:=AA (Cf x)
 obtain⟨nn,al⟩:=AA (Am x.net)
 rw[<-hR] at C ⊢;rw[<-hz] at C yE;rw[<-al] at C bD;clear hR hz al;refine(callsIn_wide (n:=9)).1 ?_;cases nn
 ·have o:Hid (R=z):=by show _=_;rw[C.out];simp
  clear C;refine callsIn_of_wp_marks func117 rfl trivial ?_ rfl;simp only[ntmps117,Cd,CH,CO,Nat.reduceAdd,Nat.reduceSub,DN,DO,DL,DR,C5,C4]
  gi_wp2_with (first | (refine⟨trivial,?_⟩;gi_at_call 83;refine(callsIn_wide.2 (bD _ AW)).mono ?_;rintro e d ⟨rfl,q⟩;obtain⟨ao,ar⟩:=Ef q) | (refine⟨trivial,?_⟩;gi_at_call 139;refine(callsIn_wide.2 (WB _ _ _ _)).mono ?_;rintro e f ⟨A,aa,rfl,au,aC,hA,l,hb⟩))
  have aF:AO w d:=AW;have aj:AO w f:=AW;have h9:=q.size;have h1:=hb.size;simp only[World.size_alloc] at au aC h9 h1;have x0:f.cell? (AL d 0)=some (AB x.net.kind):=A3 hb;have x1:f.cell? (AL d 1)=some (AB x.net.one.op):=A3 hb;have x2:f.cell? (AL d 2)=some (AE Q x.net.one.args.length S):=A3 hb;have x3:f.cell? (AL d 3)=some (AE J x.net.kids.length M):=A3 hb;have x4:f.cell? (AL d 4)=some (AE U x.coils.length r2):=A3 hb;have x5:f.cell? (AL d 5)=some (AE p3 x.kids.length r3):=A3 hb;have aw:f.cell? (AK (w.heap.size+1) 0)=some .nilIface:=by
   rw[hb.cell (p:=(AK (w.heap.size+1) 0)) Ax,(Aa d _).cell (p:=(AK (w.heap.size+1) 0)) (show w.heap.size+1<d.heap.size by omega),q.cell (p:=(AK (w.heap.size+1) 0)) AU];simp[go_sem]
  have ap:f.frozen? (AK (w.heap.size+1) 0)=false:=by
   rw[hb.frozen (p:=(AK (w.heap.size+1) 0)) Ax,(Aa d _).frozen (p:=(AK (w.heap.size+1) 0)) (show w.heap.size+1<d.heap.size by omega),q.frozen (p:=(AK (w.heap.size+1) 0)) AU];simp[go_sem]
  have aD:w.heap.size+2<=f.heap.size:=AQ
  have fC:Pz w (λ_=>False) f (AE (some (AL d 0)) 1 1) [x]:=by
   refine⟨_,1,rfl,λi hi=>⟨d.heap.size,0,rfl,(λh=>h),AE Q x.net.one.args.length S,AE J x.net.kids.length M,AE U x.coils.length r2,AE p3 x.kids.length r3,?_⟩⟩;obtain rfl:i=0:=by simpa using hi
   simp only[FG,CV,EP];exact⟨x0,x1,x2,x3,x4,x5,dR.out⟩
  have HS:Hid (SeqStopsK Fence.wide (9 - 1) prog 157 #[AH aa,AH A] (λy:Sr w Dh=>#[Value.agg #[AB y.arm.net.kind,AB y.arm.net.one.op,y.av,y.nv,y.cv,y.kv]]) (Kept w.heap.size (λ_=>False)) (λys=>ys.map Sr.arm=Ed [x]) (λpre=>pre.map Sr.arm<+:Ed [x]) (Ed [x]).length f):=
   YP w Dh (λy hy=>⟨(Il hy).2.2.2.1,(Il hy).2.2.2.2⟩) (λ_=>False) (λ_ h=>h.elim) 0 A aa (λ_ h=>h.elim) (λh=>h) (λh=>h) [x] AU (by simpa using hf) _ f aj (DI _) fC hA l _
  clear fC hb q ao ar x0 x1 x2 x3 x4 x5 hA l hf;refine wpIn_rangeFunc_ownH rfl AY (gf:=157) (lb:=#[AH aa,AH A]) rfl trivial (enters_of func157 AX rfl)
   HS Kept.t (Kept.b AQ) (Below.refl _ _) (λ_=>rfl)
   (λpre W=>((W.cell? (AK (w.heap.size+1) 0)=some .nilIface/\W.frozen? (AK (w.heap.size+1) 0)=false)/\AO w W)/\¬0<Ar (pre.map (Cj ∘ Sr.arm))/\f.heap.size<=W.heap.size)
   (λc pre W=>(c=.ret/\∃k,0<k/\Ar (pre.map (Cj ∘ Sr.arm))=k/\W.cell? (AK (w.heap.size+1) 0)=some (.iface 144 (AB k)))/\AO w W)
   (OwnFrom.and (OwnFrom.and (Own.from (λs A ab row g m hr=>⟨cell_kept g.1 m hr,(frozen_kept g.1 m hr).trans g.2⟩) _) (ownFrom_below (CG _) AQ)) (OwnFrom.and (ownFrom_pure _ _) (λ_ _ _ _ g m _=>CJ g m.size)))
   (λc=>OwnFrom.and (Own.from (λs A ab row g m hr=>⟨g.1,g.2.elim λt ht=>⟨t,ht.1,ht.2.1,cell_kept ht.2.2 m hr⟩⟩) _) (ownFrom_below (CG _) AQ))
   ⟨⟨⟨aw,ap⟩,aj⟩,by simp[Ar],CG _⟩
   (λy a' W=>∃u,f.heap.size<=u/\NC W u y.arm.net.kind y.arm.net.one.op y.av y.nv y.cv y.kv/\a'={tmps:=#[.agg #[AB x.net.kind,AB x.net.one.op,AE Q x.net.one.args.length S,AE J x.net.kids.length M,AE U x.coils.length r2,AE p3 x.kids.length r3],AH w.heap.size,AH (w.heap.size+1),AH u,undef,AH w.heap.size, .agg #[AB x.net.kind,AB x.net.one.op,AE Q x.net.one.args.length S,AE J x.net.kids.length M], .bool false,undef, .agg #[AB x.net.kind,AB x.net.one.op,AE Q x.net.one.args.length S,AE J x.net.kids.length M,AE U x.coils.length r2,AE p3 x.kids.length r3],AE (some (AL d 0)) 1 1, .func (.func 157) #[] #[AH aa,AH A], .agg #[AB y.arm.net.kind,AB y.arm.net.one.op,y.av,y.nv,y.cv,y.kv],undef,undef,undef,undef,undef],defers:=[]})
   (λy a' s A ab row g m hr=>g.elim λu hx=>⟨u,hx.1,XG (β:=Unit) u _ _ _ _ _ _ s A ab row hx.2.1 m (λag e=>(hr ag e).2),hx.2.2⟩) ?assign ?body ?done ?stop
  case assign=>
   rintro ah pre y W KK ⟨⟨⟨j,T⟩,E⟩,B,aB⟩ aA;obtain⟨y,K,I,cv,X,N,L,Z,Y,aG⟩:=y;obtain⟨q0,s0,rfl,_⟩:=id N;obtain⟨q1,s1,rfl,_⟩:=id L;obtain⟨q2,s2,rfl,_⟩:=id Z;obtain⟨q3,s3,rfl,_⟩:=id Y
   gi_wp2
   exact aA _ _ ((KeepsOthers.alloc _ _).from _) (Kept.of_below E.size (Aa _ _)) ⟨⟨⟨Px _ j,Qe _ j T⟩,AW⟩,B,by simp;omega⟩ ⟨W.heap.size,AQ,⟨by simp[go_sem],by simp[go_sem],by simp[go_sem],by simp[go_sem],by simp[go_sem],by simp[go_sem]⟩,rfl⟩
  case body=>
   rintro ah pre y a' W az _ ⟨⟨⟨j,T⟩,E⟩,B,aB⟩ ⟨u,aE,⟨y0,y1,y2,y3,y4,y5⟩,rfl⟩ ay;have V:=Be j;have hn:w.heap.size<=W.heap.size:=AQ
   have F:=AV (λak G=>Azv y.arm y.av y.nv y.cv y.kv ak (ax ak G) (y.hav.below G) (y.hnv.below G) (y.hcv.below G) (y.hkv.below G) y.mem);have O:Hid (Ar ((pre++[y]).map (Cj ∘ Sr.arm))=if 0<Cj y.arm then Cj y.arm else 0):=TL _ _ _ B;obtain⟨q0,s0,e0,_⟩:=id y.hav;obtain⟨q1,s1,e1,_⟩:=id y.hnv;obtain⟨q2,s2,e2,_⟩:=id y.hcv;obtain⟨q3,s3,e3,_⟩:=id y.hkv;rw[e0,e1,e2,e3] at F;rw[e0] at y2;rw[e1] at y3;rw[e2] at y4;rw[e3] at y5;obtain⟨P,ai⟩:=AA (Cj y.arm)
   rw[<-ai] at F O;clear ai e0 e1 e2 e3 ay az B;by_cases H:0<P
   ·rw[Oi H] at F
    have o:Hid (Ar ((pre++[y]).map (Cj ∘ Sr.arm))=P):=by show _=_;rw[O.out,if_pos H]
    clear O
    gi_wp2_with (refine⟨trivial,?_⟩;gi_at_call 141;refine(CallsIn.inRound ah (callsIn_wide.2 (F _ AW))).mono ?_;rintro e W2 ⟨rfl,r⟩;have c2:=(r.cell (p:=(AK (w.heap.size+1) 0)) V).trans j;have z2:=(r.frozen (p:=(AK (w.heap.size+1) 0)) V).trans T)
    exact⟨by(repeat (first | with_reducible exact KeepsFrom.refl _ _ | with_reducible refine Xq ?_ _ _ | with_reducible refine Si ?_ | with_reducible refine Ol ?_ _ | with_reducible refine Sj ?_ Br)),⟨rfl,P,H,o.out,Fb c2⟩,AW⟩
   ·rw[Rh H] at F
    have o:Hid (Ar ((pre++[y]).map (Cj ∘ Sr.arm))=0):=by show _=_;rw[O.out,if_neg H]
    clear O
    gi_wp2_with (refine⟨trivial,?_⟩;gi_at_call 141;refine(CallsIn.inRound ah (callsIn_wide.2 (F _ AW))).mono ?_;rintro e W2 ⟨rfl,r⟩;have c2:=(r.cell (p:=(AK (w.heap.size+1) 0)) V).trans j;have z2:=(r.frozen (p:=(AK (w.heap.size+1) 0)) V).trans T)
    exact⟨by(repeat (first | with_reducible exact KeepsFrom.refl _ _ | with_reducible refine Xq ?_ _ _ | with_reducible refine Si ?_ | with_reducible refine Ol ?_ _ | with_reducible refine Sj ?_ Br)),Wu (Kept.refl _ _ _) hn r,⟨⟨⟨c2,z2⟩,AW⟩,by rw[o.out];omega,by have:=r.size;omega⟩⟩
  case done=>
   rintro D ys W hD hS ⟨⟨⟨j,T⟩,E⟩,B,_⟩ l;rw[<-FI,hS,yE.out] at B;have HY:Hid (errOf R=.nilIface):=by show _=_;rw[o.out,Rh B]
   gi_wp2
   have ac:=(KeepsOthers.setCell W (AK (w.heap.size+1) 0) .nilIface).same D _ l rfl;refine⟨AU, .inl ⟨_,_,rfl,run_takeDeferred ac,?_⟩⟩;have ae:=cell_kept (Fb j (v:=.nilIface)) (grownBy_putObj' _ D (.deferred none)) (λag e=>by cases e;exact⟨_,ac,rfl⟩);refine⟨.nilIface,?_,by rw[HY.out],(E.setCell (p:=(AK (w.heap.size+1) 0)) AU _).trans (belowK_b (w:=w) (CG _) _ D _ _ AQ ac rfl rfl)⟩;simp[results,Tryz.f117,go_sem,ae]
  case stop=>
   rintro D c pre W hD an ⟨⟨rfl,k,hk,af,j⟩,E⟩ l;have zZ:z=k:=by
    rw[<-FI] at af;have:=Yi Cj an (by rw[af];exact hk)
    rw[yE.out,af] at this;exact this
   have HY:Hid (errOf R=.iface 144 (AB k)):=by show _=_;rw[o.out,zZ,Oi hk]
   gi_wp2
   refine⟨AU, .inl ⟨_,_,rfl,run_takeDeferred l,?_⟩⟩;have ae:=cell_kept j (grownBy_putObj' _ D (.deferred none)) (λag e=>by cases e;exact⟨_,l,rfl⟩);refine⟨.iface 144 (AB k),?_,by rw[HY.out],E.trans (belowK_b (w:=w) (CG _) W D _ _ AQ l rfl rfl)⟩;simp[results,Tryz.f117,go_sem,ae]
 ·have o:Hid (R=4):=by show _=_;rw[C.out];simp
  clear C;refine callsIn_of_wp_marks func117 rfl trivial ?_ rfl;simp only[ntmps117,Cd,CH,CO,Nat.reduceAdd,Nat.reduceSub,DN,DO,DL,DR,C5,C4]
  gi_wp2_with (refine⟨trivial,?_⟩;gi_at_call 83;refine(callsIn_wide.2 (bD _ AW)).mono ?_;rintro e d ⟨rfl,q⟩;have c9:d.cell? (AK (w.heap.size+1) 0)=some .nilIface:=(A3 q);have z9:d.frozen? (AK (w.heap.size+1) 0)=false:=(A5 q))
  refine⟨.iface 144 (AB 4),?_,by rw[o.out,Oi AQ],AW⟩;simp[results,Tryz.f117,go_sem,c9]
end
open Go.RowKit Go.Sort Go.BigFrame
def lookOf (many:Bool)(p:Int × Nat):Value:=if many then .iface 144 (AB 1) else if 0<p.1 then .iface 147 (.agg #[AB p.2, .iface 144 (AB p.1)]) else .nilIface
theorem yD (l:List Stil.B8)(E:Value)(w:World)(hr:Et w)(f:Fe w E l)(hl:l.length<=1048576)(N:Bz l<=1000000000)(K:∀x∈l,Dh x):
  Calls prog 76 #[E] w (AN w (lookOf (decide (40<l.length\/400<Bz l)) (Ep l 0))):=by
 have v:=AV (λW c=>va l E 400 W (f.below c) K hl N AQ AQ);have HF:=AV K;have ac:=AV (λW (h:AO w W)=>hr.below h);obtain⟨a,cap,rfl,hc⟩:=f;have HC:=AV hc;obtain⟨d,G⟩:=AA l.length
 obtain⟨z,P⟩:=AA (Bz l)
 have T:=AV G;rw[<-G] at hl v ⊢;rw[<-P] at v N ⊢;obtain⟨Q,B⟩:=AA (Ep l 0)
 rw[<-B];have u:=AV B;obtain⟨R,H⟩:=AA (lookOf (decide (40<d\/400<z)) Q)
 rw[<-H];have m:=AV H;clear hc K G P B H hr;by_cases h1:40<d
 ·have g:Hid (R=.iface 144 (AB 1)):=by show _=_;rw[m.out,JH (.inl h1)];rfl
  clear m u;go_enter func76,ntmps76
  go_wp2
  go_ret;exact⟨by rw[g.out];rfl,AW⟩
 ·by_cases h2:400<z
  ·have g:Hid (R=.iface 144 (AB 1)):=by show _=_;rw[m.out,JH (.inr h2)];rfl
   clear m u;go_enter func76,ntmps76
   go_wp2_with (go_at_call 116;refine(v _ AW).mono ?_;rintro e V ⟨r,rfl,_,L,ab,X⟩;have af:=L AQ;clear L)
   go_ret;exact⟨by rw[g.out];rfl,AW⟩
  ·have g:Hid (R=lookOf false Q):=by show _=_;rw[m.out,FW AQ]
   clear m;go_enter func76,ntmps76
   go_wp2_with (go_at_call 116;refine(v _ AW).mono ?_;rintro e V ⟨r,rfl,ae,_,ab,X⟩;have af:¬(400:Int)<r:=AQ;clear ae)
   have Z:AO w V:=AW;clear X;go_loopw [17] (λi wr=>∃j:Nat,j<=d/\i=AB j/\Q=Ep (l.drop j) j/\AO w wr) (λi _=>d - (intOf i).toNat)
   case atStart=>exact⟨0,AQ,rfl,u.out,Z⟩
   case round=>
    clear Z u;obtain⟨j,hj,rfl,U,y⟩:=hrel;have I:=AV U;clear U;by_cases ah:j<d
    ·have A:j<l.length:=by have:=T.out;omega
     obtain⟨b,o,rfl,ag,Y⟩:=HC j A;obtain⟨S,zY,zX,x4,x5,F,f⟩:=(Xm.below y _ _ _ Y ag).open;obtain⟨x0,x1,uV,zW,x2,x3,D,C⟩:=S.open;have k:=AV (λW c=>Avc l[j] uV zW zY zX W (ac W (y.trans (c.mono y.size))) (D.below c) (C.below c) (F.below c) (f.below c) (HF _ (CN A)));have J:Hid (Q=if 0<Fg l[j] then(Fg l[j],j) else Ep (l.drop (j+1)) (j+1)):=by show _=_;rw[I.out,Z7 l j A]
     obtain⟨s,M⟩:=AA (Fg l[j])
     obtain⟨x,O⟩:=AA (l[j])
     rw[<-M] at k J;rw[<-O] at k x0 x1 D C F f;obtain⟨t0,u0,rfl,_⟩:=D;obtain⟨t1,u1,rfl,_⟩:=C;obtain⟨t2,u2,rfl,_⟩:=F;obtain⟨t3,u3,rfl,_⟩:=f;clear M O Y S I;by_cases q:0<s
     ·have t:Hid (R=.iface 147 (.agg #[AB j, .iface 144 (AB s)])):=by show _=_;rw[g.out,J.out,if_pos q];unfold lookOf;simp[q]
      rw[Oi q] at k
      go_wp2_with (go_at_call 117;refine(k _ AW).mono ?_;rintro e w4 ⟨rfl,aa⟩)
      go_ret;exact⟨by rw[t.out];rfl,AW⟩
     ·have t:Hid (Q=Ep (l.drop (j+1)) (j+1)):=by show _=_;rw[J.out,if_neg q]
      rw[Rh q] at k
      go_wp2_with (go_at_call 117;refine(k _ AW).mono ?_;rintro e w4 ⟨rfl,aa⟩)
      exact⟨⟨j+1,AQ,by go_num,t.out,AW⟩,by simp[intOf];omega⟩
    ·have t:Hid (R=.nilIface):=by show _=_;rw[g.out,I.out,GR (by have:=T.out;omega)];rfl
     go_wp2
     go_ret;exact⟨by rw[t.out];rfl,y⟩
