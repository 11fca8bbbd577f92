import Derived.Test.YtmnnkedjoecehaaGreatDoorGO
import Derived.Test.YtmnnkedjoecehaaGreatDoorGJ
set_option maxHeartbeats 4000000
set_option maxRecDepth 100000
namespace Go.Proofs.YtmnnkedjoecehaaGreatDoor
open Tryz Stil
section
open Go.RowKit Go.Sort Go.BigFrame Go.Shelf
attribute [local go_sem] Oper.semAt_some
def errOf (c:Int):Value:=if 0<c then .iface 130 (AB c) else .nilIface
theorem zp {p:Prop}(h:p:=by
 go_enter func155,ntmps155
 go_wp2_with (go_at_call 128;refine(HC _).mono ?_;rintro e w1 ⟨rfl,hb⟩;obtain⟨hc,hfz⟩:=En hb)
 all_goals go_ret
 all_goals exact⟨Ae (by rw[HX.out];simp),AW⟩):p:=h
theorem Az5 (n:Stil.B8)(l j:Value)(w:World)(y:Dj w l n.one.args)(A:Gg w j n.kids)(v:Dz n):
  Calls prog 155 #[.agg #[AB n.kind,AB n.one.op,l,j]] w (AN w (.bool (IZ n))):=by
 obtain⟨_,o,C,_⟩:=D5 v;have x:=o.2.1;obtain⟨z,B,rfl,_⟩:=y;obtain⟨F,D,rfl,_⟩:=A;clear v o;have HC:Hid (∀W,Calls prog 128 #[.agg #[AB n.one.op,AE z n.one.args.length B]] W (AN W (.bool (n.one.op==0 && n.one.args.length==0)))):=λW=>NV _ _ _ _ _ AQ
 have a:Hid (IZ n=if n.kind=1 then decide (n.kids.length=0) else if n.kind=2\/n.kind=3 then(n.one.op==0 && n.one.args.length==0) && decide (0<n.kids.length) else if n.kind=4 then(n.one.op==0 && n.one.args.length==0) && decide (n.kids.length=1) else false):=rfl;obtain⟨b,u⟩:=AA ((n.one.op==0 && n.one.args.length==0))
 rw[<-u] at a HC;obtain⟨c,q⟩:=AA n.kids.length
 obtain⟨t,s⟩:=AA n.one.args.length
 rw[<-q] at a C ⊢;rw[<-s] at HC x ⊢;obtain⟨k,r⟩:=AA n.kind
 rw[<-r] at a ⊢;obtain⟨R,m⟩:=AA (IZ n)
 rw[<-m] at a ⊢;clear u q s r m;by_cases f:k=1
 ·subst f
  have HX:Hid (R=((c:Int)==0)):=by show _=_;rw[a.out,if_pos rfl,DY];simp
  clear a HC;go_enter func155,ntmps155
  go_wp2
  all_goals go_ret
  all_goals exact⟨Ae Bt,AW⟩
 ·have H:(k==1)=false:=by rw[CS];exact f
  by_cases d:k=2\/k=3
  ·have HX:Hid (R=(b && decide ((0:Int)<(c:Int)))):=by show _=_;rw[a.out,if_neg f,if_pos d,DY];simp
   clear a;cases b
   ·rcases d with rfl | rfl
    ·exact zp
    ·exact zp
   ·rcases d with rfl | rfl
    ·exact zp
    ·exact zp
  ·have I:(k==2)=false:=by rw[CS];omega
   have G:(k==3)=false:=by rw[CS];omega
   by_cases i:k=4
   ·subst i
    have HX:Hid (R=(b && ((c:Int)==1))):=by show _=_;rw[a.out,if_neg f,if_neg d,if_pos rfl,DY];simp;omega
    clear a;cases b
    ·exact zp
    ·exact zp
   ·have E:(k==4)=false:=by rw[CS];exact i
    have HX:Hid (R=false):=by show _=_;rw[a.out,if_neg f,if_neg d,if_neg i]
    clear a HC;go_enter func155,ntmps155
    go_wp2
    all_goals go_ret
    all_goals exact⟨Ae Bt,AW⟩
end
section
open Go.RowKit Go.Sort Go.BigFrame Go.Shelf
def S0 (W:World)(B:Nat)(k op:Int)(a n:Value):Prop:=W.cell? ⟨B,0,none⟩=some (AB k)/\W.cell? ⟨B,1,none⟩=some (AB op)/\W.cell? ⟨B,2,none⟩=some a/\W.cell? ⟨B,3,none⟩=some n
theorem xG {β:Type}(B:Nat)(k op:Int)(a n:Value):Own (λ(_:β) W=>S0 W B k op a n):=λ_ _ _ _ b c d=>
 ⟨cell_kept b.1 c d,cell_kept b.2.1 c d,cell_kept b.2.2.1 c d,cell_kept b.2.2.2 c d⟩
end
section
open Go.RowKit Go.Sort Go.BigFrame Go.Shelf
variable {α:Type}
attribute [local go_sem] Oper.semAt_some
theorem Yz (f:α->Int){a b:List α}(h:a<+:b)(d:0<Az (a.map f)):Az (b.map f)=Az (a.map f):=by
 obtain⟨c,rfl⟩:=h;rw[CU,Ur,if_pos d]
theorem T0 (f:α->Int)(l:List α)(x:α)(h:¬0<Az (l.map f)):Az ((l++[x]).map f)=if 0<f x then f x else 0:=by
 rw[CU,Ur,if_neg h];simp[Az]
theorem Az2 (n:Stil.B8)(av R:Value)(w:World)(hr:Ep w)(O:Dj w av n.one.args)(N:Gg w R n.kids)(hf:Dz n):
  Calls prog 144 #[.agg #[AB n.kind,AB n.one.op,av,R]] w (AN w (errOf (Aj n))):=by
 have yQ:Hid (Az ((Ey [n]).map F6)=Aj n):=by show _=_;rw[VQ,sg]
 have an:=La n;obtain⟨z,hz⟩:=AA (Aj n)
 rw[<-hz] at yQ an ⊢;clear hz;refine(callsIn_wide (n:=9)).1 ?_;have eY:=AV O;have vY:=AV N;have ax:=AV (λW (h:AO w W)=>hr.below h);obtain⟨p0,U,rfl,_⟩:=O;obtain⟨p1,r1,rfl,_⟩:=N;refine callsIn_of_wp_marks func144 rfl trivial ?_ rfl;simp only[ntmps144,Cd,CH,CP,Nat.reduceAdd,Nat.reduceSub,DK,DL,DJ,DN,C5,C4]
 gi_wp2_with (refine⟨trivial,?_⟩;gi_at_call 143;refine(callsIn_wide.2 (XO _ _ _ _ _ _ _ _ _)).mono ?_;rintro e q ⟨b,A,K,rfl,az,aw,ay,hA,u,x0,x1,x2,x3,hb⟩)
 simp only[World.size_alloc] at az aw ay;have ah:AO w q:=AW;have ao:q.cell? (AK (w.heap.size+1) 0)=some .nilIface:=A0 hb;have ap:q.frozen? (AK (w.heap.size+1) 0)=false:=A5 hb;have aC:w.heap.size+2<=q.heap.size:=by have:=hb.size;simp at this;omega
 have fF:Q8 w (λ_=>False) q (AE (some (AK b 0)) 1 1) [n]:=by
  refine⟨_,1,rfl,λi hi=>⟨b,0,rfl,(λh=>h),AE p0 n.one.args.length U,AE p1 n.kids.length r1,?_⟩⟩;obtain rfl:i=0:=by simpa using hi
  simp only[FQ,CV,EO];exact⟨x0,x1,x2,x3,eY.out,vY.out⟩
 have HS:Hid (SeqStopsK Fence.wide (9 - 1) prog 159 #[AH K,AH A] (λx:U1 w Dz=>#[Value.agg #[AB x.net.kind,AB x.net.one.op,x.av,x.kv]]) (Kept w.heap.size (λ_=>False)) (λys=>ys.map U1.net=Ey [n]) (λpre=>pre.map U1.net<+:Ey [n]) (Ey [n]).length q):=
  YL w Dz (λx L=>⟨(D5 L).2.2.1,(D5 L).2.2.2⟩) (λ_=>False) (λ_ h=>h.elim) 0 A K (λ_ h=>h.elim) (λh=>h) (λh=>h) [n] AU (by simpa using hf) _ q ah (DZ _) fF hA u _
 clear fF hb x0 x1 x2 x3 hA u hf;refine wpIn_rangeFunc_ownH rfl AY (gf:=159) (lb:=#[AH K,AH A]) rfl trivial (enters_of func159 AX rfl)
  HS Kept.t (Kept.b AQ) (Below.refl _ _) (λ_=>rfl)
  (λpre W=>((W.cell? (AK (w.heap.size+1) 0)=some .nilIface/\W.frozen? (AK (w.heap.size+1) 0)=false)/\AO w W)/\¬0<Az (pre.map (F6 ∘ U1.net))/\q.heap.size<=W.heap.size)
  (λc pre W=>(c=.ret/\∃k,0<k/\Az (pre.map (F6 ∘ U1.net))=k/\W.cell? (AK (w.heap.size+1) 0)=some (.iface 130 (AB k)))/\AO w W)
  (OwnFrom.and (OwnFrom.and (Own.from (λs A aa row o r hr=>⟨cell_kept o.1 r hr,(frozen_kept o.1 r hr).trans o.2⟩) _) (ownFrom_below (CG _) AQ)) (OwnFrom.and (ownFrom_pure _ _) (λ_ _ _ _ o r _=>CM o r.size)))
  (λc=>OwnFrom.and (Own.from (λs A aa row o r hr=>⟨o.1,o.2.elim λt ht=>⟨t,ht.1,ht.2.1,cell_kept ht.2.2 r hr⟩⟩) _) (ownFrom_below (CG _) AQ))
  ⟨⟨⟨ao,ap⟩,ah⟩,by simp[Az],CG _⟩
  (λx V W=>∃C,q.heap.size<=C/\S0 W C x.net.kind x.net.one.op x.av x.kv/\V={tmps:=#[.agg #[AB n.kind,AB n.one.op,AE p0 n.one.args.length U,AE p1 n.kids.length r1],AH w.heap.size,AH (w.heap.size+1),AH C, .agg #[AB n.kind,AB n.one.op,AE p0 n.one.args.length U,AE p1 n.kids.length r1], .func (.func 159) #[] #[AH K,AH A], .agg #[AB x.net.kind,AB x.net.one.op,x.av,x.kv],undef,undef,undef,undef,undef,undef,undef,undef,undef,undef,undef,undef,undef,undef],defers:=[]})
  (λx V s A aa row o r hr=>o.elim λC L=>⟨C,L.1,xG (β:=Unit) C _ _ _ _ s A aa row L.2.1 r (λac e=>(hr ac e).2),L.2.2⟩) ?assign ?body ?done ?stop
 case assign=>
  rintro l pre x W KK ⟨⟨⟨f,G⟩,I⟩,H,ak⟩ aA;obtain⟨x,av,R,O,N,aB⟩:=x;obtain⟨q0,s0,rfl,_⟩:=id O;obtain⟨q1,s1,rfl,_⟩:=id N
  gi_wp2
  exact aA _ _ ((KeepsOthers.alloc _ _).from _) (Kept.of_below I.size (Aa _ _)) ⟨⟨⟨P8 _ f,Qm _ f G⟩,AW⟩,H,by simp;omega⟩ ⟨W.heap.size,AQ,⟨by simp[go_sem],by simp[go_sem],by simp[go_sem],by simp[go_sem]⟩,rfl⟩
 case body=>
  rintro l pre x V W au _ ⟨⟨⟨f,G⟩,I⟩,H,ak⟩ ⟨C,aE,⟨y0,y1,y2,y3⟩,rfl⟩ al;have y:=Bf f;have xU:=Bf y0;have S:w.heap.size<=W.heap.size:=AQ
  have F:=AV (λX M=>Az5 x.net x.av x.kv X (x.hav.below M) (x.hkv.below M) x.mem);have Q:=AV (λX M=>VZ x.net.one.op x.av x.net.one.args X (ax X M) (x.hav.below M) (D5 x.mem).2.1.2.2 (by have:=(D5 x.mem).2.1.2.1;omega));have B:Hid (Az ((pre++[x]).map (F6 ∘ U1.net))=if 0<F6 x.net then F6 x.net else 0):=T0 _ _ _ H;have j:Hid (F6 x.net=if IZ x.net then(if x.net.kind=1 then(if Dw x.net.one.op x.net.one.args then 0 else 3) else 0) else 2):=rfl;obtain⟨q0,s0,e0,_⟩:=id x.hav;obtain⟨q1,s1,e1,_⟩:=id x.hkv;rw[e0,e1] at F;rw[e0] at Q y2;rw[e1] at y3;obtain⟨Y,ag⟩:=AA (IZ x.net)
  obtain⟨ic,ai⟩:=AA (Dw x.net.one.op x.net.one.args)
  obtain⟨P,aj⟩:=AA x.net.kind
  rw[<-ag] at F j;rw[<-ai] at Q j;rw[<-aj] at F j y0;clear ag ai aj e0 e1 al au H;cases Y
  ·have g:Hid (Az ((pre++[x]).map (F6 ∘ U1.net))=2):=by show _=_;rw[B.out,j.out];simp
   clear B j
   gi_wp2_with (refine⟨trivial,?_⟩;gi_at_call 155;refine(CallsIn.inRound l (callsIn_wide.2 (F _ AW))).mono ?_;rintro e T ⟨rfl,d⟩;have m:=(d.cell (p:=(AK (w.heap.size+1) 0)) y).trans f;have J:=(d.frozen (p:=(AK (w.heap.size+1) 0)) y).trans G)
   exact⟨by(repeat (first | with_reducible exact KeepsFrom.refl _ _ | with_reducible refine X8 ?_ _ _ | with_reducible refine Sz ?_ | with_reducible refine Ou ?_ _ | with_reducible refine S9 ?_ Bw)),⟨rfl,2,by omega,g.out,Fb m⟩,AW⟩
  ·by_cases ae:P=1
   ·subst ae
    cases ic
    ·have g:Hid (Az ((pre++[x]).map (F6 ∘ U1.net))=3):=by show _=_;rw[B.out,j.out];simp
     clear B j
     gi_wp2_with (first | (refine⟨trivial,?_⟩;gi_at_call 155;refine(CallsIn.inRound l (callsIn_wide.2 (F _ AW))).mono ?_;rintro e T ⟨rfl,d⟩;have m:=(d.cell (p:=(AK (w.heap.size+1) 0)) y).trans f;have J:=(d.frozen (p:=(AK (w.heap.size+1) 0)) y).trans G;obtain⟨jf,jd⟩:=En d) | (refine⟨trivial,?_⟩;gi_at_call 149;refine(CallsIn.inRound l (callsIn_wide.2 (Q _ AW))).mono ?_;rintro e W3 ⟨rfl,E⟩;have c3:=(E.cell (p:=(AK (w.heap.size+1) 0)) (Bf m)).trans m;have z3:=(E.frozen (p:=(AK (w.heap.size+1) 0)) (Bf m)).trans J))
     exact⟨by(repeat (first | with_reducible exact KeepsFrom.refl _ _ | with_reducible refine X8 ?_ _ _ | with_reducible refine Sz ?_ | with_reducible refine Ou ?_ _ | with_reducible refine S9 ?_ Bw)),⟨rfl,3,by omega,g.out,Fb c3⟩,AW⟩
    ·have g:Hid (Az ((pre++[x]).map (F6 ∘ U1.net))=0):=by show _=_;rw[B.out,j.out];simp
     clear B j
     gi_wp2_with (first | (refine⟨trivial,?_⟩;gi_at_call 155;refine(CallsIn.inRound l (callsIn_wide.2 (F _ AW))).mono ?_;rintro e T ⟨rfl,d⟩;have m:=(d.cell (p:=(AK (w.heap.size+1) 0)) y).trans f;have J:=(d.frozen (p:=(AK (w.heap.size+1) 0)) y).trans G;obtain⟨jf,jd⟩:=En d) | (refine⟨trivial,?_⟩;gi_at_call 149;refine(CallsIn.inRound l (callsIn_wide.2 (Q _ AW))).mono ?_;rintro e W3 ⟨rfl,E⟩;have c3:=(E.cell (p:=(AK (w.heap.size+1) 0)) (Bf m)).trans m;have z3:=(E.frozen (p:=(AK (w.heap.size+1) 0)) (Bf m)).trans J))
     exact⟨by(repeat (first | with_reducible exact KeepsFrom.refl _ _ | with_reducible refine X8 ?_ _ _ | with_reducible refine Sz ?_ | with_reducible refine Ou ?_ _ | with_reducible refine S9 ?_ Bw)),Xl (Xl (Kept.refl _ _ _) S d) S E,⟨⟨⟨c3,z3⟩,AW⟩,by rw[g.out];omega,by have:=d.size;have:=E.size;omega⟩⟩
   ·have aD:(P==1)=false:=by rw[CS];exact ae
    have g:Hid (Az ((pre++[x]).map (F6 ∘ U1.net))=0):=by show _=_;rw[B.out,j.out];simp[ae]
    clear B j
    gi_wp2_with (refine⟨trivial,?_⟩;gi_at_call 155;refine(CallsIn.inRound l (callsIn_wide.2 (F _ AW))).mono ?_;rintro e T ⟨rfl,d⟩;have m:=(d.cell (p:=(AK (w.heap.size+1) 0)) y).trans f;have J:=(d.frozen (p:=(AK (w.heap.size+1) 0)) y).trans G;obtain⟨jf,jd⟩:=En d)
    refine⟨trivial,?_⟩
    gi_wp2
    exact⟨by(repeat (first | with_reducible exact KeepsFrom.refl _ _ | with_reducible refine X8 ?_ _ _ | with_reducible refine Sz ?_ | with_reducible refine Ou ?_ _ | with_reducible refine S9 ?_ Bw)),Xl (Kept.refl _ _ _) S d,⟨⟨⟨m,J⟩,AW⟩,by rw[g.out];omega,by have:=d.size;omega⟩⟩
 case done=>
  rintro D ys W hD hS ⟨⟨⟨f,G⟩,I⟩,H,_⟩ u;rw[<-EZ,hS,yQ.out] at H;have g:Hid (errOf z=.nilIface):=by show _=_;unfold errOf;rw[if_neg H]
  gi_wp2
  have Z:=(KeepsOthers.setCell W (AK (w.heap.size+1) 0) .nilIface).same D _ u rfl;refine⟨AU, .inl ⟨_,_,rfl,run_takeDeferred Z,?_⟩⟩;have ab:=cell_kept (Fb f (v:=.nilIface)) (grownBy_putObj' _ D (.deferred none)) (λac e=>by cases e;exact⟨_,Z,rfl⟩);refine⟨.nilIface,?_,by rw[g.out],(I.setCell (p:=(AK (w.heap.size+1) 0)) AU _).trans (belowK_b (w:=w) (CG _) _ D _ _ AQ Z rfl rfl)⟩;simp[results,Tryz.f144,go_sem,ab]
 case stop=>
  rintro D c pre W hD ar ⟨⟨rfl,k,hk,af,f⟩,I⟩ u;have bn:z=k:=by
   rw[<-EZ] at af;have:=Yz F6 ar (by rw[af];exact hk)
   rw[yQ.out,af] at this;exact this
  have g:Hid (errOf z=.iface 130 (AB k)):=by show _=_;unfold errOf;rw[bn,if_pos hk]
  gi_wp2
  refine⟨AU, .inl ⟨_,_,rfl,run_takeDeferred u,?_⟩⟩;have ab:=cell_kept f (grownBy_putObj' _ D (.deferred none)) (λac e=>by cases e;exact⟨_,u,rfl⟩);refine⟨.iface 130 (AB k),?_,by rw[g.out],I.trans (belowK_b (w:=w) (CG _) W D _ _ AQ u rfl rfl)⟩;simp[results,Tryz.f144,go_sem,ab]
end
section
open Go.RowKit Go.Sort Go.BigFrame
theorem Om {c:Int}(h:0<c):errOf c=.iface 130 (AB c):=by unfold errOf;rw[if_pos h]
theorem Rq {c:Int}(h:¬0<c):errOf c=.nilIface:=by unfold errOf;rw[if_neg h]
theorem za {p:Prop}(h:p:=by
 clear hbs;obtain⟨m,hm,rfl,hcb,hB⟩:=hrel;have eX:=AV hcb;clear hcb;have hz:w.heap.size<wr.heap.size:=by have:=hB.size;simp at this;omega
 have c0:wr.cell? (AL w 0)=some (AB n.kind):=A0 hB;have f0:wr.frozen? (AL w 0)=false:=A5 hB;have c1:wr.cell? (AL w 1)=some (AB n.one.op):=A0 hB;have f1:wr.frozen? (AL w 1)=false:=A5 hB;have c2:wr.cell? (AL w 2)=some (AE p0 n.one.args.length r0):=A0 hB;have f2:wr.frozen? (AL w 2)=false:=A5 hB;have c3:wr.cell? (AL w 3)=some (AE p1 n.kids.length r1):=A0 hB;have f3:wr.frozen? (AL w 3)=false:=A5 hB;have c4:wr.cell? (AL w 4)=some (AE p2 lc r2):=A0 hB;have f4:wr.frozen? (AL w 4)=false:=A5 hB;have c5:wr.cell? (AL w 5)=some (AE p3 lk r3):=A0 hB;have f5:wr.frozen? (AL w 5)=false:=A5 hB;have hbw:=(Aa _ _).trans (hB.mono AQ);by_cases hlt:m<lc
 ·have hlt':m<coils.length:=by have:=yL.out;omega
  obtain⟨b,o,rfl,hbl,hce⟩:=yU m hlt';obtain⟨x0,mg,x1,kM⟩:=hce.below hbw hbl;have gQ:=yT _ (CJ hlt');have HI:=AV (λW hW=>Xs coils[m].op mg coils[m].args W (HRR W (hbw.trans (hW.mono hbw.size))) (kM.below hW) gQ.2.2 (by have:=gQ.2.1;omega));have HD:Hid (Dy coils=(!Gj coils[m].op coils[m].args || Dy (coils.drop (m+1)))):=by show _=_;rw[eX.out,Xq _ _ hlt']
  obtain⟨ic,hic⟩:=AA (Gj coils[m].op coils[m].args)
  rw[<-hic] at HI HD;obtain⟨y,hy⟩:=AA (coils[m])
  rw[<-hy] at HI x0;obtain⟨t1,t2,g1,_⟩:=kM;rw[<-hy] at g1;subst g1;clear hic hy hce gQ eX;cases ic
  ·have HX:Hid (R=3):=by show _=_;rw[HR2.out,HD.out];rfl
   go_wp2_with (go_at_call 145;refine(HI _ AW).mono ?_;rintro e w3 ⟨rfl,hb3⟩)
   go_ret;exact⟨by rw[HX.out,Om AQ];rfl,AW⟩
  ·have HX:Hid (Dy coils=Dy (coils.drop (m+1))):=by show _=_;rw[HD.out];rfl
   go_wp2_with (go_at_call 145;refine(HI _ AW).mono ?_;rintro e w3 ⟨rfl,hb3⟩)
   exact⟨⟨m+1,AQ,by go_num,HX.out,hB.trans (((Aa _ _).trans (hb3.mono AU)).mono hz)⟩,by simp[intOf];omega⟩
 ·have hcb0:Dy coils=false:=by rw[eX.out,F4 (by have:=yL.out;omega)];rfl
  have HR3:Hid (R=if lc=0/\lk=0 then 5 else 0):=by show _=_;rw[HR2.out,hcb0];rfl
  clear hcb0 eX HR2;by_cases hl0:lc=0/\lk=0
  ·have HX:Hid (R=5):=by show _=_;rw[HR3.out,if_pos hl0]
   obtain⟨rfl,rfl⟩:=hl0;clear HR3
   go_wp2
   go_ret;exact⟨by rw[HX.out,Om AQ];rfl,AW⟩
  ·have HX:Hid (R=0):=by show _=_;rw[HR3.out,if_neg hl0]
   clear HR3;have hcase:((lc:Int)==0)=false\/((lk:Int)==0)=false:=by
    by_cases h:lc=0
    ·right;rw[CS];omega
    ·left;rw[CS];omega
   clear hl0;rcases hcase with hq | hq
   ·go_wp2
    all_goals go_ret
    all_goals exact⟨by rw[HX.out,Rq AQ];rfl,AW⟩
   ·go_wp2
    all_goals go_ret
    all_goals exact⟨by rw[HX.out,Rq AQ];rfl,AW⟩):p:=h
theorem Az3 (x:Stil.B9)(k s L F:Value)(w:World)(hr:Ep w)(j:Dj w k x.net.one.args)(r:Gg w s x.net.kids)(N:Ir w L x.coils)(J:E8 w F x.kids)(P:Dh x):
  Calls prog 125 #[.agg #[AB x.net.kind,AB x.net.one.op,k,s,L,F]] w (AN w (errOf (Dc x))):=by
 obtain⟨n,coils,kids⟩:=x;simp only at j r N J ⊢;obtain⟨q,I,C,G,_⟩:=Ih P;simp only at q I C G;have A:=AV (λW hW=>Ve n k s W (j.below hW) (r.below hW) q);have f:=AV (λW hW=>Az2 n k s W (hr.below hW) (j.below hW) (r.below hW) q);have yT:=AV C;have HRR:=AV (λW (h:AO w W)=>hr.below h);obtain⟨p0,r0,rfl,_⟩:=j;obtain⟨p1,r1,rfl,_⟩:=r;obtain⟨p2,r2,rfl,O⟩:=N;obtain⟨p3,r3,rfl,_⟩:=J;have yU:=AV O;have d:Hid (Dc ⟨n,coils,kids⟩=if Am n=false/\0<Aj n then Aj n else if Dy coils then 3 else if coils.length=0/\kids.length=0 then 5 else 0):=rfl;obtain⟨D,M⟩:=AA (Am n)
 obtain⟨B,S⟩:=AA (Aj n)
 rw[<-M] at A d;rw[<-S] at f d;obtain⟨lc,E⟩:=AA coils.length
 obtain⟨lk,K⟩:=AA kids.length
 have yL:=AV E;rw[<-E] at I d ⊢;rw[<-K] at G d ⊢;obtain⟨R,H⟩:=AA (Dc ⟨n,coils,kids⟩)
 rw[<-H] at d ⊢;clear P q C O M S E K H hr;cases D
 ·by_cases g:0<B
  ·have HX:Hid (R=B):=by show _=_;rw[d.out];simp[g]
   rw[Om g] at f;go_enter func125,ntmps125
   go_wp2_with (first | (go_at_call 91;refine(A _ AW).mono ?_;rintro e u ⟨rfl,c⟩;obtain⟨l,t⟩:=En c) | (go_at_call 144;refine(f _ AW).mono ?_;rintro e Q ⟨rfl,z⟩))
   go_ret;exact⟨by rw[HX.out,Om g];rfl,AW⟩
  ·have HR2:Hid (R=if Dy coils then 3 else if lc=0/\lk=0 then 5 else 0):=by show _=_;rw[d.out];simp[g]
   rw[Rq g] at f;clear d;go_enter func125,ntmps125
   go_wp2_with (first | (go_at_call 91;refine(A _ AW).mono ?_;rintro e u ⟨rfl,c⟩;obtain⟨l,t⟩:=En c;have T:w.heap.size<u.heap.size:=CB AU c.size) | (go_at_call 144;refine(f _ AW).mono ?_;rintro e Q ⟨rfl,z⟩;obtain⟨V,X⟩:=En z))
   have hbs:Below (w.heap.size+1) (w.alloc (.cells #[AB n.kind,AB n.one.op,AE p0 n.one.args.length r0,AE p1 n.kids.length r1,AE p2 lc r2,AE p3 lk r3] 62)) Q:=by
    have h1:=c.size;simp only[World.size_alloc] at c h1;exact c.trans (z.mono h1)
   clear c z l t V X T;go_loopw [19] (λi wr=>∃m:Nat,m<=lc/\i=AB m/\Dy coils=Dy (coils.drop m)/\Below (w.heap.size+1) (w.alloc (.cells #[AB n.kind,AB n.one.op,AE p0 n.one.args.length r0,AE p1 n.kids.length r1,AE p2 lc r2,AE p3 lk r3] 62)) wr) (λi _=>lc - (intOf i).toNat)
   case atStart=>exact⟨0,AQ,rfl,rfl,hbs⟩
   case round=>exact za
 ·have HR2:Hid (R=if Dy coils then 3 else if lc=0/\lk=0 then 5 else 0):=by show _=_;rw[d.out];simp
  clear d f;go_enter func125,ntmps125
  go_wp2_with (go_at_call 91;refine(A _ AW).mono ?_;rintro e u ⟨rfl,c⟩;obtain⟨l,t⟩:=En c)
  have hbs:Below (w.heap.size+1) (w.alloc (.cells #[AB n.kind,AB n.one.op,AE p0 n.one.args.length r0,AE p1 n.kids.length r1,AE p2 lc r2,AE p3 lk r3] 62)) u:=by simpa using c
  clear c l t;go_loopw [19] (λi wr=>∃m:Nat,m<=lc/\i=AB m/\Dy coils=Dy (coils.drop m)/\Below (w.heap.size+1) (w.alloc (.cells #[AB n.kind,AB n.one.op,AE p0 n.one.args.length r0,AE p1 n.kids.length r1,AE p2 lc r2,AE p3 lk r3] 62)) wr) (λi _=>lc - (intOf i).toNat)
  case atStart=>exact⟨0,AQ,rfl,rfl,hbs⟩
  case round=>exact za
end
section
open Go.RowKit Go.Sort Go.BigFrame Go.Shelf
attribute [local go_sem] Oper.semAt_some
theorem Avk (x:Stil.B9)(P U cv V:Value)(w:World)(hr:Ep w)(O:Dj w P x.net.one.args)(L:Gg w U x.net.kids)(aa:Ir w cv x.coils)(X:E8 w V x.kids)(hf:Dh x):
  Calls prog 87 #[.agg #[AB x.net.kind,AB x.net.one.op,P,U,cv,V]] w (AN w (errOf (D9 x))):=by
 have u:Hid (D9 x=if Am x.net then 4 else Cm x):=rfl;have yQ:Hid (Az ((Ef [x]).map Dc)=Cm x):=by
  show _=_
  rw[<-UY];simp[Ef]
 have bC:=AV (λW hW=>Ve x.net P U W (O.below hW) (L.below hW) (Ih hf).1);have ay:=AV (λW (h:AO w W)=>hr.below h);have eY:Hid (Dj w P x.net.one.args/\Gg w U x.net.kids/\Ir w cv x.coils/\E8 w V x.kids):=⟨O,L,aa,X⟩
 obtain⟨J,H,rfl,_⟩:=O;obtain⟨M,Q,rfl,_⟩:=L;obtain⟨p2,Z,rfl,_⟩:=aa;obtain⟨p3,r3,rfl,_⟩:=X;obtain⟨R,hR⟩:=AA (D9 x)
 obtain⟨z,hz⟩:=AA (Cm x)
 obtain⟨nn,al⟩:=AA (Am x.net)
 rw[<-hR] at u ⊢;rw[<-hz] at u yQ;rw[<-al] at u bC;clear hR hz al;refine(callsIn_wide (n:=9)).1 ?_;cases nn
 ·have q:Hid (R=z):=by show _=_;rw[u.out];simp
  clear u;refine callsIn_of_wp_marks func87 rfl trivial ?_ rfl;simp only[ntmps87,Cd,CH,CP,Nat.reduceAdd,Nat.reduceSub,DK,DL,DJ,DN,C5,C4]
  gi_wp2_with (first | (refine⟨trivial,?_⟩;gi_at_call 91;refine(callsIn_wide.2 (bC _ AW)).mono ?_;rintro e d ⟨rfl,o⟩;obtain⟨az,aB⟩:=En o) | (refine⟨trivial,?_⟩;gi_at_call 123;refine(callsIn_wide.2 (XP _ _ _ _)).mono ?_;rintro e f ⟨A,K,rfl,ax,aC,hA,m,hb⟩))
  have aF:AO w d:=AW;have ai:AO w f:=AW;have h9:=o.size;have h1:=hb.size;simp only[World.size_alloc] at ax aC h9 h1;have x0:f.cell? (AL d 0)=some (AB x.net.kind):=A0 hb;have x1:f.cell? (AL d 1)=some (AB x.net.one.op):=A0 hb;have x2:f.cell? (AL d 2)=some (AE J x.net.one.args.length H):=A0 hb;have x3:f.cell? (AL d 3)=some (AE M x.net.kids.length Q):=A0 hb;have x4:f.cell? (AL d 4)=some (AE p2 x.coils.length Z):=A0 hb;have x5:f.cell? (AL d 5)=some (AE p3 x.kids.length r3):=A0 hb;have ap:f.cell? (AK (w.heap.size+1) 0)=some .nilIface:=by
   rw[hb.cell (p:=(AK (w.heap.size+1) 0)) Ax,(Aa d _).cell (p:=(AK (w.heap.size+1) 0)) (show w.heap.size+1<d.heap.size by omega),o.cell (p:=(AK (w.heap.size+1) 0)) AU];simp[go_sem]
  have ar:f.frozen? (AK (w.heap.size+1) 0)=false:=by
   rw[hb.frozen (p:=(AK (w.heap.size+1) 0)) Ax,(Aa d _).frozen (p:=(AK (w.heap.size+1) 0)) (show w.heap.size+1<d.heap.size by omega),o.frozen (p:=(AK (w.heap.size+1) 0)) AU];simp[go_sem]
  have aE:w.heap.size+2<=f.heap.size:=AQ
  have fF:Qa w (λ_=>False) f (AE (some (AL d 0)) 1 1) [x]:=by
   refine⟨_,1,rfl,λi hi=>⟨d.heap.size,0,rfl,(λh=>h),AE J x.net.one.args.length H,AE M x.net.kids.length Q,AE p2 x.coils.length Z,AE p3 x.kids.length r3,?_⟩⟩;obtain rfl:i=0:=by simpa using hi
   simp only[FQ,CV,EO];exact⟨x0,x1,x2,x3,x4,x5,eY.out⟩
  have HS:Hid (SeqStopsK Fence.wide (9 - 1) prog 151 #[AH K,AH A] (λy:Ti w Dh=>#[Value.agg #[AB y.arm.net.kind,AB y.arm.net.one.op,y.av,y.nv,y.cv,y.kv]]) (Kept w.heap.size (λ_=>False)) (λys=>ys.map Ti.arm=Ef [x]) (λpre=>pre.map Ti.arm<+:Ef [x]) (Ef [x]).length f):=
   YM w Dh (λy hy=>⟨(Ih hy).2.2.2.1,(Ih hy).2.2.2.2⟩) (λ_=>False) (λ_ h=>h.elim) 0 A K (λ_ h=>h.elim) (λh=>h) (λh=>h) [x] AU (by simpa using hf) _ f ai (DZ _) fF hA m _
  clear fF hb o az aB x0 x1 x2 x3 x4 x5 hA m hf;refine wpIn_rangeFunc_ownH rfl AY (gf:=151) (lb:=#[AH K,AH A]) rfl trivial (enters_of func151 AX rfl)
   HS Kept.t (Kept.b AQ) (Below.refl _ _) (λ_=>rfl)
   (λpre W=>((W.cell? (AK (w.heap.size+1) 0)=some .nilIface/\W.frozen? (AK (w.heap.size+1) 0)=false)/\AO w W)/\¬0<Az (pre.map (Dc ∘ Ti.arm))/\f.heap.size<=W.heap.size)
   (λc pre W=>(c=.ret/\∃k,0<k/\Az (pre.map (Dc ∘ Ti.arm))=k/\W.cell? (AK (w.heap.size+1) 0)=some (.iface 130 (AB k)))/\AO w W)
   (OwnFrom.and (OwnFrom.and (Own.from (λs A ae row g l hr=>⟨cell_kept g.1 l hr,(frozen_kept g.1 l hr).trans g.2⟩) _) (ownFrom_below (CG _) AQ)) (OwnFrom.and (ownFrom_pure _ _) (λ_ _ _ _ g l _=>CM g l.size)))
   (λc=>OwnFrom.and (Own.from (λs A ae row g l hr=>⟨g.1,g.2.elim λt ht=>⟨t,ht.1,ht.2.1,cell_kept ht.2.2 l hr⟩⟩) _) (ownFrom_below (CG _) AQ))
   ⟨⟨⟨ap,ar⟩,ai⟩,by simp[Az],CG _⟩
   (λy a' W=>∃r,f.heap.size<=r/\NI W r y.arm.net.kind y.arm.net.one.op y.av y.nv y.cv y.kv/\a'={tmps:=#[.agg #[AB x.net.kind,AB x.net.one.op,AE J x.net.one.args.length H,AE M x.net.kids.length Q,AE p2 x.coils.length Z,AE p3 x.kids.length r3],AH w.heap.size,AH (w.heap.size+1),AH r,undef,AH w.heap.size, .agg #[AB x.net.kind,AB x.net.one.op,AE J x.net.one.args.length H,AE M x.net.kids.length Q], .bool false,undef, .agg #[AB x.net.kind,AB x.net.one.op,AE J x.net.one.args.length H,AE M x.net.kids.length Q,AE p2 x.coils.length Z,AE p3 x.kids.length r3],AE (some (AL d 0)) 1 1, .func (.func 151) #[] #[AH K,AH A], .agg #[AB y.arm.net.kind,AB y.arm.net.one.op,y.av,y.nv,y.cv,y.kv],undef,undef,undef,undef,undef],defers:=[]})
   (λy a' s A ae row g l hr=>g.elim λr hx=>⟨r,hx.1,W8 (β:=Unit) r _ _ _ _ _ _ s A ae row hx.2.1 l (λag e=>(hr ag e).2),hx.2.2⟩) ?assign ?body ?done ?stop
  case assign=>
   rintro ac pre y W KK ⟨⟨⟨j,T⟩,E⟩,C,an⟩ aA;obtain⟨y,P,U,cv,V,O,L,aa,X,aD⟩:=y;obtain⟨q0,s0,rfl,_⟩:=id O;obtain⟨q1,s1,rfl,_⟩:=id L;obtain⟨q2,s2,rfl,_⟩:=id aa;obtain⟨q3,s3,rfl,_⟩:=id X
   gi_wp2
   exact aA _ _ ((KeepsOthers.alloc _ _).from _) (Kept.of_below E.size (Aa _ _)) ⟨⟨⟨P8 _ j,Qm _ j T⟩,AW⟩,C,by simp;omega⟩ ⟨W.heap.size,AQ,⟨by simp[go_sem],by simp[go_sem],by simp[go_sem],by simp[go_sem],by simp[go_sem],by simp[go_sem]⟩,rfl⟩
  case body=>
   rintro ac pre y a' W aw _ ⟨⟨⟨j,T⟩,E⟩,C,an⟩ ⟨r,aG,⟨y0,y1,y2,y3,y4,y5⟩,rfl⟩ ao;have Y:=Bf j;have hn:w.heap.size<=W.heap.size:=AQ
   have F:=AV (λak G=>Az3 y.arm y.av y.nv y.cv y.kv ak (ay ak G) (y.hav.below G) (y.hnv.below G) (y.hcv.below G) (y.hkv.below G) y.mem);have N:Hid (Az ((pre++[y]).map (Dc ∘ Ti.arm))=if 0<Dc y.arm then Dc y.arm else 0):=T0 _ _ _ C;obtain⟨q0,s0,e0,_⟩:=id y.hav;obtain⟨q1,s1,e1,_⟩:=id y.hnv;obtain⟨q2,s2,e2,_⟩:=id y.hcv;obtain⟨q3,s3,e3,_⟩:=id y.hkv;rw[e0,e1,e2,e3] at F;rw[e0] at y2;rw[e1] at y3;rw[e2] at y4;rw[e3] at y5;obtain⟨S,aj⟩:=AA (Dc y.arm)
   rw[<-aj] at F N;clear aj e0 e1 e2 e3 ao aw C;by_cases I:0<S
   ·rw[Om I] at F
    have q:Hid (Az ((pre++[y]).map (Dc ∘ Ti.arm))=S):=by show _=_;rw[N.out,if_pos I]
    clear N
    gi_wp2_with (refine⟨trivial,?_⟩;gi_at_call 125;refine(CallsIn.inRound ac (callsIn_wide.2 (F _ AW))).mono ?_;rintro e W2 ⟨rfl,B⟩;have c2:=(B.cell (p:=(AK (w.heap.size+1) 0)) Y).trans j;have z2:=(B.frozen (p:=(AK (w.heap.size+1) 0)) Y).trans T)
    exact⟨by(repeat (first | with_reducible exact KeepsFrom.refl _ _ | with_reducible refine X8 ?_ _ _ | with_reducible refine Sz ?_ | with_reducible refine Ou ?_ _ | with_reducible refine S9 ?_ Bw)),⟨rfl,S,I,q.out,Fb c2⟩,AW⟩
   ·rw[Rq I] at F
    have q:Hid (Az ((pre++[y]).map (Dc ∘ Ti.arm))=0):=by show _=_;rw[N.out,if_neg I]
    clear N
    gi_wp2_with (refine⟨trivial,?_⟩;gi_at_call 125;refine(CallsIn.inRound ac (callsIn_wide.2 (F _ AW))).mono ?_;rintro e W2 ⟨rfl,B⟩;have c2:=(B.cell (p:=(AK (w.heap.size+1) 0)) Y).trans j;have z2:=(B.frozen (p:=(AK (w.heap.size+1) 0)) Y).trans T)
    exact⟨by(repeat (first | with_reducible exact KeepsFrom.refl _ _ | with_reducible refine X8 ?_ _ _ | with_reducible refine Sz ?_ | with_reducible refine Ou ?_ _ | with_reducible refine S9 ?_ Bw)),Xl (Kept.refl _ _ _) hn B,⟨⟨⟨c2,z2⟩,AW⟩,by rw[q.out];omega,by have:=B.size;omega⟩⟩
  case done=>
   rintro D ys W hD hS ⟨⟨⟨j,T⟩,E⟩,C,_⟩ m;rw[<-EZ,hS,yQ.out] at C;have HY:Hid (errOf R=.nilIface):=by show _=_;rw[q.out,Rq C]
   gi_wp2
   have ab:=(KeepsOthers.setCell W (AK (w.heap.size+1) 0) .nilIface).same D _ m rfl;refine⟨AU, .inl ⟨_,_,rfl,run_takeDeferred ab,?_⟩⟩;have af:=cell_kept (Fb j (v:=.nilIface)) (grownBy_putObj' _ D (.deferred none)) (λag e=>by cases e;exact⟨_,ab,rfl⟩);refine⟨.nilIface,?_,by rw[HY.out],(E.setCell (p:=(AK (w.heap.size+1) 0)) AU _).trans (belowK_b (w:=w) (CG _) _ D _ _ AQ ab rfl rfl)⟩;simp[results,Tryz.f87,go_sem,af]
  case stop=>
   rintro D c pre W hD au ⟨⟨rfl,k,hk,ah,j⟩,E⟩ m;have bn:z=k:=by
    rw[<-EZ] at ah;have:=Yz Dc au (by rw[ah];exact hk)
    rw[yQ.out,ah] at this;exact this
   have HY:Hid (errOf R=.iface 130 (AB k)):=by show _=_;rw[q.out,bn,Om hk]
   gi_wp2
   refine⟨AU, .inl ⟨_,_,rfl,run_takeDeferred m,?_⟩⟩;have af:=cell_kept j (grownBy_putObj' _ D (.deferred none)) (λag e=>by cases e;exact⟨_,m,rfl⟩);refine⟨.iface 130 (AB k),?_,by rw[HY.out],E.trans (belowK_b (w:=w) (CG _) W D _ _ AQ m rfl rfl)⟩;simp[results,Tryz.f87,go_sem,af]
 ·have q:Hid (R=4):=by show _=_;rw[u.out];simp
  clear u;refine callsIn_of_wp_marks func87 rfl trivial ?_ rfl;simp only[ntmps87,Cd,CH,CP,Nat.reduceAdd,Nat.reduceSub,DK,DL,DJ,DN,C5,C4]
  gi_wp2_with (refine⟨trivial,?_⟩;gi_at_call 91;refine(callsIn_wide.2 (bC _ AW)).mono ?_;rintro e d ⟨rfl,o⟩;have c9:d.cell? (AK (w.heap.size+1) 0)=some .nilIface:=(A0 o);have z9:d.frozen? (AK (w.heap.size+1) 0)=false:=(A5 o))
  refine⟨.iface 130 (AB 4),?_,by rw[q.out,Om AQ],AW⟩;simp[results,Tryz.f87,go_sem,c9]
end
open Go.RowKit Go.Sort Go.BigFrame
def lookOf (many:Bool)(p:Int × Nat):Value:=if many then .iface 130 (AB 1) else if 0<p.1 then .iface 133 (.agg #[AB p.2, .iface 130 (AB p.1)]) else .nilIface
theorem Avc (l:List Stil.B9)(A:Value)(w:World)(hr:Ep w)(f:E8 w A l)(hl:l.length<=1048576)(N:Aw l<=1000000000)(J:∀x∈l,Dh x):
  Calls prog 53 #[A] w (AN w (lookOf (decide (40<l.length\/400<Aw l)) (Dx l 0))):=by
 have y:=AV (λW c=>vU l A 400 W (f.below c) J hl N AQ AQ);have HF:=AV J;have ae:=AV (λW (h:AO w W)=>hr.below h);obtain⟨a,cap,rfl,X⟩:=f;have HC:=AV X;obtain⟨d,E⟩:=AA l.length
 obtain⟨z,Z⟩:=AA (Aw l)
 have eF:=AV E;rw[<-E] at hl y ⊢;rw[<-Z] at y N ⊢;obtain⟨Q,D⟩:=AA (Dx l 0)
 rw[<-D];have v:=AV D;obtain⟨R,C⟩:=AA (lookOf (decide (40<d\/400<z)) Q)
 rw[<-C];have k:=AV C;clear X J E Z D C hr;by_cases h1:40<d
 ·have g:Hid (R=.iface 130 (AB 1)):=by show _=_;rw[k.out,JP (.inl h1)];rfl
  clear k v;go_enter func53,ntmps53
  go_wp2
  go_ret;exact⟨by rw[g.out];rfl,AW⟩
 ·by_cases h2:400<z
  ·have g:Hid (R=.iface 130 (AB 1)):=by show _=_;rw[k.out,JP (.inr h2)];rfl
   clear k v;go_enter func53,ntmps53
   go_wp2_with (go_at_call 86;refine(y _ AW).mono ?_;rintro e O ⟨r,rfl,_,S,ac,P⟩;have af:=S AQ;clear S)
   go_ret;exact⟨by rw[g.out];rfl,AW⟩
  ·have g:Hid (R=lookOf false Q):=by show _=_;rw[k.out,Fo AQ]
   clear k;go_enter func53,ntmps53
   go_wp2_with (go_at_call 86;refine(y _ AW).mono ?_;rintro e O ⟨r,rfl,ag,_,ac,P⟩;have af:¬(400:Int)<r:=AQ;clear ag)
   have M:AO w O:=AW;clear P;go_loopw [17] (λi wr=>∃j:Nat,j<=d/\i=AB j/\Q=Dx (l.drop j) j/\AO w wr) (λi _=>d - (intOf i).toNat)
   case atStart=>exact⟨0,AQ,rfl,v.out,M⟩
   case round=>
    clear M v;obtain⟨j,hj,rfl,T,u⟩:=hrel;have K:=AV T;clear T;by_cases ah:j<d
    ·have B:j<l.length:=by have:=eF.out;omega
     obtain⟨b,o,rfl,ab,L⟩:=HC j B;obtain⟨U,bg,bf,x4,x5,I,f⟩:=(X4.below u _ _ _ L ab).open;obtain⟨x0,x1,rO,ay,x2,x3,H,F⟩:=U.open;have m:=AV (λW c=>Avk l[j] rO ay bg bf W (ae W (u.trans (c.mono u.size))) (H.below c) (F.below c) (I.below c) (f.below c) (HF _ (CJ B)));have G:Hid (Q=if 0<D9 l[j] then(D9 l[j],j) else Dx (l.drop (j+1)) (j+1)):=by show _=_;rw[K.out,TQ l j B]
     obtain⟨s,V⟩:=AA (D9 l[j])
     obtain⟨x,Y⟩:=AA (l[j])
     rw[<-V] at m G;rw[<-Y] at m x0 x1 H F I f;obtain⟨t0,u0,rfl,_⟩:=H;obtain⟨t1,u1,rfl,_⟩:=F;obtain⟨t2,u2,rfl,_⟩:=I;obtain⟨t3,u3,rfl,_⟩:=f;clear V Y L U K;by_cases q:0<s
     ·have t:Hid (R=.iface 133 (.agg #[AB j, .iface 130 (AB s)])):=by show _=_;rw[g.out,G.out,if_pos q];unfold lookOf;simp[q]
      rw[Om q] at m
      go_wp2_with (go_at_call 87;refine(m _ AW).mono ?_;rintro e w4 ⟨rfl,aa⟩)
      go_ret;exact⟨by rw[t.out];rfl,AW⟩
     ·have t:Hid (Q=Dx (l.drop (j+1)) (j+1)):=by show _=_;rw[G.out,if_neg q]
      rw[Rq q] at m
      go_wp2_with (go_at_call 87;refine(m _ AW).mono ?_;rintro e w4 ⟨rfl,aa⟩)
      exact⟨⟨j+1,AQ,by go_num,t.out,AW⟩,by simp[intOf];omega⟩
    ·have t:Hid (R=.nilIface):=by show _=_;rw[g.out,K.out,F4 yFj];rfl
     go_wp2
     go_ret;exact⟨by rw[t.out];rfl,u⟩
