import Derived.Test.YtnpfcnolmkanfaaGreatDoorGO
import Derived.Test.YtnpfcnolmkanfaaGreatDoorGJ
set_option maxHeartbeats 4000000
set_option maxRecDepth 100000
namespace Go.Proofs.YtnpfcnolmkanfaaGreatDoor
open Tryz
open Stil
open Go.RowKit Go.Sort Go.BigFrame Go.Shelf
attribute [local go_sem] Oper.semAt_some
def errOf (c:Int):Value:=if 0<c then .iface 121 (.int .i64 c) else .nilIface
theorem zp {p:Prop}(h:p:=by
 go_enter func122,ntmps122
 go_wp2_with (go_at_call 95;refine(HC _).mono ?_;rintro e w1 ⟨rfl,hb⟩;obtain⟨hc,hfz⟩:=D7 hb)
 all_goals go_ret
 all_goals exact⟨Ap (by rw[HX.out];simp),blA⟩):p:=h
theorem Axf (n:Stil.Net)(v m:Value)(w:World)(x:Dh w v n.one.args)(z:E8 w m n.kids)(t:Dt n):
  Calls prog 122 #[.agg #[.int .i64 n.kind, .int .i64 n.one.op,v,m]] w λe i=>e=.returned (.bool (Zf n))/\Below w.heap.size w i:=by
 obtain⟨_,l,A,_⟩:=Ei t;have B:=l.2.1;obtain⟨y,C,rfl,_⟩:=x;obtain⟨I,F,rfl,_⟩:=z;clear t l;have HC:Hid (∀W,Calls prog 95 #[.agg #[.int .i64 n.one.op, .slice y n.one.args.length C]] W λe i=>e=.returned (.bool (n.one.op==0 && n.one.args.length==0))/\Below W.heap.size W i):=λW=>Aen _ _ _ _ _ omz
 have a:Hid (Zf n=if n.kind=1 then decide (n.kids.length=0) else if n.kind=2\/n.kind=3 then(n.one.op==0 && n.one.args.length==0) && decide (0<n.kids.length) else if n.kind=4 then(n.one.op==0 && n.one.args.length==0) && decide (n.kids.length=1) else false):=rfl;obtain⟨b,s⟩:∃b,b=(n.one.op==0 && n.one.args.length==0):=⟨_,rfl⟩
 rw[<-s] at a HC;obtain⟨f,u⟩:∃f,f=n.kids.length:=⟨_,rfl⟩
 obtain⟨o,r⟩:∃o,o=n.one.args.length:=⟨_,rfl⟩
 rw[<-u] at a A ⊢;rw[<-r] at HC B ⊢;obtain⟨k,q⟩:∃k,k=n.kind:=⟨_,rfl⟩
 rw[<-q] at a ⊢;obtain⟨R,j⟩:∃R,R=Zf n:=⟨_,rfl⟩
 rw[<-j] at a ⊢;clear s u r q j;by_cases c:k=1
 ·subst c
  have HX:Hid (R=((f:Int)==0)):=by show _=_;rw[a.out,if_pos rfl,A7e];simp
  clear a HC;go_enter func122,ntmps122
  go_wp2
  all_goals go_ret
  all_goals exact⟨Ap yCi,blA⟩
 ·have H:(k==1)=false:=by rw[A64];exact c
  by_cases d:k=2\/k=3
  ·have HX:Hid (R=(b && decide ((0:Int)<(f:Int)))):=by show _=_;rw[a.out,if_neg c,if_pos d,A7e];simp
   clear a;cases b
   ·rcases d with rfl | rfl
    ·exact zp
    ·exact zp
   ·rcases d with rfl | rfl
    ·exact zp
    ·exact zp
  ·have D:(k==2)=false:=by rw[A64];omega
   have G:(k==3)=false:=by rw[A64];omega
   by_cases g:k=4
   ·subst g
    have HX:Hid (R=(b && ((f:Int)==1))):=by show _=_;rw[a.out,if_neg c,if_neg d,if_pos rfl,A7e];simp;omega
    clear a;cases b
    ·exact zp
    ·exact zp
   ·have E:(k==4)=false:=by rw[A64];exact g
    have HX:Hid (R=false):=by show _=_;rw[a.out,if_neg c,if_neg d,if_neg g]
    clear a HC;go_enter func122,ntmps122
    go_wp2
    all_goals go_ret
    all_goals exact⟨Ap yCi,blA⟩
end Go.Proofs.YtnpfcnolmkanfaaGreatDoor
namespace Go.Proofs.YtnpfcnolmkanfaaGreatDoor
open Tryz
open Stil
open Go.RowKit Go.Sort Go.BigFrame Go.Shelf
def A2b (W:World)(B:Nat)(k op:Int)(a n:Value):Prop:=W.cell? ⟨B,0,none⟩=some (.int .i64 k)/\W.cell? ⟨B,1,none⟩=some (.int .i64 op)/\W.cell? ⟨B,2,none⟩=some a/\W.cell? ⟨B,3,none⟩=some n
theorem Ars {β:Type}(B:Nat)(k op:Int)(a n:Value):Own (λ(_:β) W=>A2b W B k op a n):=λ_ _ _ _ c b d=>
 ⟨cell_kept c.1 b d,cell_kept c.2.1 b d,cell_kept c.2.2.1 b d,cell_kept c.2.2.2 b d⟩
end Go.Proofs.YtnpfcnolmkanfaaGreatDoor
namespace Go.Proofs.YtnpfcnolmkanfaaGreatDoor
open Tryz
open Stil
open Go.RowKit Go.Sort Go.BigFrame Go.Shelf
variable {α:Type}
attribute [local go_sem] Oper.semAt_some
theorem Xh (f:α->Int){a b:List α}(h:a<+:b)(d:0<A8 (a.map f)):A8 (b.map f)=A8 (a.map f):=by
 obtain⟨c,rfl⟩:=h;rw[A6g,Rw,if_pos d]
theorem Aas (f:α->Int)(l:List α)(x:α)(h:¬0<A8 (l.map f)):A8 ((l++[x]).map f)=if 0<f x then f x else 0:=by
 rw[A6g,Rw,if_neg h];simp[A8]
theorem Axc (n:Stil.Net)(av kv:Value)(w:World)(hr:Em w)(O:Dh w av n.one.args)(R:E8 w kv n.kids)(hf:Dt n):
  Calls prog 116 #[.agg #[.int .i64 n.kind, .int .i64 n.one.op,av,kv]] w λe w'=>e=.returned (errOf (Az n))/\Below w.heap.size w w':=by
 have vW:Hid (A8 ((Ef [n]).map Ey)=Az n):=by show _=_;rw[Aeb,Aks]
 have az:=Jv n;obtain⟨z,hz⟩:∃z,z=Az n:=⟨_,rfl⟩
 rw[<-hz] at vW az ⊢;clear hz;refine(callsIn_wide (n:=9)).1 ?_;have iY:=hid O;have sN:=hid R;have aw:=hid (λW (h:Below w.heap.size w W)=>hr.below h);obtain⟨S,Z,rfl,_⟩:=O;obtain⟨p1,r1,rfl,_⟩:=R;refine callsIn_of_wp_marks func116 rfl trivial ?_ rfl;simp only[ntmps116,A55,A53,A54,Nat.reduceAdd,Nat.reduceSub,A6v,A6w,A61,A6y,A6t,A6s]
 gi_wp2_with (refine⟨trivial,?_⟩;gi_at_call 115;refine(callsIn_wide.2 (Ag4 _ _ _ _ _ _ _ _ _)).mono ?_;rintro e q ⟨b,A,K,rfl,ar,an,ao,hA,u,x0,x1,x2,x3,hb⟩)
 simp only[World.size_alloc] at ar an ao;have ak:Below w.heap.size w q:=blA;have ax:q.cell? ⟨w.heap.size+1,0,none⟩=some .nilIface:=clA hb;have ay:q.frozen? ⟨w.heap.size+1,0,none⟩=false:=frA hb;have aC:w.heap.size+2<=q.heap.size:=by have:=hb.size;simp at this;omega
 have eF:Pq w (λ_=>False) q (.slice (some ⟨b,0,none⟩) 1 1) [n]:=by
  refine⟨_,1,rfl,λi hi=>⟨b,0,rfl,(λh=>h), .slice S n.one.args.length Z, .slice p1 n.kids.length r1,?_⟩⟩;obtain rfl:i=0:=by simpa using hi
  simp only[A8a,A6b,A7a];exact⟨x0,x1,x2,x3,iY.out,sN.out⟩
 have HS:Hid (SeqStopsK Fence.wide (9 - 1) prog 126 #[.pointer (some ⟨K,0,none⟩), .pointer (some ⟨A,0,none⟩)] (λx:Sl w Dt=>#[Value.agg #[.int .i64 x.net.kind, .int .i64 x.net.one.op,x.av,x.kv]]) (Kept w.heap.size (λ_=>False)) (λys=>ys.map Sl.net=Ef [n]) (λpre=>pre.map Sl.net<+:Ef [n]) (Ef [n]).length q):=
  Ak1 w Dt (λx L=>⟨(Ei L).2.2.1,(Ei L).2.2.2⟩) (λ_=>False) (λ_ h=>h.elim) 0 A K (λ_ h=>h.elim) (λh=>h) (λh=>h) [n] spz (by simpa using hf) _ q ak (A7l _) eF hA u _
 clear eF hb x0 x1 x2 x3 hA u hf;refine wpIn_rangeFunc_ownH rfl dcz (gf:=126) (lb:=#[.pointer (some ⟨K,0,none⟩), .pointer (some ⟨A,0,none⟩)]) rfl trivial (enters_of func126 krz rfl)
  HS Kept.t (Kept.b omz) (Below.refl _ _) (λ_=>rfl)
  (λpre W=>((W.cell? ⟨w.heap.size+1,0,none⟩=some .nilIface/\W.frozen? ⟨w.heap.size+1,0,none⟩=false)/\Below w.heap.size w W)/\¬0<A8 (pre.map (Ey ∘ Sl.net))/\q.heap.size<=W.heap.size)
  (λc pre W=>(c=.ret/\∃k,0<k/\A8 (pre.map (Ey ∘ Sl.net))=k/\W.cell? ⟨w.heap.size+1,0,none⟩=some (.iface 121 (.int .i64 k)))/\Below w.heap.size w W)
  (OwnFrom.and (OwnFrom.and (Own.from (λs A ac row o B hr=>⟨cell_kept o.1 B hr,(frozen_kept o.1 B hr).trans o.2⟩) _) (ownFrom_below (A57 _) omz)) (OwnFrom.and (ownFrom_pure _ _) (λ_ _ _ _ o B _=>A6e o B.size)))
  (λc=>OwnFrom.and (Own.from (λs A ac row o B hr=>⟨o.1,o.2.elim λt T=>⟨t,T.1,T.2.1,cell_kept T.2.2 B hr⟩⟩) _) (ownFrom_below (A57 _) omz))
  ⟨⟨⟨ax,ay⟩,ak⟩,by simp[A8],A57 _⟩
  (λx a' W=>∃G,q.heap.size<=G/\A2b W G x.net.kind x.net.one.op x.av x.kv/\a'={tmps:=#[.agg #[.int .i64 n.kind, .int .i64 n.one.op, .slice S n.one.args.length Z, .slice p1 n.kids.length r1], .pointer (some ⟨w.heap.size,0,none⟩), .pointer (some ⟨w.heap.size+1,0,none⟩), .pointer (some ⟨G,0,none⟩), .agg #[.int .i64 n.kind, .int .i64 n.one.op, .slice S n.one.args.length Z, .slice p1 n.kids.length r1], .func (.func 126) #[] #[.pointer (some ⟨K,0,none⟩), .pointer (some ⟨A,0,none⟩)], .agg #[.int .i64 x.net.kind, .int .i64 x.net.one.op,x.av,x.kv],undef,undef,undef,undef,undef,undef,undef,undef,undef,undef,undef,undef,undef,undef],defers:=[]})
  (λx a' s A ac row o B hr=>o.elim λG L=>⟨G,L.1,Ars (β:=Unit) G _ _ _ _ s A ac row L.2.1 B (λr e=>(hr r e).2),L.2.2⟩) ?assign ?body ?done ?stop
 case assign=>
  rintro l pre x W KK ⟨⟨⟨f,I⟩,J⟩,F,al⟩ aA;obtain⟨x,av,kv,O,R,aB⟩:=x;obtain⟨q0,s0,rfl,_⟩:=id O;obtain⟨q1,s1,rfl,_⟩:=id R
  gi_wp2
  exact aA _ _ ((KeepsOthers.alloc _ _).from _) (Kept.of_below J.size (Aa _ _)) ⟨⟨⟨Ol _ f,O6 _ f I⟩,blA⟩,F,by simp;omega⟩ ⟨W.heap.size,omz,⟨by simp[go_sem],by simp[go_sem],by simp[go_sem],by simp[go_sem]⟩,rfl⟩
 case body=>
  rintro l pre x a' W yL _ ⟨⟨⟨f,I⟩,J⟩,F,al⟩ ⟨G,aD,⟨y0,y1,y2,y3⟩,rfl⟩ au;have y:=Bi f;have uQ:=Bi y0;have hn:w.heap.size<=W.heap.size:=omz
  have E:=hid (λX N=>Axf x.net x.av x.kv X (x.hav.below N) (x.hkv.below N) x.mem);have Q:=hid (λX N=>An7 x.net.one.op x.av x.net.one.args X (aw X N) (x.hav.below N) (Ei x.mem).2.1.2.2 (by have:=(Ei x.mem).2.1.2.1;omega));have C:Hid (A8 ((pre++[x]).map (Ey ∘ Sl.net))=if 0<Ey x.net then Ey x.net else 0):=Aas _ _ _ F;have g:Hid (Ey x.net=if Zf x.net then(if x.net.kind=1 then(if Ae x.net.one.op x.net.one.args then 0 else 3) else 0) else 2):=rfl;obtain⟨q0,s0,Y,_⟩:=id x.hav;obtain⟨q1,s1,V,_⟩:=id x.hkv;rw[Y,V] at E;rw[Y] at Q y2;rw[V] at y3;obtain⟨ag,ai⟩:∃ag,ag=Zf x.net:=⟨_,rfl⟩
  obtain⟨U,aj⟩:∃U,U=Ae x.net.one.op x.net.one.args:=⟨_,rfl⟩
  obtain⟨P,ah⟩:∃P,P=x.net.kind:=⟨_,rfl⟩
  rw[<-ai] at E g;rw[<-aj] at Q g;rw[<-ah] at E g y0;clear ai aj ah Y V au yL F;cases ag
  ·have j:Hid (A8 ((pre++[x]).map (Ey ∘ Sl.net))=2):=by show _=_;rw[C.out,g.out];simp
   clear C g
   gi_wp2_with (refine⟨trivial,?_⟩;gi_at_call 122;refine(CallsIn.inRound l (callsIn_wide.2 (E _ blA))).mono ?_;rintro e W2 ⟨rfl,d⟩;have m:=(d.cell (p:=⟨w.heap.size+1,0,none⟩) y).trans f;have M:=(d.frozen (p:=⟨w.heap.size+1,0,none⟩) y).trans I)
   exact⟨by(repeat (first | with_reducible exact KeepsFrom.refl _ _ | with_reducible refine V4 ?_ _ _ | with_reducible refine Qq ?_ | with_reducible refine Nh ?_ _ | with_reducible refine Qr ?_ yCj)),⟨rfl,2,by omega,j.out,Gh m⟩,blA⟩
  ·by_cases af:P=1
   ·subst af
    cases U
    ·have j:Hid (A8 ((pre++[x]).map (Ey ∘ Sl.net))=3):=by show _=_;rw[C.out,g.out];simp
     clear C g
     gi_wp2_with (first | (refine⟨trivial,?_⟩;gi_at_call 122;refine(CallsIn.inRound l (callsIn_wide.2 (E _ blA))).mono ?_;rintro e W2 ⟨rfl,d⟩;have m:=(d.cell (p:=⟨w.heap.size+1,0,none⟩) y).trans f;have M:=(d.frozen (p:=⟨w.heap.size+1,0,none⟩) y).trans I;obtain⟨yR,yQ⟩:=D7 d) | (refine⟨trivial,?_⟩;gi_at_call 123;refine(CallsIn.inRound l (callsIn_wide.2 (Q _ blA))).mono ?_;rintro e W3 ⟨rfl,H⟩;have c3:=(H.cell (p:=⟨w.heap.size+1,0,none⟩) (Bi m)).trans m;have z3:=(H.frozen (p:=⟨w.heap.size+1,0,none⟩) (Bi m)).trans M))
     exact⟨by(repeat (first | with_reducible exact KeepsFrom.refl _ _ | with_reducible refine V4 ?_ _ _ | with_reducible refine Qq ?_ | with_reducible refine Nh ?_ _ | with_reducible refine Qr ?_ yCj)),⟨rfl,3,by omega,j.out,Gh c3⟩,blA⟩
    ·have j:Hid (A8 ((pre++[x]).map (Ey ∘ Sl.net))=0):=by show _=_;rw[C.out,g.out];simp
     clear C g
     gi_wp2_with (first | (refine⟨trivial,?_⟩;gi_at_call 122;refine(CallsIn.inRound l (callsIn_wide.2 (E _ blA))).mono ?_;rintro e W2 ⟨rfl,d⟩;have m:=(d.cell (p:=⟨w.heap.size+1,0,none⟩) y).trans f;have M:=(d.frozen (p:=⟨w.heap.size+1,0,none⟩) y).trans I;obtain⟨yR,yQ⟩:=D7 d) | (refine⟨trivial,?_⟩;gi_at_call 123;refine(CallsIn.inRound l (callsIn_wide.2 (Q _ blA))).mono ?_;rintro e W3 ⟨rfl,H⟩;have c3:=(H.cell (p:=⟨w.heap.size+1,0,none⟩) (Bi m)).trans m;have z3:=(H.frozen (p:=⟨w.heap.size+1,0,none⟩) (Bi m)).trans M))
     exact⟨by(repeat (first | with_reducible exact KeepsFrom.refl _ _ | with_reducible refine V4 ?_ _ _ | with_reducible refine Qq ?_ | with_reducible refine Nh ?_ _ | with_reducible refine Qr ?_ yCj)),Va (Va (Kept.refl _ _ _) hn d) hn H,⟨⟨⟨c3,z3⟩,blA⟩,by rw[j.out];omega,by have:=d.size;have:=H.size;omega⟩⟩
   ·have aE:(P==1)=false:=by rw[A64];exact af
    have j:Hid (A8 ((pre++[x]).map (Ey ∘ Sl.net))=0):=by show _=_;rw[C.out,g.out];simp[af]
    clear C g
    gi_wp2_with (refine⟨trivial,?_⟩;gi_at_call 122;refine(CallsIn.inRound l (callsIn_wide.2 (E _ blA))).mono ?_;rintro e W2 ⟨rfl,d⟩;have m:=(d.cell (p:=⟨w.heap.size+1,0,none⟩) y).trans f;have M:=(d.frozen (p:=⟨w.heap.size+1,0,none⟩) y).trans I;obtain⟨yR,yQ⟩:=D7 d)
    refine⟨trivial,?_⟩
    gi_wp2
    exact⟨by(repeat (first | with_reducible exact KeepsFrom.refl _ _ | with_reducible refine V4 ?_ _ _ | with_reducible refine Qq ?_ | with_reducible refine Nh ?_ _ | with_reducible refine Qr ?_ yCj)),Va (Kept.refl _ _ _) hn d,⟨⟨⟨m,M⟩,blA⟩,by rw[j.out];omega,by have:=d.size;omega⟩⟩
 case done=>
  rintro D ys W hD hS ⟨⟨⟨f,I⟩,J⟩,F,_⟩ u;rw[<-A8c,hS,vW.out] at F;have j:Hid (errOf z=.nilIface):=by show _=_;unfold errOf;rw[if_neg F]
  gi_wp2
  have ab:=(KeepsOthers.setCell W ⟨w.heap.size+1,0,none⟩ .nilIface).same D _ u rfl;refine⟨spz, .inl ⟨_,_,rfl,run_takeDeferred ab,?_⟩⟩;have aa:=cell_kept (Gh f (v:=.nilIface)) (grownBy_putObj' _ D (.deferred none)) (λr e=>by cases e;exact⟨_,ab,rfl⟩);refine⟨.nilIface,?_,by rw[j.out],(J.setCell (p:=⟨w.heap.size+1,0,none⟩) spz _).trans (belowK_b (w:=w) (A57 _) _ D _ _ omz ab rfl rfl)⟩;simp[results,Tryz.f116,go_sem,aa]
 case stop=>
  rintro D c pre W hD ap ⟨⟨rfl,k,hk,ae,f⟩,J⟩ u;have qh:z=k:=by
   rw[<-A8c] at ae;have:=Xh Ey ap (by rw[ae];exact hk)
   rw[vW.out,ae] at this;exact this
  have j:Hid (errOf z=.iface 121 (.int .i64 k)):=by show _=_;unfold errOf;rw[qh,if_pos hk]
  gi_wp2
  refine⟨spz, .inl ⟨_,_,rfl,run_takeDeferred u,?_⟩⟩;have aa:=cell_kept f (grownBy_putObj' _ D (.deferred none)) (λr e=>by cases e;exact⟨_,u,rfl⟩);refine⟨.iface 121 (.int .i64 k),?_,by rw[j.out],J.trans (belowK_b (w:=w) (A57 _) W D _ _ omz u rfl rfl)⟩;simp[results,Tryz.f116,go_sem,aa]
end Go.Proofs.YtnpfcnolmkanfaaGreatDoor
namespace Go.Proofs.YtnpfcnolmkanfaaGreatDoor
open Tryz
open Stil
open Go.RowKit Go.Sort Go.BigFrame
theorem Nb {c:Int}(h:0<c):errOf c=.iface 121 (.int .i64 c):=by unfold errOf;rw[if_pos h]
theorem P8 {c:Int}(h:¬0<c):errOf c=.nilIface:=by unfold errOf;rw[if_neg h]
theorem zb {p:Prop}(h:p:=by
 clear hbs;obtain⟨m,hm,rfl,hcb,hB⟩:=hrel;have dX:=hid hcb;clear hcb;have hz:w.heap.size<wr.heap.size:=by have:=hB.size;simp at this;omega
 have c0:wr.cell? ⟨w.heap.size,0,none⟩=some (.int .i64 n.kind):=clA hB;have f0:wr.frozen? ⟨w.heap.size,0,none⟩=false:=frA hB;have c1:wr.cell? ⟨w.heap.size,1,none⟩=some (.int .i64 n.one.op):=clA hB;have f1:wr.frozen? ⟨w.heap.size,1,none⟩=false:=frA hB;have c2:wr.cell? ⟨w.heap.size,2,none⟩=some (.slice p0 n.one.args.length r0):=clA hB;have f2:wr.frozen? ⟨w.heap.size,2,none⟩=false:=frA hB;have c3:wr.cell? ⟨w.heap.size,3,none⟩=some (.slice p1 n.kids.length r1):=clA hB;have f3:wr.frozen? ⟨w.heap.size,3,none⟩=false:=frA hB;have c4:wr.cell? ⟨w.heap.size,4,none⟩=some (.slice p2 lc r2):=clA hB;have f4:wr.frozen? ⟨w.heap.size,4,none⟩=false:=frA hB;have c5:wr.cell? ⟨w.heap.size,5,none⟩=some (.slice p3 lk r3):=clA hB;have f5:wr.frozen? ⟨w.heap.size,5,none⟩=false:=frA hB;have hbw:=(Aa _ _).trans (hB.mono omz);by_cases hlt:m<lc
 ·have hlt':m<coils.length:=by have:=vO.out;omega
  obtain⟨b,o,rfl,hbl,hce⟩:=vY m hlt';obtain⟨x0,zS,x1,jJ⟩:=hce.below hbw hbl;have fH:=l7 _ (A59 hlt');have HI:=hid (λW hW=>Apu coils[m].op zS coils[m].args W (HRR W (hbw.trans (hW.mono hbw.size))) (jJ.below hW) fH.2.2 (by have:=fH.2.1;omega));have HD:Hid (Dw coils=(!Ak coils[m].op coils[m].args || Dw (coils.drop (m+1)))):=by show _=_;rw[dX.out,Vh _ _ hlt']
  obtain⟨ic,hic⟩:∃ic,ic=Ak coils[m].op coils[m].args:=⟨_,rfl⟩
  rw[<-hic] at HI HD;obtain⟨y,hy⟩:∃y,y=coils[m]:=⟨_,rfl⟩
  rw[<-hy] at HI x0;obtain⟨t1,t2,g1,_⟩:=jJ;rw[<-hy] at g1;subst g1;clear hic hy hce fH dX;cases ic
  ·have HX:Hid (R=3):=by show _=_;rw[HR2.out,HD.out];rfl
   go_wp2_with (go_at_call 117;refine(HI _ blA).mono ?_;rintro e w3 ⟨rfl,hb3⟩)
   go_ret;exact⟨by rw[HX.out,Nb omz];rfl,blA⟩
  ·have HX:Hid (Dw coils=Dw (coils.drop (m+1))):=by show _=_;rw[HD.out];rfl
   go_wp2_with (go_at_call 117;refine(HI _ blA).mono ?_;rintro e w3 ⟨rfl,hb3⟩)
   exact⟨⟨m+1,omz,by go_num,HX.out,hB.trans (((Aa _ _).trans (hb3.mono spz)).mono hz)⟩,by simp[intOf];omega⟩
 ·have hcb0:Dw coils=false:=by rw[dX.out,A7s (by have:=vO.out;omega)];rfl
  have HR3:Hid (R=if lc=0/\lk=0 then 5 else 0):=by show _=_;rw[HR2.out,hcb0];rfl
  clear hcb0 dX HR2;by_cases hl0:lc=0/\lk=0
  ·have HX:Hid (R=5):=by show _=_;rw[HR3.out,if_pos hl0]
   obtain⟨rfl,rfl⟩:=hl0;clear HR3
   go_wp2
   go_ret;exact⟨by rw[HX.out,Nb omz];rfl,blA⟩
  ·have HX:Hid (R=0):=by show _=_;rw[HR3.out,if_neg hl0]
   clear HR3;have hcase:((lc:Int)==0)=false\/((lk:Int)==0)=false:=by
    by_cases h:lc=0
    ·right;rw[A64];omega
    ·left;rw[A64];omega
   clear hl0;rcases hcase with hq | hq
   ·go_wp2
    all_goals go_ret
    all_goals exact⟨by rw[HX.out,P8 omz];rfl,blA⟩
   ·go_wp2
    all_goals go_ret
    all_goals exact⟨by rw[HX.out,P8 omz];rfl,blA⟩):p:=h
theorem Axd (x:Stil.Arm)(B s K I:Value)(w:World)(hr:Em w)(l:Dh w B x.net.one.args)(A:E8 w s x.net.kids)(F:Hz w K x.coils)(N:Ea w I x.kids)(P:Cm x):
  Calls prog 107 #[.agg #[.int .i64 x.net.kind, .int .i64 x.net.one.op,B,s,K,I]] w λe X=>e=.returned (errOf (Ci x))/\Below w.heap.size w X:=by
 obtain⟨n,coils,kids⟩:=x;simp only at l A F N ⊢;obtain⟨t,L,E,O,_⟩:=Hq P;simp only at t L E O;have r:=hid (λW hW=>Ti n B s W (l.below hW) (A.below hW) t);have f:=hid (λW hW=>Axc n B s W (hr.below hW) (l.below hW) (A.below hW) t);have l7:=hid E;have HRR:=hid (λW (h:Below w.heap.size w W)=>hr.below h);obtain⟨p0,r0,rfl,_⟩:=l;obtain⟨p1,r1,rfl,_⟩:=A;obtain⟨p2,r2,rfl,Q⟩:=F;obtain⟨p3,r3,rfl,_⟩:=N;have vY:=hid Q;have d:Hid (Ci ⟨n,coils,kids⟩=if Ar n=false/\0<Az n then Az n else if Dw coils then 3 else if coils.length=0/\kids.length=0 then 5 else 0):=rfl;obtain⟨D,J⟩:∃D,D=Ar n:=⟨_,rfl⟩
 obtain⟨j,M⟩:∃j,j=Az n:=⟨_,rfl⟩
 rw[<-J] at r d;rw[<-M] at f d;obtain⟨lc,C⟩:∃lc,lc=coils.length:=⟨_,rfl⟩
 obtain⟨lk,S⟩:∃lk,lk=kids.length:=⟨_,rfl⟩
 have vO:=hid C;rw[<-C] at L d ⊢;rw[<-S] at O d ⊢;obtain⟨R,G⟩:∃R,R=Ci ⟨n,coils,kids⟩:=⟨_,rfl⟩
 rw[<-G] at d ⊢;clear P t E Q J M C S G hr;cases D
 ·by_cases g:0<j
  ·have HX:Hid (R=j):=by show _=_;rw[d.out];simp[g]
   rw[Nb g] at f;go_enter func107,ntmps107
   go_wp2_with (first | (go_at_call 69;refine(r _ blA).mono ?_;rintro e z ⟨rfl,c⟩;obtain⟨k,q⟩:=D7 c) | (go_at_call 116;refine(f _ blA).mono ?_;rintro e H ⟨rfl,u⟩))
   go_ret;exact⟨by rw[HX.out,Nb g];rfl,blA⟩
  ·have HR2:Hid (R=if Dw coils then 3 else if lc=0/\lk=0 then 5 else 0):=by show _=_;rw[d.out];simp[g]
   rw[P8 g] at f;clear d;go_enter func107,ntmps107
   go_wp2_with (first | (go_at_call 69;refine(r _ blA).mono ?_;rintro e z ⟨rfl,c⟩;obtain⟨k,q⟩:=D7 c;have U:w.heap.size<z.heap.size:=A51 spz c.size) | (go_at_call 116;refine(f _ blA).mono ?_;rintro e H ⟨rfl,u⟩;obtain⟨V,T⟩:=D7 u))
   have hbs:Below (w.heap.size+1) (w.alloc (.cells #[.int .i64 n.kind, .int .i64 n.one.op, .slice p0 n.one.args.length r0, .slice p1 n.kids.length r1, .slice p2 lc r2, .slice p3 lk r3] 46)) H:=by
    have h1:=c.size;simp only[World.size_alloc] at c h1;exact c.trans (u.mono h1)
   clear c u k q V T U;go_loopw [19] (λi wr=>∃m:Nat,m<=lc/\i=.int .i64 m/\Dw coils=Dw (coils.drop m)/\Below (w.heap.size+1) (w.alloc (.cells #[.int .i64 n.kind, .int .i64 n.one.op, .slice p0 n.one.args.length r0, .slice p1 n.kids.length r1, .slice p2 lc r2, .slice p3 lk r3] 46)) wr) (λi _=>lc - (intOf i).toNat)
   case atStart=>exact⟨0,omz,rfl,rfl,hbs⟩
   case round=>exact zb
 ·have HR2:Hid (R=if Dw coils then 3 else if lc=0/\lk=0 then 5 else 0):=by show _=_;rw[d.out];simp
  clear d f;go_enter func107,ntmps107
  go_wp2_with (go_at_call 69;refine(r _ blA).mono ?_;rintro e z ⟨rfl,c⟩;obtain⟨k,q⟩:=D7 c)
  have hbs:Below (w.heap.size+1) (w.alloc (.cells #[.int .i64 n.kind, .int .i64 n.one.op, .slice p0 n.one.args.length r0, .slice p1 n.kids.length r1, .slice p2 lc r2, .slice p3 lk r3] 46)) z:=by simpa using c
  clear c k q;go_loopw [19] (λi wr=>∃m:Nat,m<=lc/\i=.int .i64 m/\Dw coils=Dw (coils.drop m)/\Below (w.heap.size+1) (w.alloc (.cells #[.int .i64 n.kind, .int .i64 n.one.op, .slice p0 n.one.args.length r0, .slice p1 n.kids.length r1, .slice p2 lc r2, .slice p3 lk r3] 46)) wr) (λi _=>lc - (intOf i).toNat)
  case atStart=>exact⟨0,omz,rfl,rfl,hbs⟩
  case round=>exact zb
end Go.Proofs.YtnpfcnolmkanfaaGreatDoor
namespace Go.Proofs.YtnpfcnolmkanfaaGreatDoor
open Tryz
open Stil
open Go.RowKit Go.Sort Go.BigFrame Go.Shelf
attribute [local go_sem] Oper.semAt_some
theorem Ar3 (x:Stil.Arm)(T K Z kv:Value)(w:World)(hr:Em w)(G:Dh w T x.net.one.args)(N:E8 w K x.net.kids)(U:Hz w Z x.coils)(ab:Ea w kv x.kids)(hf:Cm x):
  Calls prog 84 #[.agg #[.int .i64 x.net.kind, .int .i64 x.net.one.op,T,K,Z,kv]] w λe w'=>e=.returned (errOf (Ej x))/\Below w.heap.size w w':=by
 have C:Hid (Ej x=if Ar x.net then 4 else Cf x):=rfl;have vW:Hid (A8 ((Dz [x]).map Ci)=Cf x):=by
  show _=_
  rw[<-Aco];simp[Dz]
 have aZ:=hid (λW hW=>Ti x.net T K W (G.below hW) (N.below hW) (Hq hf).1);have az:=hid (λW (h:Below w.heap.size w W)=>hr.below h);have iY:Hid (Dh w T x.net.one.args/\E8 w K x.net.kids/\Hz w Z x.coils/\Ea w kv x.kids):=⟨G,N,U,ab⟩
 obtain⟨H,L,rfl,_⟩:=G;obtain⟨P,M,rfl,_⟩:=N;obtain⟨Y,r2,rfl,_⟩:=U;obtain⟨p3,V,rfl,_⟩:=ab;obtain⟨R,hR⟩:∃R,R=Ej x:=⟨_,rfl⟩
 obtain⟨z,hz⟩:∃z,z=Cf x:=⟨_,rfl⟩
 obtain⟨nn,al⟩:∃nn,nn=Ar x.net:=⟨_,rfl⟩
 rw[<-hR] at C ⊢;rw[<-hz] at C vW;rw[<-al] at C aZ;clear hR hz al;refine(callsIn_wide (n:=9)).1 ?_;cases nn
 ·have q:Hid (R=z):=by show _=_;rw[C.out];simp
  clear C;refine callsIn_of_wp_marks func84 rfl trivial ?_ rfl;simp only[ntmps84,A55,A53,A54,Nat.reduceAdd,Nat.reduceSub,A6v,A6w,A61,A6y,A6t,A6s]
  gi_wp2_with (first | (refine⟨trivial,?_⟩;gi_at_call 69;refine(callsIn_wide.2 (aZ _ blA)).mono ?_;rintro e d ⟨rfl,o⟩;obtain⟨aw,ax⟩:=D7 o) | (refine⟨trivial,?_⟩;gi_at_call 105;refine(callsIn_wide.2 (Ag5 _ _ _ _)).mono ?_;rintro e f ⟨A,aa,rfl,ap,ar,hA,l,hb⟩))
  have aG:Below w.heap.size w d:=blA;have an:Below w.heap.size w f:=blA;have h9:=o.size;have h1:=hb.size;simp only[World.size_alloc] at ap ar h9 h1;have x0:f.cell? ⟨d.heap.size,0,none⟩=some (.int .i64 x.net.kind):=clA hb;have x1:f.cell? ⟨d.heap.size,1,none⟩=some (.int .i64 x.net.one.op):=clA hb;have x2:f.cell? ⟨d.heap.size,2,none⟩=some (.slice H x.net.one.args.length L):=clA hb;have x3:f.cell? ⟨d.heap.size,3,none⟩=some (.slice P x.net.kids.length M):=clA hb;have x4:f.cell? ⟨d.heap.size,4,none⟩=some (.slice Y x.coils.length r2):=clA hb;have x5:f.cell? ⟨d.heap.size,5,none⟩=some (.slice p3 x.kids.length V):=clA hb;have aB:f.cell? ⟨w.heap.size+1,0,none⟩=some .nilIface:=by
   rw[hb.cell (p:=⟨w.heap.size+1,0,none⟩) yAd,(Aa d _).cell (p:=⟨w.heap.size+1,0,none⟩) (show w.heap.size+1<d.heap.size by omega),o.cell (p:=⟨w.heap.size+1,0,none⟩) spz];simp[go_sem]
  have aC:f.frozen? ⟨w.heap.size+1,0,none⟩=false:=by
   rw[hb.frozen (p:=⟨w.heap.size+1,0,none⟩) yAd,(Aa d _).frozen (p:=⟨w.heap.size+1,0,none⟩) (show w.heap.size+1<d.heap.size by omega),o.frozen (p:=⟨w.heap.size+1,0,none⟩) spz];simp[go_sem]
  have aE:w.heap.size+2<=f.heap.size:=omz
  have eF:Oq w (λ_=>False) f (.slice (some ⟨d.heap.size,0,none⟩) 1 1) [x]:=by
   refine⟨_,1,rfl,λi hi=>⟨d.heap.size,0,rfl,(λh=>h), .slice H x.net.one.args.length L, .slice P x.net.kids.length M, .slice Y x.coils.length r2, .slice p3 x.kids.length V,?_⟩⟩;obtain rfl:i=0:=by simpa using hi
   simp only[A8a,A6b,A7a];exact⟨x0,x1,x2,x3,x4,x5,iY.out⟩
  have HS:Hid (SeqStopsK Fence.wide (9 - 1) prog 118 #[.pointer (some ⟨aa,0,none⟩), .pointer (some ⟨A,0,none⟩)] (λy:Qv w Cm=>#[Value.agg #[.int .i64 y.arm.net.kind, .int .i64 y.arm.net.one.op,y.av,y.nv,y.cv,y.kv]]) (Kept w.heap.size (λ_=>False)) (λys=>ys.map Qv.arm=Dz [x]) (λpre=>pre.map Qv.arm<+:Dz [x]) (Dz [x]).length f):=
   Ak2 w Cm (λy hy=>⟨(Hq hy).2.2.2.1,(Hq hy).2.2.2.2⟩) (λ_=>False) (λ_ h=>h.elim) 0 A aa (λ_ h=>h.elim) (λh=>h) (λh=>h) [x] spz (by simpa using hf) _ f an (A7l _) eF hA l _
  clear eF hb o aw ax x0 x1 x2 x3 x4 x5 hA l hf;refine wpIn_rangeFunc_ownH rfl dcz (gf:=118) (lb:=#[.pointer (some ⟨aa,0,none⟩), .pointer (some ⟨A,0,none⟩)]) rfl trivial (enters_of func118 krz rfl)
   HS Kept.t (Kept.b omz) (Below.refl _ _) (λ_=>rfl)
   (λpre W=>((W.cell? ⟨w.heap.size+1,0,none⟩=some .nilIface/\W.frozen? ⟨w.heap.size+1,0,none⟩=false)/\Below w.heap.size w W)/\¬0<A8 (pre.map (Ci ∘ Qv.arm))/\f.heap.size<=W.heap.size)
   (λc pre W=>(c=.ret/\∃k,0<k/\A8 (pre.map (Ci ∘ Qv.arm))=k/\W.cell? ⟨w.heap.size+1,0,none⟩=some (.iface 121 (.int .i64 k)))/\Below w.heap.size w W)
   (OwnFrom.and (OwnFrom.and (Own.from (λs A ah row j m hr=>⟨cell_kept j.1 m hr,(frozen_kept j.1 m hr).trans j.2⟩) _) (ownFrom_below (A57 _) omz)) (OwnFrom.and (ownFrom_pure _ _) (λ_ _ _ _ j m _=>A6e j m.size)))
   (λc=>OwnFrom.and (Own.from (λs A ah row j m hr=>⟨j.1,j.2.elim λt ht=>⟨t,ht.1,ht.2.1,cell_kept ht.2.2 m hr⟩⟩) _) (ownFrom_below (A57 _) omz))
   ⟨⟨⟨aB,aC⟩,an⟩,by simp[A8],A57 _⟩
   (λy a' W=>∃B,f.heap.size<=B/\Ayz W B y.arm.net.kind y.arm.net.one.op y.av y.nv y.cv y.kv/\a'={tmps:=#[.agg #[.int .i64 x.net.kind, .int .i64 x.net.one.op, .slice H x.net.one.args.length L, .slice P x.net.kids.length M, .slice Y x.coils.length r2, .slice p3 x.kids.length V], .pointer (some ⟨w.heap.size,0,none⟩), .pointer (some ⟨w.heap.size+1,0,none⟩), .pointer (some ⟨B,0,none⟩),undef, .pointer (some ⟨w.heap.size,0,none⟩), .agg #[.int .i64 x.net.kind, .int .i64 x.net.one.op, .slice H x.net.one.args.length L, .slice P x.net.kids.length M], .bool false,undef, .agg #[.int .i64 x.net.kind, .int .i64 x.net.one.op, .slice H x.net.one.args.length L, .slice P x.net.kids.length M, .slice Y x.coils.length r2, .slice p3 x.kids.length V], .slice (some ⟨d.heap.size,0,none⟩) 1 1, .func (.func 118) #[] #[.pointer (some ⟨aa,0,none⟩), .pointer (some ⟨A,0,none⟩)], .agg #[.int .i64 y.arm.net.kind, .int .i64 y.arm.net.one.op,y.av,y.nv,y.cv,y.kv],undef,undef,undef,undef,undef],defers:=[]})
   (λy a' s A ah row j m hr=>j.elim λB hx=>⟨B,hx.1,Ahr (β:=Unit) B _ _ _ _ _ _ s A ah row hx.2.1 m (λac e=>(hr ac e).2),hx.2.2⟩) ?assign ?body ?done ?stop
  case assign=>
   rintro ae pre y W KK ⟨⟨⟨g,Q⟩,E⟩,u,ao⟩ aA;obtain⟨y,T,K,Z,kv,G,N,U,ab,aD⟩:=y;obtain⟨q0,s0,rfl,_⟩:=id G;obtain⟨q1,s1,rfl,_⟩:=id N;obtain⟨q2,s2,rfl,_⟩:=id U;obtain⟨q3,s3,rfl,_⟩:=id ab
   gi_wp2
   exact aA _ _ ((KeepsOthers.alloc _ _).from _) (Kept.of_below E.size (Aa _ _)) ⟨⟨⟨Ol _ g,O6 _ g Q⟩,blA⟩,u,by simp;omega⟩ ⟨W.heap.size,omz,⟨by simp[go_sem],by simp[go_sem],by simp[go_sem],by simp[go_sem],by simp[go_sem],by simp[go_sem]⟩,rfl⟩
  case body=>
   rintro ae pre y a' W yL _ ⟨⟨⟨g,Q⟩,E⟩,u,ao⟩ ⟨B,aF,⟨y0,y1,y2,y3,y4,y5⟩,rfl⟩ ay;have X:=Bi g;have hn:w.heap.size<=W.heap.size:=omz
   have F:=hid (λak S=>Axd y.arm y.av y.nv y.cv y.kv ak (az ak S) (y.hav.below S) (y.hnv.below S) (y.hcv.below S) (y.hkv.below S) y.mem);have O:Hid (A8 ((pre++[y]).map (Ci ∘ Qv.arm))=if 0<Ci y.arm then Ci y.arm else 0):=Aas _ _ _ u;obtain⟨q0,s0,e0,_⟩:=id y.hav;obtain⟨q1,s1,e1,_⟩:=id y.hnv;obtain⟨q2,s2,e2,_⟩:=id y.hcv;obtain⟨q3,s3,e3,_⟩:=id y.hkv;rw[e0,e1,e2,e3] at F;rw[e0] at y2;rw[e1] at y3;rw[e2] at y4;rw[e3] at y5;obtain⟨I,aj⟩:∃I,I=Ci y.arm:=⟨_,rfl⟩
   rw[<-aj] at F O;clear aj e0 e1 e2 e3 ay yL u;by_cases J:0<I
   ·rw[Nb J] at F
    have q:Hid (A8 ((pre++[y]).map (Ci ∘ Qv.arm))=I):=by show _=_;rw[O.out,if_pos J]
    clear O
    gi_wp2_with (refine⟨trivial,?_⟩;gi_at_call 107;refine(CallsIn.inRound ae (callsIn_wide.2 (F _ blA))).mono ?_;rintro e W2 ⟨rfl,r⟩;have c2:=(r.cell (p:=⟨w.heap.size+1,0,none⟩) X).trans g;have z2:=(r.frozen (p:=⟨w.heap.size+1,0,none⟩) X).trans Q)
    exact⟨by(repeat (first | with_reducible exact KeepsFrom.refl _ _ | with_reducible refine V4 ?_ _ _ | with_reducible refine Qq ?_ | with_reducible refine Nh ?_ _ | with_reducible refine Qr ?_ yCj)),⟨rfl,I,J,q.out,Gh c2⟩,blA⟩
   ·rw[P8 J] at F
    have q:Hid (A8 ((pre++[y]).map (Ci ∘ Qv.arm))=0):=by show _=_;rw[O.out,if_neg J]
    clear O
    gi_wp2_with (refine⟨trivial,?_⟩;gi_at_call 107;refine(CallsIn.inRound ae (callsIn_wide.2 (F _ blA))).mono ?_;rintro e W2 ⟨rfl,r⟩;have c2:=(r.cell (p:=⟨w.heap.size+1,0,none⟩) X).trans g;have z2:=(r.frozen (p:=⟨w.heap.size+1,0,none⟩) X).trans Q)
    exact⟨by(repeat (first | with_reducible exact KeepsFrom.refl _ _ | with_reducible refine V4 ?_ _ _ | with_reducible refine Qq ?_ | with_reducible refine Nh ?_ _ | with_reducible refine Qr ?_ yCj)),Va (Kept.refl _ _ _) hn r,⟨⟨⟨c2,z2⟩,blA⟩,by rw[q.out];omega,by have:=r.size;omega⟩⟩
  case done=>
   rintro D ys W hD hS ⟨⟨⟨g,Q⟩,E⟩,u,_⟩ l;rw[<-A8c,hS,vW.out] at u;have HY:Hid (errOf R=.nilIface):=by show _=_;rw[q.out,P8 u]
   gi_wp2
   have ag:=(KeepsOthers.setCell W ⟨w.heap.size+1,0,none⟩ .nilIface).same D _ l rfl;refine⟨spz, .inl ⟨_,_,rfl,run_takeDeferred ag,?_⟩⟩;have af:=cell_kept (Gh g (v:=.nilIface)) (grownBy_putObj' _ D (.deferred none)) (λac e=>by cases e;exact⟨_,ag,rfl⟩);refine⟨.nilIface,?_,by rw[HY.out],(E.setCell (p:=⟨w.heap.size+1,0,none⟩) spz _).trans (belowK_b (w:=w) (A57 _) _ D _ _ omz ag rfl rfl)⟩;simp[results,Tryz.f84,go_sem,af]
  case stop=>
   rintro D c pre W hD au ⟨⟨rfl,k,hk,ai,g⟩,E⟩ l;have qh:z=k:=by
    rw[<-A8c] at ai;have:=Xh Ci au (by rw[ai];exact hk)
    rw[vW.out,ai] at this;exact this
   have HY:Hid (errOf R=.iface 121 (.int .i64 k)):=by show _=_;rw[q.out,qh,Nb hk]
   gi_wp2
   refine⟨spz, .inl ⟨_,_,rfl,run_takeDeferred l,?_⟩⟩;have af:=cell_kept g (grownBy_putObj' _ D (.deferred none)) (λac e=>by cases e;exact⟨_,l,rfl⟩);refine⟨.iface 121 (.int .i64 k),?_,by rw[HY.out],E.trans (belowK_b (w:=w) (A57 _) W D _ _ omz l rfl rfl)⟩;simp[results,Tryz.f84,go_sem,af]
 ·have q:Hid (R=4):=by show _=_;rw[C.out];simp
  clear C;refine callsIn_of_wp_marks func84 rfl trivial ?_ rfl;simp only[ntmps84,A55,A53,A54,Nat.reduceAdd,Nat.reduceSub,A6v,A6w,A61,A6y,A6t,A6s]
  gi_wp2_with (refine⟨trivial,?_⟩;gi_at_call 69;refine(callsIn_wide.2 (aZ _ blA)).mono ?_;rintro e d ⟨rfl,o⟩;have c9:d.cell? ⟨w.heap.size+1,0,none⟩=some .nilIface:=(clA o);have z9:d.frozen? ⟨w.heap.size+1,0,none⟩=false:=(frA o))
  refine⟨.iface 121 (.int .i64 4),?_,by rw[q.out,Nb omz],blA⟩;simp[results,Tryz.f84,go_sem,c9]
end Go.Proofs.YtnpfcnolmkanfaaGreatDoor
namespace Go.Proofs.YtnpfcnolmkanfaaGreatDoor
open Tryz
open Stil
open Go.RowKit Go.Sort Go.BigFrame
def lookOf (many:Bool)(p:Int × Nat):Value:=if many then .iface 121 (.int .i64 1) else if 0<p.1 then .iface 124 (.agg #[.int .i64 p.2, .iface 121 (.int .i64 p.1)]) else .nilIface
theorem Arx (l:List Stil.Arm)(K:Value)(w:World)(hr:Em w)(m:Ea w K l)(hl:l.length<=1048576)(L:Bv l<=1000000000)(B:∀x∈l,Cm x):
  Calls prog 49 #[K] w λe w'=>e=.returned (lookOf (decide (40<l.length\/400<Bv l)) (D9 l 0))/\Below w.heap.size w w':=by
 have v:=hid (λW c=>An1 l K 400 W (m.below c) B hl L omz omz);have HF:=hid B;have af:=hid (λW (h:Below w.heap.size w W)=>hr.below h);obtain⟨a,cap,rfl,T⟩:=m;have HC:=hid T;obtain⟨d,G⟩:∃d,d=l.length:=⟨_,rfl⟩
 obtain⟨z,hz⟩:∃z,z=Bv l:=⟨_,rfl⟩
 have P:=hid G;rw[<-G] at hl v ⊢;rw[<-hz] at v L ⊢;obtain⟨Q,J⟩:∃Q,Q=D9 l 0:=⟨_,rfl⟩
 rw[<-J];have u:=hid J;obtain⟨R,I⟩:∃R,R=lookOf (decide (40<d\/400<z)) Q:=⟨_,rfl⟩
 rw[<-I];have f:=hid I;clear T B G hz J I hr;by_cases h1:40<d
 ·have g:Hid (R=.iface 121 (.int .i64 1)):=by show _=_;rw[f.out,A77 (.inl h1)];rfl
  clear f u;go_enter func49,ntmps49
  go_wp2
  go_ret;exact⟨by rw[g.out];rfl,blA⟩
 ·by_cases h2:400<z
  ·have g:Hid (R=.iface 121 (.int .i64 1)):=by show _=_;rw[f.out,A77 (.inr h2)];rfl
   clear f u;go_enter func49,ntmps49
   go_wp2_with (go_at_call 83;refine(v _ blA).mono ?_;rintro e M ⟨r,rfl,_,O,aa,Z⟩;have ab:=O omz;clear O)
   go_ret;exact⟨by rw[g.out];rfl,blA⟩
  ·have g:Hid (R=lookOf false Q):=by show _=_;rw[f.out,A7y omz]
   clear f;go_enter func49,ntmps49
   go_wp2_with (go_at_call 83;refine(v _ blA).mono ?_;rintro e M ⟨r,rfl,ae,_,aa,Z⟩;have ab:¬(400:Int)<r:=omz;clear ae)
   have Y:Below w.heap.size w M:=blA;clear Z;go_loopw [17] (λi wr=>∃j:Nat,j<=d/\i=.int .i64 j/\Q=D9 (l.drop j) j/\Below w.heap.size w wr) (λi _=>d - (intOf i).toNat)
   case atStart=>exact⟨0,omz,rfl,u.out,Y⟩
   case round=>
    clear Y u;obtain⟨j,hj,rfl,S,y⟩:=hrel;have C:=hid S;clear S;by_cases ah:j<d
    ·have D:j<l.length:=by have:=P.out;omega
     obtain⟨b,o,rfl,ac,U⟩:=HC j D;obtain⟨V,xR,xQ,x4,x5,E,m⟩:=(Uz.below y _ _ _ U ac).open;obtain⟨x0,x1,xU,xP,x2,x3,A,F⟩:=V.open;have k:=hid (λW c=>Ar3 l[j] xU xP xR xQ W (af W (y.trans (c.mono y.size))) (A.below c) (F.below c) (E.below c) (m.below c) (HF _ (A59 D)));have H:Hid (Q=if 0<Ej l[j] then(Ej l[j],j) else D9 (l.drop (j+1)) (j+1)):=by show _=_;rw[C.out,Y0 l j D]
     obtain⟨s,X⟩:∃s,s=Ej l[j]:=⟨_,rfl⟩
     obtain⟨x,N⟩:∃x,x=l[j]:=⟨_,rfl⟩
     rw[<-X] at k H;rw[<-N] at k x0 x1 A F E m;obtain⟨t0,u0,rfl,_⟩:=A;obtain⟨t1,u1,rfl,_⟩:=F;obtain⟨t2,u2,rfl,_⟩:=E;obtain⟨t3,u3,rfl,_⟩:=m;clear X N U V C;by_cases q:0<s
     ·have t:Hid (R=.iface 124 (.agg #[.int .i64 j, .iface 121 (.int .i64 s)])):=by show _=_;rw[g.out,H.out,if_pos q];unfold lookOf;simp[q]
      rw[Nb q] at k
      go_wp2_with (go_at_call 84;refine(k _ blA).mono ?_;rintro e w4 ⟨rfl,ag⟩)
      go_ret;exact⟨by rw[t.out];rfl,blA⟩
     ·have t:Hid (Q=D9 (l.drop (j+1)) (j+1)):=by show _=_;rw[H.out,if_neg q]
      rw[P8 q] at k
      go_wp2_with (go_at_call 84;refine(k _ blA).mono ?_;rintro e w4 ⟨rfl,ag⟩)
      exact⟨⟨j+1,omz,by go_num,t.out,blA⟩,by simp[intOf];omega⟩
    ·have t:Hid (R=.nilIface):=by show _=_;rw[g.out,C.out,A7s (by have:=P.out;omega)];rfl
     go_wp2
     go_ret;exact⟨by rw[t.out];rfl,y⟩
end Go.Proofs.YtnpfcnolmkanfaaGreatDoor
namespace Go.Proofs.YtnpfcnolmkanfaaGreatDoor
open Go.RowKit Go.Sort Go.BigFrame
end Go.Proofs.YtnpfcnolmkanfaaGreatDoor
namespace Go.Proofs.YtnpfcnolmkanfaaGreatDoor
open Go.RowKit Go.Sort Go.BigFrame Go.Shelf
attribute [local go_sem] Oper.semAt_some
end Go.Proofs.YtnpfcnolmkanfaaGreatDoor
namespace Go.Proofs.YtnpfcnolmkanfaaGreatDoor
open Go.RowKit Go.Sort Go.BigFrame
end Go.Proofs.YtnpfcnolmkanfaaGreatDoor
namespace Go.Proofs.YtnpfcnolmkanfaaGreatDoor
open Go.RowKit Go.Sort Go.BigFrame
end Go.Proofs.YtnpfcnolmkanfaaGreatDoor
