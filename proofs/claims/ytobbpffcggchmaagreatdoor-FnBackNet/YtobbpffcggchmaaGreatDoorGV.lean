import Derived.Test.YtobbpffcggchmaaGreatDoorGO
import Derived.Test.YtobbpffcggchmaaGreatDoorGJ
set_option maxHeartbeats 4000000
set_option maxRecDepth 100000
namespace Go.Proofs.YtobbpffcggchmaaGreatDoor
open Tryz
open Stil
open Go.RowKit Go.Sort Go.BigFrame Go.Shelf
attribute [local go_sem] Oper.semAt_some
def errOf (c:Int):Value:=if 0<c then .iface 165 (.int .i64 c) else .nilIface
theorem zp {p:Prop}(h:p:=by
 go_enter func143,ntmps143
 go_wp2_with (go_at_call 75;refine(HC _).mono ?_;rintro e w1 ⟨rfl,hb⟩;obtain⟨hc,hfz⟩:=Eh hb)
 all_goals go_ret
 all_goals exact⟨Ad (by rw[HX.out];simp),blA⟩):p:=h
theorem Ay8 (n:Stil.Net)(j s:Value)(w:World)(y:A7 w j n.one.args)(A:D8 w s n.kids)(m:Cj n):
  Calls prog 143 #[.agg #[.int .i64 n.kind, .int .i64 n.one.op,j,s]] w λe i=>e=.returned (.bool (Y3 n))/\Below w.heap.size w i:=by
 obtain⟨_,o,z,_⟩:=Es m;have B:=o.2.1;obtain⟨x,C,rfl,_⟩:=y;obtain⟨E,D,rfl,_⟩:=A;clear m o;have HC:Hid (∀W,Calls prog 75 #[.agg #[.int .i64 n.one.op, .slice x n.one.args.length C]] W λe i=>e=.returned (.bool (n.one.op==0 && n.one.args.length==0))/\Below W.heap.size W i):=λW=>Y2 _ _ _ _ _ omz
 have a:Hid (Y3 n=if n.kind=1 then decide (n.kids.length=0) else if n.kind=2\/n.kind=3 then(n.one.op==0 && n.one.args.length==0) && decide (0<n.kids.length) else if n.kind=4 then(n.one.op==0 && n.one.args.length==0) && decide (n.kids.length=1) else false):=rfl;obtain⟨b,l⟩:∃b,b=(n.one.op==0 && n.one.args.length==0):=⟨_,rfl⟩
 rw[<-l] at a HC;obtain⟨d,q⟩:∃d,d=n.kids.length:=⟨_,rfl⟩
 obtain⟨r,v⟩:∃r,r=n.one.args.length:=⟨_,rfl⟩
 rw[<-q] at a z ⊢;rw[<-v] at HC B ⊢;obtain⟨k,u⟩:∃k,k=n.kind:=⟨_,rfl⟩
 rw[<-u] at a ⊢;obtain⟨R,t⟩:∃R,R=Y3 n:=⟨_,rfl⟩
 rw[<-t] at a ⊢;clear l q v u t;by_cases f:k=1
 ·subst f
  have HX:Hid (R=((d:Int)==0)):=by show _=_;rw[a.out,if_pos rfl,Baf];simp
  clear a HC;go_enter func143,ntmps143
  go_wp2
  all_goals go_ret
  all_goals exact⟨Ad (by rw[HX.out]),blA⟩
 ·have F:(k==1)=false:=by rw[A95];exact f
  by_cases c:k=2\/k=3
  ·have HX:Hid (R=(b && decide ((0:Int)<(d:Int)))):=by show _=_;rw[a.out,if_neg f,if_pos c,Baf];simp
   clear a;cases b
   ·rcases c with rfl | rfl
    ·exact zp
    ·exact zp
   ·rcases c with rfl | rfl
    ·exact zp
    ·exact zp
  ·have G:(k==2)=false:=by rw[A95];omega
   have I:(k==3)=false:=by rw[A95];omega
   by_cases g:k=4
   ·subst g
    have HX:Hid (R=(b && ((d:Int)==1))):=by show _=_;rw[a.out,if_neg f,if_neg c,if_pos rfl,Baf];simp;omega
    clear a;cases b
    ·exact zp
    ·exact zp
   ·have H:(k==4)=false:=by rw[A95];exact g
    have HX:Hid (R=false):=by show _=_;rw[a.out,if_neg f,if_neg c,if_neg g]
    clear a HC;go_enter func143,ntmps143
    go_wp2
    all_goals go_ret
    all_goals exact⟨Ad (by rw[HX.out]),blA⟩
end Go.Proofs.YtobbpffcggchmaaGreatDoor
namespace Go.Proofs.YtobbpffcggchmaaGreatDoor
open Tryz
open Stil
open Go.RowKit Go.Sort Go.BigFrame Go.Shelf
def A4p (W:World)(B:Nat)(k op:Int)(a n:Value):Prop:=W.cell? ⟨B,0,none⟩=some (.int .i64 k)/\W.cell? ⟨B,1,none⟩=some (.int .i64 op)/\W.cell? ⟨B,2,none⟩=some a/\W.cell? ⟨B,3,none⟩=some n
theorem As7 {β:Type}(B:Nat)(k op:Int)(a n:Value):Own (λ(_:β) W=>A4p W B k op a n):=λ_ _ _ _ d b c=>
 ⟨cell_kept d.1 b c,cell_kept d.2.1 b c,cell_kept d.2.2.1 b c,cell_kept d.2.2.2 b c⟩
end Go.Proofs.YtobbpffcggchmaaGreatDoor
namespace Go.Proofs.YtobbpffcggchmaaGreatDoor
open Tryz
open Stil
open Go.RowKit Go.Sort Go.BigFrame Go.Shelf
variable {α:Type}
attribute [local go_sem] Oper.semAt_some
theorem Xf (f:α->Int){a b:List α}(h:a<+:b)(d:0<Bv (a.map f)):Bv (b.map f)=Bv (a.map f):=by
 obtain⟨c,rfl⟩:=h;rw[A9h,Rw,if_pos d]
theorem Aai (f:α->Int)(l:List α)(x:α)(h:¬0<Bv (l.map f)):Bv ((l++[x]).map f)=if 0<f x then f x else 0:=by
 rw[A9h,Rw,if_neg h];simp[Bv]
theorem Ay5 (n:Stil.Net)(av V:Value)(w:World)(hr:Ei w)(O:A7 w av n.one.args)(P:D8 w V n.kids)(hf:Cj n):
  Calls prog 126 #[.agg #[.int .i64 n.kind, .int .i64 n.one.op,av,V]] w λe w'=>e=.returned (errOf (Bc n))/\Below w.heap.size w w':=by
 have sV:Hid (Bv ((Ef [n]).map Ew)=Bc n):=by show _=_;rw[Aen,Alh]
 have ak:=Nh n;obtain⟨z,hz⟩:∃z,z=Bc n:=⟨_,rfl⟩
 rw[<-hz] at sV ak ⊢;clear hz;refine(callsIn_wide (n:=9)).1 ?_;have dN:=hid O;have uG:=hid P;have au:=hid (λW (h:Below w.heap.size w W)=>hr.below h);obtain⟨p0,r0,rfl,_⟩:=O;obtain⟨T,r1,rfl,_⟩:=P;refine callsIn_of_wp_marks func126 rfl trivial ?_ rfl;simp only[ntmps126,A86,A84,A85,Nat.reduceAdd,Nat.reduceSub,A9w,A9x,A92,A9z,A9u,A9t]
 gi_wp2_with (refine⟨trivial,?_⟩;gi_at_call 78;refine(callsIn_wide.2 (Ahn _ _ _ _ _ _ _ _ _)).mono ?_;rintro e q ⟨b,A,K,rfl,aw,aj,ap,hA,C,x0,x1,x2,x3,hb⟩)
 simp only[World.size_alloc] at aw aj ap;have ag:Below w.heap.size w q:=blA;have az:q.cell? ⟨w.heap.size+1,0,none⟩=some .nilIface:=clA hb;have ar:q.frozen? ⟨w.heap.size+1,0,none⟩=false:=frA hb;have aC:w.heap.size+2<=q.heap.size:=by have:=hb.size;simp at this;omega
 have dW:Qb w (λ_=>False) q (.slice (some ⟨b,0,none⟩) 1 1) [n]:=by
  refine⟨_,1,rfl,λi hi=>⟨b,0,rfl,(λh=>h), .slice p0 n.one.args.length r0, .slice T n.kids.length r1,?_⟩⟩;obtain rfl:i=0:=by simpa using hi
  simp only[Bbd,A9c,Bab];exact⟨x0,x1,x2,x3,dN.out,uG.out⟩
 have HS:Hid (SeqStopsK Fence.wide (9 - 1) prog 118 #[.pointer (some ⟨K,0,none⟩), .pointer (some ⟨A,0,none⟩)] (λx:Sm w Cj=>#[Value.agg #[.int .i64 x.net.kind, .int .i64 x.net.one.op,x.av,x.kv]]) (Kept w.heap.size (λ_=>False)) (λys=>ys.map Sm.net=Ef [n]) (λpre=>pre.map Sm.net<+:Ef [n]) (Ef [n]).length q):=
  Alt w Cj (λx J=>⟨(Es J).2.2.1,(Es J).2.2.2⟩) (λ_=>False) (λ_ h=>h.elim) 0 A K (λ_ h=>h.elim) (λh=>h) (λh=>h) [n] spz (by simpa using hf) _ q ag (Ban _) dW hA C _
 clear dW hb x0 x1 x2 x3 hA C hf;refine wpIn_rangeFunc_ownH rfl dcz (gf:=118) (lb:=#[.pointer (some ⟨K,0,none⟩), .pointer (some ⟨A,0,none⟩)]) rfl trivial (enters_of func118 krz rfl)
  HS Kept.t (Kept.b omz) (Below.refl _ _) (λ_=>rfl)
  (λpre W=>((W.cell? ⟨w.heap.size+1,0,none⟩=some .nilIface/\W.frozen? ⟨w.heap.size+1,0,none⟩=false)/\Below w.heap.size w W)/\¬0<Bv (pre.map (Ew ∘ Sm.net))/\q.heap.size<=W.heap.size)
  (λc pre W=>(c=.ret/\∃k,0<k/\Bv (pre.map (Ew ∘ Sm.net))=k/\W.cell? ⟨w.heap.size+1,0,none⟩=some (.iface 165 (.int .i64 k)))/\Below w.heap.size w W)
  (OwnFrom.and (OwnFrom.and (Own.from (λs A B row o u hr=>⟨cell_kept o.1 u hr,(frozen_kept o.1 u hr).trans o.2⟩) _) (ownFrom_below (A88 _) omz)) (OwnFrom.and (ownFrom_pure _ _) (λ_ _ _ _ o u _=>A9f o u.size)))
  (λc=>OwnFrom.and (Own.from (λs A B row o u hr=>⟨o.1,o.2.elim λt ht=>⟨t,ht.1,ht.2.1,cell_kept ht.2.2 u hr⟩⟩) _) (ownFrom_below (A88 _) omz))
  ⟨⟨⟨az,ar⟩,ag⟩,by simp[Bv],A88 _⟩
  (λx a' W=>∃I,q.heap.size<=I/\A4p W I x.net.kind x.net.one.op x.av x.kv/\a'={tmps:=#[.agg #[.int .i64 n.kind, .int .i64 n.one.op, .slice p0 n.one.args.length r0, .slice T n.kids.length r1], .pointer (some ⟨w.heap.size,0,none⟩), .pointer (some ⟨w.heap.size+1,0,none⟩), .pointer (some ⟨I,0,none⟩), .agg #[.int .i64 n.kind, .int .i64 n.one.op, .slice p0 n.one.args.length r0, .slice T n.kids.length r1], .func (.func 118) #[] #[.pointer (some ⟨K,0,none⟩), .pointer (some ⟨A,0,none⟩)], .agg #[.int .i64 x.net.kind, .int .i64 x.net.one.op,x.av,x.kv],undef,undef,undef,undef,undef,undef,undef,undef,undef,undef,undef,undef,undef,undef],defers:=[]})
  (λx a' s A B row o u hr=>o.elim λI J=>⟨I,J.1,As7 (β:=Unit) I _ _ _ _ s A B row J.2.1 u (λaa e=>(hr aa e).2),J.2.2⟩) ?assign ?body ?done ?stop
 case assign=>
  rintro l pre x W KK ⟨⟨⟨f,F⟩,L⟩,H,an⟩ aA;obtain⟨x,av,V,O,P,zo⟩:=x;obtain⟨q0,s0,rfl,_⟩:=id O;obtain⟨q1,s1,rfl,_⟩:=id P
  gi_wp2
  exact aA _ _ ((KeepsOthers.alloc _ _).from _) (Kept.of_below L.size (Aa _ _)) ⟨⟨⟨Ox _ f,Pe _ f F⟩,blA⟩,H,by simp;omega⟩ ⟨W.heap.size,omz,⟨by simp[go_sem],by simp[go_sem],by simp[go_sem],by simp[go_sem]⟩,rfl⟩
 case body=>
  rintro l pre x a' W ao _ ⟨⟨⟨f,F⟩,L⟩,H,an⟩ ⟨I,aB,⟨y0,y1,y2,y3⟩,rfl⟩ ay;have r:=Bo f;have rZ:=Bo y0;have hn:w.heap.size<=W.heap.size:=omz
  have E:=hid (λX N=>Ay8 x.net x.av x.kv X (x.hav.below N) (x.hkv.below N) x.mem);have Q:=hid (λX N=>Aew x.net.one.op x.av x.net.one.args X (au X N) (x.hav.below N) (Es x.mem).2.1.2.2 (by have:=(Es x.mem).2.1.2.1;omega));have y:Hid (Bv ((pre++[x]).map (Ew ∘ Sm.net))=if 0<Ew x.net then Ew x.net else 0):=Aai _ _ _ H;have g:Hid (Ew x.net=if Y3 x.net then(if x.net.kind=1 then(if Af x.net.one.op x.net.one.args then 0 else 3) else 0) else 2):=rfl;obtain⟨q0,s0,e0,_⟩:=id x.hav;obtain⟨q1,s1,U,_⟩:=id x.hkv;rw[e0,U] at E;rw[e0] at Q y2;rw[U] at y3;obtain⟨S,af⟩:∃S,S=Y3 x.net:=⟨_,rfl⟩
  obtain⟨ic,ai⟩:∃ic,ic=Af x.net.one.op x.net.one.args:=⟨_,rfl⟩
  obtain⟨R,ah⟩:∃R,R=x.net.kind:=⟨_,rfl⟩
  rw[<-af] at E g;rw[<-ai] at Q g;rw[<-ah] at E g y0;clear af ai ah e0 U ay ao H;cases S
  ·have m:Hid (Bv ((pre++[x]).map (Ew ∘ Sm.net))=2):=by show _=_;rw[y.out,g.out];simp
   clear y g
   gi_wp2_with (refine⟨trivial,?_⟩;gi_at_call 143;refine(CallsIn.inRound l (callsIn_wide.2 (E _ blA))).mono ?_;rintro e Y ⟨rfl,d⟩;have j:=(d.cell (p:=⟨w.heap.size+1,0,none⟩) r).trans f;have M:=(d.frozen (p:=⟨w.heap.size+1,0,none⟩) r).trans F)
   exact⟨by(repeat (first | with_reducible exact KeepsFrom.refl _ _ | with_reducible refine V4 ?_ _ _ | with_reducible refine Qv ?_ | with_reducible refine Ns ?_ _ | with_reducible refine Qw ?_ yCe)),⟨rfl,2,by omega,m.out,Gg j⟩,blA⟩
  ·by_cases Z:R=1
   ·subst Z
    cases ic
    ·have m:Hid (Bv ((pre++[x]).map (Ew ∘ Sm.net))=3):=by show _=_;rw[y.out,g.out];simp
     clear y g
     gi_wp2_with (first | (refine⟨trivial,?_⟩;gi_at_call 143;refine(CallsIn.inRound l (callsIn_wide.2 (E _ blA))).mono ?_;rintro e Y ⟨rfl,d⟩;have j:=(d.cell (p:=⟨w.heap.size+1,0,none⟩) r).trans f;have M:=(d.frozen (p:=⟨w.heap.size+1,0,none⟩) r).trans F;obtain⟨wO,wM⟩:=Eh d) | (refine⟨trivial,?_⟩;gi_at_call 72;refine(CallsIn.inRound l (callsIn_wide.2 (Q _ blA))).mono ?_;rintro e W3 ⟨rfl,G⟩;have c3:=(G.cell (p:=⟨w.heap.size+1,0,none⟩) (Bo j)).trans j;have z3:=(G.frozen (p:=⟨w.heap.size+1,0,none⟩) (Bo j)).trans M))
     exact⟨by(repeat (first | with_reducible exact KeepsFrom.refl _ _ | with_reducible refine V4 ?_ _ _ | with_reducible refine Qv ?_ | with_reducible refine Ns ?_ _ | with_reducible refine Qw ?_ yCe)),⟨rfl,3,by omega,m.out,Gg c3⟩,blA⟩
    ·have m:Hid (Bv ((pre++[x]).map (Ew ∘ Sm.net))=0):=by show _=_;rw[y.out,g.out];simp
     clear y g
     gi_wp2_with (first | (refine⟨trivial,?_⟩;gi_at_call 143;refine(CallsIn.inRound l (callsIn_wide.2 (E _ blA))).mono ?_;rintro e Y ⟨rfl,d⟩;have j:=(d.cell (p:=⟨w.heap.size+1,0,none⟩) r).trans f;have M:=(d.frozen (p:=⟨w.heap.size+1,0,none⟩) r).trans F;obtain⟨wO,wM⟩:=Eh d) | (refine⟨trivial,?_⟩;gi_at_call 72;refine(CallsIn.inRound l (callsIn_wide.2 (Q _ blA))).mono ?_;rintro e W3 ⟨rfl,G⟩;have c3:=(G.cell (p:=⟨w.heap.size+1,0,none⟩) (Bo j)).trans j;have z3:=(G.frozen (p:=⟨w.heap.size+1,0,none⟩) (Bo j)).trans M))
     exact⟨by(repeat (first | with_reducible exact KeepsFrom.refl _ _ | with_reducible refine V4 ?_ _ _ | with_reducible refine Qv ?_ | with_reducible refine Ns ?_ _ | with_reducible refine Qw ?_ yCe)),Vj (Vj (Kept.refl _ _ _) hn d) hn G,⟨⟨⟨c3,z3⟩,blA⟩,by rw[m.out];omega,by have:=d.size;have:=G.size;omega⟩⟩
   ·have aD:(R==1)=false:=by rw[A95];exact Z
    have m:Hid (Bv ((pre++[x]).map (Ew ∘ Sm.net))=0):=by show _=_;rw[y.out,g.out];simp[Z]
    clear y g
    gi_wp2_with (refine⟨trivial,?_⟩;gi_at_call 143;refine(CallsIn.inRound l (callsIn_wide.2 (E _ blA))).mono ?_;rintro e Y ⟨rfl,d⟩;have j:=(d.cell (p:=⟨w.heap.size+1,0,none⟩) r).trans f;have M:=(d.frozen (p:=⟨w.heap.size+1,0,none⟩) r).trans F;obtain⟨wO,wM⟩:=Eh d)
    refine⟨trivial,?_⟩
    gi_wp2
    exact⟨by(repeat (first | with_reducible exact KeepsFrom.refl _ _ | with_reducible refine V4 ?_ _ _ | with_reducible refine Qv ?_ | with_reducible refine Ns ?_ _ | with_reducible refine Qw ?_ yCe)),Vj (Kept.refl _ _ _) hn d,⟨⟨⟨j,M⟩,blA⟩,by rw[m.out];omega,by have:=d.size;omega⟩⟩
 case done=>
  rintro D ys W hD hS ⟨⟨⟨f,F⟩,L⟩,H,_⟩ C;rw[<-Bbf,hS,sV.out] at H;have m:Hid (errOf z=.nilIface):=by show _=_;unfold errOf;rw[if_neg H]
  gi_wp2
  have ae:=(KeepsOthers.setCell W ⟨w.heap.size+1,0,none⟩ .nilIface).same D _ C rfl;refine⟨spz, .inl ⟨_,_,rfl,run_takeDeferred ae,?_⟩⟩;have ab:=cell_kept (Gg f (v:=.nilIface)) (grownBy_putObj' _ D (.deferred none)) (λaa e=>by cases e;exact⟨_,ae,rfl⟩);refine⟨.nilIface,?_,by rw[m.out],(L.setCell (p:=⟨w.heap.size+1,0,none⟩) spz _).trans (belowK_b (w:=w) (A88 _) _ D _ _ omz ae rfl rfl)⟩;simp[results,Tryz.f126,go_sem,ab]
 case stop=>
  rintro D c pre W hD al ⟨⟨rfl,k,hk,ac,f⟩,L⟩ C;have lD:z=k:=by
   rw[<-Bbf] at ac;have:=Xf Ew al (by rw[ac];exact hk)
   rw[sV.out,ac] at this;exact this
  have m:Hid (errOf z=.iface 165 (.int .i64 k)):=by show _=_;unfold errOf;rw[lD,if_pos hk]
  gi_wp2
  refine⟨spz, .inl ⟨_,_,rfl,run_takeDeferred C,?_⟩⟩;have ab:=cell_kept f (grownBy_putObj' _ D (.deferred none)) (λaa e=>by cases e;exact⟨_,C,rfl⟩);refine⟨.iface 165 (.int .i64 k),?_,by rw[m.out],L.trans (belowK_b (w:=w) (A88 _) W D _ _ omz C rfl rfl)⟩;simp[results,Tryz.f126,go_sem,ab]
end Go.Proofs.YtobbpffcggchmaaGreatDoor
namespace Go.Proofs.YtobbpffcggchmaaGreatDoor
open Tryz
open Stil
open Go.RowKit Go.Sort Go.BigFrame
theorem Nl {c:Int}(h:0<c):errOf c=.iface 165 (.int .i64 c):=by unfold errOf;rw[if_pos h]
theorem Qk {c:Int}(h:¬0<c):errOf c=.nilIface:=by unfold errOf;rw[if_neg h]
theorem zb {p:Prop}(h:p:=by
 clear hbs;obtain⟨m,hm,rfl,hcb,hB⟩:=hrel;have iQ:=hid hcb;clear hcb;have hz:w.heap.size<wr.heap.size:=by have:=hB.size;simp at this;omega
 have c0:wr.cell? ⟨w.heap.size,0,none⟩=some (.int .i64 n.kind):=clA hB;have f0:wr.frozen? ⟨w.heap.size,0,none⟩=false:=frA hB;have c1:wr.cell? ⟨w.heap.size,1,none⟩=some (.int .i64 n.one.op):=clA hB;have f1:wr.frozen? ⟨w.heap.size,1,none⟩=false:=frA hB;have c2:wr.cell? ⟨w.heap.size,2,none⟩=some (.slice p0 n.one.args.length r0):=clA hB;have f2:wr.frozen? ⟨w.heap.size,2,none⟩=false:=frA hB;have c3:wr.cell? ⟨w.heap.size,3,none⟩=some (.slice p1 n.kids.length r1):=clA hB;have f3:wr.frozen? ⟨w.heap.size,3,none⟩=false:=frA hB;have c4:wr.cell? ⟨w.heap.size,4,none⟩=some (.slice p2 lc r2):=clA hB;have f4:wr.frozen? ⟨w.heap.size,4,none⟩=false:=frA hB;have c5:wr.cell? ⟨w.heap.size,5,none⟩=some (.slice p3 lk r3):=clA hB;have f5:wr.frozen? ⟨w.heap.size,5,none⟩=false:=frA hB;have hbw:=(Aa _ _).trans (hB.mono omz);by_cases hlt:m<lc
 ·have hlt':m<coils.length:=by have:=ah.out;omega
  obtain⟨b,o,rfl,hbl,hce⟩:=yS m hlt';obtain⟨x0,qi,x1,lW⟩:=hce.below hbw hbl;have jF:=HCF _ (A9a hlt');have HI:=hid (λW hW=>Ai7 coils[m].op qi coils[m].args W (HRR W (hbw.trans (hW.mono hbw.size))) (lW.below hW) jF.2.2 (by have:=jF.2.1;omega));have HD:Hid (Fb coils=(!Ar coils[m].op coils[m].args || Fb (coils.drop (m+1)))):=by show _=_;rw[iQ.out,Aao _ _ hlt']
  obtain⟨ic,hic⟩:∃ic,ic=Ar coils[m].op coils[m].args:=⟨_,rfl⟩
  rw[<-hic] at HI HD;obtain⟨y,hy⟩:∃y,y=coils[m]:=⟨_,rfl⟩
  rw[<-hy] at HI x0;obtain⟨t1,t2,g1,_⟩:=lW;rw[<-hy] at g1;subst g1;clear hic hy hce jF iQ;cases ic
  ·have HX:Hid (R=3):=by show _=_;rw[HR2.out,HD.out];rfl
   go_wp2_with (go_at_call 73;refine(HI _ blA).mono ?_;rintro e w3 ⟨rfl,hb3⟩)
   go_ret;exact⟨by rw[HX.out,Nl omz];rfl,blA⟩
  ·have HX:Hid (Fb coils=Fb (coils.drop (m+1))):=by show _=_;rw[HD.out];rfl
   go_wp2_with (go_at_call 73;refine(HI _ blA).mono ?_;rintro e w3 ⟨rfl,hb3⟩)
   exact⟨⟨m+1,omz,by go_num,HX.out,hB.trans (((Aa _ _).trans (hb3.mono spz)).mono hz)⟩,by simp[intOf];omega⟩
 ·have hcb0:Fb coils=false:=by rw[iQ.out,Bav (by have:=ah.out;omega)];rfl
  have HR3:Hid (R=if lc=0/\lk=0 then 5 else 0):=by show _=_;rw[HR2.out,hcb0];rfl
  clear hcb0 iQ HR2;by_cases hl0:lc=0/\lk=0
  ·have HX:Hid (R=5):=by show _=_;rw[HR3.out,if_pos hl0]
   obtain⟨rfl,rfl⟩:=hl0;clear HR3
   go_wp2
   go_ret;exact⟨by rw[HX.out,Nl omz];rfl,blA⟩
  ·have HX:Hid (R=0):=by show _=_;rw[HR3.out,if_neg hl0]
   clear HR3;have hcase:((lc:Int)==0)=false\/((lk:Int)==0)=false:=by
    by_cases h:lc=0
    ·right;rw[A95];omega
    ·left;rw[A95];omega
   clear hl0;rcases hcase with hq | hq
   ·go_wp2
    all_goals go_ret
    all_goals exact⟨by rw[HX.out,Qk omz];rfl,blA⟩
   ·go_wp2
    all_goals go_ret
    all_goals exact⟨by rw[HX.out,Qk omz];rfl,blA⟩):p:=h
theorem Ay6 (x:Stil.Arm)(j z I O:Value)(w:World)(hr:Ei w)(r:A7 w j x.net.one.args)(q:D8 w z x.net.kids)(F:Fh w I x.coils)(M:Eb w O x.kids)(L:D7 x):
  Calls prog 123 #[.agg #[.int .i64 x.net.kind, .int .i64 x.net.one.op,j,z,I,O]] w λe V=>e=.returned (errOf (Cm x))/\Below w.heap.size w V:=by
 obtain⟨n,coils,kids⟩:=x;simp only at r q F M ⊢;obtain⟨t,P,D,S,_⟩:=H5 L;simp only at t P D S;have s:=hid (λW hW=>Tm n j z W (r.below hW) (q.below hW) t);have f:=hid (λW hW=>Ay5 n j z W (hr.below hW) (r.below hW) (q.below hW) t);have HCF:=hid D;have HRR:=hid (λW (h:Below w.heap.size w W)=>hr.below h);obtain⟨p0,r0,rfl,_⟩:=r;obtain⟨p1,r1,rfl,_⟩:=q;obtain⟨p2,r2,rfl,H⟩:=F;obtain⟨p3,r3,rfl,_⟩:=M;have yS:=hid H;have d:Hid (Cm ⟨n,coils,kids⟩=if Bl n=false/\0<Bc n then Bc n else if Fb coils then 3 else if coils.length=0/\kids.length=0 then 5 else 0):=rfl;obtain⟨C,G⟩:∃C,C=Bl n:=⟨_,rfl⟩
 obtain⟨k,J⟩:∃k,k=Bc n:=⟨_,rfl⟩
 rw[<-G] at s d;rw[<-J] at f d;obtain⟨lc,E⟩:∃lc,lc=coils.length:=⟨_,rfl⟩
 obtain⟨lk,N⟩:∃lk,lk=kids.length:=⟨_,rfl⟩
 have ah:=hid E;rw[<-E] at P d ⊢;rw[<-N] at S d ⊢;obtain⟨R,Q⟩:∃R,R=Cm ⟨n,coils,kids⟩:=⟨_,rfl⟩
 rw[<-Q] at d ⊢;clear L t D H G J E N Q hr;cases C
 ·by_cases g:0<k
  ·have HX:Hid (R=k):=by show _=_;rw[d.out];simp[g]
   rw[Nl g] at f;go_enter func123,ntmps123
   go_wp2_with (first | (go_at_call 62;refine(s _ blA).mono ?_;rintro e A ⟨rfl,c⟩;obtain⟨l,B⟩:=Eh c) | (go_at_call 126;refine(f _ blA).mono ?_;rintro e K ⟨rfl,u⟩))
   go_ret;exact⟨by rw[HX.out,Nl g];rfl,blA⟩
  ·have HR2:Hid (R=if Fb coils then 3 else if lc=0/\lk=0 then 5 else 0):=by show _=_;rw[d.out];simp[g]
   rw[Qk g] at f;clear d;go_enter func123,ntmps123
   go_wp2_with (first | (go_at_call 62;refine(s _ blA).mono ?_;rintro e A ⟨rfl,c⟩;obtain⟨l,B⟩:=Eh c;have U:w.heap.size<A.heap.size:=A82 spz c.size) | (go_at_call 126;refine(f _ blA).mono ?_;rintro e K ⟨rfl,u⟩;obtain⟨T,X⟩:=Eh u))
   have hbs:Below (w.heap.size+1) (w.alloc (.cells #[.int .i64 n.kind, .int .i64 n.one.op, .slice p0 n.one.args.length r0, .slice p1 n.kids.length r1, .slice p2 lc r2, .slice p3 lk r3] 38)) K:=by
    have h1:=c.size;simp only[World.size_alloc] at c h1;exact c.trans (u.mono h1)
   clear c u l B T X U;go_loopw [19] (λi wr=>∃m:Nat,m<=lc/\i=.int .i64 m/\Fb coils=Fb (coils.drop m)/\Below (w.heap.size+1) (w.alloc (.cells #[.int .i64 n.kind, .int .i64 n.one.op, .slice p0 n.one.args.length r0, .slice p1 n.kids.length r1, .slice p2 lc r2, .slice p3 lk r3] 38)) wr) (λi _=>lc - (intOf i).toNat)
   case atStart=>exact⟨0,omz,rfl,rfl,hbs⟩
   case round=>exact zb
 ·have HR2:Hid (R=if Fb coils then 3 else if lc=0/\lk=0 then 5 else 0):=by show _=_;rw[d.out];simp
  clear d f;go_enter func123,ntmps123
  go_wp2_with (go_at_call 62;refine(s _ blA).mono ?_;rintro e A ⟨rfl,c⟩;obtain⟨l,B⟩:=Eh c)
  have hbs:Below (w.heap.size+1) (w.alloc (.cells #[.int .i64 n.kind, .int .i64 n.one.op, .slice p0 n.one.args.length r0, .slice p1 n.kids.length r1, .slice p2 lc r2, .slice p3 lk r3] 38)) A:=by simpa using c
  clear c l B;go_loopw [19] (λi wr=>∃m:Nat,m<=lc/\i=.int .i64 m/\Fb coils=Fb (coils.drop m)/\Below (w.heap.size+1) (w.alloc (.cells #[.int .i64 n.kind, .int .i64 n.one.op, .slice p0 n.one.args.length r0, .slice p1 n.kids.length r1, .slice p2 lc r2, .slice p3 lk r3] 38)) wr) (λi _=>lc - (intOf i).toNat)
  case atStart=>exact⟨0,omz,rfl,rfl,hbs⟩
  case round=>exact zb
end Go.Proofs.YtobbpffcggchmaaGreatDoor
namespace Go.Proofs.YtobbpffcggchmaaGreatDoor
open Tryz
open Stil
open Go.RowKit Go.Sort Go.BigFrame Go.Shelf
attribute [local go_sem] Oper.semAt_some
theorem Atl (x:Stil.Arm)(T H cv V:Value)(w:World)(hr:Ei w)(L:A7 w T x.net.one.args)(G:D8 w H x.net.kids)(X:Fh w cv x.coils)(aa:Eb w V x.kids)(hf:D7 x):
  Calls prog 115 #[.agg #[.int .i64 x.net.kind, .int .i64 x.net.one.op,T,H,cv,V]] w λe w'=>e=.returned (errOf (F9 x))/\Below w.heap.size w w':=by
 have r:Hid (F9 x=if Bl x.net then 4 else Fv x):=rfl;have sV:Hid (Bv ((Dz [x]).map Cm)=Fv x):=by
  show _=_
  rw[<-Acm];simp[Dz]
 have eF:=hid (λW hW=>Tm x.net T H W (L.below hW) (G.below hW) (H5 hf).1);have az:=hid (λW (h:Below w.heap.size w W)=>hr.below h);have dN:Hid (A7 w T x.net.one.args/\D8 w H x.net.kids/\Fh w cv x.coils/\Eb w V x.kids):=⟨L,G,X,aa⟩
 obtain⟨P,N,rfl,_⟩:=L;obtain⟨F,J,rfl,_⟩:=G;obtain⟨Y,Z,rfl,_⟩:=X;obtain⟨p3,r3,rfl,_⟩:=aa;obtain⟨R,hR⟩:∃R,R=F9 x:=⟨_,rfl⟩
 obtain⟨ab,hz⟩:∃ab,ab=Fv x:=⟨_,rfl⟩
 obtain⟨nn,al⟩:∃nn,nn=Bl x.net:=⟨_,rfl⟩
 rw[<-hR] at r ⊢;rw[<-hz] at r sV;rw[<-al] at r eF;clear hR hz al;refine(callsIn_wide (n:=9)).1 ?_;cases nn
 ·have o:Hid (R=ab):=by show _=_;rw[r.out];simp
  clear r;refine callsIn_of_wp_marks func115 rfl trivial ?_ rfl;simp only[ntmps115,A86,A84,A85,Nat.reduceAdd,Nat.reduceSub,A9w,A9x,A92,A9z,A9u,A9t]
  gi_wp2_with (first | (refine⟨trivial,?_⟩;gi_at_call 62;refine(callsIn_wide.2 (eF _ blA)).mono ?_;rintro e d ⟨rfl,l⟩;obtain⟨aB,ap⟩:=Eh l) | (refine⟨trivial,?_⟩;gi_at_call 61;refine(callsIn_wide.2 (Aho _ _ _ _)).mono ?_;rintro e f ⟨A,K,rfl,ao,ax,hA,q,hb⟩))
  have aG:Below w.heap.size w d:=blA;have an:Below w.heap.size w f:=blA;have h9:=l.size;have h1:=hb.size;simp only[World.size_alloc] at ao ax h9 h1;have x0:f.cell? ⟨d.heap.size,0,none⟩=some (.int .i64 x.net.kind):=clA hb;have x1:f.cell? ⟨d.heap.size,1,none⟩=some (.int .i64 x.net.one.op):=clA hb;have x2:f.cell? ⟨d.heap.size,2,none⟩=some (.slice P x.net.one.args.length N):=clA hb;have x3:f.cell? ⟨d.heap.size,3,none⟩=some (.slice F x.net.kids.length J):=clA hb;have x4:f.cell? ⟨d.heap.size,4,none⟩=some (.slice Y x.coils.length Z):=clA hb;have x5:f.cell? ⟨d.heap.size,5,none⟩=some (.slice p3 x.kids.length r3):=clA hb;have aD:f.cell? ⟨w.heap.size+1,0,none⟩=some .nilIface:=by
   rw[hb.cell (p:=⟨w.heap.size+1,0,none⟩) yAb,(Aa d _).cell (p:=⟨w.heap.size+1,0,none⟩) (show w.heap.size+1<d.heap.size by omega),l.cell (p:=⟨w.heap.size+1,0,none⟩) spz];simp[go_sem]
  have ay:f.frozen? ⟨w.heap.size+1,0,none⟩=false:=by
   rw[hb.frozen (p:=⟨w.heap.size+1,0,none⟩) yAb,(Aa d _).frozen (p:=⟨w.heap.size+1,0,none⟩) (show w.heap.size+1<d.heap.size by omega),l.frozen (p:=⟨w.heap.size+1,0,none⟩) spz];simp[go_sem]
  have aF:w.heap.size+2<=f.heap.size:=omz
  have dW:O0 w (λ_=>False) f (.slice (some ⟨d.heap.size,0,none⟩) 1 1) [x]:=by
   refine⟨_,1,rfl,λi hi=>⟨d.heap.size,0,rfl,(λh=>h), .slice P x.net.one.args.length N, .slice F x.net.kids.length J, .slice Y x.coils.length Z, .slice p3 x.kids.length r3,?_⟩⟩;obtain rfl:i=0:=by simpa using hi
   simp only[Bbd,A9c,Bab];exact⟨x0,x1,x2,x3,x4,x5,dN.out⟩
  have HS:Hid (SeqStopsK Fence.wide (9 - 1) prog 105 #[.pointer (some ⟨K,0,none⟩), .pointer (some ⟨A,0,none⟩)] (λy:Qy w D7=>#[Value.agg #[.int .i64 y.arm.net.kind, .int .i64 y.arm.net.one.op,y.av,y.nv,y.cv,y.kv]]) (Kept w.heap.size (λ_=>False)) (λys=>ys.map Qy.arm=Dz [x]) (λpre=>pre.map Qy.arm<+:Dz [x]) (Dz [x]).length f):=
   Alu w D7 (λy hy=>⟨(H5 hy).2.2.2.1,(H5 hy).2.2.2.2⟩) (λ_=>False) (λ_ h=>h.elim) 0 A K (λ_ h=>h.elim) (λh=>h) (λh=>h) [x] spz (by simpa using hf) _ f an (Ban _) dW hA q _
  clear dW hb l aB ap x0 x1 x2 x3 x4 x5 hA q hf;refine wpIn_rangeFunc_ownH rfl dcz (gf:=105) (lb:=#[.pointer (some ⟨K,0,none⟩), .pointer (some ⟨A,0,none⟩)]) rfl trivial (enters_of func105 krz rfl)
   HS Kept.t (Kept.b omz) (Below.refl _ _) (λ_=>rfl)
   (λpre W=>((W.cell? ⟨w.heap.size+1,0,none⟩=some .nilIface/\W.frozen? ⟨w.heap.size+1,0,none⟩=false)/\Below w.heap.size w W)/\¬0<Bv (pre.map (Cm ∘ Qy.arm))/\f.heap.size<=W.heap.size)
   (λc pre W=>(c=.ret/\∃k,0<k/\Bv (pre.map (Cm ∘ Qy.arm))=k/\W.cell? ⟨w.heap.size+1,0,none⟩=some (.iface 165 (.int .i64 k)))/\Below w.heap.size w W)
   (OwnFrom.and (OwnFrom.and (Own.from (λs A ac row j m hr=>⟨cell_kept j.1 m hr,(frozen_kept j.1 m hr).trans j.2⟩) _) (ownFrom_below (A88 _) omz)) (OwnFrom.and (ownFrom_pure _ _) (λ_ _ _ _ j m _=>A9f j m.size)))
   (λc=>OwnFrom.and (Own.from (λs A ac row j m hr=>⟨j.1,j.2.elim λt ht=>⟨t,ht.1,ht.2.1,cell_kept ht.2.2 m hr⟩⟩) _) (ownFrom_below (A88 _) omz))
   ⟨⟨⟨aD,ay⟩,an⟩,by simp[Bv],A88 _⟩
   (λy a' W=>∃B,f.heap.size<=B/\A0u W B y.arm.net.kind y.arm.net.one.op y.av y.nv y.cv y.kv/\a'={tmps:=#[.agg #[.int .i64 x.net.kind, .int .i64 x.net.one.op, .slice P x.net.one.args.length N, .slice F x.net.kids.length J, .slice Y x.coils.length Z, .slice p3 x.kids.length r3], .pointer (some ⟨w.heap.size,0,none⟩), .pointer (some ⟨w.heap.size+1,0,none⟩), .pointer (some ⟨B,0,none⟩),undef, .pointer (some ⟨w.heap.size,0,none⟩), .agg #[.int .i64 x.net.kind, .int .i64 x.net.one.op, .slice P x.net.one.args.length N, .slice F x.net.kids.length J], .bool false,undef, .agg #[.int .i64 x.net.kind, .int .i64 x.net.one.op, .slice P x.net.one.args.length N, .slice F x.net.kids.length J, .slice Y x.coils.length Z, .slice p3 x.kids.length r3], .slice (some ⟨d.heap.size,0,none⟩) 1 1, .func (.func 105) #[] #[.pointer (some ⟨K,0,none⟩), .pointer (some ⟨A,0,none⟩)], .agg #[.int .i64 y.arm.net.kind, .int .i64 y.arm.net.one.op,y.av,y.nv,y.cv,y.kv],undef,undef,undef,undef,undef],defers:=[]})
   (λy a' s A ac row j m hr=>j.elim λB hx=>⟨B,hx.1,Aib (β:=Unit) B _ _ _ _ _ _ s A ac row hx.2.1 m (λae e=>(hr ae e).2),hx.2.2⟩) ?assign ?body ?done ?stop
  case assign=>
   rintro ai pre y W KK ⟨⟨⟨g,O⟩,E⟩,u,au⟩ aA;obtain⟨y,T,H,cv,V,L,G,X,aa,zo⟩:=y;obtain⟨q0,s0,rfl,_⟩:=id L;obtain⟨q1,s1,rfl,_⟩:=id G;obtain⟨q2,s2,rfl,_⟩:=id X;obtain⟨q3,s3,rfl,_⟩:=id aa
   gi_wp2
   exact aA _ _ ((KeepsOthers.alloc _ _).from _) (Kept.of_below E.size (Aa _ _)) ⟨⟨⟨Ox _ g,Pe _ g O⟩,blA⟩,u,by simp;omega⟩ ⟨W.heap.size,omz,⟨by simp[go_sem],by simp[go_sem],by simp[go_sem],by simp[go_sem],by simp[go_sem],by simp[go_sem]⟩,rfl⟩
  case body=>
   rintro ai pre y a' W aw _ ⟨⟨⟨g,O⟩,E⟩,u,au⟩ ⟨B,aE,⟨y0,y1,y2,y3,y4,y5⟩,rfl⟩ aC;have U:=Bo g;have hn:w.heap.size<=W.heap.size:=omz
   have C:=hid (λak I=>Ay6 y.arm y.av y.nv y.cv y.kv ak (az ak I) (y.hav.below I) (y.hnv.below I) (y.hcv.below I) (y.hkv.below I) y.mem);have S:Hid (Bv ((pre++[y]).map (Cm ∘ Qy.arm))=if 0<Cm y.arm then Cm y.arm else 0):=Aai _ _ _ u;obtain⟨q0,s0,e0,_⟩:=id y.hav;obtain⟨q1,s1,e1,_⟩:=id y.hnv;obtain⟨q2,s2,e2,_⟩:=id y.hcv;obtain⟨q3,s3,e3,_⟩:=id y.hkv;rw[e0,e1,e2,e3] at C;rw[e0] at y2;rw[e1] at y3;rw[e2] at y4;rw[e3] at y5;obtain⟨Q,aj⟩:∃Q,Q=Cm y.arm:=⟨_,rfl⟩
   rw[<-aj] at C S;clear aj e0 e1 e2 e3 aC aw u;by_cases M:0<Q
   ·rw[Nl M] at C
    have o:Hid (Bv ((pre++[y]).map (Cm ∘ Qy.arm))=Q):=by show _=_;rw[S.out,if_pos M]
    clear S
    gi_wp2_with (refine⟨trivial,?_⟩;gi_at_call 123;refine(CallsIn.inRound ai (callsIn_wide.2 (C _ blA))).mono ?_;rintro e W2 ⟨rfl,z⟩;have c2:=(z.cell (p:=⟨w.heap.size+1,0,none⟩) U).trans g;have z2:=(z.frozen (p:=⟨w.heap.size+1,0,none⟩) U).trans O)
    exact⟨by(repeat (first | with_reducible exact KeepsFrom.refl _ _ | with_reducible refine V4 ?_ _ _ | with_reducible refine Qv ?_ | with_reducible refine Ns ?_ _ | with_reducible refine Qw ?_ yCe)),⟨rfl,Q,M,o.out,Gg c2⟩,blA⟩
   ·rw[Qk M] at C
    have o:Hid (Bv ((pre++[y]).map (Cm ∘ Qy.arm))=0):=by show _=_;rw[S.out,if_neg M]
    clear S
    gi_wp2_with (refine⟨trivial,?_⟩;gi_at_call 123;refine(CallsIn.inRound ai (callsIn_wide.2 (C _ blA))).mono ?_;rintro e W2 ⟨rfl,z⟩;have c2:=(z.cell (p:=⟨w.heap.size+1,0,none⟩) U).trans g;have z2:=(z.frozen (p:=⟨w.heap.size+1,0,none⟩) U).trans O)
    exact⟨by(repeat (first | with_reducible exact KeepsFrom.refl _ _ | with_reducible refine V4 ?_ _ _ | with_reducible refine Qv ?_ | with_reducible refine Ns ?_ _ | with_reducible refine Qw ?_ yCe)),Vj (Kept.refl _ _ _) hn z,⟨⟨⟨c2,z2⟩,blA⟩,by rw[o.out];omega,by have:=z.size;omega⟩⟩
  case done=>
   rintro D ys W hD hS ⟨⟨⟨g,O⟩,E⟩,u,_⟩ q;rw[<-Bbf,hS,sV.out] at u;have HY:Hid (errOf R=.nilIface):=by show _=_;rw[o.out,Qk u]
   gi_wp2
   have ah:=(KeepsOthers.setCell W ⟨w.heap.size+1,0,none⟩ .nilIface).same D _ q rfl;refine⟨spz, .inl ⟨_,_,rfl,run_takeDeferred ah,?_⟩⟩;have af:=cell_kept (Gg g (v:=.nilIface)) (grownBy_putObj' _ D (.deferred none)) (λae e=>by cases e;exact⟨_,ah,rfl⟩);refine⟨.nilIface,?_,by rw[HY.out],(E.setCell (p:=⟨w.heap.size+1,0,none⟩) spz _).trans (belowK_b (w:=w) (A88 _) _ D _ _ omz ah rfl rfl)⟩;simp[results,Tryz.f115,go_sem,af]
  case stop=>
   rintro D c pre W hD ar ⟨⟨rfl,k,hk,ag,g⟩,E⟩ q;have lD:ab=k:=by
    rw[<-Bbf] at ag;have:=Xf Cm ar (by rw[ag];exact hk)
    rw[sV.out,ag] at this;exact this
   have HY:Hid (errOf R=.iface 165 (.int .i64 k)):=by show _=_;rw[o.out,lD,Nl hk]
   gi_wp2
   refine⟨spz, .inl ⟨_,_,rfl,run_takeDeferred q,?_⟩⟩;have af:=cell_kept g (grownBy_putObj' _ D (.deferred none)) (λae e=>by cases e;exact⟨_,q,rfl⟩);refine⟨.iface 165 (.int .i64 k),?_,by rw[HY.out],E.trans (belowK_b (w:=w) (A88 _) W D _ _ omz q rfl rfl)⟩;simp[results,Tryz.f115,go_sem,af]
 ·have o:Hid (R=4):=by show _=_;rw[r.out];simp
  clear r;refine callsIn_of_wp_marks func115 rfl trivial ?_ rfl;simp only[ntmps115,A86,A84,A85,Nat.reduceAdd,Nat.reduceSub,A9w,A9x,A92,A9z,A9u,A9t]
  gi_wp2_with (refine⟨trivial,?_⟩;gi_at_call 62;refine(callsIn_wide.2 (eF _ blA)).mono ?_;rintro e d ⟨rfl,l⟩;have c9:d.cell? ⟨w.heap.size+1,0,none⟩=some .nilIface:=(clA l);have z9:d.frozen? ⟨w.heap.size+1,0,none⟩=false:=(frA l))
  refine⟨.iface 165 (.int .i64 4),?_,by rw[o.out,Nl omz],blA⟩;simp[results,Tryz.f115,go_sem,c9]
end Go.Proofs.YtobbpffcggchmaaGreatDoor
namespace Go.Proofs.YtobbpffcggchmaaGreatDoor
open Tryz
open Stil
open Go.RowKit Go.Sort Go.BigFrame
def lookOf (many:Bool)(p:Int × Nat):Value:=if many then .iface 165 (.int .i64 1) else if 0<p.1 then .iface 168 (.agg #[.int .i64 p.2, .iface 165 (.int .i64 p.1)]) else .nilIface
theorem Ath (l:List Stil.Arm)(D:Value)(w:World)(hr:Ei w)(g:Eb w D l)(hl:l.length<=1048576)(N:Ce l<=1000000000)(B:∀x∈l,D7 x):
  Calls prog 98 #[D] w λe w'=>e=.returned (lookOf (decide (40<l.length\/400<Ce l)) (Gf l 0))/\Below w.heap.size w w':=by
 have u:=hid (λW c=>Aeu l D 400 W (g.below c) B hl N omz omz);have HF:=hid B;have ai:=hid (λW (h:Below w.heap.size w W)=>hr.below h);obtain⟨a,cap,rfl,L⟩:=g;have HC:=hid L;obtain⟨d,E⟩:∃d,d=l.length:=⟨_,rfl⟩
 obtain⟨z,P⟩:∃z,z=Ce l:=⟨_,rfl⟩
 have U:=hid E;rw[<-E] at hl u ⊢;rw[<-P] at u N ⊢;obtain⟨Q,J⟩:∃Q,Q=Gf l 0:=⟨_,rfl⟩
 rw[<-J];have y:=hid J;obtain⟨R,I⟩:∃R,R=lookOf (decide (40<d\/400<z)) Q:=⟨_,rfl⟩
 rw[<-I];have f:=hid I;clear L B E P J I hr;by_cases h1:40<d
 ·have m:Hid (R=.iface 165 (.int .i64 1)):=by show _=_;rw[f.out,Bba (.inl h1)];rfl
  clear f y;go_enter func98,ntmps98
  go_wp2
  go_ret;exact⟨by rw[m.out];rfl,blA⟩
 ·by_cases h2:400<z
  ·have m:Hid (R=.iface 165 (.int .i64 1)):=by show _=_;rw[f.out,Bba (.inr h2)];rfl
   clear f y;go_enter func98,ntmps98
   go_wp2_with (go_at_call 27;refine(u _ blA).mono ?_;rintro e O ⟨r,rfl,_,aa,ab,M⟩;have ah:=aa omz;clear aa)
   go_ret;exact⟨by rw[m.out];rfl,blA⟩
  ·have m:Hid (R=lookOf false Q):=by show _=_;rw[f.out,Ba1 omz]
   clear f;go_enter func98,ntmps98
   go_wp2_with (go_at_call 27;refine(u _ blA).mono ?_;rintro e O ⟨r,rfl,ae,_,ab,M⟩;have ah:¬(400:Int)<r:=omz;clear ae)
   have S:Below w.heap.size w O:=blA;clear M;go_loopw [17] (λi wr=>∃j:Nat,j<=d/\i=.int .i64 j/\Q=Gf (l.drop j) j/\Below w.heap.size w wr) (λi _=>d - (intOf i).toNat)
   case atStart=>exact⟨0,omz,rfl,y.out,S⟩
   case round=>
    clear S y;obtain⟨j,hj,rfl,Z,v⟩:=hrel;have K:=hid Z;clear Z;by_cases al:j<d
    ·have C:j<l.length:=by have:=U.out;omega
     obtain⟨b,o,rfl,af,T⟩:=HC j C;obtain⟨Y,ac,ak,x4,x5,F,g⟩:=(Sl.below v _ _ _ T af).open;obtain⟨x0,x1,kQ,ag,x2,x3,H,A⟩:=Y.open;have k:=hid (λW c=>Atl l[j] kQ ag ac ak W (ai W (v.trans (c.mono v.size))) (H.below c) (A.below c) (F.below c) (g.below c) (HF _ (A9a C)));have G:Hid (Q=if 0<F9 l[j] then(F9 l[j],j) else Gf (l.drop (j+1)) (j+1)):=by show _=_;rw[K.out,Agj l j C]
     obtain⟨s,X⟩:∃s,s=F9 l[j]:=⟨_,rfl⟩
     obtain⟨x,V⟩:∃x,x=l[j]:=⟨_,rfl⟩
     rw[<-X] at k G;rw[<-V] at k x0 x1 H A F g;obtain⟨t0,u0,rfl,_⟩:=H;obtain⟨t1,u1,rfl,_⟩:=A;obtain⟨t2,u2,rfl,_⟩:=F;obtain⟨t3,u3,rfl,_⟩:=g;clear X V T Y K;by_cases q:0<s
     ·have t:Hid (R=.iface 168 (.agg #[.int .i64 j, .iface 165 (.int .i64 s)])):=by show _=_;rw[m.out,G.out,if_pos q];unfold lookOf;simp[q]
      rw[Nl q] at k
      go_wp2_with (go_at_call 115;refine(k _ blA).mono ?_;rintro e w4 ⟨rfl,aj⟩)
      go_ret;exact⟨by rw[t.out];rfl,blA⟩
     ·have t:Hid (Q=Gf (l.drop (j+1)) (j+1)):=by show _=_;rw[G.out,if_neg q]
      rw[Qk q] at k
      go_wp2_with (go_at_call 115;refine(k _ blA).mono ?_;rintro e w4 ⟨rfl,aj⟩)
      exact⟨⟨j+1,omz,by go_num,t.out,blA⟩,by simp[intOf];omega⟩
    ·have t:Hid (R=.nilIface):=by show _=_;rw[m.out,K.out,Bav (by have:=U.out;omega)];rfl
     go_wp2
     go_ret;exact⟨by rw[t.out];rfl,v⟩
end Go.Proofs.YtobbpffcggchmaaGreatDoor
namespace Go.Proofs.YtobbpffcggchmaaGreatDoor
open Go.RowKit Go.Sort Go.BigFrame
end Go.Proofs.YtobbpffcggchmaaGreatDoor
namespace Go.Proofs.YtobbpffcggchmaaGreatDoor
open Go.RowKit Go.Sort Go.BigFrame Go.Shelf
attribute [local go_sem] Oper.semAt_some
end Go.Proofs.YtobbpffcggchmaaGreatDoor
namespace Go.Proofs.YtobbpffcggchmaaGreatDoor
open Go.RowKit Go.Sort Go.BigFrame
end Go.Proofs.YtobbpffcggchmaaGreatDoor
namespace Go.Proofs.YtobbpffcggchmaaGreatDoor
open Go.RowKit Go.Sort Go.BigFrame
end Go.Proofs.YtobbpffcggchmaaGreatDoor
