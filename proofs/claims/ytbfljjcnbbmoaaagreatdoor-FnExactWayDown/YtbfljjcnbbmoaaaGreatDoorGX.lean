import Derived.Test.YtbfljjcnbbmoaaaGreatDoorGO
import Derived.Test.YtbfljjcnbbmoaaaGreatDoorGJ
set_option maxHeartbeats 4000000
set_option maxRecDepth 100000
namespace Go.Proofs.YtbfljjcnbbmoaaaGreatDoor
open Stil
open Go.RowKit Go.Sort Go.BigFrame Go.Shelf
attribute [local go_sem] Oper.semAt_some
def errOf (c:Int):Value:=if 0<c then .iface 146 (.int .i64 c) else .nilIface
theorem zm {p:Prop}(h:p:=by
 go_enter Tryz.func142,Tryz.ntmps142
 go_wp2_with (go_at_call 97;refine(HC _).mono ?_;rintro e w1 ⟨rfl,hb⟩;obtain⟨hc,hfz⟩:=Dq hb)
 all_goals go_ret
 all_goals exact⟨Ar (by rw[HX.out];simp),blA⟩):p:=h
theorem Avv (n:Stil.Net)(av kv:Value)(w:World)(hav:Bi w av n.one.args)(hkv:Dx w kv n.kids)(hf:Dc n):
  Calls Tryz.prog 142 #[.agg #[.int .i64 n.kind, .int .i64 n.one.op,av,kv]] w λe w'=>e=.returned (.bool (Yq n))/\Below w.heap.size w w':=by
 obtain⟨_,he,hl,_⟩:=Dp hf;have hla:=he.2.1;obtain⟨p0,r0,rfl,_⟩:=hav;obtain⟨p1,r1,rfl,_⟩:=hkv;clear hf he;have HC:Hid (∀W,Calls Tryz.prog 97 #[.agg #[.int .i64 n.one.op, .slice p0 n.one.args.length r0]] W λe w'=>e=.returned (.bool (n.one.op==0 && n.one.args.length==0))/\Below W.heap.size W w'):=λW=>Adt _ _ _ _ _ omz
 have HN:Hid (Yq n=if n.kind=1 then decide (n.kids.length=0) else if n.kind=2\/n.kind=3 then(n.one.op==0 && n.one.args.length==0) && decide (0<n.kids.length) else if n.kind=4 then(n.one.op==0 && n.one.args.length==0) && decide (n.kids.length=1) else false):=rfl;obtain⟨bb,hbb⟩:∃bb,bb=(n.one.op==0 && n.one.args.length==0):=⟨_,rfl⟩
 rw[<-hbb] at HN HC;obtain⟨lk,hlk⟩:∃lk,lk=n.kids.length:=⟨_,rfl⟩
 obtain⟨la,fV⟩:∃la,la=n.one.args.length:=⟨_,rfl⟩
 rw[<-hlk] at HN hl ⊢;rw[<-fV] at HC hla ⊢;obtain⟨k,hk⟩:∃k,k=n.kind:=⟨_,rfl⟩
 rw[<-hk] at HN ⊢;obtain⟨R,hR⟩:∃R,R=Yq n:=⟨_,rfl⟩
 rw[<-hR] at HN ⊢;clear hbb hlk fV hk hR;by_cases k1:k=1
 ·subst k1
  have HX:Hid (R=((lk:Int)==0)):=by show _=_;rw[HN.out,if_pos rfl,Bool.eq_iff_iff];simp
  clear HN HC;go_enter Tryz.func142,Tryz.ntmps142
  go_wp2
  all_goals go_ret
  all_goals exact⟨Ar (by rw[HX.out]),blA⟩
 ·have e1:(k==1)=false:=by rw[A5a];exact k1
  by_cases k23:k=2\/k=3
  ·have HX:Hid (R=(bb && decide ((0:Int)<(lk:Int)))):=by show _=_;rw[HN.out,if_neg k1,if_pos k23,Bool.eq_iff_iff];simp
   clear HN;cases bb
   ·rcases k23 with rfl | rfl
    ·exact zm
    ·exact zm
   ·rcases k23 with rfl | rfl
    ·exact zm
    ·exact zm
  ·have e2:(k==2)=false:=by rw[A5a];omega
   have e3:(k==3)=false:=by rw[A5a];omega
   by_cases k4:k=4
   ·subst k4
    have HX:Hid (R=(bb && ((lk:Int)==1))):=by show _=_;rw[HN.out,if_neg k1,if_neg k23,if_pos rfl,Bool.eq_iff_iff];simp;omega
    clear HN;cases bb
    ·exact zm
    ·exact zm
   ·have e4:(k==4)=false:=by rw[A5a];exact k4
    have HX:Hid (R=false):=by show _=_;rw[HN.out,if_neg k1,if_neg k23,if_neg k4]
    clear HN HC;go_enter Tryz.func142,Tryz.ntmps142
    go_wp2
    all_goals go_ret
    all_goals exact⟨Ar (by rw[HX.out]),blA⟩
end Go.Proofs.YtbfljjcnbbmoaaaGreatDoor
namespace Go.Proofs.YtbfljjcnbbmoaaaGreatDoor
open Stil
open Go.RowKit Go.Sort Go.BigFrame Go.Shelf
def A0b (W:World)(B:Nat)(k op:Int)(a n:Value):Prop:=W.cell? ⟨B,0,none⟩=some (.int .i64 k)/\W.cell? ⟨B,1,none⟩=some (.int .i64 op)/\W.cell? ⟨B,2,none⟩=some a/\W.cell? ⟨B,3,none⟩=some n
theorem Ap6 {β:Type}(B:Nat)(k op:Int)(a n:Value):Own (λ(_:β) W=>A0b W B k op a n):=λ_ _ _ _ hs hg hr=>
 ⟨cell_kept hs.1 hg hr,cell_kept hs.2.1 hg hr,cell_kept hs.2.2.1 hg hr,cell_kept hs.2.2.2 hg hr⟩
end Go.Proofs.YtbfljjcnbbmoaaaGreatDoor
namespace Go.Proofs.YtbfljjcnbbmoaaaGreatDoor
open Stil
open Go.RowKit Go.Sort Go.BigFrame Go.Shelf
variable {α:Type}
attribute [local go_sem] Oper.semAt_some
theorem Wj (f:α->Int){a b:List α}(h:a<+:b)(hp:0<A8 (a.map f)):A8 (b.map f)=A8 (a.map f):=by
 obtain⟨c,rfl⟩:=h;rw[A4m,Qq,if_pos hp]
theorem Zu (f:α->Int)(l:List α)(x:α)(h:¬0<A8 (l.map f)):A8 ((l++[x]).map f)=if 0<f x then f x else 0:=by
 rw[A4m,Qq,if_neg h];simp[A8]
theorem Avs (n:Stil.Net)(av kv:Value)(w:World)(hr:Es w)(hav:Bi w av n.one.args)(hkv:Dx w kv n.kids)(hf:Dc n):
  Calls Tryz.prog 136 #[.agg #[.int .i64 n.kind, .int .i64 n.one.op,av,kv]] w λe w'=>e=.returned (errOf (Au n))/\Below w.heap.size w w':=by
 have wL:Hid (A8 ((Ei [n]).map E8)=Au n):=by show _=_;rw[Adg,Ai8]
 have hnb:=Ji n;obtain⟨z,hz⟩:∃z,z=Au n:=⟨_,rfl⟩
 rw[<-hz] at wL hnb ⊢;clear hz;refine(callsIn_wide (n:=9)).1 ?_;have dS:=hid hav;have HKV:=hid hkv;have HRR:=hid (λW (h:Below w.heap.size w W)=>hr.below h);obtain⟨p0,r0,rfl,_⟩:=hav;obtain⟨p1,r1,rfl,_⟩:=hkv;refine callsIn_of_wp_marks Tryz.func136 rfl trivial ?_ rfl;simp only[Tryz.ntmps136,A4b,A39,A4a,Nat.reduceAdd,Nat.reduceSub,A41,A42,A47,A44,A4z,A4y]
 gi_wp2_with (refine⟨trivial,?_⟩;gi_at_call 135;refine(callsIn_wide.2 (Af0 _ _ _ _ _ _ _ _ _)).mono ?_;rintro e w1 ⟨b,A,K,rfl,hb0,hA0,hK0,hA,hK,x0,x1,x2,x3,hb⟩)
 simp only[World.size_alloc] at hb0 hA0 hK0;have hbw:Below w.heap.size w w1:=blA;have hcr:w1.cell? ⟨w.heap.size+1,0,none⟩=some .nilIface:=clA hb;have hcf:w1.frozen? ⟨w.heap.size+1,0,none⟩=false:=frA hb;have hsz1:w.heap.size+2<=w1.heap.size:=by have:=hb.size;simp at this;omega
 have dQ:Ou w (λ_=>False) w1 (.slice (some ⟨b,0,none⟩) 1 1) [n]:=by
  refine⟨_,1,rfl,λi hi=>⟨b,0,rfl,(λh=>h), .slice p0 n.one.args.length r0, .slice p1 n.kids.length r1,?_⟩⟩;obtain rfl:i=0:=by simpa using hi
  simp only[Nat.zero_mul,A4h,List.getElem_cons_zero];exact⟨x0,x1,x2,x3,dS.out,HKV.out⟩
 have HS:Hid (SeqStopsK Fence.wide (9 - 1) Tryz.prog 146 #[.pointer (some ⟨K,0,none⟩), .pointer (some ⟨A,0,none⟩)] (λx:Rj w Dc=>#[Value.agg #[.int .i64 x.net.kind, .int .i64 x.net.one.op,x.av,x.kv]]) (Kept w.heap.size (λ_=>False)) (λys=>ys.map Rj.net=Ei [n]) (λpre=>pre.map Rj.net<+:Ei [n]) (Ei [n]).length w1):=
  Ajj w Dc (λx hx=>⟨(Dp hx).2.2.1,(Dp hx).2.2.2⟩) (λ_=>False) (λ_ h=>h.elim) 0 A K (λ_ h=>h.elim) (λh=>h) (λh=>h) [n] spz (by simpa using hf) _ w1 hbw (Nat.zero_le _) dQ hA hK _
 clear dQ hb x0 x1 x2 x3 hA hK hf;refine wpIn_rangeFunc_ownH rfl dcz (gf:=146) (lb:=#[.pointer (some ⟨K,0,none⟩), .pointer (some ⟨A,0,none⟩)]) rfl trivial (enters_of Tryz.func146 krz rfl)
  HS Kept.t (Kept.b omz) (Below.refl _ _) (λ_=>rfl)
  (λpre W=>((W.cell? ⟨w.heap.size+1,0,none⟩=some .nilIface/\W.frozen? ⟨w.heap.size+1,0,none⟩=false)/\Below w.heap.size w W)/\¬0<A8 (pre.map (E8 ∘ Rj.net))/\w1.heap.size<=W.heap.size)
  (λc pre W=>(c=.ret/\∃k,0<k/\A8 (pre.map (E8 ∘ Rj.net))=k/\W.cell? ⟨w.heap.size+1,0,none⟩=some (.iface 146 (.int .i64 k)))/\Below w.heap.size w W)
  (OwnFrom.and (OwnFrom.and (Own.from (λs A B row hs hg hr=>⟨cell_kept hs.1 hg hr,(frozen_kept hs.1 hg hr).trans hs.2⟩) _) (ownFrom_below (A4d _) omz)) (OwnFrom.and (ownFrom_pure _ _) (λ_ _ _ _ hs hg _=>A4k hs hg.size)))
  (λc=>OwnFrom.and (Own.from (λs A B row hs hg hr=>⟨hs.1,hs.2.elim λt ht=>⟨t,ht.1,ht.2.1,cell_kept ht.2.2 hg hr⟩⟩) _) (ownFrom_below (A4d _) omz))
  ⟨⟨⟨hcr,hcf⟩,hbw⟩,by simp[A8],A4d _⟩
  (λx a' W=>∃Bx,w1.heap.size<=Bx/\A0b W Bx x.net.kind x.net.one.op x.av x.kv/\a'={tmps:=#[.agg #[.int .i64 n.kind, .int .i64 n.one.op, .slice p0 n.one.args.length r0, .slice p1 n.kids.length r1], .pointer (some ⟨w.heap.size,0,none⟩), .pointer (some ⟨w.heap.size+1,0,none⟩), .pointer (some ⟨Bx,0,none⟩), .agg #[.int .i64 n.kind, .int .i64 n.one.op, .slice p0 n.one.args.length r0, .slice p1 n.kids.length r1], .func (.func 146) #[] #[.pointer (some ⟨K,0,none⟩), .pointer (some ⟨A,0,none⟩)], .agg #[.int .i64 x.net.kind, .int .i64 x.net.one.op,x.av,x.kv],undef,undef,undef,undef,undef,undef,undef,undef,undef,undef,undef,undef,undef,undef],defers:=[]})
  (λx a' s A B row hs hg hr=>hs.elim λBx hx=>⟨Bx,hx.1,Ap6 (β:=Unit) Bx _ _ _ _ s A B row hx.2.1 hg (λr e=>(hr r e).2),hx.2.2⟩) ?assign ?body ?done ?stop
 case assign=>
  rintro l pre x W KK ⟨⟨⟨hc,hfz⟩,hB⟩,hp,hsz2⟩ aA;obtain⟨x,av,kv,hav,hkv,hxf⟩:=x;obtain⟨q0,s0,rfl,_⟩:=id hav;obtain⟨q1,s1,rfl,_⟩:=id hkv
  gi_wp2
  exact aA _ _ ((KeepsOthers.alloc _ _).from _) (Kept.of_below hB.size (Aa _ _)) ⟨⟨⟨Nk _ hc,Oa _ hc hfz⟩,blA⟩,hp,by simp;omega⟩ ⟨W.heap.size,omz,⟨by simp[go_sem],by simp[go_sem],by simp[go_sem],by simp[go_sem]⟩,rfl⟩
 case body=>
  rintro l pre x a' W zD _ ⟨⟨⟨hc,hfz⟩,hB⟩,hp,hsz2⟩ ⟨Bx,hBx,⟨y0,y1,y2,y3⟩,rfl⟩ hpl;have hz0:=Bv hc;have vJ:=Bv y0;have hn:w.heap.size<=W.heap.size:=omz
  have wK:=hid (λX hX=>Avv x.net x.av x.kv X (x.hav.below hX) (x.hkv.below hX) x.mem);have qj:=hid (λX hX=>Amg x.net.one.op x.av x.net.one.args X (HRR X hX) (x.hav.below hX) (Dp x.mem).2.1.2.2 (by have:=(Dp x.mem).2.1.2.1;omega));have aU:Hid (A8 ((pre++[x]).map (E8 ∘ Rj.net))=if 0<E8 x.net then E8 x.net else 0):=Zu _ _ _ hp;have HOW:Hid (E8 x.net=if Yq x.net then(if x.net.kind=1 then(if Ad x.net.one.op x.net.one.args then 0 else 3) else 0) else 2):=rfl;obtain⟨q0,s0,e0,_⟩:=id x.hav;obtain⟨q1,s1,e1,_⟩:=id x.hkv;rw[e0,e1] at wK;rw[e0] at qj y2;rw[e1] at y3;obtain⟨hfm,hhf⟩:∃hfm,hfm=Yq x.net:=⟨_,rfl⟩
  obtain⟨ic,hic⟩:∃ic,ic=Ad x.net.one.op x.net.one.args:=⟨_,rfl⟩
  obtain⟨kd,hkd⟩:∃kd,kd=x.net.kind:=⟨_,rfl⟩
  rw[<-hhf] at wK HOW;rw[<-hic] at qj HOW;rw[<-hkd] at wK HOW y0;clear hhf hic hkd e0 e1 hpl zD hp;cases hfm
  ·have HX:Hid (A8 ((pre++[x]).map (E8 ∘ Rj.net))=2):=by show _=_;rw[aU.out,HOW.out];simp
   clear aU HOW
   gi_wp2_with (refine⟨trivial,?_⟩;gi_at_call 142;refine(CallsIn.inRound l (callsIn_wide.2 (wK _ blA))).mono ?_;rintro e W2 ⟨rfl,hb2⟩;have c2:=(hb2.cell (p:=⟨w.heap.size+1,0,none⟩) hz0).trans hc;have z2:=(hb2.frozen (p:=⟨w.heap.size+1,0,none⟩) hz0).trans hfz)
   exact⟨by(repeat (first | with_reducible exact KeepsFrom.refl _ _ | with_reducible refine Vh ?_ _ _ | with_reducible refine Pm ?_ | with_reducible refine Lh ?_ _ | with_reducible refine Pn ?_ (by assumption))),⟨rfl,2,by omega,HX.out,Fp c2⟩,blA⟩
  ·by_cases hk1:kd=1
   ·subst hk1
    cases ic
    ·have HX:Hid (A8 ((pre++[x]).map (E8 ∘ Rj.net))=3):=by show _=_;rw[aU.out,HOW.out];simp
     clear aU HOW
     gi_wp2_with (first | (refine⟨trivial,?_⟩;gi_at_call 142;refine(CallsIn.inRound l (callsIn_wide.2 (wK _ blA))).mono ?_;rintro e W2 ⟨rfl,hb2⟩;have c2:=(hb2.cell (p:=⟨w.heap.size+1,0,none⟩) hz0).trans hc;have z2:=(hb2.frozen (p:=⟨w.heap.size+1,0,none⟩) hz0).trans hfz;obtain⟨zN,zK⟩:=Dq hb2) | (refine⟨trivial,?_⟩;gi_at_call 143;refine(CallsIn.inRound l (callsIn_wide.2 (qj _ blA))).mono ?_;rintro e W3 ⟨rfl,hb3⟩;have c3:=(hb3.cell (p:=⟨w.heap.size+1,0,none⟩) (Bv c2)).trans c2;have z3:=(hb3.frozen (p:=⟨w.heap.size+1,0,none⟩) (Bv c2)).trans z2))
     exact⟨by(repeat (first | with_reducible exact KeepsFrom.refl _ _ | with_reducible refine Vh ?_ _ _ | with_reducible refine Pm ?_ | with_reducible refine Lh ?_ _ | with_reducible refine Pn ?_ (by assumption))),⟨rfl,3,by omega,HX.out,Fp c3⟩,blA⟩
    ·have HX:Hid (A8 ((pre++[x]).map (E8 ∘ Rj.net))=0):=by show _=_;rw[aU.out,HOW.out];simp
     clear aU HOW
     gi_wp2_with (first | (refine⟨trivial,?_⟩;gi_at_call 142;refine(CallsIn.inRound l (callsIn_wide.2 (wK _ blA))).mono ?_;rintro e W2 ⟨rfl,hb2⟩;have c2:=(hb2.cell (p:=⟨w.heap.size+1,0,none⟩) hz0).trans hc;have z2:=(hb2.frozen (p:=⟨w.heap.size+1,0,none⟩) hz0).trans hfz;obtain⟨zN,zK⟩:=Dq hb2) | (refine⟨trivial,?_⟩;gi_at_call 143;refine(CallsIn.inRound l (callsIn_wide.2 (qj _ blA))).mono ?_;rintro e W3 ⟨rfl,hb3⟩;have c3:=(hb3.cell (p:=⟨w.heap.size+1,0,none⟩) (Bv c2)).trans c2;have z3:=(hb3.frozen (p:=⟨w.heap.size+1,0,none⟩) (Bv c2)).trans z2))
     exact⟨by(repeat (first | with_reducible exact KeepsFrom.refl _ _ | with_reducible refine Vh ?_ _ _ | with_reducible refine Pm ?_ | with_reducible refine Lh ?_ _ | with_reducible refine Pn ?_ (by assumption))),Uy (Uy (Kept.refl _ _ _) hn hb2) hn hb3,⟨⟨⟨c3,z3⟩,blA⟩,by rw[HX.out];omega,by have:=hb2.size;have:=hb3.size;omega⟩⟩
   ·have hkb:(kd==1)=false:=by rw[A5a];exact hk1
    have HX:Hid (A8 ((pre++[x]).map (E8 ∘ Rj.net))=0):=by show _=_;rw[aU.out,HOW.out];simp[hk1]
    clear aU HOW
    gi_wp2_with (refine⟨trivial,?_⟩;gi_at_call 142;refine(CallsIn.inRound l (callsIn_wide.2 (wK _ blA))).mono ?_;rintro e W2 ⟨rfl,hb2⟩;have c2:=(hb2.cell (p:=⟨w.heap.size+1,0,none⟩) hz0).trans hc;have z2:=(hb2.frozen (p:=⟨w.heap.size+1,0,none⟩) hz0).trans hfz;obtain⟨zN,zK⟩:=Dq hb2)
    refine⟨trivial,?_⟩
    gi_wp2
    exact⟨by(repeat (first | with_reducible exact KeepsFrom.refl _ _ | with_reducible refine Vh ?_ _ _ | with_reducible refine Pm ?_ | with_reducible refine Lh ?_ _ | with_reducible refine Pn ?_ (by assumption))),Uy (Kept.refl _ _ _) hn hb2,⟨⟨⟨c2,z2⟩,blA⟩,by rw[HX.out];omega,by have:=hb2.size;omega⟩⟩
 case done=>
  rintro D ys W hD hS ⟨⟨⟨hc,hfz⟩,hB⟩,hp,_⟩ hK;rw[<-List.map_map,hS,wL.out] at hp;have HX:Hid (errOf z=.nilIface):=by show _=_;unfold errOf;rw[if_neg hp]
  gi_wp2
  have hK':=(KeepsOthers.setCell W ⟨w.heap.size+1,0,none⟩ .nilIface).same D _ hK rfl;refine⟨spz, .inl ⟨_,_,rfl,run_takeDeferred hK',?_⟩⟩;have hc5:=cell_kept (Fp hc (v:=.nilIface)) (grownBy_putObj' _ D (.deferred none)) (λr e=>by cases e;exact⟨_,hK',rfl⟩);refine⟨.nilIface,?_,by rw[HX.out],(hB.setCell (p:=⟨w.heap.size+1,0,none⟩) spz _).trans (belowK_b (w:=w) (A4d _) _ D _ _ omz hK' rfl rfl)⟩;simp[results,Tryz.f136,go_sem,hc5]
 case stop=>
  rintro D c pre W hD hSp ⟨⟨rfl,k,hk,hfp,hc⟩,hB⟩ hK;have yM:z=k:=by
   rw[<-List.map_map] at hfp;have:=Wj E8 hSp (by rw[hfp];exact hk)
   rw[wL.out,hfp] at this;exact this
  have HX:Hid (errOf z=.iface 146 (.int .i64 k)):=by show _=_;unfold errOf;rw[yM,if_pos hk]
  gi_wp2
  refine⟨spz, .inl ⟨_,_,rfl,run_takeDeferred hK,?_⟩⟩;have hc5:=cell_kept hc (grownBy_putObj' _ D (.deferred none)) (λr e=>by cases e;exact⟨_,hK,rfl⟩);refine⟨.iface 146 (.int .i64 k),?_,by rw[HX.out],hB.trans (belowK_b (w:=w) (A4d _) W D _ _ omz hK rfl rfl)⟩;simp[results,Tryz.f136,go_sem,hc5]
end Go.Proofs.YtbfljjcnbbmoaaaGreatDoor
namespace Go.Proofs.YtbfljjcnbbmoaaaGreatDoor
open Stil
open Go.RowKit Go.Sort Go.BigFrame
theorem Ld {c:Int}(h:0<c):errOf c=.iface 146 (.int .i64 c):=by unfold errOf;rw[if_pos h]
theorem O6 {c:Int}(h:¬0<c):errOf c=.nilIface:=by unfold errOf;rw[if_neg h]
theorem za {p:Prop}(h:p:=by
 clear hbs;obtain⟨m,hm,rfl,hcb,hB⟩:=hrel;have dI:=hid hcb;clear hcb;have hz:w.heap.size<wr.heap.size:=by have:=hB.size;simp at this;omega
 have c0:wr.cell? ⟨w.heap.size,0,none⟩=some (.int .i64 n.kind):=clA hB;have f0:wr.frozen? ⟨w.heap.size,0,none⟩=false:=frA hB;have c1:wr.cell? ⟨w.heap.size,1,none⟩=some (.int .i64 n.one.op):=clA hB;have f1:wr.frozen? ⟨w.heap.size,1,none⟩=false:=frA hB;have c2:wr.cell? ⟨w.heap.size,2,none⟩=some (.slice p0 n.one.args.length r0):=clA hB;have f2:wr.frozen? ⟨w.heap.size,2,none⟩=false:=frA hB;have c3:wr.cell? ⟨w.heap.size,3,none⟩=some (.slice p1 n.kids.length r1):=clA hB;have f3:wr.frozen? ⟨w.heap.size,3,none⟩=false:=frA hB;have c4:wr.cell? ⟨w.heap.size,4,none⟩=some (.slice p2 lc r2):=clA hB;have f4:wr.frozen? ⟨w.heap.size,4,none⟩=false:=frA hB;have c5:wr.cell? ⟨w.heap.size,5,none⟩=some (.slice p3 lk r3):=clA hB;have f5:wr.frozen? ⟨w.heap.size,5,none⟩=false:=frA hB;have hbw:=(Aa _ _).trans (hB.mono omz);by_cases hlt:m<lc
 ·have hlt':m<coils.length:=by have:=wE.out;omega
  obtain⟨b,o,rfl,hbl,hce⟩:=wS m hlt';obtain⟨x0,bg,x1,jH⟩:=hce.below hbw hbl;have fB:=wR _ (A4f hlt');have HI:=hid (λW hW=>An4 coils[m].op bg coils[m].args W (HRR W (hbw.trans (hW.mono hbw.size))) (jH.below hW) fB.2.2 (by have:=fB.2.1;omega));have HD:Hid (Dy coils=(!Ap coils[m].op coils[m].args || Dy (coils.drop (m+1)))):=by show _=_;rw[dI.out,U2 _ _ hlt']
  obtain⟨ic,hic⟩:∃ic,ic=Ap coils[m].op coils[m].args:=⟨_,rfl⟩
  rw[<-hic] at HI HD;obtain⟨y,hy⟩:∃y,y=coils[m]:=⟨_,rfl⟩
  rw[<-hy] at HI x0;obtain⟨t1,t2,g1,_⟩:=jH;rw[<-hy] at g1;subst g1;clear hic hy hce fB dI;cases ic
  ·have HX:Hid (R=3):=by show _=_;rw[HR2.out,HD.out];rfl
   go_wp2_with (go_at_call 137;refine(HI _ blA).mono ?_;rintro e w3 ⟨rfl,hb3⟩)
   go_ret;exact⟨by rw[HX.out,Ld omz];rfl,blA⟩
  ·have HX:Hid (Dy coils=Dy (coils.drop (m+1))):=by show _=_;rw[HD.out];rfl
   go_wp2_with (go_at_call 137;refine(HI _ blA).mono ?_;rintro e w3 ⟨rfl,hb3⟩)
   exact⟨⟨m+1,omz,by go_num,HX.out,hB.trans (((Aa _ _).trans (hb3.mono spz)).mono hz)⟩,by simp[intOf];omega⟩
 ·have hcb0:Dy coils=false:=by rw[dI.out,List.drop_of_length_le (by have:=wE.out;omega)];rfl
  have HR3:Hid (R=if lc=0/\lk=0 then 5 else 0):=by show _=_;rw[HR2.out,hcb0];rfl
  clear hcb0 dI HR2;by_cases hl0:lc=0/\lk=0
  ·have HX:Hid (R=5):=by show _=_;rw[HR3.out,if_pos hl0]
   obtain⟨rfl,rfl⟩:=hl0;clear HR3
   go_wp2
   go_ret;exact⟨by rw[HX.out,Ld omz];rfl,blA⟩
  ·have HX:Hid (R=0):=by show _=_;rw[HR3.out,if_neg hl0]
   clear HR3;have hcase:((lc:Int)==0)=false\/((lk:Int)==0)=false:=by
    by_cases h:lc=0
    ·right;rw[A5a];omega
    ·left;rw[A5a];omega
   clear hl0;rcases hcase with hq | hq
   ·go_wp2
    all_goals go_ret
    all_goals exact⟨by rw[HX.out,O6 omz];rfl,blA⟩
   ·go_wp2
    all_goals go_ret
    all_goals exact⟨by rw[HX.out,O6 omz];rfl,blA⟩):p:=h
theorem Avt (x:Stil.Arm)(av nv cv kv:Value)(w:World)(hr:Es w)(hav:Bi w av x.net.one.args)(hnv:Dx w nv x.net.kids)(hcv:En w cv x.coils)(hkv:Dj w kv x.kids)(hf:Ci x):
  Calls Tryz.prog 129 #[.agg #[.int .i64 x.net.kind, .int .i64 x.net.one.op,av,nv,cv,kv]] w λe w'=>e=.returned (errOf (Cm x))/\Below w.heap.size w w':=by
 obtain⟨n,coils,kids⟩:=x;simp only at hav hnv hcv hkv ⊢;obtain⟨hnf,hcl,hcf,hkl,_⟩:=G8 hf;simp only at hnf hcl hcf hkl;have aY:=hid (λW hW=>Si n av nv W (hav.below hW) (hnv.below hW) hnf);have mP:=hid (λW hW=>Avs n av nv W (hr.below hW) (hav.below hW) (hnv.below hW) hnf);have wR:=hid hcf;have HRR:=hid (λW (h:Below w.heap.size w W)=>hr.below h);obtain⟨p0,r0,rfl,_⟩:=hav;obtain⟨p1,r1,rfl,_⟩:=hnv;obtain⟨p2,r2,rfl,hcc⟩:=hcv;obtain⟨p3,r3,rfl,_⟩:=hkv;have wS:=hid hcc;have HOW:Hid (Cm ⟨n,coils,kids⟩=if Aq n=false/\0<Au n then Au n else if Dy coils then 3 else if coils.length=0/\kids.length=0 then 5 else 0):=rfl;obtain⟨nn,hnn⟩:∃nn,nn=Aq n:=⟨_,rfl⟩
 obtain⟨nw,hnw⟩:∃nw,nw=Au n:=⟨_,rfl⟩
 rw[<-hnn] at aY HOW;rw[<-hnw] at mP HOW;obtain⟨lc,hlc⟩:∃lc,lc=coils.length:=⟨_,rfl⟩
 obtain⟨lk,hlk⟩:∃lk,lk=kids.length:=⟨_,rfl⟩
 have wE:=hid hlc;rw[<-hlc] at hcl HOW ⊢;rw[<-hlk] at hkl HOW ⊢;obtain⟨R,hR⟩:∃R,R=Cm ⟨n,coils,kids⟩:=⟨_,rfl⟩
 rw[<-hR] at HOW ⊢;clear hf hnf hcf hcc hnn hnw hlc hlk hR hr;cases nn
 ·by_cases hpos:0<nw
  ·have HX:Hid (R=nw):=by show _=_;rw[HOW.out];simp[hpos]
   rw[Ld hpos] at mP;go_enter Tryz.func129,Tryz.ntmps129
   go_wp2_with (first | (go_at_call 73;refine(aY _ blA).mono ?_;rintro e w1 ⟨rfl,hb1⟩;obtain⟨hc1,hf1⟩:=Dq hb1) | (go_at_call 136;refine(mP _ blA).mono ?_;rintro e w2 ⟨rfl,hb2⟩))
   go_ret;exact⟨by rw[HX.out,Ld hpos];rfl,blA⟩
  ·have HR2:Hid (R=if Dy coils then 3 else if lc=0/\lk=0 then 5 else 0):=by show _=_;rw[HOW.out];simp[hpos]
   rw[O6 hpos] at mP;clear HOW;go_enter Tryz.func129,Tryz.ntmps129
   go_wp2_with (first | (go_at_call 73;refine(aY _ blA).mono ?_;rintro e w1 ⟨rfl,hb1⟩;obtain⟨hc1,hf1⟩:=Dq hb1;have hz1:w.heap.size<w1.heap.size:=A37 spz hb1.size) | (go_at_call 136;refine(mP _ blA).mono ?_;rintro e w2 ⟨rfl,hb2⟩;obtain⟨hc2,hf2⟩:=Dq hb2))
   have hbs:Below (w.heap.size+1) (w.alloc (.cells #[.int .i64 n.kind, .int .i64 n.one.op, .slice p0 n.one.args.length r0, .slice p1 n.kids.length r1, .slice p2 lc r2, .slice p3 lk r3] 55)) w2:=by
    have h1:=hb1.size;simp only[World.size_alloc] at hb1 h1;exact hb1.trans (hb2.mono h1)
   clear hb1 hb2 hc1 hf1 hc2 hf2 hz1;go_loopw [19] (λi wr=>∃m:Nat,m<=lc/\i=.int .i64 m/\Dy coils=Dy (coils.drop m)/\Below (w.heap.size+1) (w.alloc (.cells #[.int .i64 n.kind, .int .i64 n.one.op, .slice p0 n.one.args.length r0, .slice p1 n.kids.length r1, .slice p2 lc r2, .slice p3 lk r3] 55)) wr) (λi _=>lc - (intOf i).toNat)
   case atStart=>exact⟨0,omz,rfl,rfl,hbs⟩
   case round=>exact za
 ·have HR2:Hid (R=if Dy coils then 3 else if lc=0/\lk=0 then 5 else 0):=by show _=_;rw[HOW.out];simp
  clear HOW mP;go_enter Tryz.func129,Tryz.ntmps129
  go_wp2_with (go_at_call 73;refine(aY _ blA).mono ?_;rintro e w1 ⟨rfl,hb1⟩;obtain⟨hc1,hf1⟩:=Dq hb1)
  have hbs:Below (w.heap.size+1) (w.alloc (.cells #[.int .i64 n.kind, .int .i64 n.one.op, .slice p0 n.one.args.length r0, .slice p1 n.kids.length r1, .slice p2 lc r2, .slice p3 lk r3] 55)) w1:=by simpa using hb1
  clear hb1 hc1 hf1;go_loopw [19] (λi wr=>∃m:Nat,m<=lc/\i=.int .i64 m/\Dy coils=Dy (coils.drop m)/\Below (w.heap.size+1) (w.alloc (.cells #[.int .i64 n.kind, .int .i64 n.one.op, .slice p0 n.one.args.length r0, .slice p1 n.kids.length r1, .slice p2 lc r2, .slice p3 lk r3] 55)) wr) (λi _=>lc - (intOf i).toNat)
  case atStart=>exact⟨0,omz,rfl,rfl,hbs⟩
  case round=>exact za
end Go.Proofs.YtbfljjcnbbmoaaaGreatDoor
namespace Go.Proofs.YtbfljjcnbbmoaaaGreatDoor
open Stil
open Go.RowKit Go.Sort Go.BigFrame Go.Shelf
attribute [local go_sem] Oper.semAt_some
theorem Aql (x:Stil.Arm)(av nv cv kv:Value)(w:World)(hr:Es w)(hav:Bi w av x.net.one.args)(hnv:Dx w nv x.net.kids)(hcv:En w cv x.coils)(hkv:Dj w kv x.kids)(hf:Ci x):
  Calls Tryz.prog 114 #[.agg #[.int .i64 x.net.kind, .int .i64 x.net.one.op,av,nv,cv,kv]] w λe w'=>e=.returned (errOf (Eo x))/\Below w.heap.size w w':=by
 have HRW:Hid (Eo x=if Aq x.net then 4 else Cj x):=rfl;have wL:Hid (A8 ((D6 [x]).map Cm)=Cj x):=by
  show _=_
  rw[<-Abq];simp[D6]
 have aY:=hid (λW hW=>Si x.net av nv W (hav.below hW) (hnv.below hW) (G8 hf).1);have HRR:=hid (λW (h:Below w.heap.size w W)=>hr.below h);have dS:Hid (Bi w av x.net.one.args/\Dx w nv x.net.kids/\En w cv x.coils/\Dj w kv x.kids):=⟨hav,hnv,hcv,hkv⟩
 obtain⟨p0,r0,rfl,_⟩:=hav;obtain⟨p1,r1,rfl,_⟩:=hnv;obtain⟨p2,r2,rfl,_⟩:=hcv;obtain⟨p3,r3,rfl,_⟩:=hkv;obtain⟨R,hR⟩:∃R,R=Eo x:=⟨_,rfl⟩
 obtain⟨z,hz⟩:∃z,z=Cj x:=⟨_,rfl⟩
 obtain⟨nn,hnn⟩:∃nn,nn=Aq x.net:=⟨_,rfl⟩
 rw[<-hR] at HRW ⊢;rw[<-hz] at HRW wL;rw[<-hnn] at HRW aY;clear hR hz hnn;refine(callsIn_wide (n:=9)).1 ?_;cases nn
 ·have HX:Hid (R=z):=by show _=_;rw[HRW.out];simp
  clear HRW;refine callsIn_of_wp_marks Tryz.func114 rfl trivial ?_ rfl;simp only[Tryz.ntmps114,A4b,A39,A4a,Nat.reduceAdd,Nat.reduceSub,A41,A42,A47,A44,A4z,A4y]
  gi_wp2_with (first | (refine⟨trivial,?_⟩;gi_at_call 73;refine(callsIn_wide.2 (aY _ blA)).mono ?_;rintro e w0 ⟨rfl,qL⟩;obtain⟨hc9,hf9⟩:=Dq qL) | (refine⟨trivial,?_⟩;gi_at_call 127;refine(callsIn_wide.2 (Af1 _ _ _ _)).mono ?_;rintro e w1 ⟨A,K,rfl,hA0,hK0,hA,hK,hb⟩))
  have hb8:Below w.heap.size w w0:=blA;have hbw:Below w.heap.size w w1:=blA;have h9:=qL.size;have h1:=hb.size;simp only[World.size_alloc] at hA0 hK0 h9 h1;have x0:w1.cell? ⟨w0.heap.size,0,none⟩=some (.int .i64 x.net.kind):=clA hb;have x1:w1.cell? ⟨w0.heap.size,1,none⟩=some (.int .i64 x.net.one.op):=clA hb;have x2:w1.cell? ⟨w0.heap.size,2,none⟩=some (.slice p0 x.net.one.args.length r0):=clA hb;have x3:w1.cell? ⟨w0.heap.size,3,none⟩=some (.slice p1 x.net.kids.length r1):=clA hb;have x4:w1.cell? ⟨w0.heap.size,4,none⟩=some (.slice p2 x.coils.length r2):=clA hb;have x5:w1.cell? ⟨w0.heap.size,5,none⟩=some (.slice p3 x.kids.length r3):=clA hb;have hcr:w1.cell? ⟨w.heap.size+1,0,none⟩=some .nilIface:=by
   rw[hb.cell (p:=⟨w.heap.size+1,0,none⟩) (by simp;omega),(Aa w0 _).cell (p:=⟨w.heap.size+1,0,none⟩) (show w.heap.size+1<w0.heap.size by omega),qL.cell (p:=⟨w.heap.size+1,0,none⟩) spz];simp[go_sem]
  have hcf:w1.frozen? ⟨w.heap.size+1,0,none⟩=false:=by
   rw[hb.frozen (p:=⟨w.heap.size+1,0,none⟩) (by simp;omega),(Aa w0 _).frozen (p:=⟨w.heap.size+1,0,none⟩) (show w.heap.size+1<w0.heap.size by omega),qL.frozen (p:=⟨w.heap.size+1,0,none⟩) spz];simp[go_sem]
  have hsz1:w.heap.size+2<=w1.heap.size:=omz
  have dQ:Nu w (λ_=>False) w1 (.slice (some ⟨w0.heap.size,0,none⟩) 1 1) [x]:=by
   refine⟨_,1,rfl,λi hi=>⟨w0.heap.size,0,rfl,(λh=>h), .slice p0 x.net.one.args.length r0, .slice p1 x.net.kids.length r1, .slice p2 x.coils.length r2, .slice p3 x.kids.length r3,?_⟩⟩;obtain rfl:i=0:=by simpa using hi
   simp only[Nat.zero_mul,A4h,List.getElem_cons_zero];exact⟨x0,x1,x2,x3,x4,x5,dS.out⟩
  have HS:Hid (SeqStopsK Fence.wide (9 - 1) Tryz.prog 138 #[.pointer (some ⟨K,0,none⟩), .pointer (some ⟨A,0,none⟩)] (λy:Pv w Ci=>#[Value.agg #[.int .i64 y.arm.net.kind, .int .i64 y.arm.net.one.op,y.av,y.nv,y.cv,y.kv]]) (Kept w.heap.size (λ_=>False)) (λys=>ys.map Pv.arm=D6 [x]) (λpre=>pre.map Pv.arm<+:D6 [x]) (D6 [x]).length w1):=
   Ajk w Ci (λy hy=>⟨(G8 hy).2.2.2.1,(G8 hy).2.2.2.2⟩) (λ_=>False) (λ_ h=>h.elim) 0 A K (λ_ h=>h.elim) (λh=>h) (λh=>h) [x] spz (by simpa using hf) _ w1 hbw (Nat.zero_le _) dQ hA hK _
  clear dQ hb qL hc9 hf9 x0 x1 x2 x3 x4 x5 hA hK hf;refine wpIn_rangeFunc_ownH rfl dcz (gf:=138) (lb:=#[.pointer (some ⟨K,0,none⟩), .pointer (some ⟨A,0,none⟩)]) rfl trivial (enters_of Tryz.func138 krz rfl)
   HS Kept.t (Kept.b omz) (Below.refl _ _) (λ_=>rfl)
   (λpre W=>((W.cell? ⟨w.heap.size+1,0,none⟩=some .nilIface/\W.frozen? ⟨w.heap.size+1,0,none⟩=false)/\Below w.heap.size w W)/\¬0<A8 (pre.map (Cm ∘ Pv.arm))/\w1.heap.size<=W.heap.size)
   (λc pre W=>(c=.ret/\∃k,0<k/\A8 (pre.map (Cm ∘ Pv.arm))=k/\W.cell? ⟨w.heap.size+1,0,none⟩=some (.iface 146 (.int .i64 k)))/\Below w.heap.size w W)
   (OwnFrom.and (OwnFrom.and (Own.from (λs A B row hs hg hr=>⟨cell_kept hs.1 hg hr,(frozen_kept hs.1 hg hr).trans hs.2⟩) _) (ownFrom_below (A4d _) omz)) (OwnFrom.and (ownFrom_pure _ _) (λ_ _ _ _ hs hg _=>A4k hs hg.size)))
   (λc=>OwnFrom.and (Own.from (λs A B row hs hg hr=>⟨hs.1,hs.2.elim λt ht=>⟨t,ht.1,ht.2.1,cell_kept ht.2.2 hg hr⟩⟩) _) (ownFrom_below (A4d _) omz))
   ⟨⟨⟨hcr,hcf⟩,hbw⟩,by simp[A8],A4d _⟩
   (λy a' W=>∃Bx,w1.heap.size<=Bx/\Aw3 W Bx y.arm.net.kind y.arm.net.one.op y.av y.nv y.cv y.kv/\a'={tmps:=#[.agg #[.int .i64 x.net.kind, .int .i64 x.net.one.op, .slice p0 x.net.one.args.length r0, .slice p1 x.net.kids.length r1, .slice p2 x.coils.length r2, .slice p3 x.kids.length r3], .pointer (some ⟨w.heap.size,0,none⟩), .pointer (some ⟨w.heap.size+1,0,none⟩), .pointer (some ⟨Bx,0,none⟩),undef, .pointer (some ⟨w.heap.size,0,none⟩), .agg #[.int .i64 x.net.kind, .int .i64 x.net.one.op, .slice p0 x.net.one.args.length r0, .slice p1 x.net.kids.length r1], .bool false,undef, .agg #[.int .i64 x.net.kind, .int .i64 x.net.one.op, .slice p0 x.net.one.args.length r0, .slice p1 x.net.kids.length r1, .slice p2 x.coils.length r2, .slice p3 x.kids.length r3], .slice (some ⟨w0.heap.size,0,none⟩) 1 1, .func (.func 138) #[] #[.pointer (some ⟨K,0,none⟩), .pointer (some ⟨A,0,none⟩)], .agg #[.int .i64 y.arm.net.kind, .int .i64 y.arm.net.one.op,y.av,y.nv,y.cv,y.kv],undef,undef,undef,undef,undef],defers:=[]})
   (λy a' s A B row hs hg hr=>hs.elim λBx hx=>⟨Bx,hx.1,Agk (β:=Unit) Bx _ _ _ _ _ _ s A B row hx.2.1 hg (λr e=>(hr r e).2),hx.2.2⟩) ?assign ?body ?done ?stop
  case assign=>
   rintro l pre y W KK ⟨⟨⟨hc,hfz⟩,hB⟩,hp,hsz2⟩ aA;obtain⟨y,av,nv,cv,kv,hav,hnv,hcv,hkv,hxf⟩:=y;obtain⟨q0,s0,rfl,_⟩:=id hav;obtain⟨q1,s1,rfl,_⟩:=id hnv;obtain⟨q2,s2,rfl,_⟩:=id hcv;obtain⟨q3,s3,rfl,_⟩:=id hkv
   gi_wp2
   exact aA _ _ ((KeepsOthers.alloc _ _).from _) (Kept.of_below hB.size (Aa _ _)) ⟨⟨⟨Nk _ hc,Oa _ hc hfz⟩,blA⟩,hp,by simp;omega⟩ ⟨W.heap.size,omz,⟨by simp[go_sem],by simp[go_sem],by simp[go_sem],by simp[go_sem],by simp[go_sem],by simp[go_sem]⟩,rfl⟩
  case body=>
   rintro l pre y a' W zD _ ⟨⟨⟨hc,hfz⟩,hB⟩,hp,hsz2⟩ ⟨Bx,hBx,⟨y0,y1,y2,y3,y4,y5⟩,rfl⟩ hpl;have hz0:=Bv hc;have hn:w.heap.size<=W.heap.size:=omz
   have tH:=hid (λX hX=>Avt y.arm y.av y.nv y.cv y.kv X (HRR X hX) (y.hav.below hX) (y.hnv.below hX) (y.hcv.below hX) (y.hkv.below hX) y.mem);have aU:Hid (A8 ((pre++[y]).map (Cm ∘ Pv.arm))=if 0<Cm y.arm then Cm y.arm else 0):=Zu _ _ _ hp;obtain⟨q0,s0,e0,_⟩:=id y.hav;obtain⟨q1,s1,e1,_⟩:=id y.hnv;obtain⟨q2,s2,e2,_⟩:=id y.hcv;obtain⟨q3,s3,e3,_⟩:=id y.hkv;rw[e0,e1,e2,e3] at tH;rw[e0] at y2;rw[e1] at y3;rw[e2] at y4;rw[e3] at y5;obtain⟨ow,how⟩:∃ow,ow=Cm y.arm:=⟨_,rfl⟩
   rw[<-how] at tH aU;clear how e0 e1 e2 e3 hpl zD hp;by_cases hpos:0<ow
   ·rw[Ld hpos] at tH
    have HX:Hid (A8 ((pre++[y]).map (Cm ∘ Pv.arm))=ow):=by show _=_;rw[aU.out,if_pos hpos]
    clear aU
    gi_wp2_with (refine⟨trivial,?_⟩;gi_at_call 129;refine(CallsIn.inRound l (callsIn_wide.2 (tH _ blA))).mono ?_;rintro e W2 ⟨rfl,hb2⟩;have c2:=(hb2.cell (p:=⟨w.heap.size+1,0,none⟩) hz0).trans hc;have z2:=(hb2.frozen (p:=⟨w.heap.size+1,0,none⟩) hz0).trans hfz)
    exact⟨by(repeat (first | with_reducible exact KeepsFrom.refl _ _ | with_reducible refine Vh ?_ _ _ | with_reducible refine Pm ?_ | with_reducible refine Lh ?_ _ | with_reducible refine Pn ?_ (by assumption))),⟨rfl,ow,hpos,HX.out,Fp c2⟩,blA⟩
   ·rw[O6 hpos] at tH
    have HX:Hid (A8 ((pre++[y]).map (Cm ∘ Pv.arm))=0):=by show _=_;rw[aU.out,if_neg hpos]
    clear aU
    gi_wp2_with (refine⟨trivial,?_⟩;gi_at_call 129;refine(CallsIn.inRound l (callsIn_wide.2 (tH _ blA))).mono ?_;rintro e W2 ⟨rfl,hb2⟩;have c2:=(hb2.cell (p:=⟨w.heap.size+1,0,none⟩) hz0).trans hc;have z2:=(hb2.frozen (p:=⟨w.heap.size+1,0,none⟩) hz0).trans hfz)
    exact⟨by(repeat (first | with_reducible exact KeepsFrom.refl _ _ | with_reducible refine Vh ?_ _ _ | with_reducible refine Pm ?_ | with_reducible refine Lh ?_ _ | with_reducible refine Pn ?_ (by assumption))),Uy (Kept.refl _ _ _) hn hb2,⟨⟨⟨c2,z2⟩,blA⟩,by rw[HX.out];omega,by have:=hb2.size;omega⟩⟩
  case done=>
   rintro D ys W hD hS ⟨⟨⟨hc,hfz⟩,hB⟩,hp,_⟩ hK;rw[<-List.map_map,hS,wL.out] at hp;have HY:Hid (errOf R=.nilIface):=by show _=_;rw[HX.out,O6 hp]
   gi_wp2
   have hK':=(KeepsOthers.setCell W ⟨w.heap.size+1,0,none⟩ .nilIface).same D _ hK rfl;refine⟨spz, .inl ⟨_,_,rfl,run_takeDeferred hK',?_⟩⟩;have hc5:=cell_kept (Fp hc (v:=.nilIface)) (grownBy_putObj' _ D (.deferred none)) (λr e=>by cases e;exact⟨_,hK',rfl⟩);refine⟨.nilIface,?_,by rw[HY.out],(hB.setCell (p:=⟨w.heap.size+1,0,none⟩) spz _).trans (belowK_b (w:=w) (A4d _) _ D _ _ omz hK' rfl rfl)⟩;simp[results,Tryz.f114,go_sem,hc5]
  case stop=>
   rintro D c pre W hD hSp ⟨⟨rfl,k,hk,hfp,hc⟩,hB⟩ hK;have yM:z=k:=by
    rw[<-List.map_map] at hfp;have:=Wj Cm hSp (by rw[hfp];exact hk)
    rw[wL.out,hfp] at this;exact this
   have HY:Hid (errOf R=.iface 146 (.int .i64 k)):=by show _=_;rw[HX.out,yM,Ld hk]
   gi_wp2
   refine⟨spz, .inl ⟨_,_,rfl,run_takeDeferred hK,?_⟩⟩;have hc5:=cell_kept hc (grownBy_putObj' _ D (.deferred none)) (λr e=>by cases e;exact⟨_,hK,rfl⟩);refine⟨.iface 146 (.int .i64 k),?_,by rw[HY.out],hB.trans (belowK_b (w:=w) (A4d _) W D _ _ omz hK rfl rfl)⟩;simp[results,Tryz.f114,go_sem,hc5]
 ·have HX:Hid (R=4):=by show _=_;rw[HRW.out];simp
  clear HRW;refine callsIn_of_wp_marks Tryz.func114 rfl trivial ?_ rfl;simp only[Tryz.ntmps114,A4b,A39,A4a,Nat.reduceAdd,Nat.reduceSub,A41,A42,A47,A44,A4z,A4y]
  gi_wp2_with (refine⟨trivial,?_⟩;gi_at_call 73;refine(callsIn_wide.2 (aY _ blA)).mono ?_;rintro e w0 ⟨rfl,qL⟩;have c9:w0.cell? ⟨w.heap.size+1,0,none⟩=some .nilIface:=(clA qL);have z9:w0.frozen? ⟨w.heap.size+1,0,none⟩=false:=(frA qL))
  refine⟨.iface 146 (.int .i64 4),?_,by rw[HX.out,Ld omz],blA⟩;simp[results,Tryz.f114,go_sem,c9]
end Go.Proofs.YtbfljjcnbbmoaaaGreatDoor
namespace Go.Proofs.YtbfljjcnbbmoaaaGreatDoor
open Stil
open Go.RowKit Go.Sort Go.BigFrame
def lookOf (many:Bool)(p:Int × Nat):Value:=if many then .iface 146 (.int .i64 1) else if 0<p.1 then .iface 149 (.agg #[.int .i64 p.2, .iface 146 (.int .i64 p.1)]) else .nilIface
theorem Aqf (l:List Stil.Arm)(kv:Value)(w:World)(hr:Es w)(hkv:Dj w kv l)(hl:l.length<=1048576)(hsz:Ce l<=1000000000)(hft:∀x∈l,Ci x):
  Calls Tryz.prog 83 #[kv] w λe w'=>e=.returned (lookOf (decide (40<l.length\/400<Ce l)) (Ed l 0))/\Below w.heap.size w w':=by
 have HT:=hid (λW hW=>Ama l kv 400 W (hkv.below hW) hft hl hsz omz omz);have HF:=hid hft;have HRR:=hid (λW (h:Below w.heap.size w W)=>hr.below h);obtain⟨a,cap,rfl,hc⟩:=hkv;have HC:=hid hc;obtain⟨ln,hln⟩:∃ln,ln=l.length:=⟨_,rfl⟩
 obtain⟨z,hz⟩:∃z,z=Ce l:=⟨_,rfl⟩
 have fG:=hid hln;rw[<-hln] at hl HT ⊢;rw[<-hz] at HT hsz ⊢;obtain⟨Q,hQ⟩:∃Q,Q=Ed l 0:=⟨_,rfl⟩
 rw[<-hQ];have HQ:=hid hQ;obtain⟨R,hR⟩:∃R,R=lookOf (decide (40<ln\/400<z)) Q:=⟨_,rfl⟩
 rw[<-hR];have HR:=hid hR;clear hc hft hln hz hQ hR hr;by_cases h1:40<ln
 ·have HX:Hid (R=.iface 146 (.int .i64 1)):=by show _=_;rw[HR.out,decide_eq_true (.inl h1)];rfl
  clear HR HQ;go_enter Tryz.func83,Tryz.ntmps83
  go_wp2
  go_ret;exact⟨by rw[HX.out];rfl,blA⟩
 ·by_cases h2:400<z
  ·have HX:Hid (R=.iface 146 (.int .i64 1)):=by show _=_;rw[HR.out,decide_eq_true (.inr h2)];rfl
   clear HR HQ;go_enter Tryz.func83,Tryz.ntmps83
   go_wp2_with (go_at_call 113;refine(HT _ blA).mono ?_;rintro e w1 ⟨r,rfl,_,hr2,hr3,hb1⟩;have hr4:=hr2 omz;clear hr2)
   go_ret;exact⟨by rw[HX.out];rfl,blA⟩
  ·have HX:Hid (R=lookOf false Q):=by show _=_;rw[HR.out,decide_eq_false omz]
   clear HR;go_enter Tryz.func83,Tryz.ntmps83
   go_wp2_with (go_at_call 113;refine(HT _ blA).mono ?_;rintro e w1 ⟨r,rfl,hr1,_,hr3,hb1⟩;have hr4:¬(400:Int)<r:=omz;clear hr1)
   have hbs:Below w.heap.size w w1:=blA;clear hb1;go_loopw [17] (λi wr=>∃j:Nat,j<=ln/\i=.int .i64 j/\Q=Ed (l.drop j) j/\Below w.heap.size w wr) (λi _=>ln - (intOf i).toNat)
   case atStart=>exact⟨0,omz,rfl,HQ.out,hbs⟩
   case round=>
    clear hbs HQ;obtain⟨j,hj,rfl,hfr,hbw⟩:=hrel;have HP:=hid hfr;clear hfr;by_cases hlt:j<ln
    ·have hlt':j<l.length:=by have:=fG.out;omega
     obtain⟨b,o,rfl,hbl,hn⟩:=HC j hlt';obtain⟨hna,yK,yJ,x4,x5,hcv,hkv⟩:=(Pz.below hbw _ _ _ hn hbl).open;obtain⟨x0,x1,yL,yI,x2,x3,hav,hnv⟩:=hna.open;have HI:=hid (λW hW=>Aql l[j] yL yI yK yJ W (HRR W (hbw.trans (hW.mono hbw.size))) (hav.below hW) (hnv.below hW) (hcv.below hW) (hkv.below hW) (HF _ (A4f hlt')));have HS:Hid (Q=if 0<Eo l[j] then(Eo l[j],j) else Ed (l.drop (j+1)) (j+1)):=by show _=_;rw[HP.out,X9 l j hlt']
     obtain⟨s,hs⟩:∃s,s=Eo l[j]:=⟨_,rfl⟩
     obtain⟨x,hx⟩:∃x,x=l[j]:=⟨_,rfl⟩
     rw[<-hs] at HI HS;rw[<-hx] at HI x0 x1 hav hnv hcv hkv;obtain⟨t0,u0,rfl,_⟩:=hav;obtain⟨t1,u1,rfl,_⟩:=hnv;obtain⟨t2,u2,rfl,_⟩:=hcv;obtain⟨t3,u3,rfl,_⟩:=hkv;clear hs hx hn hna HP;by_cases hpos:0<s
     ·have HY:Hid (R=.iface 149 (.agg #[.int .i64 j, .iface 146 (.int .i64 s)])):=by show _=_;rw[HX.out,HS.out,if_pos hpos];unfold lookOf;simp[hpos]
      rw[Ld hpos] at HI
      go_wp2_with (go_at_call 114;refine(HI _ blA).mono ?_;rintro e w4 ⟨rfl,hb4⟩)
      go_ret;exact⟨by rw[HY.out];rfl,blA⟩
     ·have HY:Hid (Q=Ed (l.drop (j+1)) (j+1)):=by show _=_;rw[HS.out,if_neg hpos]
      rw[O6 hpos] at HI
      go_wp2_with (go_at_call 114;refine(HI _ blA).mono ?_;rintro e w4 ⟨rfl,hb4⟩)
      exact⟨⟨j+1,omz,by go_num,HY.out,blA⟩,by simp[intOf];omega⟩
    ·have HY:Hid (R=.nilIface):=by show _=_;rw[HX.out,HP.out,List.drop_of_length_le (by have:=fG.out;omega)];rfl
     go_wp2
     go_ret;exact⟨by rw[HY.out];rfl,hbw⟩
end Go.Proofs.YtbfljjcnbbmoaaaGreatDoor
