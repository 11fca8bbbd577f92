import Derived.Test.YtbfljjcnbbmoaaaGreatDoorGO
import Derived.Test.YtbfljjcnbbmoaaaGreatDoorGJ
set_option maxHeartbeats 4000000
set_option maxRecDepth 100000
namespace Go.Proofs.YtbfljjcnbbmoaaaGreatDoor
open Stil
open Go.RowKit Go.Sort Go.BigFrame Go.Shelf
attribute [local go_sem] Oper.semAt_some
def errOf (c:Int):Value:=if 0<c then .iface 146 (.int .i64 c) else .nilIface
theorem Au9 (n:Stil.Net) (av kv:Value) (w:World) (hav:Bg w av n.one.args) (hkv:Dq w kv n.kids) (hf:Cc n):
  Calls Tryz.prog 142 #[.agg #[.int .i64 n.kind, .int .i64 n.one.op,av,kv]] w λe w'=>e=.returned (.bool (X6 n))/\Below w.heap.size w w':=by
 obtain⟨_,he,hl,_⟩:=Df hf;have hla:=he.2.1;obtain⟨p0,r0,rfl,_⟩:=hav;obtain⟨p1,r1,rfl,_⟩:=hkv;clear hf he;have HC:Hid (∀W,Calls Tryz.prog 97 #[.agg #[.int .i64 n.one.op, .slice p0 n.one.args.length r0]] W λe w'=>e=.returned (.bool (n.one.op==0 && n.one.args.length==0))/\Below W.heap.size W w'):=λW=>Acy _ _ _ _ _ (by omega)
 have HN:Hid (X6 n=if n.kind=1 then decide (n.kids.length=0) else if n.kind=2\/n.kind=3 then(n.one.op==0 && n.one.args.length==0) && decide (0<n.kids.length) else if n.kind=4 then(n.one.op==0 && n.one.args.length==0) && decide (n.kids.length=1) else false):=rfl;obtain⟨bb,hbb⟩:∃bb,bb=(n.one.op==0 && n.one.args.length==0):=⟨_,rfl⟩
 rw[<-hbb] at HN HC;obtain⟨lk,hlk⟩:∃lk,lk=n.kids.length:=⟨_,rfl⟩
 obtain⟨la,hla2⟩:∃la,la=n.one.args.length:=⟨_,rfl⟩
 rw[<-hlk] at HN hl ⊢;rw[<-hla2] at HC hla ⊢;obtain⟨k,hk⟩:∃k,k=n.kind:=⟨_,rfl⟩
 rw[<-hk] at HN ⊢;obtain⟨R,hR⟩:∃R,R=X6 n:=⟨_,rfl⟩
 rw[<-hR] at HN ⊢;clear hbb hlk hla2 hk hR;by_cases k1:k=1
 ·subst k1
  have HX:Hid (R=((lk:Int)==0)):=by show _=_;rw[HN.out,if_pos rfl,Bool.eq_iff_iff];simp
  clear HN HC;go_enter Tryz.func142,Tryz.ntmps142
  go_wp2
  all_goals go_ret
  all_goals exact⟨Ap (by rw[HX.out]),blA⟩
 ·have e1:(k==1)=false:=by rw[A5f];exact k1
  by_cases k23:k=2\/k=3
  ·have HX:Hid (R=(bb && decide ((0:Int)<(lk:Int)))):=by show _=_;rw[HN.out,if_neg k1,if_pos k23,Bool.eq_iff_iff];simp
   clear HN;cases bb
   ·rcases k23 with rfl | rfl
    ·go_enter Tryz.func142,Tryz.ntmps142
     go_wp2_with (go_at_call 97;refine(HC.out _).mono ?_;rintro e w1 ⟨rfl,hb⟩;obtain⟨hc,hfz⟩:=Dl hb)
     all_goals go_ret
     all_goals exact⟨Ap (by rw[HX.out];simp),blA⟩
    ·go_enter Tryz.func142,Tryz.ntmps142
     go_wp2_with (go_at_call 97;refine(HC.out _).mono ?_;rintro e w1 ⟨rfl,hb⟩;obtain⟨hc,hfz⟩:=Dl hb)
     all_goals go_ret
     all_goals exact⟨Ap (by rw[HX.out];simp),blA⟩
   ·rcases k23 with rfl | rfl
    ·go_enter Tryz.func142,Tryz.ntmps142
     go_wp2_with (go_at_call 97;refine(HC.out _).mono ?_;rintro e w1 ⟨rfl,hb⟩;obtain⟨hc,hfz⟩:=Dl hb)
     all_goals go_ret
     all_goals exact⟨Ap (by rw[HX.out];simp),blA⟩
    ·go_enter Tryz.func142,Tryz.ntmps142
     go_wp2_with (go_at_call 97;refine(HC.out _).mono ?_;rintro e w1 ⟨rfl,hb⟩;obtain⟨hc,hfz⟩:=Dl hb)
     all_goals go_ret
     all_goals exact⟨Ap (by rw[HX.out];simp),blA⟩
  ·have e2:(k==2)=false:=by rw[A5f];omega
   have e3:(k==3)=false:=by rw[A5f];omega
   by_cases k4:k=4
   ·subst k4
    have HX:Hid (R=(bb && ((lk:Int)==1))):=by show _=_;rw[HN.out,if_neg k1,if_neg k23,if_pos rfl,Bool.eq_iff_iff];simp;omega
    clear HN;cases bb
    ·go_enter Tryz.func142,Tryz.ntmps142
     go_wp2_with (go_at_call 97;refine(HC.out _).mono ?_;rintro e w1 ⟨rfl,hb⟩;obtain⟨hc,hfz⟩:=Dl hb)
     all_goals go_ret
     all_goals exact⟨Ap (by rw[HX.out];simp),blA⟩
    ·go_enter Tryz.func142,Tryz.ntmps142
     go_wp2_with (go_at_call 97;refine(HC.out _).mono ?_;rintro e w1 ⟨rfl,hb⟩;obtain⟨hc,hfz⟩:=Dl hb)
     all_goals go_ret
     all_goals exact⟨Ap (by rw[HX.out];simp),blA⟩
   ·have e4:(k==4)=false:=by rw[A5f];exact k4
    have HX:Hid (R=false):=by show _=_;rw[HN.out,if_neg k1,if_neg k23,if_neg k4]
    clear HN HC;go_enter Tryz.func142,Tryz.ntmps142
    go_wp2
    all_goals go_ret
    all_goals exact⟨Ap (by rw[HX.out]),blA⟩
end Go.Proofs.YtbfljjcnbbmoaaaGreatDoor
namespace Go.Proofs.YtbfljjcnbbmoaaaGreatDoor
open Stil
open Go.RowKit Go.Sort Go.BigFrame Go.Shelf
def Az4 (W:World) (B:Nat) (k op:Int) (a n:Value):Prop:=W.cell? ⟨B,0,none⟩=some (.int .i64 k)/\W.cell? ⟨B,1,none⟩=some (.int .i64 op)/\W.cell? ⟨B,2,none⟩=some a/\W.cell? ⟨B,3,none⟩=some n
theorem Apm {β:Type} (B:Nat) (k op:Int) (a n:Value):Own (λ(_:β) W=>Az4 W B k op a n):=λ_ _ _ _ hs hg hr=>
 ⟨cell_kept hs.1 hg hr,cell_kept hs.2.1 hg hr,cell_kept hs.2.2.1 hg hr,cell_kept hs.2.2.2 hg hr⟩
end Go.Proofs.YtbfljjcnbbmoaaaGreatDoor
namespace Go.Proofs.YtbfljjcnbbmoaaaGreatDoor
open Stil
open Go.RowKit Go.Sort Go.BigFrame Go.Shelf
attribute [local go_sem] Oper.semAt_some
theorem Vp {α:Type} (f:α->Int) {a b:List α} (h:a<+:b) (hp:0<A8 (a.map f)):A8 (b.map f)=A8 (a.map f):=by
 obtain⟨c,rfl⟩:=h;rw[A4r,Qe,if_pos hp]
theorem Za {α:Type} (f:α->Int) (l:List α) (x:α) (h:¬0<A8 (l.map f)):A8 ((l++[x]).map f)=if 0<f x then f x else 0:=by
 rw[A4r,Qe,if_neg h];simp[A8]
theorem Au6 (n:Stil.Net) (av kv:Value) (w:World) (hr:Eu w) (hav:Bg w av n.one.args) (hkv:Dq w kv n.kids) (hf:Cc n):
  Calls Tryz.prog 136 #[.agg #[.int .i64 n.kind, .int .i64 n.one.op,av,kv]] w λe w'=>e=.returned (errOf (Ar n))/\Below w.heap.size w w':=by
 have HFP:Hid (A8 ((Ec [n]).map Eo)=Ar n):=by show _=_;rw[Acl,Aig]
 have hnb:=I8 n;obtain⟨z,hz⟩:∃z,z=Ar n:=⟨_,rfl⟩
 rw[<-hz] at HFP hnb ⊢;clear hz;refine(callsIn_wide (n:=9)).1 ?_;have HAV:=hid hav;have HKV:=hid hkv;have HRR:=hid (λW (h:Below w.heap.size w W)=>hr.below h);obtain⟨p0,r0,rfl,_⟩:=hav;obtain⟨p1,r1,rfl,_⟩:=hkv;refine callsIn_of_wp_marks Tryz.func136 rfl trivial ?_ rfl;simp only[Tryz.ntmps136,A4g,A4e,A4f,Nat.reduceAdd,Nat.reduceSub,A46,A47,A5c,A49,A44,A43]
 gi_wp2_with (refine⟨trivial,?_⟩;gi_at_call 135;refine(callsIn_wide.2 (Ae8 _ _ _ _ _ _ _ _ _)).mono ?_;rintro e w1 ⟨b,A,K,rfl,hb0,hA0,hK0,hA,hK,x0,x1,x2,x3,hb⟩)
 simp only[World.size_alloc] at hb0 hA0 hK0;have hbw:Below w.heap.size w w1:=blA;have hcr:w1.cell? ⟨w.heap.size+1,0,none⟩=some .nilIface:=clA hb;have hcf:w1.frozen? ⟨w.heap.size+1,0,none⟩=false:=frA hb;have hsz1:w.heap.size+2<=w1.heap.size:=by have:=hb.size;simp at this;omega
 have hseen:N9 w (λ_=>False) w1 (.slice (some ⟨b,0,none⟩) 1 1) [n]:=by
  refine⟨_,1,rfl,λi hi=>⟨b,0,rfl,(λh=>h), .slice p0 n.one.args.length r0, .slice p1 n.kids.length r1,?_⟩⟩;obtain rfl:i=0:=by simpa using hi
  simp only[Nat.zero_mul,A4m,List.getElem_cons_zero];exact⟨x0,x1,x2,x3,HAV.out,HKV.out⟩
 have HS:Hid (SeqStopsK Fence.wide (9 - 1) Tryz.prog 146 #[.pointer (some ⟨K,0,none⟩), .pointer (some ⟨A,0,none⟩)] (λx:Qp w Cc=>#[Value.agg #[.int .i64 x.net.kind, .int .i64 x.net.one.op,x.av,x.kv]]) (Kept w.heap.size (λ_=>False)) (λys=>ys.map Qp.net=Ec [n]) (λpre=>pre.map Qp.net<+:Ec [n]) (Ec [n]).length w1):=
  Ait w Cc (λx hx=>⟨(Df hx).2.2.1,(Df hx).2.2.2⟩) (λ_=>False) (λ_ h=>h.elim) 0 A K (λ_ h=>h.elim) (λh=>h) (λh=>h) [n] (by simp) (by simpa using hf) _ w1 hbw (Nat.zero_le _) hseen hA hK _
 clear hseen hb x0 x1 x2 x3 hA hK hf;refine wpIn_rangeFunc_ownH rfl (by decide) (gf:=146) (lb:=#[.pointer (some ⟨K,0,none⟩), .pointer (some ⟨A,0,none⟩)]) rfl trivial (enters_of Tryz.func146 (by kernel_rfl) rfl)
  HS.out Kept.t (Kept.b (by omega)) (Below.refl _ _) (λ_=>rfl)
  (λpre W=>((W.cell? ⟨w.heap.size+1,0,none⟩=some .nilIface/\W.frozen? ⟨w.heap.size+1,0,none⟩=false)/\Below w.heap.size w W)/\¬0<A8 (pre.map (Eo ∘ Qp.net))/\w1.heap.size<=W.heap.size)
  (λc pre W=>(c=.ret/\∃k,0<k/\A8 (pre.map (Eo ∘ Qp.net))=k/\W.cell? ⟨w.heap.size+1,0,none⟩=some (.iface 146 (.int .i64 k)))/\Below w.heap.size w W)
  (OwnFrom.and (OwnFrom.and (Own.from (λs A B row hs hg hr=>⟨cell_kept hs.1 hg hr,(frozen_kept hs.1 hg hr).trans hs.2⟩) _) (ownFrom_below (A4i _) (by omega))) (OwnFrom.and (ownFrom_pure _ _) (λ_ _ _ _ hs hg _=>A4p hs hg.size)))
  (λc=>OwnFrom.and (Own.from (λs A B row hs hg hr=>⟨hs.1,hs.2.elim λt ht=>⟨t,ht.1,ht.2.1,cell_kept ht.2.2 hg hr⟩⟩) _) (ownFrom_below (A4i _) (by omega)))
  ⟨⟨⟨hcr,hcf⟩,hbw⟩,by simp[A8],A4i _⟩
  (λx a' W=>∃Bx,w1.heap.size<=Bx/\Az4 W Bx x.net.kind x.net.one.op x.av x.kv/\a'={tmps:=#[.agg #[.int .i64 n.kind, .int .i64 n.one.op, .slice p0 n.one.args.length r0, .slice p1 n.kids.length r1], .pointer (some ⟨w.heap.size,0,none⟩), .pointer (some ⟨w.heap.size+1,0,none⟩), .pointer (some ⟨Bx,0,none⟩), .agg #[.int .i64 n.kind, .int .i64 n.one.op, .slice p0 n.one.args.length r0, .slice p1 n.kids.length r1], .func (.func 146) #[] #[.pointer (some ⟨K,0,none⟩), .pointer (some ⟨A,0,none⟩)], .agg #[.int .i64 x.net.kind, .int .i64 x.net.one.op,x.av,x.kv],undef,undef,undef,undef,undef,undef,undef,undef,undef,undef,undef,undef,undef,undef],defers:=[]})
  (λx a' s A B row hs hg hr=>hs.elim λBx hx=>⟨Bx,hx.1,Apm (β:=Unit) Bx _ _ _ _ s A B row hx.2.1 hg (λr e=>(hr r e).2),hx.2.2⟩) ?assign ?body ?done ?stop
 case assign=>
  rintro l pre x W KK ⟨⟨⟨hc,hfz⟩,hB⟩,hp,hsz2⟩ hKK;obtain⟨x,av,kv,hav,hkv,hxf⟩:=x;obtain⟨q0,s0,rfl,_⟩:=id hav;obtain⟨q1,s1,rfl,_⟩:=id hkv
  gi_wp2
  exact hKK _ _ ((KeepsOthers.alloc _ _).from _) (Kept.of_below hB.size (Aa _ _)) ⟨⟨⟨Lt _ hc,Nl _ hc hfz⟩,blA⟩,hp,by simp;omega⟩ ⟨W.heap.size,by omega,⟨by simp[go_sem],by simp[go_sem],by simp[go_sem],by simp[go_sem]⟩,rfl⟩
 case body=>
  rintro l pre x a' W hlw _ ⟨⟨⟨hc,hfz⟩,hB⟩,hp,hsz2⟩ ⟨Bx,hBx,⟨y0,y1,y2,y3⟩,rfl⟩ hpl;have hz0:=Bo hc;have hBz:=Bo y0;have hn:w.heap.size<=W.heap.size:=by omega
  have HHF:=hid (λX hX=>Au9 x.net x.av x.kv X (x.hav.below hX) (x.hkv.below hX) x.mem);have HIC:=hid (λX hX=>Alp x.net.one.op x.av x.net.one.args X (HRR.out X hX) (x.hav.below hX) (Df x.mem).2.1.2.2 (by have:=(Df x.mem).2.1.2.1;omega));have HSN:Hid (A8 ((pre++[x]).map (Eo ∘ Qp.net))=if 0<Eo x.net then Eo x.net else 0):=Za _ _ _ hp;have HOW:Hid (Eo x.net=if X6 x.net then(if x.net.kind=1 then(if Ad x.net.one.op x.net.one.args then 0 else 3) else 0) else 2):=rfl;obtain⟨q0,s0,e0,_⟩:=id x.hav;obtain⟨q1,s1,e1,_⟩:=id x.hkv;rw[e0,e1] at HHF;rw[e0] at HIC y2;rw[e1] at y3;obtain⟨hfm,hhf⟩:∃hfm,hfm=X6 x.net:=⟨_,rfl⟩
  obtain⟨ic,hic⟩:∃ic,ic=Ad x.net.one.op x.net.one.args:=⟨_,rfl⟩
  obtain⟨kd,hkd⟩:∃kd,kd=x.net.kind:=⟨_,rfl⟩
  rw[<-hhf] at HHF HOW;rw[<-hic] at HIC HOW;rw[<-hkd] at HHF HOW y0;clear hhf hic hkd e0 e1 hpl hlw hp;cases hfm
  ·have HX:Hid (A8 ((pre++[x]).map (Eo ∘ Qp.net))=2):=by show _=_;rw[HSN.out,HOW.out];simp
   clear HSN HOW
   gi_wp2_with (refine⟨trivial,?_⟩;gi_at_call 142;refine(CallsIn.inRound l (callsIn_wide.2 (HHF.out _ blA))).mono ?_;rintro e W2 ⟨rfl,hb2⟩;have c2:=(hb2.cell (p:=⟨w.heap.size+1,0,none⟩) hz0).trans hc;have z2:=(hb2.frozen (p:=⟨w.heap.size+1,0,none⟩) hz0).trans hfz)
   exact⟨by(repeat (first | with_reducible exact KeepsFrom.refl _ _ | with_reducible refine Uw ?_ _ _ | with_reducible refine Oz ?_ | with_reducible refine kf_alloc ?_ _ | with_reducible refine O0 ?_ (by assumption))),⟨rfl,2,by omega,HX.out,Ey c2⟩,blA⟩
  ·by_cases hk1:kd=1
   ·subst hk1
    cases ic
    ·have HX:Hid (A8 ((pre++[x]).map (Eo ∘ Qp.net))=3):=by show _=_;rw[HSN.out,HOW.out];simp
     clear HSN HOW
     gi_wp2_with (first | (refine⟨trivial,?_⟩;gi_at_call 142;refine(CallsIn.inRound l (callsIn_wide.2 (HHF.out _ blA))).mono ?_;rintro e W2 ⟨rfl,hb2⟩;have c2:=(hb2.cell (p:=⟨w.heap.size+1,0,none⟩) hz0).trans hc;have z2:=(hb2.frozen (p:=⟨w.heap.size+1,0,none⟩) hz0).trans hfz;obtain⟨hcc2,hff2⟩:=Dl hb2) | (refine⟨trivial,?_⟩;gi_at_call 143;refine(CallsIn.inRound l (callsIn_wide.2 (HIC.out _ blA))).mono ?_;rintro e W3 ⟨rfl,hb3⟩;have c3:=(hb3.cell (p:=⟨w.heap.size+1,0,none⟩) (Bo c2)).trans c2;have z3:=(hb3.frozen (p:=⟨w.heap.size+1,0,none⟩) (Bo c2)).trans z2))
     exact⟨by(repeat (first | with_reducible exact KeepsFrom.refl _ _ | with_reducible refine Uw ?_ _ _ | with_reducible refine Oz ?_ | with_reducible refine kf_alloc ?_ _ | with_reducible refine O0 ?_ (by assumption))),⟨rfl,3,by omega,HX.out,Ey c3⟩,blA⟩
    ·have HX:Hid (A8 ((pre++[x]).map (Eo ∘ Qp.net))=0):=by show _=_;rw[HSN.out,HOW.out];simp
     clear HSN HOW
     gi_wp2_with (first | (refine⟨trivial,?_⟩;gi_at_call 142;refine(CallsIn.inRound l (callsIn_wide.2 (HHF.out _ blA))).mono ?_;rintro e W2 ⟨rfl,hb2⟩;have c2:=(hb2.cell (p:=⟨w.heap.size+1,0,none⟩) hz0).trans hc;have z2:=(hb2.frozen (p:=⟨w.heap.size+1,0,none⟩) hz0).trans hfz;obtain⟨hcc2,hff2⟩:=Dl hb2) | (refine⟨trivial,?_⟩;gi_at_call 143;refine(CallsIn.inRound l (callsIn_wide.2 (HIC.out _ blA))).mono ?_;rintro e W3 ⟨rfl,hb3⟩;have c3:=(hb3.cell (p:=⟨w.heap.size+1,0,none⟩) (Bo c2)).trans c2;have z3:=(hb3.frozen (p:=⟨w.heap.size+1,0,none⟩) (Bo c2)).trans z2))
     exact⟨by(repeat (first | with_reducible exact KeepsFrom.refl _ _ | with_reducible refine Uw ?_ _ _ | with_reducible refine Oz ?_ | with_reducible refine kf_alloc ?_ _ | with_reducible refine O0 ?_ (by assumption))),Ub (Ub (Kept.refl _ _ _) hn hb2) hn hb3,⟨⟨⟨c3,z3⟩,blA⟩,by rw[HX.out];omega,by have:=hb2.size;have:=hb3.size;omega⟩⟩
   ·have hkb:(kd==1)=false:=by rw[A5f];exact hk1
    have HX:Hid (A8 ((pre++[x]).map (Eo ∘ Qp.net))=0):=by show _=_;rw[HSN.out,HOW.out];simp[hk1]
    clear HSN HOW
    gi_wp2_with (refine⟨trivial,?_⟩;gi_at_call 142;refine(CallsIn.inRound l (callsIn_wide.2 (HHF.out _ blA))).mono ?_;rintro e W2 ⟨rfl,hb2⟩;have c2:=(hb2.cell (p:=⟨w.heap.size+1,0,none⟩) hz0).trans hc;have z2:=(hb2.frozen (p:=⟨w.heap.size+1,0,none⟩) hz0).trans hfz;obtain⟨hcc2,hff2⟩:=Dl hb2)
    refine⟨trivial,?_⟩
    gi_wp2
    exact⟨by(repeat (first | with_reducible exact KeepsFrom.refl _ _ | with_reducible refine Uw ?_ _ _ | with_reducible refine Oz ?_ | with_reducible refine kf_alloc ?_ _ | with_reducible refine O0 ?_ (by assumption))),Ub (Kept.refl _ _ _) hn hb2,⟨⟨⟨c2,z2⟩,blA⟩,by rw[HX.out];omega,by have:=hb2.size;omega⟩⟩
 case done=>
  rintro D ys W hD hS ⟨⟨⟨hc,hfz⟩,hB⟩,hp,_⟩ hK;rw[<-List.map_map,hS,HFP.out] at hp;have HX:Hid (errOf z=.nilIface):=by show _=_;unfold errOf;rw[if_neg hp]
  gi_wp2
  have hK':=(KeepsOthers.setCell W ⟨w.heap.size+1,0,none⟩ .nilIface).same D _ hK rfl;refine⟨by simp, .inl ⟨_,_,rfl,run_takeDeferred hK',?_⟩⟩;have hc5:=cell_kept (Ey hc (v:=.nilIface)) (grownBy_putObj' _ D (.deferred none)) (λr e=>by cases e;exact⟨_,hK',rfl⟩);refine⟨.nilIface,?_,by rw[HX.out],(hB.setCell (p:=⟨w.heap.size+1,0,none⟩) (by simp) _).trans (belowK_b (w:=w) (A4i _) _ D _ _ (by omega) hK' rfl rfl)⟩;simp[results,Tryz.f136,go_sem,hc5]
 case stop=>
  rintro D c pre W hD hSp ⟨⟨rfl,k,hk,hfp,hc⟩,hB⟩ hK;have hzk:z=k:=by
   rw[<-List.map_map] at hfp;have:=Vp Eo hSp (by rw[hfp];exact hk)
   rw[HFP.out,hfp] at this;exact this
  have HX:Hid (errOf z=.iface 146 (.int .i64 k)):=by show _=_;unfold errOf;rw[hzk,if_pos hk]
  gi_wp2
  refine⟨by simp, .inl ⟨_,_,rfl,run_takeDeferred hK,?_⟩⟩;have hc5:=cell_kept hc (grownBy_putObj' _ D (.deferred none)) (λr e=>by cases e;exact⟨_,hK,rfl⟩);refine⟨.iface 146 (.int .i64 k),?_,by rw[HX.out],hB.trans (belowK_b (w:=w) (A4i _) W D _ _ (by omega) hK rfl rfl)⟩;simp[results,Tryz.f136,go_sem,hc5]
end Go.Proofs.YtbfljjcnbbmoaaaGreatDoor
namespace Go.Proofs.YtbfljjcnbbmoaaaGreatDoor
open Stil
open Go.RowKit Go.Sort Go.BigFrame
theorem J9 {c:Int} (h:0<c):errOf c=.iface 146 (.int .i64 c):=by unfold errOf;rw[if_pos h]
theorem Oh {c:Int} (h:¬0<c):errOf c=.nilIface:=by unfold errOf;rw[if_neg h]
theorem Au7 (x:Stil.Arm) (av nv cv kv:Value) (w:World) (hr:Eu w) (hav:Bg w av x.net.one.args) (hnv:Dq w nv x.net.kids) (hcv:Ef w cv x.coils) (hkv:Dv w kv x.kids) (hf:C9 x):
  Calls Tryz.prog 129 #[.agg #[.int .i64 x.net.kind, .int .i64 x.net.one.op,av,nv,cv,kv]] w λe w'=>e=.returned (errOf (Ci x))/\Below w.heap.size w w':=by
 obtain⟨n,coils,kids⟩:=x;simp only at hav hnv hcv hkv ⊢;obtain⟨hnf,hcl,hcf,hkl,_⟩:=Gy hf;simp only at hnf hcl hcf hkl;have HNONE:=hid (λW hW=>Uc n av nv W (hav.below hW) (hnv.below hW) hnf);have HNW:=hid (λW hW=>Au6 n av nv W (hr.below hW) (hav.below hW) (hnv.below hW) hnf);have HCF:=hid hcf;have HRR:=hid (λW (h:Below w.heap.size w W)=>hr.below h);obtain⟨p0,r0,rfl,_⟩:=hav;obtain⟨p1,r1,rfl,_⟩:=hnv;obtain⟨p2,r2,rfl,hcc⟩:=hcv;obtain⟨p3,r3,rfl,_⟩:=hkv;have HCC:=hid hcc;have HOW:Hid (Ci ⟨n,coils,kids⟩=if Aq n=false/\0<Ar n then Ar n else if Dt coils then 3 else if coils.length=0/\kids.length=0 then 5 else 0):=rfl;obtain⟨nn,hnn⟩:∃nn,nn=Aq n:=⟨_,rfl⟩
 obtain⟨nw,hnw⟩:∃nw,nw=Ar n:=⟨_,rfl⟩
 rw[<-hnn] at HNONE HOW;rw[<-hnw] at HNW HOW;obtain⟨lc,hlc⟩:∃lc,lc=coils.length:=⟨_,rfl⟩
 obtain⟨lk,hlk⟩:∃lk,lk=kids.length:=⟨_,rfl⟩
 have HLC:=hid hlc;rw[<-hlc] at hcl HOW ⊢;rw[<-hlk] at hkl HOW ⊢;obtain⟨R,hR⟩:∃R,R=Ci ⟨n,coils,kids⟩:=⟨_,rfl⟩
 rw[<-hR] at HOW ⊢;clear hf hnf hcf hcc hnn hnw hlc hlk hR hr;cases nn
 ·by_cases hpos:0<nw
  ·have HX:Hid (R=nw):=by show _=_;rw[HOW.out];simp[hpos]
   rw[J9 hpos] at HNW;go_enter Tryz.func129,Tryz.ntmps129
   go_wp2_with (first | (go_at_call 73;refine(HNONE.out _ blA).mono ?_;rintro e w1 ⟨rfl,hb1⟩;obtain⟨hc1,hf1⟩:=Dl hb1) | (go_at_call 136;refine(HNW.out _ blA).mono ?_;rintro e w2 ⟨rfl,hb2⟩))
   go_ret;exact⟨by rw[HX.out,J9 hpos];rfl,blA⟩
  ·have HR2:Hid (R=if Dt coils then 3 else if lc=0/\lk=0 then 5 else 0):=by show _=_;rw[HOW.out];simp[hpos]
   rw[Oh hpos] at HNW;clear HOW;go_enter Tryz.func129,Tryz.ntmps129
   go_wp2_with (first | (go_at_call 73;refine(HNONE.out _ blA).mono ?_;rintro e w1 ⟨rfl,hb1⟩;obtain⟨hc1,hf1⟩:=Dl hb1;have hz1:w.heap.size<w1.heap.size:=A4c (by simp) hb1.size) | (go_at_call 136;refine(HNW.out _ blA).mono ?_;rintro e w2 ⟨rfl,hb2⟩;obtain⟨hc2,hf2⟩:=Dl hb2))
   have hbs:Below (w.heap.size+1) (w.alloc (.cells #[.int .i64 n.kind, .int .i64 n.one.op, .slice p0 n.one.args.length r0, .slice p1 n.kids.length r1, .slice p2 lc r2, .slice p3 lk r3] 55)) w2:=by
    have h1:=hb1.size;simp only[World.size_alloc] at hb1 h1;exact hb1.trans (hb2.mono h1)
   clear hb1 hb2 hc1 hf1 hc2 hf2 hz1;go_loopw [19] (λi wr=>∃m:Nat,m<=lc/\i=.int .i64 m/\Dt coils=Dt (coils.drop m)/\Below (w.heap.size+1) (w.alloc (.cells #[.int .i64 n.kind, .int .i64 n.one.op, .slice p0 n.one.args.length r0, .slice p1 n.kids.length r1, .slice p2 lc r2, .slice p3 lk r3] 55)) wr) (λi _=>lc - (intOf i).toNat)
   case atStart=>exact⟨0,by omega,rfl,rfl,hbs⟩
   case round=>
    clear hbs;obtain⟨m,hm,rfl,hcb,hB⟩:=hrel;have HCB:=hid hcb;clear hcb;have hz:w.heap.size<wr.heap.size:=by have:=hB.size;simp at this;omega
    have c0:wr.cell? ⟨w.heap.size,0,none⟩=some (.int .i64 n.kind):=clA hB;have f0:wr.frozen? ⟨w.heap.size,0,none⟩=false:=frA hB;have c1:wr.cell? ⟨w.heap.size,1,none⟩=some (.int .i64 n.one.op):=clA hB;have f1:wr.frozen? ⟨w.heap.size,1,none⟩=false:=frA hB;have c2:wr.cell? ⟨w.heap.size,2,none⟩=some (.slice p0 n.one.args.length r0):=clA hB;have f2:wr.frozen? ⟨w.heap.size,2,none⟩=false:=frA hB;have c3:wr.cell? ⟨w.heap.size,3,none⟩=some (.slice p1 n.kids.length r1):=clA hB;have f3:wr.frozen? ⟨w.heap.size,3,none⟩=false:=frA hB;have c4:wr.cell? ⟨w.heap.size,4,none⟩=some (.slice p2 lc r2):=clA hB;have f4:wr.frozen? ⟨w.heap.size,4,none⟩=false:=frA hB;have c5:wr.cell? ⟨w.heap.size,5,none⟩=some (.slice p3 lk r3):=clA hB;have f5:wr.frozen? ⟨w.heap.size,5,none⟩=false:=frA hB;have hbw:=(Aa _ _).trans (hB.mono (by omega));by_cases hlt:m<lc
    ·have hlt':m<coils.length:=by have:=HLC.out;omega
     obtain⟨b,o,rfl,hbl,hce⟩:=HCC.out m hlt';obtain⟨x0,cav,x1,hcav⟩:=hce.below hbw hbl;have hcfm:=HCF.out _ (A4k hlt');have HI:=hid (λW hW=>Anl coils[m].op cav coils[m].args W (HRR.out W (hbw.trans (hW.mono hbw.size))) (hcav.below hW) hcfm.2.2 (by have:=hcfm.2.1;omega));have HD:Hid (Dt coils=(!Am coils[m].op coils[m].args || Dt (coils.drop (m+1)))):=by show _=_;rw[HCB.out,Ug _ _ hlt']
     obtain⟨ic,hic⟩:∃ic,ic=Am coils[m].op coils[m].args:=⟨_,rfl⟩
     rw[<-hic] at HI HD;obtain⟨y,hy⟩:∃y,y=coils[m]:=⟨_,rfl⟩
     rw[<-hy] at HI x0;obtain⟨t1,t2,g1,_⟩:=hcav;rw[<-hy] at g1;subst g1;clear hic hy hce hcfm HCB;cases ic
     ·have HX:Hid (R=3):=by show _=_;rw[HR2.out,HD.out];rfl
      go_wp2_with (go_at_call 137;refine(HI.out _ blA).mono ?_;rintro e w3 ⟨rfl,hb3⟩)
      go_ret;exact⟨by rw[HX.out,J9 (by omega)];rfl,blA⟩
     ·have HX:Hid (Dt coils=Dt (coils.drop (m+1))):=by show _=_;rw[HD.out];rfl
      go_wp2_with (go_at_call 137;refine(HI.out _ blA).mono ?_;rintro e w3 ⟨rfl,hb3⟩)
      exact⟨⟨m+1,by omega,by go_num,HX.out,hB.trans (((Aa _ _).trans (hb3.mono (by simp))).mono hz)⟩,by simp[intOf];omega⟩
    ·have hcb0:Dt coils=false:=by rw[HCB.out,List.drop_of_length_le (by have:=HLC.out;omega)];rfl
     have HR3:Hid (R=if lc=0/\lk=0 then 5 else 0):=by show _=_;rw[HR2.out,hcb0];rfl
     clear hcb0 HCB HR2;by_cases hl0:lc=0/\lk=0
     ·have HX:Hid (R=5):=by show _=_;rw[HR3.out,if_pos hl0]
      obtain⟨rfl,rfl⟩:=hl0;clear HR3
      go_wp2
      go_ret;exact⟨by rw[HX.out,J9 (by omega)];rfl,blA⟩
     ·have HX:Hid (R=0):=by show _=_;rw[HR3.out,if_neg hl0]
      clear HR3;have hcase:((lc:Int)==0)=false\/((lk:Int)==0)=false:=by
       by_cases h:lc=0
       ·right;rw[A5f];omega
       ·left;rw[A5f];omega
      clear hl0;rcases hcase with hq | hq
      ·go_wp2
       all_goals go_ret
       all_goals exact⟨by rw[HX.out,Oh (by omega)];rfl,blA⟩
      ·go_wp2
       all_goals go_ret
       all_goals exact⟨by rw[HX.out,Oh (by omega)];rfl,blA⟩
 ·have HR2:Hid (R=if Dt coils then 3 else if lc=0/\lk=0 then 5 else 0):=by show _=_;rw[HOW.out];simp
  clear HOW HNW;go_enter Tryz.func129,Tryz.ntmps129
  go_wp2_with (go_at_call 73;refine(HNONE.out _ blA).mono ?_;rintro e w1 ⟨rfl,hb1⟩;obtain⟨hc1,hf1⟩:=Dl hb1)
  have hbs:Below (w.heap.size+1) (w.alloc (.cells #[.int .i64 n.kind, .int .i64 n.one.op, .slice p0 n.one.args.length r0, .slice p1 n.kids.length r1, .slice p2 lc r2, .slice p3 lk r3] 55)) w1:=by simpa using hb1
  clear hb1 hc1 hf1;go_loopw [19] (λi wr=>∃m:Nat,m<=lc/\i=.int .i64 m/\Dt coils=Dt (coils.drop m)/\Below (w.heap.size+1) (w.alloc (.cells #[.int .i64 n.kind, .int .i64 n.one.op, .slice p0 n.one.args.length r0, .slice p1 n.kids.length r1, .slice p2 lc r2, .slice p3 lk r3] 55)) wr) (λi _=>lc - (intOf i).toNat)
  case atStart=>exact⟨0,by omega,rfl,rfl,hbs⟩
  case round=>
   clear hbs;obtain⟨m,hm,rfl,hcb,hB⟩:=hrel;have HCB:=hid hcb;clear hcb;have hz:w.heap.size<wr.heap.size:=by have:=hB.size;simp at this;omega
   have c0:wr.cell? ⟨w.heap.size,0,none⟩=some (.int .i64 n.kind):=clA hB;have f0:wr.frozen? ⟨w.heap.size,0,none⟩=false:=frA hB;have c1:wr.cell? ⟨w.heap.size,1,none⟩=some (.int .i64 n.one.op):=clA hB;have f1:wr.frozen? ⟨w.heap.size,1,none⟩=false:=frA hB;have c2:wr.cell? ⟨w.heap.size,2,none⟩=some (.slice p0 n.one.args.length r0):=clA hB;have f2:wr.frozen? ⟨w.heap.size,2,none⟩=false:=frA hB;have c3:wr.cell? ⟨w.heap.size,3,none⟩=some (.slice p1 n.kids.length r1):=clA hB;have f3:wr.frozen? ⟨w.heap.size,3,none⟩=false:=frA hB;have c4:wr.cell? ⟨w.heap.size,4,none⟩=some (.slice p2 lc r2):=clA hB;have f4:wr.frozen? ⟨w.heap.size,4,none⟩=false:=frA hB;have c5:wr.cell? ⟨w.heap.size,5,none⟩=some (.slice p3 lk r3):=clA hB;have f5:wr.frozen? ⟨w.heap.size,5,none⟩=false:=frA hB;have hbw:=(Aa _ _).trans (hB.mono (by omega));by_cases hlt:m<lc
   ·have hlt':m<coils.length:=by have:=HLC.out;omega
    obtain⟨b,o,rfl,hbl,hce⟩:=HCC.out m hlt';obtain⟨x0,cav,x1,hcav⟩:=hce.below hbw hbl;have hcfm:=HCF.out _ (A4k hlt');have HI:=hid (λW hW=>Anl coils[m].op cav coils[m].args W (HRR.out W (hbw.trans (hW.mono hbw.size))) (hcav.below hW) hcfm.2.2 (by have:=hcfm.2.1;omega));have HD:Hid (Dt coils=(!Am coils[m].op coils[m].args || Dt (coils.drop (m+1)))):=by show _=_;rw[HCB.out,Ug _ _ hlt']
    obtain⟨ic,hic⟩:∃ic,ic=Am coils[m].op coils[m].args:=⟨_,rfl⟩
    rw[<-hic] at HI HD;obtain⟨y,hy⟩:∃y,y=coils[m]:=⟨_,rfl⟩
    rw[<-hy] at HI x0;obtain⟨t1,t2,g1,_⟩:=hcav;rw[<-hy] at g1;subst g1;clear hic hy hce hcfm HCB;cases ic
    ·have HX:Hid (R=3):=by show _=_;rw[HR2.out,HD.out];rfl
     go_wp2_with (go_at_call 137;refine(HI.out _ blA).mono ?_;rintro e w3 ⟨rfl,hb3⟩)
     go_ret;exact⟨by rw[HX.out,J9 (by omega)];rfl,blA⟩
    ·have HX:Hid (Dt coils=Dt (coils.drop (m+1))):=by show _=_;rw[HD.out];rfl
     go_wp2_with (go_at_call 137;refine(HI.out _ blA).mono ?_;rintro e w3 ⟨rfl,hb3⟩)
     exact⟨⟨m+1,by omega,by go_num,HX.out,hB.trans (((Aa _ _).trans (hb3.mono (by simp))).mono hz)⟩,by simp[intOf];omega⟩
   ·have hcb0:Dt coils=false:=by rw[HCB.out,List.drop_of_length_le (by have:=HLC.out;omega)];rfl
    have HR3:Hid (R=if lc=0/\lk=0 then 5 else 0):=by show _=_;rw[HR2.out,hcb0];rfl
    clear hcb0 HCB HR2;by_cases hl0:lc=0/\lk=0
    ·have HX:Hid (R=5):=by show _=_;rw[HR3.out,if_pos hl0]
     obtain⟨rfl,rfl⟩:=hl0;clear HR3
     go_wp2
     go_ret;exact⟨by rw[HX.out,J9 (by omega)];rfl,blA⟩
    ·have HX:Hid (R=0):=by show _=_;rw[HR3.out,if_neg hl0]
     clear HR3;have hcase:((lc:Int)==0)=false\/((lk:Int)==0)=false:=by
      by_cases h:lc=0
      ·right;rw[A5f];omega
      ·left;rw[A5f];omega
     clear hl0;rcases hcase with hq | hq
     ·go_wp2
      all_goals go_ret
      all_goals exact⟨by rw[HX.out,Oh (by omega)];rfl,blA⟩
     ·go_wp2
      all_goals go_ret
      all_goals exact⟨by rw[HX.out,Oh (by omega)];rfl,blA⟩
end Go.Proofs.YtbfljjcnbbmoaaaGreatDoor
namespace Go.Proofs.YtbfljjcnbbmoaaaGreatDoor
open Stil
open Go.RowKit Go.Sort Go.BigFrame Go.Shelf
attribute [local go_sem] Oper.semAt_some
theorem Ap0 (x:Stil.Arm) (av nv cv kv:Value) (w:World) (hr:Eu w) (hav:Bg w av x.net.one.args) (hnv:Dq w nv x.net.kids) (hcv:Ef w cv x.coils) (hkv:Dv w kv x.kids) (hf:C9 x):
  Calls Tryz.prog 114 #[.agg #[.int .i64 x.net.kind, .int .i64 x.net.one.op,av,nv,cv,kv]] w λe w'=>e=.returned (errOf (Eg x))/\Below w.heap.size w w':=by
 have HRW:Hid (Eg x=if Aq x.net then 4 else Cf x):=rfl;have HFP:Hid (A8 ((Dx [x]).map Ci)=Cf x):=by
  show _=_
  rw[<-Aa1];simp[Dx]
 have HNONE:=hid (λW hW=>Uc x.net av nv W (hav.below hW) (hnv.below hW) (Gy hf).1);have HRR:=hid (λW (h:Below w.heap.size w W)=>hr.below h);have HAV:Hid (Bg w av x.net.one.args/\Dq w nv x.net.kids/\Ef w cv x.coils/\Dv w kv x.kids):=⟨hav,hnv,hcv,hkv⟩
 obtain⟨p0,r0,rfl,_⟩:=hav;obtain⟨p1,r1,rfl,_⟩:=hnv;obtain⟨p2,r2,rfl,_⟩:=hcv;obtain⟨p3,r3,rfl,_⟩:=hkv;obtain⟨R,hR⟩:∃R,R=Eg x:=⟨_,rfl⟩
 obtain⟨z,hz⟩:∃z,z=Cf x:=⟨_,rfl⟩
 obtain⟨nn,hnn⟩:∃nn,nn=Aq x.net:=⟨_,rfl⟩
 rw[<-hR] at HRW ⊢;rw[<-hz] at HRW HFP;rw[<-hnn] at HRW HNONE;clear hR hz hnn;refine(callsIn_wide (n:=9)).1 ?_;cases nn
 ·have HX:Hid (R=z):=by show _=_;rw[HRW.out];simp
  clear HRW;refine callsIn_of_wp_marks Tryz.func114 rfl trivial ?_ rfl;simp only[Tryz.ntmps114,A4g,A4e,A4f,Nat.reduceAdd,Nat.reduceSub,A46,A47,A5c,A49,A44,A43]
  gi_wp2_with (first | (refine⟨trivial,?_⟩;gi_at_call 73;refine(callsIn_wide.2 (HNONE.out _ blA)).mono ?_;rintro e w0 ⟨rfl,hb9⟩;obtain⟨hc9,hf9⟩:=Dl hb9) | (refine⟨trivial,?_⟩;gi_at_call 127;refine(callsIn_wide.2 (Ae9 _ _ _ _)).mono ?_;rintro e w1 ⟨A,K,rfl,hA0,hK0,hA,hK,hb⟩))
  have hb8:Below w.heap.size w w0:=blA;have hbw:Below w.heap.size w w1:=blA;have h9:=hb9.size;have h1:=hb.size;simp only[World.size_alloc] at hA0 hK0 h9 h1;have x0:w1.cell? ⟨w0.heap.size,0,none⟩=some (.int .i64 x.net.kind):=clA hb;have x1:w1.cell? ⟨w0.heap.size,1,none⟩=some (.int .i64 x.net.one.op):=clA hb;have x2:w1.cell? ⟨w0.heap.size,2,none⟩=some (.slice p0 x.net.one.args.length r0):=clA hb;have x3:w1.cell? ⟨w0.heap.size,3,none⟩=some (.slice p1 x.net.kids.length r1):=clA hb;have x4:w1.cell? ⟨w0.heap.size,4,none⟩=some (.slice p2 x.coils.length r2):=clA hb;have x5:w1.cell? ⟨w0.heap.size,5,none⟩=some (.slice p3 x.kids.length r3):=clA hb;have hcr:w1.cell? ⟨w.heap.size+1,0,none⟩=some .nilIface:=by
   rw[hb.cell (p:=⟨w.heap.size+1,0,none⟩) (by simp;omega),(Aa w0 _).cell (p:=⟨w.heap.size+1,0,none⟩) (show w.heap.size+1<w0.heap.size by omega),hb9.cell (p:=⟨w.heap.size+1,0,none⟩) (by simp)];simp[go_sem]
  have hcf:w1.frozen? ⟨w.heap.size+1,0,none⟩=false:=by
   rw[hb.frozen (p:=⟨w.heap.size+1,0,none⟩) (by simp;omega),(Aa w0 _).frozen (p:=⟨w.heap.size+1,0,none⟩) (show w.heap.size+1<w0.heap.size by omega),hb9.frozen (p:=⟨w.heap.size+1,0,none⟩) (by simp)];simp[go_sem]
  have hsz1:w.heap.size+2<=w1.heap.size:=by omega
  have hseen:Mc w (λ_=>False) w1 (.slice (some ⟨w0.heap.size,0,none⟩) 1 1) [x]:=by
   refine⟨_,1,rfl,λi hi=>⟨w0.heap.size,0,rfl,(λh=>h), .slice p0 x.net.one.args.length r0, .slice p1 x.net.kids.length r1, .slice p2 x.coils.length r2, .slice p3 x.kids.length r3,?_⟩⟩;obtain rfl:i=0:=by simpa using hi
   simp only[Nat.zero_mul,A4m,List.getElem_cons_zero];exact⟨x0,x1,x2,x3,x4,x5,HAV.out⟩
  have HS:Hid (SeqStopsK Fence.wide (9 - 1) Tryz.prog 138 #[.pointer (some ⟨K,0,none⟩), .pointer (some ⟨A,0,none⟩)] (λy:O8 w C9=>#[Value.agg #[.int .i64 y.arm.net.kind, .int .i64 y.arm.net.one.op,y.av,y.nv,y.cv,y.kv]]) (Kept w.heap.size (λ_=>False)) (λys=>ys.map O8.arm=Dx [x]) (λpre=>pre.map O8.arm<+:Dx [x]) (Dx [x]).length w1):=
   Aiu w C9 (λy hy=>⟨(Gy hy).2.2.2.1,(Gy hy).2.2.2.2⟩) (λ_=>False) (λ_ h=>h.elim) 0 A K (λ_ h=>h.elim) (λh=>h) (λh=>h) [x] (by simp) (by simpa using hf) _ w1 hbw (Nat.zero_le _) hseen hA hK _
  clear hseen hb hb9 hc9 hf9 x0 x1 x2 x3 x4 x5 hA hK hf;refine wpIn_rangeFunc_ownH rfl (by decide) (gf:=138) (lb:=#[.pointer (some ⟨K,0,none⟩), .pointer (some ⟨A,0,none⟩)]) rfl trivial (enters_of Tryz.func138 (by kernel_rfl) rfl)
   HS.out Kept.t (Kept.b (by omega)) (Below.refl _ _) (λ_=>rfl)
   (λpre W=>((W.cell? ⟨w.heap.size+1,0,none⟩=some .nilIface/\W.frozen? ⟨w.heap.size+1,0,none⟩=false)/\Below w.heap.size w W)/\¬0<A8 (pre.map (Ci ∘ O8.arm))/\w1.heap.size<=W.heap.size)
   (λc pre W=>(c=.ret/\∃k,0<k/\A8 (pre.map (Ci ∘ O8.arm))=k/\W.cell? ⟨w.heap.size+1,0,none⟩=some (.iface 146 (.int .i64 k)))/\Below w.heap.size w W)
   (OwnFrom.and (OwnFrom.and (Own.from (λs A B row hs hg hr=>⟨cell_kept hs.1 hg hr,(frozen_kept hs.1 hg hr).trans hs.2⟩) _) (ownFrom_below (A4i _) (by omega))) (OwnFrom.and (ownFrom_pure _ _) (λ_ _ _ _ hs hg _=>A4p hs hg.size)))
   (λc=>OwnFrom.and (Own.from (λs A B row hs hg hr=>⟨hs.1,hs.2.elim λt ht=>⟨t,ht.1,ht.2.1,cell_kept ht.2.2 hg hr⟩⟩) _) (ownFrom_below (A4i _) (by omega)))
   ⟨⟨⟨hcr,hcf⟩,hbw⟩,by simp[A8],A4i _⟩
   (λy a' W=>∃Bx,w1.heap.size<=Bx/\Awg W Bx y.arm.net.kind y.arm.net.one.op y.av y.nv y.cv y.kv/\a'={tmps:=#[.agg #[.int .i64 x.net.kind, .int .i64 x.net.one.op, .slice p0 x.net.one.args.length r0, .slice p1 x.net.kids.length r1, .slice p2 x.coils.length r2, .slice p3 x.kids.length r3], .pointer (some ⟨w.heap.size,0,none⟩), .pointer (some ⟨w.heap.size+1,0,none⟩), .pointer (some ⟨Bx,0,none⟩),undef, .pointer (some ⟨w.heap.size,0,none⟩), .agg #[.int .i64 x.net.kind, .int .i64 x.net.one.op, .slice p0 x.net.one.args.length r0, .slice p1 x.net.kids.length r1], .bool false,undef, .agg #[.int .i64 x.net.kind, .int .i64 x.net.one.op, .slice p0 x.net.one.args.length r0, .slice p1 x.net.kids.length r1, .slice p2 x.coils.length r2, .slice p3 x.kids.length r3], .slice (some ⟨w0.heap.size,0,none⟩) 1 1, .func (.func 138) #[] #[.pointer (some ⟨K,0,none⟩), .pointer (some ⟨A,0,none⟩)], .agg #[.int .i64 y.arm.net.kind, .int .i64 y.arm.net.one.op,y.av,y.nv,y.cv,y.kv],undef,undef,undef,undef,undef],defers:=[]})
   (λy a' s A B row hs hg hr=>hs.elim λBx hx=>⟨Bx,hx.1,Afs (β:=Unit) Bx _ _ _ _ _ _ s A B row hx.2.1 hg (λr e=>(hr r e).2),hx.2.2⟩) ?assign ?body ?done ?stop
  case assign=>
   rintro l pre y W KK ⟨⟨⟨hc,hfz⟩,hB⟩,hp,hsz2⟩ hKK;obtain⟨y,av,nv,cv,kv,hav,hnv,hcv,hkv,hxf⟩:=y;obtain⟨q0,s0,rfl,_⟩:=id hav;obtain⟨q1,s1,rfl,_⟩:=id hnv;obtain⟨q2,s2,rfl,_⟩:=id hcv;obtain⟨q3,s3,rfl,_⟩:=id hkv
   gi_wp2
   exact hKK _ _ ((KeepsOthers.alloc _ _).from _) (Kept.of_below hB.size (Aa _ _)) ⟨⟨⟨Lt _ hc,Nl _ hc hfz⟩,blA⟩,hp,by simp;omega⟩ ⟨W.heap.size,by omega,⟨by simp[go_sem],by simp[go_sem],by simp[go_sem],by simp[go_sem],by simp[go_sem],by simp[go_sem]⟩,rfl⟩
  case body=>
   rintro l pre y a' W hlw _ ⟨⟨⟨hc,hfz⟩,hB⟩,hp,hsz2⟩ ⟨Bx,hBx,⟨y0,y1,y2,y3,y4,y5⟩,rfl⟩ hpl;have hz0:=Bo hc;have hn:w.heap.size<=W.heap.size:=by omega
   have HLA:=hid (λX hX=>Au7 y.arm y.av y.nv y.cv y.kv X (HRR.out X hX) (y.hav.below hX) (y.hnv.below hX) (y.hcv.below hX) (y.hkv.below hX) y.mem);have HSN:Hid (A8 ((pre++[y]).map (Ci ∘ O8.arm))=if 0<Ci y.arm then Ci y.arm else 0):=Za _ _ _ hp;obtain⟨q0,s0,e0,_⟩:=id y.hav;obtain⟨q1,s1,e1,_⟩:=id y.hnv;obtain⟨q2,s2,e2,_⟩:=id y.hcv;obtain⟨q3,s3,e3,_⟩:=id y.hkv;rw[e0,e1,e2,e3] at HLA;rw[e0] at y2;rw[e1] at y3;rw[e2] at y4;rw[e3] at y5;obtain⟨ow,how⟩:∃ow,ow=Ci y.arm:=⟨_,rfl⟩
   rw[<-how] at HLA HSN;clear how e0 e1 e2 e3 hpl hlw hp;by_cases hpos:0<ow
   ·rw[J9 hpos] at HLA
    have HX:Hid (A8 ((pre++[y]).map (Ci ∘ O8.arm))=ow):=by show _=_;rw[HSN.out,if_pos hpos]
    clear HSN
    gi_wp2_with (refine⟨trivial,?_⟩;gi_at_call 129;refine(CallsIn.inRound l (callsIn_wide.2 (HLA.out _ blA))).mono ?_;rintro e W2 ⟨rfl,hb2⟩;have c2:=(hb2.cell (p:=⟨w.heap.size+1,0,none⟩) hz0).trans hc;have z2:=(hb2.frozen (p:=⟨w.heap.size+1,0,none⟩) hz0).trans hfz)
    exact⟨by(repeat (first | with_reducible exact KeepsFrom.refl _ _ | with_reducible refine Uw ?_ _ _ | with_reducible refine Oz ?_ | with_reducible refine kf_alloc ?_ _ | with_reducible refine O0 ?_ (by assumption))),⟨rfl,ow,hpos,HX.out,Ey c2⟩,blA⟩
   ·rw[Oh hpos] at HLA
    have HX:Hid (A8 ((pre++[y]).map (Ci ∘ O8.arm))=0):=by show _=_;rw[HSN.out,if_neg hpos]
    clear HSN
    gi_wp2_with (refine⟨trivial,?_⟩;gi_at_call 129;refine(CallsIn.inRound l (callsIn_wide.2 (HLA.out _ blA))).mono ?_;rintro e W2 ⟨rfl,hb2⟩;have c2:=(hb2.cell (p:=⟨w.heap.size+1,0,none⟩) hz0).trans hc;have z2:=(hb2.frozen (p:=⟨w.heap.size+1,0,none⟩) hz0).trans hfz)
    exact⟨by(repeat (first | with_reducible exact KeepsFrom.refl _ _ | with_reducible refine Uw ?_ _ _ | with_reducible refine Oz ?_ | with_reducible refine kf_alloc ?_ _ | with_reducible refine O0 ?_ (by assumption))),Ub (Kept.refl _ _ _) hn hb2,⟨⟨⟨c2,z2⟩,blA⟩,by rw[HX.out];omega,by have:=hb2.size;omega⟩⟩
  case done=>
   rintro D ys W hD hS ⟨⟨⟨hc,hfz⟩,hB⟩,hp,_⟩ hK;rw[<-List.map_map,hS,HFP.out] at hp;have HY:Hid (errOf R=.nilIface):=by show _=_;rw[HX.out,Oh hp]
   gi_wp2
   have hK':=(KeepsOthers.setCell W ⟨w.heap.size+1,0,none⟩ .nilIface).same D _ hK rfl;refine⟨by simp, .inl ⟨_,_,rfl,run_takeDeferred hK',?_⟩⟩;have hc5:=cell_kept (Ey hc (v:=.nilIface)) (grownBy_putObj' _ D (.deferred none)) (λr e=>by cases e;exact⟨_,hK',rfl⟩);refine⟨.nilIface,?_,by rw[HY.out],(hB.setCell (p:=⟨w.heap.size+1,0,none⟩) (by simp) _).trans (belowK_b (w:=w) (A4i _) _ D _ _ (by omega) hK' rfl rfl)⟩;simp[results,Tryz.f114,go_sem,hc5]
  case stop=>
   rintro D c pre W hD hSp ⟨⟨rfl,k,hk,hfp,hc⟩,hB⟩ hK;have hzk:z=k:=by
    rw[<-List.map_map] at hfp;have:=Vp Ci hSp (by rw[hfp];exact hk)
    rw[HFP.out,hfp] at this;exact this
   have HY:Hid (errOf R=.iface 146 (.int .i64 k)):=by show _=_;rw[HX.out,hzk,J9 hk]
   gi_wp2
   refine⟨by simp, .inl ⟨_,_,rfl,run_takeDeferred hK,?_⟩⟩;have hc5:=cell_kept hc (grownBy_putObj' _ D (.deferred none)) (λr e=>by cases e;exact⟨_,hK,rfl⟩);refine⟨.iface 146 (.int .i64 k),?_,by rw[HY.out],hB.trans (belowK_b (w:=w) (A4i _) W D _ _ (by omega) hK rfl rfl)⟩;simp[results,Tryz.f114,go_sem,hc5]
 ·have HX:Hid (R=4):=by show _=_;rw[HRW.out];simp
  clear HRW;refine callsIn_of_wp_marks Tryz.func114 rfl trivial ?_ rfl;simp only[Tryz.ntmps114,A4g,A4e,A4f,Nat.reduceAdd,Nat.reduceSub,A46,A47,A5c,A49,A44,A43]
  gi_wp2_with (refine⟨trivial,?_⟩;gi_at_call 73;refine(callsIn_wide.2 (HNONE.out _ blA)).mono ?_;rintro e w0 ⟨rfl,hb9⟩;have c9:w0.cell? ⟨w.heap.size+1,0,none⟩=some .nilIface:=(clA hb9);have z9:w0.frozen? ⟨w.heap.size+1,0,none⟩=false:=(frA hb9))
  refine⟨.iface 146 (.int .i64 4),?_,by rw[HX.out,J9 (by omega)],blA⟩;simp[results,Tryz.f114,go_sem,c9]
end Go.Proofs.YtbfljjcnbbmoaaaGreatDoor
namespace Go.Proofs.YtbfljjcnbbmoaaaGreatDoor
open Stil
open Go.RowKit Go.Sort Go.BigFrame
def lookOf (many:Bool) (p:Int × Nat):Value:=if many then .iface 146 (.int .i64 1) else if 0<p.1 then .iface 149 (.agg #[.int .i64 p.2, .iface 146 (.int .i64 p.1)]) else .nilIface
theorem Apw (l:List Stil.Arm) (kv:Value) (w:World) (hr:Eu w) (hkv:Dv w kv l) (hl:l.length<=1048576) (hsz:Bh l<=1000000000) (hft:∀x∈l,C9 x):
  Calls Tryz.prog 83 #[kv] w λe w'=>e=.returned (lookOf (decide (40<l.length\/400<Bh l)) (D9 l 0))/\Below w.heap.size w w':=by
 have HT:=hid (λW hW=>Ali l kv 400 W (hkv.below hW) hft hl hsz (by omega) (by omega));have HF:=hid hft;have HRR:=hid (λW (h:Below w.heap.size w W)=>hr.below h);obtain⟨a,cap,rfl,hc⟩:=hkv;have HC:=hid hc;obtain⟨ln,hln⟩:∃ln,ln=l.length:=⟨_,rfl⟩
 obtain⟨z,hz⟩:∃z,z=Bh l:=⟨_,rfl⟩
 have HLN:=hid hln;rw[<-hln] at hl HT ⊢;rw[<-hz] at HT hsz ⊢;obtain⟨Q,hQ⟩:∃Q,Q=D9 l 0:=⟨_,rfl⟩
 rw[<-hQ];have HQ:=hid hQ;obtain⟨R,hR⟩:∃R,R=lookOf (decide (40<ln\/400<z)) Q:=⟨_,rfl⟩
 rw[<-hR];have HR:=hid hR;clear hc hft hln hz hQ hR hr;by_cases h1:40<ln
 ·have HX:Hid (R=.iface 146 (.int .i64 1)):=by show _=_;rw[HR.out,decide_eq_true (.inl h1)];rfl
  clear HR HQ;go_enter Tryz.func83,Tryz.ntmps83
  go_wp2
  go_ret;exact⟨by rw[HX.out];rfl,blA⟩
 ·by_cases h2:400<z
  ·have HX:Hid (R=.iface 146 (.int .i64 1)):=by show _=_;rw[HR.out,decide_eq_true (.inr h2)];rfl
   clear HR HQ;go_enter Tryz.func83,Tryz.ntmps83
   go_wp2_with (go_at_call 113;refine(HT.out _ blA).mono ?_;rintro e w1 ⟨r,rfl,_,hr2,hr3,hb1⟩;have hr4:=hr2 (by omega);clear hr2)
   go_ret;exact⟨by rw[HX.out];rfl,blA⟩
  ·have HX:Hid (R=lookOf false Q):=by show _=_;rw[HR.out,decide_eq_false (by omega)]
   clear HR;go_enter Tryz.func83,Tryz.ntmps83
   go_wp2_with (go_at_call 113;refine(HT.out _ blA).mono ?_;rintro e w1 ⟨r,rfl,hr1,_,hr3,hb1⟩;have hr4:¬(400:Int)<r:=(by omega);clear hr1)
   have hbs:Below w.heap.size w w1:=blA;clear hb1;go_loopw [17] (λi wr=>∃j:Nat,j<=ln/\i=.int .i64 j/\Q=D9 (l.drop j) j/\Below w.heap.size w wr) (λi _=>ln - (intOf i).toNat)
   case atStart=>exact⟨0,by omega,rfl,HQ.out,hbs⟩
   case round=>
    clear hbs HQ;obtain⟨j,hj,rfl,hfr,hbw⟩:=hrel;have HP:=hid hfr;clear hfr;by_cases hlt:j<ln
    ·have hlt':j<l.length:=by have:=HLN.out;omega
     obtain⟨b,o,rfl,hbl,hn⟩:=HC.out j hlt';obtain⟨hna,kcv,kkv,x4,x5,hcv,hkv⟩:=(Pg.below hbw _ _ _ hn hbl).open;obtain⟨x0,x1,kav,knv,x2,x3,hav,hnv⟩:=hna.open;have HI:=hid (λW hW=>Ap0 l[j] kav knv kcv kkv W (HRR.out W (hbw.trans (hW.mono hbw.size))) (hav.below hW) (hnv.below hW) (hcv.below hW) (hkv.below hW) (HF.out _ (A4k hlt')));have HS:Hid (Q=if 0<Eg l[j] then(Eg l[j],j) else D9 (l.drop (j+1)) (j+1)):=by show _=_;rw[HP.out,Xn l j hlt']
     obtain⟨s,hs⟩:∃s,s=Eg l[j]:=⟨_,rfl⟩
     obtain⟨x,hx⟩:∃x,x=l[j]:=⟨_,rfl⟩
     rw[<-hs] at HI HS;rw[<-hx] at HI x0 x1 hav hnv hcv hkv;obtain⟨t0,u0,rfl,_⟩:=hav;obtain⟨t1,u1,rfl,_⟩:=hnv;obtain⟨t2,u2,rfl,_⟩:=hcv;obtain⟨t3,u3,rfl,_⟩:=hkv;clear hs hx hn hna HP;by_cases hpos:0<s
     ·have HY:Hid (R=.iface 149 (.agg #[.int .i64 j, .iface 146 (.int .i64 s)])):=by show _=_;rw[HX.out,HS.out,if_pos hpos];unfold lookOf;simp[hpos]
      rw[J9 hpos] at HI
      go_wp2_with (go_at_call 114;refine(HI.out _ blA).mono ?_;rintro e w4 ⟨rfl,hb4⟩)
      go_ret;exact⟨by rw[HY.out];rfl,blA⟩
     ·have HY:Hid (Q=D9 (l.drop (j+1)) (j+1)):=by show _=_;rw[HS.out,if_neg hpos]
      rw[Oh hpos] at HI
      go_wp2_with (go_at_call 114;refine(HI.out _ blA).mono ?_;rintro e w4 ⟨rfl,hb4⟩)
      exact⟨⟨j+1,by omega,by go_num,HY.out,blA⟩,by simp[intOf];omega⟩
    ·have HY:Hid (R=.nilIface):=by show _=_;rw[HX.out,HP.out,List.drop_of_length_le (by have:=HLN.out;omega)];rfl
     go_wp2
     go_ret;exact⟨by rw[HY.out];rfl,hbw⟩
end Go.Proofs.YtbfljjcnbbmoaaaGreatDoor
