import Derived.Test.YtbfljjcnbbmoaaaGreatDoorGU
import Derived.Shelf.RegionOpen
import Derived.OwnWalkIn
import Derived.TacticsInMore
import Derived.LoopNIn
import Derived.LoopIn
set_option maxHeartbeats 4000000
set_option maxRecDepth 100000
namespace Go.Proofs.YtbfljjcnbbmoaaaGreatDoor
open Stil
open Go.RowKit Go.Sort Go.BigFrame Go.Shelf
theorem Ajn (k op:Int)(av:Value)(p:Option Addr)(ln cap:Nat)(pa:Option Addr)(la ca:Nat)(hav:av=.slice pa la ca)(w:World):
  Calls Tryz.prog 141 #[.agg #[.int .i64 k, .int .i64 op,av, .slice p ln cap]] w λe w'=>e=.returned (.slice p ln cap)/\Below w.heap.size w w':=by
 subst hav;go_enter Tryz.func141,Tryz.ntmps141
 go_wp2
 go_ret;exact⟨rfl,blA⟩
theorem Ajp (k op:Int)(pa pn pc p:Option Addr)(la ca lnn cn lc cc ln cap:Nat)(w:World):
  Calls Tryz.prog 134 #[.agg #[.int .i64 k, .int .i64 op, .slice pa la ca, .slice pn lnn cn, .slice pc lc cc, .slice p ln cap]] w λe w'=>e=.returned (.slice p ln cap)/\Below w.heap.size w w':=by
 go_enter Tryz.func134,Tryz.ntmps134
 go_wp2
 go_ret;exact⟨rfl,blA⟩
def Ah6 (l Y B K:Nat)(W:World):Prop:=W.cell? ⟨Y,0,none⟩=some (.func (.yield l) #[] #[])/\W.cell? ⟨B,0,none⟩=some (.func (.func 147) #[] #[.pointer (some ⟨Y,0,none⟩), .pointer (some ⟨B,0,none⟩), .pointer (some ⟨K,0,none⟩)])/\W.cell? ⟨K,0,none⟩=some (.func (.func 141) #[] #[])
def Acf (w:World)(P:Stil.Net->Prop)(C:Nat->Prop)(M l Y B K N:Nat)(J Jx:List (Rj w P)->World->Prop)(es:List Stil.Net):Prop:=
 ∀(m:Nat) (v:Value) (pre:List (Rj w P)) (W:World),Ou w C W v es->Ah6 l Y B K W->J pre W->Below w.heap.size w W->M<=W.heap.size->pre.length+(Ei es).length<=N->
  CallsIn Fence.wide m Tryz.prog 147 #[v, .pointer (some ⟨Y,0,none⟩), .pointer (some ⟨B,0,none⟩), .pointer (some ⟨K,0,none⟩)] W λe W'=>
   (e=.returned (.bool true)/\∃ys:List (Rj w P),ys.map Rj.net=Ei es/\J (pre++ys) W'/\Kept w.heap.size C W W')\/
   (e=.returned (.bool false)/\∃ys:List (Rj w P),ys.map Rj.net<+:Ei es/\Jx (pre++ys) W')
def Ah7 (l Y B K:Nat)(W:World):Prop:=W.cell? ⟨Y,0,none⟩=some (.func (.yield l) #[] #[])/\W.cell? ⟨B,0,none⟩=some (.func (.func 139) #[] #[.pointer (some ⟨Y,0,none⟩), .pointer (some ⟨B,0,none⟩), .pointer (some ⟨K,0,none⟩)])/\W.cell? ⟨K,0,none⟩=some (.func (.func 134) #[] #[])
def Acg (w:World)(P:Stil.Arm->Prop)(C:Nat->Prop)(M l Y B K N:Nat)(J Jx:List (Pv w P)->World->Prop)(es:List Stil.Arm):Prop:=
 ∀(m:Nat) (v:Value) (pre:List (Pv w P)) (W:World),Nu w C W v es->Ah7 l Y B K W->J pre W->Below w.heap.size w W->M<=W.heap.size->pre.length+(D6 es).length<=N->
  CallsIn Fence.wide m Tryz.prog 139 #[v, .pointer (some ⟨Y,0,none⟩), .pointer (some ⟨B,0,none⟩), .pointer (some ⟨K,0,none⟩)] W λe W'=>
   (e=.returned (.bool true)/\∃ys:List (Pv w P),ys.map Pv.arm=D6 es/\J (pre++ys) W'/\Kept w.heap.size C W W')\/
   (e=.returned (.bool false)/\∃ys:List (Pv w P),ys.map Pv.arm<+:D6 es/\Jx (pre++ys) W')
end Go.Proofs.YtbfljjcnbbmoaaaGreatDoor
namespace Go.Proofs.YtbfljjcnbbmoaaaGreatDoor
open Stil
open Go.RowKit Go.Sort Go.BigFrame Go.Shelf
attribute [local go_sem] Oper.semAt_some
theorem Ah6.keep {l Y B K:Nat}{C:Nat->Prop}{W W':World}(h:Ah6 l Y B K W)(hY:¬C Y)(hB:¬C B)(hK:¬C K)(hk:Jg C W W'):Ah6 l Y B K W':=⟨hk.cell hY h.1,hk.cell hB h.2.1,hk.cell hK h.2.2⟩
theorem zp0 {p:Prop}(h:p:=by
 go_simp
 refine aA _ _ ?_;clear aA KK;refine wpAnyIn_ready (rs:=[7]) krz spz ?_;refine AllReadyIn.cons rfl (λKK aA=>?_) AllReadyIn.nil;go_simp;refine aA _ _ ?_;clear aA KK;exact key1):p:=h
theorem zq0 {p:Prop}(h:p:=by
 go_simp
 refine aA _ _ ?_;clear aA KK;refine wpAnyIn_ready (rs:=[6]) krz spz ?_;refine AllReadyIn.cons rfl (λKK aA=>?_) AllReadyIn.nil;go_simp;refine aA _ _ ?_;clear aA KK;exact key1):p:=h
theorem zb {p:Prop}(h:p:=by
 intro key2
 refine wpAnyIn_ready (rs:=[3]) krz spz ?_;refine AllReadyIn.cons rfl (λKK aA=>?_) AllReadyIn.nil;go_simp;refine aA _ _ ?_;clear aA KK;refine wpAnyIn_ready (rs:=[4]) krz spz ?_;refine AllReadyIn.cons rfl (λKK aA=>?_) AllReadyIn.nil;go_simp;refine aA _ _ ?_;clear aA KK;refine wpAnyIn_ready (rs:=[5,6,7]) krz spz ?_;refine AllReadyIn.cons rfl (λKK aA=>?_) ?_
 ·go_simp
  refine aA _ _ ?_;clear aA KK;refine wpAnyIn_ready (rs:=[6,7]) krz spz ?_;refine AllReadyIn.cons rfl (λKK aA=>?_) ?_
  ·exact zp0
  refine AllReadyIn.cons rfl (λKK aA=>?_) ?_
  ·exact zq0
  exact AllReadyIn.nil
 refine AllReadyIn.cons rfl (λKK aA=>?_) ?_
 ·go_simp
  refine aA _ _ ?_;clear aA KK;refine wpAnyIn_ready (rs:=[5,7]) krz spz ?_;refine AllReadyIn.cons rfl (λKK aA=>?_) ?_
  ·exact zp0
  refine AllReadyIn.cons rfl (λKK aA=>?_) ?_
  ·go_simp
   refine aA _ _ ?_;clear aA KK;exact key2
  exact AllReadyIn.nil
 refine AllReadyIn.cons rfl (λKK aA=>?_) ?_
 ·go_simp
  refine aA _ _ ?_;clear aA KK;refine wpAnyIn_ready (rs:=[5,6]) krz spz ?_;refine AllReadyIn.cons rfl (λKK aA=>?_) ?_
  ·exact zq0
  refine AllReadyIn.cons rfl (λKK aA=>?_) ?_
  ·go_simp
   refine aA _ _ ?_;clear aA KK;exact key2
  exact AllReadyIn.nil
 exact AllReadyIn.nil):p:=h
theorem zc {p:Prop}(h:p:=by
 refine aA _ _ ?_
 clear aA KK;refine wpAnyIn_ready (rs:=[10]) krz spz ?_;refine AllReadyIn.cons rfl (λKK aA=>?_) AllReadyIn.nil;go_simp;refine aA _ _ ?_;clear aA KK;refine wpAnyIn_ready (rs:=[11]) krz spz ?_;refine AllReadyIn.cons rfl (λKK aA=>?_) AllReadyIn.nil;go_simp;refine aA _ _ ?_;clear aA KK;refine wpAnyIn_done krz ?_ _
 gi_wp2
 exact⟨⟨j+1,ys++[x]++zs,omz,by go_num,jP zs hzs,by simpa[A4w] using vH,hkW.t hk4⟩,by simp[intOf];omega⟩):p:=h
theorem zd {p:Prop}(h:p:=by
 refine aA _ _ ?_
 clear aA KK;refine wpAnyIn_ready (rs:=[10]) krz spz ?_;refine AllReadyIn.cons rfl (λKK aA=>?_) AllReadyIn.nil;go_simp;refine aA _ _ ?_;clear aA KK;refine wpAnyIn_ready (rs:=[11]) krz spz ?_;refine AllReadyIn.cons rfl (λKK aA=>?_) AllReadyIn.nil;go_simp;refine aA _ _ ?_;clear aA KK;refine wpAnyIn_done krz ?_ _
 gi_wp2
 go_ret;exact .inr ⟨rfl,ys++[x]++zs,kK zs hzs,by simpa[A4w] using hx4⟩):p:=h
theorem ze {p:Prop}(h:p:=by
 refine aA _ _ ?_
 clear aA KK;refine wpAnyIn_ready (rs:=[3]) krz spz ?_;refine AllReadyIn.cons rfl (λKK aA=>?_) AllReadyIn.nil;go_simp;refine aA _ _ ?_;clear aA KK;refine wpAnyIn_ready (rs:=[4]) krz spz ?_;refine AllReadyIn.cons rfl (λKK aA=>?_) AllReadyIn.nil;go_simp;refine aA _ _ ?_;clear aA KK;refine wpAnyIn_take (i:=5) (v:=undef) rfl rfl krz krz krz (λ_ _ _ h=>h) ⟨Or.inr ⟨rrz,rfl⟩,λ_=>rfl⟩ ?_;refine wpAnyIn_take (i:=6) (v:=undef) rfl rfl krz krz krz (λ_ _ _ h=>h) ⟨Or.inr ⟨rrz,rfl⟩,λ_=>rfl⟩ ?_;refine wpAnyIn_take (i:=7) (v:=undef) rfl rfl krz krz krz (λ_ _ _ h=>h) ⟨Or.inr ⟨rrz,rfl⟩,λ_=>rfl⟩ ?_;refine wpAnyIn_take (i:=8) (v:=undef) rfl rfl krz krz krz (λ_ _ _ h=>h) ⟨Or.inr ⟨rrz,rfl⟩,λ_=>rfl⟩ ?_;refine wpAnyIn_take (i:=9) (v:=undef) rfl rfl krz krz krz (λ_ _ _ h=>h) ⟨Or.inr ⟨rrz,rfl⟩,λ_=>rfl⟩ ?_;refine wpAnyIn_take (i:=10) (v:=undef) rfl rfl krz krz krz (λ_ _ _ h=>h) ⟨Or.inr ⟨rrz,rfl⟩,λ_=>rfl⟩ ?_;refine wpAnyIn_ready (rs:=[11]) krz spz ?_;refine AllReadyIn.cons rfl (λKK aA=>?_) AllReadyIn.nil;go_simp;refine aA _ _ ?_;clear aA KK;refine wpAnyIn_done krz ?_ _
 gi_wp2
 go_ret;exact .inr ⟨rfl,ys++[x],oP.out,by simpa[A4w] using hx3⟩):p:=h
theorem zt {p:Prop}(h:p:=by
 intro mX
 refine wpAnyIn_ready (rs:=[0,1]) krz spz ?_;refine AllReadyIn.cons rfl (λKK aA=>?_) ?_
 ·go_simp
  refine aA _ _ ?_;clear aA KK;refine wpAnyIn_ready (rs:=[1]) krz spz ?_;refine AllReadyIn.cons rfl (λKK aA=>?_) AllReadyIn.nil;go_simp;refine aA _ _ ?_;clear aA KK;exact mX
 refine AllReadyIn.cons rfl (λKK aA=>?_) ?_
 ·go_simp
  refine aA _ _ ?_;clear aA KK;refine wpAnyIn_ready (rs:=[0]) krz spz ?_;refine AllReadyIn.cons rfl (λKK aA=>?_) AllReadyIn.nil;go_simp;refine aA _ _ ?_;clear aA KK;exact mX
 exact AllReadyIn.nil):p:=h
theorem Afy (w:World)(P:Stil.Net->Prop)(C:Nat->Prop)(hC:∀k,C k->w.heap.size<=k)(M l Y B K N:Nat)(hCM:∀k,C k->k<M)(qP:¬C Y)(mD:¬C B)(kE:¬C K)(J Jx:List (Rj w P)->World->Prop)
  (hJ:∀s W W',J s W->Below W.heap.size W W'->J s W')
  (hY:∀m pre (x:Rj w P) W,J pre W->pre.length<N->YieldAt Fence.wide m Tryz.prog l #[.agg #[.int .i64 x.net.kind, .int .i64 x.net.one.op,x.av,x.kv]] W λe W'=>
   (e=.returned (.bool true)/\J (pre++[x]) W'/\Kept w.heap.size C W W')\/(e=.returned (.bool false)/\Jx (pre++[x]) W'))
  (es:List Stil.Net) (hl:es.length<=1048576) (hf:∀x∈es,P x) (ih:∀x∈es,Acf w P C M l Y B K N J Jx x.kids):Acf w P C M l Y B K N J Jx es:=by
 intro m v pre W hs hbx hj hb hM hN;have HS:=hid (λW' (h:Jg C W W')=>hs.keep h);have cZ:=hid (λW' (h:Jg C W W')=>hbx.keep qP mD kE h);have HYY:=hid hY;have wH:=hid hJ;have IH:=hid ih;have HN:=hid hN;have HB:=hid hb;obtain⟨a,cap,rfl,_⟩:=hs;clear hJ hY ih hN hb hbx;refine callsIn_of_wp Tryz.func147 rfl trivial ?_ rfl;simp only[Tryz.ntmps147,A4b,A39,A4a,Nat.reduceAdd,Nat.reduceSub,A41,A42,A47,A44,A4z,A4y]
 gi_wp2
 gi_loopw [10] (λi wr=>∃(j:Nat) (ys:List (Rj w P)),j<=es.length/\i=.int .i64 j/\ys.map Rj.net=Ei (es.take j)/\J (pre++ys) wr/\Kept w.heap.size C W wr) (λi _=>es.length - (intOf i).toNat)
 case atStart=>exact⟨0,[],omz,rfl,by simp[Ei],by simpa using hj,Kept.refl _ _ _⟩
 case round=>
  obtain⟨j,ys,hjl,rfl,hys,hJ1,hk⟩:=hrel;by_cases hlt:j<es.length
  ·obtain⟨a',cap',hv,hcs⟩:=HS wr hk.2
   obtain⟨b,o,rfl,hCb,av,kv,x0,x1,x2,x3,hav,hkv⟩:=hcs j hlt;simp only[Value.slice.injEq,true_and] at hv;obtain⟨rfl,rfl⟩:=hv;obtain⟨b0,b1,b2⟩:=cZ wr hk.2;have hpl:(pre++ys).length<N:=by
    have h1:=HN.out;have h2:ys.length=(Ei (es.take j)).length:=by rw[<-hys,A4o]
    have h3:=(Yo es (j+1)).length_le;rw[Ry es j hlt] at h3;simp only[A38,A39] at h3 ⊢;omega
   obtain⟨p0,r0,e0,_⟩:=id hav;obtain⟨p1,r1,e1,_⟩:=id hkv;have hval:∀x:Rj w P,x=⟨es[j],av,kv,hav,hkv,hf _ (A4f hlt)⟩->∀W1,J (pre++ys) W1->YieldAt Fence.wide (m - 1) Tryz.prog l #[.agg #[.int .i64 es[j].kind, .int .i64 es[j].one.op, .slice p0 es[j].one.args.length r0, .slice p1 es[j].kids.length r1]] W1 λe W'=>
     (e=.returned (.bool true)/\J (pre++ys++[x]) W'/\Kept w.heap.size C W1 W')\/(e=.returned (.bool false)/\Jx (pre++ys++[x]) W'):=by
    intro x hx W1 hj1;have:=HYY (m - 1) (pre++ys) x W1 hj1 hpl
    rw[hx] at this ⊢;simp only[e0,e1] at this ⊢;exact this
   obtain⟨x,hx⟩:∃x:Rj w P,x=⟨es[j],av,kv,hav,hkv,hf _ (A4f hlt)⟩:=⟨_,rfl⟩
   have HV:=hid (hval x hx);have vP:Hid (x.net=es[j]):=by show _=_;rw[hx]
   have kP:=hid hkv;clear hval hx;obtain⟨y,hy⟩:∃y,y=es[j]:=⟨_,rfl⟩
   rw[<-hy] at x0 x1 HV vP kP e0 e1;have rF:=hid hy;rw[e0] at x2;rw[e1] at x3 kP;clear hav hkv e0 e1 hy;have hZ:¬C wr.heap.size:=λh=>by have:=hCM _ h;have:=hk.2.size;omega
   have zV:=Bv b0;have vJ:=Bv b1;have qY:=Bv b2
   gi_wp2
   obtain⟨W1,hW1⟩:∃W1,W1=wr.alloc (.cells #[.int .i64 y.kind, .int .i64 y.one.op, .slice p0 y.one.args.length r0, .slice p1 y.kids.length r1] 52):=⟨_,rfl⟩
   rw[<-hW1];have c0:W1.cell? ⟨Y,0,none⟩=some (.func (.yield l) #[] #[]):=by rw[hW1];simp[go_sem,b0,zV]
   have c1:W1.cell? ⟨B,0,none⟩=some (.func (.func 147) #[] #[.pointer (some ⟨Y,0,none⟩), .pointer (some ⟨B,0,none⟩), .pointer (some ⟨K,0,none⟩)]):=by rw[hW1];simp[go_sem,b1,vJ]
   have c2:W1.cell? ⟨K,0,none⟩=some (.func (.func 141) #[] #[]):=by rw[hW1];simp[go_sem,b2,qY]
   obtain⟨z,hz⟩:∃z,z=wr.heap.size:=⟨_,rfl⟩
   rw[<-hz] at hZ ⊢;have d0:W1.cell? ⟨z,0,none⟩=some (.int .i64 y.kind):=by rw[hW1,hz];simp[go_sem]
   have d1:W1.cell? ⟨z,1,none⟩=some (.int .i64 y.one.op):=by rw[hW1,hz];simp[go_sem]
   have d2:W1.cell? ⟨z,2,none⟩=some (.slice p0 y.one.args.length r0):=by rw[hW1,hz];simp[go_sem]
   have d3:W1.cell? ⟨z,3,none⟩=some (.slice p1 y.kids.length r1):=by rw[hW1,hz];simp[go_sem]
   have hb1:Below wr.heap.size wr W1:=by rw[hW1];exact Aa _ _
   have hk1:=hk.t (Kept.of_below (A4k HB.size hk.1.size) hb1);have hJ2:=wH _ _ _ hJ1 hb1.drew;clear hW1 hb1 b0 b1 b2 x0 x1 x2 x3 zV vJ qY hJ1 hk hz;obtain⟨fn,tmps,assign,body,hyd,hR⟩:=HV W1.drew hJ2;clear HV hJ2
   have HRR:Hid (∀(e:Ending) (W2:World),(e=.returned (.bool true)/\J (pre++ys++[x]) W2/\Kept w.heap.size C W1.drew W2)->W2.cell? ⟨B,0,none⟩=some (.func (.func 147) #[] #[.pointer (some ⟨Y,0,none⟩), .pointer (some ⟨B,0,none⟩), .pointer (some ⟨K,0,none⟩)])/\W2.cell? ⟨K,0,none⟩=some (.func (.func 141) #[] #[])/\
     W2.cell? ⟨z,0,none⟩=some (.int .i64 y.kind)/\W2.cell? ⟨z,1,none⟩=some (.int .i64 y.one.op)/\W2.cell? ⟨z,2,none⟩=some (.slice p0 y.one.args.length r0)/\W2.cell? ⟨z,3,none⟩=some (.slice p1 y.kids.length r1)):=
    λe W2 h=>⟨h.2.2.2.cell mD c1,h.2.2.2.cell kE c2,h.2.2.2.cell hZ d0,h.2.2.2.cell hZ d1,h.2.2.2.cell hZ d2,h.2.2.2.cell hZ d3⟩
   have rV:Hid (∀W2 W3,Kept w.heap.size C W1.drew W2->Below W2.heap.size W2 W3->Kept w.heap.size C W W3):=λW2 W3 h2 h3=>
    ((hk1.t ⟨(Below.refl _ _).drew,(Jg.refl _ _).drew⟩).t h2).t (Kept.of_below (A4k (A4k HB.size hk1.1.size) h2.1.size) h3)
   have iM:Hid (∀W3,J (pre++ys++[x]) W3->Kept w.heap.size C W W3->CallsIn Fence.wide (m - 1) Tryz.prog 147 #[.slice p1 y.kids.length r1, .pointer (some ⟨Y,0,none⟩), .pointer (some ⟨B,0,none⟩), .pointer (some ⟨K,0,none⟩)] W3 λe W'=>
     (e=.returned (.bool true)/\∃zs:List (Rj w P),zs.map Rj.net=Ei y.kids/\J (pre++ys++[x]++zs) W'/\Kept w.heap.size C W3 W')\/
     (e=.returned (.bool false)/\∃zs:List (Rj w P),zs.map Rj.net<+:Ei y.kids/\Jx (pre++ys++[x]++zs) W')):=by
    intro W3 hj3 hk3;have hbw:=HB.trans hk3.1;refine IH y (by rw[rF.out];exact A4f hlt) (m - 1) _ _ W3 (Ou.of_at kP hbw hC) (cZ W3 hk3.2) hj3 hbw (A4k hM hk3.2.size) ?_;have h1:=HN.out;have h2:ys.length=(Ei (es.take j)).length:=by rw[<-hys,A4o]
    have h3:=(Yo es (j+1)).length_le;rw[Ry es j hlt,<-rF.out] at h3;simp only[A38,A39,A4a] at h3 ⊢;omega
   have jP:Hid (∀zs:List (Rj w P),zs.map Rj.net=Ei y.kids->(ys++[x]++zs).map Rj.net=Ei (es.take (j+1))):=by
    intro zs hzs;rw[Ry es j hlt,A4m,A4m,hys,hzs,<-rF.out];simp[vP.out]
   have kK:Hid (∀zs:List (Rj w P),zs.map Rj.net<+:Ei y.kids->(ys++[x]++zs).map Rj.net<+:Ei es):=by
    intro zs hzs;refine List.IsPrefix.trans ?_ (Yo es (j+1));rw[Ry es j hlt,A4m,A4m,hys,<-rF.out];obtain⟨t,ht⟩:=hzs;exact⟨t,by simp[vP.out,<-ht]⟩
   have oP:Hid ((ys++[x]).map Rj.net<+:Ei es):=by
    show _<+:_
    have:=kK.out [] spz
    simpa using this
   refine wpIn_region_any krz ?_;try (change wpAnyIn _ _ _ _ _ _ _ _ _ (World.drew _))
   apply share
   ·exact zt
   ·refine wpAnyIn_ready (rs:=[2]) krz spz ?_
    refine AllReadyIn.cons rfl (λKK aA=>?_) AllReadyIn.nil;go_simp;refine⟨λh=>(by cases h),?_⟩;refine hR.mono ?_;rintro e W2 (⟨rfl,hJ3,hk3⟩ | ⟨rfl,hx3⟩)
    ·refine aA _ _ ?_
     clear aA KK;obtain⟨f1,f2,g0,g1,g2,g3⟩:=HRR _ _ ⟨rfl,hJ3,hk3⟩;apply share
     ·intro key1
      apply share
      ·exact zb
      ·refine wpAnyIn_ready (rs:=[5,8]) krz spz ?_
       refine AllReadyIn.cons rfl (λKK aA=>?_) ?_
       ·go_simp
        refine aA _ _ ?_;clear aA KK;exact key1
       refine AllReadyIn.cons rfl (λKK aA=>?_) ?_
       ·go_simp
        refine⟨trivial,λh=>(by cases h),?_⟩;refine(callsIn_wide.2 (Ajn _ _ _ _ _ _ _ _ _ rfl _)).mono ?_;rintro e W3 ⟨rfl,hb3⟩;refine aA _ _ ?_;clear aA KK;have h1:=(hb3.cell (p:=⟨B,0,none⟩) (Bv f1)).trans f1;have hJ3:=wH _ _ _ hJ3 hb3;have hkW:=rV _ _ hk3 hb3;refine wpAnyIn_ready (rs:=[5]) krz spz ?_;refine AllReadyIn.cons rfl (λKK aA=>?_) AllReadyIn.nil;go_simp;refine aA _ _ ?_;clear aA KK;refine wpAnyIn_ready (rs:=[9]) krz spz ?_;refine AllReadyIn.cons rfl (λKK aA=>?_) AllReadyIn.nil;go_simp;refine⟨trivial,λh=>(by cases h),?_⟩;refine(iM _ hJ3 hkW).mono ?_;rintro e W4 (⟨rfl,zs,hzs,vH,hk4⟩ | ⟨rfl,zs,hzs,hx4⟩)
        ·exact zc
        ·exact zd
       exact AllReadyIn.nil
     ·refine wpAnyIn_ready (rs:=[8]) krz spz ?_
      refine AllReadyIn.cons rfl (λKK aA=>?_) AllReadyIn.nil;go_simp;refine⟨trivial,λh=>(by cases h),?_⟩;refine(callsIn_wide.2 (Ajn _ _ _ _ _ _ _ _ _ rfl _)).mono ?_;rintro e W3 ⟨rfl,hb3⟩;refine aA _ _ ?_;clear aA KK;have h1:=(hb3.cell (p:=⟨B,0,none⟩) (Bv f1)).trans f1;have hJ3:=wH _ _ _ hJ3 hb3;have hkW:=rV _ _ hk3 hb3;refine wpAnyIn_ready (rs:=[9]) krz spz ?_;refine AllReadyIn.cons rfl (λKK aA=>?_) AllReadyIn.nil;go_simp;refine⟨trivial,λh=>(by cases h),?_⟩;refine(iM _ hJ3 hkW).mono ?_;rintro e W4 (⟨rfl,zs,hzs,vH,hk4⟩ | ⟨rfl,zs,hzs,hx4⟩)
      ·exact zc
      ·exact zd
    ·exact ze
  ·gi_wp2
   go_ret;refine .inl ⟨rfl,ys,?_,hJ1,hk⟩;rw[hys,A43 omz]
end Go.Proofs.YtbfljjcnbbmoaaaGreatDoor
namespace Go.Proofs.YtbfljjcnbbmoaaaGreatDoor
open Stil
open Go.RowKit Go.Sort Go.BigFrame Go.Shelf
attribute [local go_sem] Oper.semAt_some
theorem Ah7.keep {l Y B K:Nat}{C:Nat->Prop}{W W':World}(h:Ah7 l Y B K W)(hY:¬C Y)(hB:¬C B)(hK:¬C K)(hk:Jg C W W'):Ah7 l Y B K W':=⟨hk.cell hY h.1,hk.cell hB h.2.1,hk.cell hK h.2.2⟩
theorem Afz (w:World)(P:Stil.Arm->Prop)(C:Nat->Prop)(hC:∀k,C k->w.heap.size<=k)(M l Y B K N:Nat)(hCM:∀k,C k->k<M)(qP:¬C Y)(mD:¬C B)(kE:¬C K)(J Jx:List (Pv w P)->World->Prop)
  (hJ:∀s W W',J s W->Below W.heap.size W W'->J s W')
  (hY:∀m pre (x:Pv w P) W,J pre W->pre.length<N->YieldAt Fence.wide m Tryz.prog l #[.agg #[.int .i64 x.arm.net.kind, .int .i64 x.arm.net.one.op,x.av,x.nv,x.cv,x.kv]] W λe W'=>
   (e=.returned (.bool true)/\J (pre++[x]) W'/\Kept w.heap.size C W W')\/(e=.returned (.bool false)/\Jx (pre++[x]) W'))
  (es:List Stil.Arm) (hl:es.length<=1048576) (hf:∀x∈es,P x) (ih:∀x∈es,Acg w P C M l Y B K N J Jx x.kids):Acg w P C M l Y B K N J Jx es:=by
 intro m v pre W hs hbx hj hb hM hN;have HS:=hid (λW' (h:Jg C W W')=>hs.keep h);have cZ:=hid (λW' (h:Jg C W W')=>hbx.keep qP mD kE h);have HYY:=hid hY;have wH:=hid hJ;have IH:=hid ih;have HN:=hid hN;have HB:=hid hb;obtain⟨a,cap,rfl,_⟩:=hs;clear hJ hY ih hN hb hbx;refine callsIn_of_wp Tryz.func139 rfl trivial ?_ rfl;simp only[Tryz.ntmps139,A4b,A39,A4a,Nat.reduceAdd,Nat.reduceSub,A41,A42,A47,A44,A4z,A4y]
 gi_wp2
 gi_loopw [10] (λi wr=>∃(j:Nat) (ys:List (Pv w P)),j<=es.length/\i=.int .i64 j/\ys.map Pv.arm=D6 (es.take j)/\J (pre++ys) wr/\Kept w.heap.size C W wr) (λi _=>es.length - (intOf i).toNat)
 case atStart=>exact⟨0,[],omz,rfl,by simp[D6],by simpa using hj,Kept.refl _ _ _⟩
 case round=>
  obtain⟨j,ys,hjl,rfl,hys,hJ1,hk⟩:=hrel;by_cases hlt:j<es.length
  ·obtain⟨a',cap',hv,hcs⟩:=HS wr hk.2
   obtain⟨b,o,rfl,hCb,av,nv,cv,kv,x0,x1,x2,x3,x4,x5,hav,hnv,hcv,hkv⟩:=hcs j hlt;simp only[Value.slice.injEq,true_and] at hv;obtain⟨rfl,rfl⟩:=hv;obtain⟨b0,b1,b2⟩:=cZ wr hk.2;have hpl:(pre++ys).length<N:=by
    have h1:=HN.out;have h2:ys.length=(D6 (es.take j)).length:=by rw[<-hys,A4o]
    have h3:=(Y0 es (j+1)).length_le;rw[Sl es j hlt] at h3;simp only[A38,A39] at h3 ⊢;omega
   obtain⟨p0,r0,e0,_⟩:=id hav;obtain⟨p2,r2,e2,_⟩:=id hnv;obtain⟨p3,r3,e3,_⟩:=id hcv;obtain⟨p1,r1,e1,_⟩:=id hkv;have hval:∀x:Pv w P,x=⟨es[j],av,nv,cv,kv,hav,hnv,hcv,hkv,hf _ (A4f hlt)⟩->∀W1,J (pre++ys) W1->YieldAt Fence.wide (m - 1) Tryz.prog l #[.agg #[.int .i64 es[j].net.kind, .int .i64 es[j].net.one.op, .slice p0 es[j].net.one.args.length r0, .slice p2 es[j].net.kids.length r2, .slice p3 es[j].coils.length r3, .slice p1 es[j].kids.length r1]] W1 λe W'=>
     (e=.returned (.bool true)/\J (pre++ys++[x]) W'/\Kept w.heap.size C W1 W')\/(e=.returned (.bool false)/\Jx (pre++ys++[x]) W'):=by
    intro x hx W1 hj1;have:=HYY (m - 1) (pre++ys) x W1 hj1 hpl
    rw[hx] at this ⊢;simp only[e0,e1,e2,e3] at this ⊢;exact this
   obtain⟨x,hx⟩:∃x:Pv w P,x=⟨es[j],av,nv,cv,kv,hav,hnv,hcv,hkv,hf _ (A4f hlt)⟩:=⟨_,rfl⟩
   have HV:=hid (hval x hx);have vP:Hid (x.arm=es[j]):=by show _=_;rw[hx]
   have kP:=hid hkv;clear hval hx;obtain⟨y,hy⟩:∃y,y=es[j]:=⟨_,rfl⟩
   rw[<-hy] at x0 x1 HV vP kP e0 e1 e2 e3;have rF:=hid hy;rw[e0] at x2;rw[e2] at x3;rw[e3] at x4;rw[e1] at x5 kP;clear hav hnv hcv hkv e0 e1 e2 e3 hy;have hZ:¬C wr.heap.size:=λh=>by have:=hCM _ h;have:=hk.2.size;omega
   have zV:=Bv b0;have vJ:=Bv b1;have qY:=Bv b2
   gi_wp2
   obtain⟨W1,hW1⟩:∃W1,W1=wr.alloc (.cells #[.int .i64 y.net.kind, .int .i64 y.net.one.op, .slice p0 y.net.one.args.length r0, .slice p2 y.net.kids.length r2, .slice p3 y.coils.length r3, .slice p1 y.kids.length r1] 55):=⟨_,rfl⟩
   rw[<-hW1];have c0:W1.cell? ⟨Y,0,none⟩=some (.func (.yield l) #[] #[]):=by rw[hW1];simp[go_sem,b0,zV]
   have c1:W1.cell? ⟨B,0,none⟩=some (.func (.func 139) #[] #[.pointer (some ⟨Y,0,none⟩), .pointer (some ⟨B,0,none⟩), .pointer (some ⟨K,0,none⟩)]):=by rw[hW1];simp[go_sem,b1,vJ]
   have c2:W1.cell? ⟨K,0,none⟩=some (.func (.func 134) #[] #[]):=by rw[hW1];simp[go_sem,b2,qY]
   obtain⟨z,hz⟩:∃z,z=wr.heap.size:=⟨_,rfl⟩
   rw[<-hz] at hZ ⊢;have d0:W1.cell? ⟨z,0,none⟩=some (.int .i64 y.net.kind):=by rw[hW1,hz];simp[go_sem]
   have d1:W1.cell? ⟨z,1,none⟩=some (.int .i64 y.net.one.op):=by rw[hW1,hz];simp[go_sem]
   have d2:W1.cell? ⟨z,2,none⟩=some (.slice p0 y.net.one.args.length r0):=by rw[hW1,hz];simp[go_sem]
   have d3:W1.cell? ⟨z,3,none⟩=some (.slice p2 y.net.kids.length r2):=by rw[hW1,hz];simp[go_sem]
   have d4:W1.cell? ⟨z,4,none⟩=some (.slice p3 y.coils.length r3):=by rw[hW1,hz];simp[go_sem]
   have d5:W1.cell? ⟨z,5,none⟩=some (.slice p1 y.kids.length r1):=by rw[hW1,hz];simp[go_sem]
   have hb1:Below wr.heap.size wr W1:=by rw[hW1];exact Aa _ _
   have hk1:=hk.t (Kept.of_below (A4k HB.size hk.1.size) hb1);have hJ2:=wH _ _ _ hJ1 hb1.drew;clear hW1 hb1 b0 b1 b2 x0 x1 x2 x3 x4 x5 zV vJ qY hJ1 hk hz;obtain⟨fn,tmps,assign,body,hyd,hR⟩:=HV W1.drew hJ2;clear HV hJ2
   have HRR:Hid (∀(e:Ending) (W2:World),(e=.returned (.bool true)/\J (pre++ys++[x]) W2/\Kept w.heap.size C W1.drew W2)->W2.cell? ⟨B,0,none⟩=some (.func (.func 139) #[] #[.pointer (some ⟨Y,0,none⟩), .pointer (some ⟨B,0,none⟩), .pointer (some ⟨K,0,none⟩)])/\W2.cell? ⟨K,0,none⟩=some (.func (.func 134) #[] #[])/\
     W2.cell? ⟨z,0,none⟩=some (.int .i64 y.net.kind)/\W2.cell? ⟨z,1,none⟩=some (.int .i64 y.net.one.op)/\W2.cell? ⟨z,2,none⟩=some (.slice p0 y.net.one.args.length r0)/\W2.cell? ⟨z,3,none⟩=some (.slice p2 y.net.kids.length r2)/\W2.cell? ⟨z,4,none⟩=some (.slice p3 y.coils.length r3)/\W2.cell? ⟨z,5,none⟩=some (.slice p1 y.kids.length r1)):=
    λe W2 h=>⟨h.2.2.2.cell mD c1,h.2.2.2.cell kE c2,h.2.2.2.cell hZ d0,h.2.2.2.cell hZ d1,h.2.2.2.cell hZ d2,h.2.2.2.cell hZ d3,h.2.2.2.cell hZ d4,h.2.2.2.cell hZ d5⟩
   have rV:Hid (∀W2 W3,Kept w.heap.size C W1.drew W2->Below W2.heap.size W2 W3->Kept w.heap.size C W W3):=λW2 W3 h2 h3=>
    ((hk1.t ⟨(Below.refl _ _).drew,(Jg.refl _ _).drew⟩).t h2).t (Kept.of_below (A4k (A4k HB.size hk1.1.size) h2.1.size) h3)
   have iM:Hid (∀W3,J (pre++ys++[x]) W3->Kept w.heap.size C W W3->CallsIn Fence.wide (m - 1) Tryz.prog 139 #[.slice p1 y.kids.length r1, .pointer (some ⟨Y,0,none⟩), .pointer (some ⟨B,0,none⟩), .pointer (some ⟨K,0,none⟩)] W3 λe W'=>
     (e=.returned (.bool true)/\∃zs:List (Pv w P),zs.map Pv.arm=D6 y.kids/\J (pre++ys++[x]++zs) W'/\Kept w.heap.size C W3 W')\/
     (e=.returned (.bool false)/\∃zs:List (Pv w P),zs.map Pv.arm<+:D6 y.kids/\Jx (pre++ys++[x]++zs) W')):=by
    intro W3 hj3 hk3;have hbw:=HB.trans hk3.1;refine IH y (by rw[rF.out];exact A4f hlt) (m - 1) _ _ W3 (Nu.of_at kP hbw hC) (cZ W3 hk3.2) hj3 hbw (A4k hM hk3.2.size) ?_;have h1:=HN.out;have h2:ys.length=(D6 (es.take j)).length:=by rw[<-hys,A4o]
    have h3:=(Y0 es (j+1)).length_le;rw[Sl es j hlt,<-rF.out] at h3;simp only[A38,A39,A4a] at h3 ⊢;omega
   have jP:Hid (∀zs:List (Pv w P),zs.map Pv.arm=D6 y.kids->(ys++[x]++zs).map Pv.arm=D6 (es.take (j+1))):=by
    intro zs hzs;rw[Sl es j hlt,A4m,A4m,hys,hzs,<-rF.out];simp[vP.out]
   have kK:Hid (∀zs:List (Pv w P),zs.map Pv.arm<+:D6 y.kids->(ys++[x]++zs).map Pv.arm<+:D6 es):=by
    intro zs hzs;refine List.IsPrefix.trans ?_ (Y0 es (j+1));rw[Sl es j hlt,A4m,A4m,hys,<-rF.out];obtain⟨t,ht⟩:=hzs;exact⟨t,by simp[vP.out,<-ht]⟩
   have oP:Hid ((ys++[x]).map Pv.arm<+:D6 es):=by
    show _<+:_
    have:=kK.out [] spz
    simpa using this
   refine wpIn_region_any krz ?_;try (change wpAnyIn _ _ _ _ _ _ _ _ _ (World.drew _))
   apply share
   ·exact zt
   ·refine wpAnyIn_ready (rs:=[2]) krz spz ?_
    refine AllReadyIn.cons rfl (λKK aA=>?_) AllReadyIn.nil;go_simp;refine⟨λh=>(by cases h),?_⟩;refine hR.mono ?_;rintro e W2 (⟨rfl,hJ3,hk3⟩ | ⟨rfl,hx3⟩)
    ·refine aA _ _ ?_
     clear aA KK;obtain⟨f1,f2,g0,g1,g2,g3,g4,g5⟩:=HRR _ _ ⟨rfl,hJ3,hk3⟩;apply share
     ·intro key1
      apply share
      ·exact zb
      ·refine wpAnyIn_ready (rs:=[5,8]) krz spz ?_
       refine AllReadyIn.cons rfl (λKK aA=>?_) ?_
       ·go_simp
        refine aA _ _ ?_;clear aA KK;exact key1
       refine AllReadyIn.cons rfl (λKK aA=>?_) ?_
       ·go_simp
        refine⟨trivial,λh=>(by cases h),?_⟩;refine(callsIn_wide.2 (Ajp _ _ _ _ _ _ _ _ _ _ _ _ _ _ _)).mono ?_;rintro e W3 ⟨rfl,hb3⟩;refine aA _ _ ?_;clear aA KK;have h1:=(hb3.cell (p:=⟨B,0,none⟩) (Bv f1)).trans f1;have hJ3:=wH _ _ _ hJ3 hb3;have hkW:=rV _ _ hk3 hb3;refine wpAnyIn_ready (rs:=[5]) krz spz ?_;refine AllReadyIn.cons rfl (λKK aA=>?_) AllReadyIn.nil;go_simp;refine aA _ _ ?_;clear aA KK;refine wpAnyIn_ready (rs:=[9]) krz spz ?_;refine AllReadyIn.cons rfl (λKK aA=>?_) AllReadyIn.nil;go_simp;refine⟨trivial,λh=>(by cases h),?_⟩;refine(iM _ hJ3 hkW).mono ?_;rintro e W4 (⟨rfl,zs,hzs,vH,hk4⟩ | ⟨rfl,zs,hzs,hx4⟩)
        ·exact zc
        ·exact zd
       exact AllReadyIn.nil
     ·refine wpAnyIn_ready (rs:=[8]) krz spz ?_
      refine AllReadyIn.cons rfl (λKK aA=>?_) AllReadyIn.nil;go_simp;refine⟨trivial,λh=>(by cases h),?_⟩;refine(callsIn_wide.2 (Ajp _ _ _ _ _ _ _ _ _ _ _ _ _ _ _)).mono ?_;rintro e W3 ⟨rfl,hb3⟩;refine aA _ _ ?_;clear aA KK;have h1:=(hb3.cell (p:=⟨B,0,none⟩) (Bv f1)).trans f1;have hJ3:=wH _ _ _ hJ3 hb3;have hkW:=rV _ _ hk3 hb3;refine wpAnyIn_ready (rs:=[9]) krz spz ?_;refine AllReadyIn.cons rfl (λKK aA=>?_) AllReadyIn.nil;go_simp;refine⟨trivial,λh=>(by cases h),?_⟩;refine(iM _ hJ3 hkW).mono ?_;rintro e W4 (⟨rfl,zs,hzs,vH,hk4⟩ | ⟨rfl,zs,hzs,hx4⟩)
      ·exact zc
      ·exact zd
    ·exact ze
  ·gi_wp2
   go_ret;refine .inl ⟨rfl,ys,?_,hJ1,hk⟩;rw[hys,A43 omz]
end Go.Proofs.YtbfljjcnbbmoaaaGreatDoor
namespace Go.Proofs.YtbfljjcnbbmoaaaGreatDoor
open Stil
open Go.RowKit Go.Sort Go.BigFrame Go.Shelf
theorem Ag4 (w:World)(P:Stil.Net->Prop)(hP:∀x,P x->x.kids.length<=1048576/\∀y∈x.kids,P y)(C:Nat->Prop)(hC:∀k,C k->w.heap.size<=k)(M l Y B K N:Nat)(hCM:∀k,C k->k<M)(qP:¬C Y)(mD:¬C B)(kE:¬C K)(J Jx:List (Rj w P)->World->Prop)
  (hJ:∀s W W',J s W->Below W.heap.size W W'->J s W')
  (hY:∀m pre (x:Rj w P) W,J pre W->pre.length<N->YieldAt Fence.wide m Tryz.prog l #[.agg #[.int .i64 x.net.kind, .int .i64 x.net.one.op,x.av,x.kv]] W λe W'=>(e=.returned (.bool true)/\J (pre++[x]) W'/\Kept w.heap.size C W W')\/(e=.returned (.bool false)/\Jx (pre++[x]) W'))
  (es:List Stil.Net) (hl:es.length<=1048576) (hf:∀x∈es,P x):Acf w P C M l Y B K N J Jx es:=by
 refine Afy w P C hC M l Y B K N hCM qP mD kE J Jx hJ hY es hl hf (λx hx=>?_);have key:∀n:Stil.Net,P n->Acf w P C M l Y B K N J Jx n.kids:=by
  intro n;induction n using Fh with
  | h a b kids ih=>
   intro hp;have hq:=hP _ hp;exact Afy w P C hC M l Y B K N hCM qP mD kE J Jx hJ hY kids hq.1 hq.2 (λy hy=>ih y hy (hq.2 y hy))
 exact key x (hf x hx)
theorem Ajj (w:World)(P:Stil.Net->Prop)(hP:∀x,P x->x.kids.length<=1048576/\∀y∈x.kids,P y)(C:Nat->Prop)(hC:∀k,C k->w.heap.size<=k)(M A K:Nat)(hCM:∀k,C k->k<M)(kE:¬C K)(_hAC:¬C A)(es:List Stil.Net)(hl:es.length<=1048576)(hf:∀x∈es,P x)(v:Value)(w0:World)
  (hw0:Below w.heap.size w w0) (yw:M<=w0.heap.size) (hs:Ou w C w0 v es) (hA:w0.cell? ⟨A,0,none⟩=some v) (hK:w0.cell? ⟨K,0,none⟩=some (.func (.func 141) #[] #[])) (n:Nat):
  SeqStopsK Fence.wide n Tryz.prog 146 #[.pointer (some ⟨K,0,none⟩), .pointer (some ⟨A,0,none⟩)] (λx:Rj w P=>#[Value.agg #[.int .i64 x.net.kind, .int .i64 x.net.one.op,x.av,x.kv]]) (Kept w.heap.size C) (λys=>ys.map Rj.net=Ei es) (λpre=>pre.map Rj.net<+:Ei es) (Ei es).length w0:=by
 intro l J Jx W hW hJ _ hY h0;have hmf:∀(fn:Fn) (first cap:Array Value) (w:World),(Instr.makeFunc fn first cap).run Tryz.prog w=.ok (.func fn first cap) w:=λ_ _ _ _=>rfl
 have hst:∀(fn:Fn) (fi ca:Array Value) (P:Program) (w:World) (a:Addr) (m:Mode),(store a (.func fn fi ca) m).run P w=stored P w a (.func fn fi ca) m:=λfn fi ca P w a m=>run_store P w a _ m rfl
 have hAW:=(hW.cell (p:=⟨A,0,none⟩) (Bv hA)).trans hA;have hKW:=(hW.cell (p:=⟨K,0,none⟩) (Bv hK)).trans hK;have hAz:=Bv hAW;have qY:=Bv hKW;have hsz:=hW.size
 have iM:Hid (∀W2,Below W.heap.size W W2->W2.cell? ⟨W.heap.size,0,none⟩=some (.func (.yield l) #[] #[])->W2.cell? ⟨W.heap.size+1,0,none⟩=some (.func (.func 147) #[] #[.pointer (some ⟨W.heap.size,0,none⟩), .pointer (some ⟨W.heap.size+1,0,none⟩), .pointer (some ⟨K,0,none⟩)])->
   CallsIn Fence.wide (n - 1) Tryz.prog 147 #[v, .pointer (some ⟨W.heap.size,0,none⟩), .pointer (some ⟨W.heap.size+1,0,none⟩), .pointer (some ⟨K,0,none⟩)] W2 λe W'=>
    (e=.returned (.bool true)/\∃ys:List (Rj w P),ys.map Rj.net=Ei es/\J ([]++ys) W'/\Kept w.heap.size C W2 W')\/
    (e=.returned (.bool false)/\∃ys:List (Rj w P),ys.map Rj.net<+:Ei es/\Jx ([]++ys) W')):=by
  intro W2 hb2 hy hbx;have hj:∀(s:List (Rj w P)) (X Y:World),J s X->Below X.heap.size X Y->J s Y:=λs X Y hs hb=>hJ s X Y none hs ⟨hb.os,hb.tape,hb.output,hb.size,λk hk _=>hb.block k hk⟩ (λr e=>by cases e)
  have hw2:=(hw0.trans (hW.mono hw0.size)).trans (hb2.mono (A4k hw0.size hW.size));refine Ag4 w P hP C hC M l W.heap.size (W.heap.size+1) K (Ei es).length hCM (λh=>by have:=hCM _ h;omega) (λh=>by have:=hCM _ h;omega) kE J Jx hj (λm pre x X xw hlx=>YieldAt.anyDepth rfl m (hY pre x X xw hlx)) es hl hf (n - 1) v [] W2 (hs.keep ((Jg.of_below hW).call hb2)) ⟨hy,hbx,(hb2.cell (p:=⟨K,0,none⟩) qY).trans hKW⟩ (hj _ _ _ h0 hb2) hw2 (A4k yw (A4k hW.size hb2.size)) spz
 obtain⟨sa,sl,sc,rfl⟩:∃sa sl sc,v=.slice sa sl sc:=by obtain⟨a,cap,hv,_⟩:=hs;exact⟨_,_,_,hv⟩
 clear hY hJ hs hl hf hC hCM;refine callsIn_of_wp Tryz.func146 rfl trivial ?_ rfl;simp only[Tryz.ntmps146,A4b,A39,A4a,Nat.reduceAdd,Nat.reduceSub,A41,A42,A47,A44,A4z,A4y]
 gi_wp2_with (refine⟨trivial,λh=>(by cases h),?_⟩;refine(iM _ blA (by simp[go_sem]) (by simp[go_sem])).mono ?_;rintro e W3 (⟨rfl,ys,hys,hJ3,_⟩ | ⟨rfl,ys,hys,hx3⟩))
 ·go_end0
  exact⟨⟨_,rfl⟩, .inl ⟨ys,hys,by simpa using hJ3⟩⟩
 ·go_end0
  exact⟨⟨_,rfl⟩, .inr ⟨ys,hys,by simpa using hx3⟩⟩
theorem Ame (a:Option Addr)(ln cap:Nat)(w:World):Calls Tryz.prog 140 #[.slice a ln cap, .func (.func 141) #[] #[]] w λe w'=>e=.returned (.func (.func 146) #[] #[.pointer (some ⟨w.heap.size+1,0,none⟩), .pointer (some ⟨w.heap.size,0,none⟩)])/\
  w'.cell? ⟨w.heap.size,0,none⟩=some (.slice a ln cap)/\w'.cell? ⟨w.heap.size+1,0,none⟩=some (.func (.func 141) #[] #[])/\Below w.heap.size w w':=by
 have hmf:∀(fn:Fn) (first cap:Array Value) (w:World),(Instr.makeFunc fn first cap).run Tryz.prog w=.ok (.func fn first cap) w:=λ_ _ _ _=>rfl
 have hst:∀(fn:Fn) (fi ca:Array Value) (P:Program) (w:World) (a:Addr) (m:Mode),(store a (.func fn fi ca) m).run P w=stored P w a (.func fn fi ca) m:=λfn fi ca P w a m=>run_store P w a _ m rfl
 go_enter Tryz.func140,Tryz.ntmps140
 go_wp2
 go_ret;exact⟨rfl,by simp[go_sem],by simp[go_sem],blA⟩
theorem Ag5 (w:World)(P:Stil.Arm->Prop)(hP:∀x,P x->x.kids.length<=1048576/\∀y∈x.kids,P y)(C:Nat->Prop)(hC:∀k,C k->w.heap.size<=k)(M l Y B K N:Nat)(hCM:∀k,C k->k<M)(qP:¬C Y)(mD:¬C B)(kE:¬C K)(J Jx:List (Pv w P)->World->Prop)
  (hJ:∀s W W',J s W->Below W.heap.size W W'->J s W')
  (hY:∀m pre (x:Pv w P) W,J pre W->pre.length<N->YieldAt Fence.wide m Tryz.prog l #[.agg #[.int .i64 x.arm.net.kind, .int .i64 x.arm.net.one.op,x.av,x.nv,x.cv,x.kv]] W λe W'=>(e=.returned (.bool true)/\J (pre++[x]) W'/\Kept w.heap.size C W W')\/(e=.returned (.bool false)/\Jx (pre++[x]) W'))
  (es:List Stil.Arm) (hl:es.length<=1048576) (hf:∀x∈es,P x):Acg w P C M l Y B K N J Jx es:=by
 refine Afz w P C hC M l Y B K N hCM qP mD kE J Jx hJ hY es hl hf (λx hx=>?_);have key:∀n:Stil.Arm,P n->Acg w P C M l Y B K N J Jx n.kids:=by
  intro n;induction n using Fg with
  | h a b kids ih=>
   intro hp;have hq:=hP _ hp;exact Afz w P C hC M l Y B K N hCM qP mD kE J Jx hJ hY kids hq.1 hq.2 (λy hy=>ih y hy (hq.2 y hy))
 exact key x (hf x hx)
theorem Ajk (w:World)(P:Stil.Arm->Prop)(hP:∀x,P x->x.kids.length<=1048576/\∀y∈x.kids,P y)(C:Nat->Prop)(hC:∀k,C k->w.heap.size<=k)(M A K:Nat)(hCM:∀k,C k->k<M)(kE:¬C K)(_hAC:¬C A)(es:List Stil.Arm)(hl:es.length<=1048576)(hf:∀x∈es,P x)(v:Value)(w0:World)
  (hw0:Below w.heap.size w w0) (yw:M<=w0.heap.size) (hs:Nu w C w0 v es) (hA:w0.cell? ⟨A,0,none⟩=some v) (hK:w0.cell? ⟨K,0,none⟩=some (.func (.func 134) #[] #[])) (n:Nat):
  SeqStopsK Fence.wide n Tryz.prog 138 #[.pointer (some ⟨K,0,none⟩), .pointer (some ⟨A,0,none⟩)] (λx:Pv w P=>#[Value.agg #[.int .i64 x.arm.net.kind, .int .i64 x.arm.net.one.op,x.av,x.nv,x.cv,x.kv]]) (Kept w.heap.size C) (λys=>ys.map Pv.arm=D6 es) (λpre=>pre.map Pv.arm<+:D6 es) (D6 es).length w0:=by
 intro l J Jx W hW hJ _ hY h0;have hmf:∀(fn:Fn) (first cap:Array Value) (w:World),(Instr.makeFunc fn first cap).run Tryz.prog w=.ok (.func fn first cap) w:=λ_ _ _ _=>rfl
 have hst:∀(fn:Fn) (fi ca:Array Value) (P:Program) (w:World) (a:Addr) (m:Mode),(store a (.func fn fi ca) m).run P w=stored P w a (.func fn fi ca) m:=λfn fi ca P w a m=>run_store P w a _ m rfl
 have hAW:=(hW.cell (p:=⟨A,0,none⟩) (Bv hA)).trans hA;have hKW:=(hW.cell (p:=⟨K,0,none⟩) (Bv hK)).trans hK;have hAz:=Bv hAW;have qY:=Bv hKW;have hsz:=hW.size
 have iM:Hid (∀W2,Below W.heap.size W W2->W2.cell? ⟨W.heap.size,0,none⟩=some (.func (.yield l) #[] #[])->W2.cell? ⟨W.heap.size+1,0,none⟩=some (.func (.func 139) #[] #[.pointer (some ⟨W.heap.size,0,none⟩), .pointer (some ⟨W.heap.size+1,0,none⟩), .pointer (some ⟨K,0,none⟩)])->
   CallsIn Fence.wide (n - 1) Tryz.prog 139 #[v, .pointer (some ⟨W.heap.size,0,none⟩), .pointer (some ⟨W.heap.size+1,0,none⟩), .pointer (some ⟨K,0,none⟩)] W2 λe W'=>
    (e=.returned (.bool true)/\∃ys:List (Pv w P),ys.map Pv.arm=D6 es/\J ([]++ys) W'/\Kept w.heap.size C W2 W')\/
    (e=.returned (.bool false)/\∃ys:List (Pv w P),ys.map Pv.arm<+:D6 es/\Jx ([]++ys) W')):=by
  intro W2 hb2 hy hbx;have hj:∀(s:List (Pv w P)) (X Y:World),J s X->Below X.heap.size X Y->J s Y:=λs X Y hs hb=>hJ s X Y none hs ⟨hb.os,hb.tape,hb.output,hb.size,λk hk _=>hb.block k hk⟩ (λr e=>by cases e)
  have hw2:=(hw0.trans (hW.mono hw0.size)).trans (hb2.mono (A4k hw0.size hW.size));refine Ag5 w P hP C hC M l W.heap.size (W.heap.size+1) K (D6 es).length hCM (λh=>by have:=hCM _ h;omega) (λh=>by have:=hCM _ h;omega) kE J Jx hj (λm pre x X xw hlx=>YieldAt.anyDepth rfl m (hY pre x X xw hlx)) es hl hf (n - 1) v [] W2 (hs.keep ((Jg.of_below hW).call hb2)) ⟨hy,hbx,(hb2.cell (p:=⟨K,0,none⟩) qY).trans hKW⟩ (hj _ _ _ h0 hb2) hw2 (A4k yw (A4k hW.size hb2.size)) spz
 obtain⟨sa,sl,sc,rfl⟩:∃sa sl sc,v=.slice sa sl sc:=by obtain⟨a,cap,hv,_⟩:=hs;exact⟨_,_,_,hv⟩
 clear hY hJ hs hl hf hC hCM;refine callsIn_of_wp Tryz.func138 rfl trivial ?_ rfl;simp only[Tryz.ntmps138,A4b,A39,A4a,Nat.reduceAdd,Nat.reduceSub,A41,A42,A47,A44,A4z,A4y]
 gi_wp2_with (refine⟨trivial,λh=>(by cases h),?_⟩;refine(iM _ blA (by simp[go_sem]) (by simp[go_sem])).mono ?_;rintro e W3 (⟨rfl,ys,hys,hJ3,_⟩ | ⟨rfl,ys,hys,hx3⟩))
 ·go_end0
  exact⟨⟨_,rfl⟩, .inl ⟨ys,hys,by simpa using hJ3⟩⟩
 ·go_end0
  exact⟨⟨_,rfl⟩, .inr ⟨ys,hys,by simpa using hx3⟩⟩
theorem Amf (a:Option Addr)(ln cap:Nat)(w:World):Calls Tryz.prog 133 #[.slice a ln cap, .func (.func 134) #[] #[]] w λe w'=>e=.returned (.func (.func 138) #[] #[.pointer (some ⟨w.heap.size+1,0,none⟩), .pointer (some ⟨w.heap.size,0,none⟩)])/\
  w'.cell? ⟨w.heap.size,0,none⟩=some (.slice a ln cap)/\w'.cell? ⟨w.heap.size+1,0,none⟩=some (.func (.func 134) #[] #[])/\Below w.heap.size w w':=by
 have hmf:∀(fn:Fn) (first cap:Array Value) (w:World),(Instr.makeFunc fn first cap).run Tryz.prog w=.ok (.func fn first cap) w:=λ_ _ _ _=>rfl
 have hst:∀(fn:Fn) (fi ca:Array Value) (P:Program) (w:World) (a:Addr) (m:Mode),(store a (.func fn fi ca) m).run P w=stored P w a (.func fn fi ca) m:=λfn fi ca P w a m=>run_store P w a _ m rfl
 go_enter Tryz.func133,Tryz.ntmps133
 go_wp2
 go_ret;exact⟨rfl,by simp[go_sem],by simp[go_sem],blA⟩
end Go.Proofs.YtbfljjcnbbmoaaaGreatDoor
namespace Go.Proofs.YtbfljjcnbbmoaaaGreatDoor
open Stil
open Go.RowKit Go.Sort Go.BigFrame
theorem Adt (op:Int)(a:Option Addr)(ln cap:Nat)(w:World)(_h:ln<=9223372036854775807):
  Calls Tryz.prog 97 #[.agg #[.int .i64 op, .slice a ln cap]] w λe w'=>e=.returned (.bool (op==0 && ln==0))/\Below w.heap.size w w':=by
 by_cases h0:op=0
 ·subst h0
  go_enter Tryz.func97,Tryz.ntmps97
  go_wp2
  all_goals go_ret
  all_goals refine⟨Ar ?_,blA⟩
  all_goals (go_light;rw[Bool.eq_iff_iff];simp;try omega)
 ·have h1:(op==0)=false:=by rw[A5a];exact h0
  go_enter Tryz.func97,Tryz.ntmps97
  go_wp2
  all_goals go_ret
  all_goals refine⟨Ar ?_,blA⟩
  all_goals (go_light;simp[h1])
end Go.Proofs.YtbfljjcnbbmoaaaGreatDoor
namespace Go.Proofs.YtbfljjcnbbmoaaaGreatDoor
open Stil
open Go.RowKit Go.Sort Go.BigFrame Go.Shelf
attribute [local go_sem] Oper.semAt_some
theorem Af0 (k op:Int)(pa p:Option Addr)(la ca ln cap:Nat)(w:World):
  Calls Tryz.prog 135 #[.agg #[.int .i64 k, .int .i64 op, .slice pa la ca, .slice p ln cap]] w λe w'=>∃b A K,e=.returned (.func (.func 146) #[] #[.pointer (some ⟨K,0,none⟩), .pointer (some ⟨A,0,none⟩)])/\w.heap.size<=b/\w.heap.size<=A/\w.heap.size<=K/\
   w'.cell? ⟨A,0,none⟩=some (.slice (some ⟨b,0,none⟩) 1 1)/\w'.cell? ⟨K,0,none⟩=some (.func (.func 141) #[] #[])/\
   w'.cell? ⟨b,0,none⟩=some (.int .i64 k)/\w'.cell? ⟨b,1,none⟩=some (.int .i64 op)/\w'.cell? ⟨b,2,none⟩=some (.slice pa la ca)/\w'.cell? ⟨b,3,none⟩=some (.slice p ln cap)/\Below w.heap.size w w':=by
 have hmf:∀(fn:Fn) (first cap:Array Value) (w:World),(Instr.makeFunc fn first cap).run Tryz.prog w=.ok (.func fn first cap) w:=λ_ _ _ _=>rfl
 go_enter Tryz.func135,Tryz.ntmps135
 go_wp2_with (go_at_call 140;refine(Ame _ _ _ _).mono ?_;rintro e w1 ⟨rfl,hA,hK,hb⟩)
 simp only[World.size_alloc] at hA hK;go_ret;refine⟨w.heap.size+1,_,_,rfl,omz,omz,omz,hA,hK,?_,?_,?_,?_,blA⟩;all_goals (rw[hb.cell (p:=⟨w.heap.size+1,_,none⟩) spz];simp[go_sem])
theorem Af1 (a:Option Addr)(ln cap:Nat)(w:World):
  Calls Tryz.prog 127 #[.slice a ln cap] w λe w'=>∃A K,e=.returned (.func (.func 138) #[] #[.pointer (some ⟨K,0,none⟩), .pointer (some ⟨A,0,none⟩)])/\w.heap.size<=A/\w.heap.size<=K/\
   w'.cell? ⟨A,0,none⟩=some (.slice a ln cap)/\w'.cell? ⟨K,0,none⟩=some (.func (.func 134) #[] #[])/\Below w.heap.size w w':=by
 have hmf:∀(fn:Fn) (first cap:Array Value) (w:World),(Instr.makeFunc fn first cap).run Tryz.prog w=.ok (.func fn first cap) w:=λ_ _ _ _=>rfl
 go_enter Tryz.func127,Tryz.ntmps127
 go_wp2_with (go_at_call 133;refine(Amf _ _ _ _).mono ?_;rintro e w1 ⟨rfl,hA,hK,hb⟩)
 go_ret;exact⟨_,_,rfl,omz,omz,hA,hK,blA⟩
theorem Ami (n:Stil.Net)(av kv:Value)(limit:Int)(w:World)(hav:Bi w av n.one.args)(hkv:Dx w kv n.kids)(hf:Dc n)(hsz:Aj n<=1000000000)(_hl1:-9223372036854775808<=limit)(_hl2:limit<=9223372036854775807):
  Calls Tryz.prog 128 #[.agg #[.int .i64 n.kind, .int .i64 n.one.op,av,kv], .int .i64 limit] w λe w'=>∃r:Nat,e=.returned (.int .i64 r)/\((Aj n:Int)<=limit->r=Aj n)/\(limit<Aj n->limit<r)/\r<=Aj n/\Below w.heap.size w w':=by
 have HLEN:Hid ((Ei [n]).length=Aj n):=by show _=_;rw[Adg,Ap1]
 obtain⟨z,hz⟩:∃z,z=Aj n:=⟨_,rfl⟩
 rw[<-hz] at hsz HLEN ⊢;clear hz;refine(callsIn_wide (n:=9)).1 ?_;have dS:=hid hav;have HKV:=hid hkv;obtain⟨p0,r0,rfl,_⟩:=hav;obtain⟨p1,r1,rfl,_⟩:=hkv;refine callsIn_of_wp_marks Tryz.func128 rfl trivial ?_ rfl;simp only[Tryz.ntmps128,A4b,A39,A4a,Nat.reduceAdd,Nat.reduceSub,A41,A42,A47,A44,A4z,A4y]
 gi_wp2_with (refine⟨trivial,?_⟩;gi_at_call 135;refine(callsIn_wide.2 (Af0 _ _ _ _ _ _ _ _ _)).mono ?_;rintro e w1 ⟨b,A,K,rfl,hb0,hA0,hK0,hA,hK,x0,x1,x2,x3,hb⟩)
 simp only[World.size_alloc] at hb0 hA0 hK0;have hbw:Below w.heap.size w w1:=blA;have hcl:w1.cell? ⟨w.heap.size+1,0,none⟩=some (.int .i64 limit):=clA hb;have hcs:w1.cell? ⟨w.heap.size+1+1,0,none⟩=some (.int .i64 0):=clA hb;have hcf:w1.frozen? ⟨w.heap.size+1+1,0,none⟩=false:=frA hb;have hsz1:w.heap.size+3<=w1.heap.size:=by have:=hb.size;simp at this;omega
 have dQ:Ou w (λk=>k=w.heap.size+1+1) w1 (.slice (some ⟨b,0,none⟩) 1 1) [n]:=by
  refine⟨_,1,rfl,λi hi=>⟨b,0,rfl,(λh:b=_=>by omega), .slice p0 n.one.args.length r0, .slice p1 n.kids.length r1,?_⟩⟩;obtain rfl:i=0:=by simpa using hi
  simp only[Nat.zero_mul,A4h,List.getElem_cons_zero];exact⟨x0,x1,x2,x3,dS.out,HKV.out⟩
 have HS:Hid (SeqStopsK Fence.wide (9 - 1) Tryz.prog 146 #[.pointer (some ⟨K,0,none⟩), .pointer (some ⟨A,0,none⟩)] (λx:Rj w Dc=>#[Value.agg #[.int .i64 x.net.kind, .int .i64 x.net.one.op,x.av,x.kv]]) (Kept w.heap.size (λk=>k=w.heap.size+1+1)) (λys=>ys.map Rj.net=Ei [n]) (λpre=>pre.map Rj.net<+:Ei [n]) (Ei [n]).length w1):=
  Ajj w Dc (λx hx=>⟨(Dp hx).2.2.1,(Dp hx).2.2.2⟩) (λk=>k=w.heap.size+1+1) (λk (h:k=_)=>by omega) (w.heap.size+3) A K (λk (h:k=_)=>by omega) (λh:K=_=>by omega) (λh:A=_=>by omega) [n] spz (by simpa using hf) _ w1 hbw hsz1 dQ hA hK _
 clear dQ hb x0 x1 x2 x3 hA hK hf;obtain⟨N,hN⟩:∃N,N=(Ei [n]).length:=⟨_,rfl⟩
 rw[<-hN] at HS;have hNz:N=z:=by rw[hN,HLEN.out]
 refine wpIn_rangeFunc_ownG rfl dcz (gf:=146) (lb:=#[.pointer (some ⟨K,0,none⟩), .pointer (some ⟨A,0,none⟩)]) rfl trivial (enters_of Tryz.func146 krz rfl)
  HS Kept.t (Kept.b omz) (Below.refl _ _) (λ_=>rfl)
  (λpre W=>(W.cell? ⟨w.heap.size+1+1,0,none⟩=some (.int .i64 (pre.length:Int))/\W.frozen? ⟨w.heap.size+1+1,0,none⟩=false/\W.cell? ⟨w.heap.size+1,0,none⟩=some (.int .i64 limit))/\Below w.heap.size w W)
  (λc pre W=>(c=.exit 0/\limit<pre.length/\W.cell? ⟨w.heap.size+1+1,0,none⟩=some (.int .i64 (pre.length:Int)))/\Below w.heap.size w W)
  (OwnFrom.and (Own.from (λs A B row hs hg hr=>⟨cell_kept hs.1 hg hr,(frozen_kept hs.1 hg hr).trans hs.2.1,cell_kept hs.2.2 hg hr⟩) _) (ownFrom_below (A4d _) omz))
  (λc=>OwnFrom.and (Own.from (λs A B row hs hg hr=>⟨hs.1,hs.2.1,cell_kept hs.2.2 hg hr⟩) _) (ownFrom_below (A4d _) omz))
  ⟨⟨by simpa using hcs,hcf,hcl⟩,hbw⟩
  (λx=>{tmps:=#[.agg #[.int .i64 n.kind, .int .i64 n.one.op, .slice p0 n.one.args.length r0, .slice p1 n.kids.length r1], .int .i64 limit, .pointer (some ⟨w.heap.size,0,none⟩), .pointer (some ⟨w.heap.size+1,0,none⟩), .int .i64 0, .pointer (some ⟨w.heap.size+1+1,0,none⟩), .agg #[.int .i64 n.kind, .int .i64 n.one.op, .slice p0 n.one.args.length r0, .slice p1 n.kids.length r1], .func (.func 146) #[] #[.pointer (some ⟨K,0,none⟩), .pointer (some ⟨A,0,none⟩)], .agg #[.int .i64 x.net.kind, .int .i64 x.net.one.op,x.av,x.kv],undef,undef,undef,undef,undef,undef],defers:=[]}) ?assign ?body ?done ?stop
 case assign=>
  intro l x W KK aA
  gi_wp2
  simpa using aA
 case body=>
  rintro l pre x W ⟨⟨hc,hfz,hlm⟩,hB⟩ hpl;have hz0:=Bv hc;have hw:IntKind.i64.wrap ((pre.length:Int)+1)=(pre.length:Int)+1:=by rw[IntKind.wrap_i64];omega
  have hset:(W.setCell ⟨w.heap.size+1+1,0,none⟩ (.int .i64 ((pre.length:Int)+1))).cell? ⟨w.heap.size+1+1,0,none⟩=some (.int .i64 ((pre++[x]).length:Int)):=by
   rw[Fp hc];simp
  by_cases hgt:limit<(pre.length:Int)+1
  ·gi_wp2
   exact⟨(KeepsOthers.setCell _ _ _).from _,⟨rfl,by simp;omega,hset⟩,hB.setCell (p:=⟨w.heap.size+1+1,0,none⟩) (by simp;omega) _⟩
  ·gi_wp2
   exact⟨(KeepsOthers.setCell _ _ _).from _,⟨(Below.refl _ W).setCell (p:=⟨w.heap.size+1+1,0,none⟩) (by simp;omega) _,Jg.set (C:=λk=>k=w.heap.size+1+1) (Jg.refl _ _) (show _=_ from rfl) _⟩,⟨hset,by rw[World.frozen?_setCell];exact hfz,by rw[Ba omz];exact hlm⟩,hB.setCell (p:=⟨w.heap.size+1+1,0,none⟩) (by simp;omega) _⟩
 case done=>
  rintro D ys W hD hS ⟨⟨hc,_⟩,hB⟩ hK;have hyl:ys.length=z:=by have:=congrArg List.length hS;rw[A4o,HLEN.out] at this;exact this
  gi_wp2
  refine⟨spz, .inl ⟨_,_,rfl,run_takeDeferred hK,?_⟩⟩;exact⟨_,results_tmp rfl _ _ _,z,rfl,λ_=>rfl,λh=>h,A4d _,hB.trans (belowK_b (w:=w) (A4d _) W D _ _ omz hK rfl rfl)⟩
 case stop=>
  rintro D c pre W hD hSp ⟨⟨rfl,hlim,hc⟩,hB⟩ hK;have hyl:pre.length<=z:=by have:=hSp.length_le;rw[A4o,HLEN.out] at this;exact this
  gi_wp2
  refine⟨spz, .inl ⟨_,_,rfl,run_takeDeferred hK,?_⟩⟩;exact⟨_,results_tmp rfl _ _ _,pre.length,rfl,λh=>by omega,λh=>by omega,omz,hB.trans (belowK_b (w:=w) (A4d _) W D _ _ omz hK rfl rfl)⟩
end Go.Proofs.YtbfljjcnbbmoaaaGreatDoor
namespace Go.Proofs.YtbfljjcnbbmoaaaGreatDoor
open Stil
open Go.RowKit Go.Sort Go.BigFrame Go.Shelf
attribute [local go_sem] Oper.semAt_some
theorem Si (n:Stil.Net)(av kv:Value)(w:World)(hav:Bi w av n.one.args)(hkv:Dx w kv n.kids)(hf:Dc n):
  Calls Tryz.prog 73 #[.agg #[.int .i64 n.kind, .int .i64 n.one.op,av,kv]] w λe w'=>e=.returned (.bool (Aq n))/\Below w.heap.size w w':=by
 obtain⟨_,he,hl,_⟩:=Dp hf;have hla:=he.2.1;obtain⟨p0,r0,rfl,_⟩:=hav;obtain⟨p1,r1,rfl,_⟩:=hkv;clear hf he;have HN:Hid (Aq n=((n.kind==0 && (n.one.op==0 && n.one.args.length==0)) && n.kids.length==0)):=by show _=_;unfold Aq;simp only[Bool.and_assoc]
 have HC:Hid (∀W,Calls Tryz.prog 97 #[.agg #[.int .i64 n.one.op, .slice p0 n.one.args.length r0]] W λe w'=>e=.returned (.bool (n.one.op==0 && n.one.args.length==0))/\Below W.heap.size W w'):=λW=>Adt _ _ _ _ _ omz
 obtain⟨bb,hbb⟩:∃bb,bb=(n.one.op==0 && n.one.args.length==0):=⟨_,rfl⟩
 rw[<-hbb] at HN HC;obtain⟨lk,hlk⟩:∃lk,lk=n.kids.length:=⟨_,rfl⟩
 obtain⟨la,fV⟩:∃la,la=n.one.args.length:=⟨_,rfl⟩
 rw[<-hlk] at HN hl ⊢;rw[<-fV] at HC hla ⊢;obtain⟨k,hk⟩:∃k,k=n.kind:=⟨_,rfl⟩
 rw[<-hk] at HN ⊢;clear hbb hlk fV hk;by_cases h0:k=0
 ·subst h0
  cases bb
  ·go_enter Tryz.func73,Tryz.ntmps73
   go_wp2_with (go_at_call 97;refine(HC _).mono ?_;rintro e w1 ⟨rfl,hb⟩)
   all_goals go_ret
   all_goals exact⟨Ar (by rw[HN.out];simp),blA⟩
  ·by_cases h1:lk=0
   ·subst h1
    go_enter Tryz.func73,Tryz.ntmps73
    go_wp2_with (go_at_call 97;refine(HC _).mono ?_;rintro e w1 ⟨rfl,hb⟩;obtain⟨hc,hf⟩:=Dq hb)
    all_goals go_ret
    all_goals exact⟨Ar (by rw[HN.out];simp),blA⟩
   ·have h2:((lk:Int)==0)=false:=by rw[A5a];omega
    go_enter Tryz.func73,Tryz.ntmps73
    go_wp2_with (go_at_call 97;refine(HC _).mono ?_;rintro e w1 ⟨rfl,hb⟩;obtain⟨hc,hf⟩:=Dq hb)
    all_goals go_ret
    all_goals exact⟨Ar (by rw[HN.out];simp[h1]),blA⟩
 ·have h1:(k==0)=false:=by rw[A5a];exact h0
  go_enter Tryz.func73,Tryz.ntmps73
  go_wp2
  all_goals go_ret
  all_goals exact⟨Ar (by rw[HN.out,h1];rfl),blA⟩
end Go.Proofs.YtbfljjcnbbmoaaaGreatDoor
namespace Go.Proofs.YtbfljjcnbbmoaaaGreatDoor
open Stil
open Go.RowKit Go.Sort Go.BigFrame Go.Shelf
attribute [local go_sem] Oper.semAt_some
def Aw3 (W:World)(B:Nat)(k op:Int)(a n c d:Value):Prop:=W.cell? ⟨B,0,none⟩=some (.int .i64 k)/\W.cell? ⟨B,1,none⟩=some (.int .i64 op)/\W.cell? ⟨B,2,none⟩=some a/\W.cell? ⟨B,3,none⟩=some n/\W.cell? ⟨B,4,none⟩=some c/\W.cell? ⟨B,5,none⟩=some d
theorem Agk {β:Type}(B:Nat)(k op:Int)(a n c d:Value):Own (λ(_:β) W=>Aw3 W B k op a n c d):=λ_ _ _ _ hs hg hr=>
 ⟨cell_kept hs.1 hg hr,cell_kept hs.2.1 hg hr,cell_kept hs.2.2.1 hg hr,cell_kept hs.2.2.2.1 hg hr,cell_kept hs.2.2.2.2.1 hg hr,cell_kept hs.2.2.2.2.2 hg hr⟩
theorem zr {p:Prop}(h:p:=by
 have hrn:r=ns:=by
  by_cases h:(ns:Int)<=limit - ((S:Int)+(1+cn))
  ·exact hr1 h
  ·have:=hr2 omz
   omega
 gi_wp2
 exact⟨by(repeat (first | with_reducible exact KeepsFrom.refl _ _ | with_reducible refine Vh ?_ _ _ | with_reducible refine Pm ?_ | with_reducible refine Lh ?_ _ | with_reducible refine Pn ?_ (by assumption))),Ajf (b:=w.heap.size+1) (Uy (Avb (Uy (Ajf (b:=w.heap.size+1) (Kept.refl w.heap.size (λk=>k=w.heap.size+1) W) (by omega) rfl _) hn hb2)) hn hb3) (by omega) rfl _,⟨⟨⟨by rw[Fp c3,aU.out,hoe];simp;omega,by rw[World.frozen?_setCell];exact z3,by rw[Ba (by omega)];exact l3⟩,blA⟩,by rw[aU.out];omega,by rw[aU.out,gX.out];omega,by have:=hb2.size;have:=hb3.size;simp at*;omega⟩⟩):p:=h
theorem zi0 {p:Prop}(h:p:=by
 gi_wp2
 exact⟨by(repeat (first | with_reducible exact KeepsFrom.refl _ _ | with_reducible refine Vh ?_ _ _ | with_reducible refine Pm ?_ | with_reducible refine Lh ?_ _ | with_reducible refine Pn ?_ (by assumption))),⟨rfl,S+(1+cn)+r,by omega,by rw[aU.out];omega,by rw[Fp c3];simp⟩,blA⟩):p:=h
theorem Ama (la:List Stil.Arm)(v:Value)(limit:Int)(w:World)(hav:Dj w v la)(hf:∀x∈la,Ci x)(hl:la.length<=1048576)(hsz:Ce la<=1000000000)(hl1:0<=limit)(hl2:limit<=9223372036854775807):
  Calls Tryz.prog 113 #[v, .int .i64 limit] w λe w'=>∃r:Nat,e=.returned (.int .i64 r)/\((Ce la:Int)<=limit->r=Ce la)/\(limit<Ce la->limit<r)/\r<=Ce la/\Below w.heap.size w w':=by
 have oL:=hid (Am4 la);obtain⟨z,hz⟩:∃z,z=Ce la:=⟨_,rfl⟩
 rw[<-hz] at hsz oL ⊢;clear hz;have sV:Hid (∀W,Below w.heap.size w W->Nu w (λk=>k=w.heap.size+1) W v la):=λW h=>Nu.of_at hav h (λk (h:k=_)=>by omega)
 obtain⟨p0,r0,rfl,_⟩:=hav;refine(callsIn_wide (n:=9)).1 ?_;refine callsIn_of_wp_marks Tryz.func113 rfl trivial ?_ rfl;simp only[Tryz.ntmps113,A4b,A39,A4a,Nat.reduceAdd,Nat.reduceSub,A41,A42,A47,A44,A4z,A4y]
 gi_wp2_with (refine⟨trivial,?_⟩;gi_at_call 127;refine(callsIn_wide.2 (Af1 _ _ _ _)).mono ?_;rintro e w1 ⟨A,K,rfl,hA0,hK0,hA,hK,hb⟩)
 simp only[World.size_alloc] at hA0 hK0;have hbw:Below w.heap.size w w1:=blA;have hcl:w1.cell? ⟨w.heap.size,0,none⟩=some (.int .i64 limit):=by rw[hb.cell (p:=⟨w.heap.size,0,none⟩) (by simp;omega)];simp[go_sem]
 have hcs:w1.cell? ⟨w.heap.size+1,0,none⟩=some (.int .i64 0):=clA hb;have hcf:w1.frozen? ⟨w.heap.size+1,0,none⟩=false:=frA hb;have hsz1:w.heap.size+2<=w1.heap.size:=by have:=hb.size;simp at this;omega
 have HS:Hid (SeqStopsK Fence.wide (9 - 1) Tryz.prog 138 #[.pointer (some ⟨K,0,none⟩), .pointer (some ⟨A,0,none⟩)] (λx:Pv w (λa=>a∈D6 la)=>#[Value.agg #[.int .i64 x.arm.net.kind, .int .i64 x.arm.net.one.op,x.av,x.nv,x.cv,x.kv]]) (Kept w.heap.size (λk=>k=w.heap.size+1)) (λys=>ys.map Pv.arm=D6 la) (λpre=>pre.map Pv.arm<+:D6 la) (D6 la).length w1):=
  Ajk w (λa=>a∈D6 la) (λx hx=>⟨(G8 (Abp la hf x hx)).2.2.2.1,Akp la x hx⟩) (λk=>k=w.heap.size+1) (λk (h:k=_)=>by omega) (w.heap.size+2) A K (λk (h:k=_)=>by omega) (λh:K=_=>by omega) (λh:A=_=>by omega) la hl (Am5 la) _ w1 hbw hsz1 (sV w1 hbw) hA hK _
 have HOWN:Hid (∀x∈D6 la,Pe x<=z):=λx hx=>by rw[<-oL.out];exact Ap7 _ hx
 have jh:=hid (Abp la hf);have hNz:(D6 la).length<=z:=by rw[<-oL.out];exact Aas Pe (λx=>by unfold Pe;omega) _
 clear hb hA hK hf sV;refine wpIn_rangeFunc_ownH rfl dcz (gf:=138) (lb:=#[.pointer (some ⟨K,0,none⟩), .pointer (some ⟨A,0,none⟩)]) rfl trivial (enters_of Tryz.func138 krz rfl)
  HS Kept.t (Kept.b omz) (Below.refl _ _) (λ_=>rfl)
  (λpre W=>((W.cell? ⟨w.heap.size+1,0,none⟩=some (.int .i64 ((pre.map (Pe ∘ Pv.arm)).sum:Nat))/\W.frozen? ⟨w.heap.size+1,0,none⟩=false/\W.cell? ⟨w.heap.size,0,none⟩=some (.int .i64 limit))/\Below w.heap.size w W)/\(((pre.map (Pe ∘ Pv.arm)).sum:Nat):Int)<=limit/\(pre.map (Pe ∘ Pv.arm)).sum<=pre.length*z/\w1.heap.size<=W.heap.size)
  (λc pre W=>(c=.exit 0/\∃t:Nat,limit<t/\t<=(pre.map (Pe ∘ Pv.arm)).sum/\W.cell? ⟨w.heap.size+1,0,none⟩=some (.int .i64 t))/\Below w.heap.size w W)
  (OwnFrom.and (OwnFrom.and (Own.from (λs A B row hs hg hr=>⟨cell_kept hs.1 hg hr,(frozen_kept hs.1 hg hr).trans hs.2.1,cell_kept hs.2.2 hg hr⟩) _) (ownFrom_below (A4d _) omz)) (OwnFrom.and (ownFrom_pure _ _) (OwnFrom.and (ownFrom_pure _ _) (λ_ _ _ _ hs hg _=>A4k hs hg.size))))
  (λc=>OwnFrom.and (Own.from (λs A B row hs hg hr=>⟨hs.1,hs.2.elim λt ht=>⟨t,ht.1,ht.2.1,cell_kept ht.2.2 hg hr⟩⟩) _) (ownFrom_below (A4d _) omz))
  ⟨⟨⟨by simpa using hcs,hcf,hcl⟩,hbw⟩,by simpa using hl1,spz,A4d _⟩
  (λx a' W=>∃Bx,w1.heap.size<=Bx/\Aw3 W Bx x.arm.net.kind x.arm.net.one.op x.av x.nv x.cv x.kv/\a'={tmps:=#[.slice p0 la.length r0, .int .i64 limit,undef, .pointer (some ⟨w.heap.size,0,none⟩), .int .i64 0, .pointer (some ⟨w.heap.size+1,0,none⟩), .pointer (some ⟨Bx,0,none⟩), .slice p0 la.length r0, .func (.func 138) #[] #[.pointer (some ⟨K,0,none⟩), .pointer (some ⟨A,0,none⟩)], .agg #[.int .i64 x.arm.net.kind, .int .i64 x.arm.net.one.op,x.av,x.nv,x.cv,x.kv],undef,undef,undef,undef,undef,undef,undef,undef,undef,undef,undef,undef,undef,undef,undef,undef,undef,undef,undef,undef,undef,undef],defers:=[]})
  (λx a' s A B row hs hg hr=>hs.elim λBx hx=>⟨Bx,hx.1,Agk (β:=Unit) Bx _ _ _ _ _ _ s A B row hx.2.1 hg (λr e=>(hr r e).2),hx.2.2⟩) ?assign ?body ?done ?stop
 case assign=>
  rintro l pre x W KK ⟨⟨⟨hc,hfz,hlm⟩,hB⟩,hp,hpz,hsz2⟩ aA;have hz0:=Bv hc;obtain⟨x,av,nv,cv,kv,hav,hnv,hcv,hkv,hxf⟩:=x;obtain⟨q0,s0,rfl,_⟩:=id hav;obtain⟨q1,s1,rfl,_⟩:=id hnv;obtain⟨q2,s2,rfl,_⟩:=id hcv;obtain⟨q3,s3,rfl,_⟩:=id hkv
  gi_wp2
  exact aA _ _ ((KeepsOthers.alloc _ _).from _) (Kept.of_below hB.size (Aa _ _)) ⟨⟨⟨Nk _ hc,Oa _ hc hfz,Nk _ hlm⟩,blA⟩,hp,hpz,by simp;omega⟩ ⟨W.heap.size,omz,⟨by simp[go_sem],by simp[go_sem],by simp[go_sem],by simp[go_sem],by simp[go_sem],by simp[go_sem]⟩,rfl⟩
 case body=>
  rintro l pre x a' W zD _ ⟨⟨⟨hc,hfz,hlm⟩,hB⟩,hp,hpz,hsz2⟩ ⟨Bx,hBx,⟨y0,y1,y2,y3,y4,y5⟩,rfl⟩ hpl;have hz0:=Bv hc;have hz1:w.heap.size<W.heap.size:=omz
  have vJ:=Bv y0;have hn:w.heap.size<=W.heap.size:=omz
  have hBx1:¬Bx=w.heap.size+1:=omz
  have hBx2:¬Bx=w.heap.size:=omz
  have aU:Hid (((pre++[x]).map (Pe ∘ Pv.arm)).sum=(pre.map (Pe ∘ Pv.arm)).sum+Pe x.arm):=by show _=_;rw[A4m,List.sum_append];simp
  have gX:Hid ((pre++[x]).length*z=pre.length*z+z):=by show _=_;rw[A38,Nat.add_mul];simp
  have hpb:pre.length*z<=1000000000*1000000000:=Nat.mul_le_mul omz hsz;have hnf:=(G8 (jh _ x.mem)).1;have x9:=(G8 (jh _ x.mem)).2.1;have hoz:=HOWN _ x.mem;have HOW:Hid (Pe x.arm=1+x.arm.coils.length+(if Aq x.arm.net then 0 else Aj x.arm.net)):=rfl;obtain⟨q0,s0,e0,_⟩:=id x.hav;obtain⟨q1,s1,e1,_⟩:=id x.hnv;obtain⟨q2,s2,e2,_⟩:=id x.hcv;obtain⟨q3,s3,e3,_⟩:=id x.hkv;have eG:=hid (λX hX=>Si x.arm.net x.av x.nv X (x.hav.below hX) (x.hnv.below hX) hnf);have gZ:=hid (λX hX hs lim h1 h2=>Ami x.arm.net x.av x.nv lim X (x.hav.below hX) (x.hnv.below hX) hnf hs h1 h2);rw[e0,e1] at eG gZ;rw[e0] at y2;rw[e1] at y3;rw[e2] at y4;rw[e3] at y5;obtain⟨S,hS⟩:∃S,S=(pre.map (Pe ∘ Pv.arm)).sum:=⟨_,rfl⟩
  obtain⟨o,ho⟩:∃o,o=Pe x.arm:=⟨_,rfl⟩
  obtain⟨cn,hcn⟩:∃cn,cn=x.arm.coils.length:=⟨_,rfl⟩
  rw[<-hS] at hc hp hpz aU;rw[<-ho] at hoz aU HOW;rw[<-hcn] at x9 HOW y4;clear hnf hS ho hcn e0 e1 e2 e3 hpl zD;cases hnn:Aq x.arm.net
  ·rw[hnn] at eG HOW
   have hoe:o=1+cn+Aj x.arm.net:=by rw[HOW.out];simp
   obtain⟨ns,hns⟩:∃ns,ns=Aj x.arm.net:=⟨_,rfl⟩
   rw[<-hns] at hoe gZ;clear hns hnn HOW;have hwr:IntKind.i64.wrap (limit - ((S:Int)+(1+cn)))=limit - ((S:Int)+(1+cn)):=by rw[IntKind.wrap_i64];omega
   gi_wp2_with (refine⟨trivial,?_⟩;gi_at_call 73;refine(CallsIn.inRound l (callsIn_wide.2 (eG _ blA))).mono ?_;rintro e W2 ⟨rfl,hb2⟩;have c2:=(hb2.cell (p:=⟨w.heap.size+1,0,none⟩) (by simp;omega)).trans (Fp hc);have z2:W2.frozen? ⟨w.heap.size+1,0,none⟩=false:=(hb2.frozen (p:=⟨w.heap.size+1,0,none⟩) (by simp;omega)).trans (by rw[World.frozen?_setCell];exact hfz);have l2:=(hb2.cell (p:=⟨w.heap.size,0,none⟩) (by simp;omega)).trans ((Ba omz).trans hlm);have v0:=(hb2.cell (p:=⟨Bx,0,none⟩) (by simp;omega)).trans ((Ba hBx1).trans y0);have v1:=(hb2.cell (p:=⟨Bx,1,none⟩) (by simp;omega)).trans ((Ba hBx1).trans y1);have v2:=(hb2.cell (p:=⟨Bx,2,none⟩) (by simp;omega)).trans ((Ba hBx1).trans y2);have v3:=(hb2.cell (p:=⟨Bx,3,none⟩) (by simp;omega)).trans ((Ba hBx1).trans y3))
   refine wpIn_region_any krz ?_;try (change wpAnyIn _ _ _ _ _ _ _ _ _ (World.drew _))
   apply share
   ·intro vg
    apply share
    ·intro mg
     apply share
     ·intro ve
      apply share
      ·intro ky3
       apply share
       ·intro uz
        apply share
        ·intro uy
         apply share
         ·intro l9
          apply share
          ·intro ky7
           apply share
           ·intro uw
            apply share
            ·intro ky9
             apply share
             ·intro yG
              apply share
              ·intro uB
               apply share
               ·intro uA
                apply share
                ·intro tZ
                 apply share
                 ·intro yF
                  apply share
                  ·intro yE
                   apply share
                   ·intro tY
                    apply share
                    ·intro yD
                     apply share
                     ·intro yC
                      apply share
                      ·intro yB
                       apply share
                       ·intro yA
                        apply share
                        ·intro xZ
                         apply share
                         ·intro xY
                          refine wpAnyIn_ready (rs:=[0,1,3,4]) krz spz ?_;refine AllReadyIn.cons rfl (λKK aA=>?_) ?_
                          ·go_simp
                           refine aA _ _ ?_;clear aA KK;refine wpAnyIn_ready (rs:=[1,3,4]) krz spz ?_;refine AllReadyIn.cons rfl (λKK aA=>?_) ?_
                           ·go_simp
                            refine aA _ _ ?_;clear aA KK;exact yD
                           refine AllReadyIn.cons rfl (λKK aA=>?_) ?_
                           ·go_simp
                            refine aA _ _ ?_;clear aA KK;exact yC
                           refine AllReadyIn.cons rfl (λKK aA=>?_) ?_
                           ·go_simp
                            refine aA _ _ ?_;clear aA KK;exact yB
                           exact AllReadyIn.nil
                          refine AllReadyIn.cons rfl (λKK aA=>?_) ?_
                          ·go_simp
                           refine aA _ _ ?_;clear aA KK;refine wpAnyIn_ready (rs:=[0,2,3,4]) krz spz ?_;refine AllReadyIn.cons rfl (λKK aA=>?_) ?_
                           ·go_simp
                            refine aA _ _ ?_;clear aA KK;exact yD
                           refine AllReadyIn.cons rfl (λKK aA=>?_) ?_
                           ·go_simp
                            refine aA _ _ ?_;clear aA KK;refine wpAnyIn_ready (rs:=[0,3,4]) krz spz ?_;refine AllReadyIn.cons rfl (λKK aA=>?_) ?_
                            ·go_simp
                             refine aA _ _ ?_;clear aA KK;exact yG
                            refine AllReadyIn.cons rfl (λKK aA=>?_) ?_
                            ·go_simp
                             refine aA _ _ ?_;clear aA KK;exact yF
                            refine AllReadyIn.cons rfl (λKK aA=>?_) ?_
                            ·go_simp
                             refine aA _ _ ?_;clear aA KK;exact yE
                            exact AllReadyIn.nil
                           refine AllReadyIn.cons rfl (λKK aA=>?_) ?_
                           ·go_simp
                            refine aA _ _ ?_;clear aA KK;exact yA
                           refine AllReadyIn.cons rfl (λKK aA=>?_) ?_
                           ·go_simp
                            refine aA _ _ ?_;clear aA KK;exact xZ
                           exact AllReadyIn.nil
                          refine AllReadyIn.cons rfl (λKK aA=>?_) ?_
                          ·go_simp
                           refine aA _ _ ?_;clear aA KK;refine wpAnyIn_ready (rs:=[0,1,4]) krz spz ?_;refine AllReadyIn.cons rfl (λKK aA=>?_) ?_
                           ·go_simp
                            refine aA _ _ ?_;clear aA KK;exact yC
                           refine AllReadyIn.cons rfl (λKK aA=>?_) ?_
                           ·go_simp
                            refine aA _ _ ?_;clear aA KK;exact yA
                           refine AllReadyIn.cons rfl (λKK aA=>?_) ?_
                           ·go_simp
                            refine aA _ _ ?_;clear aA KK;exact xY
                           exact AllReadyIn.nil
                          refine AllReadyIn.cons rfl (λKK aA=>?_) ?_
                          ·go_simp
                           refine aA _ _ ?_;clear aA KK;refine wpAnyIn_ready (rs:=[0,1,3]) krz spz ?_;refine AllReadyIn.cons rfl (λKK aA=>?_) ?_
                           ·go_simp
                            refine aA _ _ ?_;clear aA KK;exact yB
                           refine AllReadyIn.cons rfl (λKK aA=>?_) ?_
                           ·go_simp
                            refine aA _ _ ?_;clear aA KK;exact xZ
                           refine AllReadyIn.cons rfl (λKK aA=>?_) ?_
                           ·go_simp
                            refine aA _ _ ?_;clear aA KK;exact xY
                           exact AllReadyIn.nil
                          exact AllReadyIn.nil
                         ·refine wpAnyIn_ready (rs:=[0,1,5]) krz spz ?_
                          refine AllReadyIn.cons rfl (λKK aA=>?_) ?_
                          ·go_simp
                           refine aA _ _ ?_;clear aA KK;exact tZ
                          refine AllReadyIn.cons rfl (λKK aA=>?_) ?_
                          ·go_simp
                           refine aA _ _ ?_;clear aA KK;exact tY
                          refine AllReadyIn.cons rfl (λKK aA=>?_) ?_
                          ·go_simp
                           refine aA _ _ ?_;clear aA KK;refine wpAnyIn_ready (rs:=[0,1]) krz spz ?_;refine AllReadyIn.cons rfl (λKK aA=>?_) ?_
                           ·go_simp
                            refine aA _ _ ?_;clear aA KK;exact ky7
                           refine AllReadyIn.cons rfl (λKK aA=>?_) ?_
                           ·go_simp
                            refine aA _ _ ?_;clear aA KK;exact ky9
                           exact AllReadyIn.nil
                          exact AllReadyIn.nil
                        ·refine wpAnyIn_ready (rs:=[0,2,3]) krz spz ?_
                         refine AllReadyIn.cons rfl (λKK aA=>?_) ?_
                         ·go_simp
                          refine aA _ _ ?_;clear aA KK;exact uA
                         refine AllReadyIn.cons rfl (λKK aA=>?_) ?_
                         ·go_simp
                          refine aA _ _ ?_;clear aA KK;exact yE
                         refine AllReadyIn.cons rfl (λKK aA=>?_) ?_
                         ·go_simp
                          refine aA _ _ ?_;clear aA KK;exact tY
                         exact AllReadyIn.nil
                       ·refine wpAnyIn_ready (rs:=[0,2,4]) krz spz ?_
                        refine AllReadyIn.cons rfl (λKK aA=>?_) ?_
                        ·go_simp
                         refine aA _ _ ?_;clear aA KK;exact uB
                        refine AllReadyIn.cons rfl (λKK aA=>?_) ?_
                        ·go_simp
                         refine aA _ _ ?_;clear aA KK;exact yF
                        refine AllReadyIn.cons rfl (λKK aA=>?_) ?_
                        ·go_simp
                         refine aA _ _ ?_;clear aA KK;exact tY
                        exact AllReadyIn.nil
                      ·refine wpAnyIn_ready (rs:=[1,3]) krz spz ?_
                       refine AllReadyIn.cons rfl (λKK aA=>?_) ?_
                       ·go_simp
                        refine aA _ _ ?_;clear aA KK;exact uA
                       refine AllReadyIn.cons rfl (λKK aA=>?_) ?_
                       ·go_simp
                        refine aA _ _ ?_;clear aA KK;exact tZ
                       exact AllReadyIn.nil
                     ·refine wpAnyIn_ready (rs:=[1,4]) krz spz ?_
                      refine AllReadyIn.cons rfl (λKK aA=>?_) ?_
                      ·go_simp
                       refine aA _ _ ?_;clear aA KK;exact uB
                      refine AllReadyIn.cons rfl (λKK aA=>?_) ?_
                      ·go_simp
                       refine aA _ _ ?_;clear aA KK;exact tZ
                      exact AllReadyIn.nil
                    ·refine wpAnyIn_ready (rs:=[2,3,4]) krz spz ?_
                     refine AllReadyIn.cons rfl (λKK aA=>?_) ?_
                     ·go_simp
                      refine aA _ _ ?_;clear aA KK;exact yG
                     refine AllReadyIn.cons rfl (λKK aA=>?_) ?_
                     ·go_simp
                      refine aA _ _ ?_;clear aA KK;exact uB
                     refine AllReadyIn.cons rfl (λKK aA=>?_) ?_
                     ·go_simp
                      refine aA _ _ ?_;clear aA KK;exact uA
                     exact AllReadyIn.nil
                   ·refine wpAnyIn_ready (rs:=[0,2,5]) krz spz ?_
                    refine AllReadyIn.cons rfl (λKK aA=>?_) ?_
                    ·go_simp
                     refine aA _ _ ?_;clear aA KK;exact l9
                    refine AllReadyIn.cons rfl (λKK aA=>?_) ?_
                    ·go_simp
                     refine aA _ _ ?_;clear aA KK;exact uw
                    refine AllReadyIn.cons rfl (λKK aA=>?_) ?_
                    ·go_simp
                     refine aA _ _ ?_;clear aA KK;exact ky9
                    exact AllReadyIn.nil
                  ·refine wpAnyIn_ready (rs:=[0,3]) krz spz ?_
                   refine AllReadyIn.cons rfl (λKK aA=>?_) ?_
                   ·go_simp
                    refine aA _ _ ?_;clear aA KK;exact uy
                   refine AllReadyIn.cons rfl (λKK aA=>?_) ?_
                   ·go_simp
                    refine aA _ _ ?_;clear aA KK;exact uw
                   exact AllReadyIn.nil
                 ·refine wpAnyIn_ready (rs:=[0,4]) krz spz ?_
                  refine AllReadyIn.cons rfl (λKK aA=>?_) ?_
                  ·go_simp
                   refine aA _ _ ?_;clear aA KK;exact uz
                  refine AllReadyIn.cons rfl (λKK aA=>?_) ?_
                  ·go_simp
                   refine aA _ _ ?_;clear aA KK;exact uw
                  exact AllReadyIn.nil
                ·refine wpAnyIn_ready (rs:=[1,5]) krz spz ?_
                 refine AllReadyIn.cons rfl (λKK aA=>?_) ?_
                 ·go_simp
                  refine aA _ _ ?_;clear aA KK;exact l9
                 refine AllReadyIn.cons rfl (λKK aA=>?_) ?_
                 ·go_simp
                  refine aA _ _ ?_;clear aA KK;exact ky7
                 exact AllReadyIn.nil
               ·refine wpAnyIn_ready (rs:=[2,3]) krz spz ?_
                refine AllReadyIn.cons rfl (λKK aA=>?_) ?_
                ·go_simp
                 refine aA _ _ ?_;clear aA KK;exact uy
                refine AllReadyIn.cons rfl (λKK aA=>?_) ?_
                ·go_simp
                 refine aA _ _ ?_;clear aA KK;exact l9
                exact AllReadyIn.nil
              ·refine wpAnyIn_ready (rs:=[2,4]) krz spz ?_
               refine AllReadyIn.cons rfl (λKK aA=>?_) ?_
               ·go_simp
                refine aA _ _ ?_;clear aA KK;exact uz
               refine AllReadyIn.cons rfl (λKK aA=>?_) ?_
               ·go_simp
                refine aA _ _ ?_;clear aA KK;exact l9
               exact AllReadyIn.nil
             ·refine wpAnyIn_ready (rs:=[3,4]) krz spz ?_
              refine AllReadyIn.cons rfl (λKK aA=>?_) ?_
              ·go_simp
               refine aA _ _ ?_;clear aA KK;exact uz
              refine AllReadyIn.cons rfl (λKK aA=>?_) ?_
              ·go_simp
               refine aA _ _ ?_;clear aA KK;exact uy
              exact AllReadyIn.nil
            ·refine wpAnyIn_ready (rs:=[0,2]) krz spz ?_
             refine AllReadyIn.cons rfl (λKK aA=>?_) ?_
             ·go_simp
              refine aA _ _ ?_;clear aA KK;exact ve
             refine AllReadyIn.cons rfl (λKK aA=>?_) ?_
             ·go_simp
              refine aA _ _ ?_;clear aA KK;exact ky3
             exact AllReadyIn.nil
           ·refine wpAnyIn_ready (rs:=[0,5]) krz spz ?_
            refine AllReadyIn.cons rfl (λKK aA=>?_) ?_
            ·go_simp
             refine aA _ _ ?_;clear aA KK;exact mg
            refine AllReadyIn.cons rfl (λKK aA=>?_) ?_
            ·go_simp
             refine aA _ _ ?_;clear aA KK;exact ky3
            exact AllReadyIn.nil
          ·refine wpAnyIn_ready (rs:=[1]) krz spz ?_
           refine AllReadyIn.cons rfl (λKK aA=>?_) AllReadyIn.nil;go_simp;refine aA _ _ ?_;clear aA KK;exact ve
         ·refine wpAnyIn_ready (rs:=[2,5]) krz spz ?_
          refine AllReadyIn.cons rfl (λKK aA=>?_) ?_
          ·go_simp
           refine aA _ _ ?_;clear aA KK;exact mg
          refine AllReadyIn.cons rfl (λKK aA=>?_) ?_
          ·go_simp
           refine aA _ _ ?_;clear aA KK;exact ve
          exact AllReadyIn.nil
        ·refine wpAnyIn_ready (rs:=[3]) krz spz ?_
         refine AllReadyIn.cons rfl (λKK aA=>?_) AllReadyIn.nil;go_simp;refine aA _ _ ?_;clear aA KK;exact mg
       ·refine wpAnyIn_ready (rs:=[4]) krz spz ?_
        refine AllReadyIn.cons rfl (λKK aA=>?_) AllReadyIn.nil;go_simp;refine aA _ _ ?_;clear aA KK;exact mg
      ·refine wpAnyIn_ready (rs:=[0,6]) krz spz ?_
       refine AllReadyIn.cons rfl (λKK aA=>?_) ?_
       ·go_simp
        refine aA _ _ ?_;clear aA KK;exact vg
       refine AllReadyIn.cons rfl (λKK aA=>?_) ?_
       ·go_simp
        try simp only[hwr]
        refine⟨trivial,?_⟩;refine(CallsIn.inRound l (callsIn_wide.2 (gZ _ blA omz (limit - ((S:Int)+(1+cn))) omz omz))).mono ?_;rintro e W3 ⟨r,rfl,hr1,hr2,hr3,hb3⟩;refine aA _ _ ?_;clear aA KK;have c3:=(hb3.cell (p:=⟨w.heap.size+1,0,none⟩) (Bv c2)).trans c2;have z3:=(hb3.frozen (p:=⟨w.heap.size+1,0,none⟩) (Bv c2)).trans z2;have l3:=(hb3.cell (p:=⟨w.heap.size,0,none⟩) (Bv l2)).trans l2;have hwr2:IntKind.i64.wrap ((S:Int)+(1+cn)+r)=(S:Int)+(1+cn)+r:=by rw[IntKind.wrap_i64];omega
        refine wpAnyIn_ready (rs:=[0]) krz spz ?_;refine AllReadyIn.cons rfl (λKK aA=>?_) AllReadyIn.nil;go_simp;refine aA _ _ ?_;clear aA KK;refine wpAnyIn_ready (rs:=[7]) krz spz ?_;refine AllReadyIn.cons rfl (λKK aA=>?_) AllReadyIn.nil;go_simp;try simp only[hwr2]
        refine aA _ _ ?_;clear aA KK;refine wpAnyIn_ready (rs:=[8]) krz spz ?_;refine AllReadyIn.cons rfl (λKK aA=>?_) AllReadyIn.nil;go_simp;refine aA _ _ ?_;clear aA KK;refine wpAnyIn_done krz ?_ _;by_cases hgt:limit<(S:Int)+(1+cn)+r
        ·exact zi0
        ·exact zr
       exact AllReadyIn.nil
     ·refine wpAnyIn_ready (rs:=[2]) krz spz ?_
      refine AllReadyIn.cons rfl (λKK aA=>?_) AllReadyIn.nil;go_simp;refine aA _ _ ?_;clear aA KK;exact vg
    ·refine wpAnyIn_ready (rs:=[5]) krz spz ?_
     refine AllReadyIn.cons rfl (λKK aA=>?_) AllReadyIn.nil;go_simp;refine aA _ _ ?_;clear aA KK;exact vg
   ·refine wpAnyIn_ready (rs:=[6]) krz spz ?_
    refine AllReadyIn.cons rfl (λKK aA=>?_) AllReadyIn.nil;go_simp;try simp only[hwr]
    refine⟨trivial,?_⟩;refine(CallsIn.inRound l (callsIn_wide.2 (gZ _ blA omz (limit - ((S:Int)+(1+cn))) omz omz))).mono ?_;rintro e W3 ⟨r,rfl,hr1,hr2,hr3,hb3⟩;refine aA _ _ ?_;clear aA KK;have c3:=(hb3.cell (p:=⟨w.heap.size+1,0,none⟩) (Bv c2)).trans c2;have z3:=(hb3.frozen (p:=⟨w.heap.size+1,0,none⟩) (Bv c2)).trans z2;have l3:=(hb3.cell (p:=⟨w.heap.size,0,none⟩) (Bv l2)).trans l2;have hwr2:IntKind.i64.wrap ((S:Int)+(1+cn)+r)=(S:Int)+(1+cn)+r:=by rw[IntKind.wrap_i64];omega
    refine wpAnyIn_ready (rs:=[7]) krz spz ?_;refine AllReadyIn.cons rfl (λKK aA=>?_) AllReadyIn.nil;go_simp;try simp only[hwr2]
    refine aA _ _ ?_;clear aA KK;refine wpAnyIn_ready (rs:=[8]) krz spz ?_;refine AllReadyIn.cons rfl (λKK aA=>?_) AllReadyIn.nil;go_simp;refine aA _ _ ?_;clear aA KK;refine wpAnyIn_done krz ?_ _;by_cases hgt:limit<(S:Int)+(1+cn)+r
    ·exact zi0
    ·exact zr
  ·rw[hnn] at eG HOW
   have hoe:o=1+cn:=by rw[HOW.out];simp
   clear hnn HOW gZ;by_cases hgt:limit<(S:Int)+(1+cn)
   ·gi_wp2_with (refine⟨trivial,?_⟩;gi_at_call 73;refine(CallsIn.inRound l (callsIn_wide.2 (eG _ blA))).mono ?_;rintro e W2 ⟨rfl,hb2⟩;have c2:=(hb2.cell (p:=⟨w.heap.size+1,0,none⟩) (by simp;omega)).trans (Fp hc);have z2:W2.frozen? ⟨w.heap.size+1,0,none⟩=false:=(hb2.frozen (p:=⟨w.heap.size+1,0,none⟩) (by simp;omega)).trans (by rw[World.frozen?_setCell];exact hfz);have l2:=(hb2.cell (p:=⟨w.heap.size,0,none⟩) (by simp;omega)).trans ((Ba omz).trans hlm))
    exact⟨by(repeat (first | with_reducible exact KeepsFrom.refl _ _ | with_reducible refine Vh ?_ _ _ | with_reducible refine Pm ?_ | with_reducible refine Lh ?_ _ | with_reducible refine Pn ?_ (by assumption))),⟨rfl,S+(1+cn),by omega,by rw[aU.out];omega,by rw[c2];simp⟩,blA⟩
   ·gi_wp2_with (refine⟨trivial,?_⟩;gi_at_call 73;refine(CallsIn.inRound l (callsIn_wide.2 (eG _ blA))).mono ?_;rintro e W2 ⟨rfl,hb2⟩;have c2:=(hb2.cell (p:=⟨w.heap.size+1,0,none⟩) (by simp;omega)).trans (Fp hc);have z2:W2.frozen? ⟨w.heap.size+1,0,none⟩=false:=(hb2.frozen (p:=⟨w.heap.size+1,0,none⟩) (by simp;omega)).trans (by rw[World.frozen?_setCell];exact hfz);have l2:=(hb2.cell (p:=⟨w.heap.size,0,none⟩) (by simp;omega)).trans ((Ba omz).trans hlm))
    exact⟨by(repeat (first | with_reducible exact KeepsFrom.refl _ _ | with_reducible refine Vh ?_ _ _ | with_reducible refine Pm ?_ | with_reducible refine Lh ?_ _ | with_reducible refine Pn ?_ (by assumption))),Uy (Ajf (b:=w.heap.size+1) (Kept.refl w.heap.size (λk=>k=w.heap.size+1) W) (by omega) rfl _) hn hb2,⟨⟨⟨by rw[c2,aU.out,hoe];simp,z2,l2⟩,blA⟩,by rw[aU.out];omega,by rw[aU.out,gX.out];omega,by have:=hb2.size;simp at*;omega⟩⟩
 case done=>
  rintro D ys W hD hS ⟨⟨⟨hc,_⟩,hB⟩,hp,_⟩ hK;rw[<-List.map_map,hS,oL.out] at hc hp
  gi_wp2
  refine⟨spz, .inl ⟨_,_,rfl,run_takeDeferred hK,?_⟩⟩;exact⟨_,results_tmp rfl _ _ _,z,rfl,λ_=>rfl,λh=>h,A4d _,hB.trans (belowK_b (w:=w) (A4d _) W D _ _ omz hK rfl rfl)⟩
 case stop=>
  rintro D c pre W hD hSp ⟨⟨rfl,t,ht1,ht2,hc⟩,hB⟩ hK;have htz:t<=z:=by have:=Apg Pe hSp;rw[oL.out,List.map_map] at this;omega
  gi_wp2
  refine⟨spz, .inl ⟨_,_,rfl,run_takeDeferred hK,?_⟩⟩;exact⟨_,results_tmp rfl _ _ _,t,rfl,λh=>by omega,λh=>by omega,htz,hB.trans (belowK_b (w:=w) (A4d _) W D _ _ omz hK rfl rfl)⟩
end Go.Proofs.YtbfljjcnbbmoaaaGreatDoor
