import Derived.Test.YtbfljjcnbbmoaaaGreatDoorGU
import Derived.Shelf.RegionOpen
import Derived.OwnWalkIn
import Derived.TacticsInMore
import Derived.LoopNIn
import Derived.LoopIn
set_option maxHeartbeats 4000000
set_option maxRecDepth 100000
namespace Go.Proofs.YtbfljjcnbbmoaaaGreatDoor
open Stil
open Go.RowKit Go.Sort Go.BigFrame Go.Shelf
theorem Aix (k op:Int) (av:Value) (p:Option Addr) (ln cap:Nat) (pa:Option Addr) (la ca:Nat) (hav:av=.slice pa la ca) (w:World):
  Calls Tryz.prog 141 #[.agg #[.int .i64 k, .int .i64 op,av, .slice p ln cap]] w λe w'=>e=.returned (.slice p ln cap)/\Below w.heap.size w w':=by
 subst hav;go_enter Tryz.func141,Tryz.ntmps141
 go_wp2
 go_ret;exact⟨rfl,blA⟩
theorem Aiz (k op:Int) (pa pn pc p:Option Addr) (la ca lnn cn lc cc ln cap:Nat) (w:World):
  Calls Tryz.prog 134 #[.agg #[.int .i64 k, .int .i64 op, .slice pa la ca, .slice pn lnn cn, .slice pc lc cc, .slice p ln cap]] w λe w'=>e=.returned (.slice p ln cap)/\Below w.heap.size w w':=by
 go_enter Tryz.func134,Tryz.ntmps134
 go_wp2
 go_ret;exact⟨rfl,blA⟩
def Ahc (l Y B K:Nat) (W:World):Prop:=W.cell? ⟨Y,0,none⟩=some (.func (.yield l) #[] #[])/\W.cell? ⟨B,0,none⟩=some (.func (.func 147) #[] #[.pointer (some ⟨Y,0,none⟩), .pointer (some ⟨B,0,none⟩), .pointer (some ⟨K,0,none⟩)])/\W.cell? ⟨K,0,none⟩=some (.func (.func 141) #[] #[])
def Abm (w:World) (P:Stil.Net->Prop) (C:Nat->Prop) (M l Y B K N:Nat) (J Jx:List (Qp w P)->World->Prop) (es:List Stil.Net):Prop:=
 ∀(m:Nat) (v:Value) (pre:List (Qp w P)) (W:World),N9 w C W v es->Ahc l Y B K W->J pre W->Below w.heap.size w W->M<=W.heap.size->pre.length+(Ec es).length<=N->
  CallsIn Fence.wide m Tryz.prog 147 #[v, .pointer (some ⟨Y,0,none⟩), .pointer (some ⟨B,0,none⟩), .pointer (some ⟨K,0,none⟩)] W λe W'=>
   (e=.returned (.bool true)/\∃ys:List (Qp w P),ys.map Qp.net=Ec es/\J (pre++ys) W'/\Kept w.heap.size C W W')\/
   (e=.returned (.bool false)/\∃ys:List (Qp w P),ys.map Qp.net<+:Ec es/\Jx (pre++ys) W')
def Ahd (l Y B K:Nat) (W:World):Prop:=W.cell? ⟨Y,0,none⟩=some (.func (.yield l) #[] #[])/\W.cell? ⟨B,0,none⟩=some (.func (.func 139) #[] #[.pointer (some ⟨Y,0,none⟩), .pointer (some ⟨B,0,none⟩), .pointer (some ⟨K,0,none⟩)])/\W.cell? ⟨K,0,none⟩=some (.func (.func 134) #[] #[])
def Abn (w:World) (P:Stil.Arm->Prop) (C:Nat->Prop) (M l Y B K N:Nat) (J Jx:List (O8 w P)->World->Prop) (es:List Stil.Arm):Prop:=
 ∀(m:Nat) (v:Value) (pre:List (O8 w P)) (W:World),Mc w C W v es->Ahd l Y B K W->J pre W->Below w.heap.size w W->M<=W.heap.size->pre.length+(Dx es).length<=N->
  CallsIn Fence.wide m Tryz.prog 139 #[v, .pointer (some ⟨Y,0,none⟩), .pointer (some ⟨B,0,none⟩), .pointer (some ⟨K,0,none⟩)] W λe W'=>
   (e=.returned (.bool true)/\∃ys:List (O8 w P),ys.map O8.arm=Dx es/\J (pre++ys) W'/\Kept w.heap.size C W W')\/
   (e=.returned (.bool false)/\∃ys:List (O8 w P),ys.map O8.arm<+:Dx es/\Jx (pre++ys) W')
end Go.Proofs.YtbfljjcnbbmoaaaGreatDoor
namespace Go.Proofs.YtbfljjcnbbmoaaaGreatDoor
open Stil
open Go.RowKit Go.Sort Go.BigFrame Go.Shelf
attribute [local go_sem] Oper.semAt_some
theorem Ahc.keep {l Y B K:Nat} {C:Nat->Prop} {W W':World} (h:Ahc l Y B K W) (hY:¬C Y) (hB:¬C B) (hK:¬C K) (hk:I5 C W W'):Ahc l Y B K W':=⟨hk.cell hY h.1,hk.cell hB h.2.1,hk.cell hK h.2.2⟩
theorem Ae6 (w:World) (P:Stil.Net->Prop) (C:Nat->Prop) (hC:∀k,C k->w.heap.size<=k) (M l Y B K N:Nat) (hCM:∀k,C k->k<M) (hYC:¬C Y) (hBC:¬C B) (hKC:¬C K) (J Jx:List (Qp w P)->World->Prop)
  (hJ:∀s W W',J s W->Below W.heap.size W W'->J s W')
  (hY:∀m pre (x:Qp w P) W,J pre W->pre.length<N->YieldAt Fence.wide m Tryz.prog l #[.agg #[.int .i64 x.net.kind, .int .i64 x.net.one.op,x.av,x.kv]] W λe W'=>
   (e=.returned (.bool true)/\J (pre++[x]) W'/\Kept w.heap.size C W W')\/(e=.returned (.bool false)/\Jx (pre++[x]) W'))
  (es:List Stil.Net) (hl:es.length<=1048576) (hf:∀x∈es,P x) (ih:∀x∈es,Abm w P C M l Y B K N J Jx x.kids):Abm w P C M l Y B K N J Jx es:=by
 intro m v pre W hs hbx hj hb hM hN;have HS:=hid (λW' (h:I5 C W W')=>hs.keep h);have HBX:=hid (λW' (h:I5 C W W')=>hbx.keep hYC hBC hKC h);have HYY:=hid hY;have HJJ:=hid hJ;have IH:=hid ih;have HN:=hid hN;have HB:=hid hb;obtain⟨a,cap,rfl,_⟩:=hs;clear hJ hY ih hN hb hbx;refine callsIn_of_wp Tryz.func147 rfl trivial ?_ rfl;simp only[Tryz.ntmps147,A4g,A4e,A4f,Nat.reduceAdd,Nat.reduceSub,A46,A47,A5c,A49,A44,A43]
 gi_wp2
 gi_loopw [10] (λi wr=>∃(j:Nat) (ys:List (Qp w P)),j<=es.length/\i=.int .i64 j/\ys.map Qp.net=Ec (es.take j)/\J (pre++ys) wr/\Kept w.heap.size C W wr) (λi _=>es.length - (intOf i).toNat)
 case atStart=>exact⟨0,[],by omega,rfl,by simp[Ec],by simpa using hj,Kept.refl _ _ _⟩
 case round=>
  obtain⟨j,ys,hjl,rfl,hys,hJ1,hk⟩:=hrel;by_cases hlt:j<es.length
  ·obtain⟨a',cap',hv,hcs⟩:=HS.out wr hk.2
   obtain⟨b,o,rfl,hCb,av,kv,x0,x1,x2,x3,hav,hkv⟩:=hcs j hlt;simp only[Value.slice.injEq,true_and] at hv;obtain⟨rfl,rfl⟩:=hv;obtain⟨b0,b1,b2⟩:=HBX.out wr hk.2;have hpl:(pre++ys).length<N:=by
    have h1:=HN.out;have h2:ys.length=(Ec (es.take j)).length:=by rw[<-hys,A4t]
    have h3:=(X5 es (j+1)).length_le;rw[Qy es j hlt] at h3;simp only[A4d,A4e] at h3 ⊢;omega
   obtain⟨p0,r0,e0,_⟩:=id hav;obtain⟨p1,r1,e1,_⟩:=id hkv;have hval:∀x:Qp w P,x=⟨es[j],av,kv,hav,hkv,hf _ (A4k hlt)⟩->∀W1,J (pre++ys) W1->YieldAt Fence.wide (m - 1) Tryz.prog l #[.agg #[.int .i64 es[j].kind, .int .i64 es[j].one.op, .slice p0 es[j].one.args.length r0, .slice p1 es[j].kids.length r1]] W1 λe W'=>
     (e=.returned (.bool true)/\J (pre++ys++[x]) W'/\Kept w.heap.size C W1 W')\/(e=.returned (.bool false)/\Jx (pre++ys++[x]) W'):=by
    intro x hx W1 hj1;have:=HYY.out (m - 1) (pre++ys) x W1 hj1 hpl
    rw[hx] at this ⊢;simp only[e0,e1] at this ⊢;exact this
   obtain⟨x,hx⟩:∃x:Qp w P,x=⟨es[j],av,kv,hav,hkv,hf _ (A4k hlt)⟩:=⟨_,rfl⟩
   have HV:=hid (hval x hx);have HXN:Hid (x.net=es[j]):=by show _=_;rw[hx]
   have HKID:=hid hkv;clear hval hx;obtain⟨y,hy⟩:∃y,y=es[j]:=⟨_,rfl⟩
   rw[<-hy] at x0 x1 HV HXN HKID e0 e1;have HY2:=hid hy;rw[e0] at x2;rw[e1] at x3 HKID;clear hav hkv e0 e1 hy;have hZ:¬C wr.heap.size:=λh=>by have:=hCM _ h;have:=hk.2.size;omega
   have hYz:=Bo b0;have hBz:=Bo b1;have hKz:=Bo b2
   gi_wp2
   obtain⟨W1,hW1⟩:∃W1,W1=wr.alloc (.cells #[.int .i64 y.kind, .int .i64 y.one.op, .slice p0 y.one.args.length r0, .slice p1 y.kids.length r1] 52):=⟨_,rfl⟩
   rw[<-hW1];have c0:W1.cell? ⟨Y,0,none⟩=some (.func (.yield l) #[] #[]):=by rw[hW1];simp[go_sem,b0,hYz]
   have c1:W1.cell? ⟨B,0,none⟩=some (.func (.func 147) #[] #[.pointer (some ⟨Y,0,none⟩), .pointer (some ⟨B,0,none⟩), .pointer (some ⟨K,0,none⟩)]):=by rw[hW1];simp[go_sem,b1,hBz]
   have c2:W1.cell? ⟨K,0,none⟩=some (.func (.func 141) #[] #[]):=by rw[hW1];simp[go_sem,b2,hKz]
   obtain⟨z,hz⟩:∃z,z=wr.heap.size:=⟨_,rfl⟩
   rw[<-hz] at hZ ⊢;have d0:W1.cell? ⟨z,0,none⟩=some (.int .i64 y.kind):=by rw[hW1,hz];simp[go_sem]
   have d1:W1.cell? ⟨z,1,none⟩=some (.int .i64 y.one.op):=by rw[hW1,hz];simp[go_sem]
   have d2:W1.cell? ⟨z,2,none⟩=some (.slice p0 y.one.args.length r0):=by rw[hW1,hz];simp[go_sem]
   have d3:W1.cell? ⟨z,3,none⟩=some (.slice p1 y.kids.length r1):=by rw[hW1,hz];simp[go_sem]
   have hb1:Below wr.heap.size wr W1:=by rw[hW1];exact Aa _ _
   have hk1:=hk.t (Kept.of_below (A4p HB.out.size hk.1.size) hb1);have hJ2:=HJJ.out _ _ _ hJ1 hb1.drew;clear hW1 hb1 b0 b1 b2 x0 x1 x2 x3 hYz hBz hKz hJ1 hk hz;obtain⟨fn,tmps,assign,body,hyd,hR⟩:=HV.out W1.drew hJ2;clear HV hJ2;have HRR:Hid (∀(e:Ending) (W2:World),(e=.returned (.bool true)/\J (pre++ys++[x]) W2/\Kept w.heap.size C W1.drew W2)->W2.cell? ⟨B,0,none⟩=some (.func (.func 147) #[] #[.pointer (some ⟨Y,0,none⟩), .pointer (some ⟨B,0,none⟩), .pointer (some ⟨K,0,none⟩)])/\W2.cell? ⟨K,0,none⟩=some (.func (.func 141) #[] #[])/\
     W2.cell? ⟨z,0,none⟩=some (.int .i64 y.kind)/\W2.cell? ⟨z,1,none⟩=some (.int .i64 y.one.op)/\W2.cell? ⟨z,2,none⟩=some (.slice p0 y.one.args.length r0)/\W2.cell? ⟨z,3,none⟩=some (.slice p1 y.kids.length r1)):=
    λe W2 h=>⟨h.2.2.2.cell hBC c1,h.2.2.2.cell hKC c2,h.2.2.2.cell hZ d0,h.2.2.2.cell hZ d1,h.2.2.2.cell hZ d2,h.2.2.2.cell hZ d3⟩
   have HKW:Hid (∀W2 W3,Kept w.heap.size C W1.drew W2->Below W2.heap.size W2 W3->Kept w.heap.size C W W3):=λW2 W3 h2 h3=>
    ((hk1.t ⟨(Below.refl _ _).drew,(I5.refl _ _).drew⟩).t h2).t (Kept.of_below (A4p (A4p HB.out.size hk1.1.size) h2.1.size) h3)
   have HREC:Hid (∀W3,J (pre++ys++[x]) W3->Kept w.heap.size C W W3->CallsIn Fence.wide (m - 1) Tryz.prog 147 #[.slice p1 y.kids.length r1, .pointer (some ⟨Y,0,none⟩), .pointer (some ⟨B,0,none⟩), .pointer (some ⟨K,0,none⟩)] W3 λe W'=>
     (e=.returned (.bool true)/\∃zs:List (Qp w P),zs.map Qp.net=Ec y.kids/\J (pre++ys++[x]++zs) W'/\Kept w.heap.size C W3 W')\/
     (e=.returned (.bool false)/\∃zs:List (Qp w P),zs.map Qp.net<+:Ec y.kids/\Jx (pre++ys++[x]++zs) W')):=by
    intro W3 hj3 hk3;have hbw:=HB.out.trans hk3.1;refine IH.out y (by rw[HY2.out];exact A4k hlt) (m - 1) _ _ W3 (N9.of_at HKID.out hbw hC) (HBX.out W3 hk3.2) hj3 hbw (A4p hM hk3.2.size) ?_;have h1:=HN.out;have h2:ys.length=(Ec (es.take j)).length:=by rw[<-hys,A4t]
    have h3:=(X5 es (j+1)).length_le;rw[Qy es j hlt,<-HY2.out] at h3;simp only[A4d,A4e,A4f] at h3 ⊢;omega
   have HCONT:Hid (∀zs:List (Qp w P),zs.map Qp.net=Ec y.kids->(ys++[x]++zs).map Qp.net=Ec (es.take (j+1))):=by
    intro zs hzs;rw[Qy es j hlt,A4r,A4r,hys,hzs,<-HY2.out];simp[HXN.out]
   have HPRE:Hid (∀zs:List (Qp w P),zs.map Qp.net<+:Ec y.kids->(ys++[x]++zs).map Qp.net<+:Ec es):=by
    intro zs hzs;refine List.IsPrefix.trans ?_ (X5 es (j+1));rw[Qy es j hlt,A4r,A4r,hys,<-HY2.out];obtain⟨t,ht⟩:=hzs;exact⟨t,by simp[HXN.out,<-ht]⟩
   have HPRE1:Hid ((ys++[x]).map Qp.net<+:Ec es):=by
    show _<+:_
    have:=HPRE.out [] (by simp)
    simpa using this
   refine wpIn_region_any (by kernel_rfl) ?_;try (change wpAnyIn _ _ _ _ _ _ _ _ _ (World.drew _))
   apply share
   ·intro key0
    refine wpAnyIn_ready (rs:=[0,1]) (by kernel_rfl) (by simp) ?_;refine AllReadyIn.cons rfl (λKK hKK=>?_) ?_
    ·go_simp
     refine hKK _ _ ?_;clear hKK KK;refine wpAnyIn_ready (rs:=[1]) (by kernel_rfl) (by simp) ?_;refine AllReadyIn.cons rfl (λKK hKK=>?_) AllReadyIn.nil;go_simp;refine hKK _ _ ?_;clear hKK KK;exact key0
    refine AllReadyIn.cons rfl (λKK hKK=>?_) ?_
    ·go_simp
     refine hKK _ _ ?_;clear hKK KK;refine wpAnyIn_ready (rs:=[0]) (by kernel_rfl) (by simp) ?_;refine AllReadyIn.cons rfl (λKK hKK=>?_) AllReadyIn.nil;go_simp;refine hKK _ _ ?_;clear hKK KK;exact key0
    exact AllReadyIn.nil
   ·refine wpAnyIn_ready (rs:=[2]) (by kernel_rfl) (by simp) ?_
    refine AllReadyIn.cons rfl (λKK hKK=>?_) AllReadyIn.nil;go_simp;refine⟨λh=>(by cases h),?_⟩;refine hR.mono ?_;rintro e W2 (⟨rfl,hJ3,hk3⟩ | ⟨rfl,hx3⟩)
    ·refine hKK _ _ ?_
     clear hKK KK;obtain⟨f1,f2,g0,g1,g2,g3⟩:=HRR.out _ _ ⟨rfl,hJ3,hk3⟩;apply share
     ·intro key1
      apply share
      ·intro key2
       refine wpAnyIn_ready (rs:=[3]) (by kernel_rfl) (by simp) ?_;refine AllReadyIn.cons rfl (λKK hKK=>?_) AllReadyIn.nil;go_simp;refine hKK _ _ ?_;clear hKK KK;refine wpAnyIn_ready (rs:=[4]) (by kernel_rfl) (by simp) ?_;refine AllReadyIn.cons rfl (λKK hKK=>?_) AllReadyIn.nil;go_simp;refine hKK _ _ ?_;clear hKK KK;refine wpAnyIn_ready (rs:=[5,6,7]) (by kernel_rfl) (by simp) ?_;refine AllReadyIn.cons rfl (λKK hKK=>?_) ?_
       ·go_simp
        refine hKK _ _ ?_;clear hKK KK;refine wpAnyIn_ready (rs:=[6,7]) (by kernel_rfl) (by simp) ?_;refine AllReadyIn.cons rfl (λKK hKK=>?_) ?_
        ·go_simp
         refine hKK _ _ ?_;clear hKK KK;refine wpAnyIn_ready (rs:=[7]) (by kernel_rfl) (by simp) ?_;refine AllReadyIn.cons rfl (λKK hKK=>?_) AllReadyIn.nil;go_simp;refine hKK _ _ ?_;clear hKK KK;exact key1
        refine AllReadyIn.cons rfl (λKK hKK=>?_) ?_
        ·go_simp
         refine hKK _ _ ?_;clear hKK KK;refine wpAnyIn_ready (rs:=[6]) (by kernel_rfl) (by simp) ?_;refine AllReadyIn.cons rfl (λKK hKK=>?_) AllReadyIn.nil;go_simp;refine hKK _ _ ?_;clear hKK KK;exact key1
        exact AllReadyIn.nil
       refine AllReadyIn.cons rfl (λKK hKK=>?_) ?_
       ·go_simp
        refine hKK _ _ ?_;clear hKK KK;refine wpAnyIn_ready (rs:=[5,7]) (by kernel_rfl) (by simp) ?_;refine AllReadyIn.cons rfl (λKK hKK=>?_) ?_
        ·go_simp
         refine hKK _ _ ?_;clear hKK KK;refine wpAnyIn_ready (rs:=[7]) (by kernel_rfl) (by simp) ?_;refine AllReadyIn.cons rfl (λKK hKK=>?_) AllReadyIn.nil;go_simp;refine hKK _ _ ?_;clear hKK KK;exact key1
        refine AllReadyIn.cons rfl (λKK hKK=>?_) ?_
        ·go_simp
         refine hKK _ _ ?_;clear hKK KK;exact key2
        exact AllReadyIn.nil
       refine AllReadyIn.cons rfl (λKK hKK=>?_) ?_
       ·go_simp
        refine hKK _ _ ?_;clear hKK KK;refine wpAnyIn_ready (rs:=[5,6]) (by kernel_rfl) (by simp) ?_;refine AllReadyIn.cons rfl (λKK hKK=>?_) ?_
        ·go_simp
         refine hKK _ _ ?_;clear hKK KK;refine wpAnyIn_ready (rs:=[6]) (by kernel_rfl) (by simp) ?_;refine AllReadyIn.cons rfl (λKK hKK=>?_) AllReadyIn.nil;go_simp;refine hKK _ _ ?_;clear hKK KK;exact key1
        refine AllReadyIn.cons rfl (λKK hKK=>?_) ?_
        ·go_simp
         refine hKK _ _ ?_;clear hKK KK;exact key2
        exact AllReadyIn.nil
       exact AllReadyIn.nil
      ·refine wpAnyIn_ready (rs:=[5,8]) (by kernel_rfl) (by simp) ?_
       refine AllReadyIn.cons rfl (λKK hKK=>?_) ?_
       ·go_simp
        refine hKK _ _ ?_;clear hKK KK;exact key1
       refine AllReadyIn.cons rfl (λKK hKK=>?_) ?_
       ·go_simp
        refine⟨trivial,λh=>(by cases h),?_⟩;refine(callsIn_wide.2 (Aix _ _ _ _ _ _ _ _ _ rfl _)).mono ?_;rintro e W3 ⟨rfl,hb3⟩;refine hKK _ _ ?_;clear hKK KK;have h1:=(hb3.cell (p:=⟨B,0,none⟩) (Bo f1)).trans f1;have hJ3:=HJJ.out _ _ _ hJ3 hb3;have hkW:=HKW.out _ _ hk3 hb3;refine wpAnyIn_ready (rs:=[5]) (by kernel_rfl) (by simp) ?_;refine AllReadyIn.cons rfl (λKK hKK=>?_) AllReadyIn.nil;go_simp;refine hKK _ _ ?_;clear hKK KK;refine wpAnyIn_ready (rs:=[9]) (by kernel_rfl) (by simp) ?_;refine AllReadyIn.cons rfl (λKK hKK=>?_) AllReadyIn.nil;go_simp;refine⟨trivial,λh=>(by cases h),?_⟩;refine(HREC.out _ hJ3 hkW).mono ?_;rintro e W4 (⟨rfl,zs,hzs,hJ4,hk4⟩ | ⟨rfl,zs,hzs,hx4⟩)
        ·refine hKK _ _ ?_
         clear hKK KK;refine wpAnyIn_ready (rs:=[10]) (by kernel_rfl) (by simp) ?_;refine AllReadyIn.cons rfl (λKK hKK=>?_) AllReadyIn.nil;go_simp;refine hKK _ _ ?_;clear hKK KK;refine wpAnyIn_ready (rs:=[11]) (by kernel_rfl) (by simp) ?_;refine AllReadyIn.cons rfl (λKK hKK=>?_) AllReadyIn.nil;go_simp;refine hKK _ _ ?_;clear hKK KK;refine wpAnyIn_done (by kernel_rfl) ?_ _
         gi_wp2
         exact⟨⟨j+1,ys++[x]++zs,by omega,by go_num,HCONT.out zs hzs,by simpa[A41] using hJ4,hkW.t hk4⟩,by simp[intOf];omega⟩
        ·refine hKK _ _ ?_
         clear hKK KK;refine wpAnyIn_ready (rs:=[10]) (by kernel_rfl) (by simp) ?_;refine AllReadyIn.cons rfl (λKK hKK=>?_) AllReadyIn.nil;go_simp;refine hKK _ _ ?_;clear hKK KK;refine wpAnyIn_ready (rs:=[11]) (by kernel_rfl) (by simp) ?_;refine AllReadyIn.cons rfl (λKK hKK=>?_) AllReadyIn.nil;go_simp;refine hKK _ _ ?_;clear hKK KK;refine wpAnyIn_done (by kernel_rfl) ?_ _
         gi_wp2
         go_ret;exact .inr ⟨rfl,ys++[x]++zs,HPRE.out zs hzs,by simpa[A41] using hx4⟩
       exact AllReadyIn.nil
     ·refine wpAnyIn_ready (rs:=[8]) (by kernel_rfl) (by simp) ?_
      refine AllReadyIn.cons rfl (λKK hKK=>?_) AllReadyIn.nil;go_simp;refine⟨trivial,λh=>(by cases h),?_⟩;refine(callsIn_wide.2 (Aix _ _ _ _ _ _ _ _ _ rfl _)).mono ?_;rintro e W3 ⟨rfl,hb3⟩;refine hKK _ _ ?_;clear hKK KK;have h1:=(hb3.cell (p:=⟨B,0,none⟩) (Bo f1)).trans f1;have hJ3:=HJJ.out _ _ _ hJ3 hb3;have hkW:=HKW.out _ _ hk3 hb3;refine wpAnyIn_ready (rs:=[9]) (by kernel_rfl) (by simp) ?_;refine AllReadyIn.cons rfl (λKK hKK=>?_) AllReadyIn.nil;go_simp;refine⟨trivial,λh=>(by cases h),?_⟩;refine(HREC.out _ hJ3 hkW).mono ?_;rintro e W4 (⟨rfl,zs,hzs,hJ4,hk4⟩ | ⟨rfl,zs,hzs,hx4⟩)
      ·refine hKK _ _ ?_
       clear hKK KK;refine wpAnyIn_ready (rs:=[10]) (by kernel_rfl) (by simp) ?_;refine AllReadyIn.cons rfl (λKK hKK=>?_) AllReadyIn.nil;go_simp;refine hKK _ _ ?_;clear hKK KK;refine wpAnyIn_ready (rs:=[11]) (by kernel_rfl) (by simp) ?_;refine AllReadyIn.cons rfl (λKK hKK=>?_) AllReadyIn.nil;go_simp;refine hKK _ _ ?_;clear hKK KK;refine wpAnyIn_done (by kernel_rfl) ?_ _
       gi_wp2
       exact⟨⟨j+1,ys++[x]++zs,by omega,by go_num,HCONT.out zs hzs,by simpa[A41] using hJ4,hkW.t hk4⟩,by simp[intOf];omega⟩
      ·refine hKK _ _ ?_
       clear hKK KK;refine wpAnyIn_ready (rs:=[10]) (by kernel_rfl) (by simp) ?_;refine AllReadyIn.cons rfl (λKK hKK=>?_) AllReadyIn.nil;go_simp;refine hKK _ _ ?_;clear hKK KK;refine wpAnyIn_ready (rs:=[11]) (by kernel_rfl) (by simp) ?_;refine AllReadyIn.cons rfl (λKK hKK=>?_) AllReadyIn.nil;go_simp;refine hKK _ _ ?_;clear hKK KK;refine wpAnyIn_done (by kernel_rfl) ?_ _
       gi_wp2
       go_ret;exact .inr ⟨rfl,ys++[x]++zs,HPRE.out zs hzs,by simpa[A41] using hx4⟩
    ·refine hKK _ _ ?_
     clear hKK KK;refine wpAnyIn_ready (rs:=[3]) (by kernel_rfl) (by simp) ?_;refine AllReadyIn.cons rfl (λKK hKK=>?_) AllReadyIn.nil;go_simp;refine hKK _ _ ?_;clear hKK KK;refine wpAnyIn_ready (rs:=[4]) (by kernel_rfl) (by simp) ?_;refine AllReadyIn.cons rfl (λKK hKK=>?_) AllReadyIn.nil;go_simp;refine hKK _ _ ?_;clear hKK KK;refine wpAnyIn_take (i:=5) (v:=undef) rfl rfl (by kernel_rfl) (by kernel_rfl) (by kernel_rfl) (λ_ _ _ h=>h) ⟨Or.inr ⟨by rfl,rfl⟩,λ_=>rfl⟩ ?_;refine wpAnyIn_take (i:=6) (v:=undef) rfl rfl (by kernel_rfl) (by kernel_rfl) (by kernel_rfl) (λ_ _ _ h=>h) ⟨Or.inr ⟨by rfl,rfl⟩,λ_=>rfl⟩ ?_;refine wpAnyIn_take (i:=7) (v:=undef) rfl rfl (by kernel_rfl) (by kernel_rfl) (by kernel_rfl) (λ_ _ _ h=>h) ⟨Or.inr ⟨by rfl,rfl⟩,λ_=>rfl⟩ ?_;refine wpAnyIn_take (i:=8) (v:=undef) rfl rfl (by kernel_rfl) (by kernel_rfl) (by kernel_rfl) (λ_ _ _ h=>h) ⟨Or.inr ⟨by rfl,rfl⟩,λ_=>rfl⟩ ?_;refine wpAnyIn_take (i:=9) (v:=undef) rfl rfl (by kernel_rfl) (by kernel_rfl) (by kernel_rfl) (λ_ _ _ h=>h) ⟨Or.inr ⟨by rfl,rfl⟩,λ_=>rfl⟩ ?_;refine wpAnyIn_take (i:=10) (v:=undef) rfl rfl (by kernel_rfl) (by kernel_rfl) (by kernel_rfl) (λ_ _ _ h=>h) ⟨Or.inr ⟨by rfl,rfl⟩,λ_=>rfl⟩ ?_;refine wpAnyIn_ready (rs:=[11]) (by kernel_rfl) (by simp) ?_;refine AllReadyIn.cons rfl (λKK hKK=>?_) AllReadyIn.nil;go_simp;refine hKK _ _ ?_;clear hKK KK;refine wpAnyIn_done (by kernel_rfl) ?_ _
     gi_wp2
     go_ret;exact .inr ⟨rfl,ys++[x],HPRE1.out,by simpa[A41] using hx3⟩
  ·gi_wp2
   go_ret;refine .inl ⟨rfl,ys,?_,hJ1,hk⟩;rw[hys,A48 (by omega)]
end Go.Proofs.YtbfljjcnbbmoaaaGreatDoor
namespace Go.Proofs.YtbfljjcnbbmoaaaGreatDoor
open Stil
open Go.RowKit Go.Sort Go.BigFrame Go.Shelf
attribute [local go_sem] Oper.semAt_some
theorem Ahd.keep {l Y B K:Nat} {C:Nat->Prop} {W W':World} (h:Ahd l Y B K W) (hY:¬C Y) (hB:¬C B) (hK:¬C K) (hk:I5 C W W'):Ahd l Y B K W':=⟨hk.cell hY h.1,hk.cell hB h.2.1,hk.cell hK h.2.2⟩
theorem Ae7 (w:World) (P:Stil.Arm->Prop) (C:Nat->Prop) (hC:∀k,C k->w.heap.size<=k) (M l Y B K N:Nat) (hCM:∀k,C k->k<M) (hYC:¬C Y) (hBC:¬C B) (hKC:¬C K) (J Jx:List (O8 w P)->World->Prop)
  (hJ:∀s W W',J s W->Below W.heap.size W W'->J s W')
  (hY:∀m pre (x:O8 w P) W,J pre W->pre.length<N->YieldAt Fence.wide m Tryz.prog l #[.agg #[.int .i64 x.arm.net.kind, .int .i64 x.arm.net.one.op,x.av,x.nv,x.cv,x.kv]] W λe W'=>
   (e=.returned (.bool true)/\J (pre++[x]) W'/\Kept w.heap.size C W W')\/(e=.returned (.bool false)/\Jx (pre++[x]) W'))
  (es:List Stil.Arm) (hl:es.length<=1048576) (hf:∀x∈es,P x) (ih:∀x∈es,Abn w P C M l Y B K N J Jx x.kids):Abn w P C M l Y B K N J Jx es:=by
 intro m v pre W hs hbx hj hb hM hN;have HS:=hid (λW' (h:I5 C W W')=>hs.keep h);have HBX:=hid (λW' (h:I5 C W W')=>hbx.keep hYC hBC hKC h);have HYY:=hid hY;have HJJ:=hid hJ;have IH:=hid ih;have HN:=hid hN;have HB:=hid hb;obtain⟨a,cap,rfl,_⟩:=hs;clear hJ hY ih hN hb hbx;refine callsIn_of_wp Tryz.func139 rfl trivial ?_ rfl;simp only[Tryz.ntmps139,A4g,A4e,A4f,Nat.reduceAdd,Nat.reduceSub,A46,A47,A5c,A49,A44,A43]
 gi_wp2
 gi_loopw [10] (λi wr=>∃(j:Nat) (ys:List (O8 w P)),j<=es.length/\i=.int .i64 j/\ys.map O8.arm=Dx (es.take j)/\J (pre++ys) wr/\Kept w.heap.size C W wr) (λi _=>es.length - (intOf i).toNat)
 case atStart=>exact⟨0,[],by omega,rfl,by simp[Dx],by simpa using hj,Kept.refl _ _ _⟩
 case round=>
  obtain⟨j,ys,hjl,rfl,hys,hJ1,hk⟩:=hrel;by_cases hlt:j<es.length
  ·obtain⟨a',cap',hv,hcs⟩:=HS.out wr hk.2
   obtain⟨b,o,rfl,hCb,av,nv,cv,kv,x0,x1,x2,x3,x4,x5,hav,hnv,hcv,hkv⟩:=hcs j hlt;simp only[Value.slice.injEq,true_and] at hv;obtain⟨rfl,rfl⟩:=hv;obtain⟨b0,b1,b2⟩:=HBX.out wr hk.2;have hpl:(pre++ys).length<N:=by
    have h1:=HN.out;have h2:ys.length=(Dx (es.take j)).length:=by rw[<-hys,A4t]
    have h3:=(Yd es (j+1)).length_le;rw[Q9 es j hlt] at h3;simp only[A4d,A4e] at h3 ⊢;omega
   obtain⟨p0,r0,e0,_⟩:=id hav;obtain⟨p2,r2,e2,_⟩:=id hnv;obtain⟨p3,r3,e3,_⟩:=id hcv;obtain⟨p1,r1,e1,_⟩:=id hkv;have hval:∀x:O8 w P,x=⟨es[j],av,nv,cv,kv,hav,hnv,hcv,hkv,hf _ (A4k hlt)⟩->∀W1,J (pre++ys) W1->YieldAt Fence.wide (m - 1) Tryz.prog l #[.agg #[.int .i64 es[j].net.kind, .int .i64 es[j].net.one.op, .slice p0 es[j].net.one.args.length r0, .slice p2 es[j].net.kids.length r2, .slice p3 es[j].coils.length r3, .slice p1 es[j].kids.length r1]] W1 λe W'=>
     (e=.returned (.bool true)/\J (pre++ys++[x]) W'/\Kept w.heap.size C W1 W')\/(e=.returned (.bool false)/\Jx (pre++ys++[x]) W'):=by
    intro x hx W1 hj1;have:=HYY.out (m - 1) (pre++ys) x W1 hj1 hpl
    rw[hx] at this ⊢;simp only[e0,e1,e2,e3] at this ⊢;exact this
   obtain⟨x,hx⟩:∃x:O8 w P,x=⟨es[j],av,nv,cv,kv,hav,hnv,hcv,hkv,hf _ (A4k hlt)⟩:=⟨_,rfl⟩
   have HV:=hid (hval x hx);have HXN:Hid (x.arm=es[j]):=by show _=_;rw[hx]
   have HKID:=hid hkv;clear hval hx;obtain⟨y,hy⟩:∃y,y=es[j]:=⟨_,rfl⟩
   rw[<-hy] at x0 x1 HV HXN HKID e0 e1 e2 e3;have HY2:=hid hy;rw[e0] at x2;rw[e2] at x3;rw[e3] at x4;rw[e1] at x5 HKID;clear hav hnv hcv hkv e0 e1 e2 e3 hy;have hZ:¬C wr.heap.size:=λh=>by have:=hCM _ h;have:=hk.2.size;omega
   have hYz:=Bo b0;have hBz:=Bo b1;have hKz:=Bo b2
   gi_wp2
   obtain⟨W1,hW1⟩:∃W1,W1=wr.alloc (.cells #[.int .i64 y.net.kind, .int .i64 y.net.one.op, .slice p0 y.net.one.args.length r0, .slice p2 y.net.kids.length r2, .slice p3 y.coils.length r3, .slice p1 y.kids.length r1] 55):=⟨_,rfl⟩
   rw[<-hW1];have c0:W1.cell? ⟨Y,0,none⟩=some (.func (.yield l) #[] #[]):=by rw[hW1];simp[go_sem,b0,hYz]
   have c1:W1.cell? ⟨B,0,none⟩=some (.func (.func 139) #[] #[.pointer (some ⟨Y,0,none⟩), .pointer (some ⟨B,0,none⟩), .pointer (some ⟨K,0,none⟩)]):=by rw[hW1];simp[go_sem,b1,hBz]
   have c2:W1.cell? ⟨K,0,none⟩=some (.func (.func 134) #[] #[]):=by rw[hW1];simp[go_sem,b2,hKz]
   obtain⟨z,hz⟩:∃z,z=wr.heap.size:=⟨_,rfl⟩
   rw[<-hz] at hZ ⊢;have d0:W1.cell? ⟨z,0,none⟩=some (.int .i64 y.net.kind):=by rw[hW1,hz];simp[go_sem]
   have d1:W1.cell? ⟨z,1,none⟩=some (.int .i64 y.net.one.op):=by rw[hW1,hz];simp[go_sem]
   have d2:W1.cell? ⟨z,2,none⟩=some (.slice p0 y.net.one.args.length r0):=by rw[hW1,hz];simp[go_sem]
   have d3:W1.cell? ⟨z,3,none⟩=some (.slice p2 y.net.kids.length r2):=by rw[hW1,hz];simp[go_sem]
   have d4:W1.cell? ⟨z,4,none⟩=some (.slice p3 y.coils.length r3):=by rw[hW1,hz];simp[go_sem]
   have d5:W1.cell? ⟨z,5,none⟩=some (.slice p1 y.kids.length r1):=by rw[hW1,hz];simp[go_sem]
   have hb1:Below wr.heap.size wr W1:=by rw[hW1];exact Aa _ _
   have hk1:=hk.t (Kept.of_below (A4p HB.out.size hk.1.size) hb1);have hJ2:=HJJ.out _ _ _ hJ1 hb1.drew;clear hW1 hb1 b0 b1 b2 x0 x1 x2 x3 x4 x5 hYz hBz hKz hJ1 hk hz;obtain⟨fn,tmps,assign,body,hyd,hR⟩:=HV.out W1.drew hJ2;clear HV hJ2;have HRR:Hid (∀(e:Ending) (W2:World),(e=.returned (.bool true)/\J (pre++ys++[x]) W2/\Kept w.heap.size C W1.drew W2)->W2.cell? ⟨B,0,none⟩=some (.func (.func 139) #[] #[.pointer (some ⟨Y,0,none⟩), .pointer (some ⟨B,0,none⟩), .pointer (some ⟨K,0,none⟩)])/\W2.cell? ⟨K,0,none⟩=some (.func (.func 134) #[] #[])/\
     W2.cell? ⟨z,0,none⟩=some (.int .i64 y.net.kind)/\W2.cell? ⟨z,1,none⟩=some (.int .i64 y.net.one.op)/\W2.cell? ⟨z,2,none⟩=some (.slice p0 y.net.one.args.length r0)/\W2.cell? ⟨z,3,none⟩=some (.slice p2 y.net.kids.length r2)/\W2.cell? ⟨z,4,none⟩=some (.slice p3 y.coils.length r3)/\W2.cell? ⟨z,5,none⟩=some (.slice p1 y.kids.length r1)):=
    λe W2 h=>⟨h.2.2.2.cell hBC c1,h.2.2.2.cell hKC c2,h.2.2.2.cell hZ d0,h.2.2.2.cell hZ d1,h.2.2.2.cell hZ d2,h.2.2.2.cell hZ d3,h.2.2.2.cell hZ d4,h.2.2.2.cell hZ d5⟩
   have HKW:Hid (∀W2 W3,Kept w.heap.size C W1.drew W2->Below W2.heap.size W2 W3->Kept w.heap.size C W W3):=λW2 W3 h2 h3=>
    ((hk1.t ⟨(Below.refl _ _).drew,(I5.refl _ _).drew⟩).t h2).t (Kept.of_below (A4p (A4p HB.out.size hk1.1.size) h2.1.size) h3)
   have HREC:Hid (∀W3,J (pre++ys++[x]) W3->Kept w.heap.size C W W3->CallsIn Fence.wide (m - 1) Tryz.prog 139 #[.slice p1 y.kids.length r1, .pointer (some ⟨Y,0,none⟩), .pointer (some ⟨B,0,none⟩), .pointer (some ⟨K,0,none⟩)] W3 λe W'=>
     (e=.returned (.bool true)/\∃zs:List (O8 w P),zs.map O8.arm=Dx y.kids/\J (pre++ys++[x]++zs) W'/\Kept w.heap.size C W3 W')\/
     (e=.returned (.bool false)/\∃zs:List (O8 w P),zs.map O8.arm<+:Dx y.kids/\Jx (pre++ys++[x]++zs) W')):=by
    intro W3 hj3 hk3;have hbw:=HB.out.trans hk3.1;refine IH.out y (by rw[HY2.out];exact A4k hlt) (m - 1) _ _ W3 (Mc.of_at HKID.out hbw hC) (HBX.out W3 hk3.2) hj3 hbw (A4p hM hk3.2.size) ?_;have h1:=HN.out;have h2:ys.length=(Dx (es.take j)).length:=by rw[<-hys,A4t]
    have h3:=(Yd es (j+1)).length_le;rw[Q9 es j hlt,<-HY2.out] at h3;simp only[A4d,A4e,A4f] at h3 ⊢;omega
   have HCONT:Hid (∀zs:List (O8 w P),zs.map O8.arm=Dx y.kids->(ys++[x]++zs).map O8.arm=Dx (es.take (j+1))):=by
    intro zs hzs;rw[Q9 es j hlt,A4r,A4r,hys,hzs,<-HY2.out];simp[HXN.out]
   have HPRE:Hid (∀zs:List (O8 w P),zs.map O8.arm<+:Dx y.kids->(ys++[x]++zs).map O8.arm<+:Dx es):=by
    intro zs hzs;refine List.IsPrefix.trans ?_ (Yd es (j+1));rw[Q9 es j hlt,A4r,A4r,hys,<-HY2.out];obtain⟨t,ht⟩:=hzs;exact⟨t,by simp[HXN.out,<-ht]⟩
   have HPRE1:Hid ((ys++[x]).map O8.arm<+:Dx es):=by
    show _<+:_
    have:=HPRE.out [] (by simp)
    simpa using this
   refine wpIn_region_any (by kernel_rfl) ?_;try (change wpAnyIn _ _ _ _ _ _ _ _ _ (World.drew _))
   apply share
   ·intro key0
    refine wpAnyIn_ready (rs:=[0,1]) (by kernel_rfl) (by simp) ?_;refine AllReadyIn.cons rfl (λKK hKK=>?_) ?_
    ·go_simp
     refine hKK _ _ ?_;clear hKK KK;refine wpAnyIn_ready (rs:=[1]) (by kernel_rfl) (by simp) ?_;refine AllReadyIn.cons rfl (λKK hKK=>?_) AllReadyIn.nil;go_simp;refine hKK _ _ ?_;clear hKK KK;exact key0
    refine AllReadyIn.cons rfl (λKK hKK=>?_) ?_
    ·go_simp
     refine hKK _ _ ?_;clear hKK KK;refine wpAnyIn_ready (rs:=[0]) (by kernel_rfl) (by simp) ?_;refine AllReadyIn.cons rfl (λKK hKK=>?_) AllReadyIn.nil;go_simp;refine hKK _ _ ?_;clear hKK KK;exact key0
    exact AllReadyIn.nil
   ·refine wpAnyIn_ready (rs:=[2]) (by kernel_rfl) (by simp) ?_
    refine AllReadyIn.cons rfl (λKK hKK=>?_) AllReadyIn.nil;go_simp;refine⟨λh=>(by cases h),?_⟩;refine hR.mono ?_;rintro e W2 (⟨rfl,hJ3,hk3⟩ | ⟨rfl,hx3⟩)
    ·refine hKK _ _ ?_
     clear hKK KK;obtain⟨f1,f2,g0,g1,g2,g3,g4,g5⟩:=HRR.out _ _ ⟨rfl,hJ3,hk3⟩;apply share
     ·intro key1
      apply share
      ·intro key2
       refine wpAnyIn_ready (rs:=[3]) (by kernel_rfl) (by simp) ?_;refine AllReadyIn.cons rfl (λKK hKK=>?_) AllReadyIn.nil;go_simp;refine hKK _ _ ?_;clear hKK KK;refine wpAnyIn_ready (rs:=[4]) (by kernel_rfl) (by simp) ?_;refine AllReadyIn.cons rfl (λKK hKK=>?_) AllReadyIn.nil;go_simp;refine hKK _ _ ?_;clear hKK KK;refine wpAnyIn_ready (rs:=[5,6,7]) (by kernel_rfl) (by simp) ?_;refine AllReadyIn.cons rfl (λKK hKK=>?_) ?_
       ·go_simp
        refine hKK _ _ ?_;clear hKK KK;refine wpAnyIn_ready (rs:=[6,7]) (by kernel_rfl) (by simp) ?_;refine AllReadyIn.cons rfl (λKK hKK=>?_) ?_
        ·go_simp
         refine hKK _ _ ?_;clear hKK KK;refine wpAnyIn_ready (rs:=[7]) (by kernel_rfl) (by simp) ?_;refine AllReadyIn.cons rfl (λKK hKK=>?_) AllReadyIn.nil;go_simp;refine hKK _ _ ?_;clear hKK KK;exact key1
        refine AllReadyIn.cons rfl (λKK hKK=>?_) ?_
        ·go_simp
         refine hKK _ _ ?_;clear hKK KK;refine wpAnyIn_ready (rs:=[6]) (by kernel_rfl) (by simp) ?_;refine AllReadyIn.cons rfl (λKK hKK=>?_) AllReadyIn.nil;go_simp;refine hKK _ _ ?_;clear hKK KK;exact key1
        exact AllReadyIn.nil
       refine AllReadyIn.cons rfl (λKK hKK=>?_) ?_
       ·go_simp
        refine hKK _ _ ?_;clear hKK KK;refine wpAnyIn_ready (rs:=[5,7]) (by kernel_rfl) (by simp) ?_;refine AllReadyIn.cons rfl (λKK hKK=>?_) ?_
        ·go_simp
         refine hKK _ _ ?_;clear hKK KK;refine wpAnyIn_ready (rs:=[7]) (by kernel_rfl) (by simp) ?_;refine AllReadyIn.cons rfl (λKK hKK=>?_) AllReadyIn.nil;go_simp;refine hKK _ _ ?_;clear hKK KK;exact key1
        refine AllReadyIn.cons rfl (λKK hKK=>?_) ?_
        ·go_simp
         refine hKK _ _ ?_;clear hKK KK;exact key2
        exact AllReadyIn.nil
       refine AllReadyIn.cons rfl (λKK hKK=>?_) ?_
       ·go_simp
        refine hKK _ _ ?_;clear hKK KK;refine wpAnyIn_ready (rs:=[5,6]) (by kernel_rfl) (by simp) ?_;refine AllReadyIn.cons rfl (λKK hKK=>?_) ?_
        ·go_simp
         refine hKK _ _ ?_;clear hKK KK;refine wpAnyIn_ready (rs:=[6]) (by kernel_rfl) (by simp) ?_;refine AllReadyIn.cons rfl (λKK hKK=>?_) AllReadyIn.nil;go_simp;refine hKK _ _ ?_;clear hKK KK;exact key1
        refine AllReadyIn.cons rfl (λKK hKK=>?_) ?_
        ·go_simp
         refine hKK _ _ ?_;clear hKK KK;exact key2
        exact AllReadyIn.nil
       exact AllReadyIn.nil
      ·refine wpAnyIn_ready (rs:=[5,8]) (by kernel_rfl) (by simp) ?_
       refine AllReadyIn.cons rfl (λKK hKK=>?_) ?_
       ·go_simp
        refine hKK _ _ ?_;clear hKK KK;exact key1
       refine AllReadyIn.cons rfl (λKK hKK=>?_) ?_
       ·go_simp
        refine⟨trivial,λh=>(by cases h),?_⟩;refine(callsIn_wide.2 (Aiz _ _ _ _ _ _ _ _ _ _ _ _ _ _ _)).mono ?_;rintro e W3 ⟨rfl,hb3⟩;refine hKK _ _ ?_;clear hKK KK;have h1:=(hb3.cell (p:=⟨B,0,none⟩) (Bo f1)).trans f1;have hJ3:=HJJ.out _ _ _ hJ3 hb3;have hkW:=HKW.out _ _ hk3 hb3;refine wpAnyIn_ready (rs:=[5]) (by kernel_rfl) (by simp) ?_;refine AllReadyIn.cons rfl (λKK hKK=>?_) AllReadyIn.nil;go_simp;refine hKK _ _ ?_;clear hKK KK;refine wpAnyIn_ready (rs:=[9]) (by kernel_rfl) (by simp) ?_;refine AllReadyIn.cons rfl (λKK hKK=>?_) AllReadyIn.nil;go_simp;refine⟨trivial,λh=>(by cases h),?_⟩;refine(HREC.out _ hJ3 hkW).mono ?_;rintro e W4 (⟨rfl,zs,hzs,hJ4,hk4⟩ | ⟨rfl,zs,hzs,hx4⟩)
        ·refine hKK _ _ ?_
         clear hKK KK;refine wpAnyIn_ready (rs:=[10]) (by kernel_rfl) (by simp) ?_;refine AllReadyIn.cons rfl (λKK hKK=>?_) AllReadyIn.nil;go_simp;refine hKK _ _ ?_;clear hKK KK;refine wpAnyIn_ready (rs:=[11]) (by kernel_rfl) (by simp) ?_;refine AllReadyIn.cons rfl (λKK hKK=>?_) AllReadyIn.nil;go_simp;refine hKK _ _ ?_;clear hKK KK;refine wpAnyIn_done (by kernel_rfl) ?_ _
         gi_wp2
         exact⟨⟨j+1,ys++[x]++zs,by omega,by go_num,HCONT.out zs hzs,by simpa[A41] using hJ4,hkW.t hk4⟩,by simp[intOf];omega⟩
        ·refine hKK _ _ ?_
         clear hKK KK;refine wpAnyIn_ready (rs:=[10]) (by kernel_rfl) (by simp) ?_;refine AllReadyIn.cons rfl (λKK hKK=>?_) AllReadyIn.nil;go_simp;refine hKK _ _ ?_;clear hKK KK;refine wpAnyIn_ready (rs:=[11]) (by kernel_rfl) (by simp) ?_;refine AllReadyIn.cons rfl (λKK hKK=>?_) AllReadyIn.nil;go_simp;refine hKK _ _ ?_;clear hKK KK;refine wpAnyIn_done (by kernel_rfl) ?_ _
         gi_wp2
         go_ret;exact .inr ⟨rfl,ys++[x]++zs,HPRE.out zs hzs,by simpa[A41] using hx4⟩
       exact AllReadyIn.nil
     ·refine wpAnyIn_ready (rs:=[8]) (by kernel_rfl) (by simp) ?_
      refine AllReadyIn.cons rfl (λKK hKK=>?_) AllReadyIn.nil;go_simp;refine⟨trivial,λh=>(by cases h),?_⟩;refine(callsIn_wide.2 (Aiz _ _ _ _ _ _ _ _ _ _ _ _ _ _ _)).mono ?_;rintro e W3 ⟨rfl,hb3⟩;refine hKK _ _ ?_;clear hKK KK;have h1:=(hb3.cell (p:=⟨B,0,none⟩) (Bo f1)).trans f1;have hJ3:=HJJ.out _ _ _ hJ3 hb3;have hkW:=HKW.out _ _ hk3 hb3;refine wpAnyIn_ready (rs:=[9]) (by kernel_rfl) (by simp) ?_;refine AllReadyIn.cons rfl (λKK hKK=>?_) AllReadyIn.nil;go_simp;refine⟨trivial,λh=>(by cases h),?_⟩;refine(HREC.out _ hJ3 hkW).mono ?_;rintro e W4 (⟨rfl,zs,hzs,hJ4,hk4⟩ | ⟨rfl,zs,hzs,hx4⟩)
      ·refine hKK _ _ ?_
       clear hKK KK;refine wpAnyIn_ready (rs:=[10]) (by kernel_rfl) (by simp) ?_;refine AllReadyIn.cons rfl (λKK hKK=>?_) AllReadyIn.nil;go_simp;refine hKK _ _ ?_;clear hKK KK;refine wpAnyIn_ready (rs:=[11]) (by kernel_rfl) (by simp) ?_;refine AllReadyIn.cons rfl (λKK hKK=>?_) AllReadyIn.nil;go_simp;refine hKK _ _ ?_;clear hKK KK;refine wpAnyIn_done (by kernel_rfl) ?_ _
       gi_wp2
       exact⟨⟨j+1,ys++[x]++zs,by omega,by go_num,HCONT.out zs hzs,by simpa[A41] using hJ4,hkW.t hk4⟩,by simp[intOf];omega⟩
      ·refine hKK _ _ ?_
       clear hKK KK;refine wpAnyIn_ready (rs:=[10]) (by kernel_rfl) (by simp) ?_;refine AllReadyIn.cons rfl (λKK hKK=>?_) AllReadyIn.nil;go_simp;refine hKK _ _ ?_;clear hKK KK;refine wpAnyIn_ready (rs:=[11]) (by kernel_rfl) (by simp) ?_;refine AllReadyIn.cons rfl (λKK hKK=>?_) AllReadyIn.nil;go_simp;refine hKK _ _ ?_;clear hKK KK;refine wpAnyIn_done (by kernel_rfl) ?_ _
       gi_wp2
       go_ret;exact .inr ⟨rfl,ys++[x]++zs,HPRE.out zs hzs,by simpa[A41] using hx4⟩
    ·refine hKK _ _ ?_
     clear hKK KK;refine wpAnyIn_ready (rs:=[3]) (by kernel_rfl) (by simp) ?_;refine AllReadyIn.cons rfl (λKK hKK=>?_) AllReadyIn.nil;go_simp;refine hKK _ _ ?_;clear hKK KK;refine wpAnyIn_ready (rs:=[4]) (by kernel_rfl) (by simp) ?_;refine AllReadyIn.cons rfl (λKK hKK=>?_) AllReadyIn.nil;go_simp;refine hKK _ _ ?_;clear hKK KK;refine wpAnyIn_take (i:=5) (v:=undef) rfl rfl (by kernel_rfl) (by kernel_rfl) (by kernel_rfl) (λ_ _ _ h=>h) ⟨Or.inr ⟨by rfl,rfl⟩,λ_=>rfl⟩ ?_;refine wpAnyIn_take (i:=6) (v:=undef) rfl rfl (by kernel_rfl) (by kernel_rfl) (by kernel_rfl) (λ_ _ _ h=>h) ⟨Or.inr ⟨by rfl,rfl⟩,λ_=>rfl⟩ ?_;refine wpAnyIn_take (i:=7) (v:=undef) rfl rfl (by kernel_rfl) (by kernel_rfl) (by kernel_rfl) (λ_ _ _ h=>h) ⟨Or.inr ⟨by rfl,rfl⟩,λ_=>rfl⟩ ?_;refine wpAnyIn_take (i:=8) (v:=undef) rfl rfl (by kernel_rfl) (by kernel_rfl) (by kernel_rfl) (λ_ _ _ h=>h) ⟨Or.inr ⟨by rfl,rfl⟩,λ_=>rfl⟩ ?_;refine wpAnyIn_take (i:=9) (v:=undef) rfl rfl (by kernel_rfl) (by kernel_rfl) (by kernel_rfl) (λ_ _ _ h=>h) ⟨Or.inr ⟨by rfl,rfl⟩,λ_=>rfl⟩ ?_;refine wpAnyIn_take (i:=10) (v:=undef) rfl rfl (by kernel_rfl) (by kernel_rfl) (by kernel_rfl) (λ_ _ _ h=>h) ⟨Or.inr ⟨by rfl,rfl⟩,λ_=>rfl⟩ ?_;refine wpAnyIn_ready (rs:=[11]) (by kernel_rfl) (by simp) ?_;refine AllReadyIn.cons rfl (λKK hKK=>?_) AllReadyIn.nil;go_simp;refine hKK _ _ ?_;clear hKK KK;refine wpAnyIn_done (by kernel_rfl) ?_ _
     gi_wp2
     go_ret;exact .inr ⟨rfl,ys++[x],HPRE1.out,by simpa[A41] using hx3⟩
  ·gi_wp2
   go_ret;refine .inl ⟨rfl,ys,?_,hJ1,hk⟩;rw[hys,A48 (by omega)]
end Go.Proofs.YtbfljjcnbbmoaaaGreatDoor
namespace Go.Proofs.YtbfljjcnbbmoaaaGreatDoor
open Stil
open Go.RowKit Go.Sort Go.BigFrame Go.Shelf
theorem Agc (w:World) (P:Stil.Net->Prop) (hP:∀x,P x->x.kids.length<=1048576/\∀y∈x.kids,P y) (C:Nat->Prop) (hC:∀k,C k->w.heap.size<=k) (M l Y B K N:Nat) (hCM:∀k,C k->k<M) (hYC:¬C Y) (hBC:¬C B) (hKC:¬C K) (J Jx:List (Qp w P)->World->Prop)
  (hJ:∀s W W',J s W->Below W.heap.size W W'->J s W')
  (hY:∀m pre (x:Qp w P) W,J pre W->pre.length<N->YieldAt Fence.wide m Tryz.prog l #[.agg #[.int .i64 x.net.kind, .int .i64 x.net.one.op,x.av,x.kv]] W λe W'=>(e=.returned (.bool true)/\J (pre++[x]) W'/\Kept w.heap.size C W W')\/(e=.returned (.bool false)/\Jx (pre++[x]) W'))
  (es:List Stil.Net) (hl:es.length<=1048576) (hf:∀x∈es,P x):Abm w P C M l Y B K N J Jx es:=by
 refine Ae6 w P C hC M l Y B K N hCM hYC hBC hKC J Jx hJ hY es hl hf (λx hx=>?_);have key:∀n:Stil.Net,P n->Abm w P C M l Y B K N J Jx n.kids:=by
  intro n;induction n using Fg with
  | h a b kids ih=>
   intro hp;have hq:=hP _ hp;exact Ae6 w P C hC M l Y B K N hCM hYC hBC hKC J Jx hJ hY kids hq.1 hq.2 (λy hy=>ih y hy (hq.2 y hy))
 exact key x (hf x hx)
theorem Ait (w:World) (P:Stil.Net->Prop) (hP:∀x,P x->x.kids.length<=1048576/\∀y∈x.kids,P y) (C:Nat->Prop) (hC:∀k,C k->w.heap.size<=k) (M A K:Nat) (hCM:∀k,C k->k<M) (hKC:¬C K) (_hAC:¬C A) (es:List Stil.Net) (hl:es.length<=1048576) (hf:∀x∈es,P x) (v:Value) (w0:World)
  (hw0:Below w.heap.size w w0) (hMw:M<=w0.heap.size) (hs:N9 w C w0 v es) (hA:w0.cell? ⟨A,0,none⟩=some v) (hK:w0.cell? ⟨K,0,none⟩=some (.func (.func 141) #[] #[])) (n:Nat):
  SeqStopsK Fence.wide n Tryz.prog 146 #[.pointer (some ⟨K,0,none⟩), .pointer (some ⟨A,0,none⟩)] (λx:Qp w P=>#[Value.agg #[.int .i64 x.net.kind, .int .i64 x.net.one.op,x.av,x.kv]]) (Kept w.heap.size C) (λys=>ys.map Qp.net=Ec es) (λpre=>pre.map Qp.net<+:Ec es) (Ec es).length w0:=by
 intro l J Jx W hW hJ _ hY h0;have hmf:∀(fn:Fn) (first cap:Array Value) (w:World),(Instr.makeFunc fn first cap).run Tryz.prog w=.ok (.func fn first cap) w:=λ_ _ _ _=>rfl
 have hst:∀(fn:Fn) (fi ca:Array Value) (P:Program) (w:World) (a:Addr) (m:Mode),(store a (.func fn fi ca) m).run P w=stored P w a (.func fn fi ca) m:=λfn fi ca P w a m=>run_store P w a _ m rfl
 have hAW:=(hW.cell (p:=⟨A,0,none⟩) (Bo hA)).trans hA;have hKW:=(hW.cell (p:=⟨K,0,none⟩) (Bo hK)).trans hK;have hAz:=Bo hAW;have hKz:=Bo hKW;have hsz:=hW.size;have HREC:Hid (∀W2,Below W.heap.size W W2->W2.cell? ⟨W.heap.size,0,none⟩=some (.func (.yield l) #[] #[])->W2.cell? ⟨W.heap.size+1,0,none⟩=some (.func (.func 147) #[] #[.pointer (some ⟨W.heap.size,0,none⟩), .pointer (some ⟨W.heap.size+1,0,none⟩), .pointer (some ⟨K,0,none⟩)])->
   CallsIn Fence.wide (n - 1) Tryz.prog 147 #[v, .pointer (some ⟨W.heap.size,0,none⟩), .pointer (some ⟨W.heap.size+1,0,none⟩), .pointer (some ⟨K,0,none⟩)] W2 λe W'=>
    (e=.returned (.bool true)/\∃ys:List (Qp w P),ys.map Qp.net=Ec es/\J ([]++ys) W'/\Kept w.heap.size C W2 W')\/
    (e=.returned (.bool false)/\∃ys:List (Qp w P),ys.map Qp.net<+:Ec es/\Jx ([]++ys) W')):=by
  intro W2 hb2 hy hbx;have hj:∀(s:List (Qp w P)) (X Y:World),J s X->Below X.heap.size X Y->J s Y:=λs X Y hs hb=>hJ s X Y none hs ⟨hb.os,hb.tape,hb.output,hb.size,λk hk _=>hb.block k hk⟩ (λr e=>by cases e)
  have hw2:=(hw0.trans (hW.mono hw0.size)).trans (hb2.mono (A4p hw0.size hW.size));refine Agc w P hP C hC M l W.heap.size (W.heap.size+1) K (Ec es).length hCM (λh=>by have:=hCM _ h;omega) (λh=>by have:=hCM _ h;omega) hKC J Jx hj (λm pre x X hjx hlx=>YieldAt.anyDepth rfl m (hY pre x X hjx hlx)) es hl hf (n - 1) v [] W2 (hs.keep ((I5.of_below hW).call hb2)) ⟨hy,hbx,(hb2.cell (p:=⟨K,0,none⟩) hKz).trans hKW⟩ (hj _ _ _ h0 hb2) hw2 (A4p hMw (A4p hW.size hb2.size)) (by simp)
 obtain⟨sa,sl,sc,rfl⟩:∃sa sl sc,v=.slice sa sl sc:=by obtain⟨a,cap,hv,_⟩:=hs;exact⟨_,_,_,hv⟩
 clear hY hJ hs hl hf hC hCM;refine callsIn_of_wp Tryz.func146 rfl trivial ?_ rfl;simp only[Tryz.ntmps146,A4g,A4e,A4f,Nat.reduceAdd,Nat.reduceSub,A46,A47,A5c,A49,A44,A43]
 gi_wp2_with (refine⟨trivial,λh=>(by cases h),?_⟩;refine(HREC.out _ blA (by simp[go_sem]) (by simp[go_sem])).mono ?_;rintro e W3 (⟨rfl,ys,hys,hJ3,_⟩ | ⟨rfl,ys,hys,hx3⟩))
 ·go_end0
  exact⟨⟨_,rfl⟩, .inl ⟨ys,hys,by simpa using hJ3⟩⟩
 ·go_end0
  exact⟨⟨_,rfl⟩, .inr ⟨ys,hys,by simpa using hx3⟩⟩
theorem Aln (a:Option Addr) (ln cap:Nat) (w:World):Calls Tryz.prog 140 #[.slice a ln cap, .func (.func 141) #[] #[]] w λe w'=>e=.returned (.func (.func 146) #[] #[.pointer (some ⟨w.heap.size+1,0,none⟩), .pointer (some ⟨w.heap.size,0,none⟩)])/\
  w'.cell? ⟨w.heap.size,0,none⟩=some (.slice a ln cap)/\w'.cell? ⟨w.heap.size+1,0,none⟩=some (.func (.func 141) #[] #[])/\Below w.heap.size w w':=by
 have hmf:∀(fn:Fn) (first cap:Array Value) (w:World),(Instr.makeFunc fn first cap).run Tryz.prog w=.ok (.func fn first cap) w:=λ_ _ _ _=>rfl
 have hst:∀(fn:Fn) (fi ca:Array Value) (P:Program) (w:World) (a:Addr) (m:Mode),(store a (.func fn fi ca) m).run P w=stored P w a (.func fn fi ca) m:=λfn fi ca P w a m=>run_store P w a _ m rfl
 go_enter Tryz.func140,Tryz.ntmps140
 go_wp2
 go_ret;exact⟨rfl,by simp[go_sem],by simp[go_sem],blA⟩
theorem Agd (w:World) (P:Stil.Arm->Prop) (hP:∀x,P x->x.kids.length<=1048576/\∀y∈x.kids,P y) (C:Nat->Prop) (hC:∀k,C k->w.heap.size<=k) (M l Y B K N:Nat) (hCM:∀k,C k->k<M) (hYC:¬C Y) (hBC:¬C B) (hKC:¬C K) (J Jx:List (O8 w P)->World->Prop)
  (hJ:∀s W W',J s W->Below W.heap.size W W'->J s W')
  (hY:∀m pre (x:O8 w P) W,J pre W->pre.length<N->YieldAt Fence.wide m Tryz.prog l #[.agg #[.int .i64 x.arm.net.kind, .int .i64 x.arm.net.one.op,x.av,x.nv,x.cv,x.kv]] W λe W'=>(e=.returned (.bool true)/\J (pre++[x]) W'/\Kept w.heap.size C W W')\/(e=.returned (.bool false)/\Jx (pre++[x]) W'))
  (es:List Stil.Arm) (hl:es.length<=1048576) (hf:∀x∈es,P x):Abn w P C M l Y B K N J Jx es:=by
 refine Ae7 w P C hC M l Y B K N hCM hYC hBC hKC J Jx hJ hY es hl hf (λx hx=>?_);have key:∀n:Stil.Arm,P n->Abn w P C M l Y B K N J Jx n.kids:=by
  intro n;induction n using Fz with
  | h a b kids ih=>
   intro hp;have hq:=hP _ hp;exact Ae7 w P C hC M l Y B K N hCM hYC hBC hKC J Jx hJ hY kids hq.1 hq.2 (λy hy=>ih y hy (hq.2 y hy))
 exact key x (hf x hx)
theorem Aiu (w:World) (P:Stil.Arm->Prop) (hP:∀x,P x->x.kids.length<=1048576/\∀y∈x.kids,P y) (C:Nat->Prop) (hC:∀k,C k->w.heap.size<=k) (M A K:Nat) (hCM:∀k,C k->k<M) (hKC:¬C K) (_hAC:¬C A) (es:List Stil.Arm) (hl:es.length<=1048576) (hf:∀x∈es,P x) (v:Value) (w0:World)
  (hw0:Below w.heap.size w w0) (hMw:M<=w0.heap.size) (hs:Mc w C w0 v es) (hA:w0.cell? ⟨A,0,none⟩=some v) (hK:w0.cell? ⟨K,0,none⟩=some (.func (.func 134) #[] #[])) (n:Nat):
  SeqStopsK Fence.wide n Tryz.prog 138 #[.pointer (some ⟨K,0,none⟩), .pointer (some ⟨A,0,none⟩)] (λx:O8 w P=>#[Value.agg #[.int .i64 x.arm.net.kind, .int .i64 x.arm.net.one.op,x.av,x.nv,x.cv,x.kv]]) (Kept w.heap.size C) (λys=>ys.map O8.arm=Dx es) (λpre=>pre.map O8.arm<+:Dx es) (Dx es).length w0:=by
 intro l J Jx W hW hJ _ hY h0;have hmf:∀(fn:Fn) (first cap:Array Value) (w:World),(Instr.makeFunc fn first cap).run Tryz.prog w=.ok (.func fn first cap) w:=λ_ _ _ _=>rfl
 have hst:∀(fn:Fn) (fi ca:Array Value) (P:Program) (w:World) (a:Addr) (m:Mode),(store a (.func fn fi ca) m).run P w=stored P w a (.func fn fi ca) m:=λfn fi ca P w a m=>run_store P w a _ m rfl
 have hAW:=(hW.cell (p:=⟨A,0,none⟩) (Bo hA)).trans hA;have hKW:=(hW.cell (p:=⟨K,0,none⟩) (Bo hK)).trans hK;have hAz:=Bo hAW;have hKz:=Bo hKW;have hsz:=hW.size;have HREC:Hid (∀W2,Below W.heap.size W W2->W2.cell? ⟨W.heap.size,0,none⟩=some (.func (.yield l) #[] #[])->W2.cell? ⟨W.heap.size+1,0,none⟩=some (.func (.func 139) #[] #[.pointer (some ⟨W.heap.size,0,none⟩), .pointer (some ⟨W.heap.size+1,0,none⟩), .pointer (some ⟨K,0,none⟩)])->
   CallsIn Fence.wide (n - 1) Tryz.prog 139 #[v, .pointer (some ⟨W.heap.size,0,none⟩), .pointer (some ⟨W.heap.size+1,0,none⟩), .pointer (some ⟨K,0,none⟩)] W2 λe W'=>
    (e=.returned (.bool true)/\∃ys:List (O8 w P),ys.map O8.arm=Dx es/\J ([]++ys) W'/\Kept w.heap.size C W2 W')\/
    (e=.returned (.bool false)/\∃ys:List (O8 w P),ys.map O8.arm<+:Dx es/\Jx ([]++ys) W')):=by
  intro W2 hb2 hy hbx;have hj:∀(s:List (O8 w P)) (X Y:World),J s X->Below X.heap.size X Y->J s Y:=λs X Y hs hb=>hJ s X Y none hs ⟨hb.os,hb.tape,hb.output,hb.size,λk hk _=>hb.block k hk⟩ (λr e=>by cases e)
  have hw2:=(hw0.trans (hW.mono hw0.size)).trans (hb2.mono (A4p hw0.size hW.size));refine Agd w P hP C hC M l W.heap.size (W.heap.size+1) K (Dx es).length hCM (λh=>by have:=hCM _ h;omega) (λh=>by have:=hCM _ h;omega) hKC J Jx hj (λm pre x X hjx hlx=>YieldAt.anyDepth rfl m (hY pre x X hjx hlx)) es hl hf (n - 1) v [] W2 (hs.keep ((I5.of_below hW).call hb2)) ⟨hy,hbx,(hb2.cell (p:=⟨K,0,none⟩) hKz).trans hKW⟩ (hj _ _ _ h0 hb2) hw2 (A4p hMw (A4p hW.size hb2.size)) (by simp)
 obtain⟨sa,sl,sc,rfl⟩:∃sa sl sc,v=.slice sa sl sc:=by obtain⟨a,cap,hv,_⟩:=hs;exact⟨_,_,_,hv⟩
 clear hY hJ hs hl hf hC hCM;refine callsIn_of_wp Tryz.func138 rfl trivial ?_ rfl;simp only[Tryz.ntmps138,A4g,A4e,A4f,Nat.reduceAdd,Nat.reduceSub,A46,A47,A5c,A49,A44,A43]
 gi_wp2_with (refine⟨trivial,λh=>(by cases h),?_⟩;refine(HREC.out _ blA (by simp[go_sem]) (by simp[go_sem])).mono ?_;rintro e W3 (⟨rfl,ys,hys,hJ3,_⟩ | ⟨rfl,ys,hys,hx3⟩))
 ·go_end0
  exact⟨⟨_,rfl⟩, .inl ⟨ys,hys,by simpa using hJ3⟩⟩
 ·go_end0
  exact⟨⟨_,rfl⟩, .inr ⟨ys,hys,by simpa using hx3⟩⟩
theorem Alo (a:Option Addr) (ln cap:Nat) (w:World):Calls Tryz.prog 133 #[.slice a ln cap, .func (.func 134) #[] #[]] w λe w'=>e=.returned (.func (.func 138) #[] #[.pointer (some ⟨w.heap.size+1,0,none⟩), .pointer (some ⟨w.heap.size,0,none⟩)])/\
  w'.cell? ⟨w.heap.size,0,none⟩=some (.slice a ln cap)/\w'.cell? ⟨w.heap.size+1,0,none⟩=some (.func (.func 134) #[] #[])/\Below w.heap.size w w':=by
 have hmf:∀(fn:Fn) (first cap:Array Value) (w:World),(Instr.makeFunc fn first cap).run Tryz.prog w=.ok (.func fn first cap) w:=λ_ _ _ _=>rfl
 have hst:∀(fn:Fn) (fi ca:Array Value) (P:Program) (w:World) (a:Addr) (m:Mode),(store a (.func fn fi ca) m).run P w=stored P w a (.func fn fi ca) m:=λfn fi ca P w a m=>run_store P w a _ m rfl
 go_enter Tryz.func133,Tryz.ntmps133
 go_wp2
 go_ret;exact⟨rfl,by simp[go_sem],by simp[go_sem],blA⟩
end Go.Proofs.YtbfljjcnbbmoaaaGreatDoor
namespace Go.Proofs.YtbfljjcnbbmoaaaGreatDoor
open Stil
open Go.RowKit Go.Sort Go.BigFrame
theorem Acy (op:Int) (a:Option Addr) (ln cap:Nat) (w:World) (_h:ln<=9223372036854775807):
  Calls Tryz.prog 97 #[.agg #[.int .i64 op, .slice a ln cap]] w λe w'=>e=.returned (.bool (op==0 && ln==0))/\Below w.heap.size w w':=by
 by_cases h0:op=0
 ·subst h0
  go_enter Tryz.func97,Tryz.ntmps97
  go_wp2
  all_goals go_ret
  all_goals refine⟨Ap ?_,blA⟩
  all_goals (go_light;rw[Bool.eq_iff_iff];simp;try omega)
 ·have h1:(op==0)=false:=by rw[A5f];exact h0
  go_enter Tryz.func97,Tryz.ntmps97
  go_wp2
  all_goals go_ret
  all_goals refine⟨Ap ?_,blA⟩
  all_goals (go_light;simp[h1])
end Go.Proofs.YtbfljjcnbbmoaaaGreatDoor
namespace Go.Proofs.YtbfljjcnbbmoaaaGreatDoor
open Stil
open Go.RowKit Go.Sort Go.BigFrame Go.Shelf
attribute [local go_sem] Oper.semAt_some
theorem Ae8 (k op:Int) (pa p:Option Addr) (la ca ln cap:Nat) (w:World):
  Calls Tryz.prog 135 #[.agg #[.int .i64 k, .int .i64 op, .slice pa la ca, .slice p ln cap]] w λe w'=>∃b A K,e=.returned (.func (.func 146) #[] #[.pointer (some ⟨K,0,none⟩), .pointer (some ⟨A,0,none⟩)])/\w.heap.size<=b/\w.heap.size<=A/\w.heap.size<=K/\
   w'.cell? ⟨A,0,none⟩=some (.slice (some ⟨b,0,none⟩) 1 1)/\w'.cell? ⟨K,0,none⟩=some (.func (.func 141) #[] #[])/\
   w'.cell? ⟨b,0,none⟩=some (.int .i64 k)/\w'.cell? ⟨b,1,none⟩=some (.int .i64 op)/\w'.cell? ⟨b,2,none⟩=some (.slice pa la ca)/\w'.cell? ⟨b,3,none⟩=some (.slice p ln cap)/\Below w.heap.size w w':=by
 have hmf:∀(fn:Fn) (first cap:Array Value) (w:World),(Instr.makeFunc fn first cap).run Tryz.prog w=.ok (.func fn first cap) w:=λ_ _ _ _=>rfl
 go_enter Tryz.func135,Tryz.ntmps135
 go_wp2_with (go_at_call 140;refine(Aln _ _ _ _).mono ?_;rintro e w1 ⟨rfl,hA,hK,hb⟩)
 simp only[World.size_alloc] at hA hK;go_ret;refine⟨w.heap.size+1,_,_,rfl,by omega,by omega,by omega,hA,hK,?_,?_,?_,?_,blA⟩;all_goals (rw[hb.cell (p:=⟨w.heap.size+1,_,none⟩) (by simp)];simp[go_sem])
theorem Ae9 (a:Option Addr) (ln cap:Nat) (w:World):
  Calls Tryz.prog 127 #[.slice a ln cap] w λe w'=>∃A K,e=.returned (.func (.func 138) #[] #[.pointer (some ⟨K,0,none⟩), .pointer (some ⟨A,0,none⟩)])/\w.heap.size<=A/\w.heap.size<=K/\
   w'.cell? ⟨A,0,none⟩=some (.slice a ln cap)/\w'.cell? ⟨K,0,none⟩=some (.func (.func 134) #[] #[])/\Below w.heap.size w w':=by
 have hmf:∀(fn:Fn) (first cap:Array Value) (w:World),(Instr.makeFunc fn first cap).run Tryz.prog w=.ok (.func fn first cap) w:=λ_ _ _ _=>rfl
 go_enter Tryz.func127,Tryz.ntmps127
 go_wp2_with (go_at_call 133;refine(Alo _ _ _ _).mono ?_;rintro e w1 ⟨rfl,hA,hK,hb⟩)
 go_ret;exact⟨_,_,rfl,by omega,by omega,hA,hK,blA⟩
theorem Alr (n:Stil.Net) (av kv:Value) (limit:Int) (w:World) (hav:Bg w av n.one.args) (hkv:Dq w kv n.kids) (hf:Cc n) (hsz:Aj n<=1000000000) (_hl1:-9223372036854775808<=limit) (_hl2:limit<=9223372036854775807):
  Calls Tryz.prog 128 #[.agg #[.int .i64 n.kind, .int .i64 n.one.op,av,kv], .int .i64 limit] w λe w'=>∃r:Nat,e=.returned (.int .i64 r)/\((Aj n:Int)<=limit->r=Aj n)/\(limit<Aj n->limit<r)/\r<=Aj n/\Below w.heap.size w w':=by
 have HLEN:Hid ((Ec [n]).length=Aj n):=by show _=_;rw[Acl,Aph]
 obtain⟨z,hz⟩:∃z,z=Aj n:=⟨_,rfl⟩
 rw[<-hz] at hsz HLEN ⊢;clear hz;refine(callsIn_wide (n:=9)).1 ?_;have HAV:=hid hav;have HKV:=hid hkv;obtain⟨p0,r0,rfl,_⟩:=hav;obtain⟨p1,r1,rfl,_⟩:=hkv;refine callsIn_of_wp_marks Tryz.func128 rfl trivial ?_ rfl;simp only[Tryz.ntmps128,A4g,A4e,A4f,Nat.reduceAdd,Nat.reduceSub,A46,A47,A5c,A49,A44,A43]
 gi_wp2_with (refine⟨trivial,?_⟩;gi_at_call 135;refine(callsIn_wide.2 (Ae8 _ _ _ _ _ _ _ _ _)).mono ?_;rintro e w1 ⟨b,A,K,rfl,hb0,hA0,hK0,hA,hK,x0,x1,x2,x3,hb⟩)
 simp only[World.size_alloc] at hb0 hA0 hK0;have hbw:Below w.heap.size w w1:=blA;have hcl:w1.cell? ⟨w.heap.size+1,0,none⟩=some (.int .i64 limit):=clA hb;have hcs:w1.cell? ⟨w.heap.size+1+1,0,none⟩=some (.int .i64 0):=clA hb;have hcf:w1.frozen? ⟨w.heap.size+1+1,0,none⟩=false:=frA hb;have hsz1:w.heap.size+3<=w1.heap.size:=by have:=hb.size;simp at this;omega
 have hseen:N9 w (λk=>k=w.heap.size+1+1) w1 (.slice (some ⟨b,0,none⟩) 1 1) [n]:=by
  refine⟨_,1,rfl,λi hi=>⟨b,0,rfl,(λh:b=_=>by omega), .slice p0 n.one.args.length r0, .slice p1 n.kids.length r1,?_⟩⟩;obtain rfl:i=0:=by simpa using hi
  simp only[Nat.zero_mul,A4m,List.getElem_cons_zero];exact⟨x0,x1,x2,x3,HAV.out,HKV.out⟩
 have HS:Hid (SeqStopsK Fence.wide (9 - 1) Tryz.prog 146 #[.pointer (some ⟨K,0,none⟩), .pointer (some ⟨A,0,none⟩)] (λx:Qp w Cc=>#[Value.agg #[.int .i64 x.net.kind, .int .i64 x.net.one.op,x.av,x.kv]]) (Kept w.heap.size (λk=>k=w.heap.size+1+1)) (λys=>ys.map Qp.net=Ec [n]) (λpre=>pre.map Qp.net<+:Ec [n]) (Ec [n]).length w1):=
  Ait w Cc (λx hx=>⟨(Df hx).2.2.1,(Df hx).2.2.2⟩) (λk=>k=w.heap.size+1+1) (λk (h:k=_)=>by omega) (w.heap.size+3) A K (λk (h:k=_)=>by omega) (λh:K=_=>by omega) (λh:A=_=>by omega) [n] (by simp) (by simpa using hf) _ w1 hbw hsz1 hseen hA hK _
 clear hseen hb x0 x1 x2 x3 hA hK hf;obtain⟨N,hN⟩:∃N,N=(Ec [n]).length:=⟨_,rfl⟩
 rw[<-hN] at HS;have hNz:N=z:=by rw[hN,HLEN.out]
 refine wpIn_rangeFunc_ownG rfl (by decide) (gf:=146) (lb:=#[.pointer (some ⟨K,0,none⟩), .pointer (some ⟨A,0,none⟩)]) rfl trivial (enters_of Tryz.func146 (by kernel_rfl) rfl)
  HS.out Kept.t (Kept.b (by omega)) (Below.refl _ _) (λ_=>rfl)
  (λpre W=>(W.cell? ⟨w.heap.size+1+1,0,none⟩=some (.int .i64 (pre.length:Int))/\W.frozen? ⟨w.heap.size+1+1,0,none⟩=false/\W.cell? ⟨w.heap.size+1,0,none⟩=some (.int .i64 limit))/\Below w.heap.size w W)
  (λc pre W=>(c=.exit 0/\limit<pre.length/\W.cell? ⟨w.heap.size+1+1,0,none⟩=some (.int .i64 (pre.length:Int)))/\Below w.heap.size w W)
  (OwnFrom.and (Own.from (λs A B row hs hg hr=>⟨cell_kept hs.1 hg hr,(frozen_kept hs.1 hg hr).trans hs.2.1,cell_kept hs.2.2 hg hr⟩) _) (ownFrom_below (A4i _) (by omega)))
  (λc=>OwnFrom.and (Own.from (λs A B row hs hg hr=>⟨hs.1,hs.2.1,cell_kept hs.2.2 hg hr⟩) _) (ownFrom_below (A4i _) (by omega)))
  ⟨⟨by simpa using hcs,hcf,hcl⟩,hbw⟩
  (λx=>{tmps:=#[.agg #[.int .i64 n.kind, .int .i64 n.one.op, .slice p0 n.one.args.length r0, .slice p1 n.kids.length r1], .int .i64 limit, .pointer (some ⟨w.heap.size,0,none⟩), .pointer (some ⟨w.heap.size+1,0,none⟩), .int .i64 0, .pointer (some ⟨w.heap.size+1+1,0,none⟩), .agg #[.int .i64 n.kind, .int .i64 n.one.op, .slice p0 n.one.args.length r0, .slice p1 n.kids.length r1], .func (.func 146) #[] #[.pointer (some ⟨K,0,none⟩), .pointer (some ⟨A,0,none⟩)], .agg #[.int .i64 x.net.kind, .int .i64 x.net.one.op,x.av,x.kv],undef,undef,undef,undef,undef,undef],defers:=[]}) ?assign ?body ?done ?stop
 case assign=>
  intro l x W KK hKK
  gi_wp2
  simpa using hKK
 case body=>
  rintro l pre x W ⟨⟨hc,hfz,hlm⟩,hB⟩ hpl;have hz0:=Bo hc;have hw:IntKind.i64.wrap ((pre.length:Int)+1)=(pre.length:Int)+1:=by rw[IntKind.wrap_i64];omega
  have hset:(W.setCell ⟨w.heap.size+1+1,0,none⟩ (.int .i64 ((pre.length:Int)+1))).cell? ⟨w.heap.size+1+1,0,none⟩=some (.int .i64 ((pre++[x]).length:Int)):=by
   rw[Ey hc];simp
  by_cases hgt:limit<(pre.length:Int)+1
  ·gi_wp2
   exact⟨(KeepsOthers.setCell _ _ _).from _,⟨rfl,by simp;omega,hset⟩,hB.setCell (p:=⟨w.heap.size+1+1,0,none⟩) (by simp;omega) _⟩
  ·gi_wp2
   exact⟨(KeepsOthers.setCell _ _ _).from _,⟨(Below.refl _ W).setCell (p:=⟨w.heap.size+1+1,0,none⟩) (by simp;omega) _,I5.set (C:=λk=>k=w.heap.size+1+1) (I5.refl _ _) (show _=_ from rfl) _⟩,⟨hset,by rw[World.frozen?_setCell];exact hfz,by rw[Ba (by omega)];exact hlm⟩,hB.setCell (p:=⟨w.heap.size+1+1,0,none⟩) (by simp;omega) _⟩
 case done=>
  rintro D ys W hD hS ⟨⟨hc,_⟩,hB⟩ hK;have hyl:ys.length=z:=by have:=congrArg List.length hS;rw[A4t,HLEN.out] at this;exact this
  gi_wp2
  refine⟨by simp, .inl ⟨_,_,rfl,run_takeDeferred hK,?_⟩⟩;exact⟨_,results_tmp rfl _ _ _,z,rfl,λ_=>rfl,λh=>h,A4i _,hB.trans (belowK_b (w:=w) (A4i _) W D _ _ (by omega) hK rfl rfl)⟩
 case stop=>
  rintro D c pre W hD hSp ⟨⟨rfl,hlim,hc⟩,hB⟩ hK;have hyl:pre.length<=z:=by have:=hSp.length_le;rw[A4t,HLEN.out] at this;exact this
  gi_wp2
  refine⟨by simp, .inl ⟨_,_,rfl,run_takeDeferred hK,?_⟩⟩;exact⟨_,results_tmp rfl _ _ _,pre.length,rfl,λh=>by omega,λh=>by omega,by omega,hB.trans (belowK_b (w:=w) (A4i _) W D _ _ (by omega) hK rfl rfl)⟩
end Go.Proofs.YtbfljjcnbbmoaaaGreatDoor
namespace Go.Proofs.YtbfljjcnbbmoaaaGreatDoor
open Stil
open Go.RowKit Go.Sort Go.BigFrame Go.Shelf
attribute [local go_sem] Oper.semAt_some
theorem Uc (n:Stil.Net) (av kv:Value) (w:World) (hav:Bg w av n.one.args) (hkv:Dq w kv n.kids) (hf:Cc n):
  Calls Tryz.prog 73 #[.agg #[.int .i64 n.kind, .int .i64 n.one.op,av,kv]] w λe w'=>e=.returned (.bool (Aq n))/\Below w.heap.size w w':=by
 obtain⟨_,he,hl,_⟩:=Df hf;have hla:=he.2.1;obtain⟨p0,r0,rfl,_⟩:=hav;obtain⟨p1,r1,rfl,_⟩:=hkv;clear hf he;have HN:Hid (Aq n=((n.kind==0 && (n.one.op==0 && n.one.args.length==0)) && n.kids.length==0)):=by show _=_;unfold Aq;simp only[Bool.and_assoc]
 have HC:Hid (∀W,Calls Tryz.prog 97 #[.agg #[.int .i64 n.one.op, .slice p0 n.one.args.length r0]] W λe w'=>e=.returned (.bool (n.one.op==0 && n.one.args.length==0))/\Below W.heap.size W w'):=λW=>Acy _ _ _ _ _ (by omega)
 obtain⟨bb,hbb⟩:∃bb,bb=(n.one.op==0 && n.one.args.length==0):=⟨_,rfl⟩
 rw[<-hbb] at HN HC;obtain⟨lk,hlk⟩:∃lk,lk=n.kids.length:=⟨_,rfl⟩
 obtain⟨la,hla2⟩:∃la,la=n.one.args.length:=⟨_,rfl⟩
 rw[<-hlk] at HN hl ⊢;rw[<-hla2] at HC hla ⊢;obtain⟨k,hk⟩:∃k,k=n.kind:=⟨_,rfl⟩
 rw[<-hk] at HN ⊢;clear hbb hlk hla2 hk;by_cases h0:k=0
 ·subst h0
  cases bb
  ·go_enter Tryz.func73,Tryz.ntmps73
   go_wp2_with (go_at_call 97;refine(HC.out _).mono ?_;rintro e w1 ⟨rfl,hb⟩)
   all_goals go_ret
   all_goals exact⟨Ap (by rw[HN.out];simp),blA⟩
  ·by_cases h1:lk=0
   ·subst h1
    go_enter Tryz.func73,Tryz.ntmps73
    go_wp2_with (go_at_call 97;refine(HC.out _).mono ?_;rintro e w1 ⟨rfl,hb⟩;obtain⟨hc,hf⟩:=Dl hb)
    all_goals go_ret
    all_goals exact⟨Ap (by rw[HN.out];simp),blA⟩
   ·have h2:((lk:Int)==0)=false:=by rw[A5f];omega
    go_enter Tryz.func73,Tryz.ntmps73
    go_wp2_with (go_at_call 97;refine(HC.out _).mono ?_;rintro e w1 ⟨rfl,hb⟩;obtain⟨hc,hf⟩:=Dl hb)
    all_goals go_ret
    all_goals exact⟨Ap (by rw[HN.out];simp[h1]),blA⟩
 ·have h1:(k==0)=false:=by rw[A5f];exact h0
  go_enter Tryz.func73,Tryz.ntmps73
  go_wp2
  all_goals go_ret
  all_goals exact⟨Ap (by rw[HN.out,h1];rfl),blA⟩
end Go.Proofs.YtbfljjcnbbmoaaaGreatDoor
namespace Go.Proofs.YtbfljjcnbbmoaaaGreatDoor
open Stil
open Go.RowKit Go.Sort Go.BigFrame Go.Shelf
attribute [local go_sem] Oper.semAt_some
def Awg (W:World) (B:Nat) (k op:Int) (a n c d:Value):Prop:=W.cell? ⟨B,0,none⟩=some (.int .i64 k)/\W.cell? ⟨B,1,none⟩=some (.int .i64 op)/\W.cell? ⟨B,2,none⟩=some a/\W.cell? ⟨B,3,none⟩=some n/\W.cell? ⟨B,4,none⟩=some c/\W.cell? ⟨B,5,none⟩=some d
theorem Afs {β:Type} (B:Nat) (k op:Int) (a n c d:Value):Own (λ(_:β) W=>Awg W B k op a n c d):=λ_ _ _ _ hs hg hr=>
 ⟨cell_kept hs.1 hg hr,cell_kept hs.2.1 hg hr,cell_kept hs.2.2.1 hg hr,cell_kept hs.2.2.2.1 hg hr,cell_kept hs.2.2.2.2.1 hg hr,cell_kept hs.2.2.2.2.2 hg hr⟩
theorem Ali (la:List Stil.Arm) (v:Value) (limit:Int) (w:World) (hav:Dv w v la) (hf:∀x∈la,C9 x) (hl:la.length<=1048576) (hsz:Bh la<=1000000000) (hl1:0<=limit) (hl2:limit<=9223372036854775807):
  Calls Tryz.prog 113 #[v, .int .i64 limit] w λe w'=>∃r:Nat,e=.returned (.int .i64 r)/\((Bh la:Int)<=limit->r=Bh la)/\(limit<Bh la->limit<r)/\r<=Bh la/\Below w.heap.size w w':=by
 have HSUM:=hid (Ame la);obtain⟨z,hz⟩:∃z,z=Bh la:=⟨_,rfl⟩
 rw[<-hz] at hsz HSUM ⊢;clear hz;have HSEEN:Hid (∀W,Below w.heap.size w W->Mc w (λk=>k=w.heap.size+1) W v la):=λW h=>Mc.of_at hav h (λk (h:k=_)=>by omega)
 obtain⟨p0,r0,rfl,_⟩:=hav;refine(callsIn_wide (n:=9)).1 ?_;refine callsIn_of_wp_marks Tryz.func113 rfl trivial ?_ rfl;simp only[Tryz.ntmps113,A4g,A4e,A4f,Nat.reduceAdd,Nat.reduceSub,A46,A47,A5c,A49,A44,A43]
 gi_wp2_with (refine⟨trivial,?_⟩;gi_at_call 127;refine(callsIn_wide.2 (Ae9 _ _ _ _)).mono ?_;rintro e w1 ⟨A,K,rfl,hA0,hK0,hA,hK,hb⟩)
 simp only[World.size_alloc] at hA0 hK0;have hbw:Below w.heap.size w w1:=blA;have hcl:w1.cell? ⟨w.heap.size,0,none⟩=some (.int .i64 limit):=by rw[hb.cell (p:=⟨w.heap.size,0,none⟩) (by simp;omega)];simp[go_sem]
 have hcs:w1.cell? ⟨w.heap.size+1,0,none⟩=some (.int .i64 0):=clA hb;have hcf:w1.frozen? ⟨w.heap.size+1,0,none⟩=false:=frA hb;have hsz1:w.heap.size+2<=w1.heap.size:=by have:=hb.size;simp at this;omega
 have HS:Hid (SeqStopsK Fence.wide (9 - 1) Tryz.prog 138 #[.pointer (some ⟨K,0,none⟩), .pointer (some ⟨A,0,none⟩)] (λx:O8 w (λa=>a∈Dx la)=>#[Value.agg #[.int .i64 x.arm.net.kind, .int .i64 x.arm.net.one.op,x.av,x.nv,x.cv,x.kv]]) (Kept w.heap.size (λk=>k=w.heap.size+1)) (λys=>ys.map O8.arm=Dx la) (λpre=>pre.map O8.arm<+:Dx la) (Dx la).length w1):=
  Aiu w (λa=>a∈Dx la) (λx hx=>⟨(Gy (Aa0 la hf x hx)).2.2.2.1,Aj2 la x hx⟩) (λk=>k=w.heap.size+1) (λk (h:k=_)=>by omega) (w.heap.size+2) A K (λk (h:k=_)=>by omega) (λh:K=_=>by omega) (λh:A=_=>by omega) la hl (Amf la) _ w1 hbw hsz1 (HSEEN.out w1 hbw) hA hK _
 have HOWN:Hid (∀x∈Dx la,Ot x<=z):=λx hx=>by rw[<-HSUM.out];exact Apn _ hx
 have HFIT:=hid (Aa0 la hf);have hNz:(Dx la).length<=z:=by rw[<-HSUM.out];exact Z9 Ot (λx=>by unfold Ot;omega) _
 clear hb hA hK hf HSEEN;refine wpIn_rangeFunc_ownH rfl (by decide) (gf:=138) (lb:=#[.pointer (some ⟨K,0,none⟩), .pointer (some ⟨A,0,none⟩)]) rfl trivial (enters_of Tryz.func138 (by kernel_rfl) rfl)
  HS.out Kept.t (Kept.b (by omega)) (Below.refl _ _) (λ_=>rfl)
  (λpre W=>((W.cell? ⟨w.heap.size+1,0,none⟩=some (.int .i64 ((pre.map (Ot ∘ O8.arm)).sum:Nat))/\W.frozen? ⟨w.heap.size+1,0,none⟩=false/\W.cell? ⟨w.heap.size,0,none⟩=some (.int .i64 limit))/\Below w.heap.size w W)/\(((pre.map (Ot ∘ O8.arm)).sum:Nat):Int)<=limit/\(pre.map (Ot ∘ O8.arm)).sum<=pre.length*z/\w1.heap.size<=W.heap.size)
  (λc pre W=>(c=.exit 0/\∃t:Nat,limit<t/\t<=(pre.map (Ot ∘ O8.arm)).sum/\W.cell? ⟨w.heap.size+1,0,none⟩=some (.int .i64 t))/\Below w.heap.size w W)
  (OwnFrom.and (OwnFrom.and (Own.from (λs A B row hs hg hr=>⟨cell_kept hs.1 hg hr,(frozen_kept hs.1 hg hr).trans hs.2.1,cell_kept hs.2.2 hg hr⟩) _) (ownFrom_below (A4i _) (by omega))) (OwnFrom.and (ownFrom_pure _ _) (OwnFrom.and (ownFrom_pure _ _) (λ_ _ _ _ hs hg _=>A4p hs hg.size))))
  (λc=>OwnFrom.and (Own.from (λs A B row hs hg hr=>⟨hs.1,hs.2.elim λt ht=>⟨t,ht.1,ht.2.1,cell_kept ht.2.2 hg hr⟩⟩) _) (ownFrom_below (A4i _) (by omega)))
  ⟨⟨⟨by simpa using hcs,hcf,hcl⟩,hbw⟩,by simpa using hl1,by simp,A4i _⟩
  (λx a' W=>∃Bx,w1.heap.size<=Bx/\Awg W Bx x.arm.net.kind x.arm.net.one.op x.av x.nv x.cv x.kv/\a'={tmps:=#[.slice p0 la.length r0, .int .i64 limit,undef, .pointer (some ⟨w.heap.size,0,none⟩), .int .i64 0, .pointer (some ⟨w.heap.size+1,0,none⟩), .pointer (some ⟨Bx,0,none⟩), .slice p0 la.length r0, .func (.func 138) #[] #[.pointer (some ⟨K,0,none⟩), .pointer (some ⟨A,0,none⟩)], .agg #[.int .i64 x.arm.net.kind, .int .i64 x.arm.net.one.op,x.av,x.nv,x.cv,x.kv],undef,undef,undef,undef,undef,undef,undef,undef,undef,undef,undef,undef,undef,undef,undef,undef,undef,undef,undef,undef,undef,undef],defers:=[]})
  (λx a' s A B row hs hg hr=>hs.elim λBx hx=>⟨Bx,hx.1,Afs (β:=Unit) Bx _ _ _ _ _ _ s A B row hx.2.1 hg (λr e=>(hr r e).2),hx.2.2⟩) ?assign ?body ?done ?stop
 case assign=>
  rintro l pre x W KK ⟨⟨⟨hc,hfz,hlm⟩,hB⟩,hp,hpz,hsz2⟩ hKK;have hz0:=Bo hc;obtain⟨x,av,nv,cv,kv,hav,hnv,hcv,hkv,hxf⟩:=x;obtain⟨q0,s0,rfl,_⟩:=id hav;obtain⟨q1,s1,rfl,_⟩:=id hnv;obtain⟨q2,s2,rfl,_⟩:=id hcv;obtain⟨q3,s3,rfl,_⟩:=id hkv
  gi_wp2
  exact hKK _ _ ((KeepsOthers.alloc _ _).from _) (Kept.of_below hB.size (Aa _ _)) ⟨⟨⟨Lt _ hc,Nl _ hc hfz,Lt _ hlm⟩,blA⟩,hp,hpz,by simp;omega⟩ ⟨W.heap.size,by omega,⟨by simp[go_sem],by simp[go_sem],by simp[go_sem],by simp[go_sem],by simp[go_sem],by simp[go_sem]⟩,rfl⟩
 case body=>
  rintro l pre x a' W hlw _ ⟨⟨⟨hc,hfz,hlm⟩,hB⟩,hp,hpz,hsz2⟩ ⟨Bx,hBx,⟨y0,y1,y2,y3,y4,y5⟩,rfl⟩ hpl;have hz0:=Bo hc;have hz1:w.heap.size<W.heap.size:=by omega
  have hBz:=Bo y0;have hn:w.heap.size<=W.heap.size:=by omega
  have hBx1:¬Bx=w.heap.size+1:=by omega
  have hBx2:¬Bx=w.heap.size:=by omega
  have HSN:Hid (((pre++[x]).map (Ot ∘ O8.arm)).sum=(pre.map (Ot ∘ O8.arm)).sum+Ot x.arm):=by show _=_;rw[A4r,List.sum_append];simp
  have HPL:Hid ((pre++[x]).length*z=pre.length*z+z):=by show _=_;rw[A4d,Nat.add_mul];simp
  have hpb:pre.length*z<=1000000000*1000000000:=Nat.mul_le_mul (by omega) hsz;have hnf:=(Gy (HFIT.out _ x.mem)).1;have hcl2:=(Gy (HFIT.out _ x.mem)).2.1;have hoz:=HOWN.out _ x.mem;have HOW:Hid (Ot x.arm=1+x.arm.coils.length+(if Aq x.arm.net then 0 else Aj x.arm.net)):=rfl;obtain⟨q0,s0,e0,_⟩:=id x.hav;obtain⟨q1,s1,e1,_⟩:=id x.hnv;obtain⟨q2,s2,e2,_⟩:=id x.hcv;obtain⟨q3,s3,e3,_⟩:=id x.hkv;have HIN:=hid (λX hX=>Uc x.arm.net x.av x.nv X (x.hav.below hX) (x.hnv.below hX) hnf);have HCN:=hid (λX hX hs lim h1 h2=>Alr x.arm.net x.av x.nv lim X (x.hav.below hX) (x.hnv.below hX) hnf hs h1 h2);rw[e0,e1] at HIN HCN;rw[e0] at y2;rw[e1] at y3;rw[e2] at y4;rw[e3] at y5;obtain⟨S,hS⟩:∃S,S=(pre.map (Ot ∘ O8.arm)).sum:=⟨_,rfl⟩
  obtain⟨o,ho⟩:∃o,o=Ot x.arm:=⟨_,rfl⟩
  obtain⟨cn,hcn⟩:∃cn,cn=x.arm.coils.length:=⟨_,rfl⟩
  rw[<-hS] at hc hp hpz HSN;rw[<-ho] at hoz HSN HOW;rw[<-hcn] at hcl2 HOW y4;clear hnf hS ho hcn e0 e1 e2 e3 hpl hlw;cases hnn:Aq x.arm.net
  ·rw[hnn] at HIN HOW
   have hoe:o=1+cn+Aj x.arm.net:=by rw[HOW.out];simp
   obtain⟨ns,hns⟩:∃ns,ns=Aj x.arm.net:=⟨_,rfl⟩
   rw[<-hns] at hoe HCN;clear hns hnn HOW;have hwr:IntKind.i64.wrap (limit - ((S:Int)+(1+cn)))=limit - ((S:Int)+(1+cn)):=by rw[IntKind.wrap_i64];omega
   gi_wp2_with (refine⟨trivial,?_⟩;gi_at_call 73;refine(CallsIn.inRound l (callsIn_wide.2 (HIN.out _ blA))).mono ?_;rintro e W2 ⟨rfl,hb2⟩;have c2:=(hb2.cell (p:=⟨w.heap.size+1,0,none⟩) (by simp;omega)).trans (Ey hc);have z2:W2.frozen? ⟨w.heap.size+1,0,none⟩=false:=(hb2.frozen (p:=⟨w.heap.size+1,0,none⟩) (by simp;omega)).trans (by rw[World.frozen?_setCell];exact hfz);have l2:=(hb2.cell (p:=⟨w.heap.size,0,none⟩) (by simp;omega)).trans ((Ba (by omega)).trans hlm);have v0:=(hb2.cell (p:=⟨Bx,0,none⟩) (by simp;omega)).trans ((Ba hBx1).trans y0);have v1:=(hb2.cell (p:=⟨Bx,1,none⟩) (by simp;omega)).trans ((Ba hBx1).trans y1);have v2:=(hb2.cell (p:=⟨Bx,2,none⟩) (by simp;omega)).trans ((Ba hBx1).trans y2);have v3:=(hb2.cell (p:=⟨Bx,3,none⟩) (by simp;omega)).trans ((Ba hBx1).trans y3))
   refine wpIn_region_any (by kernel_rfl) ?_;try (change wpAnyIn _ _ _ _ _ _ _ _ _ (World.drew _))
   apply share
   ·intro ky0
    apply share
    ·intro ky1
     apply share
     ·intro ky2
      apply share
      ·intro ky3
       apply share
       ·intro ky4
        apply share
        ·intro ky5
         apply share
         ·intro ky6
          apply share
          ·intro ky7
           apply share
           ·intro ky8
            apply share
            ·intro ky9
             apply share
             ·intro ky10
              apply share
              ·intro ky11
               apply share
               ·intro ky12
                apply share
                ·intro ky13
                 apply share
                 ·intro ky14
                  apply share
                  ·intro ky15
                   apply share
                   ·intro ky16
                    apply share
                    ·intro ky17
                     apply share
                     ·intro ky18
                      apply share
                      ·intro ky19
                       apply share
                       ·intro ky20
                        apply share
                        ·intro ky21
                         apply share
                         ·intro ky22
                          refine wpAnyIn_ready (rs:=[0,1,3,4]) (by kernel_rfl) (by simp) ?_;refine AllReadyIn.cons rfl (λKK hKK=>?_) ?_
                          ·go_simp
                           refine hKK _ _ ?_;clear hKK KK;refine wpAnyIn_ready (rs:=[1,3,4]) (by kernel_rfl) (by simp) ?_;refine AllReadyIn.cons rfl (λKK hKK=>?_) ?_
                           ·go_simp
                            refine hKK _ _ ?_;clear hKK KK;exact ky17
                           refine AllReadyIn.cons rfl (λKK hKK=>?_) ?_
                           ·go_simp
                            refine hKK _ _ ?_;clear hKK KK;exact ky18
                           refine AllReadyIn.cons rfl (λKK hKK=>?_) ?_
                           ·go_simp
                            refine hKK _ _ ?_;clear hKK KK;exact ky19
                           exact AllReadyIn.nil
                          refine AllReadyIn.cons rfl (λKK hKK=>?_) ?_
                          ·go_simp
                           refine hKK _ _ ?_;clear hKK KK;refine wpAnyIn_ready (rs:=[0,2,3,4]) (by kernel_rfl) (by simp) ?_;refine AllReadyIn.cons rfl (λKK hKK=>?_) ?_
                           ·go_simp
                            refine hKK _ _ ?_;clear hKK KK;exact ky17
                           refine AllReadyIn.cons rfl (λKK hKK=>?_) ?_
                           ·go_simp
                            refine hKK _ _ ?_;clear hKK KK;refine wpAnyIn_ready (rs:=[0,3,4]) (by kernel_rfl) (by simp) ?_;refine AllReadyIn.cons rfl (λKK hKK=>?_) ?_
                            ·go_simp
                             refine hKK _ _ ?_;clear hKK KK;exact ky10
                            refine AllReadyIn.cons rfl (λKK hKK=>?_) ?_
                            ·go_simp
                             refine hKK _ _ ?_;clear hKK KK;exact ky14
                            refine AllReadyIn.cons rfl (λKK hKK=>?_) ?_
                            ·go_simp
                             refine hKK _ _ ?_;clear hKK KK;exact ky15
                            exact AllReadyIn.nil
                           refine AllReadyIn.cons rfl (λKK hKK=>?_) ?_
                           ·go_simp
                            refine hKK _ _ ?_;clear hKK KK;exact ky20
                           refine AllReadyIn.cons rfl (λKK hKK=>?_) ?_
                           ·go_simp
                            refine hKK _ _ ?_;clear hKK KK;exact ky21
                           exact AllReadyIn.nil
                          refine AllReadyIn.cons rfl (λKK hKK=>?_) ?_
                          ·go_simp
                           refine hKK _ _ ?_;clear hKK KK;refine wpAnyIn_ready (rs:=[0,1,4]) (by kernel_rfl) (by simp) ?_;refine AllReadyIn.cons rfl (λKK hKK=>?_) ?_
                           ·go_simp
                            refine hKK _ _ ?_;clear hKK KK;exact ky18
                           refine AllReadyIn.cons rfl (λKK hKK=>?_) ?_
                           ·go_simp
                            refine hKK _ _ ?_;clear hKK KK;exact ky20
                           refine AllReadyIn.cons rfl (λKK hKK=>?_) ?_
                           ·go_simp
                            refine hKK _ _ ?_;clear hKK KK;exact ky22
                           exact AllReadyIn.nil
                          refine AllReadyIn.cons rfl (λKK hKK=>?_) ?_
                          ·go_simp
                           refine hKK _ _ ?_;clear hKK KK;refine wpAnyIn_ready (rs:=[0,1,3]) (by kernel_rfl) (by simp) ?_;refine AllReadyIn.cons rfl (λKK hKK=>?_) ?_
                           ·go_simp
                            refine hKK _ _ ?_;clear hKK KK;exact ky19
                           refine AllReadyIn.cons rfl (λKK hKK=>?_) ?_
                           ·go_simp
                            refine hKK _ _ ?_;clear hKK KK;exact ky21
                           refine AllReadyIn.cons rfl (λKK hKK=>?_) ?_
                           ·go_simp
                            refine hKK _ _ ?_;clear hKK KK;exact ky22
                           exact AllReadyIn.nil
                          exact AllReadyIn.nil
                         ·refine wpAnyIn_ready (rs:=[0,1,5]) (by kernel_rfl) (by simp) ?_
                          refine AllReadyIn.cons rfl (λKK hKK=>?_) ?_
                          ·go_simp
                           refine hKK _ _ ?_;clear hKK KK;exact ky13
                          refine AllReadyIn.cons rfl (λKK hKK=>?_) ?_
                          ·go_simp
                           refine hKK _ _ ?_;clear hKK KK;exact ky16
                          refine AllReadyIn.cons rfl (λKK hKK=>?_) ?_
                          ·go_simp
                           refine hKK _ _ ?_;clear hKK KK;refine wpAnyIn_ready (rs:=[0,1]) (by kernel_rfl) (by simp) ?_;refine AllReadyIn.cons rfl (λKK hKK=>?_) ?_
                           ·go_simp
                            refine hKK _ _ ?_;clear hKK KK;exact ky7
                           refine AllReadyIn.cons rfl (λKK hKK=>?_) ?_
                           ·go_simp
                            refine hKK _ _ ?_;clear hKK KK;exact ky9
                           exact AllReadyIn.nil
                          exact AllReadyIn.nil
                        ·refine wpAnyIn_ready (rs:=[0,2,3]) (by kernel_rfl) (by simp) ?_
                         refine AllReadyIn.cons rfl (λKK hKK=>?_) ?_
                         ·go_simp
                          refine hKK _ _ ?_;clear hKK KK;exact ky12
                         refine AllReadyIn.cons rfl (λKK hKK=>?_) ?_
                         ·go_simp
                          refine hKK _ _ ?_;clear hKK KK;exact ky15
                         refine AllReadyIn.cons rfl (λKK hKK=>?_) ?_
                         ·go_simp
                          refine hKK _ _ ?_;clear hKK KK;exact ky16
                         exact AllReadyIn.nil
                       ·refine wpAnyIn_ready (rs:=[0,2,4]) (by kernel_rfl) (by simp) ?_
                        refine AllReadyIn.cons rfl (λKK hKK=>?_) ?_
                        ·go_simp
                         refine hKK _ _ ?_;clear hKK KK;exact ky11
                        refine AllReadyIn.cons rfl (λKK hKK=>?_) ?_
                        ·go_simp
                         refine hKK _ _ ?_;clear hKK KK;exact ky14
                        refine AllReadyIn.cons rfl (λKK hKK=>?_) ?_
                        ·go_simp
                         refine hKK _ _ ?_;clear hKK KK;exact ky16
                        exact AllReadyIn.nil
                      ·refine wpAnyIn_ready (rs:=[1,3]) (by kernel_rfl) (by simp) ?_
                       refine AllReadyIn.cons rfl (λKK hKK=>?_) ?_
                       ·go_simp
                        refine hKK _ _ ?_;clear hKK KK;exact ky12
                       refine AllReadyIn.cons rfl (λKK hKK=>?_) ?_
                       ·go_simp
                        refine hKK _ _ ?_;clear hKK KK;exact ky13
                       exact AllReadyIn.nil
                     ·refine wpAnyIn_ready (rs:=[1,4]) (by kernel_rfl) (by simp) ?_
                      refine AllReadyIn.cons rfl (λKK hKK=>?_) ?_
                      ·go_simp
                       refine hKK _ _ ?_;clear hKK KK;exact ky11
                      refine AllReadyIn.cons rfl (λKK hKK=>?_) ?_
                      ·go_simp
                       refine hKK _ _ ?_;clear hKK KK;exact ky13
                      exact AllReadyIn.nil
                    ·refine wpAnyIn_ready (rs:=[2,3,4]) (by kernel_rfl) (by simp) ?_
                     refine AllReadyIn.cons rfl (λKK hKK=>?_) ?_
                     ·go_simp
                      refine hKK _ _ ?_;clear hKK KK;exact ky10
                     refine AllReadyIn.cons rfl (λKK hKK=>?_) ?_
                     ·go_simp
                      refine hKK _ _ ?_;clear hKK KK;exact ky11
                     refine AllReadyIn.cons rfl (λKK hKK=>?_) ?_
                     ·go_simp
                      refine hKK _ _ ?_;clear hKK KK;exact ky12
                     exact AllReadyIn.nil
                   ·refine wpAnyIn_ready (rs:=[0,2,5]) (by kernel_rfl) (by simp) ?_
                    refine AllReadyIn.cons rfl (λKK hKK=>?_) ?_
                    ·go_simp
                     refine hKK _ _ ?_;clear hKK KK;exact ky6
                    refine AllReadyIn.cons rfl (λKK hKK=>?_) ?_
                    ·go_simp
                     refine hKK _ _ ?_;clear hKK KK;exact ky8
                    refine AllReadyIn.cons rfl (λKK hKK=>?_) ?_
                    ·go_simp
                     refine hKK _ _ ?_;clear hKK KK;exact ky9
                    exact AllReadyIn.nil
                  ·refine wpAnyIn_ready (rs:=[0,3]) (by kernel_rfl) (by simp) ?_
                   refine AllReadyIn.cons rfl (λKK hKK=>?_) ?_
                   ·go_simp
                    refine hKK _ _ ?_;clear hKK KK;exact ky5
                   refine AllReadyIn.cons rfl (λKK hKK=>?_) ?_
                   ·go_simp
                    refine hKK _ _ ?_;clear hKK KK;exact ky8
                   exact AllReadyIn.nil
                 ·refine wpAnyIn_ready (rs:=[0,4]) (by kernel_rfl) (by simp) ?_
                  refine AllReadyIn.cons rfl (λKK hKK=>?_) ?_
                  ·go_simp
                   refine hKK _ _ ?_;clear hKK KK;exact ky4
                  refine AllReadyIn.cons rfl (λKK hKK=>?_) ?_
                  ·go_simp
                   refine hKK _ _ ?_;clear hKK KK;exact ky8
                  exact AllReadyIn.nil
                ·refine wpAnyIn_ready (rs:=[1,5]) (by kernel_rfl) (by simp) ?_
                 refine AllReadyIn.cons rfl (λKK hKK=>?_) ?_
                 ·go_simp
                  refine hKK _ _ ?_;clear hKK KK;exact ky6
                 refine AllReadyIn.cons rfl (λKK hKK=>?_) ?_
                 ·go_simp
                  refine hKK _ _ ?_;clear hKK KK;exact ky7
                 exact AllReadyIn.nil
               ·refine wpAnyIn_ready (rs:=[2,3]) (by kernel_rfl) (by simp) ?_
                refine AllReadyIn.cons rfl (λKK hKK=>?_) ?_
                ·go_simp
                 refine hKK _ _ ?_;clear hKK KK;exact ky5
                refine AllReadyIn.cons rfl (λKK hKK=>?_) ?_
                ·go_simp
                 refine hKK _ _ ?_;clear hKK KK;exact ky6
                exact AllReadyIn.nil
              ·refine wpAnyIn_ready (rs:=[2,4]) (by kernel_rfl) (by simp) ?_
               refine AllReadyIn.cons rfl (λKK hKK=>?_) ?_
               ·go_simp
                refine hKK _ _ ?_;clear hKK KK;exact ky4
               refine AllReadyIn.cons rfl (λKK hKK=>?_) ?_
               ·go_simp
                refine hKK _ _ ?_;clear hKK KK;exact ky6
               exact AllReadyIn.nil
             ·refine wpAnyIn_ready (rs:=[3,4]) (by kernel_rfl) (by simp) ?_
              refine AllReadyIn.cons rfl (λKK hKK=>?_) ?_
              ·go_simp
               refine hKK _ _ ?_;clear hKK KK;exact ky4
              refine AllReadyIn.cons rfl (λKK hKK=>?_) ?_
              ·go_simp
               refine hKK _ _ ?_;clear hKK KK;exact ky5
              exact AllReadyIn.nil
            ·refine wpAnyIn_ready (rs:=[0,2]) (by kernel_rfl) (by simp) ?_
             refine AllReadyIn.cons rfl (λKK hKK=>?_) ?_
             ·go_simp
              refine hKK _ _ ?_;clear hKK KK;exact ky2
             refine AllReadyIn.cons rfl (λKK hKK=>?_) ?_
             ·go_simp
              refine hKK _ _ ?_;clear hKK KK;exact ky3
             exact AllReadyIn.nil
           ·refine wpAnyIn_ready (rs:=[0,5]) (by kernel_rfl) (by simp) ?_
            refine AllReadyIn.cons rfl (λKK hKK=>?_) ?_
            ·go_simp
             refine hKK _ _ ?_;clear hKK KK;exact ky1
            refine AllReadyIn.cons rfl (λKK hKK=>?_) ?_
            ·go_simp
             refine hKK _ _ ?_;clear hKK KK;exact ky3
            exact AllReadyIn.nil
          ·refine wpAnyIn_ready (rs:=[1]) (by kernel_rfl) (by simp) ?_
           refine AllReadyIn.cons rfl (λKK hKK=>?_) AllReadyIn.nil;go_simp;refine hKK _ _ ?_;clear hKK KK;exact ky2
         ·refine wpAnyIn_ready (rs:=[2,5]) (by kernel_rfl) (by simp) ?_
          refine AllReadyIn.cons rfl (λKK hKK=>?_) ?_
          ·go_simp
           refine hKK _ _ ?_;clear hKK KK;exact ky1
          refine AllReadyIn.cons rfl (λKK hKK=>?_) ?_
          ·go_simp
           refine hKK _ _ ?_;clear hKK KK;exact ky2
          exact AllReadyIn.nil
        ·refine wpAnyIn_ready (rs:=[3]) (by kernel_rfl) (by simp) ?_
         refine AllReadyIn.cons rfl (λKK hKK=>?_) AllReadyIn.nil;go_simp;refine hKK _ _ ?_;clear hKK KK;exact ky1
       ·refine wpAnyIn_ready (rs:=[4]) (by kernel_rfl) (by simp) ?_
        refine AllReadyIn.cons rfl (λKK hKK=>?_) AllReadyIn.nil;go_simp;refine hKK _ _ ?_;clear hKK KK;exact ky1
      ·refine wpAnyIn_ready (rs:=[0,6]) (by kernel_rfl) (by simp) ?_
       refine AllReadyIn.cons rfl (λKK hKK=>?_) ?_
       ·go_simp
        refine hKK _ _ ?_;clear hKK KK;exact ky0
       refine AllReadyIn.cons rfl (λKK hKK=>?_) ?_
       ·go_simp
        try simp only[hwr]
        refine⟨trivial,?_⟩;refine(CallsIn.inRound l (callsIn_wide.2 (HCN.out _ blA (by omega) (limit - ((S:Int)+(1+cn))) (by omega) (by omega)))).mono ?_;rintro e W3 ⟨r,rfl,hr1,hr2,hr3,hb3⟩;refine hKK _ _ ?_;clear hKK KK;have c3:=(hb3.cell (p:=⟨w.heap.size+1,0,none⟩) (Bo c2)).trans c2;have z3:=(hb3.frozen (p:=⟨w.heap.size+1,0,none⟩) (Bo c2)).trans z2;have l3:=(hb3.cell (p:=⟨w.heap.size,0,none⟩) (Bo l2)).trans l2;have hwr2:IntKind.i64.wrap ((S:Int)+(1+cn)+r)=(S:Int)+(1+cn)+r:=by rw[IntKind.wrap_i64];omega
        refine wpAnyIn_ready (rs:=[0]) (by kernel_rfl) (by simp) ?_;refine AllReadyIn.cons rfl (λKK hKK=>?_) AllReadyIn.nil;go_simp;refine hKK _ _ ?_;clear hKK KK;refine wpAnyIn_ready (rs:=[7]) (by kernel_rfl) (by simp) ?_;refine AllReadyIn.cons rfl (λKK hKK=>?_) AllReadyIn.nil;go_simp;try simp only[hwr2]
        refine hKK _ _ ?_;clear hKK KK;refine wpAnyIn_ready (rs:=[8]) (by kernel_rfl) (by simp) ?_;refine AllReadyIn.cons rfl (λKK hKK=>?_) AllReadyIn.nil;go_simp;refine hKK _ _ ?_;clear hKK KK;refine wpAnyIn_done (by kernel_rfl) ?_ _;by_cases hgt:limit<(S:Int)+(1+cn)+r
        ·gi_wp2
         exact⟨by(repeat (first | with_reducible exact KeepsFrom.refl _ _ | with_reducible refine Uw ?_ _ _ | with_reducible refine Oz ?_ | with_reducible refine kf_alloc ?_ _ | with_reducible refine O0 ?_ (by assumption))),⟨rfl,S+(1+cn)+r,by omega,by rw[HSN.out];omega,by rw[Ey c3];simp⟩,blA⟩
        ·have hrn:r=ns:=by
          by_cases h:(ns:Int)<=limit - ((S:Int)+(1+cn))
          ·exact hr1 h
          ·have:=hr2 (by omega)
           omega
         gi_wp2
         exact⟨by(repeat (first | with_reducible exact KeepsFrom.refl _ _ | with_reducible refine Uw ?_ _ _ | with_reducible refine Oz ?_ | with_reducible refine kf_alloc ?_ _ | with_reducible refine O0 ?_ (by assumption))),Aip (b:=w.heap.size+1) (Ub (Auq (Ub (Aip (b:=w.heap.size+1) (Kept.refl w.heap.size (λk=>k=w.heap.size+1) W) (by omega) rfl _) hn hb2)) hn hb3) (by omega) rfl _,⟨⟨⟨by rw[Ey c3,HSN.out,hoe];simp;omega,by rw[World.frozen?_setCell];exact z3,by rw[Ba (by omega)];exact l3⟩,blA⟩,by rw[HSN.out];omega,by rw[HSN.out,HPL.out];omega,by have:=hb2.size;have:=hb3.size;simp at*;omega⟩⟩
       exact AllReadyIn.nil
     ·refine wpAnyIn_ready (rs:=[2]) (by kernel_rfl) (by simp) ?_
      refine AllReadyIn.cons rfl (λKK hKK=>?_) AllReadyIn.nil;go_simp;refine hKK _ _ ?_;clear hKK KK;exact ky0
    ·refine wpAnyIn_ready (rs:=[5]) (by kernel_rfl) (by simp) ?_
     refine AllReadyIn.cons rfl (λKK hKK=>?_) AllReadyIn.nil;go_simp;refine hKK _ _ ?_;clear hKK KK;exact ky0
   ·refine wpAnyIn_ready (rs:=[6]) (by kernel_rfl) (by simp) ?_
    refine AllReadyIn.cons rfl (λKK hKK=>?_) AllReadyIn.nil;go_simp;try simp only[hwr]
    refine⟨trivial,?_⟩;refine(CallsIn.inRound l (callsIn_wide.2 (HCN.out _ blA (by omega) (limit - ((S:Int)+(1+cn))) (by omega) (by omega)))).mono ?_;rintro e W3 ⟨r,rfl,hr1,hr2,hr3,hb3⟩;refine hKK _ _ ?_;clear hKK KK;have c3:=(hb3.cell (p:=⟨w.heap.size+1,0,none⟩) (Bo c2)).trans c2;have z3:=(hb3.frozen (p:=⟨w.heap.size+1,0,none⟩) (Bo c2)).trans z2;have l3:=(hb3.cell (p:=⟨w.heap.size,0,none⟩) (Bo l2)).trans l2;have hwr2:IntKind.i64.wrap ((S:Int)+(1+cn)+r)=(S:Int)+(1+cn)+r:=by rw[IntKind.wrap_i64];omega
    refine wpAnyIn_ready (rs:=[7]) (by kernel_rfl) (by simp) ?_;refine AllReadyIn.cons rfl (λKK hKK=>?_) AllReadyIn.nil;go_simp;try simp only[hwr2]
    refine hKK _ _ ?_;clear hKK KK;refine wpAnyIn_ready (rs:=[8]) (by kernel_rfl) (by simp) ?_;refine AllReadyIn.cons rfl (λKK hKK=>?_) AllReadyIn.nil;go_simp;refine hKK _ _ ?_;clear hKK KK;refine wpAnyIn_done (by kernel_rfl) ?_ _;by_cases hgt:limit<(S:Int)+(1+cn)+r
    ·gi_wp2
     exact⟨by(repeat (first | with_reducible exact KeepsFrom.refl _ _ | with_reducible refine Uw ?_ _ _ | with_reducible refine Oz ?_ | with_reducible refine kf_alloc ?_ _ | with_reducible refine O0 ?_ (by assumption))),⟨rfl,S+(1+cn)+r,by omega,by rw[HSN.out];omega,by rw[Ey c3];simp⟩,blA⟩
    ·have hrn:r=ns:=by
      by_cases h:(ns:Int)<=limit - ((S:Int)+(1+cn))
      ·exact hr1 h
      ·have:=hr2 (by omega)
       omega
     gi_wp2
     exact⟨by(repeat (first | with_reducible exact KeepsFrom.refl _ _ | with_reducible refine Uw ?_ _ _ | with_reducible refine Oz ?_ | with_reducible refine kf_alloc ?_ _ | with_reducible refine O0 ?_ (by assumption))),Aip (b:=w.heap.size+1) (Ub (Auq (Ub (Aip (b:=w.heap.size+1) (Kept.refl w.heap.size (λk=>k=w.heap.size+1) W) (by omega) rfl _) hn hb2)) hn hb3) (by omega) rfl _,⟨⟨⟨by rw[Ey c3,HSN.out,hoe];simp;omega,by rw[World.frozen?_setCell];exact z3,by rw[Ba (by omega)];exact l3⟩,blA⟩,by rw[HSN.out];omega,by rw[HSN.out,HPL.out];omega,by have:=hb2.size;have:=hb3.size;simp at*;omega⟩⟩
  ·rw[hnn] at HIN HOW
   have hoe:o=1+cn:=by rw[HOW.out];simp
   clear hnn HOW HCN;by_cases hgt:limit<(S:Int)+(1+cn)
   ·gi_wp2_with (refine⟨trivial,?_⟩;gi_at_call 73;refine(CallsIn.inRound l (callsIn_wide.2 (HIN.out _ blA))).mono ?_;rintro e W2 ⟨rfl,hb2⟩;have c2:=(hb2.cell (p:=⟨w.heap.size+1,0,none⟩) (by simp;omega)).trans (Ey hc);have z2:W2.frozen? ⟨w.heap.size+1,0,none⟩=false:=(hb2.frozen (p:=⟨w.heap.size+1,0,none⟩) (by simp;omega)).trans (by rw[World.frozen?_setCell];exact hfz);have l2:=(hb2.cell (p:=⟨w.heap.size,0,none⟩) (by simp;omega)).trans ((Ba (by omega)).trans hlm))
    exact⟨by(repeat (first | with_reducible exact KeepsFrom.refl _ _ | with_reducible refine Uw ?_ _ _ | with_reducible refine Oz ?_ | with_reducible refine kf_alloc ?_ _ | with_reducible refine O0 ?_ (by assumption))),⟨rfl,S+(1+cn),by omega,by rw[HSN.out];omega,by rw[c2];simp⟩,blA⟩
   ·gi_wp2_with (refine⟨trivial,?_⟩;gi_at_call 73;refine(CallsIn.inRound l (callsIn_wide.2 (HIN.out _ blA))).mono ?_;rintro e W2 ⟨rfl,hb2⟩;have c2:=(hb2.cell (p:=⟨w.heap.size+1,0,none⟩) (by simp;omega)).trans (Ey hc);have z2:W2.frozen? ⟨w.heap.size+1,0,none⟩=false:=(hb2.frozen (p:=⟨w.heap.size+1,0,none⟩) (by simp;omega)).trans (by rw[World.frozen?_setCell];exact hfz);have l2:=(hb2.cell (p:=⟨w.heap.size,0,none⟩) (by simp;omega)).trans ((Ba (by omega)).trans hlm))
    exact⟨by(repeat (first | with_reducible exact KeepsFrom.refl _ _ | with_reducible refine Uw ?_ _ _ | with_reducible refine Oz ?_ | with_reducible refine kf_alloc ?_ _ | with_reducible refine O0 ?_ (by assumption))),Ub (Aip (b:=w.heap.size+1) (Kept.refl w.heap.size (λk=>k=w.heap.size+1) W) (by omega) rfl _) hn hb2,⟨⟨⟨by rw[c2,HSN.out,hoe];simp,z2,l2⟩,blA⟩,by rw[HSN.out];omega,by rw[HSN.out,HPL.out];omega,by have:=hb2.size;simp at*;omega⟩⟩
 case done=>
  rintro D ys W hD hS ⟨⟨⟨hc,_⟩,hB⟩,hp,_⟩ hK;rw[<-List.map_map,hS,HSUM.out] at hc hp
  gi_wp2
  refine⟨by simp, .inl ⟨_,_,rfl,run_takeDeferred hK,?_⟩⟩;exact⟨_,results_tmp rfl _ _ _,z,rfl,λ_=>rfl,λh=>h,A4i _,hB.trans (belowK_b (w:=w) (A4i _) W D _ _ (by omega) hK rfl rfl)⟩
 case stop=>
  rintro D c pre W hD hSp ⟨⟨rfl,t,ht1,ht2,hc⟩,hB⟩ hK;have htz:t<=z:=by have:=Aow Ot hSp;rw[HSUM.out,List.map_map] at this;omega
  gi_wp2
  refine⟨by simp, .inl ⟨_,_,rfl,run_takeDeferred hK,?_⟩⟩;exact⟨_,results_tmp rfl _ _ _,t,rfl,λh=>by omega,λh=>by omega,htz,hB.trans (belowK_b (w:=w) (A4i _) W D _ _ (by omega) hK rfl rfl)⟩
end Go.Proofs.YtbfljjcnbbmoaaaGreatDoor
