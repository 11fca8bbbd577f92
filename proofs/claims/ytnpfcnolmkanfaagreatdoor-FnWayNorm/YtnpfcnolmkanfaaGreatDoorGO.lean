import Derived.Test.YtnpfcnolmkanfaaGreatDoorHg
import Derived.Shelf.RegionOpen
import Derived.OwnWalkIn
import Derived.TacticsInMore
import Derived.LoopNIn
import Derived.LoopIn
set_option maxHeartbeats 4000000
set_option maxRecDepth 100000
namespace Go.Proofs.YtnpfcnolmkanfaaGreatDoor
open Tryz
open Stil
open Go.RowKit Go.Sort Go.BigFrame Go.Shelf
theorem Ak5 (k op:Int)(b:Value)(p:Option Addr)(a cap:Nat)(c:Option Addr)(d i:Nat)(f:b=.slice c d i)(w:World):
  Calls prog 121 #[.agg #[.int .i64 k, .int .i64 op,b, .slice p a cap]] w λe g=>e=.returned (.slice p a cap)/\Below w.heap.size w g:=by
 subst f;go_enter func121,ntmps121
 go_wp2
 go_ret;exact⟨rfl,blA⟩
theorem Ak7 (k op:Int)(g b l p:Option Addr)(i m d o c j a cap:Nat)(w:World):
  Calls prog 114 #[.agg #[.int .i64 k, .int .i64 op, .slice g i m, .slice b d o, .slice l c j, .slice p a cap]] w λe f=>e=.returned (.slice p a cap)/\Below w.heap.size w f:=by
 go_enter func114,ntmps114
 go_wp2
 go_ret;exact⟨rfl,blA⟩
def Ajp (l Y B K:Nat)(W:World):Prop:=W.cell? ⟨Y,0,none⟩=some (.func (.yield l) #[] #[])/\W.cell? ⟨B,0,none⟩=some (.func (.func 127) #[] #[.pointer (some ⟨Y,0,none⟩), .pointer (some ⟨B,0,none⟩), .pointer (some ⟨K,0,none⟩)])/\W.cell? ⟨K,0,none⟩=some (.func (.func 121) #[] #[])
def Ada (w:World)(P:Stil.Net->Prop)(C:Nat->Prop)(M l Y B K N:Nat)(J c:List (Sl w P)->World->Prop)(es:List Stil.Net):Prop:=
 ∀(m:Nat) (v:Value) (pre:List (Sl w P)) (W:World),Pq w C W v es->Ajp l Y B K W->J pre W->Below w.heap.size w W->M<=W.heap.size->pre.length+(Ef es).length<=N->
  CallsIn Fence.wide m prog 127 #[v, .pointer (some ⟨Y,0,none⟩), .pointer (some ⟨B,0,none⟩), .pointer (some ⟨K,0,none⟩)] W λe b=>
   (e=.returned (.bool true)/\∃a:List (Sl w P),a.map Sl.net=Ef es/\J (pre++a) b/\Kept w.heap.size C W b)\/
   (e=.returned (.bool false)/\∃a:List (Sl w P),a.map Sl.net<+:Ef es/\c (pre++a) b)
def Ajq (l Y B K:Nat)(W:World):Prop:=W.cell? ⟨Y,0,none⟩=some (.func (.yield l) #[] #[])/\W.cell? ⟨B,0,none⟩=some (.func (.func 119) #[] #[.pointer (some ⟨Y,0,none⟩), .pointer (some ⟨B,0,none⟩), .pointer (some ⟨K,0,none⟩)])/\W.cell? ⟨K,0,none⟩=some (.func (.func 114) #[] #[])
def Adb (w:World)(P:Stil.Arm->Prop)(C:Nat->Prop)(M l Y B K N:Nat)(J c:List (Qv w P)->World->Prop)(es:List Stil.Arm):Prop:=
 ∀(m:Nat) (v:Value) (pre:List (Qv w P)) (W:World),Oq w C W v es->Ajq l Y B K W->J pre W->Below w.heap.size w W->M<=W.heap.size->pre.length+(Dz es).length<=N->
  CallsIn Fence.wide m prog 119 #[v, .pointer (some ⟨Y,0,none⟩), .pointer (some ⟨B,0,none⟩), .pointer (some ⟨K,0,none⟩)] W λe b=>
   (e=.returned (.bool true)/\∃a:List (Qv w P),a.map Qv.arm=Dz es/\J (pre++a) b/\Kept w.heap.size C W b)\/
   (e=.returned (.bool false)/\∃a:List (Qv w P),a.map Qv.arm<+:Dz es/\c (pre++a) b)
end Go.Proofs.YtnpfcnolmkanfaaGreatDoor
namespace Go.Proofs.YtnpfcnolmkanfaaGreatDoor
open Tryz
open Stil
open Go.RowKit Go.Sort Go.BigFrame Go.Shelf
attribute [local go_sem] Oper.semAt_some
theorem Ajp.keep {l Y B K:Nat}{C:Nat->Prop}{W b:World}(h:Ajp l Y B K W)(d:¬C Y)(e:¬C B)(c:¬C K)(a:Jt C W b):Ajp l Y B K b:=⟨a.cell d h.1,a.cell e h.2.1,a.cell c h.2.2⟩
theorem zo0 {p:Prop}(h:p:=by
 go_simp
 refine aA _ _ ?_;clear aA KK;refine wpAnyIn_ready (rs:=[7]) krz spz ?_;refine AllReadyIn.cons rfl (λKK aA=>?_) AllReadyIn.nil;go_simp;refine aA _ _ ?_;clear aA KK;exact key1):p:=h
theorem zp0 {p:Prop}(h:p:=by
 go_simp
 refine aA _ _ ?_;clear aA KK;refine wpAnyIn_ready (rs:=[6]) krz spz ?_;refine AllReadyIn.cons rfl (λKK aA=>?_) AllReadyIn.nil;go_simp;refine aA _ _ ?_;clear aA KK;exact key1):p:=h
theorem zc {p:Prop}(h:p:=by
 intro key2
 refine wpAnyIn_ready (rs:=[3]) krz spz ?_;refine AllReadyIn.cons rfl (λKK aA=>?_) AllReadyIn.nil;go_simp;refine aA _ _ ?_;clear aA KK;refine wpAnyIn_ready (rs:=[4]) krz spz ?_;refine AllReadyIn.cons rfl (λKK aA=>?_) AllReadyIn.nil;go_simp;refine aA _ _ ?_;clear aA KK;refine wpAnyIn_ready (rs:=[5,6,7]) krz spz ?_;refine AllReadyIn.cons rfl (λKK aA=>?_) ?_
 ·go_simp
  refine aA _ _ ?_;clear aA KK;refine wpAnyIn_ready (rs:=[6,7]) krz spz ?_;refine AllReadyIn.cons rfl (λKK aA=>?_) ?_
  ·exact zo0
  refine AllReadyIn.cons rfl (λKK aA=>?_) ?_
  ·exact zp0
  exact AllReadyIn.nil
 refine AllReadyIn.cons rfl (λKK aA=>?_) ?_
 ·go_simp
  refine aA _ _ ?_;clear aA KK;refine wpAnyIn_ready (rs:=[5,7]) krz spz ?_;refine AllReadyIn.cons rfl (λKK aA=>?_) ?_
  ·exact zo0
  refine AllReadyIn.cons rfl (λKK aA=>?_) ?_
  ·go_simp
   refine aA _ _ ?_;clear aA KK;exact key2
  exact AllReadyIn.nil
 refine AllReadyIn.cons rfl (λKK aA=>?_) ?_
 ·go_simp
  refine aA _ _ ?_;clear aA KK;refine wpAnyIn_ready (rs:=[5,6]) krz spz ?_;refine AllReadyIn.cons rfl (λKK aA=>?_) ?_
  ·exact zp0
  refine AllReadyIn.cons rfl (λKK aA=>?_) ?_
  ·go_simp
   refine aA _ _ ?_;clear aA KK;exact key2
  exact AllReadyIn.nil
 exact AllReadyIn.nil):p:=h
theorem zd {p:Prop}(h:p:=by
 refine aA _ _ ?_
 clear aA KK;refine wpAnyIn_ready (rs:=[10]) krz spz ?_;refine AllReadyIn.cons rfl (λKK aA=>?_) AllReadyIn.nil;go_simp;refine aA _ _ ?_;clear aA KK;refine wpAnyIn_ready (rs:=[11]) krz spz ?_;refine AllReadyIn.cons rfl (λKK aA=>?_) AllReadyIn.nil;go_simp;refine aA _ _ ?_;clear aA KK;refine wpAnyIn_done krz ?_ _
 gi_wp2
 exact⟨⟨j+1,ys++[x]++zs,omz,by go_num,jS zs hzs,by simpa[A6q] using uO,hkW.t hk4⟩,by simp[intOf];omega⟩):p:=h
theorem ze {p:Prop}(h:p:=by
 refine aA _ _ ?_
 clear aA KK;refine wpAnyIn_ready (rs:=[10]) krz spz ?_;refine AllReadyIn.cons rfl (λKK aA=>?_) AllReadyIn.nil;go_simp;refine aA _ _ ?_;clear aA KK;refine wpAnyIn_ready (rs:=[11]) krz spz ?_;refine AllReadyIn.cons rfl (λKK aA=>?_) AllReadyIn.nil;go_simp;refine aA _ _ ?_;clear aA KK;refine wpAnyIn_done krz ?_ _
 gi_wp2
 go_ret;exact .inr ⟨rfl,ys++[x]++zs,kU zs hzs,by simpa[A6q] using hx4⟩):p:=h
theorem zj {p:Prop}(h:p:=by
 refine aA _ _ ?_
 clear aA KK;refine wpAnyIn_ready (rs:=[3]) krz spz ?_;refine AllReadyIn.cons rfl (λKK aA=>?_) AllReadyIn.nil;go_simp;refine aA _ _ ?_;clear aA KK;refine wpAnyIn_ready (rs:=[4]) krz spz ?_;refine AllReadyIn.cons rfl (λKK aA=>?_) AllReadyIn.nil;go_simp;refine aA _ _ ?_;clear aA KK;refine wpAnyIn_take (i:=5) (v:=undef) rfl rfl krz krz krz (λ_ _ _ h=>h) ⟨Or.inr ⟨rrz,rfl⟩,λ_=>rfl⟩ ?_;refine wpAnyIn_take (i:=6) (v:=undef) rfl rfl krz krz krz (λ_ _ _ h=>h) ⟨Or.inr ⟨rrz,rfl⟩,λ_=>rfl⟩ ?_;refine wpAnyIn_take (i:=7) (v:=undef) rfl rfl krz krz krz (λ_ _ _ h=>h) ⟨Or.inr ⟨rrz,rfl⟩,λ_=>rfl⟩ ?_;refine wpAnyIn_take (i:=8) (v:=undef) rfl rfl krz krz krz (λ_ _ _ h=>h) ⟨Or.inr ⟨rrz,rfl⟩,λ_=>rfl⟩ ?_;refine wpAnyIn_take (i:=9) (v:=undef) rfl rfl krz krz krz (λ_ _ _ h=>h) ⟨Or.inr ⟨rrz,rfl⟩,λ_=>rfl⟩ ?_;refine wpAnyIn_take (i:=10) (v:=undef) rfl rfl krz krz krz (λ_ _ _ h=>h) ⟨Or.inr ⟨rrz,rfl⟩,λ_=>rfl⟩ ?_;refine wpAnyIn_ready (rs:=[11]) krz spz ?_;refine AllReadyIn.cons rfl (λKK aA=>?_) AllReadyIn.nil;go_simp;refine aA _ _ ?_;clear aA KK;refine wpAnyIn_done krz ?_ _
 gi_wp2
 go_ret;exact .inr ⟨rfl,ys++[x],oG.out,by simpa[A6q] using hx3⟩):p:=h
theorem zw {p:Prop}(h:p:=by
 intro mW
 refine wpAnyIn_ready (rs:=[0,1]) krz spz ?_;refine AllReadyIn.cons rfl (λKK aA=>?_) ?_
 ·go_simp
  refine aA _ _ ?_;clear aA KK;refine wpAnyIn_ready (rs:=[1]) krz spz ?_;refine AllReadyIn.cons rfl (λKK aA=>?_) AllReadyIn.nil;go_simp;refine aA _ _ ?_;clear aA KK;exact mW
 refine AllReadyIn.cons rfl (λKK aA=>?_) ?_
 ·go_simp
  refine aA _ _ ?_;clear aA KK;refine wpAnyIn_ready (rs:=[0]) krz spz ?_;refine AllReadyIn.cons rfl (λKK aA=>?_) AllReadyIn.nil;go_simp;refine aA _ _ ?_;clear aA KK;exact mW
 exact AllReadyIn.nil):p:=h
theorem Ag2 (w:World)(P:Stil.Net->Prop)(C:Nat->Prop)(hC:∀k,C k->w.heap.size<=k)(ac l Y B K N:Nat)(ak:∀k,C k->k<ac)(qJ:¬C Y)(mD:¬C B)(kS:¬C K)(J Q:List (Sl w P)->World->Prop)
  (hJ:∀s W d,J s W->Below W.heap.size W d->J s d)
  (hY:∀m pre (x:Sl w P) W,J pre W->pre.length<N->YieldAt Fence.wide m prog l #[.agg #[.int .i64 x.net.kind, .int .i64 x.net.one.op,x.av,x.kv]] W λe d=>
   (e=.returned (.bool true)/\J (pre++[x]) d/\Kept w.heap.size C W d)\/(e=.returned (.bool false)/\Q (pre++[x]) d))
  (es:List Stil.Net) (hl:es.length<=1048576) (hf:∀x∈es,P x) (ih:∀x∈es,Ada w P C ac l Y B K N J Q x.kids):Ada w P C ac l Y B K N J Q es:=by
 intro m v pre W hs ae hj hb hM hN;have HS:=hid (λd (h:Jt C W d)=>hs.keep h);have dA:=hid (λd (h:Jt C W d)=>ae.keep qJ mD kS h);have yj:=hid hY;have vU:=hid hJ;have IH:=hid ih;have HN:=hid hN;have HB:=hid hb;obtain⟨a,cap,rfl,_⟩:=hs;clear hJ hY ih hN hb ae;refine callsIn_of_wp func127 rfl trivial ?_ rfl;simp only[ntmps127,A55,A53,A54,Nat.reduceAdd,Nat.reduceSub,A6v,A6w,A61,A6y,A6t,A6s]
 gi_wp2
 gi_loopw [10] (λi wr=>∃(j:Nat) (ys:List (Sl w P)),j<=es.length/\i=.int .i64 j/\ys.map Sl.net=Ef (es.take j)/\J (pre++ys) wr/\Kept w.heap.size C W wr) (λi _=>es.length - (intOf i).toNat)
 case atStart=>exact⟨0,[],omz,rfl,by simp[Ef],by simpa using hj,Kept.refl _ _ _⟩
 case round=>
  obtain⟨j,ys,aw,rfl,L,aa,D⟩:=hrel;by_cases q:j<es.length
  ·obtain⟨a',ar,hv,aj⟩:=HS wr D.2
   obtain⟨b,o,rfl,ay,av,kv,x0,x1,x2,x3,R,O⟩:=aj j q;simp only[Value.slice.injEq,true_and] at hv;obtain⟨rfl,rfl⟩:=hv;obtain⟨b0,b1,b2⟩:=dA wr D.2;have al:(pre++ys).length<N:=by
    have h1:=HN.out;have X:ys.length=(Ef (es.take j)).length:=by rw[<-L,A6i]
    have u:=(Zb es (j+1)).length_le;rw[Tf es j q] at u;simp only[A52,A53] at u ⊢;omega
   obtain⟨S,V,U,_⟩:=id R;obtain⟨M,H,T,_⟩:=id O;have af:∀x:Sl w P,x=⟨es[j],av,kv,R,O,hf _ (A59 q)⟩->∀c,J (pre++ys) c->YieldAt Fence.wide (m - 1) prog l #[.agg #[.int .i64 es[j].kind, .int .i64 es[j].one.op, .slice S es[j].one.args.length V, .slice M es[j].kids.length H]] c λe d=>
     (e=.returned (.bool true)/\J (pre++ys++[x]) d/\Kept w.heap.size C c d)\/(e=.returned (.bool false)/\Q (pre++ys++[x]) d):=by
    intro x G c an;have:=yj (m - 1) (pre++ys) x c an al
    rw[G] at this ⊢;simp only[U,T] at this ⊢;exact this
   obtain⟨x,G⟩:∃x:Sl w P,x=⟨es[j],av,kv,R,O,hf _ (A59 q)⟩:=⟨_,rfl⟩
   have HV:=hid (af x G);have uY:Hid (x.net=es[j]):=by show _=_;rw[G]
   have lG:=hid O;clear af G;obtain⟨y,hy⟩:∃y,y=es[j]:=⟨_,rfl⟩
   rw[<-hy] at x0 x1 HV uY lG U T;have Z:=hid hy;rw[U] at x2;rw[T] at x3 lG;clear R O U T hy;have I:¬C wr.heap.size:=λh=>by have:=ak _ h;have:=D.2.size;omega
   have yY:=Bi b0;have uQ:=Bi b1;have qV:=Bi b2
   gi_wp2
   obtain⟨c,n⟩:∃c,c=wr.alloc (.cells #[.int .i64 y.kind, .int .i64 y.one.op, .slice S y.one.args.length V, .slice M y.kids.length H] 43):=⟨_,rfl⟩
   rw[<-n];have c0:c.cell? ⟨Y,0,none⟩=some (.func (.yield l) #[] #[]):=by rw[n];simp[go_sem,b0,yY]
   have c1:c.cell? ⟨B,0,none⟩=some (.func (.func 127) #[] #[.pointer (some ⟨Y,0,none⟩), .pointer (some ⟨B,0,none⟩), .pointer (some ⟨K,0,none⟩)]):=by rw[n];simp[go_sem,b1,uQ]
   have c2:c.cell? ⟨K,0,none⟩=some (.func (.func 121) #[] #[]):=by rw[n];simp[go_sem,b2,qV]
   obtain⟨z,F⟩:∃z,z=wr.heap.size:=⟨_,rfl⟩
   rw[<-F] at I ⊢;have d0:c.cell? ⟨z,0,none⟩=some (.int .i64 y.kind):=by rw[n,F];simp[go_sem]
   have d1:c.cell? ⟨z,1,none⟩=some (.int .i64 y.one.op):=by rw[n,F];simp[go_sem]
   have d2:c.cell? ⟨z,2,none⟩=some (.slice S y.one.args.length V):=by rw[n,F];simp[go_sem]
   have d3:c.cell? ⟨z,3,none⟩=some (.slice M y.kids.length H):=by rw[n,F];simp[go_sem]
   have ab:Below wr.heap.size wr c:=by rw[n];exact Aa _ _
   have ah:=D.t (Kept.of_below (A6e HB.size D.1.size) ab);have ag:=vU _ _ _ aa ab.drew;clear n ab b0 b1 b2 x0 x1 x2 x3 yY uQ qV aa D F;obtain⟨fn,ax,assign,body,au,hR⟩:=HV c.drew ag;clear HV ag
   have ap:Hid (∀(e:Ending) (f:World),(e=.returned (.bool true)/\J (pre++ys++[x]) f/\Kept w.heap.size C c.drew f)->f.cell? ⟨B,0,none⟩=some (.func (.func 127) #[] #[.pointer (some ⟨Y,0,none⟩), .pointer (some ⟨B,0,none⟩), .pointer (some ⟨K,0,none⟩)])/\f.cell? ⟨K,0,none⟩=some (.func (.func 121) #[] #[])/\
     f.cell? ⟨z,0,none⟩=some (.int .i64 y.kind)/\f.cell? ⟨z,1,none⟩=some (.int .i64 y.one.op)/\f.cell? ⟨z,2,none⟩=some (.slice S y.one.args.length V)/\f.cell? ⟨z,3,none⟩=some (.slice M y.kids.length H)):=
    λe f h=>⟨h.2.2.2.cell mD c1,h.2.2.2.cell kS c2,h.2.2.2.cell I d0,h.2.2.2.cell I d1,h.2.2.2.cell I d2,h.2.2.2.cell I d3⟩
   have oI:Hid (∀f g,Kept w.heap.size C c.drew f->Below f.heap.size f g->Kept w.heap.size C W g):=λf g X u=>
    ((ah.t ⟨(Below.refl _ _).drew,(Jt.refl _ _).drew⟩).t X).t (Kept.of_below (A6e (A6e HB.size ah.1.size) X.1.size) u)
   have iT:Hid (∀g,J (pre++ys++[x]) g->Kept w.heap.size C W g->CallsIn Fence.wide (m - 1) prog 127 #[.slice M y.kids.length H, .pointer (some ⟨Y,0,none⟩), .pointer (some ⟨B,0,none⟩), .pointer (some ⟨K,0,none⟩)] g λe d=>
     (e=.returned (.bool true)/\∃zs:List (Sl w P),zs.map Sl.net=Ef y.kids/\J (pre++ys++[x]++zs) d/\Kept w.heap.size C g d)\/
     (e=.returned (.bool false)/\∃zs:List (Sl w P),zs.map Sl.net<+:Ef y.kids/\Q (pre++ys++[x]++zs) d)):=by
    intro g ao E;have ai:=HB.trans E.1;refine IH y (by rw[Z.out];exact A59 q) (m - 1) _ _ g (Pq.of_at lG ai hC) (dA g E.2) ao ai (A6e hM E.2.size) ?_;have h1:=HN.out;have X:ys.length=(Ef (es.take j)).length:=by rw[<-L,A6i]
    have u:=(Zb es (j+1)).length_le;rw[Tf es j q,<-Z.out] at u;simp only[A52,A53,A54] at u ⊢;omega
   have jS:Hid (∀zs:List (Sl w P),zs.map Sl.net=Ef y.kids->(ys++[x]++zs).map Sl.net=Ef (es.take (j+1))):=by
    intro zs hzs;rw[Tf es j q,A6g,A6g,L,hzs,<-Z.out];simp[uY.out]
   have kU:Hid (∀zs:List (Sl w P),zs.map Sl.net<+:Ef y.kids->(ys++[x]++zs).map Sl.net<+:Ef es):=by
    intro zs hzs;refine List.IsPrefix.trans ?_ (Zb es (j+1));rw[Tf es j q,A6g,A6g,L,<-Z.out];obtain⟨t,ht⟩:=hzs;exact⟨t,by simp[uY.out,<-ht]⟩
   have oG:Hid ((ys++[x]).map Sl.net<+:Ef es):=by
    show _<+:_
    have:=kU.out [] spz
    simpa using this
   refine wpIn_region_any krz ?_;try (change wpAnyIn _ _ _ _ _ _ _ _ _ (World.drew _))
   apply share
   ·exact zw
   ·refine wpAnyIn_ready (rs:=[2]) krz spz ?_
    refine AllReadyIn.cons rfl (λKK aA=>?_) AllReadyIn.nil;go_simp;refine⟨λh=>yAi,?_⟩;refine hR.mono ?_;rintro e f (⟨rfl,r,E⟩ | ⟨rfl,hx3⟩)
    ·refine aA _ _ ?_
     clear aA KK;obtain⟨f1,f2,g0,g1,g2,g3⟩:=ap _ _ ⟨rfl,r,E⟩;apply share
     ·intro key1
      apply share
      ·exact zc
      ·refine wpAnyIn_ready (rs:=[5,8]) krz spz ?_
       refine AllReadyIn.cons rfl (λKK aA=>?_) ?_
       ·go_simp
        refine aA _ _ ?_;clear aA KK;exact key1
       refine AllReadyIn.cons rfl (λKK aA=>?_) ?_
       ·go_simp
        refine⟨trivial,λh=>yAi,?_⟩;refine(callsIn_wide.2 (Ak5 _ _ _ _ _ _ _ _ _ rfl _)).mono ?_;rintro e g ⟨rfl,A⟩;refine aA _ _ ?_;clear aA KK;have h1:=(A.cell (p:=⟨B,0,none⟩) (Bi f1)).trans f1;have r:=vU _ _ _ r A;have hkW:=oI _ _ E A;refine wpAnyIn_ready (rs:=[5]) krz spz ?_;refine AllReadyIn.cons rfl (λKK aA=>?_) AllReadyIn.nil;go_simp;refine aA _ _ ?_;clear aA KK;refine wpAnyIn_ready (rs:=[9]) krz spz ?_;refine AllReadyIn.cons rfl (λKK aA=>?_) AllReadyIn.nil;go_simp;refine⟨trivial,λh=>yAi,?_⟩;refine(iT _ r hkW).mono ?_;rintro e W4 (⟨rfl,zs,hzs,uO,hk4⟩ | ⟨rfl,zs,hzs,hx4⟩)
        ·exact zd
        ·exact ze
       exact AllReadyIn.nil
     ·refine wpAnyIn_ready (rs:=[8]) krz spz ?_
      refine AllReadyIn.cons rfl (λKK aA=>?_) AllReadyIn.nil;go_simp;refine⟨trivial,λh=>yAi,?_⟩;refine(callsIn_wide.2 (Ak5 _ _ _ _ _ _ _ _ _ rfl _)).mono ?_;rintro e g ⟨rfl,A⟩;refine aA _ _ ?_;clear aA KK;have h1:=(A.cell (p:=⟨B,0,none⟩) (Bi f1)).trans f1;have r:=vU _ _ _ r A;have hkW:=oI _ _ E A;refine wpAnyIn_ready (rs:=[9]) krz spz ?_;refine AllReadyIn.cons rfl (λKK aA=>?_) AllReadyIn.nil;go_simp;refine⟨trivial,λh=>yAi,?_⟩;refine(iT _ r hkW).mono ?_;rintro e W4 (⟨rfl,zs,hzs,uO,hk4⟩ | ⟨rfl,zs,hzs,hx4⟩)
      ·exact zd
      ·exact ze
    ·exact zj
  ·gi_wp2
   go_ret;refine .inl ⟨rfl,ys,?_,aa,D⟩;rw[L,A6x omz]
end Go.Proofs.YtnpfcnolmkanfaaGreatDoor
namespace Go.Proofs.YtnpfcnolmkanfaaGreatDoor
open Tryz
open Stil
open Go.RowKit Go.Sort Go.BigFrame Go.Shelf
attribute [local go_sem] Oper.semAt_some
theorem Ajq.keep {l Y B K:Nat}{C:Nat->Prop}{W b:World}(h:Ajq l Y B K W)(d:¬C Y)(e:¬C B)(c:¬C K)(a:Jt C W b):Ajq l Y B K b:=⟨a.cell d h.1,a.cell e h.2.1,a.cell c h.2.2⟩
theorem Ag3 (w:World)(P:Stil.Arm->Prop)(C:Nat->Prop)(hC:∀k,C k->w.heap.size<=k)(af l Y B K N:Nat)(an:∀k,C k->k<af)(qJ:¬C Y)(mD:¬C B)(kS:¬C K)(J Q:List (Qv w P)->World->Prop)
  (hJ:∀s W d,J s W->Below W.heap.size W d->J s d)
  (hY:∀m pre (x:Qv w P) W,J pre W->pre.length<N->YieldAt Fence.wide m prog l #[.agg #[.int .i64 x.arm.net.kind, .int .i64 x.arm.net.one.op,x.av,x.nv,x.cv,x.kv]] W λe d=>
   (e=.returned (.bool true)/\J (pre++[x]) d/\Kept w.heap.size C W d)\/(e=.returned (.bool false)/\Q (pre++[x]) d))
  (es:List Stil.Arm) (hl:es.length<=1048576) (hf:∀x∈es,P x) (ih:∀x∈es,Adb w P C af l Y B K N J Q x.kids):Adb w P C af l Y B K N J Q es:=by
 intro m v pre W hs ag hj hb hM hN;have HS:=hid (λd (h:Jt C W d)=>hs.keep h);have dA:=hid (λd (h:Jt C W d)=>ag.keep qJ mD kS h);have yj:=hid hY;have vU:=hid hJ;have IH:=hid ih;have HN:=hid hN;have HB:=hid hb;obtain⟨a,cap,rfl,_⟩:=hs;clear hJ hY ih hN hb ag;refine callsIn_of_wp func119 rfl trivial ?_ rfl;simp only[ntmps119,A55,A53,A54,Nat.reduceAdd,Nat.reduceSub,A6v,A6w,A61,A6y,A6t,A6s]
 gi_wp2
 gi_loopw [10] (λi wr=>∃(j:Nat) (ys:List (Qv w P)),j<=es.length/\i=.int .i64 j/\ys.map Qv.arm=Dz (es.take j)/\J (pre++ys) wr/\Kept w.heap.size C W wr) (λi _=>es.length - (intOf i).toNat)
 case atStart=>exact⟨0,[],omz,rfl,by simp[Dz],by simpa using hj,Kept.refl _ _ _⟩
 case round=>
  obtain⟨j,ys,ay,rfl,L,ac,F⟩:=hrel;by_cases q:j<es.length
  ·obtain⟨a',aw,hv,al⟩:=HS wr F.2
   obtain⟨b,o,rfl,aB,av,nv,cv,kv,x0,x1,x2,x3,x4,x5,R,ab,aa,O⟩:=al j q;simp only[Value.slice.injEq,true_and] at hv;obtain⟨rfl,rfl⟩:=hv;obtain⟨b0,b1,b2⟩:=dA wr F.2;have ao:(pre++ys).length<N:=by
    have h1:=HN.out;have Z:ys.length=(Dz (es.take j)).length:=by rw[<-L,A6i]
    have A:=(Zo es (j+1)).length_le;rw[Tm es j q] at A;simp only[A52,A53] at A ⊢;omega
   obtain⟨S,X,V,_⟩:=id R;obtain⟨p2,r2,e2,_⟩:=id ab;obtain⟨p3,r3,T,_⟩:=id aa;obtain⟨M,I,U,_⟩:=id O;have ah:∀x:Qv w P,x=⟨es[j],av,nv,cv,kv,R,ab,aa,O,hf _ (A59 q)⟩->∀c,J (pre++ys) c->YieldAt Fence.wide (m - 1) prog l #[.agg #[.int .i64 es[j].net.kind, .int .i64 es[j].net.one.op, .slice S es[j].net.one.args.length X, .slice p2 es[j].net.kids.length r2, .slice p3 es[j].coils.length r3, .slice M es[j].kids.length I]] c λe d=>
     (e=.returned (.bool true)/\J (pre++ys++[x]) d/\Kept w.heap.size C c d)\/(e=.returned (.bool false)/\Q (pre++ys++[x]) d):=by
    intro x H c ap;have:=yj (m - 1) (pre++ys) x c ap ao
    rw[H] at this ⊢;simp only[V,U,e2,T] at this ⊢;exact this
   obtain⟨x,H⟩:∃x:Qv w P,x=⟨es[j],av,nv,cv,kv,R,ab,aa,O,hf _ (A59 q)⟩:=⟨_,rfl⟩
   have HV:=hid (ah x H);have uY:Hid (x.arm=es[j]):=by show _=_;rw[H]
   have lG:=hid O;clear ah H;obtain⟨y,hy⟩:∃y,y=es[j]:=⟨_,rfl⟩
   rw[<-hy] at x0 x1 HV uY lG V U e2 T;have rC:=hid hy;rw[V] at x2;rw[e2] at x3;rw[T] at x4;rw[U] at x5 lG;clear R ab aa O V U e2 T hy;have D:¬C wr.heap.size:=λh=>by have:=an _ h;have:=F.2.size;omega
   have yY:=Bi b0;have uQ:=Bi b1;have qV:=Bi b2
   gi_wp2
   obtain⟨c,n⟩:∃c,c=wr.alloc (.cells #[.int .i64 y.net.kind, .int .i64 y.net.one.op, .slice S y.net.one.args.length X, .slice p2 y.net.kids.length r2, .slice p3 y.coils.length r3, .slice M y.kids.length I] 46):=⟨_,rfl⟩
   rw[<-n];have c0:c.cell? ⟨Y,0,none⟩=some (.func (.yield l) #[] #[]):=by rw[n];simp[go_sem,b0,yY]
   have c1:c.cell? ⟨B,0,none⟩=some (.func (.func 119) #[] #[.pointer (some ⟨Y,0,none⟩), .pointer (some ⟨B,0,none⟩), .pointer (some ⟨K,0,none⟩)]):=by rw[n];simp[go_sem,b1,uQ]
   have c2:c.cell? ⟨K,0,none⟩=some (.func (.func 114) #[] #[]):=by rw[n];simp[go_sem,b2,qV]
   obtain⟨z,r⟩:∃z,z=wr.heap.size:=⟨_,rfl⟩
   rw[<-r] at D ⊢;have d0:c.cell? ⟨z,0,none⟩=some (.int .i64 y.net.kind):=by rw[n,r];simp[go_sem]
   have d1:c.cell? ⟨z,1,none⟩=some (.int .i64 y.net.one.op):=by rw[n,r];simp[go_sem]
   have d2:c.cell? ⟨z,2,none⟩=some (.slice S y.net.one.args.length X):=by rw[n,r];simp[go_sem]
   have d3:c.cell? ⟨z,3,none⟩=some (.slice p2 y.net.kids.length r2):=by rw[n,r];simp[go_sem]
   have d4:c.cell? ⟨z,4,none⟩=some (.slice p3 y.coils.length r3):=by rw[n,r];simp[go_sem]
   have d5:c.cell? ⟨z,5,none⟩=some (.slice M y.kids.length I):=by rw[n,r];simp[go_sem]
   have ae:Below wr.heap.size wr c:=by rw[n];exact Aa _ _
   have aj:=F.t (Kept.of_below (A6e HB.size F.1.size) ae);have ai:=vU _ _ _ ac ae.drew;clear n ae b0 b1 b2 x0 x1 x2 x3 x4 x5 yY uQ qV ac F r;obtain⟨fn,az,assign,body,ax,hR⟩:=HV c.drew ai;clear HV ai
   have au:Hid (∀(e:Ending) (f:World),(e=.returned (.bool true)/\J (pre++ys++[x]) f/\Kept w.heap.size C c.drew f)->f.cell? ⟨B,0,none⟩=some (.func (.func 119) #[] #[.pointer (some ⟨Y,0,none⟩), .pointer (some ⟨B,0,none⟩), .pointer (some ⟨K,0,none⟩)])/\f.cell? ⟨K,0,none⟩=some (.func (.func 114) #[] #[])/\
     f.cell? ⟨z,0,none⟩=some (.int .i64 y.net.kind)/\f.cell? ⟨z,1,none⟩=some (.int .i64 y.net.one.op)/\f.cell? ⟨z,2,none⟩=some (.slice S y.net.one.args.length X)/\f.cell? ⟨z,3,none⟩=some (.slice p2 y.net.kids.length r2)/\f.cell? ⟨z,4,none⟩=some (.slice p3 y.coils.length r3)/\f.cell? ⟨z,5,none⟩=some (.slice M y.kids.length I)):=
    λe f h=>⟨h.2.2.2.cell mD c1,h.2.2.2.cell kS c2,h.2.2.2.cell D d0,h.2.2.2.cell D d1,h.2.2.2.cell D d2,h.2.2.2.cell D d3,h.2.2.2.cell D d4,h.2.2.2.cell D d5⟩
   have oI:Hid (∀f g,Kept w.heap.size C c.drew f->Below f.heap.size f g->Kept w.heap.size C W g):=λf g Z A=>
    ((aj.t ⟨(Below.refl _ _).drew,(Jt.refl _ _).drew⟩).t Z).t (Kept.of_below (A6e (A6e HB.size aj.1.size) Z.1.size) A)
   have iT:Hid (∀g,J (pre++ys++[x]) g->Kept w.heap.size C W g->CallsIn Fence.wide (m - 1) prog 119 #[.slice M y.kids.length I, .pointer (some ⟨Y,0,none⟩), .pointer (some ⟨B,0,none⟩), .pointer (some ⟨K,0,none⟩)] g λe d=>
     (e=.returned (.bool true)/\∃zs:List (Qv w P),zs.map Qv.arm=Dz y.kids/\J (pre++ys++[x]++zs) d/\Kept w.heap.size C g d)\/
     (e=.returned (.bool false)/\∃zs:List (Qv w P),zs.map Qv.arm<+:Dz y.kids/\Q (pre++ys++[x]++zs) d)):=by
    intro g ar G;have ak:=HB.trans G.1;refine IH y (by rw[rC.out];exact A59 q) (m - 1) _ _ g (Oq.of_at lG ak hC) (dA g G.2) ar ak (A6e hM G.2.size) ?_;have h1:=HN.out;have Z:ys.length=(Dz (es.take j)).length:=by rw[<-L,A6i]
    have A:=(Zo es (j+1)).length_le;rw[Tm es j q,<-rC.out] at A;simp only[A52,A53,A54] at A ⊢;omega
   have jS:Hid (∀zs:List (Qv w P),zs.map Qv.arm=Dz y.kids->(ys++[x]++zs).map Qv.arm=Dz (es.take (j+1))):=by
    intro zs hzs;rw[Tm es j q,A6g,A6g,L,hzs,<-rC.out];simp[uY.out]
   have kU:Hid (∀zs:List (Qv w P),zs.map Qv.arm<+:Dz y.kids->(ys++[x]++zs).map Qv.arm<+:Dz es):=by
    intro zs hzs;refine List.IsPrefix.trans ?_ (Zo es (j+1));rw[Tm es j q,A6g,A6g,L,<-rC.out];obtain⟨t,ht⟩:=hzs;exact⟨t,by simp[uY.out,<-ht]⟩
   have oG:Hid ((ys++[x]).map Qv.arm<+:Dz es):=by
    show _<+:_
    have:=kU.out [] spz
    simpa using this
   refine wpIn_region_any krz ?_;try (change wpAnyIn _ _ _ _ _ _ _ _ _ (World.drew _))
   apply share
   ·exact zw
   ·refine wpAnyIn_ready (rs:=[2]) krz spz ?_
    refine AllReadyIn.cons rfl (λKK aA=>?_) AllReadyIn.nil;go_simp;refine⟨λh=>yAi,?_⟩;refine hR.mono ?_;rintro e f (⟨rfl,u,G⟩ | ⟨rfl,hx3⟩)
    ·refine aA _ _ ?_
     clear aA KK;obtain⟨f1,f2,g0,g1,g2,g3,g4,g5⟩:=au _ _ ⟨rfl,u,G⟩;apply share
     ·intro key1
      apply share
      ·exact zc
      ·refine wpAnyIn_ready (rs:=[5,8]) krz spz ?_
       refine AllReadyIn.cons rfl (λKK aA=>?_) ?_
       ·go_simp
        refine aA _ _ ?_;clear aA KK;exact key1
       refine AllReadyIn.cons rfl (λKK aA=>?_) ?_
       ·go_simp
        refine⟨trivial,λh=>yAi,?_⟩;refine(callsIn_wide.2 (Ak7 _ _ _ _ _ _ _ _ _ _ _ _ _ _ _)).mono ?_;rintro e g ⟨rfl,E⟩;refine aA _ _ ?_;clear aA KK;have h1:=(E.cell (p:=⟨B,0,none⟩) (Bi f1)).trans f1;have u:=vU _ _ _ u E;have hkW:=oI _ _ G E;refine wpAnyIn_ready (rs:=[5]) krz spz ?_;refine AllReadyIn.cons rfl (λKK aA=>?_) AllReadyIn.nil;go_simp;refine aA _ _ ?_;clear aA KK;refine wpAnyIn_ready (rs:=[9]) krz spz ?_;refine AllReadyIn.cons rfl (λKK aA=>?_) AllReadyIn.nil;go_simp;refine⟨trivial,λh=>yAi,?_⟩;refine(iT _ u hkW).mono ?_;rintro e W4 (⟨rfl,zs,hzs,uO,hk4⟩ | ⟨rfl,zs,hzs,hx4⟩)
        ·exact zd
        ·exact ze
       exact AllReadyIn.nil
     ·refine wpAnyIn_ready (rs:=[8]) krz spz ?_
      refine AllReadyIn.cons rfl (λKK aA=>?_) AllReadyIn.nil;go_simp;refine⟨trivial,λh=>yAi,?_⟩;refine(callsIn_wide.2 (Ak7 _ _ _ _ _ _ _ _ _ _ _ _ _ _ _)).mono ?_;rintro e g ⟨rfl,E⟩;refine aA _ _ ?_;clear aA KK;have h1:=(E.cell (p:=⟨B,0,none⟩) (Bi f1)).trans f1;have u:=vU _ _ _ u E;have hkW:=oI _ _ G E;refine wpAnyIn_ready (rs:=[9]) krz spz ?_;refine AllReadyIn.cons rfl (λKK aA=>?_) AllReadyIn.nil;go_simp;refine⟨trivial,λh=>yAi,?_⟩;refine(iT _ u hkW).mono ?_;rintro e W4 (⟨rfl,zs,hzs,uO,hk4⟩ | ⟨rfl,zs,hzs,hx4⟩)
      ·exact zd
      ·exact ze
    ·exact zj
  ·gi_wp2
   go_ret;refine .inl ⟨rfl,ys,?_,ac,F⟩;rw[L,A6x omz]
end Go.Proofs.YtnpfcnolmkanfaaGreatDoor
namespace Go.Proofs.YtnpfcnolmkanfaaGreatDoor
open Tryz
open Stil
open Go.RowKit Go.Sort Go.BigFrame Go.Shelf
theorem Aih (w:World)(P:Stil.Net->Prop)(z:∀x,P x->x.kids.length<=1048576/\∀y∈x.kids,P y)(C:Nat->Prop)(p:∀k,C k->w.heap.size<=k)(M l Y B K N:Nat)(t:∀k,C k->k<M)(i:¬C Y)(q:¬C B)(g:¬C K)(J d:List (Sl w P)->World->Prop)
  (u:∀s W c,J s W->Below W.heap.size W c->J s c)
  (j:∀m pre (x:Sl w P) W,J pre W->pre.length<N->YieldAt Fence.wide m prog l #[.agg #[.int .i64 x.net.kind, .int .i64 x.net.one.op,x.av,x.kv]] W λe c=>(e=.returned (.bool true)/\J (pre++[x]) c/\Kept w.heap.size C W c)\/(e=.returned (.bool false)/\d (pre++[x]) c))
  (es:List Stil.Net) (hl:es.length<=1048576) (r:∀x∈es,P x):Ada w P C M l Y B K N J d es:=by
 refine Ag2 w P C p M l Y B K N t i q g J d u j es hl r (λx v=>?_);have key:∀n:Stil.Net,P n->Ada w P C M l Y B K N J d n.kids:=by
  intro n;induction n using Gf with
  | h a b kids A=>
   intro D;have f:=z _ D;exact Ag2 w P C p M l Y B K N t i q g J d u j kids f.1 f.2 (λy o=>A y o (f.2 y o))
 exact key x (r x v)
theorem Ak1 (w:World)(P:Stil.Net->Prop)(S:∀x,P x->x.kids.length<=1048576/\∀ac∈x.kids,P ac)(C:Nat->Prop)(E:∀k,C k->w.heap.size<=k)(M A K:Nat)(o:∀k,C k->k<M)(kS:¬C K)(_hAC:¬C A)(es:List Stil.Net)(hl:es.length<=1048576)(I:∀x∈es,P x)(v:Value)(w0:World)
  (q:Below w.heap.size w w0) (U:M<=w0.heap.size) (g:Pq w C w0 v es) (L:w0.cell? ⟨A,0,none⟩=some v) (z:w0.cell? ⟨K,0,none⟩=some (.func (.func 121) #[] #[])) (n:Nat):
  SeqStopsK Fence.wide n prog 126 #[.pointer (some ⟨K,0,none⟩), .pointer (some ⟨A,0,none⟩)] (λx:Sl w P=>#[Value.agg #[.int .i64 x.net.kind, .int .i64 x.net.one.op,x.av,x.kv]]) (Kept w.heap.size C) (λb=>b.map Sl.net=Ef es) (λpre=>pre.map Sl.net<+:Ef es) (Ef es).length w0:=by
 intro l J N W c O _ G h0;have ae:∀(f:Fn) (first cap:Array Value) (w:World),(Instr.makeFunc f first cap).run prog w=.ok (.func f first cap) w:=λ_ _ _ _=>rfl
 have ah:∀(f:Fn) (r y:Array Value) (P:Program) (w:World) (a:Addr) (m:Mode),(store a (.func f r y) m).run P w=stored P w a (.func f r y) m:=λf r y P w a m=>run_store P w a _ m rfl
 have R:=(c.cell (p:=⟨A,0,none⟩) (Bi L)).trans L;have D:=(c.cell (p:=⟨K,0,none⟩) (Bi z)).trans z;have ai:=Bi R;have qV:=Bi D;have af:=c.size
 have iT:Hid (∀d,Below W.heap.size W d->d.cell? ⟨W.heap.size,0,none⟩=some (.func (.yield l) #[] #[])->d.cell? ⟨W.heap.size+1,0,none⟩=some (.func (.func 127) #[] #[.pointer (some ⟨W.heap.size,0,none⟩), .pointer (some ⟨W.heap.size+1,0,none⟩), .pointer (some ⟨K,0,none⟩)])->
   CallsIn Fence.wide (n - 1) prog 127 #[v, .pointer (some ⟨W.heap.size,0,none⟩), .pointer (some ⟨W.heap.size+1,0,none⟩), .pointer (some ⟨K,0,none⟩)] d λe u=>
    (e=.returned (.bool true)/\∃b:List (Sl w P),b.map Sl.net=Ef es/\J ([]++b) u/\Kept w.heap.size C d u)\/
    (e=.returned (.bool false)/\∃b:List (Sl w P),b.map Sl.net<+:Ef es/\N ([]++b) u)):=by
  intro d i Q Z;have F:∀(s:List (Sl w P)) (X Y:World),J s X->Below X.heap.size X Y->J s Y:=λs X Y g j=>O s X Y none g ⟨j.os,j.tape,j.output,j.size,λk hk _=>j.block k hk⟩ (λag e=>by cases e)
  have T:=(q.trans (c.mono q.size)).trans (i.mono (A6e q.size c.size));refine Aih w P S C E M l W.heap.size (W.heap.size+1) K (Ef es).length o (λh=>by have:=o _ h;omega) (λh=>by have:=o _ h;omega) kS J N F (λm pre x X ug ab=>YieldAt.anyDepth rfl m (G pre x X ug ab)) es hl I (n - 1) v [] d (g.keep ((Jt.of_below c).call i)) ⟨Q,Z,(i.cell (p:=⟨K,0,none⟩) qV).trans D⟩ (F _ _ _ h0 i) T (A6e U (A6e c.size i.size)) spz
 obtain⟨B,sl,H,rfl⟩:∃B sl H,v=.slice B sl H:=by obtain⟨a,cap,hv,_⟩:=g;exact⟨_,_,_,hv⟩
 clear G O g hl I E o;refine callsIn_of_wp func126 rfl trivial ?_ rfl;simp only[ntmps126,A55,A53,A54,Nat.reduceAdd,Nat.reduceSub,A6v,A6w,A61,A6y,A6t,A6s]
 gi_wp2_with (refine⟨trivial,λh=>yAi,?_⟩;refine(iT _ blA (by simp[go_sem]) (by simp[go_sem])).mono ?_;rintro e W3 (⟨rfl,b,t,aa,_⟩ | ⟨rfl,b,t,V⟩))
 ·go_end0
  exact⟨⟨_,rfl⟩, .inl ⟨b,t,by simpa using aa⟩⟩
 ·go_end0
  exact⟨⟨_,rfl⟩, .inr ⟨b,t,by simpa using V⟩⟩
theorem An5 (a:Option Addr)(g cap:Nat)(w:World):Calls prog 120 #[.slice a g cap, .func (.func 121) #[] #[]] w λe c=>e=.returned (.func (.func 126) #[] #[.pointer (some ⟨w.heap.size+1,0,none⟩), .pointer (some ⟨w.heap.size,0,none⟩)])/\
  c.cell? ⟨w.heap.size,0,none⟩=some (.slice a g cap)/\c.cell? ⟨w.heap.size+1,0,none⟩=some (.func (.func 121) #[] #[])/\Below w.heap.size w c:=by
 have i:∀(b:Fn) (first cap:Array Value) (w:World),(Instr.makeFunc b first cap).run prog w=.ok (.func b first cap) w:=λ_ _ _ _=>rfl
 have j:∀(b:Fn) (f d:Array Value) (P:Program) (w:World) (a:Addr) (m:Mode),(store a (.func b f d) m).run P w=stored P w a (.func b f d) m:=λb f d P w a m=>run_store P w a _ m rfl
 go_enter func120,ntmps120
 go_wp2
 go_ret;exact⟨rfl,by simp[go_sem],by simp[go_sem],blA⟩
theorem Aii (w:World)(P:Stil.Arm->Prop)(z:∀x,P x->x.kids.length<=1048576/\∀y∈x.kids,P y)(C:Nat->Prop)(p:∀k,C k->w.heap.size<=k)(M l Y B K N:Nat)(t:∀k,C k->k<M)(i:¬C Y)(q:¬C B)(g:¬C K)(J d:List (Qv w P)->World->Prop)
  (u:∀s W c,J s W->Below W.heap.size W c->J s c)
  (j:∀m pre (x:Qv w P) W,J pre W->pre.length<N->YieldAt Fence.wide m prog l #[.agg #[.int .i64 x.arm.net.kind, .int .i64 x.arm.net.one.op,x.av,x.nv,x.cv,x.kv]] W λe c=>(e=.returned (.bool true)/\J (pre++[x]) c/\Kept w.heap.size C W c)\/(e=.returned (.bool false)/\d (pre++[x]) c))
  (es:List Stil.Arm) (hl:es.length<=1048576) (r:∀x∈es,P x):Adb w P C M l Y B K N J d es:=by
 refine Ag3 w P C p M l Y B K N t i q g J d u j es hl r (λx v=>?_);have key:∀n:Stil.Arm,P n->Adb w P C M l Y B K N J d n.kids:=by
  intro n;induction n using Fz with
  | h a b kids A=>
   intro D;have f:=z _ D;exact Ag3 w P C p M l Y B K N t i q g J d u j kids f.1 f.2 (λy o=>A y o (f.2 y o))
 exact key x (r x v)
theorem Ak2 (w:World)(P:Stil.Arm->Prop)(S:∀x,P x->x.kids.length<=1048576/\∀ac∈x.kids,P ac)(C:Nat->Prop)(E:∀k,C k->w.heap.size<=k)(M A K:Nat)(o:∀k,C k->k<M)(kS:¬C K)(_hAC:¬C A)(es:List Stil.Arm)(hl:es.length<=1048576)(I:∀x∈es,P x)(v:Value)(w0:World)
  (q:Below w.heap.size w w0) (U:M<=w0.heap.size) (g:Oq w C w0 v es) (L:w0.cell? ⟨A,0,none⟩=some v) (z:w0.cell? ⟨K,0,none⟩=some (.func (.func 114) #[] #[])) (n:Nat):
  SeqStopsK Fence.wide n prog 118 #[.pointer (some ⟨K,0,none⟩), .pointer (some ⟨A,0,none⟩)] (λx:Qv w P=>#[Value.agg #[.int .i64 x.arm.net.kind, .int .i64 x.arm.net.one.op,x.av,x.nv,x.cv,x.kv]]) (Kept w.heap.size C) (λb=>b.map Qv.arm=Dz es) (λpre=>pre.map Qv.arm<+:Dz es) (Dz es).length w0:=by
 intro l J N W c O _ G h0;have ae:∀(f:Fn) (first cap:Array Value) (w:World),(Instr.makeFunc f first cap).run prog w=.ok (.func f first cap) w:=λ_ _ _ _=>rfl
 have ah:∀(f:Fn) (r y:Array Value) (P:Program) (w:World) (a:Addr) (m:Mode),(store a (.func f r y) m).run P w=stored P w a (.func f r y) m:=λf r y P w a m=>run_store P w a _ m rfl
 have R:=(c.cell (p:=⟨A,0,none⟩) (Bi L)).trans L;have D:=(c.cell (p:=⟨K,0,none⟩) (Bi z)).trans z;have ai:=Bi R;have qV:=Bi D;have af:=c.size
 have iT:Hid (∀d,Below W.heap.size W d->d.cell? ⟨W.heap.size,0,none⟩=some (.func (.yield l) #[] #[])->d.cell? ⟨W.heap.size+1,0,none⟩=some (.func (.func 119) #[] #[.pointer (some ⟨W.heap.size,0,none⟩), .pointer (some ⟨W.heap.size+1,0,none⟩), .pointer (some ⟨K,0,none⟩)])->
   CallsIn Fence.wide (n - 1) prog 119 #[v, .pointer (some ⟨W.heap.size,0,none⟩), .pointer (some ⟨W.heap.size+1,0,none⟩), .pointer (some ⟨K,0,none⟩)] d λe u=>
    (e=.returned (.bool true)/\∃b:List (Qv w P),b.map Qv.arm=Dz es/\J ([]++b) u/\Kept w.heap.size C d u)\/
    (e=.returned (.bool false)/\∃b:List (Qv w P),b.map Qv.arm<+:Dz es/\N ([]++b) u)):=by
  intro d i Q Z;have F:∀(s:List (Qv w P)) (X Y:World),J s X->Below X.heap.size X Y->J s Y:=λs X Y g j=>O s X Y none g ⟨j.os,j.tape,j.output,j.size,λk hk _=>j.block k hk⟩ (λag e=>by cases e)
  have T:=(q.trans (c.mono q.size)).trans (i.mono (A6e q.size c.size));refine Aii w P S C E M l W.heap.size (W.heap.size+1) K (Dz es).length o (λh=>by have:=o _ h;omega) (λh=>by have:=o _ h;omega) kS J N F (λm pre x X ug ab=>YieldAt.anyDepth rfl m (G pre x X ug ab)) es hl I (n - 1) v [] d (g.keep ((Jt.of_below c).call i)) ⟨Q,Z,(i.cell (p:=⟨K,0,none⟩) qV).trans D⟩ (F _ _ _ h0 i) T (A6e U (A6e c.size i.size)) spz
 obtain⟨B,sl,H,rfl⟩:∃B sl H,v=.slice B sl H:=by obtain⟨a,cap,hv,_⟩:=g;exact⟨_,_,_,hv⟩
 clear G O g hl I E o;refine callsIn_of_wp func118 rfl trivial ?_ rfl;simp only[ntmps118,A55,A53,A54,Nat.reduceAdd,Nat.reduceSub,A6v,A6w,A61,A6y,A6t,A6s]
 gi_wp2_with (refine⟨trivial,λh=>yAi,?_⟩;refine(iT _ blA (by simp[go_sem]) (by simp[go_sem])).mono ?_;rintro e W3 (⟨rfl,b,t,aa,_⟩ | ⟨rfl,b,t,V⟩))
 ·go_end0
  exact⟨⟨_,rfl⟩, .inl ⟨b,t,by simpa using aa⟩⟩
 ·go_end0
  exact⟨⟨_,rfl⟩, .inr ⟨b,t,by simpa using V⟩⟩
theorem An6 (a:Option Addr)(g cap:Nat)(w:World):Calls prog 113 #[.slice a g cap, .func (.func 114) #[] #[]] w λe c=>e=.returned (.func (.func 118) #[] #[.pointer (some ⟨w.heap.size+1,0,none⟩), .pointer (some ⟨w.heap.size,0,none⟩)])/\
  c.cell? ⟨w.heap.size,0,none⟩=some (.slice a g cap)/\c.cell? ⟨w.heap.size+1,0,none⟩=some (.func (.func 114) #[] #[])/\Below w.heap.size w c:=by
 have i:∀(b:Fn) (first cap:Array Value) (w:World),(Instr.makeFunc b first cap).run prog w=.ok (.func b first cap) w:=λ_ _ _ _=>rfl
 have j:∀(b:Fn) (f d:Array Value) (P:Program) (w:World) (a:Addr) (m:Mode),(store a (.func b f d) m).run P w=stored P w a (.func b f d) m:=λb f d P w a m=>run_store P w a _ m rfl
 go_enter func113,ntmps113
 go_wp2
 go_ret;exact⟨rfl,by simp[go_sem],by simp[go_sem],blA⟩
end Go.Proofs.YtnpfcnolmkanfaaGreatDoor
namespace Go.Proofs.YtnpfcnolmkanfaaGreatDoor
open Tryz
open Stil
open Go.RowKit Go.Sort Go.BigFrame
theorem Aen (op:Int)(a:Option Addr)(b cap:Nat)(w:World)(_h:b<=9223372036854775807):
  Calls prog 95 #[.agg #[.int .i64 op, .slice a b cap]] w λe f=>e=.returned (.bool (op==0 && b==0))/\Below w.heap.size w f:=by
 by_cases c:op=0
 ·subst c
  go_enter func95,ntmps95
  go_wp2
  all_goals go_ret
  all_goals refine⟨Ap ?_,blA⟩
  all_goals (go_light;rw[A7e];simp;try omega)
 ·have d:(op==0)=false:=by rw[A64];exact c
  go_enter func95,ntmps95
  go_wp2
  all_goals go_ret
  all_goals refine⟨Ap ?_,blA⟩
  all_goals (go_light;simp[d])
end Go.Proofs.YtnpfcnolmkanfaaGreatDoor
namespace Go.Proofs.YtnpfcnolmkanfaaGreatDoor
open Tryz
open Stil
open Go.RowKit Go.Sort Go.BigFrame Go.Shelf
attribute [local go_sem] Oper.semAt_some
theorem Ag4 (k op:Int)(d p:Option Addr)(f l g cap:Nat)(w:World):
  Calls prog 115 #[.agg #[.int .i64 k, .int .i64 op, .slice d f l, .slice p g cap]] w λe a=>∃b A K,e=.returned (.func (.func 126) #[] #[.pointer (some ⟨K,0,none⟩), .pointer (some ⟨A,0,none⟩)])/\w.heap.size<=b/\w.heap.size<=A/\w.heap.size<=K/\
   a.cell? ⟨A,0,none⟩=some (.slice (some ⟨b,0,none⟩) 1 1)/\a.cell? ⟨K,0,none⟩=some (.func (.func 121) #[] #[])/\
   a.cell? ⟨b,0,none⟩=some (.int .i64 k)/\a.cell? ⟨b,1,none⟩=some (.int .i64 op)/\a.cell? ⟨b,2,none⟩=some (.slice d f l)/\a.cell? ⟨b,3,none⟩=some (.slice p g cap)/\Below w.heap.size w a:=by
 have o:∀(i:Fn) (first cap:Array Value) (w:World),(Instr.makeFunc i first cap).run prog w=.ok (.func i first cap) w:=λ_ _ _ _=>rfl
 go_enter func115,ntmps115
 go_wp2_with (go_at_call 120;refine(An5 _ _ _ _).mono ?_;rintro e q ⟨rfl,j,c,m⟩)
 simp only[World.size_alloc] at j c;go_ret;refine⟨w.heap.size+1,_,_,rfl,omz,omz,omz,j,c,?_,?_,?_,?_,blA⟩;all_goals (rw[m.cell (p:=⟨w.heap.size+1,_,none⟩) spz];simp[go_sem])
theorem Ag5 (a:Option Addr)(c cap:Nat)(w:World):
  Calls prog 105 #[.slice a c cap] w λe b=>∃A K,e=.returned (.func (.func 118) #[] #[.pointer (some ⟨K,0,none⟩), .pointer (some ⟨A,0,none⟩)])/\w.heap.size<=A/\w.heap.size<=K/\
   b.cell? ⟨A,0,none⟩=some (.slice a c cap)/\b.cell? ⟨K,0,none⟩=some (.func (.func 114) #[] #[])/\Below w.heap.size w b:=by
 have i:∀(d:Fn) (first cap:Array Value) (w:World),(Instr.makeFunc d first cap).run prog w=.ok (.func d first cap) w:=λ_ _ _ _=>rfl
 go_enter func105,ntmps105
 go_wp2_with (go_at_call 113;refine(An6 _ _ _ _).mono ?_;rintro e k ⟨rfl,g,f,j⟩)
 go_ret;exact⟨_,_,rfl,omz,omz,g,f,blA⟩
theorem Aoa (n:Stil.Net)(av R:Value)(d:Int)(w:World)(H:Dh w av n.one.args)(V:E8 w R n.kids)(X:Dt n)(aa:Am n<=1000000000)(_hl1:-9223372036854775808<=d)(_hl2:d<=9223372036854775807):
  Calls prog 106 #[.agg #[.int .i64 n.kind, .int .i64 n.one.op,av,R], .int .i64 d] w λe w'=>∃r:Nat,e=.returned (.int .i64 r)/\((Am n:Int)<=d->r=Am n)/\(d<Am n->d<r)/\r<=Am n/\Below w.heap.size w w':=by
 have q:Hid ((Ef [n]).length=Am n):=by show _=_;rw[Aeb,Arl]
 obtain⟨z,U⟩:∃z,z=Am n:=⟨_,rfl⟩
 rw[<-U] at aa q ⊢;clear U;refine(callsIn_wide (n:=9)).1 ?_;have iY:=hid H;have sN:=hid V;obtain⟨y,E,rfl,_⟩:=H;obtain⟨F,G,rfl,_⟩:=V;refine callsIn_of_wp_marks func106 rfl trivial ?_ rfl;simp only[ntmps106,A55,A53,A54,Nat.reduceAdd,Nat.reduceSub,A6v,A6w,A61,A6y,A6t,A6s]
 gi_wp2_with (refine⟨trivial,?_⟩;gi_at_call 115;refine(callsIn_wide.2 (Ag4 _ _ _ _ _ _ _ _ _)).mono ?_;rintro e j ⟨b,A,K,rfl,an,ab,ac,Z,f,L,P,M,I,hb⟩)
 simp only[World.size_alloc] at an ab ac;have T:Below w.heap.size w j:=blA;have ai:j.cell? ⟨w.heap.size+1,0,none⟩=some (.int .i64 d):=clA hb;have ag:j.cell? ⟨w.heap.size+1+1,0,none⟩=some (.int .i64 0):=clA hb;have ak:j.frozen? ⟨w.heap.size+1+1,0,none⟩=false:=frA hb;have ap:w.heap.size+3<=j.heap.size:=by have:=hb.size;simp at this;omega
 have S:Pq w (λk=>k=w.heap.size+1+1) j (.slice (some ⟨b,0,none⟩) 1 1) [n]:=by
  refine⟨_,1,rfl,λi hi=>⟨b,0,rfl,(λh:b=_=>by omega), .slice y n.one.args.length E, .slice F n.kids.length G,?_⟩⟩;obtain rfl:i=0:=by simpa using hi
  simp only[A8a,A6b,A7a];exact⟨L,P,M,I,iY.out,sN.out⟩
 have O:Hid (SeqStopsK Fence.wide (9 - 1) prog 126 #[.pointer (some ⟨K,0,none⟩), .pointer (some ⟨A,0,none⟩)] (λx:Sl w Dt=>#[Value.agg #[.int .i64 x.net.kind, .int .i64 x.net.one.op,x.av,x.kv]]) (Kept w.heap.size (λk=>k=w.heap.size+1+1)) (λB=>B.map Sl.net=Ef [n]) (λpre=>pre.map Sl.net<+:Ef [n]) (Ef [n]).length j):=
  Ak1 w Dt (λx Q=>⟨(Ei Q).2.2.1,(Ei Q).2.2.2⟩) (λk=>k=w.heap.size+1+1) (λk (h:k=_)=>by omega) (w.heap.size+3) A K (λk (h:k=_)=>by omega) (λh:K=_=>by omega) (λh:A=_=>by omega) [n] spz (by simpa using X) _ j T ap S Z f _
 clear S hb L P M I Z f X;obtain⟨N,Y⟩:∃N,N=(Ef [n]).length:=⟨_,rfl⟩
 rw[<-Y] at O;have ar:N=z:=by rw[Y,q.out]
 refine wpIn_rangeFunc_ownG rfl dcz (gf:=126) (lb:=#[.pointer (some ⟨K,0,none⟩), .pointer (some ⟨A,0,none⟩)]) rfl trivial (enters_of func126 krz rfl)
  O Kept.t (Kept.b omz) (Below.refl _ _) (λ_=>rfl)
  (λpre W=>(W.cell? ⟨w.heap.size+1+1,0,none⟩=some (.int .i64 (pre.length:Int))/\W.frozen? ⟨w.heap.size+1+1,0,none⟩=false/\W.cell? ⟨w.heap.size+1,0,none⟩=some (.int .i64 d))/\Below w.heap.size w W)
  (λc pre W=>(c=.exit 0/\d<pre.length/\W.cell? ⟨w.heap.size+1+1,0,none⟩=some (.int .i64 (pre.length:Int)))/\Below w.heap.size w W)
  (OwnFrom.and (Own.from (λs A ah row g o m=>⟨cell_kept g.1 o m,(frozen_kept g.1 o m).trans g.2.1,cell_kept g.2.2 o m⟩) _) (ownFrom_below (A57 _) omz))
  (λc=>OwnFrom.and (Own.from (λs A ah row g o m=>⟨g.1,g.2.1,cell_kept g.2.2 o m⟩) _) (ownFrom_below (A57 _) omz))
  ⟨⟨by simpa using ag,ak,ai⟩,T⟩
  (λx=>{tmps:=#[.agg #[.int .i64 n.kind, .int .i64 n.one.op, .slice y n.one.args.length E, .slice F n.kids.length G], .int .i64 d, .pointer (some ⟨w.heap.size,0,none⟩), .pointer (some ⟨w.heap.size+1,0,none⟩), .int .i64 0, .pointer (some ⟨w.heap.size+1+1,0,none⟩), .agg #[.int .i64 n.kind, .int .i64 n.one.op, .slice y n.one.args.length E, .slice F n.kids.length G], .func (.func 126) #[] #[.pointer (some ⟨K,0,none⟩), .pointer (some ⟨A,0,none⟩)], .agg #[.int .i64 x.net.kind, .int .i64 x.net.one.op,x.av,x.kv],undef,undef,undef,undef,undef,undef],defers:=[]}) ?assign ?body ?done ?stop
 case assign=>
  intro ae x W KK aA
  gi_wp2
  simpa using aA
 case body=>
  rintro ae pre x W ⟨⟨u,al,aj⟩,l⟩ aw;have ay:=Bi u;have hw:IntKind.i64.wrap ((pre.length:Int)+1)=(pre.length:Int)+1:=by rw[IntKind.wrap_i64];omega
  have J:(W.setCell ⟨w.heap.size+1+1,0,none⟩ (.int .i64 ((pre.length:Int)+1))).cell? ⟨w.heap.size+1+1,0,none⟩=some (.int .i64 ((pre++[x]).length:Int)):=by
   rw[Gh u];simp
  by_cases ax:d<(pre.length:Int)+1
  ·gi_wp2
   exact⟨(KeepsOthers.setCell _ _ _).from _,⟨rfl,by simp;omega,J⟩,l.setCell (p:=⟨w.heap.size+1+1,0,none⟩) yAd _⟩
  ·gi_wp2
   exact⟨(KeepsOthers.setCell _ _ _).from _,⟨(Below.refl _ W).setCell (p:=⟨w.heap.size+1+1,0,none⟩) yAd _,Jt.set (C:=λk=>k=w.heap.size+1+1) (Jt.refl _ _) (show _=_ from rfl) _⟩,⟨J,by rw[World.frozen?_setCell];exact al,by rw[Bq omz];exact aj⟩,l.setCell (p:=⟨w.heap.size+1+1,0,none⟩) yAd _⟩
 case done=>
  rintro D B W hD hS ⟨⟨u,_⟩,l⟩ f;have ao:B.length=z:=by have:=congrArg List.length hS;rw[A6i,q.out] at this;exact this
  gi_wp2
  refine⟨spz, .inl ⟨_,_,rfl,run_takeDeferred f,?_⟩⟩;exact⟨_,results_tmp rfl _ _ _,z,rfl,λ_=>rfl,λh=>h,A57 _,l.trans (belowK_b (w:=w) (A57 _) W D _ _ omz f rfl rfl)⟩
 case stop=>
  rintro D c pre W hD af ⟨⟨rfl,au,u⟩,l⟩ f;have ao:pre.length<=z:=by have:=af.length_le;rw[A6i,q.out] at this;exact this
  gi_wp2
  refine⟨spz, .inl ⟨_,_,rfl,run_takeDeferred f,?_⟩⟩;exact⟨_,results_tmp rfl _ _ _,pre.length,rfl,λh=>by omega,λh=>by omega,omz,l.trans (belowK_b (w:=w) (A57 _) W D _ _ omz f rfl rfl)⟩
end Go.Proofs.YtnpfcnolmkanfaaGreatDoor
namespace Go.Proofs.YtnpfcnolmkanfaaGreatDoor
open Tryz
open Stil
open Go.RowKit Go.Sort Go.BigFrame Go.Shelf
attribute [local go_sem] Oper.semAt_some
theorem Ti (n:Stil.Net)(x m:Value)(w:World)(y:Dh w x n.one.args)(A:E8 w m n.kids)(f:Dt n):
  Calls prog 69 #[.agg #[.int .i64 n.kind, .int .i64 n.one.op,x,m]] w λe j=>e=.returned (.bool (Ar n))/\Below w.heap.size w j:=by
 obtain⟨_,l,C,_⟩:=Ei f;have D:=l.2.1;obtain⟨z,E,rfl,_⟩:=y;obtain⟨G,F,rfl,_⟩:=A;clear f l;have a:Hid (Ar n=((n.kind==0 && (n.one.op==0 && n.one.args.length==0)) && n.kids.length==0)):=by show _=_;unfold Ar;simp only[Bool.and_assoc]
 have b:Hid (∀W,Calls prog 95 #[.agg #[.int .i64 n.one.op, .slice z n.one.args.length E]] W λe j=>e=.returned (.bool (n.one.op==0 && n.one.args.length==0))/\Below W.heap.size W j):=λW=>Aen _ _ _ _ _ omz
 obtain⟨i,t⟩:∃i,i=(n.one.op==0 && n.one.args.length==0):=⟨_,rfl⟩
 rw[<-t] at a b;obtain⟨g,u⟩:∃g,g=n.kids.length:=⟨_,rfl⟩
 obtain⟨q,s⟩:∃q,q=n.one.args.length:=⟨_,rfl⟩
 rw[<-u] at a C ⊢;rw[<-s] at b D ⊢;obtain⟨k,r⟩:∃k,k=n.kind:=⟨_,rfl⟩
 rw[<-r] at a ⊢;clear t u s r;by_cases o:k=0
 ·subst o
  cases i
  ·go_enter func69,ntmps69
   go_wp2_with (go_at_call 95;refine(b _).mono ?_;rintro e v ⟨rfl,c⟩)
   all_goals go_ret
   all_goals exact⟨Ap (by rw[a.out];simp),blA⟩
  ·by_cases d:g=0
   ·subst d
    go_enter func69,ntmps69
    go_wp2_with (go_at_call 95;refine(b _).mono ?_;rintro e v ⟨rfl,c⟩;obtain⟨B,f⟩:=D7 c)
    all_goals go_ret
    all_goals exact⟨Ap (by rw[a.out];simp),blA⟩
   ·have H:((g:Int)==0)=false:=by rw[A64];omega
    go_enter func69,ntmps69
    go_wp2_with (go_at_call 95;refine(b _).mono ?_;rintro e v ⟨rfl,c⟩;obtain⟨B,f⟩:=D7 c)
    all_goals go_ret
    all_goals exact⟨Ap (by rw[a.out];simp[d]),blA⟩
 ·have d:(k==0)=false:=by rw[A64];exact o
  go_enter func69,ntmps69
  go_wp2
  all_goals go_ret
  all_goals exact⟨Ap (by rw[a.out,d];rfl),blA⟩
end Go.Proofs.YtnpfcnolmkanfaaGreatDoor
namespace Go.Proofs.YtnpfcnolmkanfaaGreatDoor
open Tryz
open Stil
open Go.RowKit Go.Sort Go.BigFrame Go.Shelf
attribute [local go_sem] Oper.semAt_some
def Ayz (W:World)(B:Nat)(k op:Int)(a n c d:Value):Prop:=W.cell? ⟨B,0,none⟩=some (.int .i64 k)/\W.cell? ⟨B,1,none⟩=some (.int .i64 op)/\W.cell? ⟨B,2,none⟩=some a/\W.cell? ⟨B,3,none⟩=some n/\W.cell? ⟨B,4,none⟩=some c/\W.cell? ⟨B,5,none⟩=some d
theorem Ahr {β:Type}(B:Nat)(k op:Int)(a n c d:Value):Own (λ(_:β) W=>Ayz W B k op a n c d):=λ_ _ _ _ e b f=>
 ⟨cell_kept e.1 b f,cell_kept e.2.1 b f,cell_kept e.2.2.1 b f,cell_kept e.2.2.2.1 b f,cell_kept e.2.2.2.2.1 b f,cell_kept e.2.2.2.2.2 b f⟩
theorem zt {p:Prop}(h:p:=by
 have hrn:r=ns:=by
  by_cases h:(ns:Int)<=limit - ((S:Int)+(1+cn))
  ·exact hr1 h
  ·have:=hr2 omz
   omega
 gi_wp2
 exact⟨by(repeat (first | with_reducible exact KeepsFrom.refl _ _ | with_reducible refine V4 ?_ _ _ | with_reducible refine Qq ?_ | with_reducible refine Nh ?_ _ | with_reducible refine Qr ?_ yCj)),Akv (b:=w.heap.size+1) (Va (Aww (Va (Akv (b:=w.heap.size+1) (Kept.refl w.heap.size (λk=>k=w.heap.size+1) W) yBe rfl _) hn hb2)) hn hb3) yBe rfl _,⟨⟨⟨by rw[Gh c3,dB.out,hoe];simp;omega,by rw[World.frozen?_setCell];exact z3,by rw[Bq yBe];exact l3⟩,blA⟩,by rw[dB.out];omega,by rw[dB.out,zi.out];omega,by have:=hb2.size;have:=hb3.size;simp at*;omega⟩⟩):p:=h
theorem zg0 {p:Prop}(h:p:=by
 gi_wp2
 exact⟨by(repeat (first | with_reducible exact KeepsFrom.refl _ _ | with_reducible refine V4 ?_ _ _ | with_reducible refine Qq ?_ | with_reducible refine Nh ?_ _ | with_reducible refine Qr ?_ yCj)),⟨rfl,S+(1+cn)+r,by omega,by rw[dB.out];omega,by rw[Gh c3];simp⟩,blA⟩):p:=h
theorem An1 (g:List Stil.Arm)(v:Value)(limit:Int)(w:World)(Q:Ea w v g)(hf:∀x∈g,Cm x)(hl:g.length<=1048576)(aj:Bv g<=1000000000)(aN:0<=limit)(aQ:limit<=9223372036854775807):
  Calls prog 83 #[v, .int .i64 limit] w λe w'=>∃r:Nat,e=.returned (.int .i64 r)/\((Bv g:Int)<=limit->r=Bv g)/\(limit<Bv g->limit<r)/\r<=Bv g/\Below w.heap.size w w':=by
 have P:=hid (Aou g);obtain⟨z,hz⟩:∃z,z=Bv g:=⟨_,rfl⟩
 rw[<-hz] at aj P ⊢;clear hz;have sH:Hid (∀W,Below w.heap.size w W->Oq w (λk=>k=w.heap.size+1) W v g):=λW h=>Oq.of_at Q h (λk (h:k=_)=>by omega)
 obtain⟨p0,r0,rfl,_⟩:=Q;refine(callsIn_wide (n:=9)).1 ?_;refine callsIn_of_wp_marks func83 rfl trivial ?_ rfl;simp only[ntmps83,A55,A53,A54,Nat.reduceAdd,Nat.reduceSub,A6v,A6w,A61,A6y,A6t,A6s]
 gi_wp2_with (refine⟨trivial,?_⟩;gi_at_call 105;refine(callsIn_wide.2 (Ag5 _ _ _ _)).mono ?_;rintro e q ⟨A,K,rfl,ax,ay,hA,B,hb⟩)
 simp only[World.size_alloc] at ax ay;have ah:Below w.heap.size w q:=blA;have aC:q.cell? ⟨w.heap.size,0,none⟩=some (.int .i64 limit):=by rw[hb.cell (p:=⟨w.heap.size,0,none⟩) yAd];simp[go_sem]
 have az:q.cell? ⟨w.heap.size+1,0,none⟩=some (.int .i64 0):=clA hb;have aL:q.frozen? ⟨w.heap.size+1,0,none⟩=false:=frA hb;have aJ:w.heap.size+2<=q.heap.size:=by have:=hb.size;simp at this;omega
 have HS:Hid (SeqStopsK Fence.wide (9 - 1) prog 118 #[.pointer (some ⟨K,0,none⟩), .pointer (some ⟨A,0,none⟩)] (λx:Qv w (λa=>a∈Dz g)=>#[Value.agg #[.int .i64 x.arm.net.kind, .int .i64 x.arm.net.one.op,x.av,x.nv,x.cv,x.kv]]) (Kept w.heap.size (λk=>k=w.heap.size+1)) (λys=>ys.map Qv.arm=Dz g) (λpre=>pre.map Qv.arm<+:Dz g) (Dz g).length q):=
  Ak2 w (λa=>a∈Dz g) (λx C=>⟨(Hq (Acn g hf x C)).2.2.2.1,Amc g x C⟩) (λk=>k=w.heap.size+1) (λk (h:k=_)=>by omega) (w.heap.size+2) A K (λk (h:k=_)=>by omega) (λh:K=_=>by omega) (λh:A=_=>by omega) g hl (Aov g) _ q ah aJ (sH q ah) hA B _
 have aK:Hid (∀x∈Dz g,Qg x<=z):=λx C=>by rw[<-P.out];exact Art _ C
 have dh:=hid (Acn g hf);have aP:(Dz g).length<=z:=by rw[<-P.out];exact Abt Qg (λx=>by unfold Qg;omega) _
 clear hb hA B hf sH;refine wpIn_rangeFunc_ownH rfl dcz (gf:=118) (lb:=#[.pointer (some ⟨K,0,none⟩), .pointer (some ⟨A,0,none⟩)]) rfl trivial (enters_of func118 krz rfl)
  HS Kept.t (Kept.b omz) (Below.refl _ _) (λ_=>rfl)
  (λpre W=>((W.cell? ⟨w.heap.size+1,0,none⟩=some (.int .i64 ((pre.map (Qg ∘ Qv.arm)).sum:Nat))/\W.frozen? ⟨w.heap.size+1,0,none⟩=false/\W.cell? ⟨w.heap.size,0,none⟩=some (.int .i64 limit))/\Below w.heap.size w W)/\(((pre.map (Qg ∘ Qv.arm)).sum:Nat):Int)<=limit/\(pre.map (Qg ∘ Qv.arm)).sum<=pre.length*z/\q.heap.size<=W.heap.size)
  (λc pre W=>(c=.exit 0/\∃t:Nat,limit<t/\t<=(pre.map (Qg ∘ Qv.arm)).sum/\W.cell? ⟨w.heap.size+1,0,none⟩=some (.int .i64 t))/\Below w.heap.size w W)
  (OwnFrom.and (OwnFrom.and (Own.from (λs A ag row j y E=>⟨cell_kept j.1 y E,(frozen_kept j.1 y E).trans j.2.1,cell_kept j.2.2 y E⟩) _) (ownFrom_below (A57 _) omz)) (OwnFrom.and (ownFrom_pure _ _) (OwnFrom.and (ownFrom_pure _ _) (λ_ _ _ _ j y _=>A6e j y.size))))
  (λc=>OwnFrom.and (Own.from (λs A ag row j y E=>⟨j.1,j.2.elim λt X=>⟨t,X.1,X.2.1,cell_kept X.2.2 y E⟩⟩) _) (ownFrom_below (A57 _) omz))
  ⟨⟨⟨by simpa using az,aL,aC⟩,ah⟩,by simpa using aN,spz,A57 _⟩
  (λx a' W=>∃i,q.heap.size<=i/\Ayz W i x.arm.net.kind x.arm.net.one.op x.av x.nv x.cv x.kv/\a'={tmps:=#[.slice p0 g.length r0, .int .i64 limit,undef, .pointer (some ⟨w.heap.size,0,none⟩), .int .i64 0, .pointer (some ⟨w.heap.size+1,0,none⟩), .pointer (some ⟨i,0,none⟩), .slice p0 g.length r0, .func (.func 118) #[] #[.pointer (some ⟨K,0,none⟩), .pointer (some ⟨A,0,none⟩)], .agg #[.int .i64 x.arm.net.kind, .int .i64 x.arm.net.one.op,x.av,x.nv,x.cv,x.kv],undef,undef,undef,undef,undef,undef,undef,undef,undef,undef,undef,undef,undef,undef,undef,undef,undef,undef,undef,undef,undef,undef],defers:=[]})
  (λx a' s A ag row j y E=>j.elim λi C=>⟨i,C.1,Ahr (β:=Unit) i _ _ _ _ _ _ s A ag row C.2.1 y (λr e=>(E r e).2),C.2.2⟩) ?assign ?body ?done ?stop
 case assign=>
  rintro l pre x W f ⟨⟨⟨m,hfz,I⟩,G⟩,J,aa,aw⟩ d;have aH:=Bi m;obtain⟨x,av,nv,cv,kv,Q,aI,aD,aO,aR⟩:=x;obtain⟨q0,s0,rfl,_⟩:=id Q;obtain⟨q1,s1,rfl,_⟩:=id aI;obtain⟨q2,s2,rfl,_⟩:=id aD;obtain⟨q3,s3,rfl,_⟩:=id aO
  gi_wp2
  exact d _ _ ((KeepsOthers.alloc _ _).from _) (Kept.of_below G.size (Aa _ _)) ⟨⟨⟨Ol _ m,O6 _ m hfz,Ol _ I⟩,blA⟩,J,aa,by simp;omega⟩ ⟨W.heap.size,omz,⟨by simp[go_sem],by simp[go_sem],by simp[go_sem],by simp[go_sem],by simp[go_sem],by simp[go_sem]⟩,rfl⟩
 case body=>
  rintro l pre x a' W yL _ ⟨⟨⟨m,hfz,I⟩,G⟩,J,aa,aw⟩ ⟨i,aS,⟨y0,y1,y2,y3,y4,y5⟩,rfl⟩ aF;have aH:=Bi m;have aU:w.heap.size<W.heap.size:=omz
  have uQ:=Bi y0;have hn:w.heap.size<=W.heap.size:=omz
  have R:¬i=w.heap.size+1:=omz
  have aT:¬i=w.heap.size:=omz
  have dB:Hid (((pre++[x]).map (Qg ∘ Qv.arm)).sum=(pre.map (Qg ∘ Qv.arm)).sum+Qg x.arm):=by show _=_;rw[A6g,A78];simp
  have zi:Hid ((pre++[x]).length*z=pre.length*z+z):=by show _=_;rw[A52,Nat.add_mul];simp
  have aX:pre.length*z<=1000000000*1000000000:=Nat.mul_le_mul omz aj;have ae:=(Hq (dh _ x.mem)).1;have um:=(Hq (dh _ x.mem)).2.1;have aM:=aK _ x.mem;have D:Hid (Qg x.arm=1+x.arm.coils.length+(if Ar x.arm.net then 0 else Am x.arm.net)):=rfl;obtain⟨q0,s0,e0,_⟩:=id x.hav;obtain⟨q1,s1,Z,_⟩:=id x.hnv;obtain⟨q2,s2,e2,_⟩:=id x.hcv;obtain⟨q3,s3,e3,_⟩:=id x.hkv;have H:=hid (λaf O=>Ti x.arm.net x.av x.nv af (x.hav.below O) (x.hnv.below O) ae);have M:=hid (λaf O j aE h1 h2=>Aoa x.arm.net x.av x.nv aE af (x.hav.below O) (x.hnv.below O) ae j h1 h2);rw[e0,Z] at H M;rw[e0] at y2;rw[Z] at y3;rw[e2] at y4;rw[e3] at y5;obtain⟨S,hS⟩:∃S,S=(pre.map (Qg ∘ Qv.arm)).sum:=⟨_,rfl⟩
  obtain⟨o,ho⟩:∃o,o=Qg x.arm:=⟨_,rfl⟩
  obtain⟨cn,an⟩:∃cn,cn=x.arm.coils.length:=⟨_,rfl⟩
  rw[<-hS] at m J aa dB;rw[<-ho] at aM dB D;rw[<-an] at um D y4;clear ae hS ho an e0 Z e2 e3 aF yL;cases U:Ar x.arm.net
  ·rw[U] at H D
   have hoe:o=1+cn+Am x.arm.net:=by rw[D.out];simp
   obtain⟨ns,ai⟩:∃ns,ns=Am x.arm.net:=⟨_,rfl⟩
   rw[<-ai] at hoe M;clear ai U D;have ak:IntKind.i64.wrap (limit - ((S:Int)+(1+cn)))=limit - ((S:Int)+(1+cn)):=by rw[IntKind.wrap_i64];omega
   gi_wp2_with (refine⟨trivial,?_⟩;gi_at_call 69;refine(CallsIn.inRound l (callsIn_wide.2 (H _ blA))).mono ?_;rintro e N ⟨rfl,hb2⟩;have u:=(hb2.cell (p:=⟨w.heap.size+1,0,none⟩) yAd).trans (Gh m);have L:N.frozen? ⟨w.heap.size+1,0,none⟩=false:=(hb2.frozen (p:=⟨w.heap.size+1,0,none⟩) yAd).trans yEa;have F:=(hb2.cell (p:=⟨w.heap.size,0,none⟩) yAd).trans ((Bq omz).trans I);have v0:=(hb2.cell (p:=⟨i,0,none⟩) yAd).trans ((Bq R).trans y0);have v1:=(hb2.cell (p:=⟨i,1,none⟩) yAd).trans ((Bq R).trans y1);have v2:=(hb2.cell (p:=⟨i,2,none⟩) yAd).trans ((Bq R).trans y2);have v3:=(hb2.cell (p:=⟨i,3,none⟩) yAd).trans ((Bq R).trans y3))
   refine wpIn_region_any krz ?_;try (change wpAnyIn _ _ _ _ _ _ _ _ _ (World.drew _))
   apply share
   ·intro Y
    apply share
    ·intro V
     apply share
     ·intro pg
      apply share
      ·intro ap
       apply share
       ·intro o9
        apply share
        ·intro o8
         apply share
         ·intro T
          apply share
          ·intro ao
           apply share
           ·intro o7
            apply share
            ·intro al
             apply share
             ·intro xO
              apply share
              ·intro sZ
               apply share
               ·intro sW
                apply share
                ·intro sV
                 apply share
                 ·intro xN
                  apply share
                  ·intro xM
                   apply share
                   ·intro sU
                    apply share
                    ·intro xK
                     apply share
                     ·intro xJ
                      apply share
                      ·intro xI
                       apply share
                       ·intro xH
                        apply share
                        ·intro xG
                         apply share
                         ·intro xE
                          refine wpAnyIn_ready (rs:=[0,1,3,4]) krz spz ?_;refine AllReadyIn.cons rfl (λf d=>?_) ?_
                          ·go_simp
                           refine d _ _ ?_;clear d f;refine wpAnyIn_ready (rs:=[1,3,4]) krz spz ?_;refine AllReadyIn.cons rfl (λf d=>?_) ?_
                           ·go_simp
                            refine d _ _ ?_;clear d f;exact xK
                           refine AllReadyIn.cons rfl (λf d=>?_) ?_
                           ·go_simp
                            refine d _ _ ?_;clear d f;exact xJ
                           refine AllReadyIn.cons rfl (λf d=>?_) ?_
                           ·go_simp
                            refine d _ _ ?_;clear d f;exact xI
                           exact AllReadyIn.nil
                          refine AllReadyIn.cons rfl (λf d=>?_) ?_
                          ·go_simp
                           refine d _ _ ?_;clear d f;refine wpAnyIn_ready (rs:=[0,2,3,4]) krz spz ?_;refine AllReadyIn.cons rfl (λf d=>?_) ?_
                           ·go_simp
                            refine d _ _ ?_;clear d f;exact xK
                           refine AllReadyIn.cons rfl (λf d=>?_) ?_
                           ·go_simp
                            refine d _ _ ?_;clear d f;refine wpAnyIn_ready (rs:=[0,3,4]) krz spz ?_;refine AllReadyIn.cons rfl (λf d=>?_) ?_
                            ·go_simp
                             refine d _ _ ?_;clear d f;exact xO
                            refine AllReadyIn.cons rfl (λf d=>?_) ?_
                            ·go_simp
                             refine d _ _ ?_;clear d f;exact xN
                            refine AllReadyIn.cons rfl (λf d=>?_) ?_
                            ·go_simp
                             refine d _ _ ?_;clear d f;exact xM
                            exact AllReadyIn.nil
                           refine AllReadyIn.cons rfl (λf d=>?_) ?_
                           ·go_simp
                            refine d _ _ ?_;clear d f;exact xH
                           refine AllReadyIn.cons rfl (λf d=>?_) ?_
                           ·go_simp
                            refine d _ _ ?_;clear d f;exact xG
                           exact AllReadyIn.nil
                          refine AllReadyIn.cons rfl (λf d=>?_) ?_
                          ·go_simp
                           refine d _ _ ?_;clear d f;refine wpAnyIn_ready (rs:=[0,1,4]) krz spz ?_;refine AllReadyIn.cons rfl (λf d=>?_) ?_
                           ·go_simp
                            refine d _ _ ?_;clear d f;exact xJ
                           refine AllReadyIn.cons rfl (λf d=>?_) ?_
                           ·go_simp
                            refine d _ _ ?_;clear d f;exact xH
                           refine AllReadyIn.cons rfl (λf d=>?_) ?_
                           ·go_simp
                            refine d _ _ ?_;clear d f;exact xE
                           exact AllReadyIn.nil
                          refine AllReadyIn.cons rfl (λf d=>?_) ?_
                          ·go_simp
                           refine d _ _ ?_;clear d f;refine wpAnyIn_ready (rs:=[0,1,3]) krz spz ?_;refine AllReadyIn.cons rfl (λf d=>?_) ?_
                           ·go_simp
                            refine d _ _ ?_;clear d f;exact xI
                           refine AllReadyIn.cons rfl (λf d=>?_) ?_
                           ·go_simp
                            refine d _ _ ?_;clear d f;exact xG
                           refine AllReadyIn.cons rfl (λf d=>?_) ?_
                           ·go_simp
                            refine d _ _ ?_;clear d f;exact xE
                           exact AllReadyIn.nil
                          exact AllReadyIn.nil
                         ·refine wpAnyIn_ready (rs:=[0,1,5]) krz spz ?_
                          refine AllReadyIn.cons rfl (λf d=>?_) ?_
                          ·go_simp
                           refine d _ _ ?_;clear d f;exact sV
                          refine AllReadyIn.cons rfl (λf d=>?_) ?_
                          ·go_simp
                           refine d _ _ ?_;clear d f;exact sU
                          refine AllReadyIn.cons rfl (λf d=>?_) ?_
                          ·go_simp
                           refine d _ _ ?_;clear d f;refine wpAnyIn_ready (rs:=[0,1]) krz spz ?_;refine AllReadyIn.cons rfl (λf d=>?_) ?_
                           ·go_simp
                            refine d _ _ ?_;clear d f;exact ao
                           refine AllReadyIn.cons rfl (λf d=>?_) ?_
                           ·go_simp
                            refine d _ _ ?_;clear d f;exact al
                           exact AllReadyIn.nil
                          exact AllReadyIn.nil
                        ·refine wpAnyIn_ready (rs:=[0,2,3]) krz spz ?_
                         refine AllReadyIn.cons rfl (λf d=>?_) ?_
                         ·go_simp
                          refine d _ _ ?_;clear d f;exact sW
                         refine AllReadyIn.cons rfl (λf d=>?_) ?_
                         ·go_simp
                          refine d _ _ ?_;clear d f;exact xM
                         refine AllReadyIn.cons rfl (λf d=>?_) ?_
                         ·go_simp
                          refine d _ _ ?_;clear d f;exact sU
                         exact AllReadyIn.nil
                       ·refine wpAnyIn_ready (rs:=[0,2,4]) krz spz ?_
                        refine AllReadyIn.cons rfl (λf d=>?_) ?_
                        ·go_simp
                         refine d _ _ ?_;clear d f;exact sZ
                        refine AllReadyIn.cons rfl (λf d=>?_) ?_
                        ·go_simp
                         refine d _ _ ?_;clear d f;exact xN
                        refine AllReadyIn.cons rfl (λf d=>?_) ?_
                        ·go_simp
                         refine d _ _ ?_;clear d f;exact sU
                        exact AllReadyIn.nil
                      ·refine wpAnyIn_ready (rs:=[1,3]) krz spz ?_
                       refine AllReadyIn.cons rfl (λf d=>?_) ?_
                       ·go_simp
                        refine d _ _ ?_;clear d f;exact sW
                       refine AllReadyIn.cons rfl (λf d=>?_) ?_
                       ·go_simp
                        refine d _ _ ?_;clear d f;exact sV
                       exact AllReadyIn.nil
                     ·refine wpAnyIn_ready (rs:=[1,4]) krz spz ?_
                      refine AllReadyIn.cons rfl (λf d=>?_) ?_
                      ·go_simp
                       refine d _ _ ?_;clear d f;exact sZ
                      refine AllReadyIn.cons rfl (λf d=>?_) ?_
                      ·go_simp
                       refine d _ _ ?_;clear d f;exact sV
                      exact AllReadyIn.nil
                    ·refine wpAnyIn_ready (rs:=[2,3,4]) krz spz ?_
                     refine AllReadyIn.cons rfl (λf d=>?_) ?_
                     ·go_simp
                      refine d _ _ ?_;clear d f;exact xO
                     refine AllReadyIn.cons rfl (λf d=>?_) ?_
                     ·go_simp
                      refine d _ _ ?_;clear d f;exact sZ
                     refine AllReadyIn.cons rfl (λf d=>?_) ?_
                     ·go_simp
                      refine d _ _ ?_;clear d f;exact sW
                     exact AllReadyIn.nil
                   ·refine wpAnyIn_ready (rs:=[0,2,5]) krz spz ?_
                    refine AllReadyIn.cons rfl (λf d=>?_) ?_
                    ·go_simp
                     refine d _ _ ?_;clear d f;exact T
                    refine AllReadyIn.cons rfl (λf d=>?_) ?_
                    ·go_simp
                     refine d _ _ ?_;clear d f;exact o7
                    refine AllReadyIn.cons rfl (λf d=>?_) ?_
                    ·go_simp
                     refine d _ _ ?_;clear d f;exact al
                    exact AllReadyIn.nil
                  ·refine wpAnyIn_ready (rs:=[0,3]) krz spz ?_
                   refine AllReadyIn.cons rfl (λf d=>?_) ?_
                   ·go_simp
                    refine d _ _ ?_;clear d f;exact o8
                   refine AllReadyIn.cons rfl (λf d=>?_) ?_
                   ·go_simp
                    refine d _ _ ?_;clear d f;exact o7
                   exact AllReadyIn.nil
                 ·refine wpAnyIn_ready (rs:=[0,4]) krz spz ?_
                  refine AllReadyIn.cons rfl (λf d=>?_) ?_
                  ·go_simp
                   refine d _ _ ?_;clear d f;exact o9
                  refine AllReadyIn.cons rfl (λf d=>?_) ?_
                  ·go_simp
                   refine d _ _ ?_;clear d f;exact o7
                  exact AllReadyIn.nil
                ·refine wpAnyIn_ready (rs:=[1,5]) krz spz ?_
                 refine AllReadyIn.cons rfl (λf d=>?_) ?_
                 ·go_simp
                  refine d _ _ ?_;clear d f;exact T
                 refine AllReadyIn.cons rfl (λf d=>?_) ?_
                 ·go_simp
                  refine d _ _ ?_;clear d f;exact ao
                 exact AllReadyIn.nil
               ·refine wpAnyIn_ready (rs:=[2,3]) krz spz ?_
                refine AllReadyIn.cons rfl (λf d=>?_) ?_
                ·go_simp
                 refine d _ _ ?_;clear d f;exact o8
                refine AllReadyIn.cons rfl (λf d=>?_) ?_
                ·go_simp
                 refine d _ _ ?_;clear d f;exact T
                exact AllReadyIn.nil
              ·refine wpAnyIn_ready (rs:=[2,4]) krz spz ?_
               refine AllReadyIn.cons rfl (λf d=>?_) ?_
               ·go_simp
                refine d _ _ ?_;clear d f;exact o9
               refine AllReadyIn.cons rfl (λf d=>?_) ?_
               ·go_simp
                refine d _ _ ?_;clear d f;exact T
               exact AllReadyIn.nil
             ·refine wpAnyIn_ready (rs:=[3,4]) krz spz ?_
              refine AllReadyIn.cons rfl (λf d=>?_) ?_
              ·go_simp
               refine d _ _ ?_;clear d f;exact o9
              refine AllReadyIn.cons rfl (λf d=>?_) ?_
              ·go_simp
               refine d _ _ ?_;clear d f;exact o8
              exact AllReadyIn.nil
            ·refine wpAnyIn_ready (rs:=[0,2]) krz spz ?_
             refine AllReadyIn.cons rfl (λf d=>?_) ?_
             ·go_simp
              refine d _ _ ?_;clear d f;exact pg
             refine AllReadyIn.cons rfl (λf d=>?_) ?_
             ·go_simp
              refine d _ _ ?_;clear d f;exact ap
             exact AllReadyIn.nil
           ·refine wpAnyIn_ready (rs:=[0,5]) krz spz ?_
            refine AllReadyIn.cons rfl (λf d=>?_) ?_
            ·go_simp
             refine d _ _ ?_;clear d f;exact V
            refine AllReadyIn.cons rfl (λf d=>?_) ?_
            ·go_simp
             refine d _ _ ?_;clear d f;exact ap
            exact AllReadyIn.nil
          ·refine wpAnyIn_ready (rs:=[1]) krz spz ?_
           refine AllReadyIn.cons rfl (λf d=>?_) AllReadyIn.nil;go_simp;refine d _ _ ?_;clear d f;exact pg
         ·refine wpAnyIn_ready (rs:=[2,5]) krz spz ?_
          refine AllReadyIn.cons rfl (λf d=>?_) ?_
          ·go_simp
           refine d _ _ ?_;clear d f;exact V
          refine AllReadyIn.cons rfl (λf d=>?_) ?_
          ·go_simp
           refine d _ _ ?_;clear d f;exact pg
          exact AllReadyIn.nil
        ·refine wpAnyIn_ready (rs:=[3]) krz spz ?_
         refine AllReadyIn.cons rfl (λf d=>?_) AllReadyIn.nil;go_simp;refine d _ _ ?_;clear d f;exact V
       ·refine wpAnyIn_ready (rs:=[4]) krz spz ?_
        refine AllReadyIn.cons rfl (λf d=>?_) AllReadyIn.nil;go_simp;refine d _ _ ?_;clear d f;exact V
      ·refine wpAnyIn_ready (rs:=[0,6]) krz spz ?_
       refine AllReadyIn.cons rfl (λf d=>?_) ?_
       ·go_simp
        refine d _ _ ?_;clear d f;exact Y
       refine AllReadyIn.cons rfl (λf d=>?_) ?_
       ·go_simp
        try simp only[ak]
        refine⟨trivial,?_⟩;refine(CallsIn.inRound l (callsIn_wide.2 (M _ blA omz (limit - ((S:Int)+(1+cn))) omz omz))).mono ?_;rintro e W3 ⟨r,rfl,hr1,hr2,au,hb3⟩;refine d _ _ ?_;clear d f;have c3:=(hb3.cell (p:=⟨w.heap.size+1,0,none⟩) (Bi u)).trans u;have z3:=(hb3.frozen (p:=⟨w.heap.size+1,0,none⟩) (Bi u)).trans L;have l3:=(hb3.cell (p:=⟨w.heap.size,0,none⟩) (Bi F)).trans F;have ab:IntKind.i64.wrap ((S:Int)+(1+cn)+r)=(S:Int)+(1+cn)+r:=by rw[IntKind.wrap_i64];omega
        refine wpAnyIn_ready (rs:=[0]) krz spz ?_;refine AllReadyIn.cons rfl (λf d=>?_) AllReadyIn.nil;go_simp;refine d _ _ ?_;clear d f;refine wpAnyIn_ready (rs:=[7]) krz spz ?_;refine AllReadyIn.cons rfl (λf d=>?_) AllReadyIn.nil;go_simp;try simp only[ab]
        refine d _ _ ?_;clear d f;refine wpAnyIn_ready (rs:=[8]) krz spz ?_;refine AllReadyIn.cons rfl (λf d=>?_) AllReadyIn.nil;go_simp;refine d _ _ ?_;clear d f;refine wpAnyIn_done krz ?_ _;by_cases ar:limit<(S:Int)+(1+cn)+r
        ·exact zg0
        ·exact zt
       exact AllReadyIn.nil
     ·refine wpAnyIn_ready (rs:=[2]) krz spz ?_
      refine AllReadyIn.cons rfl (λf d=>?_) AllReadyIn.nil;go_simp;refine d _ _ ?_;clear d f;exact Y
    ·refine wpAnyIn_ready (rs:=[5]) krz spz ?_
     refine AllReadyIn.cons rfl (λf d=>?_) AllReadyIn.nil;go_simp;refine d _ _ ?_;clear d f;exact Y
   ·refine wpAnyIn_ready (rs:=[6]) krz spz ?_
    refine AllReadyIn.cons rfl (λf d=>?_) AllReadyIn.nil;go_simp;try simp only[ak]
    refine⟨trivial,?_⟩;refine(CallsIn.inRound l (callsIn_wide.2 (M _ blA omz (limit - ((S:Int)+(1+cn))) omz omz))).mono ?_;rintro e W3 ⟨r,rfl,hr1,hr2,au,hb3⟩;refine d _ _ ?_;clear d f;have c3:=(hb3.cell (p:=⟨w.heap.size+1,0,none⟩) (Bi u)).trans u;have z3:=(hb3.frozen (p:=⟨w.heap.size+1,0,none⟩) (Bi u)).trans L;have l3:=(hb3.cell (p:=⟨w.heap.size,0,none⟩) (Bi F)).trans F;have ab:IntKind.i64.wrap ((S:Int)+(1+cn)+r)=(S:Int)+(1+cn)+r:=by rw[IntKind.wrap_i64];omega
    refine wpAnyIn_ready (rs:=[7]) krz spz ?_;refine AllReadyIn.cons rfl (λf d=>?_) AllReadyIn.nil;go_simp;try simp only[ab]
    refine d _ _ ?_;clear d f;refine wpAnyIn_ready (rs:=[8]) krz spz ?_;refine AllReadyIn.cons rfl (λf d=>?_) AllReadyIn.nil;go_simp;refine d _ _ ?_;clear d f;refine wpAnyIn_done krz ?_ _;by_cases ar:limit<(S:Int)+(1+cn)+r
    ·exact zg0
    ·exact zt
  ·rw[U] at H D
   have hoe:o=1+cn:=by rw[D.out];simp
   clear U D M;by_cases ar:limit<(S:Int)+(1+cn)
   ·gi_wp2_with (refine⟨trivial,?_⟩;gi_at_call 69;refine(CallsIn.inRound l (callsIn_wide.2 (H _ blA))).mono ?_;rintro e N ⟨rfl,hb2⟩;have u:=(hb2.cell (p:=⟨w.heap.size+1,0,none⟩) yAd).trans (Gh m);have L:N.frozen? ⟨w.heap.size+1,0,none⟩=false:=(hb2.frozen (p:=⟨w.heap.size+1,0,none⟩) yAd).trans yEa;have F:=(hb2.cell (p:=⟨w.heap.size,0,none⟩) yAd).trans ((Bq omz).trans I))
    exact⟨by(repeat (first | with_reducible exact KeepsFrom.refl _ _ | with_reducible refine V4 ?_ _ _ | with_reducible refine Qq ?_ | with_reducible refine Nh ?_ _ | with_reducible refine Qr ?_ yCj)),⟨rfl,S+(1+cn),by omega,by rw[dB.out];omega,by rw[u];simp⟩,blA⟩
   ·gi_wp2_with (refine⟨trivial,?_⟩;gi_at_call 69;refine(CallsIn.inRound l (callsIn_wide.2 (H _ blA))).mono ?_;rintro e N ⟨rfl,hb2⟩;have u:=(hb2.cell (p:=⟨w.heap.size+1,0,none⟩) yAd).trans (Gh m);have L:N.frozen? ⟨w.heap.size+1,0,none⟩=false:=(hb2.frozen (p:=⟨w.heap.size+1,0,none⟩) yAd).trans yEa;have F:=(hb2.cell (p:=⟨w.heap.size,0,none⟩) yAd).trans ((Bq omz).trans I))
    exact⟨by(repeat (first | with_reducible exact KeepsFrom.refl _ _ | with_reducible refine V4 ?_ _ _ | with_reducible refine Qq ?_ | with_reducible refine Nh ?_ _ | with_reducible refine Qr ?_ yCj)),Va (Akv (b:=w.heap.size+1) (Kept.refl w.heap.size (λk=>k=w.heap.size+1) W) yBe rfl _) hn hb2,⟨⟨⟨by rw[u,dB.out,hoe];simp,L,F⟩,blA⟩,by rw[dB.out];omega,by rw[dB.out,zi.out];omega,by have:=hb2.size;simp at*;omega⟩⟩
 case done=>
  rintro ac ys W hD hS ⟨⟨⟨m,_⟩,G⟩,J,_⟩ B;rw[<-A8c,hS,P.out] at m J
  gi_wp2
  refine⟨spz, .inl ⟨_,_,rfl,run_takeDeferred B,?_⟩⟩;exact⟨_,results_tmp rfl _ _ _,z,rfl,λ_=>rfl,λh=>h,A57 _,G.trans (belowK_b (w:=w) (A57 _) W ac _ _ omz B rfl rfl)⟩
 case stop=>
  rintro ac c pre W hD aB ⟨⟨rfl,t,aW,aV,m⟩,G⟩ B;have aG:t<=z:=by have:=Aq2 Qg aB;rw[P.out,A8c] at this;omega
  gi_wp2
  refine⟨spz, .inl ⟨_,_,rfl,run_takeDeferred B,?_⟩⟩;exact⟨_,results_tmp rfl _ _ _,t,rfl,λh=>by omega,λh=>by omega,aG,G.trans (belowK_b (w:=w) (A57 _) W ac _ _ omz B rfl rfl)⟩
end Go.Proofs.YtnpfcnolmkanfaaGreatDoor
