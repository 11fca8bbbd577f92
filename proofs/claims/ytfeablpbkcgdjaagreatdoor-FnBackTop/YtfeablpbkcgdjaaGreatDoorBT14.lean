import Derived.Test.YtfeablpbkcgdjaaGreatDoorBT13
import Derived.Test.YtfeablpbkcgdjaaGreatDoorK21
set_option maxHeartbeats 8000000
set_option maxRecDepth 100000
namespace Go.Proofs.YtfeablpbkcgdjaaGreatDoor
open Tryz Stil Go.RowKit Go.Sort Go.BigFrame Go.Shelf
attribute [local go_sem] Oper.semAt_some
theorem Sq.end {P:Nat}{A W:World}{bs:List Nat}{ts:List (List Tr × List Value)}(h:Sq P A bs ts)(hg:A.grownBy W (some P)):Sv W bs ts:=by
 rcases h with⟨c,h⟩ | h
 .exact h.grow (r:=none) ⟨hg.os,hg.tape,hg.output,hg.size,λk a _=>hg.block k a λe=>by injection e with e;omega⟩ (λb e=>by cases e)
 .exact(h.grow hg λb e=>by cases e;exact .head _).sub (λ_ h=>.tail _ h) λ_ h=>h
def Iv (w:World)(R D:Nat)(pre:List AV)(W:World):Prop:=∃(a:Option Addr) (c:Nat) (b:List Value),Rg w R (D+3) pre.length (pre.map AV.y) a c b W/\Sq (D+2) W (ob (.slice a pre.length c)++[R,D+1,D]) [(Io (pre.map AV.y),b)]
def Pv (w:World)(R D:Nat)(pre:List AV)(x:AV)(_ b:World):Prop:=pre.length<1000/\∃(a:Option Addr) (c:Nat) (d:List Value),Rg w R (D+3) pre.length (pre.map AV.y) a c d b/\Sv b (ob (.slice a pre.length c)++[D+2,R,D+1,D]) [([J7 x.y],x.cells),(Io (pre.map AV.y),d)]
theorem zQa {p:Prop}(h:p:=by
 refine AllReadyIn.cons rfl (λKK aA=>?_) ?_
 .go_simp
  refine aA _ _ ?_;clear aA KK;exact rU
 exact AllReadyIn.nil):p:=h
theorem zRa {p:Prop}(h:p:=by
 refine AllReadyIn.cons rfl (λKK aA=>?_) ?_
 .go_simp
  refine aA _ _ ?_;clear aA KK;exact nK
 exact AllReadyIn.nil):p:=h
theorem gA (L:List Stil.Dj)(b o cap:Nat)(X:Option Addr)(af:L≠[]->X=some ⟨b,o,none⟩)(w:World)(xs:List Stil.B5)(ar:Ed w)(aG:Hl w)(hE:En w)(aa:LAt w b o L)(hl:L.length<=1000)(ag:∀x∈L,x.fits)(aM:L.length<=cap)(hz:(Ew L).1=0)(cs:List (List Stil.Dj))(aB:Stil.UpR cs xs)(aE:cs.flatten=L)(mJ:∀x∈xs,Ba x)(aO:Bc xs<=4000)(aN:xs.length<=1000):
  Calls prog 21 #[.slice X L.length cap] w λe Y=>(∃(a:Option Addr) (c:Nat) (er:Value),e=.returned (.tuple #[.slice a (FW xs).1.length c,er])/\Dc Y (.slice a (FW xs).1.length c) (FW xs).1/\(er=.nilIface/\(FW xs).2=0\/er=.iface 85 (.int .i64 (FW xs).2)/\0<(FW xs).2))/\Below w.heap.size w Y:=by
 have aC:=(S9 L AU).2;have HC:Hid (∀W,Below w.heap.size w W->Calls prog 49 #[.slice X L.length cap] W λe Y=>e=.returned (.agg #[.int .i64 0, .int .i64 0])/\Below W.heap.size W Y):=λW h=>by
  have h2:=nI L (.slice X L.length cap) W (ar.below h) (aG.below h) ⟨_,_,rfl,λi hi=>⟨b,o,af (λe=>by rw[e] at hi;cases hi),B8 (aa.lt hi) h.size,(aa.2 i hi).below h (aa.lt hi)⟩⟩ AU ag;rw[hz,aC] at h2;exact h2
 have su:Hid (∀(W:World) (kv:Value),Below w.heap.size w W->Dc W kv xs->Calls prog 13 #[kv] W λe Y=>e=.returned (.bool (decide ((Am xs).1=0)))/\Below W.heap.size W Y):=λW kv h hk=>Xx xs kv W (ar.below h) (hE.below h) hk AU AU mJ
 have ay:Hid (LAt w b o L):=aa;have eU:Hid (L≠[]->X=some ⟨b,o,none⟩):=af;have HF:Hid (∀x∈L,x.fits):=ag;have vU:Hid (Stil.UpR cs xs):=aB;have qy:Hid (cs.flatten=L):=aE;clear ar aG hE aa af ag hz aC aB aE mJ aO;refine(callsIn_wide (n:=9)).1 ?_;refine callsIn_of_wp_marks func21 rfl trivial ?_ rfl;simp only[ntmps21,CS,CC,CM,Nat.reduceAdd,Nat.reduceSub,DF,DG,DJ,DI,C3,CY]
 gi_wp2_with (first | (refine⟨trivial,?_⟩;gi_at_call 49;refine(callsIn_wide.2 (HC _ AX)).mono ?_;rintro e f ⟨rfl,aL⟩) | (refine⟨trivial,?_⟩;gi_at_call 50;refine(callsIn_wide.2 (vy _ _ _ _)).mono ?_;rintro e d ⟨rfl,xG,aK,au⟩))
 simp only[World.size_alloc] at xG aK;have M:Below w.heap.size w d:=AX;have a5:=aL.size;have ni:d.cell? ⟨f.heap.size,0,none⟩=some (.slice none 0 0):=A3 au;have zg:d.frozen? ⟨f.heap.size,0,none⟩=false:=A4 au;refine qJ (α:=AV) rfl (enters_of func83 AY rfl) AV.arg rfl
  (Iv w f.heap.size d.heap.size)
  (λys=>ys.map AV.y=xs) (Pv w f.heap.size d.heap.size) (Kq w.heap.size (d.heap.size+2)) ?h0 ?hseq ?iD ?hdone
 case h0=>
  intro W hs hb;exact⟨none,0,[],⟨(hb.cell (p:=⟨f.heap.size,0,none⟩) yCd).trans ni,(hb.frozen (p:=⟨f.heap.size,0,none⟩) yCd).trans zg,World.ownsRow_nil _ _ _ _,rfl,M.trans (hb.mono M.size)⟩, .inl ⟨AU,(show Sv W [f.heap.size,d.heap.size+1,d.heap.size] [] from⟨by simp;omega,λx hx=>by cases hx⟩).nil⟩⟩
 case hseq=>
  intro aR W hs hb hj zn hY
  exact vq w b o cap (f.heap.size+1) (d.heap.size+1) (9 - 1) L X eU ay hl HF aM aR (Pv w f.heap.size d.heap.size) W (M.trans (hb.mono M.size)) ((hb.cell (p:=⟨f.heap.size+1,0,none⟩) yCd).trans xG) (λpre A hp aw=>by
   obtain⟨a,c,Q,hG,T⟩:=zn pre A hp;refine⟨_,_,by rw[hs];exact T,λx j I hS=>?_⟩;rw[hs] at I hS
   exact⟨aw,a,c,Q,hG.grown I (λe=>by injection e with e;omega) (λq T=>by cases T;exact⟨by have:=M.size;omega,λe=>by have:=(hG.row.lt _ e).1;omega⟩),hS.sub (λb hb=>by simp only[Dm,C2] at hb ⊢;rcases hb with h | h | h;exact .inr (.inl h);exact .inl h;exact .inr (.inr h)) (λ_ h=>h)⟩) (λpre x A j h1 h2 h3=>(hY pre x A j h1 h2 h3).mono (λe B hh=>⟨hh.1,hh.2.1,hh.2.2.1,by rw[hs];exact hh.2.2.2⟩)) hj cs xs vU qy aN
 case iD=>
  rintro pre ⟨y,m,F,D,s,u,z,l,E⟩ A j r' - xm I ⟨aw,P,N,Q,ao,ai⟩ ⟨r,aT⟩ az;have a2:d.heap.size+2<j.heap.size:=ai.1 _ AW;have aP:=M.size;obtain⟨O,xC⟩:∃O,O=(j.alloc (.cells #[.int .i64 y.net.kind, .int .i64 y.net.one.op, .slice m y.net.one.args.length F, .slice D y.net.kids.length s, .slice u y.coils.length z, .slice l y.kids.length E] 60)).putObj (d.heap.size+1) (.loop r'):=⟨_,rfl⟩
  have R:=Aa j (.cells #[.int .i64 y.net.kind, .int .i64 y.net.one.op, .slice m y.net.one.args.length F, .slice D y.net.kids.length s, .slice u y.coils.length z, .slice l y.kids.length E] 60);have J:(j.alloc (.cells #[.int .i64 y.net.kind, .int .i64 y.net.one.op, .slice m y.net.one.args.length F, .slice D y.net.kids.length s, .slice u y.coils.length z, .slice l y.kids.length E] 60)).grownBy O (some (d.heap.size+1)):=by rw[xC];exact grownBy_putObj' _ _ _
  have a3:j.heap.size+1<=O.heap.size:=by have:=J.size;simpa using this
  have ah:=(ao.grown (grown_of R none) (λe=>by cases e) (λq e=>by cases e)).grown J (λe=>by injection e with e;omega) (λq e=>by cases e;exact⟨AU,λe=>by have:=(ao.row.lt _ e).1;omega⟩);have mr:=(ai.alloc (.cells #[.int .i64 y.net.kind, .int .i64 y.net.one.op, .slice m y.net.one.args.length F, .slice D y.net.kids.length s, .slice u y.coils.length z, .slice l y.kids.length E] 60)).grow J (λq e=>by cases e;simp);have aJ:B6 O j.heap.size (.int .i64 y.net.kind) (.int .i64 y.net.one.op) (.slice m y.net.one.args.length F) (.slice D y.net.kids.length s) (.slice u y.coils.length z) (.slice l y.kids.length E):=(B6.new j _ _ _ _ _ _ _).grown J (λe=>by injection e with e;omega);have aH:=Ci (λty=>yb ty ah mr rfl AW AU AU AU AU)
  have S:=Ci (λ(g K:Nat) (G:World) (h:Rg w f.heap.size (d.heap.size+3) (pre.length+1) (pre.map AV.y++[y]) (some ⟨g,0,none⟩) K (Q++AV.cells ⟨y,m,F,D,s,u,z,l,E⟩) G/\Sv G (ob (.slice (some ⟨g,0,none⟩) (pre.length+1) K)++[d.heap.size+2,f.heap.size,d.heap.size+1,d.heap.size]) [(Io (pre.map AV.y++[y]),Q++AV.cells ⟨y,m,F,D,s,u,z,l,E⟩)]/\(∀k,k<(d.heap.size+3)->k≠f.heap.size->G.heap[k]?=O.heap[k]?)/\Below f.heap.size O G)=>(show G.heap[d.heap.size+1]?=((j.alloc (.cells #[.int .i64 y.net.kind, .int .i64 y.net.one.op, .slice m y.net.one.args.length F, .slice D y.net.kids.length s, .slice u y.coils.length z, .slice l y.kids.length E] 60)).putObj (d.heap.size+1) (.loop r')).heap[d.heap.size+1]?/\G.heap[d.heap.size]?=some (.deferred (some []))/\∀ad,Iv w f.heap.size d.heap.size (pre++[AV.mk y m F D s u z l E]) (G.putObj (d.heap.size+1) (.loop ad))/\Kq w.heap.size (d.heap.size+2) j (G.putObj (d.heap.size+1) (.loop ad)) from by
   obtain⟨h1,h2,h3,h4⟩:=h;have e1:(pre++[AV.mk y m F D s u z l E]).length=pre.length+1:=AW
   have e2:(pre++[AV.mk y m F D s u z l E]).map AV.y=pre.map AV.y++[y]:=AW
   have yl:(j.alloc (.cells #[.int .i64 y.net.kind, .int .i64 y.net.one.op, .slice m y.net.one.args.length F, .slice D y.net.kids.length s, .slice u y.coils.length z, .slice l y.kids.length E] 60)).heap[d.heap.size]?=some (.deferred (some [])):=(R.block _ AU).trans az;refine⟨(h3 _ AU AU).trans (by rw[xC]),(h3 _ AU AU).trans ((J.block _ Ax (λe=>by injection e with e;omega)).trans yl),λad=>?_⟩;have an:=grownBy_putObj' G (d.heap.size+1) (.loop ad);have aW:=h4.size;unfold Iv;rw[e1,e2];refine⟨⟨some ⟨g,0,none⟩,K,_,h1.grown an (λe=>by injection e with e;omega) (λq e=>by cases e;exact⟨AU,λe=>by have:=(h1.row.lt _ e).1;omega⟩), .inr ((h2.grow an (λq e=>by cases e;simp)).sub (λb hb=>by simp only[Dm,C2] at hb ⊢;rcases hb with h | h | h;exact .inr (.inl h);exact .inl h;exact .inr (.inr h)) (λ_ h=>h))⟩,?_,?_⟩
   .exact Rj ((Rj (R.mono AU) J Ax (λq e=>by cases e;omega)).trans (h4.mono AU)) an AU (λq e=>by cases e;omega)
   .exact(World.putObj_heap_other AU).trans ((h3 _ AU AU).trans ((J.block _ Ax (λe=>by injection e with e;omega)).trans (R.block _ AU)))))
  obtain⟨aU,⟨d0,d1,d2,d3,d4,d5⟩,-⟩:=aJ;have rb:=ah.c0;have xe:=Aq rb;have aY:(j.alloc (.cells #[.int .i64 y.net.kind, .int .i64 y.net.one.op, .slice m y.net.one.args.length F, .slice D y.net.kids.length s, .slice u y.coils.length z, .slice l y.kids.length E] 60)).heap[d.heap.size+1]?=j.heap[d.heap.size+1]?:=R.block _ AU;clear ah mr ao ai J R aT az I;simp only[AV.arg]
  gi_wp2
  rw[<-xC];clear xC;refine wpIn_region_any AY ?_;try (change wpAnyIn _ _ _ _ _ _ _ _ _ (World.drew _))
  apply share
  .intro nT
   apply share
   .intro nS
    apply share
    .intro nM
     apply share
     .intro rU
      apply share
      .intro qP
       apply share
       .intro qO
        apply share
        .intro nK
         refine wpAnyIn_ready (rs:=[0,1,3]) AY AW ?_;refine AllReadyIn.cons rfl (λKK aA=>?_) ?_
         .go_simp
          refine aA _ _ ?_;clear aA KK;refine wpAnyIn_ready (rs:=[1,2,3]) AY AW ?_;refine AllReadyIn.cons rfl (λKK aA=>?_) ?_
          .go_simp
           refine aA _ _ ?_;clear aA KK;exact qP
          refine AllReadyIn.cons rfl (λKK aA=>?_) ?_
          .go_simp
           refine aA _ _ ?_;clear aA KK;refine wpAnyIn_ready (rs:=[1,3]) AY AW ?_;refine AllReadyIn.cons rfl (λKK aA=>?_) ?_
           .go_simp
            refine aA _ _ ?_;clear aA KK;exact nS
           exact zQa
          refine AllReadyIn.cons rfl (λKK aA=>?_) ?_
          .go_simp
           refine aA _ _ ?_;clear aA KK;exact qO
          exact AllReadyIn.nil
         refine AllReadyIn.cons rfl (λKK aA=>?_) ?_
         .go_simp
          refine aA _ _ ?_;clear aA KK;refine wpAnyIn_ready (rs:=[0,3]) AY AW ?_;refine AllReadyIn.cons rfl (λKK aA=>?_) ?_
          .go_simp
           refine aA _ _ ?_;clear aA KK;exact qP
          exact zRa
         refine AllReadyIn.cons rfl (λKK aA=>?_) ?_
         .go_simp
          refine aA _ _ ?_;clear aA KK;refine wpAnyIn_ready (rs:=[0,1]) AY AW ?_;refine AllReadyIn.cons rfl (λKK aA=>?_) ?_
          .go_simp
           refine aA _ _ ?_;clear aA KK;exact qO
          exact zRa
         exact AllReadyIn.nil
        .refine wpAnyIn_ready (rs:=[0]) AY AW ?_
         refine AllReadyIn.cons rfl (λKK aA=>?_) AllReadyIn.nil;go_simp;refine aA _ _ ?_;clear aA KK;exact nM
       .refine wpAnyIn_ready (rs:=[1,2]) AY AW ?_
        refine AllReadyIn.cons rfl (λKK aA=>?_) ?_
        .go_simp
         refine aA _ _ ?_;clear aA KK;exact nM
        exact zQa
      .refine wpAnyIn_ready (rs:=[2,3]) AY AW ?_
       refine AllReadyIn.cons rfl (λKK aA=>?_) ?_
       .go_simp
        refine aA _ _ ?_;clear aA KK;exact nS
       refine AllReadyIn.cons rfl (λKK aA=>?_) ?_
       .go_simp
        refine aA _ _ ?_;clear aA KK;exact nM
       exact AllReadyIn.nil
     .refine wpAnyIn_ready (rs:=[1]) AY AW ?_
      refine AllReadyIn.cons rfl (λKK aA=>?_) AllReadyIn.nil;go_simp;refine aA _ _ ?_;clear aA KK;exact nT
    .refine wpAnyIn_ready (rs:=[2]) AY AW ?_
     refine AllReadyIn.cons rfl (λKK aA=>?_) AllReadyIn.nil;go_simp;refine aA _ _ ?_;clear aA KK;exact nT
   .refine wpAnyIn_ready (rs:=[3]) AY AW ?_
    refine AllReadyIn.cons rfl (λKK aA=>?_) AllReadyIn.nil;go_simp;refine aA _ _ ?_;clear aA KK;exact nT
  .refine wpAnyIn_ready (rs:=[4]) AY AW ?_
   refine AllReadyIn.cons rfl (λKK aA=>?_) AllReadyIn.nil;refine ol rfl rfl (aH _) (by go_simp) (by go_simp) ?_;rintro v6 w6 ⟨g,K,rfl,aS,⟨a6,aZ⟩,C,zM⟩;have k0:w6.cell? ⟨g,pre.length*6,none⟩=some (.int .i64 0):=(C 0 _ rfl).1;have k1:=(C 1 _ rfl).1;have k2:=(C 2 _ rfl).1;have k3:=(C 3 _ rfl).1;have k4:=(C 4 _ rfl).1;have k5:=(C 5 _ rfl).1;have u0:w6.frozen? ⟨g,pre.length*6,none⟩=false:=(C 0 _ rfl).2;have u1:=(C 1 _ rfl).2;have u2:=(C 2 _ rfl).2;have u3:=(C 3 _ rfl).2;have u4:=(C 4 _ rfl).2;have u5:=(C 5 _ rfl).2;have n1:¬f.heap.size=g:=λe=>aS e.symm
   have aV:(0:Int)<=(pre.length:Int):=AU
   have a7:(pre.length:Int)<(pre.length:Int)+1:=AU
   have ap:=Ci zM;clear C zM;refine aA _ _ ?_;clear aA KK;refine wpAnyIn_ready (rs:=[5,7]) AY AW ?_;refine AllReadyIn.cons rfl (λKK aA=>?_) ?_
   .go_simp
    refine aA _ _ ?_;clear aA KK;refine wpAnyIn_ready (rs:=[6,7]) AY AW ?_;refine AllReadyIn.cons rfl (λKK aA=>?_) ?_
    .go_simp
     refine aA _ _ ?_;clear aA KK;refine wpAnyIn_ready (rs:=[7]) AY AW ?_;refine AllReadyIn.cons rfl (λKK aA=>?_) AllReadyIn.nil;go_simp;refine aA _ _ ?_;clear aA KK;refine wpAnyIn_done AY ?_ _;exact And.intro rfl (S g K _ (ap _ (.inl rfl)))
    refine AllReadyIn.cons rfl (λKK aA=>?_) ?_
    .go_simp
     refine aA _ _ ?_;clear aA KK;refine wpAnyIn_ready (rs:=[6]) AY AW ?_;refine AllReadyIn.cons rfl (λKK aA=>?_) AllReadyIn.nil;go_simp;refine aA _ _ ?_;clear aA KK;refine wpAnyIn_done AY ?_ _;exact And.intro rfl (S g K _ (ap _ (.inr rfl)))
    exact AllReadyIn.nil
   refine AllReadyIn.cons rfl (λKK aA=>?_) ?_
   .go_simp
    refine aA _ _ ?_;clear aA KK;refine wpAnyIn_ready (rs:=[5]) AY AW ?_;refine AllReadyIn.cons rfl (λKK aA=>?_) AllReadyIn.nil;go_simp;refine aA _ _ ?_;clear aA KK;refine wpAnyIn_ready (rs:=[6]) AY AW ?_;refine AllReadyIn.cons rfl (λKK aA=>?_) AllReadyIn.nil;go_simp;refine aA _ _ ?_;clear aA KK;refine wpAnyIn_done AY ?_ _;exact And.intro rfl (S g K _ (ap _ (.inr rfl)))
   exact AllReadyIn.nil
 case hdone=>
  rintro ys A W B hS ⟨P,N,Q,hG,T⟩ I ⟨r,aD⟩ hd;have lG:W.grownBy B (some (d.heap.size+1)):=by rw[aD];exact grownBy_putObj' _ _ _
  have aP:=M.size;have ak:=λ(ax ae:World) (hX:Rg w f.heap.size (d.heap.size+3) ys.length (ys.map AV.y) P N Q ax) (r:Option Nat) (g:ax.grownBy ae r) (hr:∀q,r=some q->d.heap.size<=q/\q<(d.heap.size+3))=>hX.grown g (λe=>by have:=hr _ e;omega) (λq e=>by have h1:=hr q e;exact⟨AU,λe=>by have:=(hX.row.lt _ e).1;omega⟩)
  have H:=ak _ _ (ak _ _ hG _ I (λq e=>by cases e;omega)) _ lG (λq e=>by cases e;omega);have ac:=(T.end I).grow lG (λq e=>by cases e;simp);rw[hS] at H ac;have rb:=H.c0;have aF:=H.len;rw[aF] at rb H ac;have zN:d.heap.size<B.heap.size:=(Array.getElem?_eq_some_iff.1 hd).1
  have rH:=Ci (λV (h:Below B.heap.size B V) ae r (g:V.grownBy ae r) (hr:∀q,r=some q->q=d.heap.size)=>(show Dc ae (.slice P xs.length N) xs from by
   have h1:=((ac.bel h).grow g (λq e=>by rw[hr q e];simp)).ice2 (.head _) (by rw[CP];exact(ownsRow_below H.row h).kept g (by
    cases hv:(Value.slice P xs.length N).ownBlock with
    | none=>exact .inl rfl
    | some q=>exact .inr λe=>by have:=hr q e.symm;have:=(H.row.lt _ hv).1;omega)) (λq e hm=>by have:=(H.row.lt _ e).1;simp only[C2,EJ,EK] at hm;omega)
   exact(h1.arms (.head _)).at))
  have Z:=H.bel;have ab:=Ci (λV (h:Below B.heap.size B V)=>su V _ (Z.trans (h.mono Z.size)) (rH V h V none (World.grownBy.refl _ _) (λq e=>by cases e)));have aQ:=Vo xs;have S:=Ci (λV (h:Below B.heap.size B V)=>And.intro ((h.block _ zN).trans hd) (And.intro (rH V h _ _ (grownBy_putObj' V d.heap.size (.deferred none)) (λq e=>by cases e;rfl)) (Rj (Z.trans (h.mono Z.size)) (grownBy_putObj' V d.heap.size (.deferred none)) (by have:=Z.size;have:=h.size;omega) (λq e=>by cases e;omega))));obtain⟨tc,al⟩:∃t,t=(Am xs).1:=⟨_,rfl⟩
  have HU:Hid (FW xs=if 0<tc then([],2) else(xs,0)):=by rw[al];rfl
  rw[<-al] at ab aQ;clear al hS ak hG H ac T I lG hd aD aF rH su HC vU ay HF qy;by_cases h0:tc=0
  .rw[if_neg AU] at HU
   rw[EN h0] at ab
   gi_wp2_with (refine⟨trivial,?_⟩;gi_at_call 13;refine(callsIn_wide.2 (ab _ AX)).mono ?_;rintro e U ⟨rfl,aI⟩;have fP:Below B.heap.size B U:=AX;have aX:U.cell? ⟨f.heap.size,0,none⟩=some (.slice P xs.length N):=(fP.cell (p:=⟨f.heap.size,0,none⟩) yCd).trans rb;obtain⟨aj,tC,fV⟩:=S U fP)
   refine⟨AW, .inl ⟨_,_,rfl,run_takeDeferred aj,?_⟩⟩;refine⟨.tuple #[.slice P xs.length N, .nilIface],by simp[results,results21,go_sem],by rw[HU.out];exact⟨P,N, .nilIface,rfl,tC, .inl ⟨rfl,rfl⟩⟩,fV⟩
  .rw[if_pos AU] at HU
   rw[FO h0] at ab
   gi_wp2_with (refine⟨trivial,?_⟩;gi_at_call 13;refine(callsIn_wide.2 (ab _ AX)).mono ?_;rintro e U ⟨rfl,aI⟩;have fP:Below B.heap.size B U:=AX;obtain⟨aj,tC,fV⟩:=S U fP)
   refine⟨AW, .inl ⟨_,_,rfl,run_takeDeferred aj,?_⟩⟩;refine⟨.tuple #[.slice none 0 0, .iface 85 (.int .i64 2)],by simp[results,results21,go_sem],by rw[HU.out];exact⟨none,0,_,rfl,⟨none,0,rfl,λi hi=>by cases hi⟩, .inr ⟨rfl,AZ⟩⟩,fV⟩
