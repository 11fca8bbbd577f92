import Derived.Test.YtifcnfeppdbjdaaGreatDoorG5
set_option maxHeartbeats 4000000
set_option maxRecDepth 100000
namespace Go.Proofs.YtifcnfeppdbjdaaGreatDoor
open Tryz Stil Go.RowKit Go.Sort Go.BigFrame
variable {a:Act}{av kv v:Value}{base bb cap m n:Nat}{k op:Int}{o:Oper}{ops:Array Oper}{w':World}{xs:List Value}
def Fr (Q:Nat->Prop)(n m:Nat)(b:Nat):Prop:=(Q b/\b<n)\/m<=b
abbrev AP (Q:Nat->Prop)(w:World):=Fr Q w.heap.size (w.heap.size+2)
theorem Fr.box {Q:Nat->Prop}{k:Nat}(h1:n<=k)(b:k<m):¬Fr Q n m k:=by
 rintro(h | h)
 ·exact absurd h.2 AQ
 ·omega
theorem A9 {P:Nat->Prop}{w W:World}(h:Ac P w W:=by(repeat (first | with_reducible exact Ac.refl _ _ | with_reducible assumption | with_reducible refine Ac.trans ?_ (Ac.set (Fr.box (by omega) (by omega)) _) | with_reducible refine Ac.trans ?_ (Ac.of_below (Aa _ _))))):Ac P w W:=h
def FrO (Q:Nat->Prop)(n m:Nat)(v:Value)(b:Nat):Prop:=Fr Q n m b/\v.ownBlock≠some b
theorem FrO.keep {Q:Nat->Prop}{w:World}(h:w.grownBy w' v.ownBlock):Ac (FrO Q n m v) w w':=Ac.of_grown h λ_ b=>b.2
theorem zz {p:Prop}(h:p:=by
 intro v' w' h1 h2 h3
 simp only[CV,C5] at h1;obtain⟨bb,c,rfl,hb1,hb2,_,_⟩:=Cb h1 AQ;have h4:w.grownBy w' (some W.heap.size):=h2;exact hK bb c w' xs h1 (hrow.imp λ_ _ _ h=>h.keep (Ac.of_grown h4 (λb hb e=>by simp only[CZ] at e;exact absurd hb.2 AQ))) hb1 hb2 h4):p:=h
theorem pU {w:World}{K:Act->World->Prop}{Q:Exit->Act->World->Prop}{E:Prop}
  (hg:o.guard=none) (s x:Operand) (l:o.op=.call {callee:=.builtin .append,args:=#[s,x],argTypes:=#[57,57]})
  (R:Nat->Prop) (W:World) (ns:List Stil.B9) (kv:Value) (i:a.eval s=AE (some (AL W 0)) 0 0) (hx:a.eval x=kv) (g:w=W.alloc (.cells #[] 59))
  (L:Dp R W kv ns) (hl:ns.length<=100000)
  (hK:∀bb c w' xs,w'.ownsRow W.heap.size 59 4 (AE (some (AK bb 0)) ns.length c) ns.length xs->RowOf 4 (Zn (λb=>R b/\b<W.heap.size) w') xs ns->W.heap.size<=bb->bb<w'.heap.size->w.grownBy w' (some W.heap.size)->K (a.put o.dst (AE (some (AK bb 0)) ns.length c)) w'):
  if Region.wanted o (yielded ops a.tmps)=true then Oper.wp prog o a w K Q else E:=by
 obtain⟨G,hi,D,J,B⟩:=info_parts QB;have y:Dp (λb=>R b/\b<W.heap.size) w kv ns:=by
  rw[g];exact(L.mono λb hb h=>⟨h,hb⟩).keep (Ac.of_below (Aa _ _))
 have X:w.heap.size=W.heap.size+1:=by rw[g];simp
 have r:w.ownsRow W.heap.size 59 4 (AE (some (AL W 0)) 0 0) 0 []:=by
  rw[g];have:=World.ownsRow_lit (base:=W.heap.size) (e:=59) (size:=4) W #[] 0 AQ A6 rfl
  simpa using this
 obtain⟨ad,cap,N,q,xs,hrow,I⟩:=uY y;subst N;by_cases hd:ns.length=0
 ·have z:=List.length_eq_zero_iff.1 hd
  subst z;have t:Region.wanted o (yielded ops a.tmps)=true:=by simp[Region.wanted,hg]
  rw[if_pos t];have H:xs=[]:=by have:=hrow.1;simpa using this
  subst H;have d:=hK W.heap.size 0 w [] r (RowOf.nil _ _) (CG _) AQ (Nq _ _);simp only[CO] at d hx;unfold Oper.wp execOp;cases ad
  ·have e:Sem.run prog (Builtin.append_ #[57,57] o.type #[AE (some (AL W 0)) 0 0,AE none 0 cap]) w=.ok (AE (some (AL W 0)) 0 0) w:=by simp[Builtin.append_,go_sem]
   simp only[l,resolve,invoke,builtin,Sem.run_bind,Sem.run_pure,Result.andThen_ok,EL,CP,C3,i,hx,e];exact d
  ·rename_i C
   have e:Sem.run prog (Builtin.append_ #[57,57] o.type #[AE (some (AL W 0)) 0 0,AE (some C) 0 cap]) w=.ok (AE (some (AL W 0)) 0 0) w:=by simp[Builtin.append_,go_sem]
   simp only[l,resolve,invoke,builtin,Sem.run_bind,Sem.run_pure,Result.andThen_ok,EL,CP,C3,i,hx,e];exact d
 ·obtain⟨p,rfl⟩:∃p,ad=some p:=by
   cases ad with
   | none=>exact absurd (q.2 rfl) (by have:=q.1;omega)
   | some p=>exact⟨p,rfl⟩
  refine Eh hg s x _ l W.heap.size 59 G _ 4 64 underlying57 hi D J B rfl AY _ _ [] i r _ _ _ xs hx hrow.1 (I _ rfl) ?_ A6 AQ AQ ?_
  ·intro u hu
   obtain⟨j,f⟩:=List.getElem?_of_mem hu;have V:j<ns.length*4:=by rw[<-hrow.1];exact(List.getElem?_eq_some_iff.1 f).1
   obtain⟨av,S,O,M,F⟩:=hrow.2 (j / 4) AQ;have A:xs[j]?=((xs.drop (j / 4*4)).take 4)[j % 4]?:=by
    rw[GN,if_pos AQ,GO,Nat.mul_comm,Nat.div_add_mod]
   rw[A,O] at f;obtain⟨T,P,rfl,_⟩:=M;obtain⟨Y,U,rfl,_⟩:=F;have :=G2 f;simp only[DF,Da,DK] at this;rcases this with rfl | rfl | rfl | rfl<;>rfl
  ·exact zz
theorem Rw {rest:List Oper}{w:World}{Q:Exit->Act->World->Prop}
  (hg:o.guard=none) (s x:Operand) (r:o.op=.call {callee:=.builtin .append,args:=#[s,x],argTypes:=#[57,57]})
  (R:Nat->Prop) (W:World) (ns:List Stil.B9) (kv:Value) (p:a.eval s=AE (some (AL W 0)) 0 0) (hx:a.eval x=kv) (j:w=W.alloc (.cells #[] 59))
  (f:Dp R W kv ns) (hl:ns.length<=100000)
  (h:∀bb c w' xs,w'.ownsRow W.heap.size 59 4 (AE (some (AK bb 0)) ns.length c) ns.length xs->RowOf 4 (Zn (λb=>R b/\b<W.heap.size) w') xs ns->W.heap.size<=bb->bb<w'.heap.size->w.grownBy w' (some W.heap.size)->wpList prog ops Q rest (a.put o.dst (AE (some (AK bb 0)) ns.length c)) w'):
  wpList prog ops Q (o::rest) a w:=by
 refine wpList_plain hg λK t=>?_
 have g:Region.wanted o (yielded #[] a.tmps)=true:=by simp[Region.wanted,hg]
 have:=pU (ops:=#[]) (K:=K) (Q:=Q) (E:=True) hg s x r R W ns kv p hx j f hl (λbb c w' xs i q d e l=>t _ _ (h bb c w' xs i q d e l))
 rwa [if_pos g] at this
def MH (Q:Nat->Prop)(e:Ending)(w w':World)(g P N:Nat):Prop:=∃(n:Stil.B9) (av kv:Value),e=.returned (.agg #[AB n.kind,AB n.one.op,av,kv])/\Bi (Fr Q w.heap.size w.heap.size) w' av n.one.args/\Dp (Fr Q w.heap.size w.heap.size) w' kv n.kids/\Kw n/\G9 n<=N/\Ig w' g P/\w.grownBy w' (some g)
theorem Kw.parts {n:Stil.B9}(h:Kw n):(-1000000<=n.kind/\n.kind<=1000000)/\X0 n.one/\∀x∈n.kids,Kw x:=by
 obtain⟨k,e,kids⟩:=n;exact(Qv _ _ _).1 h
theorem Hl {Q:Nat->Prop}{g:Nat}{w:World}(d:∀b,Q b->g<b)(hg:g<m)(h:w.grownBy w' (some g)):Ac (Fr Q n m) w w':=Ac.of_grown h (λb c e=>by
 simp only[CZ] at e;rcases c with c | c
 ·have:=d b c.1;omega
 ·omega)
theorem QO {α:Type}(f:α->Nat)(c:Nat):∀(l:List α) (j:Nat) (x:α) (h:j<l.length),f x<=f l[j]+c->((l.set j x).map f).sum<=(l.map f).sum+c
 | [],j,x,h,_=>absurd h AU
 | y::r,0,x,_,b=>by
  simp only[EP] at b;simp only[List.set_cons_zero,CP,DW];omega
 | y::r,j+1,x,h,b=>by
  have:=QO f c r j x BR (by simpa using b)
  simp only[List.set_cons_succ,CP,DW];omega
theorem Ay1 {R:Nat->Prop}{w:World}{k:Nat}{ns:List Stil.B9}(h:w.ownsRow base 59 4 (AE (some (AK bb 0)) ns.length cap) ns.length xs)(hr:RowOf 4 (Zn R w) xs ns)(e:k<ns.length):
  ∃av kv,w.cell? (AK bb (k*4))=some (AB ns[k].kind)/\w.cell? (AK bb (k*4+1))=some (AB ns[k].one.op)/\w.cell? (AK bb (k*4+2))=some av/\w.cell? (AK bb (k*4+3))=some kv/\w.frozen? (AK bb (k*4))=false/\w.frozen? (AK bb (k*4+1))=false/\w.frozen? (AK bb (k*4+2))=false/\w.frozen? (AK bb (k*4+3))=false/\Bi R w av ns[k].one.args/\Dp R w kv ns[k].kids:=by
 obtain⟨g,c,f,_,_,_,d⟩:=Cb h AQ;simp only[Value.slice.injEq,CZ,Addr.mk.injEq] at f;obtain⟨⟨rfl,_⟩,_⟩:=f;obtain⟨av,kv,j,i,l⟩:=hr.2 k e;have b:=JS hr e j;exact⟨av,kv,d _ _ (b 0 _ rfl),d _ _ (b 1 _ rfl),d _ _ (b 2 _ rfl),d _ _ (b 3 _ rfl),h.frozenAt _,h.frozenAt _,h.frozenAt _,h.frozenAt _,i,l⟩
theorem sb {R:Nat->Prop}{w:World}{k:Nat}{ns:List Stil.B9}{N:Stil.B9}(h:w.ownsRow base 59 4 (AE (some (AK bb 0)) n cap) n xs)(hr:RowOf 4 (Zn R w) xs ns)(f:k<ns.length)(b:¬R bb)
  (i:Bi R w av N.one.args) (g:Dp R w kv N.kids):
  ∃e,((((w.setCell (AK bb (k*4)) (AB N.kind)).setCell (AK bb (k*4+1)) (AB N.one.op)).setCell (AK bb (k*4+2)) av).setCell (AK bb (k*4+3)) kv).ownsRow base 59 4 (AE (some (AK bb 0)) n cap) n e/\
   RowOf 4 (Zn R ((((w.setCell (AK bb (k*4)) (AB N.kind)).setCell (AK bb (k*4+1)) (AB N.one.op)).setCell (AK bb (k*4+2)) av).setCell (AK bb (k*4+3)) kv)) e (ns.set k N):=by
 refine⟨_,((((h.stored (k*4) _).1.stored (k*4+1) _).1.stored (k*4+2) _).1.stored (k*4+3) _).1,?_⟩;have d:Ac R w ((((w.setCell (AK bb (k*4)) (AB N.kind)).setCell (AK bb (k*4+1)) (AB N.one.op)).setCell (AK bb (k*4+2)) av).setCell (AK bb (k*4+3)) kv):=
  (((Ac.set b _).trans (Ac.set b _)).trans (Ac.set b _)).trans (Ac.set b _)
 have q:=hr.1;have l:k*4+3<xs.length:=AQ
 refine RowOf.set (hr.imp λ_ _ _ h=>h.keep d) f AU ⟨av,kv,?_,i.keep d,g.keep d⟩ ?_
 ·apply K2
  intro j;rw[GN];by_cases c:j<4
  ·rw[if_pos c,GO]
   have:j=0\/j=1\/j=2\/j=3:=AQ
   rcases this with rfl | rfl | rfl | rfl
   ·rw[CY AQ,CY AQ,CY AQ,EO,Db AQ];rfl
   ·rw[CY AQ,CY AQ,Db Ax];rfl
   ·rw[CY AQ,Db Ax];rfl
   ·rw[Db Ax];rfl
  ·rw[if_neg c,J2 Ax]
 ·intro j c
  rw[CY AQ,CY AQ,CY AQ,CY AQ]
theorem Up {R R':Nat->Prop}{w:World}{cs:List Value}{ns:List Stil.B9}{n:Stil.B9}(h:RowOf 4 (Zn R w) xs ns)(c:Zn R w cs n)(hl:cs.length=4)(hg:w.grownBy w' v.ownBlock)(hr:∀b,R b->v.ownBlock≠some b)(d:∀b,R b->R' b):RowOf 4 (Zn R' w') (xs++cs) (ns++[n]):=
 ((h.append (RowOf.one hl c)).imp λ_ _ _ h=>(h.keep (Ac.of_grown hg hr)).mono λb _=>d b)
theorem ZD {n:Stil.B9}{b:List Stil.CC}(h:Kw n)(c:-1000000<=op/\op<=1000000)(e:∀d∈b,Small d)(hl:b.length<=100000):Kw ⟨n.kind,⟨op,b⟩,n.kids⟩:=(Qv _ _ _).2 ⟨h.parts.1,⟨c,e,hl⟩,h.parts.2.2⟩
theorem Axf {n:Stil.B9}(h:Kw n)(b:-1000000<=k/\k<=1000000):Kw ⟨k,n.one,n.kids⟩:=(Qv _ _ _).2 ⟨b,h.parts.2.1,h.parts.2.2⟩
theorem Axe {n:Stil.B9}{ks:List Stil.B9}(h:Kw n)(b:∀x∈ks,Kw x):Kw ⟨n.kind,n.one,ks⟩:=(Qv _ _ _).2 ⟨h.parts.1,h.parts.2.1,b⟩
theorem Tv.alloc {w:World}{b:Nat}(h:Tv w b k op av kv)(o:Obj):Tv (w.alloc o) b k op av kv:=h.grownO (grown_below (Aa w o) none) AU
theorem Tv.set {w:World}{b c o:Nat}(h:Tv w b k op av kv)(e:b≠c):Tv (w.setCell (AK c o) v) b k op av kv:=by
 obtain⟨f,d⟩:=h;refine⟨by simpa using f,?_⟩;simp only[Gm e,Gw];exact d
theorem mj {b:List Stil.CC}{kids:List Stil.B9}{x:Stil.B9}(hx:x∈kids):G9 x+1<=G9 ⟨k,⟨op,b⟩,kids⟩:=by
 rw[E5];have d:=D9 G9 kids x hx;have c:=List.length_pos_of_mem hx;omega
theorem Hf {Q:Nat->Prop}(W:World):∀b,b<W.heap.size->Fr Q n (n+2) b->Fr Q n n b:=λb _ h=>h.imp id (λh=>by omega)
theorem sC (n:Stil.B9):∀(Q:Nat->Prop) (g P:Nat) (w:World) (av kv:Value),(∀b,Q b->g<b)->Bi Q w av n.one.args->Dp Q w kv n.kids->Kw n->G9 n<=40000->Ig w g P->P+10*G9 n+60<=100000000->
  Calls prog 135 #[AH g, .agg #[AB n.kind,AB n.one.op,av,kv]] w λe w'=>MH Q e w w' g (P+10*G9 n+60) (G9 n+20):=by
 induction n using Gf with
 | h k e kids ih=>
  obtain⟨op,d⟩:=e;intro Q g P w av kv hQ ak an lQ bk hr hP;simp only at ak an;have hg:=Va hr;have xR:Hid (∀x∈kids,G9 x+1<=G9 ⟨k,⟨op,d⟩,kids⟩):=λx hx=>mj hx
  have bo:d.length+kids.length<=G9 ⟨k,⟨op,d⟩,kids⟩:=by rw[E5];simp only;omega
  have jJ:Hid (G9 ⟨k,⟨op,d⟩,kids⟩=d.length+(kids.length+(kids.map G9).sum)):=E5 _ _ _;obtain⟨aT,hZ⟩:=AA (G9 ⟨k,⟨op,d⟩,kids⟩)
  rw[<-hZ] at xR bo jJ bk hP ⊢;clear hZ
  have IH:Hid (∀x∈kids,∀(Q:Nat->Prop) (g P:Nat) (w:World) (av kv:Value),(∀b,Q b->g<b)->Bi Q w av x.one.args->Dp Q w kv x.kids->Kw x->G9 x<=40000->Ig w g P->P+10*G9 x+60<=100000000->
   Calls prog 135 #[AH g, .agg #[AB x.kind,AB x.one.op,av,kv]] w λe w'=>MH Q e w w' g (P+10*G9 x+60) (G9 x+20)):=ih
  have HQ:Hid (∀b,Q b->g<b):=hQ;have T:Hid (Kw ⟨k,⟨op,d⟩,kids⟩):=lQ;have aQ:Hid (Bi (AP Q w) w av d):=ak.mono λb hb h=>Or.inl ⟨h,hb⟩
  have oI:Hid (Dp (AP Q w) w kv kids):=an.mono λb hb h=>Or.inl ⟨h,hb⟩
  obtain⟨f,l,rfl,_⟩:=ak;obtain⟨t,y,rfl,_⟩:=an;clear ih hQ lQ;go_enter func135,ntmps135;go_upto_region 1 with fail
  go_cut [15] (λc wq=>∃b:Bool,c=.bool b/\(b=true->0<kids.length)/\Tv wq w.heap.size k op (AE f d.length l) (AE t kids.length y)/\Tv wq (w.heap.size+1) 0 0 AG AG/\Bi (AP Q w) wq (AE f d.length l) d/\Dp (AP Q w) wq (AE t kids.length y) kids/\Ig wq g (P+1)/\w.grownBy wq (some g))
  case first=>
   by_cases bf:0<kids.length
   ·go_wp2_with ((go_at_call_of 37 (Value.int IntKind.i64 3);refine(Fp g _ _ _ Ab AQ AQ AQ).mono ?_;rintro e wa ⟨x,rfl,ar,aB,ae,bh⟩;obtain⟨X,I,K,q1,H,G,F,L,M⟩:FK wa w.heap.size (AB k) (AB op) (AE f d.length l) (AE t kids.length y):=qb4;obtain⟨ab,C,O,A,R,B,S,D,V⟩:EN wa ((w.heap.size+1)):=ET))
    go_meet;have ac:Ac (AP Q w) w wa:=((Ac.of_below (Aa _ _)).trans (Ac.of_below (Aa _ _))).trans (Hl HQ AQ bh);exact⟨decide (0<x),rfl,λ_=>bf,BL,BL,aQ.keep ac,oI.keep ac,A2,A0⟩
   ·have bw:decide (0<(kids.length:Int))=false:=by rw[FQ];omega
    go_wp2
    go_meet;exact⟨false,rfl,λh=>BE,BL,BL,aQ.keep A9,oI.keep A9,A2,A0⟩
  case rest=>
   obtain⟨b,rfl,aE,aR,ay,az,aD,ae,aA⟩:=hcut;clear aQ oI hr;cases b with
   | true=>
    have bf:0<kids.length:=aE rfl;clear aE;have aV:Hid (Tv wc w.heap.size k op (AE f d.length l) (AE t kids.length y)):=aR;have bg:Hid (Tv wc (w.heap.size+1) 0 0 AG AG):=ay;have aj:Hid (Bi (AP Q w) wc (AE f d.length l) d):=az;have lJ:Hid (Dp (AP Q w) wc (AE t kids.length y) kids):=aD;obtain⟨X,I,q1,G,L,K,H,F,M⟩:=aR;have bA:=ay.1;clear ay az aD;go_upto_region 3 with(at_builtin;refine Rw rfl _ _ rfl (AP Q w) wc kids (AE t kids.length y) rfl rfl rfl lJ AQ ?_;intro bb cc w3 xs ag af dX gU U;have al:Hid (w3.ownsRow wc.heap.size 59 4 (AE (some (AK bb 0)) kids.length cc) kids.length xs):=ag;have ao:Hid (RowOf 4 (Zn (λb=>AP Q w b/\b<wc.heap.size) w3) xs kids):=af;have dJ:Hid ((wc.alloc (.cells #[] 59)).grownBy w3 (some wc.heap.size)):=U;clear ag af U I q1 G L K H F M)
    have rJ:Hid (Tv w3 w.heap.size k op (AE f d.length l) (AE t kids.length y)):=(aV.alloc _).grownO dJ BA;have rG:Hid (Tv w3 (w.heap.size+1) 0 0 AG AG):=(bg.alloc _).grownO dJ BA;have bK:Ig w3 g (P+1):=Fj (Bl ae _) dJ BH;have cO:w.grownBy w3 (some g):=J5 (Ea aA _) dJ BH;have a3:Hid (Bi (AP Q w) w3 (AE f d.length l) d):=((aj.mono (P:=λb=>AP Q w b/\b<wc.heap.size) λb hb h=>⟨h,hb⟩).keep ((Ac.of_below (Aa _ _)).trans (Ac.of_grown dJ (λb hb e=>by simp only[CZ] at e;exact absurd hb.2 AQ)))).mono λb _ h=>h.1
    have qp:Hid (Bi (λb=>AP Q w b/\b≠bb) w3 (AE f d.length l) d):=((aj.mono (P:=λb=>AP Q w b/\b<wc.heap.size) λb hb h=>⟨h,hb⟩).keep ((Ac.of_below (Aa _ _)).trans (Ac.of_grown dJ (λb hb e=>by simp only[CZ] at e;exact absurd hb.2 AQ)))).mono λb _ h=>⟨h.1,by have:=h.2;omega⟩
    have a8:Hid (RowOf 4 (Zn (λb=>AP Q w b/\b≠bb) w3) xs kids):=ao.imp λ_ _ _ h=>h.mono λb _ hb=>⟨hb.1,by have:=hb.2;omega⟩
    clear aV bg aj lJ ao ae aA X;go_upto_region 4 with(go_at_call_of 37 (kids.length:Nat);refine(Fp g _ _ _ bK AQ AQ AQ).mono ?_;rintro e z ⟨x,rfl,ar,aB,fF,aY⟩;obtain⟨j,rfl⟩:=FP ar;have hj:j<kids.length:=AQ;clear ar aB)
    have aN:Ac (λb=>AP Q w b/\b≠bb) w3 z:=Gi (Hl HQ AQ aY) (λb _ h=>h.1);have cZ:Hid (z.ownsRow wc.heap.size 59 4 (AE (some (AK bb 0)) kids.length cc) kids.length xs):=Bv al aY AQ;have aF:Hid (RowOf 4 (Zn (λb=>AP Q w b/\b≠bb) z) xs kids):=a8.imp λ_ _ _ h=>h.keep aN
    have rH:Hid (Tv z w.heap.size k op (AE f d.length l) (AE t kids.length y)):=rJ.grownO aY BA;have rF:Hid (Tv z (w.heap.size+1) 0 0 AG AG):=rG.grownO aY BA;have bq:Hid (Bi (AP Q w) z (AE f d.length l) d):=a3.keep (Hl HQ AQ aY);have iJ:w.grownBy z (some g):=D5 cO aY;have aw:bb<z.heap.size:=CB gU aY.size;have br:Hid (Bi (λb=>AP Q w b/\b≠bb) z (AE f d.length l) d):=qp.keep aN;clear al a8 rJ rG a3 bK cO aN dJ aY gU qp;obtain⟨av,kv,r0,r1,r2,r3,s0,s1,s2,s3,ak,an⟩:=Ay1 cZ aF hj;have dQ:Hid (G9 kids[j]+1<=aT/\Kw kids[j]):=⟨xR _ (CN hj),T.parts.2.2 _ (CN hj)⟩
    have HI:Hid (Calls prog 135 #[AH g, .agg #[AB kids[j].kind,AB kids[j].one.op,av,kv]] z λe w'=>MH (λb=>AP Q w b/\b≠bb) e z w' g (P+2+10*G9 kids[j]+60) (G9 kids[j]+20)):=
     IH _ (CN hj) _ g (P+2) z av kv (λb hb=>by rcases hb.1 with h | h;exact HQ b h.1;omega) ak an dQ.2 yGd fF yGd
    have xQ:Hid (∀x,G9 x<=G9 kids[j]+20->((kids.set j x).map G9).sum<=(kids.map G9).sum+20):=λx hx=>QO G9 20 kids j x hj hx
    obtain⟨aS,hX⟩:=AA (kids[j])
    rw[<-hX] at HI xQ dQ r0 r1;obtain⟨u1,t1,rfl,_⟩:=ak;obtain⟨u2,t2,rfl,_⟩:=an;clear hX IH fF;go_upto_region 5 with(go_at_call 135;refine HI.mono ?_;rintro e q ⟨aa,vk,zo,rfl,gV,kH,rU,rQ,gG,E⟩;have uT:Hid (Bi (Fr (λb=>AP Q w b/\b≠bb) z.heap.size z.heap.size) q vk aa.one.args):=gV;have ba:Hid (Dp (Fr (λb=>AP Q w b/\b≠bb) z.heap.size z.heap.size) q zo aa.kids):=kH;have l7:Hid (Kw aa):=rU;have au:=Bv cZ E AQ;obtain⟨d0,d1,d2,d3,f0,f1,f2,f3⟩:=(⟨au.frozenAt (j*4),au.frozenAt (j*4+1),au.frozenAt (j*4+2),au.frozenAt (j*4+3),(Dn E aw AQ).trans r0,(Dn E aw AQ).trans r1,(Dn E aw AQ).trans r2,(Dn E aw AQ).trans r3⟩:q.frozen? (AK bb (j*4))=false/\q.frozen? (AK bb (j*4+1))=false/\q.frozen? (AK bb (j*4+2))=false/\q.frozen? (AK bb (j*4+3))=false/\q.cell? (AK bb (j*4))=_/\q.cell? (AK bb (j*4+1))=_/\q.cell? (AK bb (j*4+2))=_/\q.cell? (AK bb (j*4+3))=_);obtain⟨y1,z1,rfl,_⟩:=gV;obtain⟨y2,z2,rfl,_⟩:=kH;clear au rU r0 r1 r2 r3 s0 s1 s2 s3)
    obtain⟨W,hW⟩:=AA (((((q.setCell (AK bb (j*4)) (AB aa.kind)).setCell (AK bb (j*4+1)) (AB aa.one.op)).setCell (AK bb (j*4+2)) (AE y1 aa.one.args.length z1)).setCell (AK bb (j*4+3)) (AE y2 aa.kids.length z2)))
    rw[<-hW];have bB:=E.size;have aJ:∀b,b<q.heap.size->Fr (λb=>AP Q w b/\b≠bb) z.heap.size z.heap.size b->AP Q w b/\b≠bb:=λb _ h=>by
     rcases h with h | h
     ·exact h.1
     ·exact⟨Or.inr AQ,AQ⟩
    have aP:Ac (λb=>AP Q w b/\b≠bb) z q:=Gi (Hl HQ AQ E) (λb _ h=>h.1);have aZ:=sb (Bv cZ E AQ) (aF.imp λ_ _ _ h=>h.keep aP) hj (λh=>h.2 rfl) (uT.mono aJ) (ba.mono aJ);rw[<-hW] at aZ;obtain⟨ys,aU,a6⟩:=aZ;have bm:Tv W w.heap.size k op (AE f d.length l) (AE t kids.length y):=by
     rw[hW];exact((((rH.grownO E BA).set AQ).set AQ).set AQ).set AQ
    have bj:Tv W (w.heap.size+1) 0 0 AG AG:=by
     rw[hW];exact((((rF.grownO E BA).set AQ).set AQ).set AQ).set AQ
    have bu:Ig W g (P+2+10*G9 aS+60):=by
     rw[hW];exact J8 (J8 (J8 (J8 gG AQ _) AQ _) AQ _) AQ _
    have bz:w.grownBy W (some g):=by
     rw[hW];have hb:w.heap.size<=bb:=AQ
     exact Lj hb (Lj hb (Lj hb (Lj hb (D5 iJ E) _) _) _) _
    have a5:Bi (AP Q w) W (AE f d.length l) d:=by
     have h4:Bi (λb=>AP Q w b/\b≠bb) z (AE f d.length l) d:=br.out;rw[hW];have hn:¬(λb=>AP Q w b/\b≠bb) bb:=λh=>h.2 rfl
     exact((h4.keep aP).keep ((((Ac.set hn _).trans (Ac.set hn _)).trans (Ac.set hn _)).trans (Ac.set hn _))).mono λb _ h=>h.1
    have a9:Dp (AP Q w) W (AE (some (AK bb 0)) kids.length cc) (kids.set j aa):=by
     have e:kids.length=(kids.set j aa).length:=AU
     rw[e] at aU ⊢
     exact Pn aU (a6.imp λ_ _ _ h=>h.mono λb _ hb=>hb.1) (λb hb=>by
      have:bb=b:=by simpa[Value.ownBlock] using hb
      exact Or.inr AQ)
    have lI:Hid (Dp (AP Q w) W (AE (some (AK bb 0)) kids.length cc) (kids.set j aa)):=a9;have bi:Hid (Bi (AP Q w) W (AE f d.length l) d):=a5;obtain⟨X,I,q1,G,L,K,H,F,M⟩:=bm;obtain⟨ab,C,A,B,D,O,R,S,V⟩:=bj;clear hW aU a6 a9 a5 aP aJ cZ aF rH rF bq uT ba d0 d1 d2 d3 f0 f1 f2 f3 HI
    go_wp2
    refine bodyPost_ret (by simp[results,results135,go_sem,C,A,B,D];rfl) rfl ?_;refine⟨⟨k,⟨op,d⟩,kids.set j aa⟩,_,_,rfl,Bi.mono (bi.keep A9) (Hf _),Dp.mono (lI.keep A9) (Hf _),?_,?_,?_,A0⟩
    ·refine(Qv _ _ _).2 ⟨T.parts.1,T.parts.2.1,λx hx=>?_⟩
     rcases MY hx with h | rfl
     ·exact T.parts.2.2 x h
     ·exact l7.out
    ·have:=xQ aa rQ
     have:=jJ.out
     rw[E5];simp only[JJ];omega
    ·have:=dQ.1
     exact A2
   | false=>
    clear aE IH xR;obtain⟨i0,hi,a7,aX,bc⟩:=info_parts QB;have aj:Hid (Bi (AP Q w) wc (AE f d.length l) d):=az;have lJ:Hid (Dp (AP Q w) wc (AE t kids.length y) kids):=aD;obtain⟨X,I,q1,G,L,K,H,F,M⟩:=aR;obtain⟨ab,C,A,B,D,O,R,S,V⟩:=ay;clear az aD;go_upto_region 9 with((go_at_call_of 37 (Value.int IntKind.i64 6);refine(Fp g _ _ _ Ab AQ AQ AQ).mono ?_;rintro e s ⟨x,rfl,ar,aB,dP,ax⟩;obtain⟨X,I,K,q1,H,G,F,L,M⟩:FK s w.heap.size (AB k) (AB op) (AE f d.length l) (AE t kids.length y):=qb4;obtain⟨ab,C,O,A,R,B,S,D,V⟩:EN s ((w.heap.size+1)):=ET))
    have ap:Hid (Bi (AP Q w) s (AE f d.length l) d):=aj.keep (Hl HQ AQ ax);have nH:Hid (Dp (AP Q w) s (AE t kids.length y) kids):=lJ.keep (Hl HQ AQ ax);have oM:Hid (Tv s w.heap.size k op (AE f d.length l) (AE t kids.length y)):=⟨X,I,q1,G,L,K,H,F,M⟩
    have oL:Hid (Tv s (w.heap.size+1) 0 0 AG AG):=⟨ab,C,A,B,D,O,R,S,V⟩
    have lZ:w.grownBy s (some g):=D5 aA ax;clear aj lJ aA ax ae;have hx:x=0\/x=1\/x=2\/x=3\/x=4\/x=5:=AQ
    clear ar aB;rcases hx with rfl | rfl | rfl | rfl | rfl | rfl
    ·go_wp2_with ((go_at_call_of 39 (7:Nat);refine(X9 g _ _ _ [-1,0,1,2,3,4,5] _ Ab AQ (Cm (by simp[Fz,go_sem])) AU BO AU AU).mono ?_;rintro e z ⟨bs,rfl,hy,ae,aY⟩;simp only[DF,Da,DK] at hy;obtain⟨X,I,K,q1,H,G,F,L,M⟩:FK z w.heap.size (AB k) (AB op) (AE f d.length l) (AE t kids.length y):=qb4;obtain⟨ab,C,O,A,R,B,S,D,V⟩:EN z ((w.heap.size+1)):=ET))
     have ac:Ac (AP Q w) s z:=(Ac.of_below (Aa _ _)).trans (Hl HQ AQ aY);have bp:=ap.keep ac;have tY:=nH.keep ac;refine bodyPost_ret (by simp[results,results135,go_sem,C,A,B,D];rfl) rfl ?_;refine⟨⟨bs,⟨op,d⟩,kids⟩,_,_,rfl,Bi.mono (bp.keep A9) (Hf _),Dp.mono (tY.keep A9) (Hf _),Axf T AQ,?_,A2,A0⟩;have:=jJ.out
     rw[E5];simp only;omega
    ·go_wp2_with (first | (go_at_call 68;refine(Jb g _ _ (by exact bK) AQ).mono ?_;rintro e q ⟨Y,ev,J,rfl,bQ,dG,fJ,nR,ae,E⟩;obtain⟨ea,ec,rfl,_,_⟩:=id dG;obtain⟨X,I,K,q1,H,G,F,L,M⟩:FK q w.heap.size (AB k) (AB op) (AE f d.length l) (AE t kids.length y):=qb4;obtain⟨ab,C,O,A,R,B,S,D,V⟩:EN q ((w.heap.size+1)):=ET) | (at_builtin;refine Rw rfl _ _ rfl (AP Q w) s kids (AE t kids.length y) rfl rfl rfl nH AQ ?_;intro bb cc w3 xs ag af dX gU U;have al:Hid (w3.ownsRow s.heap.size 59 4 (AE (some (AK bb 0)) kids.length cc) kids.length xs):=ag;have ao:Hid (RowOf 4 (Zn (λb=>AP Q w b/\b<s.heap.size) w3) xs kids):=af;have dJ:Hid ((s.alloc (.cells #[] 59)).grownBy w3 (some s.heap.size)):=U;have jH:Tv w3 w.heap.size k op (AE f d.length l) (AE t kids.length y):=(oM.alloc _).grownO U BA;have jF:Tv w3 (w.heap.size+1) 0 0 AG AG:=(oL.alloc _).grownO U BA;have bK:Ig w3 g (P+2):=Fj (Bl dP _) U BH;have cO:w.grownBy w3 (some g):=J5 (Ea lZ _) U BH;clear ag af U I q1 G L C A B D K H F M O R S V;obtain⟨X,I,q1,G,L,K,H,F,M⟩:=jH;obtain⟨ab,C,A,B,D,O,R,S,V⟩:=jF) | (at_builtin;refine wpList_append_own_at _ rfl _ _ 57 rfl s.heap.size 59 i0 (.agg #[AB 0,AB 0,AG,AG]) 4 64 underlying57 hi a7 aX bc rfl AY _ _ _ rfl ((Bv al E AQ).alloc _) _ _ _ [AB 1,AB Y,AE ea J.length ec,AG] rfl rfl BP yCf A6 AQ (by rw[World.size_alloc];have:=E.size;omega) ?_;intro v' N ah aC bT aW;have uM:Hid (N.ownsRow s.heap.size 59 4 v' (kids.length+1) (xs++[AB 1,AB Y,AE ea J.length ec,AG])):=ah;have Z:Hid ((q.alloc (.cells #[AB 1,AB Y,AE ea J.length ec,AG] 59)).grownBy N (some bb)):=aC;obtain⟨y6,z6,aM,_⟩:=Hg ah;subst aM;have jG:Tv N w.heap.size k op (AE f d.length l) (AE t kids.length y):=(Tv.alloc (show Tv q w.heap.size k op (AE f d.length l) (AE t kids.length y) from BL) _).grownO Z BA;have gX:Tv N (w.heap.size+1) 0 0 AG AG:=(Tv.alloc (show Tv q (w.heap.size+1) 0 0 AG AG from BL) _).grownO Z BA;clear ah aC bT aW I q1 G L C A B D K H F M O R S V;obtain⟨X,I,q1,G,L,K,H,F,M⟩:=jG;obtain⟨ab,C,A,B,D,O,R,S,V⟩:=gX))
     have hn:∀W:World,∀b,b<W.heap.size->(AP Q w b/\b≠bb)->AP Q w b:=λ_ b _ h=>h.1
     have hD:∀(v:Value) (ai:List Stil.CC),Bi (AP Q w) s v ai->Bi (λb=>AP Q w b/\b≠bb) w3 v ai:=λv ai h=>((h.mono (P:=λb=>AP Q w b/\b<s.heap.size) λb hb h=>⟨h,hb⟩).keep ((Ac.of_below (Aa _ _)).trans (Ac.of_grown dJ (λb hb e=>by simp only[CZ] at e;exact absurd hb.2 AQ)))).mono λb _ h=>⟨h.1,by have:=h.2;omega⟩
     have tV:RowOf 4 (Zn (λb=>AP Q w b/\b≠bb) w3) xs kids:=ao.imp λ_ _ _ h=>h.mono λb _ hb=>⟨hb.1,by have:=hb.2;omega⟩
     have bv:s.heap.size+1<=w3.heap.size:=by have:=dJ.size;simpa using this
     have bn:Ac (λb=>AP Q w b/\b≠bb) w3 q:=Gi (Hl HQ AQ E) (λb _ h=>h.1);have ac:Ac (λb=>AP Q w b/\b≠bb) w3 (q.alloc (.cells #[AB 1,AB Y,AE ea J.length ec,AG] 59)):=bn.trans (Ac.of_below (Aa _ _));have qF:=Up (R':=AP Q w) (v:=AE (some (AK bb 0)) kids.length cc) (n:=⟨1,⟨Y,J⟩,[]⟩) (tV.imp λ_ _ _ h=>h.keep ac) ⟨_,_,rfl,((Ew dG).mono (λb _ hb=>⟨Or.inr AQ,AQ⟩)).keep (Ac.of_below (Aa _ _)),Jr _ _⟩ rfl Z (λb hb e=>hb.2 yBj) (λb hb=>hb.1);have e6:kids.length+1=(kids++[(⟨1,⟨Y,J⟩,[]⟩:Stil.B9)]).length:=AU
     have tX:Dp (AP Q w) N (AE y6 (kids.length+1) z6) (kids++[⟨1,⟨Y,J⟩,[]⟩]):=by
      have ho:=uM.out;rw[e6] at ho ⊢;exact Pn ho qF (λb hb=>Or.inr yCi)
     have aG:Bi (AP Q w) N (AE f d.length l) d:=(((hD _ _ ap.out).keep ac).keep (Ac.of_grown Z (λb hb e=>hb.2 yCe))).mono (hn _);have kE:Ig N g (P+40):=F6 (Fj (Bl ae _) Z BH) AQ;have uZ:w.grownBy N (some g):=J5 (Ea (D5 cO E) _) Z BH;refine bodyPost_ret (by simp[results,results135,go_sem,C,A,B,D];rfl) rfl ?_;refine⟨⟨k,⟨op,d⟩,kids++[⟨1,⟨Y,J⟩,[]⟩]⟩,_,_,rfl,Bi.mono (aG.keep A9) (Hf _),Dp.mono (tX.keep A9) (Hf _),?_,?_,A2,A0⟩
     ·refine(Qv _ _ _).2 ⟨T.parts.1,T.parts.2.1,λx hx=>?_⟩
      rcases List.mem_append.1 hx with h | h
      ·exact T.parts.2.2 x h
      ·rw[List.mem_singleton.1 h];exact Ht AY bQ fJ AQ
     ·have:=jJ.out
      rw[E5];simp only[CM,CU,GV,CH,CO,CP,C3,DW,FH];have e9:G9 ⟨1,⟨Y,J⟩,[]⟩=J.length:=by rw[E5];simp
      rw[e9];omega
    ·go_wp2
     refine bodyPost_ret (by simp[results,results135,go_sem,C,A,B,D];rfl) rfl ?_;refine⟨⟨k,⟨op,d⟩,[]⟩,_,_,rfl,Bi.mono (ap.keep A9) (Hf _),Jr _ _,Axe T (λ_ h=>BE),?_,A2,A0⟩;have:=jJ.out
     rw[E5];simp only[CO,C3,FH];omega
    ·go_wp2_with ((go_at_call 40;refine(Pg g _ _ (by exact dP) AQ).mono ?_;rintro e q ⟨Y,ev,J,rfl,bQ,dG,fJ,nR,ae,E⟩;obtain⟨ea,ec,rfl,_,_⟩:=id dG;obtain⟨X,I,K,q1,H,G,F,L,M⟩:FK q w.heap.size (AB k) (AB op) (AE f d.length l) (AE t kids.length y):=qb4;obtain⟨ab,C,O,A,R,B,S,D,V⟩:EN q ((w.heap.size+1)):=ET))
     have aL:=nH.keep (Hl HQ AQ E);have aO:Bi (AP Q w) q (AE ea J.length ec) J:=(Ew dG).mono (λb _ hb=>Or.inr AQ);refine bodyPost_ret (by simp[results,results135,go_sem,C,A,B,D];rfl) rfl ?_;refine⟨⟨k,⟨Y,J⟩,kids⟩,_,_,rfl,Bi.mono (aO.keep A9) (Hf _),Dp.mono (aL.keep A9) (Hf _),ZD T bQ fJ AQ,?_,A2,A0⟩;have:=jJ.out
     rw[E5];simp only;omega
    ·go_wp2_with ((go_at_call 134;refine(XW g _ op _ d _ (by exact dP) AQ T.parts.2.1.1 (Avu (ap.mono (λb _ hb=>by rcases hb with h | h;exact HQ b h.1;omega))) T.parts.2.1.2.1 AQ).mono ?_;rintro e q ⟨Y,ev,J,rfl,bQ,dG,fJ,nR,ae,E⟩;obtain⟨ea,ec,rfl,_,_⟩:=id dG;obtain⟨X,I,K,q1,H,G,F,L,M⟩:FK q w.heap.size (AB k) (AB op) (AE f d.length l) (AE t kids.length y):=qb4;obtain⟨ab,C,O,A,R,B,S,D,V⟩:EN q ((w.heap.size+1)):=ET))
     have aL:=nH.keep (Hl HQ AQ E);have aO:Bi (AP Q w) q (AE ea J.length ec) J:=(Ew dG).mono (λb _ hb=>Or.inr AQ);refine bodyPost_ret (by simp[results,results135,go_sem,C,A,B,D];rfl) rfl ?_;refine⟨⟨k,⟨Y,J⟩,kids⟩,_,_,rfl,Bi.mono (aO.keep A9) (Hf _),Dp.mono (aL.keep A9) (Hf _),ZD T bQ fJ AQ,?_,A2,A0⟩;have:=jJ.out
     rw[E5];simp only;omega
    ·go_wp2_with (first | (at_builtin;refine Rw rfl _ _ rfl (AP Q w) s kids (AE t kids.length y) rfl rfl rfl nH AQ ?_;intro bb cc w3 xs ag af dX gU U;have al:Hid (w3.ownsRow s.heap.size 59 4 (AE (some (AK bb 0)) kids.length cc) kids.length xs):=ag;have ao:Hid (RowOf 4 (Zn (λb=>AP Q w b/\b<s.heap.size) w3) xs kids):=af;have dJ:Hid ((s.alloc (.cells #[] 59)).grownBy w3 (some s.heap.size)):=U;have jH:Tv w3 w.heap.size k op (AE f d.length l) (AE t kids.length y):=(oM.alloc _).grownO U BA;have jF:Tv w3 (w.heap.size+1) 0 0 AG AG:=(oL.alloc _).grownO U BA;have bK:Ig w3 g (P+2):=Fj (Bl dP _) U BH;have cO:w.grownBy w3 (some g):=J5 (Ea lZ _) U BH;clear ag af U I q1 G L C A B D K H F M O R S V;obtain⟨X,I,q1,G,L,K,H,F,M⟩:=jH;obtain⟨ab,C,A,B,D,O,R,S,V⟩:=jF) | (at_builtin;refine wpList_append_own_at _ rfl _ _ 57 rfl s.heap.size 59 i0 (.agg #[AB 0,AB 0,AG,AG]) 4 64 underlying57 hi a7 aX bc rfl AY _ _ _ rfl (al.alloc _) _ _ _ [AB 0,AB 0,AG,AG] rfl rfl BP yCf A6 AQ Bm ?_;intro v' N ah aC bT aW;have uM:Hid (N.ownsRow s.heap.size 59 4 v' (kids.length+1) (xs++[AB 0,AB 0,AG,AG])):=ah;have Z:Hid ((w3.alloc (.cells #[AB 0,AB 0,AG,AG] 59)).grownBy N (some bb)):=aC;obtain⟨y6,z6,aM,_⟩:=Hg ah;subst aM;have jG:Tv N w.heap.size k op (AE f d.length l) (AE t kids.length y):=(Tv.alloc (show Tv w3 w.heap.size k op (AE f d.length l) (AE t kids.length y) from BL) _).grownO Z BA;have gX:Tv N (w.heap.size+1) 0 0 AG AG:=(Tv.alloc (show Tv w3 (w.heap.size+1) 0 0 AG AG from BL) _).grownO Z BA;clear ah aC bT aW I q1 G L C A B D K H F M O R S V;obtain⟨X,I,q1,G,L,K,H,F,M⟩:=jG;obtain⟨ab,C,A,B,D,O,R,S,V⟩:=gX))
     have hn:∀W:World,∀b,b<W.heap.size->(AP Q w b/\b≠bb)->AP Q w b:=λ_ b _ h=>h.1
     have hD:∀(v:Value) (ai:List Stil.CC),Bi (AP Q w) s v ai->Bi (λb=>AP Q w b/\b≠bb) w3 v ai:=λv ai h=>((h.mono (P:=λb=>AP Q w b/\b<s.heap.size) λb hb h=>⟨h,hb⟩).keep ((Ac.of_below (Aa _ _)).trans (Ac.of_grown dJ (λb hb e=>by simp only[CZ] at e;exact absurd hb.2 AQ)))).mono λb _ h=>⟨h.1,by have:=h.2;omega⟩
     have tV:RowOf 4 (Zn (λb=>AP Q w b/\b≠bb) w3) xs kids:=ao.imp λ_ _ _ h=>h.mono λb _ hb=>⟨hb.1,by have:=hb.2;omega⟩
     have ac:Ac (λb=>AP Q w b/\b≠bb) w3 (w3.alloc (.cells #[AB 0,AB 0,AG,AG] 59)):=Ac.of_below (Aa _ _);have qF:=Up (R':=AP Q w) (v:=AE (some (AK bb 0)) kids.length cc) (n:=⟨0,⟨0,[]⟩,[]⟩) (tV.imp λ_ _ _ h=>h.keep ac) ⟨_,_,rfl,Tc _ _,Jr _ _⟩ rfl Z (λb hb e=>hb.2 yBj) (λb hb=>hb.1);have e6:kids.length+1=(kids++[(⟨0,⟨0,[]⟩,[]⟩:Stil.B9)]).length:=AU
     have tX:Dp (AP Q w) N (AE y6 (kids.length+1) z6) (kids++[⟨0,⟨0,[]⟩,[]⟩]):=by
      have ho:=uM.out;rw[e6] at ho ⊢;exact Pn ho qF (λb hb=>Or.inr yCi)
     have aG:Bi (AP Q w) N (AE f d.length l) d:=(((hD _ _ ap.out).keep ac).keep (Ac.of_grown Z (λb hb e=>hb.2 yCe))).mono (hn _);have kE:Ig N g (P+40):=F6 (Fj (Bl bK _) Z BH) AQ;have uZ:w.grownBy N (some g):=J5 (Ea cO _) Z BH;refine bodyPost_ret (by simp[results,results135,go_sem,C,A,B,D];rfl) rfl ?_;refine⟨⟨k,⟨op,d⟩,kids++[⟨0,⟨0,[]⟩,[]⟩]⟩,_,_,rfl,Bi.mono (aG.keep A9) (Hf _),Dp.mono (tX.keep A9) (Hf _),?_,?_,A2,A0⟩
     ·refine(Qv _ _ _).2 ⟨T.parts.1,T.parts.2.1,λx hx=>?_⟩
      rcases List.mem_append.1 hx with h | h
      ·exact T.parts.2.2 x h
      ·rw[List.mem_singleton.1 h];exact Ht AY AY (λ_ h=>BE) AU
     ·have:=jJ.out
      rw[E5];simp only[CM,CU,GV,CH,CO,CP,C3,DW,FH];have e9:G9 ⟨0,⟨0,[]⟩,[]⟩=0:=by rw[E5];simp
      rw[e9];omega
