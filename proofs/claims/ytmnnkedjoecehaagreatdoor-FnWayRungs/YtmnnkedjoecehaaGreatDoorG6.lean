import Derived.Test.YtmnnkedjoecehaaGreatDoorG5
set_option linter.defProp false
set_option maxHeartbeats 4000000
set_option maxRecDepth 100000
namespace Go.Proofs.YtmnnkedjoecehaaGreatDoor
open Tryz Stil Go.RowKit Go.Sort Go.BigFrame
variable {a:Act}{av kv v:Value}{base bb cap m n:Nat}{k op:Int}{o:Oper}{ops:Array Oper}{w':World}{xs:List Value}
def Fr (Q:Nat->Prop)(n m:Nat)(b:Nat):Prop:=(Q b/\b<n)\/m<=b
abbrev AP (Q:Nat->Prop)(w:World):=Fr Q w.heap.size (w.heap.size+2)
def Fr.box {Q:Nat->Prop}{k:Nat}(h1:n<=k)(b:k<m):¬Fr Q n m k:=by
 rintro(h | h)
 ·exact absurd h.2 AQ
 ·omega
def A9 {P:Nat->Prop}{w W:World}(h:Ac P w W:=by(repeat (first | with_reducible exact Ac.refl _ _ | with_reducible assumption | with_reducible refine Ac.trans ?_ (Ac.set (Fr.box (by omega) (by omega)) _) | with_reducible refine Ac.trans ?_ (Ac.of_below (Aa _ _))))):Ac P w W:=h
def FrO (Q:Nat->Prop)(n m:Nat)(v:Value)(b:Nat):Prop:=Fr Q n m b/\v.ownBlock≠some b
def FrO.keep {Q:Nat->Prop}{w:World}(h:w.grownBy w' v.ownBlock):Ac (FrO Q n m v) w w':=Ac.of_grown h λ_ b=>b.2
def zz {p:Prop}(h:p:=by
 intro v' w' h1 h2 h3
 simp only[CV,C5] at h1;obtain⟨bb,c,rfl,hb1,hb2,_,_⟩:=Bg h1 AQ;have h4:w.grownBy w' (some W.heap.size):=h2;exact hK bb c w' xs h1 (hrow.imp λ_ _ _ h=>h.keep (Ac.of_grown h4 (λb hb e=>by simp only[C0] at e;exact absurd hb.2 AQ))) hb1 hb2 h4):p:=h
theorem pq {w:World}{K:Act->World->Prop}{Q:Exit->Act->World->Prop}{E:Prop}
  (hg:o.guard=none) (s x:Operand) (f:o.op=.call {callee:=.builtin .append,args:=#[s,x],argTypes:=#[57,57]})
  (R:Nat->Prop) (W:World) (ns:List Stil.B8) (kv:Value) (l:a.eval s=AE (some (AL W 0)) 0 0) (hx:a.eval x=kv) (i:w=W.alloc (.cells #[] 59))
  (I:Dt R W kv ns) (hl:ns.length<=100000)
  (hK:∀bb c w' xs,w'.ownsRow W.heap.size 59 4 (AE (some (AK bb 0)) ns.length c) ns.length xs->RowOf 4 (Z8 (λb=>R b/\b<W.heap.size) w') xs ns->W.heap.size<=bb->bb<w'.heap.size->w.grownBy w' (some W.heap.size)->K (a.put o.dst (AE (some (AK bb 0)) ns.length c)) w'):
  if Region.wanted o (yielded ops a.tmps)=true then Oper.wp prog o a w K Q else E:=by
 obtain⟨B,hi,D,C,N⟩:=info_parts P2;have L:Dt (λb=>R b/\b<W.heap.size) w kv ns:=by
  rw[i];exact(I.mono λb hb h=>⟨h,hb⟩).keep (Ac.of_below (Aa _ _))
 have S:w.heap.size=W.heap.size+1:=by rw[i];simp
 have r:w.ownsRow W.heap.size 59 4 (AE (some (AL W 0)) 0 0) 0 []:=by
  rw[i];have:=World.ownsRow_lit (base:=W.heap.size) (e:=59) (size:=4) W #[] 0 AQ A6 rfl
  simpa using this
 obtain⟨ad,cap,M,q,xs,hrow,O⟩:=tQ L;subst M;by_cases hd:ns.length=0
 ·have t:=List.length_eq_zero_iff.1 hd
  subst t;have y:Region.wanted o (yielded ops a.tmps)=true:=by simp[Region.wanted,hg]
  rw[if_pos y];have J:xs=[]:=by have:=hrow.1;simpa using this
  subst J;have g:=hK W.heap.size 0 w [] r (RowOf.nil _ _) (CG _) AQ (Pj _ _);simp only[CP] at g hx;unfold Oper.wp execOp;cases ad
  ·have e:Sem.run prog (Builtin.append_ #[57,57] o.type #[AE (some (AL W 0)) 0 0,AE none 0 cap]) w=.ok (AE (some (AL W 0)) 0 0) w:=by simp[Builtin.append_,go_sem]
   simp only[f,resolve,invoke,builtin,Sem.run_bind,Sem.run_pure,Result.andThen_ok,ES,CQ,C6,l,hx,e];exact g
  ·rename_i z
   have e:Sem.run prog (Builtin.append_ #[57,57] o.type #[AE (some (AL W 0)) 0 0,AE (some z) 0 cap]) w=.ok (AE (some (AL W 0)) 0 0) w:=by simp[Builtin.append_,go_sem]
   simp only[f,resolve,invoke,builtin,Sem.run_bind,Sem.run_pure,Result.andThen_ok,ES,CQ,C6,l,hx,e];exact g
 ·obtain⟨p,rfl⟩:∃p,ad=some p:=by
   cases ad with
   | none=>exact absurd (q.2 rfl) (by have:=q.1;omega)
   | some p=>exact⟨p,rfl⟩
  refine Ec hg s x _ f W.heap.size 59 B _ 4 64 underlying57 hi D C N rfl AY _ _ [] l r _ _ _ xs hx hrow.1 (O _ rfl) ?_ A6 AQ AQ ?_
  ·intro u hu
   obtain⟨j,d⟩:=List.getElem?_of_mem hu;have U:j<ns.length*4:=by rw[<-hrow.1];exact(List.getElem?_eq_some_iff.1 d).1
   obtain⟨av,T,F,A,H⟩:=hrow.2 (j / 4) AQ;have G:xs[j]?=((xs.drop (j / 4*4)).take 4)[j % 4]?:=by
    rw[G0,if_pos AQ,G1,Nat.mul_comm,Nat.div_add_mod]
   rw[G,F] at d;obtain⟨V,X,rfl,_⟩:=A;obtain⟨P,Y,rfl,_⟩:=H;have :=Hv d;simp only[C7,EA,DR] at this;rcases this with rfl | rfl | rfl | rfl<;>rfl
  ·exact zz
theorem Sm {rest:List Oper}{w:World}{Q:Exit->Act->World->Prop}
  (hg:o.guard=none) (s x:Operand) (j:o.op=.call {callee:=.builtin .append,args:=#[s,x],argTypes:=#[57,57]})
  (R:Nat->Prop) (W:World) (ns:List Stil.B8) (kv:Value) (d:a.eval s=AE (some (AL W 0)) 0 0) (hx:a.eval x=kv) (p:w=W.alloc (.cells #[] 59))
  (r:Dt R W kv ns) (hl:ns.length<=100000)
  (h:∀bb c w' xs,w'.ownsRow W.heap.size 59 4 (AE (some (AK bb 0)) ns.length c) ns.length xs->RowOf 4 (Z8 (λb=>R b/\b<W.heap.size) w') xs ns->W.heap.size<=bb->bb<w'.heap.size->w.grownBy w' (some W.heap.size)->wpList prog ops Q rest (a.put o.dst (AE (some (AK bb 0)) ns.length c)) w'):
  wpList prog ops Q (o::rest) a w:=by
 refine wpList_plain hg λK i=>?_
 have q:Region.wanted o (yielded #[] a.tmps)=true:=by simp[Region.wanted,hg]
 have:=pq (ops:=#[]) (K:=K) (Q:=Q) (E:=True) hg s x j R W ns kv d hx p r hl (λbb c w' xs g e l t f=>i _ _ (h bb c w' xs g e l t f))
 rwa [if_pos q] at this
def MR (Q:Nat->Prop)(e:Ending)(w w':World)(g P N:Nat):Prop:=∃(n:Stil.B8) (av kv:Value),e=.returned (.agg #[AB n.kind,AB n.one.op,av,kv])/\Bj (Fr Q w.heap.size w.heap.size) w' av n.one.args/\Dt (Fr Q w.heap.size w.heap.size) w' kv n.kids/\Ll n/\G9 n<=N/\Ij w' g P/\w.grownBy w' (some g)
theorem Ll.parts {n:Stil.B8}(h:Ll n):(-1000000<=n.kind/\n.kind<=1000000)/\Yh n.one/\∀x∈n.kids,Ll x:=by
 obtain⟨k,e,kids⟩:=n;exact(Q9 _ _ _).1 h
theorem Ha {Q:Nat->Prop}{g:Nat}{w:World}(d:∀b,Q b->g<b)(hg:g<m)(h:w.grownBy w' (some g)):Ac (Fr Q n m) w w':=Ac.of_grown h (λb c e=>by
 simp only[C0] at e;rcases c with c | c
 ·have:=d b c.1;omega
 ·omega)
theorem QO {α:Type}(f:α->Nat)(c:Nat):∀(l:List α) (j:Nat) (x:α) (h:j<l.length),f x<=f l[j]+c->((l.set j x).map f).sum<=(l.map f).sum+c
 | [],j,x,h,_=>absurd h AU
 | y::r,0,x,_,b=>by
  simp only[EO] at b;simp only[List.set_cons_zero,CQ,DO];omega
 | y::r,j+1,x,h,b=>by
  have:=QO f c r j x BV (by simpa using b)
  simp only[List.set_cons_succ,CQ,DO];omega
theorem Ay8 {R:Nat->Prop}{w:World}{k:Nat}{ns:List Stil.B8}(h:w.ownsRow base 59 4 (AE (some (AK bb 0)) ns.length cap) ns.length xs)(hr:RowOf 4 (Z8 R w) xs ns)(f:k<ns.length):
  ∃av kv,w.cell? (AK bb (k*4))=some (AB ns[k].kind)/\w.cell? (AK bb (k*4+1))=some (AB ns[k].one.op)/\w.cell? (AK bb (k*4+2))=some av/\w.cell? (AK bb (k*4+3))=some kv/\w.frozen? (AK bb (k*4))=false/\w.frozen? (AK bb (k*4+1))=false/\w.frozen? (AK bb (k*4+2))=false/\w.frozen? (AK bb (k*4+3))=false/\Bj R w av ns[k].one.args/\Dt R w kv ns[k].kids:=by
 obtain⟨g,c,e,_,_,_,b⟩:=Bg h AQ;simp only[Value.slice.injEq,C0,Addr.mk.injEq] at e;obtain⟨⟨rfl,_⟩,_⟩:=e;obtain⟨av,kv,l,j,i⟩:=hr.2 k f;have d:=J0 hr f l;exact⟨av,kv,b _ _ (d 0 _ rfl),b _ _ (d 1 _ rfl),b _ _ (d 2 _ rfl),b _ _ (d 3 _ rfl),h.frozenAt _,h.frozenAt _,h.frozenAt _,h.frozenAt _,j,i⟩
theorem sb {R:Nat->Prop}{w:World}{k:Nat}{ns:List Stil.B8}{N:Stil.B8}(h:w.ownsRow base 59 4 (AE (some (AK bb 0)) n cap) n xs)(hr:RowOf 4 (Z8 R w) xs ns)(i:k<ns.length)(b:¬R bb)
  (f:Bj R w av N.one.args) (g:Dt R w kv N.kids):
  ∃e,((((w.setCell (AK bb (k*4)) (AB N.kind)).setCell (AK bb (k*4+1)) (AB N.one.op)).setCell (AK bb (k*4+2)) av).setCell (AK bb (k*4+3)) kv).ownsRow base 59 4 (AE (some (AK bb 0)) n cap) n e/\
   RowOf 4 (Z8 R ((((w.setCell (AK bb (k*4)) (AB N.kind)).setCell (AK bb (k*4+1)) (AB N.one.op)).setCell (AK bb (k*4+2)) av).setCell (AK bb (k*4+3)) kv)) e (ns.set k N):=by
 refine⟨_,((((h.stored (k*4) _).1.stored (k*4+1) _).1.stored (k*4+2) _).1.stored (k*4+3) _).1,?_⟩;have d:Ac R w ((((w.setCell (AK bb (k*4)) (AB N.kind)).setCell (AK bb (k*4+1)) (AB N.one.op)).setCell (AK bb (k*4+2)) av).setCell (AK bb (k*4+3)) kv):=
  (((Ac.set b _).trans (Ac.set b _)).trans (Ac.set b _)).trans (Ac.set b _)
 have q:=hr.1;have l:k*4+3<xs.length:=AQ
 refine RowOf.set (hr.imp λ_ _ _ h=>h.keep d) i AU ⟨av,kv,?_,f.keep d,g.keep d⟩ ?_
 ·apply LA
  intro j;rw[G0];by_cases c:j<4
  ·rw[if_pos c,G1]
   have:j=0\/j=1\/j=2\/j=3:=AQ
   rcases this with rfl | rfl | rfl | rfl
   ·rw[CY AQ,CY AQ,CY AQ,ER,Dm AQ];rfl
   ·rw[CY AQ,CY AQ,Dm Ax];rfl
   ·rw[CY AQ,Dm Ax];rfl
   ·rw[Dm Ax];rfl
  ·rw[if_neg c,KF Ax]
 ·intro j c
  rw[CY AQ,CY AQ,CY AQ,CY AQ]
def VA {R R':Nat->Prop}{w:World}{cs:List Value}{ns:List Stil.B8}{n:Stil.B8}(h:RowOf 4 (Z8 R w) xs ns)(d:Z8 R w cs n)(hl:cs.length=4)(hg:w.grownBy w' v.ownBlock)(hr:∀b,R b->v.ownBlock≠some b)(c:∀b,R b->R' b):RowOf 4 (Z8 R' w') (xs++cs) (ns++[n]):=
 ((h.append (RowOf.one hl d)).imp λ_ _ _ h=>(h.keep (Ac.of_grown hg hr)).mono λb _=>c b)
def ZI {n:Stil.B8}{b:List Stil.CC}(h:Ll n)(c:-1000000<=op/\op<=1000000)(e:∀d∈b,Small d)(hl:b.length<=100000):Ll ⟨n.kind,⟨op,b⟩,n.kids⟩:=(Q9 _ _ _).2 ⟨h.parts.1,⟨c,e,hl⟩,h.parts.2.2⟩
def Axt {n:Stil.B8}(h:Ll n)(b:-1000000<=k/\k<=1000000):Ll ⟨k,n.one,n.kids⟩:=(Q9 _ _ _).2 ⟨b,h.parts.2.1,h.parts.2.2⟩
def Axs {n:Stil.B8}{ks:List Stil.B8}(h:Ll n)(b:∀x∈ks,Ll x):Ll ⟨n.kind,n.one,ks⟩:=(Q9 _ _ _).2 ⟨h.parts.1,h.parts.2.1,b⟩
def Ui.alloc {w:World}{b:Nat}(h:Ui w b k op av kv)(o:Obj):Ui (w.alloc o) b k op av kv:=h.grownO (grown_below (Aa w o) none) AU
def Ui.set {w:World}{b c o:Nat}(h:Ui w b k op av kv)(f:b≠c):Ui (w.setCell (AK c o) v) b k op av kv:=by
 obtain⟨e,d⟩:=h;refine⟨by simpa using e,?_⟩;simp only[F9 f,Ld];exact d
def m7 {b:List Stil.CC}{kids:List Stil.B8}{x:Stil.B8}(hx:x∈kids):G9 x+1<=G9 ⟨k,⟨op,b⟩,kids⟩:=by
 rw[Fa];have c:=Eb G9 kids x hx;have d:=List.length_pos_of_mem hx;omega
def G7 {Q:Nat->Prop}(W:World):∀b,b<W.heap.size->Fr Q n (n+2) b->Fr Q n n b:=λb _ h=>h.imp id (λh=>by omega)
theorem sL (n:Stil.B8):∀(Q:Nat->Prop) (g P:Nat) (w:World) (av kv:Value),(∀b,Q b->g<b)->Bj Q w av n.one.args->Dt Q w kv n.kids->Ll n->G9 n<=40000->Ij w g P->P+10*G9 n+60<=100000000->
  Calls prog 81 #[AH g, .agg #[AB n.kind,AB n.one.op,av,kv]] w λe w'=>MR Q e w w' g (P+10*G9 n+60) (G9 n+20):=by
 induction n using Fp with
 | h k e kids ih=>
  obtain⟨op,d⟩:=e;intro Q g P w av kv hQ al aj lV bj hr hP;simp only at al aj;have hg:=V8 hr;have yF:Hid (∀x∈kids,G9 x+1<=G9 ⟨k,⟨op,d⟩,kids⟩):=λx hx=>m7 hx
  have bs:d.length+kids.length<=G9 ⟨k,⟨op,d⟩,kids⟩:=by rw[Fa];simp only;omega
  have jM:Hid (G9 ⟨k,⟨op,d⟩,kids⟩=d.length+(kids.length+(kids.map G9).sum)):=Fa _ _ _;obtain⟨aG,hZ⟩:=AA (G9 ⟨k,⟨op,d⟩,kids⟩)
  rw[<-hZ] at yF bs jM bj hP ⊢;clear hZ
  have IH:Hid (∀x∈kids,∀(Q:Nat->Prop) (g P:Nat) (w:World) (av kv:Value),(∀b,Q b->g<b)->Bj Q w av x.one.args->Dt Q w kv x.kids->Ll x->G9 x<=40000->Ij w g P->P+10*G9 x+60<=100000000->
   Calls prog 81 #[AH g, .agg #[AB x.kind,AB x.one.op,av,kv]] w λe w'=>MR Q e w w' g (P+10*G9 x+60) (G9 x+20)):=ih
  have HQ:Hid (∀b,Q b->g<b):=hQ;have U:Hid (Ll ⟨k,⟨op,d⟩,kids⟩):=lV;have aE:Hid (Bj (AP Q w) w av d):=al.mono λb hb h=>Or.inl ⟨h,hb⟩
  have oJ:Hid (Dt (AP Q w) w kv kids):=aj.mono λb hb h=>Or.inl ⟨h,hb⟩
  obtain⟨l,f,rfl,_⟩:=al;obtain⟨t,y,rfl,_⟩:=aj;clear ih hQ lV;go_enter func81,ntmps81;go_upto_region 1 with fail
  go_cut [15] (λc wq=>∃b:Bool,c=.bool b/\(b=true->0<kids.length)/\Ui wq w.heap.size k op (AE l d.length f) (AE t kids.length y)/\Ui wq (w.heap.size+1) 0 0 AG AG/\Bj (AP Q w) wq (AE l d.length f) d/\Dt (AP Q w) wq (AE t kids.length y) kids/\Ij wq g (P+1)/\w.grownBy wq (some g))
  case first=>
   by_cases aZ:0<kids.length
   ·go_wp2_with ((go_at_call_of 24 (Value.int IntKind.i64 3);refine(Fv g _ _ _ Av AQ AQ AQ).mono ?_;rintro e wa ⟨x,rfl,ap,ax,ae,bi⟩;obtain⟨X,G,H,q1,I,F,J,M,L⟩:FR wa w.heap.size (AB k) (AB op) (AE l d.length f) (AE t kids.length y):=qb4;obtain⟨aa,C,T,B,R,A,S,D,V⟩:EQ wa ((w.heap.size+1)):=EW))
    go_meet;have ac:Ac (AP Q w) w wa:=((Ac.of_below (Aa _ _)).trans (Ac.of_below (Aa _ _))).trans (Ha HQ AQ bi);exact⟨decide (0<x),rfl,λ_=>aZ,BL,BL,aE.keep ac,oJ.keep ac,A3,A2⟩
   ·have bB:decide (0<(kids.length:Int))=false:=by rw[Ft];omega
    go_wp2
    go_meet;exact⟨false,rfl,λh=>BE,BL,BL,aE.keep A9,oJ.keep A9,A3,A2⟩
  case rest=>
   obtain⟨b,rfl,aM,aQ,aB,aD,aA,ae,az⟩:=hcut;clear aE oJ hr;cases b with
   | true=>
    have aZ:0<kids.length:=aM rfl;clear aM;have a3:Hid (Ui wc w.heap.size k op (AE l d.length f) (AE t kids.length y)):=aQ;have a7:Hid (Ui wc (w.heap.size+1) 0 0 AG AG):=aB;have an:Hid (Bj (AP Q w) wc (AE l d.length f) d):=aD;have lT:Hid (Dt (AP Q w) wc (AE t kids.length y) kids):=aA;obtain⟨X,G,q1,F,M,H,I,J,L⟩:=aQ;have bA:=aB.1;clear aB aD aA;go_upto_region 3 with(at_builtin;refine Sm rfl _ _ rfl (AP Q w) wc kids (AE t kids.length y) rfl rfl rfl lT AQ ?_;intro bb cc w3 xs af ag dW gV O;have ak:Hid (w3.ownsRow wc.heap.size 59 4 (AE (some (AK bb 0)) kids.length cc) kids.length xs):=af;have ao:Hid (RowOf 4 (Z8 (λb=>AP Q w b/\b<wc.heap.size) w3) xs kids):=ag;have dJ:Hid ((wc.alloc (.cells #[] 59)).grownBy w3 (some wc.heap.size)):=O;clear af ag O G q1 F M H I J L)
    have rJ:Hid (Ui w3 w.heap.size k op (AE l d.length f) (AE t kids.length y)):=(a3.alloc _).grownO dJ BD;have rG:Hid (Ui w3 (w.heap.size+1) 0 0 AG AG):=(a7.alloc _).grownO dJ BD;have bP:Ij w3 g (P+1):=Fh (Ci ae _) dJ BH;have bZ:w.grownBy w3 (some g):=J8 (Ei az _) dJ BH;have aX:Hid (Bj (AP Q w) w3 (AE l d.length f) d):=((an.mono (P:=λb=>AP Q w b/\b<wc.heap.size) λb hb h=>⟨h,hb⟩).keep ((Ac.of_below (Aa _ _)).trans (Ac.of_grown dJ (λb hb e=>by simp only[C0] at e;exact absurd hb.2 AQ)))).mono λb _ h=>h.1
    have tq:Hid (Bj (λb=>AP Q w b/\b≠bb) w3 (AE l d.length f) d):=((an.mono (P:=λb=>AP Q w b/\b<wc.heap.size) λb hb h=>⟨h,hb⟩).keep ((Ac.of_below (Aa _ _)).trans (Ac.of_grown dJ (λb hb e=>by simp only[C0] at e;exact absurd hb.2 AQ)))).mono λb _ h=>⟨h.1,by have:=h.2;omega⟩
    have a9:Hid (RowOf 4 (Z8 (λb=>AP Q w b/\b≠bb) w3) xs kids):=ao.imp λ_ _ _ h=>h.mono λb _ hb=>⟨hb.1,by have:=hb.2;omega⟩
    clear a3 a7 an lT ao ae az X;go_upto_region 4 with(go_at_call_of 24 (kids.length:Nat);refine(Fv g _ _ _ bP AQ AQ AQ).mono ?_;rintro e z ⟨x,rfl,ap,ax,gI,bF⟩;obtain⟨j,rfl⟩:=FW ap;have hj:j<kids.length:=AQ;clear ap ax)
    have aU:Ac (λb=>AP Q w b/\b≠bb) w3 z:=F7 (Ha HQ AQ bF) (λb _ h=>h.1);have dO:Hid (z.ownsRow wc.heap.size 59 4 (AE (some (AK bb 0)) kids.length cc) kids.length xs):=Cb ak bF AQ;have aK:Hid (RowOf 4 (Z8 (λb=>AP Q w b/\b≠bb) z) xs kids):=a9.imp λ_ _ _ h=>h.keep aU
    have rH:Hid (Ui z w.heap.size k op (AE l d.length f) (AE t kids.length y)):=rJ.grownO bF BD;have rF:Hid (Ui z (w.heap.size+1) 0 0 AG AG):=rG.grownO bF BD;have bk:Hid (Bj (AP Q w) z (AE l d.length f) d):=aX.keep (Ha HQ AQ bF);have iK:w.grownBy z (some g):=Ed bZ bF;have ay:bb<z.heap.size:=CB gV bF.size;have bn:Hid (Bj (λb=>AP Q w b/\b≠bb) z (AE l d.length f) d):=tq.keep aU;clear ak a9 rJ rG aX bP bZ aU dJ bF gV tq;obtain⟨av,kv,r0,r1,r2,r3,s0,s1,s2,s3,al,aj⟩:=Ay8 dO aK hj;have dS:Hid (G9 kids[j]+1<=aG/\Ll kids[j]):=⟨yF _ (CJ hj),U.parts.2.2 _ (CJ hj)⟩
    have HI:Hid (Calls prog 81 #[AH g, .agg #[AB kids[j].kind,AB kids[j].one.op,av,kv]] z λe w'=>MR (λb=>AP Q w b/\b≠bb) e z w' g (P+2+10*G9 kids[j]+60) (G9 kids[j]+20)):=
     IH _ (CJ hj) _ g (P+2) z av kv (λb hb=>by rcases hb.1 with h | h;exact HQ b h.1;omega) al aj dS.2 yGd gI yGd
    have o8:Hid (∀x,G9 x<=G9 kids[j]+20->((kids.set j x).map G9).sum<=(kids.map G9).sum+20):=λx hx=>QO G9 20 kids j x hj hx
    obtain⟨aL,hX⟩:=AA (kids[j])
    rw[<-hX] at HI o8 dS r0 r1;obtain⟨u1,t1,rfl,_⟩:=al;obtain⟨u2,t2,rfl,_⟩:=aj;clear hX IH gI;go_upto_region 5 with(go_at_call 81;refine HI.mono ?_;rintro e q ⟨ab,xh,bm,rfl,gW,kL,rU,rQ,jF,E⟩;have uT:Hid (Bj (Fr (λb=>AP Q w b/\b≠bb) z.heap.size z.heap.size) q xh ab.one.args):=gW;have a8:Hid (Dt (Fr (λb=>AP Q w b/\b≠bb) z.heap.size z.heap.size) q bm ab.kids):=kL;have oh:Hid (Ll ab):=rU;have ar:=Cb dO E AQ;obtain⟨d0,d1,d2,d3,f0,f1,f2,f3⟩:=(⟨ar.frozenAt (j*4),ar.frozenAt (j*4+1),ar.frozenAt (j*4+2),ar.frozenAt (j*4+3),(Dk E ay AQ).trans r0,(Dk E ay AQ).trans r1,(Dk E ay AQ).trans r2,(Dk E ay AQ).trans r3⟩:q.frozen? (AK bb (j*4))=false/\q.frozen? (AK bb (j*4+1))=false/\q.frozen? (AK bb (j*4+2))=false/\q.frozen? (AK bb (j*4+3))=false/\q.cell? (AK bb (j*4))=_/\q.cell? (AK bb (j*4+1))=_/\q.cell? (AK bb (j*4+2))=_/\q.cell? (AK bb (j*4+3))=_);obtain⟨y1,z1,rfl,_⟩:=gW;obtain⟨y2,z2,rfl,_⟩:=kL;clear ar rU r0 r1 r2 r3 s0 s1 s2 s3)
    obtain⟨W,hW⟩:=AA (((((q.setCell (AK bb (j*4)) (AB ab.kind)).setCell (AK bb (j*4+1)) (AB ab.one.op)).setCell (AK bb (j*4+2)) (AE y1 ab.one.args.length z1)).setCell (AK bb (j*4+3)) (AE y2 ab.kids.length z2)))
    rw[<-hW];have bw:=E.size;have aH:∀b,b<q.heap.size->Fr (λb=>AP Q w b/\b≠bb) z.heap.size z.heap.size b->AP Q w b/\b≠bb:=λb _ h=>by
     rcases h with h | h
     ·exact h.1
     ·exact⟨Or.inr AQ,AQ⟩
    have aP:Ac (λb=>AP Q w b/\b≠bb) z q:=F7 (Ha HQ AQ E) (λb _ h=>h.1);have aY:=sb (Cb dO E AQ) (aK.imp λ_ _ _ h=>h.keep aP) hj (λh=>h.2 rfl) (uT.mono aH) (a8.mono aH);rw[<-hW] at aY;obtain⟨ys,aR,a6⟩:=aY;have bg:Ui W w.heap.size k op (AE l d.length f) (AE t kids.length y):=by
     rw[hW];exact((((rH.grownO E BD).set AQ).set AQ).set AQ).set AQ
    have bo:Ui W (w.heap.size+1) 0 0 AG AG:=by
     rw[hW];exact((((rF.grownO E BD).set AQ).set AQ).set AQ).set AQ
    have bz:Ij W g (P+2+10*G9 aL+60):=by
     rw[hW];exact Ku (Ku (Ku (Ku jF AQ _) AQ _) AQ _) AQ _
    have bu:w.grownBy W (some g):=by
     rw[hW];have hb:w.heap.size<=bb:=AQ
     exact Oa hb (Oa hb (Oa hb (Oa hb (Ed iK E) _) _) _) _
    have aW:Bj (AP Q w) W (AE l d.length f) d:=by
     have h4:Bj (λb=>AP Q w b/\b≠bb) z (AE l d.length f) d:=bn.out;rw[hW];have hn:¬(λb=>AP Q w b/\b≠bb) bb:=λh=>h.2 rfl
     exact((h4.keep aP).keep ((((Ac.set hn _).trans (Ac.set hn _)).trans (Ac.set hn _)).trans (Ac.set hn _))).mono λb _ h=>h.1
    have bf:Dt (AP Q w) W (AE (some (AK bb 0)) kids.length cc) (kids.set j ab):=by
     have e:kids.length=(kids.set j ab).length:=AU
     rw[e] at aR ⊢
     exact P5 aR (a6.imp λ_ _ _ h=>h.mono λb _ hb=>hb.1) (λb hb=>by
      have:bb=b:=by simpa[Value.ownBlock] using hb
      exact Or.inr AQ)
    have jQ:Hid (Dt (AP Q w) W (AE (some (AK bb 0)) kids.length cc) (kids.set j ab)):=bf;have bq:Hid (Bj (AP Q w) W (AE l d.length f) d):=aW;obtain⟨X,G,q1,F,M,H,I,J,L⟩:=bg;obtain⟨aa,C,B,A,D,T,R,S,V⟩:=bo;clear hW aR a6 bf aW aP aH dO aK rH rF bk uT a8 d0 d1 d2 d3 f0 f1 f2 f3 HI
    go_wp2
    refine bodyPost_ret (by simp[results,results81,go_sem,C,B,A,D];rfl) rfl ?_;refine⟨⟨k,⟨op,d⟩,kids.set j ab⟩,_,_,rfl,Bj.mono (bq.keep A9) (G7 _),Dt.mono (jQ.keep A9) (G7 _),?_,?_,?_,A2⟩
    ·refine(Q9 _ _ _).2 ⟨U.parts.1,U.parts.2.1,λx hx=>?_⟩
     rcases M5 hx with h | rfl
     ·exact U.parts.2.2 x h
     ·exact oh.out
    ·have:=o8 ab rQ
     have:=jM.out
     rw[Fa];simp only[JR];omega
    ·have:=dS.1
     exact A3
   | false=>
    clear aM IH yF;obtain⟨i0,hi,ba,bc,a5⟩:=info_parts P2;have an:Hid (Bj (AP Q w) wc (AE l d.length f) d):=aD;have lT:Hid (Dt (AP Q w) wc (AE t kids.length y) kids):=aA;obtain⟨X,G,q1,F,M,H,I,J,L⟩:=aQ;obtain⟨aa,C,B,A,D,T,R,S,V⟩:=aB;clear aD aA;go_upto_region 9 with((go_at_call_of 24 (Value.int IntKind.i64 6);refine(Fv g _ _ _ Av AQ AQ AQ).mono ?_;rintro e s ⟨x,rfl,ap,ax,dQ,aw⟩;obtain⟨X,G,H,q1,I,F,J,M,L⟩:FR s w.heap.size (AB k) (AB op) (AE l d.length f) (AE t kids.length y):=qb4;obtain⟨aa,C,T,B,R,A,S,D,V⟩:EQ s ((w.heap.size+1)):=EW))
    have au:Hid (Bj (AP Q w) s (AE l d.length f) d):=an.keep (Ha HQ AQ aw);have nJ:Hid (Dt (AP Q w) s (AE t kids.length y) kids):=lT.keep (Ha HQ AQ aw);have oN:Hid (Ui s w.heap.size k op (AE l d.length f) (AE t kids.length y)):=⟨X,G,q1,F,M,H,I,J,L⟩
    have oM:Hid (Ui s (w.heap.size+1) 0 0 AG AG):=⟨aa,C,B,A,D,T,R,S,V⟩
    have mG:w.grownBy s (some g):=Ed az aw;clear an lT az aw ae;have hx:x=0\/x=1\/x=2\/x=3\/x=4\/x=5:=AQ
    clear ap ax;rcases hx with rfl | rfl | rfl | rfl | rfl | rfl
    ·go_wp2_with ((go_at_call_of 46 (7:Nat);refine(FA g _ _ _ [-1,0,1,2,3,4,5] _ Av AQ (Dp (by simp[Gn,go_sem])) AU BU AU AU).mono ?_;rintro e z ⟨bp,rfl,hy,ae,bF⟩;simp only[C7,EA,DR] at hy;obtain⟨X,G,H,q1,I,F,J,M,L⟩:FR z w.heap.size (AB k) (AB op) (AE l d.length f) (AE t kids.length y):=qb4;obtain⟨aa,C,T,B,R,A,S,D,V⟩:EQ z ((w.heap.size+1)):=EW))
     have ac:Ac (AP Q w) s z:=(Ac.of_below (Aa _ _)).trans (Ha HQ AQ bF);have br:=au.keep ac;have tZ:=nJ.keep ac;refine bodyPost_ret (by simp[results,results81,go_sem,C,B,A,D];rfl) rfl ?_;refine⟨⟨bp,⟨op,d⟩,kids⟩,_,_,rfl,Bj.mono (br.keep A9) (G7 _),Dt.mono (tZ.keep A9) (G7 _),Axt U AQ,?_,A3,A2⟩;have:=jM.out
     rw[Fa];simp only;omega
    ·go_wp2_with (first | (go_at_call 50;refine(I5 g _ _ (by exact bP) AQ).mono ?_;rintro e q ⟨Y,ev,K,rfl,cO,dR,iT,rX,ae,E⟩;obtain⟨ea,ec,rfl,_,_⟩:=id dR;obtain⟨X,G,H,q1,I,F,J,M,L⟩:FR q w.heap.size (AB k) (AB op) (AE l d.length f) (AE t kids.length y):=qb4;obtain⟨aa,C,T,B,R,A,S,D,V⟩:EQ q ((w.heap.size+1)):=EW) | (at_builtin;refine Sm rfl _ _ rfl (AP Q w) s kids (AE t kids.length y) rfl rfl rfl nJ AQ ?_;intro bb cc w3 xs af ag dW gV O;have ak:Hid (w3.ownsRow s.heap.size 59 4 (AE (some (AK bb 0)) kids.length cc) kids.length xs):=af;have ao:Hid (RowOf 4 (Z8 (λb=>AP Q w b/\b<s.heap.size) w3) xs kids):=ag;have dJ:Hid ((s.alloc (.cells #[] 59)).grownBy w3 (some s.heap.size)):=O;have jK:Ui w3 w.heap.size k op (AE l d.length f) (AE t kids.length y):=(oN.alloc _).grownO O BD;have jI:Ui w3 (w.heap.size+1) 0 0 AG AG:=(oM.alloc _).grownO O BD;have bP:Ij w3 g (P+2):=Fh (Ci dQ _) O BH;have bZ:w.grownBy w3 (some g):=J8 (Ei mG _) O BH;clear af ag O G q1 F M C B A D H I J L T R S V;obtain⟨X,G,q1,F,M,H,I,J,L⟩:=jK;obtain⟨aa,C,B,A,D,T,R,S,V⟩:=jI) | (at_builtin;refine wpList_append_own_at _ rfl _ _ 57 rfl s.heap.size 59 i0 (.agg #[AB 0,AB 0,AG,AG]) 4 64 underlying57 hi ba bc a5 rfl AY _ _ _ rfl ((Cb ak E AQ).alloc _) _ _ _ [AB 1,AB Y,AE ea K.length ec,AG] rfl rfl BS yCh A6 AQ (by rw[World.size_alloc];have:=E.size;omega) ?_;intro v' N ai aC bW aV;have uN:Hid (N.ownsRow s.heap.size 59 4 v' (kids.length+1) (xs++[AB 1,AB Y,AE ea K.length ec,AG])):=ai;have Z:Hid ((q.alloc (.cells #[AB 1,AB Y,AE ea K.length ec,AG] 59)).grownBy N (some bb)):=aC;obtain⟨y6,z6,aS,_⟩:=Hq ai;subst aS;have jJ:Ui N w.heap.size k op (AE l d.length f) (AE t kids.length y):=(Ui.alloc (show Ui q w.heap.size k op (AE l d.length f) (AE t kids.length y) from BL) _).grownO Z BD;have gY:Ui N (w.heap.size+1) 0 0 AG AG:=(Ui.alloc (show Ui q (w.heap.size+1) 0 0 AG AG from BL) _).grownO Z BD;clear ai aC bW aV G q1 F M C B A D H I J L T R S V;obtain⟨X,G,q1,F,M,H,I,J,L⟩:=jJ;obtain⟨aa,C,B,A,D,T,R,S,V⟩:=gY))
     have hn:∀W:World,∀b,b<W.heap.size->(AP Q w b/\b≠bb)->AP Q w b:=λ_ b _ h=>h.1
     have hD:∀(v:Value) (ah:List Stil.CC),Bj (AP Q w) s v ah->Bj (λb=>AP Q w b/\b≠bb) w3 v ah:=λv ah h=>((h.mono (P:=λb=>AP Q w b/\b<s.heap.size) λb hb h=>⟨h,hb⟩).keep ((Ac.of_below (Aa _ _)).trans (Ac.of_grown dJ (λb hb e=>by simp only[C0] at e;exact absurd hb.2 AQ)))).mono λb _ h=>⟨h.1,by have:=h.2;omega⟩
     have tX:RowOf 4 (Z8 (λb=>AP Q w b/\b≠bb) w3) xs kids:=ao.imp λ_ _ _ h=>h.mono λb _ hb=>⟨hb.1,by have:=hb.2;omega⟩
     have bv:s.heap.size+1<=w3.heap.size:=by have:=dJ.size;simpa using this
     have bh:Ac (λb=>AP Q w b/\b≠bb) w3 q:=F7 (Ha HQ AQ E) (λb _ h=>h.1);have ac:Ac (λb=>AP Q w b/\b≠bb) w3 (q.alloc (.cells #[AB 1,AB Y,AE ea K.length ec,AG] 59)):=bh.trans (Ac.of_below (Aa _ _));have qH:=VA (R':=AP Q w) (v:=AE (some (AK bb 0)) kids.length cc) (n:=⟨1,⟨Y,K⟩,[]⟩) (tX.imp λ_ _ _ h=>h.keep ac) ⟨_,_,rfl,((Fg dR).mono (λb _ hb=>⟨Or.inr AQ,AQ⟩)).keep (Ac.of_below (Aa _ _)),Jk _ _⟩ rfl Z (λb hb e=>hb.2 yBi) (λb hb=>hb.1);have e6:kids.length+1=(kids++[(⟨1,⟨Y,K⟩,[]⟩:Stil.B8)]).length:=AU
     have tY:Dt (AP Q w) N (AE y6 (kids.length+1) z6) (kids++[⟨1,⟨Y,K⟩,[]⟩]):=by
      have ho:=uN.out;rw[e6] at ho ⊢;exact P5 ho qH (λb hb=>Or.inr yCj)
     have aF:Bj (AP Q w) N (AE l d.length f) d:=(((hD _ _ au.out).keep ac).keep (Ac.of_grown Z (λb hb e=>hb.2 yCg))).mono (hn _);have kH:Ij N g (P+40):=Gl (Fh (Ci ae _) Z BH) AQ;have vH:w.grownBy N (some g):=J8 (Ei (Ed bZ E) _) Z BH;refine bodyPost_ret (by simp[results,results81,go_sem,C,B,A,D];rfl) rfl ?_;refine⟨⟨k,⟨op,d⟩,kids++[⟨1,⟨Y,K⟩,[]⟩]⟩,_,_,rfl,Bj.mono (aF.keep A9) (G7 _),Dt.mono (tY.keep A9) (G7 _),?_,?_,A3,A2⟩
     ·refine(Q9 _ _ _).2 ⟨U.parts.1,U.parts.2.1,λx hx=>?_⟩
      rcases List.mem_append.1 hx with h | h
      ·exact U.parts.2.2 x h
      ·rw[List.mem_singleton.1 h];exact Hl AY cO iT AQ
     ·have:=jM.out
      rw[Fa];simp only[CO,CU,GF,CH,CP,CQ,C6,DO,GH];have e9:G9 ⟨1,⟨Y,K⟩,[]⟩=K.length:=by rw[Fa];simp
      rw[e9];omega
    ·go_wp2
     refine bodyPost_ret (by simp[results,results81,go_sem,C,B,A,D];rfl) rfl ?_;refine⟨⟨k,⟨op,d⟩,[]⟩,_,_,rfl,Bj.mono (au.keep A9) (G7 _),Jk _ _,Axs U (λ_ h=>BE),?_,A3,A2⟩;have:=jM.out
     rw[Fa];simp only[CP,C6,GH];omega
    ·go_wp2_with ((go_at_call 47;refine(Tq g _ _ (by exact dQ) AQ).mono ?_;rintro e q ⟨Y,ev,K,rfl,cO,dR,iT,rX,ae,E⟩;obtain⟨ea,ec,rfl,_,_⟩:=id dR;obtain⟨X,G,H,q1,I,F,J,M,L⟩:FR q w.heap.size (AB k) (AB op) (AE l d.length f) (AE t kids.length y):=qb4;obtain⟨aa,C,T,B,R,A,S,D,V⟩:EQ q ((w.heap.size+1)):=EW))
     have aT:=nJ.keep (Ha HQ AQ E);have aO:Bj (AP Q w) q (AE ea K.length ec) K:=(Fg dR).mono (λb _ hb=>Or.inr AQ);refine bodyPost_ret (by simp[results,results81,go_sem,C,B,A,D];rfl) rfl ?_;refine⟨⟨k,⟨Y,K⟩,kids⟩,_,_,rfl,Bj.mono (aO.keep A9) (G7 _),Dt.mono (aT.keep A9) (G7 _),ZI U cO iT AQ,?_,A3,A2⟩;have:=jM.out
     rw[Fa];simp only;omega
    ·go_wp2_with ((go_at_call 80;refine(YA g _ op _ d _ (by exact dQ) AQ U.parts.2.1.1 (Av2 (au.mono (λb _ hb=>by rcases hb with h | h;exact HQ b h.1;omega))) U.parts.2.1.2.1 AQ).mono ?_;rintro e q ⟨Y,ev,K,rfl,cO,dR,iT,rX,ae,E⟩;obtain⟨ea,ec,rfl,_,_⟩:=id dR;obtain⟨X,G,H,q1,I,F,J,M,L⟩:FR q w.heap.size (AB k) (AB op) (AE l d.length f) (AE t kids.length y):=qb4;obtain⟨aa,C,T,B,R,A,S,D,V⟩:EQ q ((w.heap.size+1)):=EW))
     have aT:=nJ.keep (Ha HQ AQ E);have aO:Bj (AP Q w) q (AE ea K.length ec) K:=(Fg dR).mono (λb _ hb=>Or.inr AQ);refine bodyPost_ret (by simp[results,results81,go_sem,C,B,A,D];rfl) rfl ?_;refine⟨⟨k,⟨Y,K⟩,kids⟩,_,_,rfl,Bj.mono (aO.keep A9) (G7 _),Dt.mono (aT.keep A9) (G7 _),ZI U cO iT AQ,?_,A3,A2⟩;have:=jM.out
     rw[Fa];simp only;omega
    ·go_wp2_with (first | (at_builtin;refine Sm rfl _ _ rfl (AP Q w) s kids (AE t kids.length y) rfl rfl rfl nJ AQ ?_;intro bb cc w3 xs af ag dW gV O;have ak:Hid (w3.ownsRow s.heap.size 59 4 (AE (some (AK bb 0)) kids.length cc) kids.length xs):=af;have ao:Hid (RowOf 4 (Z8 (λb=>AP Q w b/\b<s.heap.size) w3) xs kids):=ag;have dJ:Hid ((s.alloc (.cells #[] 59)).grownBy w3 (some s.heap.size)):=O;have jK:Ui w3 w.heap.size k op (AE l d.length f) (AE t kids.length y):=(oN.alloc _).grownO O BD;have jI:Ui w3 (w.heap.size+1) 0 0 AG AG:=(oM.alloc _).grownO O BD;have bP:Ij w3 g (P+2):=Fh (Ci dQ _) O BH;have bZ:w.grownBy w3 (some g):=J8 (Ei mG _) O BH;clear af ag O G q1 F M C B A D H I J L T R S V;obtain⟨X,G,q1,F,M,H,I,J,L⟩:=jK;obtain⟨aa,C,B,A,D,T,R,S,V⟩:=jI) | (at_builtin;refine wpList_append_own_at _ rfl _ _ 57 rfl s.heap.size 59 i0 (.agg #[AB 0,AB 0,AG,AG]) 4 64 underlying57 hi ba bc a5 rfl AY _ _ _ rfl (ak.alloc _) _ _ _ [AB 0,AB 0,AG,AG] rfl rfl BS yCh A6 AQ B0 ?_;intro v' N ai aC bW aV;have uN:Hid (N.ownsRow s.heap.size 59 4 v' (kids.length+1) (xs++[AB 0,AB 0,AG,AG])):=ai;have Z:Hid ((w3.alloc (.cells #[AB 0,AB 0,AG,AG] 59)).grownBy N (some bb)):=aC;obtain⟨y6,z6,aS,_⟩:=Hq ai;subst aS;have jJ:Ui N w.heap.size k op (AE l d.length f) (AE t kids.length y):=(Ui.alloc (show Ui w3 w.heap.size k op (AE l d.length f) (AE t kids.length y) from BL) _).grownO Z BD;have gY:Ui N (w.heap.size+1) 0 0 AG AG:=(Ui.alloc (show Ui w3 (w.heap.size+1) 0 0 AG AG from BL) _).grownO Z BD;clear ai aC bW aV G q1 F M C B A D H I J L T R S V;obtain⟨X,G,q1,F,M,H,I,J,L⟩:=jJ;obtain⟨aa,C,B,A,D,T,R,S,V⟩:=gY))
     have hn:∀W:World,∀b,b<W.heap.size->(AP Q w b/\b≠bb)->AP Q w b:=λ_ b _ h=>h.1
     have hD:∀(v:Value) (ah:List Stil.CC),Bj (AP Q w) s v ah->Bj (λb=>AP Q w b/\b≠bb) w3 v ah:=λv ah h=>((h.mono (P:=λb=>AP Q w b/\b<s.heap.size) λb hb h=>⟨h,hb⟩).keep ((Ac.of_below (Aa _ _)).trans (Ac.of_grown dJ (λb hb e=>by simp only[C0] at e;exact absurd hb.2 AQ)))).mono λb _ h=>⟨h.1,by have:=h.2;omega⟩
     have tX:RowOf 4 (Z8 (λb=>AP Q w b/\b≠bb) w3) xs kids:=ao.imp λ_ _ _ h=>h.mono λb _ hb=>⟨hb.1,by have:=hb.2;omega⟩
     have ac:Ac (λb=>AP Q w b/\b≠bb) w3 (w3.alloc (.cells #[AB 0,AB 0,AG,AG] 59)):=Ac.of_below (Aa _ _);have qH:=VA (R':=AP Q w) (v:=AE (some (AK bb 0)) kids.length cc) (n:=⟨0,⟨0,[]⟩,[]⟩) (tX.imp λ_ _ _ h=>h.keep ac) ⟨_,_,rfl,Tt _ _,Jk _ _⟩ rfl Z (λb hb e=>hb.2 yBi) (λb hb=>hb.1);have e6:kids.length+1=(kids++[(⟨0,⟨0,[]⟩,[]⟩:Stil.B8)]).length:=AU
     have tY:Dt (AP Q w) N (AE y6 (kids.length+1) z6) (kids++[⟨0,⟨0,[]⟩,[]⟩]):=by
      have ho:=uN.out;rw[e6] at ho ⊢;exact P5 ho qH (λb hb=>Or.inr yCj)
     have aF:Bj (AP Q w) N (AE l d.length f) d:=(((hD _ _ au.out).keep ac).keep (Ac.of_grown Z (λb hb e=>hb.2 yCg))).mono (hn _);have kH:Ij N g (P+40):=Gl (Fh (Ci bP _) Z BH) AQ;have vH:w.grownBy N (some g):=J8 (Ei bZ _) Z BH;refine bodyPost_ret (by simp[results,results81,go_sem,C,B,A,D];rfl) rfl ?_;refine⟨⟨k,⟨op,d⟩,kids++[⟨0,⟨0,[]⟩,[]⟩]⟩,_,_,rfl,Bj.mono (aF.keep A9) (G7 _),Dt.mono (tY.keep A9) (G7 _),?_,?_,A3,A2⟩
     ·refine(Q9 _ _ _).2 ⟨U.parts.1,U.parts.2.1,λx hx=>?_⟩
      rcases List.mem_append.1 hx with h | h
      ·exact U.parts.2.2 x h
      ·rw[List.mem_singleton.1 h];exact Hl AY AY (λ_ h=>BE) AU
     ·have:=jM.out
      rw[Fa];simp only[CO,CU,GF,CH,CP,CQ,C6,DO,GH];have e9:G9 ⟨0,⟨0,[]⟩,[]⟩=0:=by rw[Fa];simp
      rw[e9];omega
