import Derived.Test.YtmnnkedjoecehaaGreatDoorG6
import Derived.Test.YtmnnkedjoecehaaGreatDoorHa
set_option maxHeartbeats 4000000
set_option maxRecDepth 100000
namespace Go.Proofs.YtmnnkedjoecehaaGreatDoor
open Tryz Stil Go.RowKit Go.Sort Go.BigFrame
variable {E:Prop}{a:Act}{base bb cap k:Nat}{cs xs:List Value}{o:Oper}{ops:Array Oper}{rest:List Oper}{v:Value}{w':World}
theorem pC {w:World}{K:Act->World->Prop}{Q:Exit->Act->World->Prop}
  (hg:o.guard=none) (s x:Operand) (g:o.op=.call {callee:=.builtin .append,args:=#[s,x],argTypes:=#[60,60]})
  (R:Nat->Prop) (W:World) (ns:List Stil.Elem) (d:Value) (m:a.eval s=AE (some (AL W 0)) 0 0) (hx:a.eval x=d) (l:w=W.alloc (.cells #[] 46))
  (G:Dn R W d ns) (hl:ns.length<=100000)
  (hK:∀bb c w' xs,w'.ownsRow W.heap.size 46 2 (AE (some (AK bb 0)) ns.length c) ns.length xs->RowOf 2 (N8 (λb=>R b/\b<W.heap.size) w') xs ns->W.heap.size<=bb->bb<w'.heap.size->w.grownBy w' (some W.heap.size)->K (a.put o.dst (AE (some (AK bb 0)) ns.length c)) w'):
  if Region.wanted o (yielded ops a.tmps)=true then Oper.wp prog o a w K Q else E:=by
 obtain⟨A,hi,C,B,L⟩:=info_parts LO;have I:Dn (λb=>R b/\b<W.heap.size) w d ns:=by
  rw[l];exact(G.mono λb hb h=>⟨h,hb⟩).keep (Ac.of_below (Aa _ _))
 have O:w.heap.size=W.heap.size+1:=by rw[l];simp
 have q:w.ownsRow W.heap.size 46 2 (AE (some (AL W 0)) 0 0) 0 []:=by
  rw[l];have:=World.ownsRow_lit (base:=W.heap.size) (e:=46) (size:=2) W #[] 0 AQ A6 rfl
  simpa using this
 obtain⟨ad,cap,J,n,xs,hrow,M⟩:=sE I;subst J;by_cases hd:ns.length=0
 ·have r:=List.length_eq_zero_iff.1 hd
  subst r;have t:Region.wanted o (yielded ops a.tmps)=true:=by simp[Region.wanted,hg]
  rw[if_pos t];have H:xs=[]:=by have:=hrow.1;simpa using this
  subst H;have i:=hK W.heap.size 0 w [] q (RowOf.nil _ _) (CG _) AQ (Pj _ _);simp only[CP] at i hx;unfold Oper.wp execOp;cases ad
  ·have e:Sem.run prog (Builtin.append_ #[60,60] o.type #[AE (some (AL W 0)) 0 0,AE none 0 cap]) w=.ok (AE (some (AL W 0)) 0 0) w:=by simp[Builtin.append_,go_sem]
   simp only[g,resolve,invoke,builtin,Sem.run_bind,Sem.run_pure,Result.andThen_ok,ES,CQ,C6,m,hx,e];exact i
  ·rename_i y
   have e:Sem.run prog (Builtin.append_ #[60,60] o.type #[AE (some (AL W 0)) 0 0,AE (some y) 0 cap]) w=.ok (AE (some (AL W 0)) 0 0) w:=by simp[Builtin.append_,go_sem]
   simp only[g,resolve,invoke,builtin,Sem.run_bind,Sem.run_pure,Result.andThen_ok,ES,CQ,C6,m,hx,e];exact i
 ·obtain⟨p,rfl⟩:∃p,ad=some p:=by
   cases ad with
   | none=>exact absurd (n.2 rfl) (by have:=n.1;omega)
   | some p=>exact⟨p,rfl⟩
  refine Ec hg s x _ g W.heap.size 46 A _ 2 32 underlying60 hi C B L rfl AY _ _ [] m q _ _ _ xs hx hrow.1 (M _ rfl) ?_ A6 AQ AQ ?_
  ·intro u hu
   obtain⟨j,f⟩:=List.getElem?_of_mem hu;have P:j<ns.length*2:=by rw[<-hrow.1];exact(List.getElem?_eq_some_iff.1 f).1
   obtain⟨N,D,z⟩:=hrow.2 (j / 2) AQ;have F:xs[j]?=((xs.drop (j / 2*2)).take 2)[j % 2]?:=by
    rw[G0,if_pos AQ,G1,Nat.mul_comm,Nat.div_add_mod]
   rw[F,D] at f;obtain⟨S,T,rfl,_⟩:=z;have :=Hv f;simp only[C7,EA,DR] at this;rcases this with rfl | rfl<;>rfl
  ·exact zz
theorem Qe {w:World}{Q:Exit->Act->World->Prop}
  (hg:o.guard=none) (s x:Operand) (l:o.op=.call {callee:=.builtin .append,args:=#[s,x],argTypes:=#[60,60]})
  (R:Nat->Prop) (W:World) (ns:List Stil.Elem) (d:Value) (e:a.eval s=AE (some (AL W 0)) 0 0) (hx:a.eval x=d) (n:w=W.alloc (.cells #[] 46))
  (q:Dn R W d ns) (hl:ns.length<=100000)
  (h:∀bb c w' xs,w'.ownsRow W.heap.size 46 2 (AE (some (AK bb 0)) ns.length c) ns.length xs->RowOf 2 (N8 (λb=>R b/\b<W.heap.size) w') xs ns->W.heap.size<=bb->bb<w'.heap.size->w.grownBy w' (some W.heap.size)->wpList prog ops Q rest (a.put o.dst (AE (some (AK bb 0)) ns.length c)) w'):
  wpList prog ops Q (o::rest) a w:=by
 refine wpList_plain hg λK j=>?_
 have p:Region.wanted o (yielded #[] a.tmps)=true:=by simp[Region.wanted,hg]
 have:=pC (ops:=#[]) (K:=K) (Q:=Q) (E:=True) hg s x l R W ns d e hx n q hl (λbb c w' xs i f m r g=>j _ _ (h bb c w' xs i f m r g))
 rwa [if_pos p] at this
theorem pu {w:World}{K:Act->World->Prop}{Q:Exit->Act->World->Prop}
  (hg:o.guard=none) (s x:Operand) (g:o.op=.call {callee:=.builtin .append,args:=#[s,x],argTypes:=#[23,23]})
  (R:Nat->Prop) (W:World) (ns:List Stil.B9) (d:Value) (m:a.eval s=AE (some (AL W 0)) 0 0) (hx:a.eval x=d) (l:w=W.alloc (.cells #[] 62))
  (I:Fe R W d ns) (hl:ns.length<=100000)
  (hK:∀bb c w' xs,w'.ownsRow W.heap.size 62 6 (AE (some (AK bb 0)) ns.length c) ns.length xs->RowOf 6 (Qb (λb=>R b/\b<W.heap.size) w') xs ns->W.heap.size<=bb->bb<w'.heap.size->w.grownBy w' (some W.heap.size)->K (a.put o.dst (AE (some (AK bb 0)) ns.length c)) w'):
  if Region.wanted o (yielded ops a.tmps)=true then Oper.wp prog o a w K Q else E:=by
 obtain⟨A,hi,C,B,N⟩:=info_parts KP;have L:Fe (λb=>R b/\b<W.heap.size) w d ns:=by
  rw[l];exact(I.mono λb hb h=>⟨h,hb⟩).keep (Ac.of_below (Aa _ _))
 have U:w.heap.size=W.heap.size+1:=by rw[l];simp
 have q:w.ownsRow W.heap.size 62 6 (AE (some (AL W 0)) 0 0) 0 []:=by
  rw[l];have:=World.ownsRow_lit (base:=W.heap.size) (e:=62) (size:=6) W #[] 0 AQ A6 rfl
  simpa using this
 obtain⟨ad,cap,M,n,xs,hrow,P⟩:=tR L;subst M;by_cases hd:ns.length=0
 ·have r:=List.length_eq_zero_iff.1 hd
  subst r;have t:Region.wanted o (yielded ops a.tmps)=true:=by simp[Region.wanted,hg]
  rw[if_pos t];have J:xs=[]:=by have:=hrow.1;simpa using this
  subst J;have i:=hK W.heap.size 0 w [] q (RowOf.nil _ _) (CG _) AQ (Pj _ _);simp only[CP] at i hx;unfold Oper.wp execOp;cases ad
  ·have e:Sem.run prog (Builtin.append_ #[23,23] o.type #[AE (some (AL W 0)) 0 0,AE none 0 cap]) w=.ok (AE (some (AL W 0)) 0 0) w:=by simp[Builtin.append_,go_sem]
   simp only[g,resolve,invoke,builtin,Sem.run_bind,Sem.run_pure,Result.andThen_ok,ES,CQ,C6,m,hx,e];exact i
  ·rename_i y
   have e:Sem.run prog (Builtin.append_ #[23,23] o.type #[AE (some (AL W 0)) 0 0,AE (some y) 0 cap]) w=.ok (AE (some (AL W 0)) 0 0) w:=by simp[Builtin.append_,go_sem]
   simp only[g,resolve,invoke,builtin,Sem.run_bind,Sem.run_pure,Result.andThen_ok,ES,CQ,C6,m,hx,e];exact i
 ·obtain⟨p,rfl⟩:∃p,ad=some p:=by
   cases ad with
   | none=>exact absurd (n.2 rfl) (by have:=n.1;omega)
   | some p=>exact⟨p,rfl⟩
  refine Ec hg s x _ g W.heap.size 62 A _ 6 112 underlying23 hi C B N rfl AY _ _ [] m q _ _ _ xs hx hrow.1 (P _ rfl) ?_ A6 AQ AQ ?_
  ·intro u hu
   obtain⟨j,f⟩:=List.getElem?_of_mem hu;have X:j<ns.length*6:=by rw[<-hrow.1];exact(List.getElem?_eq_some_iff.1 f).1
   obtain⟨S,V,Y,d,D,z,G,O,H⟩:=hrow.2 (j / 6) AQ;have F:xs[j]?=((xs.drop (j / 6*6)).take 6)[j % 6]?:=by
    rw[G0,if_pos AQ,G1,Nat.mul_comm,Nat.div_add_mod]
   rw[F,D] at f;obtain⟨p1,c1,rfl,_⟩:=z;obtain⟨T,c2,rfl,_⟩:=G;obtain⟨p3,c3,rfl,_⟩:=O;obtain⟨Z,c4,rfl,_⟩:=H;have :=Hv f;simp only[C7,EA,DR] at this;rcases this with rfl | rfl | rfl | rfl | rfl | rfl<;>rfl
  ·exact zz
theorem Sr {w:World}{Q:Exit->Act->World->Prop}
  (hg:o.guard=none) (s x:Operand) (l:o.op=.call {callee:=.builtin .append,args:=#[s,x],argTypes:=#[23,23]})
  (R:Nat->Prop) (W:World) (ns:List Stil.B9) (d:Value) (e:a.eval s=AE (some (AL W 0)) 0 0) (hx:a.eval x=d) (n:w=W.alloc (.cells #[] 62))
  (q:Fe R W d ns) (hl:ns.length<=100000)
  (h:∀bb c w' xs,w'.ownsRow W.heap.size 62 6 (AE (some (AK bb 0)) ns.length c) ns.length xs->RowOf 6 (Qb (λb=>R b/\b<W.heap.size) w') xs ns->W.heap.size<=bb->bb<w'.heap.size->w.grownBy w' (some W.heap.size)->wpList prog ops Q rest (a.put o.dst (AE (some (AK bb 0)) ns.length c)) w'):
  wpList prog ops Q (o::rest) a w:=by
 refine wpList_plain hg λK j=>?_
 have p:Region.wanted o (yielded #[] a.tmps)=true:=by simp[Region.wanted,hg]
 have:=pu (ops:=#[]) (K:=K) (Q:=Q) (E:=True) hg s x l R W ns d e hx n q hl (λbb c w' xs i f m r g=>j _ _ (h bb c w' xs i f m r g))
 rwa [if_pos p] at this
theorem Lq {R:Nat->Prop}{w:World}{ns:List Stil.B9}(h:w.ownsRow base 62 6 (AE (some (AK bb 0)) ns.length cap) ns.length xs)(hr:RowOf 6 (Qb R w) xs ns)(n:k<ns.length):
  ∃f i l e,w.cell? (AK bb (k*6))=some (AB ns[k].net.kind)/\w.cell? (AK bb (k*6+1))=some (AB ns[k].net.one.op)/\w.cell? (AK bb (k*6+2))=some f/\w.cell? (AK bb (k*6+3))=some i/\w.cell? (AK bb (k*6+4))=some l/\w.cell? (AK bb (k*6+5))=some e/\(∀j,w.frozen? (AK bb j)=false)/\Bj R w f ns[k].net.one.args/\Dt R w i ns[k].net.kids/\Dn R w l ns[k].coils/\Fe R w e ns[k].kids:=by
 obtain⟨g,c,m,_,_,_,b⟩:=Bg h AQ;simp only[Value.slice.injEq,C0,Addr.mk.injEq] at m;obtain⟨⟨rfl,_⟩,_⟩:=m;obtain⟨f,i,l,e,s,r,q,t,u⟩:=hr.2 k n;have d:=J0 hr n s;exact⟨f,i,l,e,b _ _ (d 0 _ rfl),b _ _ (d 1 _ rfl),b _ _ (d 2 _ rfl),b _ _ (d 3 _ rfl),b _ _ (d 4 _ rfl),b _ _ (d 5 _ rfl),λj=>h.frozenAt j,r,q,t,u⟩
def set6 (w:World)(b o:Nat)(v0 g f d c e:Value):World:=(((((w.setCell ⟨b,o,none⟩ v0).setCell ⟨b,o+1,none⟩ g).setCell ⟨b,o+2,none⟩ f).setCell ⟨b,o+3,none⟩ d).setCell ⟨b,o+4,none⟩ c).setCell ⟨b,o+5,none⟩ e
theorem YX {R:Nat->Prop}{w:World}{b o:Nat}{v0 h g e d f:Value}(c:¬R b):Ac R w (set6 w b o v0 h g e d f):=(((((Ac.set c _).trans (Ac.set c _)).trans (Ac.set c _)).trans (Ac.set c _)).trans (Ac.set c _)).trans (Ac.set c _)
theorem SE {R:Nat->Prop}{w:World}{n:Nat}{ns:List Stil.B9}{N:Stil.B9}{c e f b:Value}(h:w.ownsRow base 62 6 (AE (some (AK bb 0)) n cap) n xs)(hr:RowOf 6 (Qb R w) xs ns)(t:k<ns.length)(l:¬R bb)
  (m:Bj R w c N.net.one.args) (r:Dt R w e N.net.kids) (q:Dn R w f N.coils) (s:Fe R w b N.kids):
  ∃i,(set6 w bb (k*6) (AB N.net.kind) (AB N.net.one.op) c e f b).ownsRow base 62 6 (AE (some (AK bb 0)) n cap) n i/\
   RowOf 6 (Qb R (set6 w bb (k*6) (AB N.net.kind) (AB N.net.one.op) c e f b)) i (ns.set k N):=by
 refine⟨_,((((((h.stored (k*6) _).1.stored (k*6+1) _).1.stored (k*6+2) _).1.stored (k*6+3) _).1.stored (k*6+4) _).1.stored (k*6+5) _).1,?_⟩;have d:Ac R w (set6 w bb (k*6) (AB N.net.kind) (AB N.net.one.op) c e f b):=YX l;have x:=hr.1;have u:k*6+5<xs.length:=AQ
 refine RowOf.set (hr.imp λ_ _ _ h=>h.keep d) t AU ⟨c,e,f,b,?_,m.keep d,r.keep d,q.keep d,s.keep d⟩ ?_
 ·apply LA
  intro j;rw[G0];by_cases g:j<6
  ·rw[if_pos g,G1]
   have:j=0\/j=1\/j=2\/j=3\/j=4\/j=5:=AQ
   rcases this with rfl | rfl | rfl | rfl | rfl | rfl
   ·rw[CY AQ,CY AQ,CY AQ,CY AQ,CY AQ,ER,Dm AQ];rfl
   ·rw[CY AQ,CY AQ,CY AQ,CY AQ,Dm Ax];rfl
   ·rw[CY AQ,CY AQ,CY AQ,Dm Ax];rfl
   ·rw[CY AQ,CY AQ,Dm Ax];rfl
   ·rw[CY AQ,Dm Ax];rfl
   ·rw[Dm Ax];rfl
  ·rw[if_neg g,KF Ax]
 ·intro j g
  rw[CY AQ,CY AQ,CY AQ,CY AQ,CY AQ,CY AQ]
theorem UO {R R':Nat->Prop}{w:World}{ns:List Stil.Elem}{n:Stil.Elem}(h:RowOf 2 (N8 R w) xs ns)(d:N8 R w cs n)(hl:cs.length=2)(hg:w.grownBy w' v.ownBlock)(hr:∀b,R b->v.ownBlock≠some b)(c:∀b,R b->R' b):RowOf 2 (N8 R' w') (xs++cs) (ns++[n]):=
 ((h.append (RowOf.one hl d)).imp λ_ _ _ h=>(h.keep (Ac.of_grown hg hr)).mono λb _=>c b)
theorem WL {R R':Nat->Prop}{w:World}{ns:List Stil.B9}{n:Stil.B9}(h:RowOf 6 (Qb R w) xs ns)(d:Qb R w cs n)(hl:cs.length=6)(hg:w.grownBy w' v.ownBlock)(hr:∀b,R b->v.ownBlock≠some b)(c:∀b,R b->R' b):RowOf 6 (Qb R' w') (xs++cs) (ns++[n]):=
 ((h.append (RowOf.one hl d)).imp λ_ _ _ h=>(h.keep (Ac.of_grown hg hr)).mono λb _=>c b)
theorem Jw.parts {a:Stil.B9}(h:Jw a):Ll a.net/\(∀c∈a.coils,Yh c)/\∀x∈a.kids,Jw x:=by
 obtain⟨n,cs,b⟩:=a;exact(Hr _ _ _).1 h
def mA (Q:Nat->Prop)(e:Ending)(w w':World)(g P N:Nat):Prop:=∃(a:Stil.B9) (f c d b:Value),e=.returned (.agg #[AB a.net.kind,AB a.net.one.op,f,c,d,b])/\Bj (Fr Q w.heap.size w.heap.size) w' f a.net.one.args/\Dt (Fr Q w.heap.size w.heap.size) w' c a.net.kids/\Dn (Fr Q w.heap.size w.heap.size) w' d a.coils/\Fe (Fr Q w.heap.size w.heap.size) w' b a.kids/\Jw a/\Gt a<=N/\Ij w' g P/\w.grownBy w' (some g)
theorem mH {n:Stil.B8}{cs:List Stil.Elem}{kids:List Stil.B9}{x:Stil.B9}(hx:x∈kids):Gt x+1<=Gt ⟨n,cs,kids⟩:=by
 rw[Gm];have b:=Eb Gt kids x hx;have c:=List.length_pos_of_mem hx;omega
theorem r7 (a:Stil.B9):∀(Q:Nat->Prop) (g P:Nat) (w:World) (av nv cv kv:Value),(∀b,Q b->g<b)->Bj Q w av a.net.one.args->Dt Q w nv a.net.kids->Dn Q w cv a.coils->Fe Q w kv a.kids->Jw a->Gt a<=40000->Ij w g P->P+10*Gt a+100<=100000000->
  Calls prog 51 #[AH g, .agg #[AB a.net.kind,AB a.net.one.op,av,nv,cv,kv]] w λe w'=>mA Q e w w' g (P+10*Gt a+100) (Gt a+40):=by
 induction a using Fq with
 | h n cs kids ih=>
  obtain⟨k,⟨op,l⟩,ns⟩:=n;intro Q g P w av nv cv kv hQ aw ay aB az lV bD hr hP;simp only at aw ay aB az;have hg:=V8 hr;have yF:Hid (∀x∈kids,Gt x+1<=Gt ⟨⟨k,⟨op,l⟩,ns⟩,cs,kids⟩):=λx hx=>mH hx
  have bL:cs.length+kids.length<=Gt ⟨⟨k,⟨op,l⟩,ns⟩,cs,kids⟩:=by rw[Gm,Gu];omega
  have jM:Hid (Gt ⟨⟨k,⟨op,l⟩,ns⟩,cs,kids⟩=G9 ⟨k,⟨op,l⟩,ns⟩+(Gu cs+(kids.length+(kids.map Gt).sum))):=Gm _ _ _;obtain⟨aO,hZ⟩:=AA (Gt ⟨⟨k,⟨op,l⟩,ns⟩,cs,kids⟩)
  rw[<-hZ] at yF bL jM bD hP ⊢;clear hZ;have IH:=AV ih;have HQ:=AV hQ;have HT:=AV lV;have aG:∀b,b<w.heap.size->Q b->AP Q w b:=λb hb h=>Or.inl ⟨h,hb⟩
  have aX:=AV (aw.mono aG);have a6:=AV (ay.mono aG);have bc:=AV (aB.mono aG);have oJ:=AV (az.mono aG);obtain⟨a1,c1,rfl,_⟩:=aw;obtain⟨a2,c2,rfl,_⟩:=ay;obtain⟨a3,c3,rfl,_⟩:=aB;obtain⟨a4,c4,rfl,_⟩:=az;clear ih hQ lV aG;go_enter func51,ntmps51;go_upto_region 1 with fail
  go_cut [15] (λc wq=>∃b:Bool,c=.bool b/\(b=true->0<kids.length)/\Nr wq w.heap.size k op (AE a1 l.length c1) (AE a2 ns.length c2) (AE a3 cs.length c3) (AE a4 kids.length c4)/\Nr wq (w.heap.size+1) 0 0 AG AG AG AG/\Bj (AP Q w) wq (AE a1 l.length c1) l/\Dt (AP Q w) wq (AE a2 ns.length c2) ns/\Dn (AP Q w) wq (AE a3 cs.length c3) cs/\Fe (AP Q w) wq (AE a4 kids.length c4) kids/\Ij wq g (P+1)/\w.grownBy wq (some g))
  case first=>
   by_cases br:0<kids.length
   ·go_wp2_with ((go_at_call_of 24 (Value.int IntKind.i64 3);refine(Fv g _ _ _ Av AQ AQ AQ).mono ?_;rintro e wa ⟨x,rfl,aM,aT,aj,bC⟩;obtain⟨ab,F,G,q1,L,K,M,N,I,O,J,C,D⟩:Ek wa w.heap.size (AB k) (AB op) (AE a1 l.length c1) (AE a2 ns.length c2) (AE a3 cs.length c3) (AE a4 kids.length c4):=qb6;obtain⟨ae,m,U,y,X,q,R,t,S,s,T,z,V⟩:EG wa ((w.heap.size+1)):=EJ))
    go_meet;have B:Ac (AP Q w) w wa:=((Ac.of_below (Aa _ _)).trans (Ac.of_below (Aa _ _))).trans (Ha HQ AQ bC);exact⟨decide (0<x),rfl,λ_=>br,BG,BG,aX.keep B,a6.keep B,bc.keep B,oJ.keep B,A3,A2⟩
   ·have bN:decide (0<(kids.length:Int))=false:=by rw[Ft];omega
    go_wp2
    go_meet;exact⟨false,rfl,λh=>BE,BG,BG,aX.keep A9,a6.keep A9,bc.keep A9,oJ.keep A9,A3,A2⟩
  case rest=>
   obtain⟨b,rfl,aY,a9,aR,bk,bq,bv,bo,aj,aU⟩:=hcut;clear aX a6 bc oJ hr;have aW:=AV a9;have aZ:=AV aR;have aQ:=AV bk;have fM:=AV bq;have yw:=AV bv;have lT:=AV bo;clear bk bq bv bo;cases b with
   | true=>
    have br:=aY rfl;clear aY;obtain⟨ab,F,q1,K,N,O,C,G,L,M,I,J,D⟩:=a9;have bT:=aR.1;clear aR;go_upto_region 3 with(at_builtin;refine Sr rfl _ _ rfl (AP Q w) wc kids (AE a4 kids.length c4) rfl rfl rfl lT AQ ?_;intro bb cc w3 xs ai ag dW gV H;have al:=AV ai;have an:=AV ag;have dJ:Hid ((wc.alloc (.cells #[] 62)).grownBy w3 (some wc.heap.size)):=H;clear ai ag H F q1 K N O C G L M I J D)
    have ac:Ac (λb=>AP Q w b/\b<wc.heap.size) wc w3:=(Ac.of_below (Aa _ _)).trans (Ac.of_grown dJ (λb hb e=>by simp only[C0] at e;exact absurd hb.2 AQ));have dN:∀b,b<wc.heap.size->AP Q w b->AP Q w b/\b<wc.heap.size:=λb hb h=>⟨h,hb⟩
    have Z:∀b,b<w3.heap.size->(AP Q w b/\b<wc.heap.size)->AP Q w b/\b≠bb:=λb _ h=>⟨h.1,by have:=h.2;omega⟩
    have rJ:=AV ((aW.alloc _).grownO dJ BD);have rG:=AV ((aZ.alloc _).grownO dJ BD);have bP:=Fh (Ci aj _) dJ BH;have bZ:=J8 (Ei aU _) dJ BH;have bn:=AV (((aQ.mono dN).keep ac).mono Z);have nT:=AV (((fM.mono dN).keep ac).mono Z);have yu:=AV (((yw.mono dN).keep ac).mono Z);have bj:Hid (RowOf 6 (Qb (λb=>AP Q w b/\b≠bb) w3) xs kids):=an.imp λ_ _ _ h=>h.mono Z
    clear aW aZ aQ fM yw lT an aj aU ab ac dN Z;go_upto_region 4 with(go_at_call_of 24 (kids.length:Nat);refine(Fv g _ _ _ bP AQ AQ AQ).mono ?_;rintro e w4 ⟨x,rfl,aM,aT,gI,bF⟩;obtain⟨j,rfl⟩:=FW aM;have hj:j<kids.length:=AQ;clear aM aT)
    have aL:Ac (λb=>AP Q w b/\b≠bb) w3 w4:=F7 (Ha HQ AQ bF) (λb _ h=>h.1);have dO:=AV (Cb al bF AQ);have a7:Hid (RowOf 6 (Qb (λb=>AP Q w b/\b≠bb) w4) xs kids):=bj.imp λ_ _ _ h=>h.keep aL
    have rH:=AV (rJ.grownO bF BD);have rF:=AV (rG.grownO bF BD);have bs:=AV (bn.keep aL);have zS:=AV (nT.keep aL);have bu:=AV (yu.keep aL);have iK:=Ed bZ bF;have aA:=CB gV bF.size;clear al bj rJ rG bn nT yu bP bZ aL dJ bF gV;obtain⟨av,nv,cv,kv,r0,r1,r2,r3,r4,r5,au,aw,ay,aB,az⟩:=Lq dO a7 hj;obtain⟨s0,s1,s2,s3,s4,s5⟩:=(⟨au _,au _,au _,au _,au _,au _⟩:w4.frozen? (AK bb (j*6))=false/\w4.frozen? (AK bb (j*6+1))=false/\w4.frozen? (AK bb (j*6+2))=false/\w4.frozen? (AK bb (j*6+3))=false/\w4.frozen? (AK bb (j*6+4))=false/\w4.frozen? (AK bb (j*6+5))=false)
    clear au;have dS:Hid (Gt kids[j]+1<=aO/\Jw kids[j]):=⟨yF _ (CJ hj),HT.parts.2.2 _ (CJ hj)⟩
    have HI:=
     AV (IH _ (CJ hj) _ g (P+2) w4 av nv cv kv (λb hb=>by rcases hb.1 with h | h;exact HQ b h.1;omega) aw ay aB az dS.2 yGd gI yGd)
    have o8:=AV (λx hx=>QO Gt 40 kids j x hj hx);obtain⟨a8,hX⟩:=AA (kids[j])
    rw[<-hX] at HI o8 dS r0 r1;obtain⟨u1,t1,rfl,-⟩:=aw;obtain⟨u2,t2,rfl,-⟩:=ay;obtain⟨u3,t3,rfl,-⟩:=aB;obtain⟨u4,t4,rfl,-⟩:=az;clear hX IH gI;go_upto_region 5 with(go_at_call 51;refine HI.mono ?_;rintro e f ⟨aa,xh,bA,bO,b0,rfl,gW,kJ,qA,kL,rU,rQ,jF,A⟩;have uT:=AV gW;have kE:=AV kJ;have yl:=AV qA;have bi:=AV kL;have oh:=AV rU;have ar:=Cb dO A AQ;obtain⟨d0,d1,d2,d3,d4,d5,f0,f1,f2,f3,f4,f5⟩:=(⟨ar.frozenAt (j*6),ar.frozenAt (j*6+1),ar.frozenAt (j*6+2),ar.frozenAt (j*6+3),ar.frozenAt (j*6+4),ar.frozenAt (j*6+5),(Dk A aA AQ).trans r0,(Dk A aA AQ).trans r1,(Dk A aA AQ).trans r2,(Dk A aA AQ).trans r3,(Dk A aA AQ).trans r4,(Dk A aA AQ).trans r5⟩:f.frozen? (AK bb (j*6))=false/\f.frozen? (AK bb (j*6+1))=false/\f.frozen? (AK bb (j*6+2))=false/\f.frozen? (AK bb (j*6+3))=false/\f.frozen? (AK bb (j*6+4))=false/\f.frozen? (AK bb (j*6+5))=false/\f.cell? (AK bb (j*6))=_/\f.cell? (AK bb (j*6+1))=_/\f.cell? (AK bb (j*6+2))=_/\f.cell? (AK bb (j*6+3))=_/\f.cell? (AK bb (j*6+4))=_/\f.cell? (AK bb (j*6+5))=_);obtain⟨y1,z1,rfl,-⟩:=gW;obtain⟨y2,z2,rfl,-⟩:=kJ;obtain⟨y3,z3,rfl,-⟩:=qA;obtain⟨y4,z4,rfl,-⟩:=kL;clear ar rU r0 r1 r2 r3 r4 r5 s0 s1 s2 s3 s4 s5)
    obtain⟨W,hW⟩:=AA ((((((f.setCell (AK bb (j*6)) (AB aa.net.kind)).setCell (AK bb (j*6+1)) (AB aa.net.one.op)).setCell (AK bb (j*6+2)) (AE y1 aa.net.one.args.length z1)).setCell (AK bb (j*6+3)) (AE y2 aa.net.kids.length z2)).setCell (AK bb (j*6+4)) (AE y3 aa.coils.length z3)).setCell (AK bb (j*6+5)) (AE y4 aa.kids.length z4))
    rw[<-hW];have bM:=A.size;have ap:∀b,b<f.heap.size->Fr (λb=>AP Q w b/\b≠bb) w4.heap.size w4.heap.size b->AP Q w b/\b≠bb:=λb _ h=>by
     rcases h with h | h
     ·exact h.1
     ·exact⟨Or.inr AQ,AQ⟩
    have a5:Ac (λb=>AP Q w b/\b≠bb) w4 f:=F7 (Ha HQ AQ A) (λb _ h=>h.1);have bh:=SE (Cb dO A AQ) (a7.imp λ_ _ _ h=>h.keep a5) hj (λh=>h.2 rfl) (uT.mono ap) (kE.mono ap) (yl.mono ap) (bi.mono ap);have ba:W=set6 f bb (j*6) (AB aa.net.kind) (AB aa.net.one.op) (AE y1 aa.net.one.args.length z1) (AE y2 aa.net.kids.length z2) (AE y3 aa.coils.length z3) (AE y4 aa.kids.length z4):=hW;rw[<-ba] at bh;obtain⟨ys,bf,bw⟩:=bh;have bB:Nr W w.heap.size k op (AE a1 l.length c1) (AE a2 ns.length c2) (AE a3 cs.length c3) (AE a4 kids.length c4):=by
     rw[hW];exact((((((rH.grownO A BD).set AQ).set AQ).set AQ).set AQ).set AQ).set AQ
    have bH:Nr W (w.heap.size+1) 0 0 AG AG AG AG:=by
     rw[hW];exact((((((rF.grownO A BD).set AQ).set AQ).set AQ).set AQ).set AQ).set AQ
    have bS:Ij W g (P+2+10*Gt a8+100):=by
     rw[hW];exact Ku (Ku (Ku (Ku (Ku (Ku (jF) AQ _) AQ _) AQ _) AQ _) AQ _) AQ _
    have bX:w.grownBy W (some g):=by
     rw[hW];have hb:w.heap.size<=bb:=AQ
     exact Oa hb (Oa hb (Oa hb (Oa hb (Oa hb (Oa hb (Ed iK A) _) _) _) _) _) _
    have aS:Ac (λb=>AP Q w b/\b≠bb) w4 W:=by
     rw[ba];exact a5.trans (YX (λh=>h.2 rfl))
    have qW:Hid (Fe (AP Q w) W (AE (some (AK bb 0)) kids.length cc) (kids.set j aa)):=by
     have e:kids.length=(kids.set j aa).length:=AU
     rw[e] at bf ⊢
     exact Gi bf (bw.imp λ_ _ _ h=>h.mono λb _ hb=>hb.1) (λb hb=>by
      have:bb=b:=by simpa[Value.ownBlock] using hb
      exact Or.inr AQ)
    have bK:=AV ((bs.keep aS).mono λb _ h=>h.1);have jQ:=AV ((zS.keep aS).mono λb _ h=>h.1);have bI:=AV ((bu.keep aS).mono λb _ h=>h.1);obtain⟨ab,F,q1,K,N,O,C,G,L,M,I,J,D⟩:=bB;obtain⟨ae,m,y,q,t,s,z,U,X,R,S,T,V⟩:=bH;clear hW ba bf bw aS a5 ap dO a7 rH rF bs zS bu uT kE yl bi d0 d1 d2 d3 d4 d5 f0 f1 f2 f3 f4 f5 HI
    go_wp2
    refine bodyPost_ret (by simp[results,results51,go_sem,m,y,q,t,s,z];rfl) rfl ?_;refine⟨⟨⟨k,⟨op,l⟩,ns⟩,cs,kids.set j aa⟩,_,_,_,_,rfl,Bj.mono (bK.keep A9) (G7 _),Dt.mono (jQ.keep A9) (G7 _),Dn.mono (bI.keep A9) (G7 _),Fe.mono (qW.keep A9) (G7 _),?_,?_,?_,A2⟩
    ·refine(Hr _ _ _).2 ⟨HT.parts.1,HT.parts.2.1,λx hx=>?_⟩
     rcases M5 hx with h | rfl
     ·exact HT.parts.2.2 x h
     ·exact oh.out
    ·have:=o8 aa rQ
     have:=jM.out
     rw[Gm];simp only[JR];omega
    ·have:=dS.1
     exact A3
   | false=>
    clear aY IH yF;obtain⟨ab,F,q1,K,N,O,C,G,L,M,I,J,D⟩:=a9;obtain⟨ae,m,y,q,t,s,z,U,X,R,S,T,V⟩:=aR;go_upto_region 9 with((go_at_call_of 24 (Value.int IntKind.i64 6);refine(Fv g _ _ _ Av AQ AQ AQ).mono ?_;rintro e d ⟨x,rfl,aM,aT,dQ,ax⟩;obtain⟨ab,F,G,q1,L,K,M,N,I,O,J,C,D⟩:Ek d w.heap.size (AB k) (AB op) (AE a1 l.length c1) (AE a2 ns.length c2) (AE a3 cs.length c3) (AE a4 kids.length c4):=qb6;obtain⟨ae,m,U,y,X,q,R,t,S,s,T,z,V⟩:EG d ((w.heap.size+1)):=EJ))
    obtain⟨ie,bm,mF,mD,lZ⟩:=info_parts LO;obtain⟨ia,bG,iJ,iI,iH⟩:=info_parts KP;have aD:=AV (aQ.keep (Ha HQ AQ ax));have dP:=AV (fM.keep (Ha HQ AQ ax));have aK:=AV (yw.keep (Ha HQ AQ ax));have nJ:=AV (lT.keep (Ha HQ AQ ax));have oN:Hid (Nr d w.heap.size k op (AE a1 l.length c1) (AE a2 ns.length c2) (AE a3 cs.length c3) (AE a4 kids.length c4)):=⟨ab,F,q1,K,N,O,C,G,L,M,I,J,D⟩
    have oM:Hid (Nr d (w.heap.size+1) 0 0 AG AG AG AG):=⟨ae,m,y,q,t,s,z,U,X,R,S,T,V⟩
    have mG:=Ed aU ax;clear aQ fM yw lT aW aZ aU ax aj;have hx:x=0\/x=1\/x=2\/x=3\/x=4\/x=5:=AQ
    clear aM aT;rcases hx with rfl | rfl | rfl | rfl | rfl | rfl
    ·go_wp2
     refine bodyPost_ret (by simp[results,results51,go_sem,m,y,q,t,s,z];rfl) rfl ?_;refine⟨⟨⟨0,⟨0,[]⟩,[]⟩,cs,kids⟩,_,_,_,_,rfl,Tt _ _,Jk _ _,Dn.mono (aK.keep A9) (G7 _),Fe.mono (nJ.keep A9) (G7 _),(Hr _ _ _).2 ⟨Yl,HT.parts.2⟩,?_,A3,A2⟩;have:=jM.out
     have e9:G9 ⟨0,⟨0,[]⟩,[]⟩=0:=by rw[Fa];simp
     rw[Gm,e9];omega
    ·go_wp2_with ((go_at_call_of 24 (Value.int IntKind.i64 2);refine(Fv g _ _ _ Av AQ AQ AQ).mono ?_;rintro e w4 ⟨b1,rfl,bU,bQ,aj,bF⟩;obtain⟨ab,F,G,q1,L,K,M,N,I,O,J,C,D⟩:Ek w4 w.heap.size (AB k) (AB op) (AE a1 l.length c1) (AE a2 ns.length c2) AG (AE a4 kids.length c4):=qb6;obtain⟨ae,m,U,y,X,q,R,t,S,s,T,z,V⟩:EG w4 ((w.heap.size+1)):=EJ))
     all_goals
      have B:Ac (AP Q w) d w4:=Ac.trans A9 (Ha HQ AQ bF);refine bodyPost_ret (by simp[results,results51,go_sem,m,y,q,t,s,z];rfl) rfl ?_
     ·refine⟨⟨⟨k,⟨op,l⟩,ns⟩,[],[]⟩,_,_,_,_,rfl,Bj.mono ((aD.keep B).keep A9) (G7 _),Dt.mono ((dP.keep B).keep A9) (G7 _),Y0 _ _,Tu _ _,(Hr _ _ _).2 ⟨HT.parts.1,λ_ h=>BE,λ_ h=>BE⟩,?_,A3,A2⟩
      have:=jM.out
      rw[Gm];simp only[Gu,CP,C6,GH];omega
     ·refine⟨⟨⟨k,⟨op,l⟩,ns⟩,[],kids⟩,_,_,_,_,rfl,Bj.mono ((aD.keep B).keep A9) (G7 _),Dt.mono ((dP.keep B).keep A9) (G7 _),Y0 _ _,Fe.mono ((nJ.keep B).keep A9) (G7 _),(Hr _ _ _).2 ⟨HT.parts.1,λ_ h=>BE,HT.parts.2.2⟩,?_,A3,A2⟩
      have:=jM.out
      rw[Gm];simp only[Gu,CP,C6,GH];omega
    ·go_wp2_with (first | (go_at_call 50;refine(I5 g _ _ (by exact bP) AQ).mono ?_;rintro e f ⟨aN,ev,aI,rfl,cO,dR,iT,rX,aj,A⟩;obtain⟨ea,ec,rfl,_,_⟩:=id dR;obtain⟨ab,F,G,q1,L,K,M,N,I,O,J,C,D⟩:Ek f w.heap.size (AB k) (AB op) (AE a1 l.length c1) (AE a2 ns.length c2) (AE a3 cs.length c3) (AE a4 kids.length c4):=qb6;obtain⟨ae,m,U,y,X,q,R,t,S,s,T,z,V⟩:EG f ((w.heap.size+1)):=EJ) | (at_builtin;refine Qe rfl _ _ rfl (AP Q w) d cs (AE a3 cs.length c3) rfl rfl rfl aK AQ ?_;intro bb cc w3 xs ai ag dW gV H;have al:=AV ai;have an:=AV ag;have dJ:Hid ((d.alloc (.cells #[] 46)).grownBy w3 (some d.heap.size)):=H;have jK:=(oN.alloc _).grownO H BD;have jI:=(oM.alloc _).grownO H BD;have bP:Ij w3 g (P+2):=Fh (Ci dQ _) H BH;have bZ:=J8 (Ei mG _) H BH;clear ai ag H F q1 K N O C m y q t s z G L M I J D U X R S T V;obtain⟨ab,F,q1,K,N,O,C,G,L,M,I,J,D⟩:=jK;obtain⟨ae,m,y,q,t,s,z,U,X,R,S,T,V⟩:=jI) | (at_builtin;refine wpList_append_own_at _ rfl _ _ 60 rfl d.heap.size 46 ie (.agg #[AB 0,AG]) 2 32 underlying60 bm mF mD lZ rfl AY _ _ _ rfl ((Cb al A AQ).alloc _) _ _ _ [AB aN,AE ea aI.length ec] rfl rfl BS yCf A6 AQ (by rw[World.size_alloc];have:=A.size;omega) ?_;intro v' w6 ah aC bW aV;have uN:=AV ah;have Y:Hid ((f.alloc (.cells #[AB aN,AE ea aI.length ec] 46)).grownBy w6 (some bb)):=aC;obtain⟨y6,z6,aE,-⟩:=Hq ah;subst aE;have jJ:=(Nr.alloc (show Nr f w.heap.size k op (AE a1 l.length c1) (AE a2 ns.length c2) (AE a3 cs.length c3) (AE a4 kids.length c4) from BG) _).grownO Y BD;have gY:=(Nr.alloc (show Nr f (w.heap.size+1) 0 0 AG AG AG AG from BG) _).grownO Y BD;clear ah aC bW aV F q1 K N O C m y q t s z G L M I J D U X R S T V;obtain⟨ab,F,q1,K,N,O,C,G,L,M,I,J,D⟩:=jJ;obtain⟨ae,m,y,q,t,s,z,U,X,R,S,T,V⟩:=gY))
     have ac:Ac (λb=>AP Q w b/\b<d.heap.size) d w3:=(Ac.of_below (Aa _ _)).trans (Ac.of_grown dJ (λb hb e=>by simp only[C0] at e;exact absurd hb.2 AQ));have dN:∀b,b<d.heap.size->AP Q w b->AP Q w b/\b<d.heap.size:=λb hb h=>⟨h,hb⟩
     have Z:∀b,b<w3.heap.size->(AP Q w b/\b<d.heap.size)->AP Q w b/\b≠bb:=λb _ h=>⟨h.1,by have:=h.2;omega⟩
     have tX:RowOf 2 (N8 (λb=>AP Q w b/\b≠bb) w3) xs cs:=an.imp λ_ _ _ h=>h.mono Z
     have bp:d.heap.size+1<=w3.heap.size:=by have:=dJ.size;simpa using this
     have ao:Ac (λb=>AP Q w b/\b≠bb) w3 f:=F7 (Ha HQ AQ A) (λb _ h=>h.1);have B:Ac (λb=>AP Q w b/\b≠bb) w3 (f.alloc (.cells #[AB aN,AE ea aI.length ec] 46)):=ao.trans (Ac.of_below (Aa _ _));have qH:=UO (R':=(AP Q w)) (v:=AE (some (AK bb 0)) cs.length cc) (n:=⟨aN,aI⟩) (tX.imp λ_ _ _ h=>h.keep B) ⟨_,rfl,((Fg dR).mono (λb _ hb=>⟨Or.inr AQ,AQ⟩)).keep (Ac.of_below (Aa _ _))⟩ rfl Y (λb hb e=>hb.2 yBi) (λb hb=>hb.1);have e6:cs.length+1=(cs++[(⟨aN,aI⟩:Stil.Elem)]).length:=AU
     have aF:Dn (AP Q w) w6 (AE y6 (cs.length+1) z6) (cs++[⟨aN,aI⟩]):=by
      have ho:=uN.out;rw[e6] at ho ⊢;exact Jr ho qH (λb hb=>Or.inr yCj)
     have af:Ac (λb=>AP Q w b/\b≠bb) (f.alloc (.cells #[AB aN,AE ea aI.length ec] 46)) w6:=Ac.of_grown Y (λb hb e=>hb.2 yCg);have aH:=((((((aD.mono dN).keep ac).mono Z).keep B).keep af)).mono λb _ h=>h.1
     have tY:=((((((dP.mono dN).keep ac).mono Z).keep B).keep af)).mono λb _ h=>h.1
     have bg:=((((((nJ.mono dN).keep ac).mono Z).keep B).keep af)).mono λb _ h=>h.1
     have kH:Ij w6 g (P+90):=Gl (Fh (Ci aj _) Y BH) AQ;have vH:=J8 (Ei (Ed bZ A) _) Y BH;refine bodyPost_ret (by simp[results,results51,go_sem,m,y,q,t,s,z];rfl) rfl ?_;refine⟨⟨⟨k,⟨op,l⟩,ns⟩,cs++[⟨aN,aI⟩],kids⟩,_,_,_,_,rfl,Bj.mono (aH.keep A9) (G7 _),Dt.mono (tY.keep A9) (G7 _),Dn.mono (aF.keep A9) (G7 _),Fe.mono (bg.keep A9) (G7 _),?_,?_,A3,A2⟩
     ·refine(Hr _ _ _).2 ⟨HT.parts.1,λx hx=>?_,HT.parts.2.2⟩
      rcases List.mem_append.1 hx with h | h
      ·exact HT.parts.2.1 x h
      ·rw[List.mem_singleton.1 h];exact⟨cO,iT,by show aI.length<=100000;omega⟩
     ·have:=jM.out
      rw[Gm];simp only[Gu,CO,CU,GF,CH,CP,CQ,C6,DO,GH,Qd] at this ⊢;omega
    ·go_wp2_with (first | (go_at_call 47;refine(Tq g _ _ (by exact bP) AQ).mono ?_;rintro e f ⟨aN,ev,aI,rfl,cO,dR,iT,rX,aj,A⟩;obtain⟨ea,ec,rfl,_,_⟩:=id dR;obtain⟨ab,F,G,q1,L,K,M,N,I,O,J,C,D⟩:Ek f w.heap.size (AB k) (AB op) (AE a1 l.length c1) (AE a2 ns.length c2) (AE a3 cs.length c3) (AE a4 kids.length c4):=qb6;obtain⟨ae,m,U,y,X,q,R,t,S,s,T,z,V⟩:EG f ((w.heap.size+1)):=EJ) | (go_at_call 80;refine(YA g _ aN _ aI _ Av AQ cO (dR.mono AQ) iT AQ).mono ?_;rintro e w7 ⟨eH,fv,ak,rfl,xX,zN,xe,bR,aj,aP⟩;obtain⟨fa,fc,rfl,_,_⟩:=id zN;obtain⟨ab,F,G,q1,L,K,M,N,I,O,J,C,D⟩:Ek w7 w.heap.size (AB k) (AB op) (AE a1 l.length c1) (AE a2 ns.length c2) (AE a3 cs.length c3) (AE a4 kids.length c4):=qb6;obtain⟨ae,m,U,y,X,q,R,t,S,s,T,z,V⟩:EG w7 ((w.heap.size+1)):=EJ) | (at_builtin;refine Qe rfl _ _ rfl (AP Q w) d cs (AE a3 cs.length c3) rfl rfl rfl aK AQ ?_;intro bb cc w3 xs ai ag dW gV H;have al:=AV ai;have an:=AV ag;have dJ:Hid ((d.alloc (.cells #[] 46)).grownBy w3 (some d.heap.size)):=H;have jK:=(oN.alloc _).grownO H BD;have jI:=(oM.alloc _).grownO H BD;have bP:Ij w3 g (P+2):=Fh (Ci dQ _) H BH;have bZ:=J8 (Ei mG _) H BH;clear ai ag H F q1 K N O C m y q t s z G L M I J D U X R S T V;obtain⟨ab,F,q1,K,N,O,C,G,L,M,I,J,D⟩:=jK;obtain⟨ae,m,y,q,t,s,z,U,X,R,S,T,V⟩:=jI) | (at_builtin;refine wpList_append_own_at _ rfl _ _ 60 rfl d.heap.size 46 ie (.agg #[AB 0,AG]) 2 32 underlying60 bm mF mD lZ rfl AY _ _ _ rfl ((Cb (Cb al A AQ) aP AQ).alloc _) _ _ _ [AB eH,AE fa ak.length fc] rfl rfl BS yCf A6 AQ (by rw[World.size_alloc];have:=A.size;have:=aP.size;omega) ?_;intro v' w6 ah aC bW aV;have uN:=AV ah;have Y:Hid ((w7.alloc (.cells #[AB eH,AE fa ak.length fc] 46)).grownBy w6 (some bb)):=aC;obtain⟨y6,z6,aE,-⟩:=Hq ah;subst aE;have jJ:=(Nr.alloc (show Nr w7 w.heap.size k op (AE a1 l.length c1) (AE a2 ns.length c2) (AE a3 cs.length c3) (AE a4 kids.length c4) from BG) _).grownO Y BD;have gY:=(Nr.alloc (show Nr w7 (w.heap.size+1) 0 0 AG AG AG AG from BG) _).grownO Y BD;clear ah aC bW aV F q1 K N O C m y q t s z G L M I J D U X R S T V;obtain⟨ab,F,q1,K,N,O,C,G,L,M,I,J,D⟩:=jJ;obtain⟨ae,m,y,q,t,s,z,U,X,R,S,T,V⟩:=gY))
     have ac:Ac (λb=>AP Q w b/\b<d.heap.size) d w3:=(Ac.of_below (Aa _ _)).trans (Ac.of_grown dJ (λb hb e=>by simp only[C0] at e;exact absurd hb.2 AQ));have dN:∀b,b<d.heap.size->AP Q w b->AP Q w b/\b<d.heap.size:=λb hb h=>⟨h,hb⟩
     have Z:∀b,b<w3.heap.size->(AP Q w b/\b<d.heap.size)->AP Q w b/\b≠bb:=λb _ h=>⟨h.1,by have:=h.2;omega⟩
     have tX:RowOf 2 (N8 (λb=>AP Q w b/\b≠bb) w3) xs cs:=an.imp λ_ _ _ h=>h.mono Z
     have bp:d.heap.size+1<=w3.heap.size:=by have:=dJ.size;simpa using this
     have ao:Ac (λb=>AP Q w b/\b≠bb) w3 w7:=(F7 (Ha HQ AQ A) (λb _ h=>h.1)).trans (F7 (Ha HQ AQ aP) (λb _ h=>h.1));have B:Ac (λb=>AP Q w b/\b≠bb) w3 (w7.alloc (.cells #[AB eH,AE fa ak.length fc] 46)):=ao.trans (Ac.of_below (Aa _ _));have qH:=UO (R':=(AP Q w)) (v:=AE (some (AK bb 0)) cs.length cc) (n:=⟨eH,ak⟩) (tX.imp λ_ _ _ h=>h.keep B) ⟨_,rfl,((Fg zN).mono (λb _ hb=>by have:=A.size;exact⟨Or.inr AQ,AQ⟩)).keep (Ac.of_below (Aa _ _))⟩ rfl Y (λb hb e=>hb.2 yBi) (λb hb=>hb.1);have e6:cs.length+1=(cs++[(⟨eH,ak⟩:Stil.Elem)]).length:=AU
     have aF:Dn (AP Q w) w6 (AE y6 (cs.length+1) z6) (cs++[⟨eH,ak⟩]):=by
      have ho:=uN.out;rw[e6] at ho ⊢;exact Jr ho qH (λb hb=>Or.inr yCj)
     have af:Ac (λb=>AP Q w b/\b≠bb) (w7.alloc (.cells #[AB eH,AE fa ak.length fc] 46)) w6:=Ac.of_grown Y (λb hb e=>hb.2 yCg);have aH:=((((((aD.mono dN).keep ac).mono Z).keep B).keep af)).mono λb _ h=>h.1
     have tY:=((((((dP.mono dN).keep ac).mono Z).keep B).keep af)).mono λb _ h=>h.1
     have bg:=((((((nJ.mono dN).keep ac).mono Z).keep B).keep af)).mono λb _ h=>h.1
     have kH:Ij w6 g (P+90):=Gl (Fh (Ci aj _) Y BH) AQ;have vH:=J8 (Ei (Ed (Ed bZ A) aP) _) Y BH;refine bodyPost_ret (by simp[results,results51,go_sem,m,y,q,t,s,z];rfl) rfl ?_;refine⟨⟨⟨k,⟨op,l⟩,ns⟩,cs++[⟨eH,ak⟩],kids⟩,_,_,_,_,rfl,Bj.mono (aH.keep A9) (G7 _),Dt.mono (tY.keep A9) (G7 _),Dn.mono (aF.keep A9) (G7 _),Fe.mono (bg.keep A9) (G7 _),?_,?_,A3,A2⟩
     ·refine(Hr _ _ _).2 ⟨HT.parts.1,λx hx=>?_,HT.parts.2.2⟩
      rcases List.mem_append.1 hx with h | h
      ·exact HT.parts.2.1 x h
      ·rw[List.mem_singleton.1 h];exact⟨xX,xe,by show ak.length<=100000;omega⟩
     ·have:=jM.out
      rw[Gm];simp only[Gu,CO,CU,GF,CH,CP,CQ,C6,DO,GH,Qd] at this ⊢;omega
    ·go_wp2_with (first | (at_builtin;refine Sr rfl _ _ rfl (AP Q w) d kids (AE a4 kids.length c4) rfl rfl rfl nJ AQ ?_;intro bb cc w3 xs ai ag dW gV H;have al:=AV ai;have an:=AV ag;have dJ:Hid ((d.alloc (.cells #[] 62)).grownBy w3 (some d.heap.size)):=H;have jK:=(oN.alloc _).grownO H BD;have jI:=(oM.alloc _).grownO H BD;have bP:Ij w3 g (P+2):=Fh (Ci dQ _) H BH;have bZ:=J8 (Ei mG _) H BH;clear ai ag H F q1 K N O C m y q t s z G L M I J D U X R S T V;obtain⟨ab,F,q1,K,N,O,C,G,L,M,I,J,D⟩:=jK;obtain⟨ae,m,y,q,t,s,z,U,X,R,S,T,V⟩:=jI) | (at_builtin;refine wpList_append_own_at _ rfl _ _ 23 rfl d.heap.size 62 ia (.agg #[AB 0,AB 0,AG,AG,AG,AG]) 6 112 underlying23 bG iJ iI iH rfl AY _ _ _ rfl (al.alloc _) _ _ _ [AB 0,AB 0,AG,AG,AG,AG] rfl rfl BS yAg A6 AQ B0 ?_;intro v' w6 ah aC bW aV;have uN:=AV ah;have Y:Hid ((w3.alloc (.cells #[AB 0,AB 0,AG,AG,AG,AG] 62)).grownBy w6 (some bb)):=aC;obtain⟨y6,z6,aE,-⟩:=Hq ah;subst aE;have jJ:=(Nr.alloc (show Nr w3 w.heap.size k op (AE a1 l.length c1) (AE a2 ns.length c2) (AE a3 cs.length c3) (AE a4 kids.length c4) from BG) _).grownO Y BD;have gY:=(Nr.alloc (show Nr w3 (w.heap.size+1) 0 0 AG AG AG AG from BG) _).grownO Y BD;clear ah aC bW aV F q1 K N O C m y q t s z G L M I J D U X R S T V;obtain⟨ab,F,q1,K,N,O,C,G,L,M,I,J,D⟩:=jJ;obtain⟨ae,m,y,q,t,s,z,U,X,R,S,T,V⟩:=gY))
     have ac:Ac (λb=>AP Q w b/\b<d.heap.size) d w3:=(Ac.of_below (Aa _ _)).trans (Ac.of_grown dJ (λb hb e=>by simp only[C0] at e;exact absurd hb.2 AQ));have dN:∀b,b<d.heap.size->AP Q w b->AP Q w b/\b<d.heap.size:=λb hb h=>⟨h,hb⟩
     have Z:∀b,b<w3.heap.size->(AP Q w b/\b<d.heap.size)->AP Q w b/\b≠bb:=λb _ h=>⟨h.1,by have:=h.2;omega⟩
     have tX:RowOf 6 (Qb (λb=>AP Q w b/\b≠bb) w3) xs kids:=an.imp λ_ _ _ h=>h.mono Z
     have bp:d.heap.size+1<=w3.heap.size:=by have:=dJ.size;simpa using this
     have ao:Ac (λb=>AP Q w b/\b≠bb) w3 w3:=Ac.refl _ _;have B:Ac (λb=>AP Q w b/\b≠bb) w3 (w3.alloc (.cells #[AB 0,AB 0,AG,AG,AG,AG] 62)):=ao.trans (Ac.of_below (Aa _ _));have qH:=WL (R':=(AP Q w)) (v:=AE (some (AK bb 0)) kids.length cc) (n:=⟨⟨0,⟨0,[]⟩,[]⟩,[],[]⟩) (tX.imp λ_ _ _ h=>h.keep B) ⟨_,_,_,_,rfl,Tt _ _,Jk _ _,Y0 _ _,Tu _ _⟩ rfl Y (λb hb e=>hb.2 yBi) (λb hb=>hb.1);have e6:kids.length+1=(kids++[(⟨⟨0,⟨0,[]⟩,[]⟩,[],[]⟩:Stil.B9)]).length:=AU
     have aF:Fe (AP Q w) w6 (AE y6 (kids.length+1) z6) (kids++[⟨⟨0,⟨0,[]⟩,[]⟩,[],[]⟩]):=by
      have ho:=uN.out;rw[e6] at ho ⊢;exact Gi ho qH (λb hb=>Or.inr yCj)
     have af:Ac (λb=>AP Q w b/\b≠bb) (w3.alloc (.cells #[AB 0,AB 0,AG,AG,AG,AG] 62)) w6:=Ac.of_grown Y (λb hb e=>hb.2 yCg);have aH:=((((((aD.mono dN).keep ac).mono Z).keep B).keep af)).mono λb _ h=>h.1
     have tY:=((((((dP.mono dN).keep ac).mono Z).keep B).keep af)).mono λb _ h=>h.1
     have bz:=((((((aK.mono dN).keep ac).mono Z).keep B).keep af)).mono λb _ h=>h.1
     have kH:Ij w6 g (P+90):=Gl (Fh (Ci bP _) Y BH) AQ;have vH:=J8 (Ei bZ _) Y BH;refine bodyPost_ret (by simp[results,results51,go_sem,m,y,q,t,s,z];rfl) rfl ?_;refine⟨⟨⟨k,⟨op,l⟩,ns⟩,cs,kids++[⟨⟨0,⟨0,[]⟩,[]⟩,[],[]⟩]⟩,_,_,_,_,rfl,Bj.mono (aH.keep A9) (G7 _),Dt.mono (tY.keep A9) (G7 _),Dn.mono (bz.keep A9) (G7 _),Fe.mono (aF.keep A9) (G7 _),?_,?_,A3,A2⟩
     ·refine(Hr _ _ _).2 ⟨HT.parts.1,HT.parts.2.1,λx hx=>?_⟩
      rcases List.mem_append.1 hx with h | h
      ·exact HT.parts.2.2 x h
      ·rw[List.mem_singleton.1 h];exact(Hr _ _ _).2 ⟨Yl,λ_ h=>BE,λ_ h=>BE⟩
     ·have:=jM.out
      rw[Gm];simp only[CO,CU,GF,CH,CP,CQ,C6,DO,GH];have e9:Gt ⟨⟨0,⟨0,[]⟩,[]⟩,[],[]⟩=0:=by rw[Gm,Fa];simp[Gu]
      rw[e9];omega
    ·have bV:G9 ⟨k,⟨op,l⟩,ns⟩<=aO:=by have:=jM.out;omega
     have bE:Hid (Calls prog 81 #[AH g, .agg #[AB k,AB op,AE a1 l.length c1,AE a2 ns.length c2]] d λe w'=>MR (AP Q w) e d w' g (P+2+10*G9 ⟨k,⟨op,l⟩,ns⟩+60) (G9 ⟨k,⟨op,l⟩,ns⟩+20)):=
      sL ⟨k,⟨op,l⟩,ns⟩ _ g (P+2) d _ _ (λb hb=>by rcases hb with h | h;exact HQ b h.1;omega) aD dP HT.parts.1 AQ dQ AQ
     go_wp2_with (go_at_call 81;refine(bE.out).mono ?_;rintro e f ⟨aa,xh,bA,rfl,gW,kJ,rU,rQ,aj,A⟩;have uT:=AV gW;have kE:=AV kJ;obtain⟨y1,z1,rfl,-⟩:=gW;obtain⟨y2,z2,rfl,-⟩:=kJ;obtain⟨ab,F,G,q1,L,K,M,N,I,O,J,C,D⟩:Ek f w.heap.size (AB k) (AB op) (AE a1 l.length c1) (AE a2 ns.length c2) (AE a3 cs.length c3) (AE a4 kids.length c4):=qb6;obtain⟨ae,m,U,y,X,q,R,t,S,s,T,z,V⟩:EG f ((w.heap.size+1)):=EJ)
     have ap:∀b,b<f.heap.size->Fr (AP Q w) d.heap.size d.heap.size b->AP Q w b:=λb _ h=>by
      rcases h with h | h
      ·exact h.1
      ·exact Or.inr AQ
     have ao:Ac (AP Q w) d f:=Ha HQ AQ A;refine bodyPost_ret (by simp[results,results51,go_sem,m,y,q,t,s,z];rfl) rfl ?_;refine⟨⟨aa,cs,kids⟩,_,_,_,_,rfl,Bj.mono ((uT.mono ap).keep A9) (G7 _),Dt.mono ((kE.mono ap).keep A9) (G7 _),Dn.mono ((aK.keep ao).keep A9) (G7 _),Fe.mono ((nJ.keep ao).keep A9) (G7 _),(Hr _ _ _).2 ⟨rU,HT.parts.2⟩,?_,A3,A2⟩;have:=jM.out
     rw[Gm];omega
