import Derived.Test.YtifcnfeppdbjdaaGreatDoorG6
import Derived.Test.YtifcnfeppdbjdaaGreatDoorHa
set_option maxHeartbeats 4000000
set_option maxRecDepth 100000
namespace Go.Proofs.YtifcnfeppdbjdaaGreatDoor
open Tryz Stil Go.RowKit Go.Sort Go.BigFrame
variable {E:Prop}{a:Act}{base bb cap k:Nat}{cs xs:List Value}{o:Oper}{ops:Array Oper}{rest:List Oper}{v:Value}{w':World}
theorem om {w:World}{K:Act->World->Prop}{Q:Exit->Act->World->Prop}
  (hg:o.guard=none) (s x:Operand) (m:o.op=.call {callee:=.builtin .append,args:=#[s,x],argTypes:=#[60,60]})
  (R:Nat->Prop) (W:World) (ns:List Stil.Elem) (f:Value) (l:a.eval s=AE (some (AL W 0)) 0 0) (hx:a.eval x=f) (i:w=W.alloc (.cells #[] 51))
  (I:Dq R W f ns) (hl:ns.length<=100000)
  (hK:∀bb c w' xs,w'.ownsRow W.heap.size 51 2 (AE (some (AK bb 0)) ns.length c) ns.length xs->RowOf 2 (Nw (λb=>R b/\b<W.heap.size) w') xs ns->W.heap.size<=bb->bb<w'.heap.size->w.grownBy w' (some W.heap.size)->K (a.put o.dst (AE (some (AK bb 0)) ns.length c)) w'):
  if Region.wanted o (yielded ops a.tmps)=true then Oper.wp prog o a w K Q else E:=by
 obtain⟨D,hi,C,H,A⟩:=info_parts LQ;have t:Dq (λb=>R b/\b<W.heap.size) w f ns:=by
  rw[i];exact(I.mono λb hb h=>⟨h,hb⟩).keep (Ac.of_below (Aa _ _))
 have T:w.heap.size=W.heap.size+1:=by rw[i];simp
 have q:w.ownsRow W.heap.size 51 2 (AE (some (AL W 0)) 0 0) 0 []:=by
  rw[i];have:=World.ownsRow_lit (base:=W.heap.size) (e:=51) (size:=2) W #[] 0 AQ A6 rfl
  simpa using this
 obtain⟨ad,cap,L,n,xs,hrow,G⟩:=sL t;subst L;by_cases hd:ns.length=0
 ·have y:=List.length_eq_zero_iff.1 hd
  subst y;have r:Region.wanted o (yielded ops a.tmps)=true:=by simp[Region.wanted,hg]
  rw[if_pos r];have F:xs=[]:=by have:=hrow.1;simpa using this
  subst F;have d:=hK W.heap.size 0 w [] q (RowOf.nil _ _) (CG _) AQ (Nq _ _);simp only[CO] at d hx;unfold Oper.wp execOp;cases ad
  ·have e:Sem.run prog (Builtin.append_ #[60,60] o.type #[AE (some (AL W 0)) 0 0,AE none 0 cap]) w=.ok (AE (some (AL W 0)) 0 0) w:=by simp[Builtin.append_,go_sem]
   simp only[m,resolve,invoke,builtin,Sem.run_bind,Sem.run_pure,Result.andThen_ok,EL,CP,C3,l,hx,e];exact d
  ·rename_i B
   have e:Sem.run prog (Builtin.append_ #[60,60] o.type #[AE (some (AL W 0)) 0 0,AE (some B) 0 cap]) w=.ok (AE (some (AL W 0)) 0 0) w:=by simp[Builtin.append_,go_sem]
   simp only[m,resolve,invoke,builtin,Sem.run_bind,Sem.run_pure,Result.andThen_ok,EL,CP,C3,l,hx,e];exact d
 ·obtain⟨p,rfl⟩:∃p,ad=some p:=by
   cases ad with
   | none=>exact absurd (n.2 rfl) (by have:=n.1;omega)
   | some p=>exact⟨p,rfl⟩
  refine Eh hg s x _ m W.heap.size 51 D _ 2 32 underlying60 hi C H A rfl AY _ _ [] l q _ _ _ xs hx hrow.1 (G _ rfl) ?_ A6 AQ AQ ?_
  ·intro u hu
   obtain⟨j,g⟩:=List.getElem?_of_mem hu;have S:j<ns.length*2:=by rw[<-hrow.1];exact(List.getElem?_eq_some_iff.1 g).1
   obtain⟨P,M,J⟩:=hrow.2 (j / 2) AQ;have z:xs[j]?=((xs.drop (j / 2*2)).take 2)[j % 2]?:=by
    rw[GN,if_pos AQ,GO,Nat.mul_comm,Nat.div_add_mod]
   rw[z,M] at g;obtain⟨O,N,rfl,_⟩:=J;have :=G2 g;simp only[DF,Da,DK] at this;rcases this with rfl | rfl<;>rfl
  ·exact zz
theorem P6 {w:World}{Q:Exit->Act->World->Prop}
  (hg:o.guard=none) (s x:Operand) (q:o.op=.call {callee:=.builtin .append,args:=#[s,x],argTypes:=#[60,60]})
  (R:Nat->Prop) (W:World) (ns:List Stil.Elem) (d:Value) (n:a.eval s=AE (some (AL W 0)) 0 0) (hx:a.eval x=d) (l:w=W.alloc (.cells #[] 51))
  (g:Dq R W d ns) (hl:ns.length<=100000)
  (h:∀bb c w' xs,w'.ownsRow W.heap.size 51 2 (AE (some (AK bb 0)) ns.length c) ns.length xs->RowOf 2 (Nw (λb=>R b/\b<W.heap.size) w') xs ns->W.heap.size<=bb->bb<w'.heap.size->w.grownBy w' (some W.heap.size)->wpList prog ops Q rest (a.put o.dst (AE (some (AK bb 0)) ns.length c)) w'):
  wpList prog ops Q (o::rest) a w:=by
 refine wpList_plain hg λK r=>?_
 have i:Region.wanted o (yielded #[] a.tmps)=true:=by simp[Region.wanted,hg]
 have:=om (ops:=#[]) (K:=K) (Q:=Q) (E:=True) hg s x q R W ns d n hx l g hl (λbb c w' xs j p e f m=>r _ _ (h bb c w' xs j p e f m))
 rwa [if_pos i] at this
theorem pX {w:World}{K:Act->World->Prop}{Q:Exit->Act->World->Prop}
  (hg:o.guard=none) (s x:Operand) (m:o.op=.call {callee:=.builtin .append,args:=#[s,x],argTypes:=#[23,23]})
  (R:Nat->Prop) (W:World) (ns:List Stil.B8) (d:Value) (l:a.eval s=AE (some (AL W 0)) 0 0) (hx:a.eval x=d) (i:w=W.alloc (.cells #[] 62))
  (L:Em R W d ns) (hl:ns.length<=100000)
  (hK:∀bb c w' xs,w'.ownsRow W.heap.size 62 6 (AE (some (AK bb 0)) ns.length c) ns.length xs->RowOf 6 (N9 (λb=>R b/\b<W.heap.size) w') xs ns->W.heap.size<=bb->bb<w'.heap.size->w.grownBy w' (some W.heap.size)->K (a.put o.dst (AE (some (AK bb 0)) ns.length c)) w'):
  if Region.wanted o (yielded ops a.tmps)=true then Oper.wp prog o a w K Q else E:=by
 obtain⟨G,hi,D,J,z⟩:=info_parts Zd;have t:Em (λb=>R b/\b<W.heap.size) w d ns:=by
  rw[i];exact(L.mono λb hb h=>⟨h,hb⟩).keep (Ac.of_below (Aa _ _))
 have ab:w.heap.size=W.heap.size+1:=by rw[i];simp
 have q:w.ownsRow W.heap.size 62 6 (AE (some (AL W 0)) 0 0) 0 []:=by
  rw[i];have:=World.ownsRow_lit (base:=W.heap.size) (e:=62) (size:=6) W #[] 0 AQ A6 rfl
  simpa using this
 obtain⟨ad,cap,N,n,xs,hrow,I⟩:=UT t;subst N;by_cases hd:ns.length=0
 ·have u:=List.length_eq_zero_iff.1 hd
  subst u;have r:Region.wanted o (yielded ops a.tmps)=true:=by simp[Region.wanted,hg]
  rw[if_pos r];have H:xs=[]:=by have:=hrow.1;simpa using this
  subst H;have f:=hK W.heap.size 0 w [] q (RowOf.nil _ _) (CG _) AQ (Nq _ _);simp only[CO] at f hx;unfold Oper.wp execOp;cases ad
  ·have e:Sem.run prog (Builtin.append_ #[23,23] o.type #[AE (some (AL W 0)) 0 0,AE none 0 cap]) w=.ok (AE (some (AL W 0)) 0 0) w:=by simp[Builtin.append_,go_sem]
   simp only[m,resolve,invoke,builtin,Sem.run_bind,Sem.run_pure,Result.andThen_ok,EL,CP,C3,l,hx,e];exact f
  ·rename_i A
   have e:Sem.run prog (Builtin.append_ #[23,23] o.type #[AE (some (AL W 0)) 0 0,AE (some A) 0 cap]) w=.ok (AE (some (AL W 0)) 0 0) w:=by simp[Builtin.append_,go_sem]
   simp only[m,resolve,invoke,builtin,Sem.run_bind,Sem.run_pure,Result.andThen_ok,EL,CP,C3,l,hx,e];exact f
 ·obtain⟨p,rfl⟩:∃p,ad=some p:=by
   cases ad with
   | none=>exact absurd (n.2 rfl) (by have:=n.1;omega)
   | some p=>exact⟨p,rfl⟩
  refine Eh hg s x _ m W.heap.size 62 G _ 6 112 underlying23 hi D J z rfl AY _ _ [] l q _ _ _ xs hx hrow.1 (I _ rfl) ?_ A6 AQ AQ ?_
  ·intro ac hu
   obtain⟨j,g⟩:=List.getElem?_of_mem hu;have aa:j<ns.length*6:=by rw[<-hrow.1];exact(List.getElem?_eq_some_iff.1 g).1
   obtain⟨V,T,cv,d,O,M,F,C,B⟩:=hrow.2 (j / 6) AQ;have y:xs[j]?=((xs.drop (j / 6*6)).take 6)[j % 6]?:=by
    rw[GN,if_pos AQ,GO,Nat.mul_comm,Nat.div_add_mod]
   rw[y,O] at g;obtain⟨U,P,rfl,_⟩:=M;obtain⟨p2,Z,rfl,_⟩:=F;obtain⟨p3,X,rfl,_⟩:=C;obtain⟨S,Y,rfl,_⟩:=B;have :=G2 g;simp only[DF,Da,DK] at this;rcases this with rfl | rfl | rfl | rfl | rfl | rfl<;>rfl
  ·exact zz
theorem Rx {w:World}{Q:Exit->Act->World->Prop}
  (hg:o.guard=none) (s x:Operand) (q:o.op=.call {callee:=.builtin .append,args:=#[s,x],argTypes:=#[23,23]})
  (R:Nat->Prop) (W:World) (ns:List Stil.B8) (d:Value) (n:a.eval s=AE (some (AL W 0)) 0 0) (hx:a.eval x=d) (l:w=W.alloc (.cells #[] 62))
  (g:Em R W d ns) (hl:ns.length<=100000)
  (h:∀bb c w' xs,w'.ownsRow W.heap.size 62 6 (AE (some (AK bb 0)) ns.length c) ns.length xs->RowOf 6 (N9 (λb=>R b/\b<W.heap.size) w') xs ns->W.heap.size<=bb->bb<w'.heap.size->w.grownBy w' (some W.heap.size)->wpList prog ops Q rest (a.put o.dst (AE (some (AK bb 0)) ns.length c)) w'):
  wpList prog ops Q (o::rest) a w:=by
 refine wpList_plain hg λK r=>?_
 have i:Region.wanted o (yielded #[] a.tmps)=true:=by simp[Region.wanted,hg]
 have:=pX (ops:=#[]) (K:=K) (Q:=Q) (E:=True) hg s x q R W ns d n hx l g hl (λbb c w' xs j p e f m=>r _ _ (h bb c w' xs j p e f m))
 rwa [if_pos i] at this
theorem LV {R:Nat->Prop}{w:World}{ns:List Stil.B8}(h:w.ownsRow base 62 6 (AE (some (AK bb 0)) ns.length cap) ns.length xs)(hr:RowOf 6 (N9 R w) xs ns)(m:k<ns.length):
  ∃l f e i,w.cell? (AK bb (k*6))=some (AB ns[k].net.kind)/\w.cell? (AK bb (k*6+1))=some (AB ns[k].net.one.op)/\w.cell? (AK bb (k*6+2))=some l/\w.cell? (AK bb (k*6+3))=some f/\w.cell? (AK bb (k*6+4))=some e/\w.cell? (AK bb (k*6+5))=some i/\(∀j,w.frozen? (AK bb j)=false)/\Bi R w l ns[k].net.one.args/\Dp R w f ns[k].net.kids/\Dq R w e ns[k].coils/\Em R w i ns[k].kids:=by
 obtain⟨g,c,n,_,_,_,d⟩:=Cb h AQ;simp only[Value.slice.injEq,CZ,Addr.mk.injEq] at n;obtain⟨⟨rfl,_⟩,_⟩:=n;obtain⟨l,f,e,i,t,s,u,q,r⟩:=hr.2 k m;have b:=JS hr m t;exact⟨l,f,e,i,d _ _ (b 0 _ rfl),d _ _ (b 1 _ rfl),d _ _ (b 2 _ rfl),d _ _ (b 3 _ rfl),d _ _ (b 4 _ rfl),d _ _ (b 5 _ rfl),λj=>h.frozenAt j,s,u,q,r⟩
def set6 (w:World)(b o:Nat)(v0 d c e g f:Value):World:=(((((w.setCell ⟨b,o,none⟩ v0).setCell ⟨b,o+1,none⟩ d).setCell ⟨b,o+2,none⟩ c).setCell ⟨b,o+3,none⟩ e).setCell ⟨b,o+4,none⟩ g).setCell ⟨b,o+5,none⟩ f
theorem YM {R:Nat->Prop}{w:World}{b o:Nat}{v0 e d f h g:Value}(c:¬R b):Ac R w (set6 w b o v0 e d f h g):=(((((Ac.set c _).trans (Ac.set c _)).trans (Ac.set c _)).trans (Ac.set c _)).trans (Ac.set c _)).trans (Ac.set c _)
theorem Rm {R:Nat->Prop}{w:World}{n:Nat}{ns:List Stil.B8}{N:Stil.B8}{e c b d:Value}(h:w.ownsRow base 62 6 (AE (some (AK bb 0)) n cap) n xs)(hr:RowOf 6 (N9 R w) xs ns)(m:k<ns.length)(l:¬R bb)
  (r:Bi R w e N.net.one.args) (t:Dp R w c N.net.kids) (s:Dq R w b N.coils) (q:Em R w d N.kids):
  ∃i,(set6 w bb (k*6) (AB N.net.kind) (AB N.net.one.op) e c b d).ownsRow base 62 6 (AE (some (AK bb 0)) n cap) n i/\
   RowOf 6 (N9 R (set6 w bb (k*6) (AB N.net.kind) (AB N.net.one.op) e c b d)) i (ns.set k N):=by
 refine⟨_,((((((h.stored (k*6) _).1.stored (k*6+1) _).1.stored (k*6+2) _).1.stored (k*6+3) _).1.stored (k*6+4) _).1.stored (k*6+5) _).1,?_⟩;have f:Ac R w (set6 w bb (k*6) (AB N.net.kind) (AB N.net.one.op) e c b d):=YM l;have x:=hr.1;have u:k*6+5<xs.length:=AQ
 refine RowOf.set (hr.imp λ_ _ _ h=>h.keep f) m AU ⟨e,c,b,d,?_,r.keep f,t.keep f,s.keep f,q.keep f⟩ ?_
 ·apply K2
  intro j;rw[GN];by_cases g:j<6
  ·rw[if_pos g,GO]
   have:j=0\/j=1\/j=2\/j=3\/j=4\/j=5:=AQ
   rcases this with rfl | rfl | rfl | rfl | rfl | rfl
   ·rw[CY AQ,CY AQ,CY AQ,CY AQ,CY AQ,EO,Db AQ];rfl
   ·rw[CY AQ,CY AQ,CY AQ,CY AQ,Db Ax];rfl
   ·rw[CY AQ,CY AQ,CY AQ,Db Ax];rfl
   ·rw[CY AQ,CY AQ,Db Ax];rfl
   ·rw[CY AQ,Db Ax];rfl
   ·rw[Db Ax];rfl
  ·rw[if_neg g,J2 Ax]
 ·intro j g
  rw[CY AQ,CY AQ,CY AQ,CY AQ,CY AQ,CY AQ]
theorem UF {R R':Nat->Prop}{w:World}{ns:List Stil.Elem}{n:Stil.Elem}(h:RowOf 2 (Nw R w) xs ns)(c:Nw R w cs n)(hl:cs.length=2)(hg:w.grownBy w' v.ownBlock)(hr:∀b,R b->v.ownBlock≠some b)(d:∀b,R b->R' b):RowOf 2 (Nw R' w') (xs++cs) (ns++[n]):=
 ((h.append (RowOf.one hl c)).imp λ_ _ _ h=>(h.keep (Ac.of_grown hg hr)).mono λb _=>d b)
theorem VD {R R':Nat->Prop}{w:World}{ns:List Stil.B8}{n:Stil.B8}(h:RowOf 6 (N9 R w) xs ns)(c:N9 R w cs n)(hl:cs.length=6)(hg:w.grownBy w' v.ownBlock)(hr:∀b,R b->v.ownBlock≠some b)(d:∀b,R b->R' b):RowOf 6 (N9 R' w') (xs++cs) (ns++[n]):=
 ((h.append (RowOf.one hl c)).imp λ_ _ _ h=>(h.keep (Ac.of_grown hg hr)).mono λb _=>d b)
theorem Jj.parts {a:Stil.B8}(h:Jj a):Kw a.net/\(∀c∈a.coils,X0 c)/\∀x∈a.kids,Jj x:=by
 obtain⟨n,cs,b⟩:=a;exact(G5 _ _ _).1 h
def l8 (Q:Nat->Prop)(e:Ending)(w w':World)(g P N:Nat):Prop:=∃(a:Stil.B8) (f c b d:Value),e=.returned (.agg #[AB a.net.kind,AB a.net.one.op,f,c,b,d])/\Bi (Fr Q w.heap.size w.heap.size) w' f a.net.one.args/\Dp (Fr Q w.heap.size w.heap.size) w' c a.net.kids/\Dq (Fr Q w.heap.size w.heap.size) w' b a.coils/\Em (Fr Q w.heap.size w.heap.size) w' d a.kids/\Jj a/\Gs a<=N/\Ig w' g P/\w.grownBy w' (some g)
theorem mE {n:Stil.B9}{cs:List Stil.Elem}{kids:List Stil.B8}{x:Stil.B8}(hx:x∈kids):Gs x+1<=Gs ⟨n,cs,kids⟩:=by
 rw[Fv];have c:=D9 Gs kids x hx;have b:=List.length_pos_of_mem hx;omega
theorem sE (a:Stil.B8):∀(Q:Nat->Prop) (g P:Nat) (w:World) (av nv cv kv:Value),(∀b,Q b->g<b)->Bi Q w av a.net.one.args->Dp Q w nv a.net.kids->Dq Q w cv a.coils->Em Q w kv a.kids->Jj a->Gs a<=40000->Ig w g P->P+10*Gs a+100<=100000000->
  Calls prog 111 #[AH g, .agg #[AB a.net.kind,AB a.net.one.op,av,nv,cv,kv]] w λe w'=>l8 Q e w w' g (P+10*Gs a+100) (Gs a+40):=by
 induction a using Gl with
 | h n cs kids ih=>
  obtain⟨k,⟨op,l⟩,ns⟩:=n;intro Q g P w av nv cv kv hQ aD aB ay az lQ bD hr hP;simp only at aD aB ay az;have hg:=Va hr;have xR:Hid (∀x∈kids,Gs x+1<=Gs ⟨⟨k,⟨op,l⟩,ns⟩,cs,kids⟩):=λx hx=>mE hx
  have bE:cs.length+kids.length<=Gs ⟨⟨k,⟨op,l⟩,ns⟩,cs,kids⟩:=by rw[Fv,Gx];omega
  have jJ:Hid (Gs ⟨⟨k,⟨op,l⟩,ns⟩,cs,kids⟩=G9 ⟨k,⟨op,l⟩,ns⟩+(Gx cs+(kids.length+(kids.map Gs).sum))):=Fv _ _ _;obtain⟨aU,hZ⟩:=AA (Gs ⟨⟨k,⟨op,l⟩,ns⟩,cs,kids⟩)
  rw[<-hZ] at xR bE jJ bD hP ⊢;clear hZ;have IH:=AV ih;have HQ:=AV hQ;have HT:=AV lQ;have aE:∀b,b<w.heap.size->Q b->AP Q w b:=λb hb h=>Or.inl ⟨h,hb⟩
  have a9:=AV (aD.mono aE);have a6:=AV (aB.mono aE);have aV:=AV (ay.mono aE);have oI:=AV (az.mono aE);obtain⟨a1,c1,rfl,_⟩:=aD;obtain⟨a2,c2,rfl,_⟩:=aB;obtain⟨a3,c3,rfl,_⟩:=ay;obtain⟨a4,c4,rfl,_⟩:=az;clear ih hQ lQ aE;go_enter func111,ntmps111;go_upto_region 1 with fail
  go_cut [15] (λc wq=>∃b:Bool,c=.bool b/\(b=true->0<kids.length)/\Lr wq w.heap.size k op (AE a1 l.length c1) (AE a2 ns.length c2) (AE a3 cs.length c3) (AE a4 kids.length c4)/\Lr wq (w.heap.size+1) 0 0 AG AG AG AG/\Bi (AP Q w) wq (AE a1 l.length c1) l/\Dp (AP Q w) wq (AE a2 ns.length c2) ns/\Dq (AP Q w) wq (AE a3 cs.length c3) cs/\Em (AP Q w) wq (AE a4 kids.length c4) kids/\Ig wq g (P+1)/\w.grownBy wq (some g))
  case first=>
   by_cases bo:0<kids.length
   ·go_wp2_with ((go_at_call_of 37 (Value.int IntKind.i64 3);refine(Fp g _ _ _ Ab AQ AQ AQ).mono ?_;rintro e wa ⟨x,rfl,aN,aQ,ag,bB⟩;obtain⟨ab,K,H,q1,J,O,I,L,M,G,N,C,F⟩:EU wa w.heap.size (AB k) (AB op) (AE a1 l.length c1) (AE a2 ns.length c2) (AE a3 cs.length c3) (AE a4 kids.length c4):=qb6;obtain⟨ae,m,X,s,R,z,T,y,V,q,S,t,U⟩:EF wa ((w.heap.size+1)):=EG))
    go_meet;have B:Ac (AP Q w) w wa:=((Ac.of_below (Aa _ _)).trans (Ac.of_below (Aa _ _))).trans (Hl HQ AQ bB);exact⟨decide (0<x),rfl,λ_=>bo,BG,BG,a9.keep B,a6.keep B,aV.keep B,oI.keep B,A2,A0⟩
   ·have bY:decide (0<(kids.length:Int))=false:=by rw[FQ];omega
    go_wp2
    go_meet;exact⟨false,rfl,λh=>BE,BG,BG,a9.keep A9,a6.keep A9,aV.keep A9,oI.keep A9,A2,A0⟩
  case rest=>
   obtain⟨b,rfl,a5,ba,aO,bp,bn,bm,br,ag,aT⟩:=hcut;clear a9 a6 aV oI hr;have bg:=AV ba;have bf:=AV aO;have aR:=AV bp;have fK:=AV bn;have yg:=AV bm;have lJ:=AV br;clear bp bn bm br;cases b with
   | true=>
    have bo:=a5 rfl;clear a5;obtain⟨ab,K,q1,O,L,G,C,H,J,I,M,N,F⟩:=ba;have bO:=aO.1;clear aO;go_upto_region 3 with(at_builtin;refine Rx rfl _ _ rfl (AP Q w) wc kids (AE a4 kids.length c4) rfl rfl rfl lJ AQ ?_;intro bb cc w3 xs ai ah dX gU D;have ap:=AV ai;have al:=AV ah;have dJ:Hid ((wc.alloc (.cells #[] 62)).grownBy w3 (some wc.heap.size)):=D;clear ai ah D K q1 O L G C H J I M N F)
    have ac:Ac (λb=>AP Q w b/\b<wc.heap.size) wc w3:=(Ac.of_below (Aa _ _)).trans (Ac.of_grown dJ (λb hb e=>by simp only[CZ] at e;exact absurd hb.2 AQ));have dN:∀b,b<wc.heap.size->AP Q w b->AP Q w b/\b<wc.heap.size:=λb hb h=>⟨h,hb⟩
    have Z:∀b,b<w3.heap.size->(AP Q w b/\b<wc.heap.size)->AP Q w b/\b≠bb:=λb _ h=>⟨h.1,by have:=h.2;omega⟩
    have rJ:=AV ((bg.alloc _).grownO dJ BA);have rG:=AV ((bf.alloc _).grownO dJ BA);have bK:=Fj (Bl ag _) dJ BH;have cO:=J5 (Ea aT _) dJ BH;have bi:=AV (((aR.mono dN).keep ac).mono Z);have nT:=AV (((fK.mono dN).keep ac).mono Z);have yf:=AV (((yg.mono dN).keep ac).mono Z);have bq:Hid (RowOf 6 (N9 (λb=>AP Q w b/\b≠bb) w3) xs kids):=al.imp λ_ _ _ h=>h.mono Z
    clear bg bf aR fK yg lJ al ag aT ab ac dN Z;go_upto_region 4 with(go_at_call_of 37 (kids.length:Nat);refine(Fp g _ _ _ bK AQ AQ AQ).mono ?_;rintro e w4 ⟨x,rfl,aN,aQ,fF,aY⟩;obtain⟨j,rfl⟩:=FP aN;have hj:j<kids.length:=AQ;clear aN aQ)
    have aM:Ac (λb=>AP Q w b/\b≠bb) w3 w4:=Gi (Hl HQ AQ aY) (λb _ h=>h.1);have cZ:=AV (Bv ap aY AQ);have a8:Hid (RowOf 6 (N9 (λb=>AP Q w b/\b≠bb) w4) xs kids):=bq.imp λ_ _ _ h=>h.keep aM
    have rH:=AV (rJ.grownO aY BA);have rF:=AV (rG.grownO aY BA);have bz:=AV (bi.keep aM);have zG:=AV (nT.keep aM);have bs:=AV (yf.keep aM);have iJ:=D5 cO aY;have ax:=CB gU aY.size;clear ap bq rJ rG bi nT yf bK cO aM dJ aY gU;obtain⟨av,nv,cv,kv,r0,r1,r2,r3,r4,r5,au,aD,aB,ay,az⟩:=LV cZ a8 hj;obtain⟨s0,s1,s2,s3,s4,s5⟩:=(⟨au _,au _,au _,au _,au _,au _⟩:w4.frozen? (AK bb (j*6))=false/\w4.frozen? (AK bb (j*6+1))=false/\w4.frozen? (AK bb (j*6+2))=false/\w4.frozen? (AK bb (j*6+3))=false/\w4.frozen? (AK bb (j*6+4))=false/\w4.frozen? (AK bb (j*6+5))=false)
    clear au;have dQ:Hid (Gs kids[j]+1<=aU/\Jj kids[j]):=⟨xR _ (CN hj),HT.parts.2.2 _ (CN hj)⟩
    have HI:=
     AV (IH _ (CN hj) _ g (P+2) w4 av nv cv kv (λb hb=>by rcases hb.1 with h | h;exact HQ b h.1;omega) aD aB ay az dQ.2 yGd fF yGd)
    have xQ:=AV (λx hx=>QO Gs 40 kids j x hj hx);obtain⟨bc,hX⟩:=AA (kids[j])
    rw[<-hX] at HI xQ dQ r0 r1;obtain⟨u1,t1,rfl,-⟩:=aD;obtain⟨u2,t2,rfl,-⟩:=aB;obtain⟨u3,t3,rfl,-⟩:=ay;obtain⟨u4,t4,rfl,-⟩:=az;clear hX IH fF;go_upto_region 5 with(go_at_call 111;refine HI.mono ?_;rintro e f ⟨aa,vk,bH,bR,zo,rfl,gV,kF,pW,kH,rU,rQ,gG,A⟩;have uT:=AV gV;have jY:=AV kF;have x9:=AV pW;have bw:=AV kH;have l7:=AV rU;have ar:=Bv cZ A AQ;obtain⟨d0,d1,d2,d3,d4,d5,f0,f1,f2,f3,f4,f5⟩:=(⟨ar.frozenAt (j*6),ar.frozenAt (j*6+1),ar.frozenAt (j*6+2),ar.frozenAt (j*6+3),ar.frozenAt (j*6+4),ar.frozenAt (j*6+5),(Dn A ax AQ).trans r0,(Dn A ax AQ).trans r1,(Dn A ax AQ).trans r2,(Dn A ax AQ).trans r3,(Dn A ax AQ).trans r4,(Dn A ax AQ).trans r5⟩:f.frozen? (AK bb (j*6))=false/\f.frozen? (AK bb (j*6+1))=false/\f.frozen? (AK bb (j*6+2))=false/\f.frozen? (AK bb (j*6+3))=false/\f.frozen? (AK bb (j*6+4))=false/\f.frozen? (AK bb (j*6+5))=false/\f.cell? (AK bb (j*6))=_/\f.cell? (AK bb (j*6+1))=_/\f.cell? (AK bb (j*6+2))=_/\f.cell? (AK bb (j*6+3))=_/\f.cell? (AK bb (j*6+4))=_/\f.cell? (AK bb (j*6+5))=_);obtain⟨y1,z1,rfl,-⟩:=gV;obtain⟨y2,z2,rfl,-⟩:=kF;obtain⟨y3,z3,rfl,-⟩:=pW;obtain⟨y4,z4,rfl,-⟩:=kH;clear ar rU r0 r1 r2 r3 r4 r5 s0 s1 s2 s3 s4 s5)
    obtain⟨W,hW⟩:=AA ((((((f.setCell (AK bb (j*6)) (AB aa.net.kind)).setCell (AK bb (j*6+1)) (AB aa.net.one.op)).setCell (AK bb (j*6+2)) (AE y1 aa.net.one.args.length z1)).setCell (AK bb (j*6+3)) (AE y2 aa.net.kids.length z2)).setCell (AK bb (j*6+4)) (AE y3 aa.coils.length z3)).setCell (AK bb (j*6+5)) (AE y4 aa.kids.length z4))
    rw[<-hW];have bU:=A.size;have an:∀b,b<f.heap.size->Fr (λb=>AP Q w b/\b≠bb) w4.heap.size w4.heap.size b->AP Q w b/\b≠bb:=λb _ h=>by
     rcases h with h | h
     ·exact h.1
     ·exact⟨Or.inr AQ,AQ⟩
    have aZ:Ac (λb=>AP Q w b/\b≠bb) w4 f:=Gi (Hl HQ AQ A) (λb _ h=>h.1);have bk:=Rm (Bv cZ A AQ) (a8.imp λ_ _ _ h=>h.keep aZ) hj (λh=>h.2 rfl) (uT.mono an) (jY.mono an) (x9.mono an) (bw.mono an);have aX:W=set6 f bb (j*6) (AB aa.net.kind) (AB aa.net.one.op) (AE y1 aa.net.one.args.length z1) (AE y2 aa.net.kids.length z2) (AE y3 aa.coils.length z3) (AE y4 aa.kids.length z4):=hW;rw[<-aX] at bk;obtain⟨ys,bh,bv⟩:=bk;have bL:Lr W w.heap.size k op (AE a1 l.length c1) (AE a2 ns.length c2) (AE a3 cs.length c3) (AE a4 kids.length c4):=by
     rw[hW];exact((((((rH.grownO A BA).set AQ).set AQ).set AQ).set AQ).set AQ).set AQ
    have bI:Lr W (w.heap.size+1) 0 0 AG AG AG AG:=by
     rw[hW];exact((((((rF.grownO A BA).set AQ).set AQ).set AQ).set AQ).set AQ).set AQ
    have bM:Ig W g (P+2+10*Gs bc+100):=by
     rw[hW];exact J8 (J8 (J8 (J8 (J8 (J8 (gG) AQ _) AQ _) AQ _) AQ _) AQ _) AQ _
    have bZ:w.grownBy W (some g):=by
     rw[hW];have hb:w.heap.size<=bb:=AQ
     exact Lj hb (Lj hb (Lj hb (Lj hb (Lj hb (Lj hb (D5 iJ A) _) _) _) _) _) _
    have aS:Ac (λb=>AP Q w b/\b≠bb) w4 W:=by
     rw[aX];exact aZ.trans (YM (λh=>h.2 rfl))
    have qW:Hid (Em (AP Q w) W (AE (some (AK bb 0)) kids.length cc) (kids.set j aa)):=by
     have e:kids.length=(kids.set j aa).length:=AU
     rw[e] at bh ⊢
     exact Fq bh (bv.imp λ_ _ _ h=>h.mono λb _ hb=>hb.1) (λb hb=>by
      have:bb=b:=by simpa[Value.ownBlock] using hb
      exact Or.inr AQ)
    have bC:=AV ((bz.keep aS).mono λb _ h=>h.1);have lI:=AV ((zG.keep aS).mono λb _ h=>h.1);have bG:=AV ((bs.keep aS).mono λb _ h=>h.1);obtain⟨ab,K,q1,O,L,G,C,H,J,I,M,N,F⟩:=bL;obtain⟨ae,m,s,z,y,q,t,X,R,T,V,S,U⟩:=bI;clear hW aX bh bv aS aZ an cZ a8 rH rF bz zG bs uT jY x9 bw d0 d1 d2 d3 d4 d5 f0 f1 f2 f3 f4 f5 HI
    go_wp2
    refine bodyPost_ret (by simp[results,results111,go_sem,m,s,z,y,q,t];rfl) rfl ?_;refine⟨⟨⟨k,⟨op,l⟩,ns⟩,cs,kids.set j aa⟩,_,_,_,_,rfl,Bi.mono (bC.keep A9) (Hf _),Dp.mono (lI.keep A9) (Hf _),Dq.mono (bG.keep A9) (Hf _),Em.mono (qW.keep A9) (Hf _),?_,?_,?_,A0⟩
    ·refine(G5 _ _ _).2 ⟨HT.parts.1,HT.parts.2.1,λx hx=>?_⟩
     rcases MY hx with h | rfl
     ·exact HT.parts.2.2 x h
     ·exact l7.out
    ·have:=xQ aa rQ
     have:=jJ.out
     rw[Fv];simp only[JJ];omega
    ·have:=dQ.1
     exact A2
   | false=>
    clear a5 IH xR;obtain⟨ab,K,q1,O,L,G,C,H,J,I,M,N,F⟩:=ba;obtain⟨ae,m,s,z,y,q,t,X,R,T,V,S,U⟩:=aO;go_upto_region 9 with((go_at_call_of 37 (Value.int IntKind.i64 6);refine(Fp g _ _ _ Ab AQ AQ AQ).mono ?_;rintro e d ⟨x,rfl,aN,aQ,dP,aw⟩;obtain⟨ab,K,H,q1,J,O,I,L,M,G,N,C,F⟩:EU d w.heap.size (AB k) (AB op) (AE a1 l.length c1) (AE a2 ns.length c2) (AE a3 cs.length c3) (AE a4 kids.length c4):=qb6;obtain⟨ae,m,X,s,R,z,T,y,V,q,S,t,U⟩:EF d ((w.heap.size+1)):=EG))
    obtain⟨ie,bj,lX,lW,lV⟩:=info_parts LQ;obtain⟨ia,bA,iI,iH,iG⟩:=info_parts Zd;have aA:=AV (aR.keep (Hl HQ AQ aw));have dO:=AV (fK.keep (Hl HQ AQ aw));have aJ:=AV (yg.keep (Hl HQ AQ aw));have nH:=AV (lJ.keep (Hl HQ AQ aw));have oM:Hid (Lr d w.heap.size k op (AE a1 l.length c1) (AE a2 ns.length c2) (AE a3 cs.length c3) (AE a4 kids.length c4)):=⟨ab,K,q1,O,L,G,C,H,J,I,M,N,F⟩
    have oL:Hid (Lr d (w.heap.size+1) 0 0 AG AG AG AG):=⟨ae,m,s,z,y,q,t,X,R,T,V,S,U⟩
    have lZ:=D5 aT aw;clear aR fK yg lJ bg bf aT aw ag;have hx:x=0\/x=1\/x=2\/x=3\/x=4\/x=5:=AQ
    clear aN aQ;rcases hx with rfl | rfl | rfl | rfl | rfl | rfl
    ·go_wp2
     refine bodyPost_ret (by simp[results,results111,go_sem,m,s,z,y,q,t];rfl) rfl ?_;refine⟨⟨⟨0,⟨0,[]⟩,[]⟩,cs,kids⟩,_,_,_,_,rfl,Tc _ _,Jr _ _,Dq.mono (aJ.keep A9) (Hf _),Em.mono (nH.keep A9) (Hf _),(G5 _ _ _).2 ⟨X6,HT.parts.2⟩,?_,A2,A0⟩;have:=jJ.out
     have e9:G9 ⟨0,⟨0,[]⟩,[]⟩=0:=by rw[E5];simp
     rw[Fv,e9];omega
    ·go_wp2_with ((go_at_call_of 37 (Value.int IntKind.i64 2);refine(Fp g _ _ _ Ab AQ AQ AQ).mono ?_;rintro e w4 ⟨bW,rfl,bX,bP,ag,aY⟩;obtain⟨ab,K,H,q1,J,O,I,L,M,G,N,C,F⟩:EU w4 w.heap.size (AB k) (AB op) (AE a1 l.length c1) (AE a2 ns.length c2) AG (AE a4 kids.length c4):=qb6;obtain⟨ae,m,X,s,R,z,T,y,V,q,S,t,U⟩:EF w4 ((w.heap.size+1)):=EG))
     all_goals
      have B:Ac (AP Q w) d w4:=Ac.trans A9 (Hl HQ AQ aY);refine bodyPost_ret (by simp[results,results111,go_sem,m,s,z,y,q,t];rfl) rfl ?_
     ·refine⟨⟨⟨k,⟨op,l⟩,ns⟩,[],[]⟩,_,_,_,_,rfl,Bi.mono ((aA.keep B).keep A9) (Hf _),Dp.mono ((dO.keep B).keep A9) (Hf _),Yj _ _,Qr _ _,(G5 _ _ _).2 ⟨HT.parts.1,λ_ h=>BE,λ_ h=>BE⟩,?_,A2,A0⟩
      have:=jJ.out
      rw[Fv];simp only[Gx,CO,C3,FH];omega
     ·refine⟨⟨⟨k,⟨op,l⟩,ns⟩,[],kids⟩,_,_,_,_,rfl,Bi.mono ((aA.keep B).keep A9) (Hf _),Dp.mono ((dO.keep B).keep A9) (Hf _),Yj _ _,Em.mono ((nH.keep B).keep A9) (Hf _),(G5 _ _ _).2 ⟨HT.parts.1,λ_ h=>BE,HT.parts.2.2⟩,?_,A2,A0⟩
      have:=jJ.out
      rw[Fv];simp only[Gx,CO,C3,FH];omega
    ·go_wp2_with (first | (go_at_call 68;refine(Jb g _ _ (by exact bK) AQ).mono ?_;rintro e f ⟨aK,ev,aH,rfl,bQ,dG,fJ,nR,ag,A⟩;obtain⟨ea,ec,rfl,_,_⟩:=id dG;obtain⟨ab,K,H,q1,J,O,I,L,M,G,N,C,F⟩:EU f w.heap.size (AB k) (AB op) (AE a1 l.length c1) (AE a2 ns.length c2) (AE a3 cs.length c3) (AE a4 kids.length c4):=qb6;obtain⟨ae,m,X,s,R,z,T,y,V,q,S,t,U⟩:EF f ((w.heap.size+1)):=EG) | (at_builtin;refine P6 rfl _ _ rfl (AP Q w) d cs (AE a3 cs.length c3) rfl rfl rfl aJ AQ ?_;intro bb cc w3 xs ai ah dX gU D;have ap:=AV ai;have al:=AV ah;have dJ:Hid ((d.alloc (.cells #[] 51)).grownBy w3 (some d.heap.size)):=D;have jH:=(oM.alloc _).grownO D BA;have jF:=(oL.alloc _).grownO D BA;have bK:Ig w3 g (P+2):=Fj (Bl dP _) D BH;have cO:=J5 (Ea lZ _) D BH;clear ai ah D K q1 O L G C m s z y q t H J I M N F X R T V S U;obtain⟨ab,K,q1,O,L,G,C,H,J,I,M,N,F⟩:=jH;obtain⟨ae,m,s,z,y,q,t,X,R,T,V,S,U⟩:=jF) | (at_builtin;refine wpList_append_own_at _ rfl _ _ 60 rfl d.heap.size 51 ie (.agg #[AB 0,AG]) 2 32 underlying60 bj lX lW lV rfl AY _ _ _ rfl ((Bv ap A AQ).alloc _) _ _ _ [AB aK,AE ea aH.length ec] rfl rfl BP yCd A6 AQ (by rw[World.size_alloc];have:=A.size;omega) ?_;intro v' w6 aj aC bT aW;have uM:=AV aj;have Y:Hid ((f.alloc (.cells #[AB aK,AE ea aH.length ec] 51)).grownBy w6 (some bb)):=aC;obtain⟨y6,z6,aF,-⟩:=Hg aj;subst aF;have jG:=(Lr.alloc (show Lr f w.heap.size k op (AE a1 l.length c1) (AE a2 ns.length c2) (AE a3 cs.length c3) (AE a4 kids.length c4) from BG) _).grownO Y BA;have gX:=(Lr.alloc (show Lr f (w.heap.size+1) 0 0 AG AG AG AG from BG) _).grownO Y BA;clear aj aC bT aW K q1 O L G C m s z y q t H J I M N F X R T V S U;obtain⟨ab,K,q1,O,L,G,C,H,J,I,M,N,F⟩:=jG;obtain⟨ae,m,s,z,y,q,t,X,R,T,V,S,U⟩:=gX))
     have ac:Ac (λb=>AP Q w b/\b<d.heap.size) d w3:=(Ac.of_below (Aa _ _)).trans (Ac.of_grown dJ (λb hb e=>by simp only[CZ] at e;exact absurd hb.2 AQ));have dN:∀b,b<d.heap.size->AP Q w b->AP Q w b/\b<d.heap.size:=λb hb h=>⟨h,hb⟩
     have Z:∀b,b<w3.heap.size->(AP Q w b/\b<d.heap.size)->AP Q w b/\b≠bb:=λb _ h=>⟨h.1,by have:=h.2;omega⟩
     have tV:RowOf 2 (Nw (λb=>AP Q w b/\b≠bb) w3) xs cs:=al.imp λ_ _ _ h=>h.mono Z
     have bu:d.heap.size+1<=w3.heap.size:=by have:=dJ.size;simpa using this
     have ao:Ac (λb=>AP Q w b/\b≠bb) w3 f:=Gi (Hl HQ AQ A) (λb _ h=>h.1);have B:Ac (λb=>AP Q w b/\b≠bb) w3 (f.alloc (.cells #[AB aK,AE ea aH.length ec] 51)):=ao.trans (Ac.of_below (Aa _ _));have qF:=UF (R':=(AP Q w)) (v:=AE (some (AK bb 0)) cs.length cc) (n:=⟨aK,aH⟩) (tV.imp λ_ _ _ h=>h.keep B) ⟨_,rfl,((Ew dG).mono (λb _ hb=>⟨Or.inr AQ,AQ⟩)).keep (Ac.of_below (Aa _ _))⟩ rfl Y (λb hb e=>hb.2 yBj) (λb hb=>hb.1);have e6:cs.length+1=(cs++[(⟨aK,aH⟩:Stil.Elem)]).length:=AU
     have aG:Dq (AP Q w) w6 (AE y6 (cs.length+1) z6) (cs++[⟨aK,aH⟩]):=by
      have ho:=uM.out;rw[e6] at ho ⊢;exact Ju ho qF (λb hb=>Or.inr yCi)
     have af:Ac (λb=>AP Q w b/\b≠bb) (f.alloc (.cells #[AB aK,AE ea aH.length ec] 51)) w6:=Ac.of_grown Y (λb hb e=>hb.2 yCe);have aL:=((((((aA.mono dN).keep ac).mono Z).keep B).keep af)).mono λb _ h=>h.1
     have tX:=((((((dO.mono dN).keep ac).mono Z).keep B).keep af)).mono λb _ h=>h.1
     have a7:=((((((nH.mono dN).keep ac).mono Z).keep B).keep af)).mono λb _ h=>h.1
     have kE:Ig w6 g (P+90):=F6 (Fj (Bl ag _) Y BH) AQ;have uZ:=J5 (Ea (D5 cO A) _) Y BH;refine bodyPost_ret (by simp[results,results111,go_sem,m,s,z,y,q,t];rfl) rfl ?_;refine⟨⟨⟨k,⟨op,l⟩,ns⟩,cs++[⟨aK,aH⟩],kids⟩,_,_,_,_,rfl,Bi.mono (aL.keep A9) (Hf _),Dp.mono (tX.keep A9) (Hf _),Dq.mono (aG.keep A9) (Hf _),Em.mono (a7.keep A9) (Hf _),?_,?_,A2,A0⟩
     ·refine(G5 _ _ _).2 ⟨HT.parts.1,λx hx=>?_,HT.parts.2.2⟩
      rcases List.mem_append.1 hx with h | h
      ·exact HT.parts.2.1 x h
      ·rw[List.mem_singleton.1 h];exact⟨bQ,fJ,by show aH.length<=100000;omega⟩
     ·have:=jJ.out
      rw[Fv];simp only[Gx,CM,CU,GV,CH,CO,CP,C3,DW,FH,Pv] at this ⊢;omega
    ·go_wp2_with (first | (go_at_call 40;refine(Pg g _ _ (by exact bK) AQ).mono ?_;rintro e f ⟨aK,ev,aH,rfl,bQ,dG,fJ,nR,ag,A⟩;obtain⟨ea,ec,rfl,_,_⟩:=id dG;obtain⟨ab,K,H,q1,J,O,I,L,M,G,N,C,F⟩:EU f w.heap.size (AB k) (AB op) (AE a1 l.length c1) (AE a2 ns.length c2) (AE a3 cs.length c3) (AE a4 kids.length c4):=qb6;obtain⟨ae,m,X,s,R,z,T,y,V,q,S,t,U⟩:EF f ((w.heap.size+1)):=EG) | (go_at_call 134;refine(XW g _ aK _ aH _ Ab AQ bQ (dG.mono AQ) fJ AQ).mono ?_;rintro e w7 ⟨eH,fv,ak,rfl,xE,zA,ve,bS,ag,aP⟩;obtain⟨fa,fc,rfl,_,_⟩:=id zA;obtain⟨ab,K,H,q1,J,O,I,L,M,G,N,C,F⟩:EU w7 w.heap.size (AB k) (AB op) (AE a1 l.length c1) (AE a2 ns.length c2) (AE a3 cs.length c3) (AE a4 kids.length c4):=qb6;obtain⟨ae,m,X,s,R,z,T,y,V,q,S,t,U⟩:EF w7 ((w.heap.size+1)):=EG) | (at_builtin;refine P6 rfl _ _ rfl (AP Q w) d cs (AE a3 cs.length c3) rfl rfl rfl aJ AQ ?_;intro bb cc w3 xs ai ah dX gU D;have ap:=AV ai;have al:=AV ah;have dJ:Hid ((d.alloc (.cells #[] 51)).grownBy w3 (some d.heap.size)):=D;have jH:=(oM.alloc _).grownO D BA;have jF:=(oL.alloc _).grownO D BA;have bK:Ig w3 g (P+2):=Fj (Bl dP _) D BH;have cO:=J5 (Ea lZ _) D BH;clear ai ah D K q1 O L G C m s z y q t H J I M N F X R T V S U;obtain⟨ab,K,q1,O,L,G,C,H,J,I,M,N,F⟩:=jH;obtain⟨ae,m,s,z,y,q,t,X,R,T,V,S,U⟩:=jF) | (at_builtin;refine wpList_append_own_at _ rfl _ _ 60 rfl d.heap.size 51 ie (.agg #[AB 0,AG]) 2 32 underlying60 bj lX lW lV rfl AY _ _ _ rfl ((Bv (Bv ap A AQ) aP AQ).alloc _) _ _ _ [AB eH,AE fa ak.length fc] rfl rfl BP yCd A6 AQ (by rw[World.size_alloc];have:=A.size;have:=aP.size;omega) ?_;intro v' w6 aj aC bT aW;have uM:=AV aj;have Y:Hid ((w7.alloc (.cells #[AB eH,AE fa ak.length fc] 51)).grownBy w6 (some bb)):=aC;obtain⟨y6,z6,aF,-⟩:=Hg aj;subst aF;have jG:=(Lr.alloc (show Lr w7 w.heap.size k op (AE a1 l.length c1) (AE a2 ns.length c2) (AE a3 cs.length c3) (AE a4 kids.length c4) from BG) _).grownO Y BA;have gX:=(Lr.alloc (show Lr w7 (w.heap.size+1) 0 0 AG AG AG AG from BG) _).grownO Y BA;clear aj aC bT aW K q1 O L G C m s z y q t H J I M N F X R T V S U;obtain⟨ab,K,q1,O,L,G,C,H,J,I,M,N,F⟩:=jG;obtain⟨ae,m,s,z,y,q,t,X,R,T,V,S,U⟩:=gX))
     have ac:Ac (λb=>AP Q w b/\b<d.heap.size) d w3:=(Ac.of_below (Aa _ _)).trans (Ac.of_grown dJ (λb hb e=>by simp only[CZ] at e;exact absurd hb.2 AQ));have dN:∀b,b<d.heap.size->AP Q w b->AP Q w b/\b<d.heap.size:=λb hb h=>⟨h,hb⟩
     have Z:∀b,b<w3.heap.size->(AP Q w b/\b<d.heap.size)->AP Q w b/\b≠bb:=λb _ h=>⟨h.1,by have:=h.2;omega⟩
     have tV:RowOf 2 (Nw (λb=>AP Q w b/\b≠bb) w3) xs cs:=al.imp λ_ _ _ h=>h.mono Z
     have bu:d.heap.size+1<=w3.heap.size:=by have:=dJ.size;simpa using this
     have ao:Ac (λb=>AP Q w b/\b≠bb) w3 w7:=(Gi (Hl HQ AQ A) (λb _ h=>h.1)).trans (Gi (Hl HQ AQ aP) (λb _ h=>h.1));have B:Ac (λb=>AP Q w b/\b≠bb) w3 (w7.alloc (.cells #[AB eH,AE fa ak.length fc] 51)):=ao.trans (Ac.of_below (Aa _ _));have qF:=UF (R':=(AP Q w)) (v:=AE (some (AK bb 0)) cs.length cc) (n:=⟨eH,ak⟩) (tV.imp λ_ _ _ h=>h.keep B) ⟨_,rfl,((Ew zA).mono (λb _ hb=>by have:=A.size;exact⟨Or.inr AQ,AQ⟩)).keep (Ac.of_below (Aa _ _))⟩ rfl Y (λb hb e=>hb.2 yBj) (λb hb=>hb.1);have e6:cs.length+1=(cs++[(⟨eH,ak⟩:Stil.Elem)]).length:=AU
     have aG:Dq (AP Q w) w6 (AE y6 (cs.length+1) z6) (cs++[⟨eH,ak⟩]):=by
      have ho:=uM.out;rw[e6] at ho ⊢;exact Ju ho qF (λb hb=>Or.inr yCi)
     have af:Ac (λb=>AP Q w b/\b≠bb) (w7.alloc (.cells #[AB eH,AE fa ak.length fc] 51)) w6:=Ac.of_grown Y (λb hb e=>hb.2 yCe);have aL:=((((((aA.mono dN).keep ac).mono Z).keep B).keep af)).mono λb _ h=>h.1
     have tX:=((((((dO.mono dN).keep ac).mono Z).keep B).keep af)).mono λb _ h=>h.1
     have a7:=((((((nH.mono dN).keep ac).mono Z).keep B).keep af)).mono λb _ h=>h.1
     have kE:Ig w6 g (P+90):=F6 (Fj (Bl ag _) Y BH) AQ;have uZ:=J5 (Ea (D5 (D5 cO A) aP) _) Y BH;refine bodyPost_ret (by simp[results,results111,go_sem,m,s,z,y,q,t];rfl) rfl ?_;refine⟨⟨⟨k,⟨op,l⟩,ns⟩,cs++[⟨eH,ak⟩],kids⟩,_,_,_,_,rfl,Bi.mono (aL.keep A9) (Hf _),Dp.mono (tX.keep A9) (Hf _),Dq.mono (aG.keep A9) (Hf _),Em.mono (a7.keep A9) (Hf _),?_,?_,A2,A0⟩
     ·refine(G5 _ _ _).2 ⟨HT.parts.1,λx hx=>?_,HT.parts.2.2⟩
      rcases List.mem_append.1 hx with h | h
      ·exact HT.parts.2.1 x h
      ·rw[List.mem_singleton.1 h];exact⟨xE,ve,by show ak.length<=100000;omega⟩
     ·have:=jJ.out
      rw[Fv];simp only[Gx,CM,CU,GV,CH,CO,CP,C3,DW,FH,Pv] at this ⊢;omega
    ·go_wp2_with (first | (at_builtin;refine Rx rfl _ _ rfl (AP Q w) d kids (AE a4 kids.length c4) rfl rfl rfl nH AQ ?_;intro bb cc w3 xs ai ah dX gU D;have ap:=AV ai;have al:=AV ah;have dJ:Hid ((d.alloc (.cells #[] 62)).grownBy w3 (some d.heap.size)):=D;have jH:=(oM.alloc _).grownO D BA;have jF:=(oL.alloc _).grownO D BA;have bK:Ig w3 g (P+2):=Fj (Bl dP _) D BH;have cO:=J5 (Ea lZ _) D BH;clear ai ah D K q1 O L G C m s z y q t H J I M N F X R T V S U;obtain⟨ab,K,q1,O,L,G,C,H,J,I,M,N,F⟩:=jH;obtain⟨ae,m,s,z,y,q,t,X,R,T,V,S,U⟩:=jF) | (at_builtin;refine wpList_append_own_at _ rfl _ _ 23 rfl d.heap.size 62 ia (.agg #[AB 0,AB 0,AG,AG,AG,AG]) 6 112 underlying23 bA iI iH iG rfl AY _ _ _ rfl (ap.alloc _) _ _ _ [AB 0,AB 0,AG,AG,AG,AG] rfl rfl BP yAh A6 AQ Bm ?_;intro v' w6 aj aC bT aW;have uM:=AV aj;have Y:Hid ((w3.alloc (.cells #[AB 0,AB 0,AG,AG,AG,AG] 62)).grownBy w6 (some bb)):=aC;obtain⟨y6,z6,aF,-⟩:=Hg aj;subst aF;have jG:=(Lr.alloc (show Lr w3 w.heap.size k op (AE a1 l.length c1) (AE a2 ns.length c2) (AE a3 cs.length c3) (AE a4 kids.length c4) from BG) _).grownO Y BA;have gX:=(Lr.alloc (show Lr w3 (w.heap.size+1) 0 0 AG AG AG AG from BG) _).grownO Y BA;clear aj aC bT aW K q1 O L G C m s z y q t H J I M N F X R T V S U;obtain⟨ab,K,q1,O,L,G,C,H,J,I,M,N,F⟩:=jG;obtain⟨ae,m,s,z,y,q,t,X,R,T,V,S,U⟩:=gX))
     have ac:Ac (λb=>AP Q w b/\b<d.heap.size) d w3:=(Ac.of_below (Aa _ _)).trans (Ac.of_grown dJ (λb hb e=>by simp only[CZ] at e;exact absurd hb.2 AQ));have dN:∀b,b<d.heap.size->AP Q w b->AP Q w b/\b<d.heap.size:=λb hb h=>⟨h,hb⟩
     have Z:∀b,b<w3.heap.size->(AP Q w b/\b<d.heap.size)->AP Q w b/\b≠bb:=λb _ h=>⟨h.1,by have:=h.2;omega⟩
     have tV:RowOf 6 (N9 (λb=>AP Q w b/\b≠bb) w3) xs kids:=al.imp λ_ _ _ h=>h.mono Z
     have bu:d.heap.size+1<=w3.heap.size:=by have:=dJ.size;simpa using this
     have ao:Ac (λb=>AP Q w b/\b≠bb) w3 w3:=Ac.refl _ _;have B:Ac (λb=>AP Q w b/\b≠bb) w3 (w3.alloc (.cells #[AB 0,AB 0,AG,AG,AG,AG] 62)):=ao.trans (Ac.of_below (Aa _ _));have qF:=VD (R':=(AP Q w)) (v:=AE (some (AK bb 0)) kids.length cc) (n:=⟨⟨0,⟨0,[]⟩,[]⟩,[],[]⟩) (tV.imp λ_ _ _ h=>h.keep B) ⟨_,_,_,_,rfl,Tc _ _,Jr _ _,Yj _ _,Qr _ _⟩ rfl Y (λb hb e=>hb.2 yBj) (λb hb=>hb.1);have e6:kids.length+1=(kids++[(⟨⟨0,⟨0,[]⟩,[]⟩,[],[]⟩:Stil.B8)]).length:=AU
     have aG:Em (AP Q w) w6 (AE y6 (kids.length+1) z6) (kids++[⟨⟨0,⟨0,[]⟩,[]⟩,[],[]⟩]):=by
      have ho:=uM.out;rw[e6] at ho ⊢;exact Fq ho qF (λb hb=>Or.inr yCi)
     have af:Ac (λb=>AP Q w b/\b≠bb) (w3.alloc (.cells #[AB 0,AB 0,AG,AG,AG,AG] 62)) w6:=Ac.of_grown Y (λb hb e=>hb.2 yCe);have aL:=((((((aA.mono dN).keep ac).mono Z).keep B).keep af)).mono λb _ h=>h.1
     have tX:=((((((dO.mono dN).keep ac).mono Z).keep B).keep af)).mono λb _ h=>h.1
     have bF:=((((((aJ.mono dN).keep ac).mono Z).keep B).keep af)).mono λb _ h=>h.1
     have kE:Ig w6 g (P+90):=F6 (Fj (Bl bK _) Y BH) AQ;have uZ:=J5 (Ea cO _) Y BH;refine bodyPost_ret (by simp[results,results111,go_sem,m,s,z,y,q,t];rfl) rfl ?_;refine⟨⟨⟨k,⟨op,l⟩,ns⟩,cs,kids++[⟨⟨0,⟨0,[]⟩,[]⟩,[],[]⟩]⟩,_,_,_,_,rfl,Bi.mono (aL.keep A9) (Hf _),Dp.mono (tX.keep A9) (Hf _),Dq.mono (bF.keep A9) (Hf _),Em.mono (aG.keep A9) (Hf _),?_,?_,A2,A0⟩
     ·refine(G5 _ _ _).2 ⟨HT.parts.1,HT.parts.2.1,λx hx=>?_⟩
      rcases List.mem_append.1 hx with h | h
      ·exact HT.parts.2.2 x h
      ·rw[List.mem_singleton.1 h];exact(G5 _ _ _).2 ⟨X6,λ_ h=>BE,λ_ h=>BE⟩
     ·have:=jJ.out
      rw[Fv];simp only[CM,CU,GV,CH,CO,CP,C3,DW,FH];have e9:Gs ⟨⟨0,⟨0,[]⟩,[]⟩,[],[]⟩=0:=by rw[Fv,E5];simp[Gx]
      rw[e9];omega
    ·have bN:G9 ⟨k,⟨op,l⟩,ns⟩<=aU:=by have:=jJ.out;omega
     have zB:Hid (Calls prog 135 #[AH g, .agg #[AB k,AB op,AE a1 l.length c1,AE a2 ns.length c2]] d λe w'=>MH (AP Q w) e d w' g (P+2+10*G9 ⟨k,⟨op,l⟩,ns⟩+60) (G9 ⟨k,⟨op,l⟩,ns⟩+20)):=
      sC ⟨k,⟨op,l⟩,ns⟩ _ g (P+2) d _ _ (λb hb=>by rcases hb with h | h;exact HQ b h.1;omega) aA dO HT.parts.1 AQ dP AQ
     go_wp2_with (go_at_call 135;refine(zB.out).mono ?_;rintro e f ⟨aa,vk,bH,rfl,gV,kF,rU,rQ,ag,A⟩;have uT:=AV gV;have jY:=AV kF;obtain⟨y1,z1,rfl,-⟩:=gV;obtain⟨y2,z2,rfl,-⟩:=kF;obtain⟨ab,K,H,q1,J,O,I,L,M,G,N,C,F⟩:EU f w.heap.size (AB k) (AB op) (AE a1 l.length c1) (AE a2 ns.length c2) (AE a3 cs.length c3) (AE a4 kids.length c4):=qb6;obtain⟨ae,m,X,s,R,z,T,y,V,q,S,t,U⟩:EF f ((w.heap.size+1)):=EG)
     have an:∀b,b<f.heap.size->Fr (AP Q w) d.heap.size d.heap.size b->AP Q w b:=λb _ h=>by
      rcases h with h | h
      ·exact h.1
      ·exact Or.inr AQ
     have ao:Ac (AP Q w) d f:=Hl HQ AQ A;refine bodyPost_ret (by simp[results,results111,go_sem,m,s,z,y,q,t];rfl) rfl ?_;refine⟨⟨aa,cs,kids⟩,_,_,_,_,rfl,Bi.mono ((uT.mono an).keep A9) (Hf _),Dp.mono ((jY.mono an).keep A9) (Hf _),Dq.mono ((aJ.keep ao).keep A9) (Hf _),Em.mono ((nH.keep ao).keep A9) (Hf _),(G5 _ _ _).2 ⟨rU,HT.parts.2⟩,?_,A2,A0⟩;have:=jJ.out
     rw[Fv];omega
