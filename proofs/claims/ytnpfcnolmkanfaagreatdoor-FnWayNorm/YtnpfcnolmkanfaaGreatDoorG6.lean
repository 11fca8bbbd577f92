import Derived.Test.YtnpfcnolmkanfaaGreatDoorG5
set_option maxHeartbeats 4000000
set_option maxRecDepth 100000
namespace Go.Proofs.YtnpfcnolmkanfaaGreatDoor
open Tryz
open Stil
open Go.RowKit Go.Sort Go.BigFrame
variable {a:Act}{av kv v:Value}{base bb cap m n:Nat}{k op:Int}{o:Oper}{ops:Array Oper}{w':World}{xs:List Value}
def Fr (Q:Nat->Prop)(n m:Nat)(b:Nat):Prop:=(Q b/\b<n)\/m<=b
theorem Fr.box {Q:Nat->Prop}{k:Nat}(h1:n<=k)(b:k<m):¬Fr Q n m k:=by
 rintro(h | h)
 ·exact absurd h.2 omz
 ·omega
theorem kfA {P:Nat->Prop}{w W:World}(h:Ac P w W:=by(repeat (first | with_reducible exact Ac.refl _ _ | with_reducible assumption | with_reducible refine Ac.trans ?_ (Ac.set (Fr.box (by omega) (by omega)) _) | with_reducible refine Ac.trans ?_ (Ac.of_below (Aa _ _))))):Ac P w W:=h
def FrO (Q:Nat->Prop)(n m:Nat)(v:Value)(b:Nat):Prop:=Fr Q n m b/\v.ownBlock≠some b
theorem FrO.keep {Q:Nat->Prop}{w:World}(h:w.grownBy w' v.ownBlock):Ac (FrO Q n m v) w w':=Ac.of_grown h λ_ b=>b.2
theorem zz {p:Prop}(h:p:=by
 intro v' w' h1 h2 h3
 simp only[A6b,A6t] at h1;obtain⟨bb,c,rfl,hb1,hb2,_,_⟩:=Bo h1 omz;have h4:w.grownBy w' (some W.heap.size):=h2;exact hK bb c w' xs h1 (hrow.imp λ_ _ _ h=>h.keep (Ac.of_grown h4 (λb hb e=>by simp only[A65] at e;exact absurd hb.2 omz))) hb1 hb2 h4):p:=h
theorem Afs {w:World}{K:Act->World->Prop}{Q:Exit->Act->World->Prop}{E:Prop}
  (hg:o.guard=none) (s x:Operand) (g:o.op=.call {callee:=.builtin .append,args:=#[s,x],argTypes:=#[41,41]})
  (R:Nat->Prop) (W:World) (ns:List Stil.Net) (kv:Value) (d:a.eval s=.slice (some ⟨W.heap.size,0,none⟩) 0 0) (hx:a.eval x=kv) (f:w=W.alloc (.cells #[] 43))
  (z:Dv R W kv ns) (hl:ns.length<=100000)
  (hK:∀bb c w' xs,w'.ownsRow W.heap.size 43 4 (.slice (some ⟨bb,0,none⟩) ns.length c) ns.length xs->RowOf 4 (Zv (λb=>R b/\b<W.heap.size) w') xs ns->W.heap.size<=bb->bb<w'.heap.size->w.grownBy w' (some W.heap.size)->K (a.put o.dst (.slice (some ⟨bb,0,none⟩) ns.length c)) w'):
  if Region.wanted o (yielded ops a.tmps)=true then Oper.wp prog o a w K Q else E:=by
 obtain⟨F,hi,J,B,N⟩:=info_parts Aie;have D:Dv (λb=>R b/\b<W.heap.size) w kv ns:=by
  rw[f];exact(z.mono λb hb h=>⟨h,hb⟩).keep (Ac.of_below (Aa _ _))
 have P:w.heap.size=W.heap.size+1:=by rw[f];simp
 have r:w.ownsRow W.heap.size 43 4 (.slice (some ⟨W.heap.size,0,none⟩) 0 0) 0 []:=by
  rw[f];have:=World.ownsRow_lit (base:=W.heap.size) (e:=43) (size:=4) W #[] 0 omz yAe rfl
  simpa using this
 obtain⟨ad,cap,A,q,xs,hrow,M⟩:=Ana D;subst A;by_cases hd:ns.length=0
 ·have H:=List.length_eq_zero_iff.1 hd
  subst H;have G:Region.wanted o (yielded ops a.tmps)=true:=by simp[Region.wanted,hg]
  rw[if_pos G];have C:xs=[]:=by have:=hrow.1;simpa using this
  subst C;have l:=hK W.heap.size 0 w [] r (RowOf.nil _ _) (A57 _) omz (Ny _ _);simp only[A54] at l hx;unfold Oper.wp execOp;cases ad
  ·have e:Sem.run prog (Builtin.append_ #[41,41] o.type #[.slice (some ⟨W.heap.size,0,none⟩) 0 0, .slice none 0 cap]) w=.ok (.slice (some ⟨W.heap.size,0,none⟩) 0 0) w:=by simp[Builtin.append_,go_sem]
   simp only[g,resolve,invoke,builtin,Sem.run_bind,Sem.run_pure,Result.andThen_ok,A7c,A6k,A66,d,hx,e];exact l
  ·rename_i I
   have e:Sem.run prog (Builtin.append_ #[41,41] o.type #[.slice (some ⟨W.heap.size,0,none⟩) 0 0, .slice (some I) 0 cap]) w=.ok (.slice (some ⟨W.heap.size,0,none⟩) 0 0) w:=by simp[Builtin.append_,go_sem]
   simp only[g,resolve,invoke,builtin,Sem.run_bind,Sem.run_pure,Result.andThen_ok,A7c,A6k,A66,d,hx,e];exact l
 ·obtain⟨p,rfl⟩:∃p,ad=some p:=by
   cases ad with
   | none=>exact absurd (q.2 rfl) (by have:=q.1;omega)
   | some p=>exact⟨p,rfl⟩
  refine Eb hg s x _ g W.heap.size 43 F _ 4 64 underlying41 hi J B N rfl dcz _ _ [] d r _ _ _ xs hx hrow.1 (M _ rfl) ?_ yAe omz omz ?_
  ·intro u hu
   obtain⟨j,i⟩:=List.getElem?_of_mem hu;have S:j<ns.length*4:=by rw[<-hrow.1];exact(List.getElem?_eq_some_iff.1 i).1
   obtain⟨av,V,t,y,L⟩:=hrow.2 (j / 4) omz;have O:xs[j]?=((xs.drop (j / 4*4)).take 4)[j % 4]?:=by
    rw[A71,if_pos omz,A72,Nat.mul_comm,Nat.div_add_mod]
   rw[O,t] at i;obtain⟨Y,X,rfl,_⟩:=y;obtain⟨U,T,rfl,_⟩:=L;have :=A7w i;simp only[A6n,A68,A7u] at this;rcases this with rfl | rfl | rfl | rfl<;>rfl
  ·exact zz
theorem Qm {rest:List Oper}{w:World}{Q:Exit->Act->World->Prop}
  (hg:o.guard=none) (s x:Operand) (d:o.op=.call {callee:=.builtin .append,args:=#[s,x],argTypes:=#[41,41]})
  (R:Nat->Prop) (W:World) (ns:List Stil.Net) (kv:Value) (j:a.eval s=.slice (some ⟨W.heap.size,0,none⟩) 0 0) (hx:a.eval x=kv) (p:w=W.alloc (.cells #[] 43))
  (i:Dv R W kv ns) (hl:ns.length<=100000)
  (h:∀bb c w' xs,w'.ownsRow W.heap.size 43 4 (.slice (some ⟨bb,0,none⟩) ns.length c) ns.length xs->RowOf 4 (Zv (λb=>R b/\b<W.heap.size) w') xs ns->W.heap.size<=bb->bb<w'.heap.size->w.grownBy w' (some W.heap.size)->wpList prog ops Q rest (a.put o.dst (.slice (some ⟨bb,0,none⟩) ns.length c)) w'):
  wpList prog ops Q (o::rest) a w:=by
 refine wpList_plain hg λK g=>?_
 have r:Region.wanted o (yielded #[] a.tmps)=true:=by simp[Region.wanted,hg]
 have:=Afs (ops:=#[]) (K:=K) (Q:=Q) (E:=True) hg s x d R W ns kv j hx p i hl (λbb c w' xs e t q l f=>g _ _ (h bb c w' xs e t q l f))
 rwa [if_pos r] at this
def Ayv (Q:Nat->Prop)(e:Ending)(w w':World)(g P N:Nat):Prop:=∃(n:Stil.Net) (av kv:Value),e=.returned (.agg #[.int .i64 n.kind, .int .i64 n.one.op,av,kv])/\Ce (Fr Q w.heap.size w.heap.size) w' av n.one.args/\Dv (Fr Q w.heap.size w.heap.size) w' kv n.kids/\L8 n/\H6 n<=N/\H5 w' g P/\w.grownBy w' (some g)
theorem L8.parts {n:Stil.Net}(h:L8 n):(-1000000<=n.kind/\n.kind<=1000000)/\Wl n.one/\∀x∈n.kids,L8 x:=by
 obtain⟨k,e,kids⟩:=n;exact(Pv _ _ _).1 h
theorem Gq {Q:Nat->Prop}{g:Nat}{w:World}(d:∀b,Q b->g<b)(hg:g<m)(h:w.grownBy w' (some g)):Ac (Fr Q n m) w w':=Ac.of_grown h (λb c e=>by
 simp only[A65] at e;rcases c with c | c
 ·have:=d b c.1;omega
 ·omega)
theorem Amx {α:Type}(f:α->Nat)(c:Nat):∀(l:List α) (j:Nat) (x:α) (h:j<l.length),f x<=f l[j]+c->((l.set j x).map f).sum<=(l.map f).sum+c
 | [],j,x,h,_=>absurd h spz
 | y::r,0,x,_,b=>by
  simp only[A7a] at b;simp only[List.set_cons_zero,A6k,A7b];omega
 | y::r,j+1,x,h,b=>by
  have:=Amx f c r j x yBi (by simpa using b)
  simp only[List.set_cons_succ,A6k,A7b];omega
theorem Awm {R:Nat->Prop}{w:World}{k:Nat}{ns:List Stil.Net}(h:w.ownsRow base 43 4 (.slice (some ⟨bb,0,none⟩) ns.length cap) ns.length xs)(hr:RowOf 4 (Zv R w) xs ns)(e:k<ns.length):
  ∃av kv,w.cell? ⟨bb,k*4,none⟩=some (.int .i64 ns[k].kind)/\w.cell? ⟨bb,k*4+1,none⟩=some (.int .i64 ns[k].one.op)/\w.cell? ⟨bb,k*4+2,none⟩=some av/\w.cell? ⟨bb,k*4+3,none⟩=some kv/\w.frozen? ⟨bb,k*4,none⟩=false/\w.frozen? ⟨bb,k*4+1,none⟩=false/\w.frozen? ⟨bb,k*4+2,none⟩=false/\w.frozen? ⟨bb,k*4+3,none⟩=false/\Ce R w av ns[k].one.args/\Dv R w kv ns[k].kids:=by
 obtain⟨g,c,f,_,_,_,d⟩:=Bo h omz;simp only[Value.slice.injEq,A65,Addr.mk.injEq] at f;obtain⟨⟨rfl,_⟩,_⟩:=f;obtain⟨av,kv,i,j,l⟩:=hr.2 k e;have b:=Ago hr e i;exact⟨av,kv,d _ _ (b 0 _ rfl),d _ _ (b 1 _ rfl),d _ _ (b 2 _ rfl),d _ _ (b 3 _ rfl),h.frozenAt _,h.frozenAt _,h.frozenAt _,h.frozenAt _,j,l⟩
theorem Akq {R:Nat->Prop}{w:World}{k:Nat}{ns:List Stil.Net}{N:Stil.Net}(h:w.ownsRow base 43 4 (.slice (some ⟨bb,0,none⟩) n cap) n xs)(hr:RowOf 4 (Zv R w) xs ns)(i:k<ns.length)(b:¬R bb)
  (g:Ce R w av N.one.args) (f:Dv R w kv N.kids):
  ∃e,((((w.setCell ⟨bb,k*4,none⟩ (.int .i64 N.kind)).setCell ⟨bb,k*4+1,none⟩ (.int .i64 N.one.op)).setCell ⟨bb,k*4+2,none⟩ av).setCell ⟨bb,k*4+3,none⟩ kv).ownsRow base 43 4 (.slice (some ⟨bb,0,none⟩) n cap) n e/\
   RowOf 4 (Zv R ((((w.setCell ⟨bb,k*4,none⟩ (.int .i64 N.kind)).setCell ⟨bb,k*4+1,none⟩ (.int .i64 N.one.op)).setCell ⟨bb,k*4+2,none⟩ av).setCell ⟨bb,k*4+3,none⟩ kv)) e (ns.set k N):=by
 refine⟨_,((((h.stored (k*4) _).1.stored (k*4+1) _).1.stored (k*4+2) _).1.stored (k*4+3) _).1,?_⟩;have c:Ac R w ((((w.setCell ⟨bb,k*4,none⟩ (.int .i64 N.kind)).setCell ⟨bb,k*4+1,none⟩ (.int .i64 N.one.op)).setCell ⟨bb,k*4+2,none⟩ av).setCell ⟨bb,k*4+3,none⟩ kv):=
  (((Ac.set b _).trans (Ac.set b _)).trans (Ac.set b _)).trans (Ac.set b _)
 have l:=hr.1;have q:k*4+3<xs.length:=omz
 refine RowOf.set (hr.imp λ_ _ _ h=>h.keep c) i spz ⟨av,kv,?_,g.keep c,f.keep c⟩ ?_
 ·apply A8t
  intro j;rw[A71];by_cases d:j<4
  ·rw[if_pos d,A72]
   have:j=0\/j=1\/j=2\/j=3:=omz
   rcases this with rfl | rfl | rfl | rfl
   ·rw[A6c omz,A6c omz,A6c omz,A75,A6r omz];rfl
   ·rw[A6c omz,A6c omz,A6r yAd];rfl
   ·rw[A6c omz,A6r yAd];rfl
   ·rw[A6r yAd];rfl
  ·rw[if_neg d,A79 yAd]
 ·intro j d
  rw[A6c omz,A6c omz,A6c omz,A6c omz]
theorem Aea {R R':Nat->Prop}{w:World}{cs:List Value}{ns:List Stil.Net}{n:Stil.Net}(h:RowOf 4 (Zv R w) xs ns)(c:Zv R w cs n)(hl:cs.length=4)(hg:w.grownBy w' v.ownBlock)(hr:∀b,R b->v.ownBlock≠some b)(d:∀b,R b->R' b):RowOf 4 (Zv R' w') (xs++cs) (ns++[n]):=
 ((h.append (RowOf.one hl c)).imp λ_ _ _ h=>(h.keep (Ac.of_grown hg hr)).mono λb _=>d b)
theorem Ao7 {n:Stil.Net}{b:List Stil.Dev}(h:L8 n)(c:-1000000<=op/\op<=1000000)(e:∀d∈b,Small d)(hl:b.length<=100000):L8 ⟨n.kind,⟨op,b⟩,n.kids⟩:=(Pv _ _ _).2 ⟨h.parts.1,⟨c,e,hl⟩,h.parts.2.2⟩
theorem Au8 {n:Stil.Net}(h:L8 n)(b:-1000000<=k/\k<=1000000):L8 ⟨k,n.one,n.kids⟩:=(Pv _ _ _).2 ⟨b,h.parts.2.1,h.parts.2.2⟩
theorem Au7 {n:Stil.Net}{ks:List Stil.Net}(h:L8 n)(b:∀x∈ks,L8 x):L8 ⟨n.kind,n.one,ks⟩:=(Pv _ _ _).2 ⟨h.parts.1,h.parts.2.1,b⟩
theorem Yk.alloc {w:World}{b:Nat}(h:Yk w b k op av kv)(o:Obj):Yk (w.alloc o) b k op av kv:=h.grownO (grown_below (Aa w o) none) spz
theorem Yk.set {w:World}{b c o:Nat}(h:Yk w b k op av kv)(e:b≠c):Yk (w.setCell ⟨c,o,none⟩ v) b k op av kv:=by
 obtain⟨f,d⟩:=h;refine⟨by simpa using f,?_⟩;simp only[Fv e,Ll];exact d
theorem A4l {b:List Stil.Dev}{kids:List Stil.Net}{x:Stil.Net}(hx:x∈kids):H6 x+1<=H6 ⟨k,⟨op,b⟩,kids⟩:=by
 rw[Ee];have c:=Ed H6 kids x hx;have d:=List.length_pos_of_mem hx;omega
theorem Gp {Q:Nat->Prop}(W:World):∀b,b<W.heap.size->Fr Q n (n+2) b->Fr Q n n b:=λb _ h=>h.imp id (λh=>by omega)
theorem Aj0 (n:Stil.Net):∀(Q:Nat->Prop) (g P:Nat) (w:World) (av kv:Value),(∀b,Q b->g<b)->Ce Q w av n.one.args->Dv Q w kv n.kids->L8 n->H6 n<=40000->H5 w g P->P+10*H6 n+60<=100000000->
  Calls prog 78 #[.pointer (some ⟨g,0,none⟩), .agg #[.int .i64 n.kind, .int .i64 n.one.op,av,kv]] w λe w'=>Ayv Q e w w' g (P+10*H6 n+60) (H6 n+20):=by
 induction n using Gf with
 | h k e kids ih=>
  obtain⟨op,l⟩:=e;intro Q g P w av kv hQ ak ao kE bg hr hP;simp only at ak ao;have hg:=Ug hr;have vH:Hid (∀x∈kids,H6 x+1<=H6 ⟨k,⟨op,l⟩,kids⟩):=λx hx=>A4l hx
  have bi:l.length+kids.length<=H6 ⟨k,⟨op,l⟩,kids⟩:=by rw[Ee];simp only;omega
  have iQ:Hid (H6 ⟨k,⟨op,l⟩,kids⟩=l.length+(kids.length+(kids.map H6).sum)):=Ee _ _ _;obtain⟨aK,hZ⟩:∃aK,aK=H6 ⟨k,⟨op,l⟩,kids⟩:=⟨_,rfl⟩
  rw[<-hZ] at vH bi iQ bg hP ⊢;clear hZ;have IH:=hid ih;have HQ:=hid hQ;have S:=hid kE;have aT:Hid (Ce (Fr Q w.heap.size (w.heap.size+2)) w av l):=ak.mono λb hb h=>Or.inl ⟨h,hb⟩
  have vS:Hid (Dv (Fr Q w.heap.size (w.heap.size+2)) w kv kids):=ao.mono λb hb h=>Or.inl ⟨h,hb⟩
  obtain⟨Z,Y,rfl,_⟩:=ak;obtain⟨V,U,rfl,_⟩:=ao;clear ih hQ kE;go_enter func78,ntmps78;go_upto_region 1 with fail
  go_cut [15] (λc wq=>∃b:Bool,c=.bool b/\(b=true->0<kids.length)/\Yk wq w.heap.size k op (.slice Z l.length Y) (.slice V kids.length U)/\Yk wq (w.heap.size+1) 0 0 (.slice none 0 0) (.slice none 0 0)/\Ce (Fr Q w.heap.size (w.heap.size+2)) wq (.slice Z l.length Y) l/\Dv (Fr Q w.heap.size (w.heap.size+2)) wq (.slice V kids.length U) kids/\H5 wq g (P+1)/\w.grownBy wq (some g))
  case first=>
   by_cases aW:0<kids.length
   ·go_wp2_with ((go_at_call_of 23 (Value.int IntKind.i64 3);refine(Ew g _ _ _ raA omz omz omz).mono ?_;rintro e D ⟨x,rfl,au,az,ac,C⟩;have X:w.heap.size<D.heap.size:=A51 ltA C.size;have aa:(w.heap.size+1)<D.heap.size:=A51 ltA C.size;obtain⟨I,E,q1,J,F,G,H,K,t,T,A,R,z,O,y,M⟩:D.cell? ⟨w.heap.size,0,none⟩=some (.int .i64 k)/\D.frozen? ⟨w.heap.size,0,none⟩=false/\D.cell? ⟨w.heap.size,1,none⟩=some (.int .i64 op)/\D.frozen? ⟨w.heap.size,1,none⟩=false/\D.cell? ⟨w.heap.size,2,none⟩=some (.slice Z l.length Y)/\D.frozen? ⟨w.heap.size,2,none⟩=false/\D.cell? ⟨w.heap.size,3,none⟩=some (.slice V kids.length U)/\D.frozen? ⟨w.heap.size,3,none⟩=false/\D.cell? ⟨(w.heap.size+1),0,none⟩=some (.int .i64 0)/\D.frozen? ⟨(w.heap.size+1),0,none⟩=false/\D.cell? ⟨(w.heap.size+1),1,none⟩=some (.int .i64 0)/\D.frozen? ⟨(w.heap.size+1),1,none⟩=false/\D.cell? ⟨(w.heap.size+1),2,none⟩=some (.slice none 0 0)/\D.frozen? ⟨(w.heap.size+1),2,none⟩=false/\D.cell? ⟨(w.heap.size+1),3,none⟩=some (.slice none 0 0)/\D.frozen? ⟨(w.heap.size+1),3,none⟩=false:=⟨gcA C,gfA C,gcA C,gfA C,gcA C,gfA C,gcA C,gfA C,gcA C,gfA C,gcA C,gfA C,gcA C,gfA C,gcA C,gfA C⟩))
    go_meet;have ab:Ac (Fr Q w.heap.size (w.heap.size+2)) w D:=((Ac.of_below (Aa _ _)).trans (Ac.of_below (Aa _ _))).trans (Gq HQ omz C);exact⟨decide (0<x),rfl,λ_=>aW,nbA,nbA,aT.keep ab,vS.keep ab,rlA,glA⟩
   ·have bw:decide (0<(kids.length:Int))=false:=by rw[A7o];omega
    go_wp2
    go_meet;exact⟨false,rfl,λh=>yAi,nbA,nbA,aT.keep kfA,vS.keep kfA,rlA,glA⟩
  case rest=>
   obtain⟨b,rfl,aL,aS,ay,ax,aD,ac,aA⟩:=hcut;clear aT vS hr;cases b with
   | true=>
    have aW:=aL rfl;clear aL;have bf:=hid aS;have a3:=hid ay;have ap:=hid ax;have kC:=hid aD;obtain⟨X,I,q1,F,H,E,J,G,K⟩:=aS;have bz:=ay.1;clear ay ax aD;go_upto_region 3 with(at_builtin;refine Qm rfl _ _ rfl (Fr Q w.heap.size (w.heap.size+2)) wc kids (.slice V kids.length U) rfl rfl rfl kC omz ?_;intro bb cc w3 xs ae ag dS fJ N;have al:=hid ae;have an:=hid ag;have dJ:Hid ((wc.alloc (.cells #[] 43)).grownBy w3 (some wc.heap.size)):=N;clear ae ag N I q1 F H E J G K)
    have oW:=hid ((bf.alloc _).grownO dJ yAb);have oU:=hid ((a3.alloc _).grownO dJ yAb);have bK:=Et (Cb ac _) dJ yAc;have bU:=Jk (D5 aA _) dJ yAc;have a6:=hid (((ap.mono (P:=λb=>Fr Q w.heap.size (w.heap.size+2) b/\b<wc.heap.size) λb hb h=>⟨h,hb⟩).keep ((Ac.of_below (Aa _ _)).trans (Ac.of_grown dJ (λb hb e=>by simp only[A65] at e;exact absurd hb.2 omz)))).mono λb _ h=>h.1);have eu:Hid (Ce (λb=>Fr Q w.heap.size (w.heap.size+2) b/\b≠bb) w3 (.slice Z l.length Y) l):=((ap.mono (P:=λb=>Fr Q w.heap.size (w.heap.size+2) b/\b<wc.heap.size) λb hb h=>⟨h,hb⟩).keep ((Ac.of_below (Aa _ _)).trans (Ac.of_grown dJ (λb hb e=>by simp only[A65] at e;exact absurd hb.2 omz)))).mono λb _ h=>⟨h.1,by have:=h.2;omega⟩
    have a7:Hid (RowOf 4 (Zv (λb=>Fr Q w.heap.size (w.heap.size+2) b/\b≠bb) w3) xs kids):=an.imp λ_ _ _ h=>h.mono λb _ hb=>⟨hb.1,by have:=hb.2;omega⟩
    clear bf a3 ap kC an ac aA X;go_upto_region 4 with(go_at_call_of 23 (kids.length:Nat);refine(Ew g _ _ _ bK omz omz omz).mono ?_;rintro e s ⟨x,rfl,au,az,fG,q⟩;obtain⟨j,rfl⟩:=A7i au;have hj:j<kids.length:=omz;clear au az)
    have aQ:Ac (λb=>Fr Q w.heap.size (w.heap.size+2) b/\b≠bb) w3 s:=Ez (Gq HQ omz q) (λb _ h=>h.1);have dI:=hid (Bl al q omz);have aR:Hid (RowOf 4 (Zv (λb=>Fr Q w.heap.size (w.heap.size+2) b/\b≠bb) s) xs kids):=a7.imp λ_ _ _ h=>h.keep aQ
    have oV:=hid (oW.grownO q yAb);have oQ:=hid (oU.grownO q yAb);have bm:=hid (a6.keep (Gq HQ omz q));have gK:=Dx bU q;have aB:=A51 fJ q.size;have bq:=hid (eu.keep aQ);clear al a7 oW oU a6 bK bU aQ dJ q fJ eu;obtain⟨av,kv,r0,r1,r2,r3,s0,s1,s2,s3,ak,ao⟩:=Awm dI aR hj;have eY:Hid (H6 kids[j]+1<=aK/\L8 kids[j]):=⟨vH _ (A59 hj),S.parts.2.2 _ (A59 hj)⟩
    have HI:=
     hid (IH _ (A59 hj) _ g (P+2) s av kv (λb hb=>by rcases hb.1 with h | h;exact HQ b h.1;omega) ak ao eY.2 yFe fG yFe)
    have ah:=hid (λx hx=>Amx H6 20 kids j x hj hx);obtain⟨aM,hX⟩:∃aM,aM=kids[j]:=⟨_,rfl⟩
    rw[<-hX] at HI ah eY r0 r1;obtain⟨u1,t1,rfl,_⟩:=ak;obtain⟨u2,t2,rfl,_⟩:=ao;clear hX IH fG;go_upto_region 5 with(go_at_call 78;refine HI.mono ?_;rintro e f ⟨af,yh,bs,rfl,fK,jI,pG,pX,iI,d⟩;have rP:=hid fK;have aX:=hid jI;have zX:=hid pG;have ar:=Bl dI d omz;obtain⟨d0,d1,d2,d3,f0,f1,f2,f3⟩:=(⟨ar.frozenAt (j*4),ar.frozenAt (j*4+1),ar.frozenAt (j*4+2),ar.frozenAt (j*4+3),(Df d aB omz).trans r0,(Df d aB omz).trans r1,(Df d aB omz).trans r2,(Df d aB omz).trans r3⟩:f.frozen? ⟨bb,j*4,none⟩=false/\f.frozen? ⟨bb,j*4+1,none⟩=false/\f.frozen? ⟨bb,j*4+2,none⟩=false/\f.frozen? ⟨bb,j*4+3,none⟩=false/\f.cell? ⟨bb,j*4,none⟩=_/\f.cell? ⟨bb,j*4+1,none⟩=_/\f.cell? ⟨bb,j*4+2,none⟩=_/\f.cell? ⟨bb,j*4+3,none⟩=_);obtain⟨y1,z1,rfl,_⟩:=fK;obtain⟨y2,z2,rfl,_⟩:=jI;clear ar pG r0 r1 r2 r3 s0 s1 s2 s3)
    obtain⟨W,hW⟩:∃W,W=((((f.setCell ⟨bb,j*4,none⟩ (.int .i64 af.kind)).setCell ⟨bb,j*4+1,none⟩ (.int .i64 af.one.op)).setCell ⟨bb,j*4+2,none⟩ (.slice y1 af.one.args.length z1)).setCell ⟨bb,j*4+3,none⟩ (.slice y2 af.kids.length z2)):=⟨_,rfl⟩
    rw[<-hW];have bu:=d.size;have aF:∀b,b<f.heap.size->Fr (λb=>Fr Q w.heap.size (w.heap.size+2) b/\b≠bb) s.heap.size s.heap.size b->Fr Q w.heap.size (w.heap.size+2) b/\b≠bb:=λb _ h=>by
     rcases h with h | h
     ·exact h.1
     ·exact⟨Or.inr omz,omz⟩
    have aO:Ac (λb=>Fr Q w.heap.size (w.heap.size+2) b/\b≠bb) s f:=Ez (Gq HQ omz d) (λb _ h=>h.1);have ba:=Akq (Bl dI d omz) (aR.imp λ_ _ _ h=>h.keep aO) hj (λh=>h.2 rfl) (rP.mono aF) (aX.mono aF);rw[<-hW] at ba;obtain⟨ys,aH,aZ⟩:=ba;have bk:Yk W w.heap.size k op (.slice Z l.length Y) (.slice V kids.length U):=by
     rw[hW];exact((((oV.grownO d yAb).set omz).set omz).set omz).set omz
    have bh:Yk W (w.heap.size+1) 0 0 (.slice none 0 0) (.slice none 0 0):=by
     rw[hW];exact((((oQ.grownO d yAb).set omz).set omz).set omz).set omz
    have qy:H5 W g (P+2+10*H6 aM+60):=by
     rw[hW];exact Jp (Jp (Jp (Jp iI omz _) omz _) omz _) omz _
    have bv:w.grownBy W (some g):=by
     rw[hW];have hb:w.heap.size<=bb:=omz
     exact Lt hb (Lt hb (Lt hb (Lt hb (Dx gK d) _) _) _) _
    have a8:Ce (Fr Q w.heap.size (w.heap.size+2)) W (.slice Z l.length Y) l:=by
     have h4:=bq.out;rw[hW];have hn:¬(λb=>Fr Q w.heap.size (w.heap.size+2) b/\b≠bb) bb:=λh=>h.2 rfl
     exact((h4.keep aO).keep ((((Ac.set hn _).trans (Ac.set hn _)).trans (Ac.set hn _)).trans (Ac.set hn _))).mono λb _ h=>h.1
    have a5:Dv (Fr Q w.heap.size (w.heap.size+2)) W (.slice (some ⟨bb,0,none⟩) kids.length cc) (kids.set j af):=by
     have e:kids.length=(kids.set j af).length:=spz
     rw[e] at aH ⊢
     exact Og aH (aZ.imp λ_ _ _ h=>h.mono λb _ hb=>hb.1) (λb hb=>by
      have:bb=b:=by simpa[Value.ownBlock] using hb
      exact Or.inr omz)
    have jZ:=hid a5;have bj:=hid a8;obtain⟨X,I,q1,F,H,E,J,G,K⟩:=bk;obtain⟨aa,t,A,z,y,T,R,O,M⟩:=bh;clear hW aH aZ a5 a8 aO aF dI aR oV oQ bm rP aX d0 d1 d2 d3 f0 f1 f2 f3 HI
    go_wp2
    refine bodyPost_ret (by simp[results,results78,go_sem,t,A,z,y];rfl) rfl ?_;refine⟨⟨k,⟨op,l⟩,kids.set j af⟩,_,_,rfl,Ce.mono (bj.keep kfA) (Gp _),Dv.mono (jZ.keep kfA) (Gp _),?_,?_,?_,glA⟩
    ·refine(Pv _ _ _).2 ⟨S.parts.1,S.parts.2.1,λx hx=>?_⟩
     rcases A8g hx with h | rfl
     ·exact S.parts.2.2 x h
     ·exact zX.out
    ·have:=ah af pX
     have:=iQ.out
     rw[Ee];simp only[A8i];omega
    ·have:=eY.1
     exact rlA
   | false=>
    clear aL IH vH;obtain⟨i0,hi,aY,bc,a9⟩:=info_parts Aie;have ap:=hid ax;have kC:=hid aD;obtain⟨X,I,q1,F,H,E,J,G,K⟩:=aS;obtain⟨aa,t,A,z,y,T,R,O,M⟩:=ay;clear ax aD;go_upto_region 9 with((go_at_call_of 23 (Value.int IntKind.i64 6);refine(Ew g _ _ _ raA omz omz omz).mono ?_;rintro e i ⟨x,rfl,au,az,dL,B⟩;have X:w.heap.size<i.heap.size:=A51 ltA B.size;have aa:=A51 ltA B.size;obtain⟨I,E,q1,J,F,G,H,K,t,T,A,R,z,O,y,M⟩:i.cell? ⟨w.heap.size,0,none⟩=some (.int .i64 k)/\i.frozen? ⟨w.heap.size,0,none⟩=false/\i.cell? ⟨w.heap.size,1,none⟩=some (.int .i64 op)/\i.frozen? ⟨w.heap.size,1,none⟩=false/\i.cell? ⟨w.heap.size,2,none⟩=some (.slice Z l.length Y)/\i.frozen? ⟨w.heap.size,2,none⟩=false/\i.cell? ⟨w.heap.size,3,none⟩=some (.slice V kids.length U)/\i.frozen? ⟨w.heap.size,3,none⟩=false/\i.cell? ⟨(w.heap.size+1),0,none⟩=some (.int .i64 0)/\i.frozen? ⟨(w.heap.size+1),0,none⟩=false/\i.cell? ⟨(w.heap.size+1),1,none⟩=some (.int .i64 0)/\i.frozen? ⟨(w.heap.size+1),1,none⟩=false/\i.cell? ⟨(w.heap.size+1),2,none⟩=some (.slice none 0 0)/\i.frozen? ⟨(w.heap.size+1),2,none⟩=false/\i.cell? ⟨(w.heap.size+1),3,none⟩=some (.slice none 0 0)/\i.frozen? ⟨(w.heap.size+1),3,none⟩=false:=⟨gcA B,gfA B,gcA B,gfA B,gcA B,gfA B,gcA B,gfA B,gcA B,gfA B,gcA B,gfA B,gcA B,gfA B,gcA B,gfA B⟩))
    have aw:=hid (ap.keep (Gq HQ omz B));have mV:=hid (kC.keep (Gq HQ omz B));have mM:Hid (Yk i w.heap.size k op (.slice Z l.length Y) (.slice V kids.length U)):=⟨X,I,q1,F,H,E,J,G,K⟩
    have mJ:Hid (Yk i (w.heap.size+1) 0 0 (.slice none 0 0) (.slice none 0 0)):=⟨aa,t,A,z,y,T,R,O,M⟩
    have kM:=Dx aA B;clear ap kC aA B ac;have hx:x=0\/x=1\/x=2\/x=3\/x=4\/x=5:=omz
    clear au az;rcases hx with rfl | rfl | rfl | rfl | rfl | rfl
    ·go_wp2_with ((go_at_call_of 41 (7:Nat);refine(Aad g _ _ _ [-1,0,1,2,3,4,5] _ raA omz (C9 (by simp[Fj,go_sem])) spz yAh spz spz).mono ?_;rintro e s ⟨bo,rfl,hy,ac,q⟩;simp only[A6n,A68,A7u] at hy;have X:w.heap.size<s.heap.size:=A51 ltA q.size;have aa:(w.heap.size+1)<s.heap.size:=A51 ltA q.size;obtain⟨I,E,q1,J,F,G,H,K,t,T,A,R,z,O,y,M⟩:s.cell? ⟨w.heap.size,0,none⟩=some (.int .i64 k)/\s.frozen? ⟨w.heap.size,0,none⟩=false/\s.cell? ⟨w.heap.size,1,none⟩=some (.int .i64 op)/\s.frozen? ⟨w.heap.size,1,none⟩=false/\s.cell? ⟨w.heap.size,2,none⟩=some (.slice Z l.length Y)/\s.frozen? ⟨w.heap.size,2,none⟩=false/\s.cell? ⟨w.heap.size,3,none⟩=some (.slice V kids.length U)/\s.frozen? ⟨w.heap.size,3,none⟩=false/\s.cell? ⟨(w.heap.size+1),0,none⟩=some (.int .i64 0)/\s.frozen? ⟨(w.heap.size+1),0,none⟩=false/\s.cell? ⟨(w.heap.size+1),1,none⟩=some (.int .i64 0)/\s.frozen? ⟨(w.heap.size+1),1,none⟩=false/\s.cell? ⟨(w.heap.size+1),2,none⟩=some (.slice none 0 0)/\s.frozen? ⟨(w.heap.size+1),2,none⟩=false/\s.cell? ⟨(w.heap.size+1),3,none⟩=some (.slice none 0 0)/\s.frozen? ⟨(w.heap.size+1),3,none⟩=false:=⟨gcA q,gfA q,gcA q,gfA q,gcA q,gfA q,gcA q,gfA q,gcA q,gfA q,gcA q,gfA q,gcA q,gfA q,gcA q,gfA q⟩))
     have ab:Ac (Fr Q w.heap.size (w.heap.size+2)) i s:=(Ac.of_below (Aa _ _)).trans (Gq HQ omz q);have bp:=aw.keep ab;have qU:=mV.keep ab;refine bodyPost_ret (by simp[results,results78,go_sem,t,A,z,y];rfl) rfl ?_;refine⟨⟨bo,⟨op,l⟩,kids⟩,_,_,rfl,Ce.mono (bp.keep kfA) (Gp _),Dv.mono (qU.keep kfA) (Gp _),Au8 S omz,?_,rlA,glA⟩;have:=iQ.out
     rw[Ee];simp only;omega
    ·go_wp2_with (first | (go_at_call 45;refine(Ie g _ _ (by exact bK) omz).mono ?_;rintro e f ⟨aP,ev,L,rfl,bV,dM,gW,pJ,ac,d⟩;obtain⟨ea,ec,rfl,_,_⟩:=id dM;have X:w.heap.size<f.heap.size:=A51 ltA d.size;have aa:=A51 ltA d.size;obtain⟨I,E,q1,J,F,G,H,K,t,T,A,R,z,O,y,M⟩:f.cell? ⟨w.heap.size,0,none⟩=some (.int .i64 k)/\f.frozen? ⟨w.heap.size,0,none⟩=false/\f.cell? ⟨w.heap.size,1,none⟩=some (.int .i64 op)/\f.frozen? ⟨w.heap.size,1,none⟩=false/\f.cell? ⟨w.heap.size,2,none⟩=some (.slice Z l.length Y)/\f.frozen? ⟨w.heap.size,2,none⟩=false/\f.cell? ⟨w.heap.size,3,none⟩=some (.slice V kids.length U)/\f.frozen? ⟨w.heap.size,3,none⟩=false/\f.cell? ⟨(w.heap.size+1),0,none⟩=some (.int .i64 0)/\f.frozen? ⟨(w.heap.size+1),0,none⟩=false/\f.cell? ⟨(w.heap.size+1),1,none⟩=some (.int .i64 0)/\f.frozen? ⟨(w.heap.size+1),1,none⟩=false/\f.cell? ⟨(w.heap.size+1),2,none⟩=some (.slice none 0 0)/\f.frozen? ⟨(w.heap.size+1),2,none⟩=false/\f.cell? ⟨(w.heap.size+1),3,none⟩=some (.slice none 0 0)/\f.frozen? ⟨(w.heap.size+1),3,none⟩=false:=⟨gcA d,gfA d,gcA d,gfA d,gcA d,gfA d,gcA d,gfA d,gcA d,gfA d,gcA d,gfA d,gcA d,gfA d,gcA d,gfA d⟩) | (at_builtin;refine Qm rfl _ _ rfl (Fr Q w.heap.size (w.heap.size+2)) i kids (.slice V kids.length U) rfl rfl rfl mV omz ?_;intro bb cc w3 xs ae ag dS fJ N;have al:=hid ae;have an:=hid ag;have dJ:Hid ((i.alloc (.cells #[] 43)).grownBy w3 (some i.heap.size)):=N;have iO:=(mM.alloc _).grownO N yAb;have iL:=(mJ.alloc _).grownO N yAb;have bK:H5 w3 g (P+2):=Et (Cb dL _) N yAc;have bU:=Jk (D5 kM _) N yAc;clear ae ag N I q1 F H t A z y E J G K T R O M;obtain⟨X,I,q1,F,H,E,J,G,K⟩:=iO;obtain⟨aa,t,A,z,y,T,R,O,M⟩:=iL) | (at_builtin;refine wpList_append_own_at _ rfl _ _ 41 rfl i.heap.size 43 i0 (.agg #[.int .i64 0, .int .i64 0, .slice none 0 0, .slice none 0 0]) 4 64 underlying41 hi aY bc a9 rfl dcz _ _ _ rfl ((Bl al d omz).alloc _) _ _ _ [.int .i64 1, .int .i64 aP, .slice ea L.length ec, .slice none 0 0] rfl rfl yBb yCd yAe omz (by rw[World.size_alloc];have:=d.size;omega) ?_;intro v' w6 ai aC bQ aV;have rG:=hid ai;have bH:Hid ((f.alloc (.cells #[.int .i64 1, .int .i64 aP, .slice ea L.length ec, .slice none 0 0] 43)).grownBy w6 (some bb)):=aC;obtain⟨y6,z6,aG,_⟩:=Gx ai;subst aG;have iM:=(Yk.alloc (show Yk f w.heap.size k op (.slice Z l.length Y) (.slice V kids.length U) from nbA) _).grownO bH yAb;have fO:=(Yk.alloc (show Yk f (w.heap.size+1) 0 0 (.slice none 0 0) (.slice none 0 0) from nbA) _).grownO bH yAb;clear ai aC bQ aV I q1 F H t A z y E J G K T R O M;obtain⟨X,I,q1,F,H,E,J,G,K⟩:=iM;obtain⟨aa,t,A,z,y,T,R,O,M⟩:=fO))
     have hn:∀W:World,∀b,b<W.heap.size->(Fr Q w.heap.size (w.heap.size+2) b/\b≠bb)->Fr Q w.heap.size (w.heap.size+2) b:=λ_ b _ h=>h.1
     have hD:∀(v:Value) (aj:List Stil.Dev),Ce (Fr Q w.heap.size (w.heap.size+2)) i v aj->Ce (λb=>Fr Q w.heap.size (w.heap.size+2) b/\b≠bb) w3 v aj:=λv aj h=>((h.mono (P:=λb=>Fr Q w.heap.size (w.heap.size+2) b/\b<i.heap.size) λb hb h=>⟨h,hb⟩).keep ((Ac.of_below (Aa _ _)).trans (Ac.of_grown dJ (λb hb e=>by simp only[A65] at e;exact absurd hb.2 omz)))).mono λb _ h=>⟨h.1,by have:=h.2;omega⟩
     have qP:RowOf 4 (Zv (λb=>Fr Q w.heap.size (w.heap.size+2) b/\b≠bb) w3) xs kids:=an.imp λ_ _ _ h=>h.mono λb _ hb=>⟨hb.1,by have:=hb.2;omega⟩
     have br:i.heap.size+1<=w3.heap.size:=by have:=dJ.size;simpa using this
     have bn:Ac (λb=>Fr Q w.heap.size (w.heap.size+2) b/\b≠bb) w3 f:=Ez (Gq HQ omz d) (λb _ h=>h.1);have ab:Ac (λb=>Fr Q w.heap.size (w.heap.size+2) b/\b≠bb) w3 (f.alloc (.cells #[.int .i64 1, .int .i64 aP, .slice ea L.length ec, .slice none 0 0] 43)):=bn.trans (Ac.of_below (Aa _ _));have nU:=Aea (R':=Fr Q w.heap.size (w.heap.size+2)) (v:=.slice (some ⟨bb,0,none⟩) kids.length cc) (n:=⟨1,⟨aP,L⟩,[]⟩) (qP.imp λ_ _ _ h=>h.keep ab) ⟨_,_,rfl,((Eo dM).mono (λb _ hb=>⟨Or.inr omz,omz⟩)).keep (Ac.of_below (Aa _ _)),I5 _ _⟩ rfl bH (λb hb e=>hb.2 yBg) (λb hb=>hb.1);have e6:kids.length+1=(kids++[(⟨1,⟨aP,L⟩,[]⟩:Stil.Net)]).length:=spz
     have qQ:Dv (Fr Q w.heap.size (w.heap.size+2)) w6 (.slice y6 (kids.length+1) z6) (kids++[⟨1,⟨aP,L⟩,[]⟩]):=by
      have ho:=rG.out;rw[e6] at ho ⊢;exact Og ho nU (λb hb=>Or.inr yCg)
     have aE:=(((hD _ _ aw.out).keep ab).keep (Ac.of_grown bH (λb hb e=>hb.2 yCc))).mono (hn _);have lI:H5 w6 g (P+40):=Fg (Et (Cb ac _) bH yAc) omz;have jA:=Jk (D5 (Dx bU d) _) bH yAc;refine bodyPost_ret (by simp[results,results78,go_sem,t,A,z,y];rfl) rfl ?_;refine⟨⟨k,⟨op,l⟩,kids++[⟨1,⟨aP,L⟩,[]⟩]⟩,_,_,rfl,Ce.mono (aE.keep kfA) (Gp _),Dv.mono (qQ.keep kfA) (Gp _),?_,?_,rlA,glA⟩
     ·refine(Pv _ _ _).2 ⟨S.parts.1,S.parts.2.1,λx hx=>?_⟩
      rcases List.mem_append.1 hx with h | h
      ·exact S.parts.2.2 x h
      ·rw[List.mem_singleton.1 h];exact Gv dcz bV gW omz
     ·have:=iQ.out
      rw[Ee];simp only[A52,A6g,A78,A53,A54,A6k,A66,A7b,A8b];have e9:H6 ⟨1,⟨aP,L⟩,[]⟩=L.length:=by rw[Ee];simp
      rw[e9];omega
    ·go_wp2
     refine bodyPost_ret (by simp[results,results78,go_sem,t,A,z,y];rfl) rfl ?_;refine⟨⟨k,⟨op,l⟩,[]⟩,_,_,rfl,Ce.mono (aw.keep kfA) (Gp _),I5 _ _,Au7 S (λ_ h=>yAi),?_,rlA,glA⟩;have:=iQ.out
     rw[Ee];simp only[A54,A66,A8b];omega
    ·go_wp2_with ((go_at_call 42;refine(Qy g _ _ (by exact dL) omz).mono ?_;rintro e f ⟨aP,ev,L,rfl,bV,dM,gW,pJ,ac,d⟩;obtain⟨ea,ec,rfl,_,_⟩:=id dM;have X:w.heap.size<f.heap.size:=A51 ltA d.size;have aa:=A51 ltA d.size;obtain⟨I,E,q1,J,F,G,H,K,t,T,A,R,z,O,y,M⟩:f.cell? ⟨w.heap.size,0,none⟩=some (.int .i64 k)/\f.frozen? ⟨w.heap.size,0,none⟩=false/\f.cell? ⟨w.heap.size,1,none⟩=some (.int .i64 op)/\f.frozen? ⟨w.heap.size,1,none⟩=false/\f.cell? ⟨w.heap.size,2,none⟩=some (.slice Z l.length Y)/\f.frozen? ⟨w.heap.size,2,none⟩=false/\f.cell? ⟨w.heap.size,3,none⟩=some (.slice V kids.length U)/\f.frozen? ⟨w.heap.size,3,none⟩=false/\f.cell? ⟨(w.heap.size+1),0,none⟩=some (.int .i64 0)/\f.frozen? ⟨(w.heap.size+1),0,none⟩=false/\f.cell? ⟨(w.heap.size+1),1,none⟩=some (.int .i64 0)/\f.frozen? ⟨(w.heap.size+1),1,none⟩=false/\f.cell? ⟨(w.heap.size+1),2,none⟩=some (.slice none 0 0)/\f.frozen? ⟨(w.heap.size+1),2,none⟩=false/\f.cell? ⟨(w.heap.size+1),3,none⟩=some (.slice none 0 0)/\f.frozen? ⟨(w.heap.size+1),3,none⟩=false:=⟨gcA d,gfA d,gcA d,gfA d,gcA d,gfA d,gcA d,gfA d,gcA d,gfA d,gcA d,gfA d,gcA d,gfA d,gcA d,gfA d⟩))
     have ve:=mV.keep (Gq HQ omz d);have aU:Ce (Fr Q w.heap.size (w.heap.size+2)) f (.slice ea L.length ec) L:=(Eo dM).mono (λb _ hb=>Or.inr omz);refine bodyPost_ret (by simp[results,results78,go_sem,t,A,z,y];rfl) rfl ?_;refine⟨⟨k,⟨aP,L⟩,kids⟩,_,_,rfl,Ce.mono (aU.keep kfA) (Gp _),Dv.mono (ve.keep kfA) (Gp _),Ao7 S bV gW omz,?_,rlA,glA⟩;have:=iQ.out
     rw[Ee];simp only;omega
    ·go_wp2_with ((go_at_call 77;refine(Aj2 g _ op _ l _ (by exact dL) omz S.parts.2.1.1 (Asm (aw.mono (λb _ hb=>by rcases hb with h | h;exact HQ b h.1;omega))) S.parts.2.1.2.1 omz).mono ?_;rintro e f ⟨aP,ev,L,rfl,bV,dM,gW,pJ,ac,d⟩;obtain⟨ea,ec,rfl,_,_⟩:=id dM;have X:w.heap.size<f.heap.size:=A51 ltA d.size;have aa:=A51 ltA d.size;obtain⟨I,E,q1,J,F,G,H,K,t,T,A,R,z,O,y,M⟩:f.cell? ⟨w.heap.size,0,none⟩=some (.int .i64 k)/\f.frozen? ⟨w.heap.size,0,none⟩=false/\f.cell? ⟨w.heap.size,1,none⟩=some (.int .i64 op)/\f.frozen? ⟨w.heap.size,1,none⟩=false/\f.cell? ⟨w.heap.size,2,none⟩=some (.slice Z l.length Y)/\f.frozen? ⟨w.heap.size,2,none⟩=false/\f.cell? ⟨w.heap.size,3,none⟩=some (.slice V kids.length U)/\f.frozen? ⟨w.heap.size,3,none⟩=false/\f.cell? ⟨(w.heap.size+1),0,none⟩=some (.int .i64 0)/\f.frozen? ⟨(w.heap.size+1),0,none⟩=false/\f.cell? ⟨(w.heap.size+1),1,none⟩=some (.int .i64 0)/\f.frozen? ⟨(w.heap.size+1),1,none⟩=false/\f.cell? ⟨(w.heap.size+1),2,none⟩=some (.slice none 0 0)/\f.frozen? ⟨(w.heap.size+1),2,none⟩=false/\f.cell? ⟨(w.heap.size+1),3,none⟩=some (.slice none 0 0)/\f.frozen? ⟨(w.heap.size+1),3,none⟩=false:=⟨gcA d,gfA d,gcA d,gfA d,gcA d,gfA d,gcA d,gfA d,gcA d,gfA d,gcA d,gfA d,gcA d,gfA d,gcA d,gfA d⟩))
     have ve:=mV.keep (Gq HQ omz d);have aU:Ce (Fr Q w.heap.size (w.heap.size+2)) f (.slice ea L.length ec) L:=(Eo dM).mono (λb _ hb=>Or.inr omz);refine bodyPost_ret (by simp[results,results78,go_sem,t,A,z,y];rfl) rfl ?_;refine⟨⟨k,⟨aP,L⟩,kids⟩,_,_,rfl,Ce.mono (aU.keep kfA) (Gp _),Dv.mono (ve.keep kfA) (Gp _),Ao7 S bV gW omz,?_,rlA,glA⟩;have:=iQ.out
     rw[Ee];simp only;omega
    ·go_wp2_with (first | (at_builtin;refine Qm rfl _ _ rfl (Fr Q w.heap.size (w.heap.size+2)) i kids (.slice V kids.length U) rfl rfl rfl mV omz ?_;intro bb cc w3 xs ae ag dS fJ N;have al:=hid ae;have an:=hid ag;have dJ:Hid ((i.alloc (.cells #[] 43)).grownBy w3 (some i.heap.size)):=N;have iO:=(mM.alloc _).grownO N yAb;have iL:=(mJ.alloc _).grownO N yAb;have bK:H5 w3 g (P+2):=Et (Cb dL _) N yAc;have bU:=Jk (D5 kM _) N yAc;clear ae ag N I q1 F H t A z y E J G K T R O M;obtain⟨X,I,q1,F,H,E,J,G,K⟩:=iO;obtain⟨aa,t,A,z,y,T,R,O,M⟩:=iL) | (at_builtin;refine wpList_append_own_at _ rfl _ _ 41 rfl i.heap.size 43 i0 (.agg #[.int .i64 0, .int .i64 0, .slice none 0 0, .slice none 0 0]) 4 64 underlying41 hi aY bc a9 rfl dcz _ _ _ rfl (al.alloc _) _ _ _ [.int .i64 0, .int .i64 0, .slice none 0 0, .slice none 0 0] rfl rfl yBb yCd yAe omz yBf ?_;intro v' w6 ai aC bQ aV;have rG:=hid ai;have bH:Hid ((w3.alloc (.cells #[.int .i64 0, .int .i64 0, .slice none 0 0, .slice none 0 0] 43)).grownBy w6 (some bb)):=aC;obtain⟨y6,z6,aG,_⟩:=Gx ai;subst aG;have iM:=(Yk.alloc (show Yk w3 w.heap.size k op (.slice Z l.length Y) (.slice V kids.length U) from nbA) _).grownO bH yAb;have fO:=(Yk.alloc (show Yk w3 (w.heap.size+1) 0 0 (.slice none 0 0) (.slice none 0 0) from nbA) _).grownO bH yAb;clear ai aC bQ aV I q1 F H t A z y E J G K T R O M;obtain⟨X,I,q1,F,H,E,J,G,K⟩:=iM;obtain⟨aa,t,A,z,y,T,R,O,M⟩:=fO))
     have hn:∀W:World,∀b,b<W.heap.size->(Fr Q w.heap.size (w.heap.size+2) b/\b≠bb)->Fr Q w.heap.size (w.heap.size+2) b:=λ_ b _ h=>h.1
     have hD:∀(v:Value) (aj:List Stil.Dev),Ce (Fr Q w.heap.size (w.heap.size+2)) i v aj->Ce (λb=>Fr Q w.heap.size (w.heap.size+2) b/\b≠bb) w3 v aj:=λv aj h=>((h.mono (P:=λb=>Fr Q w.heap.size (w.heap.size+2) b/\b<i.heap.size) λb hb h=>⟨h,hb⟩).keep ((Ac.of_below (Aa _ _)).trans (Ac.of_grown dJ (λb hb e=>by simp only[A65] at e;exact absurd hb.2 omz)))).mono λb _ h=>⟨h.1,by have:=h.2;omega⟩
     have qP:RowOf 4 (Zv (λb=>Fr Q w.heap.size (w.heap.size+2) b/\b≠bb) w3) xs kids:=an.imp λ_ _ _ h=>h.mono λb _ hb=>⟨hb.1,by have:=hb.2;omega⟩
     have ab:Ac (λb=>Fr Q w.heap.size (w.heap.size+2) b/\b≠bb) w3 (w3.alloc (.cells #[.int .i64 0, .int .i64 0, .slice none 0 0, .slice none 0 0] 43)):=Ac.of_below (Aa _ _);have nU:=Aea (R':=Fr Q w.heap.size (w.heap.size+2)) (v:=.slice (some ⟨bb,0,none⟩) kids.length cc) (n:=⟨0,⟨0,[]⟩,[]⟩) (qP.imp λ_ _ _ h=>h.keep ab) ⟨_,_,rfl,Qz _ _,I5 _ _⟩ rfl bH (λb hb e=>hb.2 yBg) (λb hb=>hb.1);have e6:kids.length+1=(kids++[(⟨0,⟨0,[]⟩,[]⟩:Stil.Net)]).length:=spz
     have qQ:Dv (Fr Q w.heap.size (w.heap.size+2)) w6 (.slice y6 (kids.length+1) z6) (kids++[⟨0,⟨0,[]⟩,[]⟩]):=by
      have ho:=rG.out;rw[e6] at ho ⊢;exact Og ho nU (λb hb=>Or.inr yCg)
     have aE:=(((hD _ _ aw.out).keep ab).keep (Ac.of_grown bH (λb hb e=>hb.2 yCc))).mono (hn _);have lI:H5 w6 g (P+40):=Fg (Et (Cb bK _) bH yAc) omz;have jA:=Jk (D5 bU _) bH yAc;refine bodyPost_ret (by simp[results,results78,go_sem,t,A,z,y];rfl) rfl ?_;refine⟨⟨k,⟨op,l⟩,kids++[⟨0,⟨0,[]⟩,[]⟩]⟩,_,_,rfl,Ce.mono (aE.keep kfA) (Gp _),Dv.mono (qQ.keep kfA) (Gp _),?_,?_,rlA,glA⟩
     ·refine(Pv _ _ _).2 ⟨S.parts.1,S.parts.2.1,λx hx=>?_⟩
      rcases List.mem_append.1 hx with h | h
      ·exact S.parts.2.2 x h
      ·rw[List.mem_singleton.1 h];exact Gv dcz dcz (λ_ h=>yAi) spz
     ·have:=iQ.out
      rw[Ee];simp only[A52,A6g,A78,A53,A54,A6k,A66,A7b,A8b];have e9:H6 ⟨0,⟨0,[]⟩,[]⟩=0:=by rw[Ee];simp
      rw[e9];omega
end Go.Proofs.YtnpfcnolmkanfaaGreatDoor
