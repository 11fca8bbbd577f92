import Derived.Test.YtifcnfeppdbjdaaGreatDoorGs
namespace Go.Proofs.YtifcnfeppdbjdaaGreatDoor
open Tryz Stil Go.RowKit Go.Sort Go.BigFrame
variable {a:Addr}{base c o o1 o2 o3 o4 o5 o6:Nat}{fD qM iE u0 u1 u2 u3 u4 u5 u6 v1 v2 v3 v4 v5:Value}{r:Option Nat}{w':World}
theorem Zu {ops:Array Oper}{o:Oper}{a:Act}{w:World}{K:Act->World->Prop}{Q:Exit->Act->World->Prop}{E:Prop}
  (hg:o.guard=none) (s x:Operand) (hop:o.op=.call {callee:=.builtin .append,args:=#[s,x],argTypes:=#[60,60]})
  (base:Nat) (ra:Option Addr) (rc:Nat) (ms ks:List Ej) (ad:Option Addr) (c:Nat) (hs:a.eval s=AE ra ms.length rc) (hx:a.eval x=AE ad ks.length c)
  (hrow:Vj w base (AE ra ms.length rc) ms) (y:0<ks.length->∃p,ad=some p/\∀j u,(Jc ks)[j]?=some u->w.cell? (p.add j)=some u)
  (n:∀m∈ks,EOk w base m) (B:(Value.slice ra ms.length rc::(G6 ms++G6 ks)).Pairwise Aside) (hl:ms.length+ks.length<=1000000) (L:base<=w.heap.size)
  (k:∀d b w',Vj w' base (AE d (ms.length+ks.length) b) (ms++ks)->w.grownBy w' (Value.slice ra ms.length rc).ownBlock->((Value.slice d (ms.length+ks.length) b).ownBlock=(Value.slice ra ms.length rc).ownBlock\/(Value.slice d (ms.length+ks.length) b).ownBlock=some w.heap.size)->K (a.put o.dst (AE d (ms.length+ks.length) b)) w'):
  if Region.wanted o (yielded ops a.tmps)=true then Oper.wp prog o a w K Q else E:=by
 obtain⟨H,hi,C,I,A⟩:=info_parts YN;by_cases hd:ks.length=0
 ·have v:=List.length_eq_zero_iff.1 hd
  subst v;have F:Region.wanted o (yielded ops a.tmps)=true:=by simp[Region.wanted,hg]
  rw[if_pos F];have hcap:ms.length<=rc:=by
   rcases hrow.1.2 with⟨i,f⟩ | ⟨g,b,cur,i,_,_,J,_⟩
   ·rw[f];exact DI _
   ·simp only[Value.slice.injEq] at i
    rw[i.2.2];exact J
  have hk2:=k ra rc w yDc (PN _ _) (.inl AU);simp only[CO,EO] at hk2 hx;unfold Oper.wp execOp;cases ad
  ·exact zh0
  ·exact zc0
 ·obtain⟨p,rfl,D⟩:=y AQ
  refine Eh hg s x _ hop base 51 H _ 2 32 underlying60 hi C I A rfl AY _ _ (Jc ms) hs hrow.1 _ _ _ (Jc ks) hx (W6 ks) D (VP n) A6 AQ L ?_;intro M w' f q l;obtain⟨G,t,z⟩:=Ah f;subst z;exact k G t w' (hrow.add n B f q l) q l
structure Parts (w:World)(base:Nat)(na nk:Ak)(fD:Value)(ca:List Ej)(qM:Value)(ck:List Ej)(iE:Value)(kk:List Bq):Prop where
 hna:MOk w base na
 hnk:MOk w base nk
 hca:Vj w base fD ca
 hck:∀m∈ck,EOk w base m
 ckr:w.ownsRow base 51 2 qM ck.length (Jc ck)
 hkk:Su w base iE kk
 nets:(na.vals++nk.vals).Pairwise Aside
 coils:(fD::(G6 ca++G6 ck)).Pairwise Aside
 nc:∀x∈na.vals++nk.vals,∀y∈fD::(G6 ca++G6 ck),Aside x y
 nkk:∀x∈na.vals++nk.vals,∀y∈iE::Iy kk,Aside x y
 ckk:∀x∈fD::(G6 ca++G6 ck),∀y∈iE::Iy kk,Aside x y
theorem Lt.parts {w:World}{u d:Ak}{j:Value}{i b:List Ej}{e:List Bq}(h:Lt w base ⟨u,fD,i,j,[⟨d,qM,b,iE,e⟩]⟩):Parts w base u d fD i qM b iE e:=by
 obtain⟨G,g⟩:=h;obtain⟨A,⟨C,q⟩,_,O⟩:=(Jp _ _ _).1 G;obtain⟨z,⟨n,t⟩,s,B⟩:=(Jp _ _ _).1 (O ⟨d,qM,b,iE,e⟩ AU);simp only at A C q z n t s B;rw[Bq.vals_eq] at g;simp only[Ro] at g;rw[Bq.vals_eq] at g;simp only at g;obtain⟨H,M,l⟩:=List.pairwise_append.1 g;obtain⟨k,N,f⟩:=List.pairwise_append.1 M;obtain⟨_,K⟩:=List.pairwise_cons.1 N;obtain⟨L,I,v⟩:=List.pairwise_append.1 K;obtain⟨Q,P,E⟩:=List.pairwise_append.1 I;have J:∀y∈d.vals,y∈(fD::G6 i)++(j::(d.vals++((qM::G6 b)++(iE::Iy e)))):=λy hy=>by simp[hy]
 have D:∀y∈G6 b,y∈j::(d.vals++((qM::G6 b)++(iE::Iy e))):=λy hy=>by simp[hy]
 have m:∀y∈iE::Iy e,y∈j::(d.vals++((qM::G6 b)++(iE::Iy e))):=λy hy=>by simp only[DF,E7] at hy ⊢;exact .inr (.inr (.inr hy))
 have F:(fD::(G6 i++G6 b)).Pairwise Aside:=by
  rw[EQ] at k ⊢;refine⟨λy hy=>?_,List.pairwise_append.2 ⟨k.2,(List.pairwise_cons.1 Q).2,λx hx y hy=>f x (CQ _ hx) y (D y hy)⟩⟩;rcases List.mem_append.1 hy with hy | hy
  ·exact k.1 y hy
  ·exact f fD AU y (D y hy)
 refine⟨A,z,⟨C,q,k⟩,t,n,⟨s,B,P⟩,List.pairwise_append.2 ⟨H,L,λx hx y hy=>l x hx y (J y hy)⟩,F,λx hx y hy=>?_,λx hx y hy=>?_,λx hx y hy=>?_⟩
 ·rcases List.mem_append.1 hx with hx | hx
  ·refine l x hx y ?_
   simp only[DF,E7] at hy ⊢;rcases hy with hy | hy | hy
   ·exact .inl (.inl hy)
   ·exact .inl (.inr hy)
   ·exact .inr (.inr (.inr (.inl (.inr hy))))
  ·simp only[DF,E7] at hy
   rcases hy with hy | hy | hy
   ·exact(f y Bt x BS).symm
   ·exact(f y Bt x BS).symm
   ·exact v x hx y Bt
 ·rcases List.mem_append.1 hx with hx | hx
  ·exact l x hx y (D3 _ (m y hy))
  ·exact v x hx y (D3 _ hy)
 ·simp only[DF,E7] at hx
  rcases hx with hx | hx | hx
  ·exact f x BS y (m y hy)
  ·exact f x BS y (m y hy)
  ·exact E x (CQ _ hx) y hy
theorem Parts.below {w:World}{i g:Ak}{e d:List Ej}{f:List Bq}(h:Parts w base i g fD e qM d iE f)(b:AO w w'):Parts w' base i g fD e qM d iE f:=
 ⟨h.hna.below b,h.hnk.below b,h.hca.below b,λm j=>ownsRow_below (h.hck m j) b,ownsRow_below h.ckr b,h.hkk.below b,h.nets,h.coils,h.nc,h.nkk,h.ckk⟩
theorem Parts.join {w w1 C:World}{lo:Nat}{A v s:Ak}{k:Value}{i j:List Ej}{l:List Bq}(g:Parts w base A v fD i qM j iE l)(O:AO w w1)(E:Ls w1 base s)(P:∀x∈s.vals,x∈A.vals++v.vals\/∀q,x.ownBlock=some q->lo<=q)(V:w.heap.size<=lo)(T:lo<=w1.heap.size)
  (I:Vj C base k (i++j)) (hg:w1.grownBy C fD.ownBlock) (M:k.ownBlock=fD.ownBlock\/k.ownBlock=some w1.heap.size):Lt C base ⟨s,k,i++j,iE,l⟩/\∀x∈(Bq.mk s k (i++j) iE l).vals,∀q,x.ownBlock=some q->(q<w.heap.size/\∃y∈A.vals++v.vals++((fD::(G6 i++G6 j))++(iE::Iy l)),y.ownBlock=some q)\/lo<=q:=by
 have U:∀x∈A.vals++v.vals,∀q,x.ownBlock=some q->q<w.heap.size:=by
  intro x b q f;rcases List.mem_append.1 b with b | b
  ·exact(g.hna.lt _ x b q f).2
  ·exact(g.hnk.lt _ x b q f).2
 have D:∀y∈fD::(G6 i++G6 j),∀q,y.ownBlock=some q->q<w.heap.size:=by
  intro y d q f;simp only[DF,E7] at d;rcases d with rfl | d | d
  ·exact(g.hca.1.lt q f).2
  ·exact(g.hca.lt y (CQ _ d) q f).2
  ·obtain⟨m,B,rfl⟩:=Po.1 d
   exact((g.hck m B).lt q f).2
 have F:=λy d q f=>(g.hkk.lt y d q f).2
 have G:∀x∈s.vals,∀y,(∀q,y.ownBlock=some q->q<w.heap.size)->(∀z∈A.vals++v.vals,Aside z y)->Aside x y:=by
  intro x b y d t;rcases P x b with h | h
  ·exact t x h
  ·exact(Ho (n:=w.heap.size) d (λq f=>CJ V (h q f))).symm
 have K:∀y,(∀q,y.ownBlock=some q->q<w1.heap.size)->Aside fD y->Aside k y:=by
  intro y d S;rcases M with e | e
  ·rcases S with h0 | h0
   ·exact .inl B0
   ·exact .inr B0
  ·refine .inr (λQ=>?_)
   rw[e] at Q;have:=d _ Q.symm
   omega
 have W:=O.size;have B:=λx b=>G x b fD (D fD AU) (λz t=>g.nc z t fD AU)
 have H:=g.hkk.below O;have N:Su C base iE l:=⟨H.1.kept hg (g.ckk fD AU iE AU).symm,λm R=>(H.2.1 m R).kept hg (λu hu=>(g.ckk fD AU u (CQ _ (Oe.2 ⟨m,R,hu⟩))).symm),H.2.2⟩
 have J:(Bq.mk s k (i++j) iE l).vals=s.vals++((k::(G6 i++G6 j))++(iE::Iy l)):=by rw[Bq.vals_eq,Yl]
 refine⟨⟨(Jp _ _ _).2 ⟨E.1.kept hg B,⟨I.1,I.2.1⟩,N.1,N.2.1⟩,?_⟩,?_⟩
 ·rw[J]
  have L:=I.2.2;rw[Yl] at L;refine List.pairwise_append.2 ⟨E.2,List.pairwise_append.2 ⟨L,g.hkk.2.2,λx b y d=>?_⟩,λx b y d=>?_⟩
  ·rcases List.mem_cons.1 b with rfl | b
   ·exact K y (λq f=>by have:=F y d q f;omega) (g.ckk fD AU y d)
   ·exact g.ckk x (CQ _ b) y d
  ·rcases List.mem_append.1 d with d | d
   ·rcases List.mem_cons.1 d with rfl | d
    ·exact(K x (λq f=>(E.1.lt _ x b q f).2) (B x b).symm).symm
    ·exact G x b y (D y (CQ _ d)) (λz t=>g.nc z t y (CQ _ d))
   ·exact G x b y (F y d) (λz t=>g.nkk z t y d)
 ·intro x b q f
  rw[J] at b;rcases List.mem_append.1 b with b | b
  ·rcases P x b with h | h
   ·exact .inl ⟨U x h q f,x,E1 _ h,f⟩
   ·exact .inr (h q f)
  rcases List.mem_append.1 b with b | b
  ·rcases List.mem_cons.1 b with rfl | b
   ·rcases M with e | e
    ·exact .inl ⟨D fD AU q (by rw[<-e];exact f),fD,D3 _ (E1 _ AU),by rw[<-e];exact f⟩
    ·rw[e] at f;cases f;exact .inr T
   ·exact .inl ⟨D x (CQ _ b) q f,x,D3 _ (E1 _ (CQ _ b)),f⟩
  ·exact .inl ⟨F x b q f,x,D3 _ (D3 _ b),f⟩
theorem Lt.setO {w:World}{m:Bq}(h:Lt w base m)(b:∀x∈m.vals,x.ownBlock≠some a.block)(u:Value):Lt (w.setCell a u) base m:=⟨AOk.map m h.1 (λ_ _ _ _ _ d e=>ownsRow_setCell_other e (b _ d) u),h.2⟩
theorem Lt.setO6 {w:World}{b:Nat}{m:Bq}(h:Lt w base m)(d:∀x∈m.vals,x.ownBlock≠some b):Lt ((((((w.setCell (AK b o1) u1).setCell (AK b o2) u2).setCell (AK b o3) u3).setCell (AK b o4) u4).setCell (AK b o5) u5).setCell (AK b o6) u6) base m:=
 Lt.setO (Lt.setO (Lt.setO (Lt.setO (Lt.setO (Lt.setO h (a:=(AK b o1)) d u1) (a:=(AK b o2)) d u2) (a:=(AK b o3)) d u3) (a:=(AK b o4)) d u4) (a:=(AK b o5)) d u5) (a:=(AK b o6)) d u6
def l6 (w:World)(base:Nat)(vs:List Value)(lo:Nat)(a:Stil.B8)(e:Ending):Prop:=∃(k op:Int) (b:List Stil.CC) (n:Option Addr) (g:Nat) (ns:List Ak) (j:Option Addr) (m:Nat) (d:List Ej) (p:Option Addr) (h:Nat) (f:List Bq) (l:Option Addr) (i:Nat),e=.returned (.agg #[AB k,AB op,AE n b.length g,AE j ns.length m,AE p d.length h,AE l f.length i])/\Lt w base ⟨⟨k,op,b,AE n b.length g,AE j ns.length m,ns⟩,AE p d.length h,d,AE l f.length i,f⟩/\(Bq.mk ⟨k,op,b,AE n b.length g,AE j ns.length m,ns⟩ (AE p d.length h) d (AE l f.length i) f).arm=a/\∀x∈(Bq.mk ⟨k,op,b,AE n b.length g,AE j ns.length m,ns⟩ (AE p d.length h) d (AE l f.length i) f).vals,∀q,x.ownBlock=some q->(∃y∈vs,y.ownBlock=some q)\/lo<=q
theorem nK {a b c:World}(h:AO a b)(k:b.grownBy c r):a.grownBy c r:=
 ⟨k.os.trans h.os,k.tape.trans h.tape,k.output.trans h.output,CJ h.size k.size,λj d e=>(k.block j (CB d h.size) e).trans (h.block j d)⟩
theorem nr {w a:World}{b:Nat}(h:w.grownBy a r)(f:w.heap.size<=b)(v:Value):w.grownBy (a.setCell (AK b o) v) r:=
 ⟨h.os,h.tape,h.output,by simpa using h.size,λk d e=>by
  rw[<-h.block k d e];simp only[World.setCell,JG]
  rw[if_neg AQ]⟩
theorem Gz {W:World}:W.drew.cell? a=W.cell? a:=rfl
theorem set6O {w:World}{b:Nat}{v:Value}(h:b≠c)(d:w.cell? (AK b o)=some v):((((((w.setCell (AK c o1) u1).setCell (AK c o2) u2).setCell (AK c o3) u3).setCell (AK c o4) u4).setCell (AK c o5) u5).setCell (AK c o6) u6).cell? (AK b o)=some v:=
 (Bj h).trans ((Bj h).trans ((Bj h).trans ((Bj h).trans ((Bj h).trans ((Bj h).trans d)))))
set_option maxHeartbeats 8000000 in
set_option maxRecDepth 100000 in
theorem Ava (F o1:Int)(j:List Stil.CC)(C:Option Addr)(D:Nat)(B:Option Addr)(E:Nat)(k:List Ak)(G:Option Addr)(H:Nat)(m:List Ej)(h1:Option Addr)(Y:Nat)(u o2:Int)(d:List Stil.CC)(t:Option Addr)(A:Nat)(z:Option Addr)(y:Nat)(f:List Ak)(L:Option Addr)(O:Nat)(n:List Ej)(I:Option Addr)(J:Nat)(ks:List Bq)(base:Nat)(w:World)
  (ho:Lt w base (Bq.mk (Ak.mk F o1 j (AE C j.length D) (AE B k.length E) k) (AE G m.length H) m (AE h1 1 Y) [(Bq.mk (Ak.mk u o2 d (AE t d.length A) (AE z f.length y) f) (AE L n.length O) n (AE I ks.length J) ks)])) (au:base<=w.heap.size) (hs:Stil.sizes [(Ak.mk F o1 j (AE C j.length D) (AE B k.length E) k).net,(Ak.mk u o2 d (AE t d.length A) (AE z f.length y) f).net]<=999999) (aw:Dw (Ak.mk F o1 j (AE C j.length D) (AE B k.length E) k).net) (an:Dw (Ak.mk u o2 d (AE t d.length A) (AE z f.length y) f).net) (ay:m.length+n.length<=1000000):
  Calls prog 85 #[.agg #[AB F,AB o1,AE C j.length D,AE B k.length E,AE G m.length H,AE h1 1 Y], .agg #[AB u,AB o2,AE t d.length A,AE z f.length y,AE L n.length O,AE I ks.length J]] w λe w'=>l6 w' base (Bq.mk (Ak.mk F o1 j (AE C j.length D) (AE B k.length E) k) (AE G m.length H) m (AE h1 1 Y) [(Bq.mk (Ak.mk u o2 d (AE t d.length A) (AE z f.length y) f) (AE L n.length O) n (AE I ks.length J) ks)]).vals w.heap.size ⟨Lu (Ak.mk F o1 j (AE C j.length D) (AE B k.length E) k).net (Ak.mk u o2 d (AE t d.length A) (AE z f.length y) f).net,(m++n).map Ej.elem,ks.map Bq.arm⟩ e/\w.grownBy w' (Value.slice G m.length H).ownBlock:=by
 have hP:=ho.parts;have fV:Hid (∀ag∈(Ak.mk F o1 j (AE C j.length D) (AE B k.length E) k).vals++(Ak.mk u o2 d (AE t d.length A) (AE z f.length y) f).vals++((.slice G m.length H::(G6 m++G6 n))++(.slice I ks.length J::Iy ks)),ag∈(Bq.mk (Ak.mk F o1 j (AE C j.length D) (AE B k.length E) k) (AE G m.length H) m (AE h1 1 Y) [(Bq.mk (Ak.mk u o2 d (AE t d.length A) (AE z f.length y) f) (AE L n.length O) n (AE I ks.length J) ks)]).vals):=by
  intro ag s;rw[Bq.vals_eq];simp only[Ro];rw[Bq.vals_eq (Bq.mk (Ak.mk u o2 d (AE t d.length A) (AE z f.length y) f) (AE L n.length O) n (AE I ks.length J) ks)];simp only[E7,DF] at s ⊢;rcases s with(s | s) | (s | s | s) | s | s
  ·exact .inl s
  ·exact .inr (.inr (.inr (.inl s)))
  ·exact .inr (.inl (.inl s))
  ·exact .inr (.inl (.inr s))
  ·exact .inr (.inr (.inr (.inr (.inl (.inr s)))))
  ·exact .inr (.inr (.inr (.inr (.inr (.inl s)))))
  ·exact .inr (.inr (.inr (.inr (.inr (.inr s)))))
 obtain⟨OV,yU⟩:=AA ((Bq.mk (Ak.mk F o1 j (AE C j.length D) (AE B k.length E) k) (AE G m.length H) m (AE h1 1 Y) [(Bq.mk (Ak.mk u o2 d (AE t d.length A) (AE z f.length y) f) (AE L n.length O) n (AE I ks.length J) ks)]).vals)
 rw[<-yU] at fV ⊢;clear yU;have HP:=AV hP;have mr:=AV (λW h=>sw F o1 j C D B E k u o2 d t A z y f base W (hP.hna.below h) (hP.hnk.below h) hP.nets (CJ au h.size) hs aw an);obtain⟨ar,hS⟩:=AA (Lu (Ak.mk F o1 j (AE C j.length D) (AE B k.length E) k).net (Ak.mk u o2 d (AE t d.length A) (AE z f.length y) f).net)
 rw[<-hS] at mr ⊢;clear ho hP hs aw an hS;go_enter func85,ntmps85;go_upto_region 1 with fail
 obtain⟨W,i⟩:=AA (((w.alloc (.cells #[AB F,AB o1,AE C j.length D,AE B k.length E,AE G m.length H,AE h1 1 Y] 62)).alloc (.cells #[AB u,AB o2,AE t d.length A,AE z f.length y,AE L n.length O,AE I ks.length J] 62)).alloc (.cells #[AB 0,AB 0,AG,AG,AG,AG] 62))
 rw[<-i];have p0:W.cell? (AL w 0)=some (AB F):=by rw[i];simp[go_sem]
 have p1:W.cell? (AL w 1)=some (AB o1):=by rw[i];simp[go_sem]
 have p2:W.cell? (AL w 2)=some (AE C j.length D):=by rw[i];simp[go_sem]
 have p3:W.cell? (AL w 3)=some (AE B k.length E):=by rw[i];simp[go_sem]
 have p4:W.cell? (AL w 4)=some (AE G m.length H):=by rw[i];simp[go_sem]
 have p5:W.cell? (AL w 5)=some (AE h1 1 Y):=by rw[i];simp[go_sem]
 have q0:W.cell? (AK (w.heap.size+1) 0)=some (AB u):=by rw[i];simp[go_sem]
 have q1:W.cell? (AK (w.heap.size+1) 1)=some (AB o2):=by rw[i];simp[go_sem]
 have q2:W.cell? (AK (w.heap.size+1) 2)=some (AE t d.length A):=by rw[i];simp[go_sem]
 have q3:W.cell? (AK (w.heap.size+1) 3)=some (AE z f.length y):=by rw[i];simp[go_sem]
 have q4:W.cell? (AK (w.heap.size+1) 4)=some (AE L n.length O):=by rw[i];simp[go_sem]
 have q5:W.cell? (AK (w.heap.size+1) 5)=some (AE I ks.length J):=by rw[i];simp[go_sem]
 have r0:W.cell? (AK (w.heap.size+1+1) 0)=some (AB 0):=by rw[i];simp[go_sem]
 have r1:W.cell? (AK (w.heap.size+1+1) 1)=some (AB 0):=by rw[i];simp[go_sem]
 have r2:W.cell? (AK (w.heap.size+1+1) 2)=some AG:=by rw[i];simp[go_sem]
 have r3:W.cell? (AK (w.heap.size+1+1) 3)=some AG:=by rw[i];simp[go_sem]
 have r4:W.cell? (AK (w.heap.size+1+1) 4)=some AG:=by rw[i];simp[go_sem]
 have r5:W.cell? (AK (w.heap.size+1+1) 5)=some AG:=by rw[i];simp[go_sem]
 have v0:W.frozen? (AK (w.heap.size+1+1) 0)=false:=by rw[i];simp[go_sem]
 have v1:W.frozen? (AK (w.heap.size+1+1) 1)=false:=by rw[i];simp[go_sem]
 have v2:W.frozen? (AK (w.heap.size+1+1) 2)=false:=by rw[i];simp[go_sem]
 have v3:W.frozen? (AK (w.heap.size+1+1) 3)=false:=by rw[i];simp[go_sem]
 have v4:W.frozen? (AK (w.heap.size+1+1) 4)=false:=by rw[i];simp[go_sem]
 have v5:W.frozen? (AK (w.heap.size+1+1) 5)=false:=by rw[i];simp[go_sem]
 have aA:Hid ((W.cell? (AK (w.heap.size+1+1) 0)=some (AB 0)/\W.cell? (AK (w.heap.size+1+1) 1)=some (AB 0)/\W.cell? (AK (w.heap.size+1+1) 2)=some AG/\W.cell? (AK (w.heap.size+1+1) 3)=some AG/\W.cell? (AK (w.heap.size+1+1) 4)=some AG/\W.cell? (AK (w.heap.size+1+1) 5)=some AG)/\∀o,o<6->W.frozen? (AK (w.heap.size+1+1) o)=false):=⟨⟨r0,r1,r2,r3,r4,r5⟩,λo ho=>by match o,ho with | 0,_=>exact v0 | 1,_=>exact v1 | 2,_=>exact v2 | 3,_=>exact v3 | 4,_=>exact v4 | 5,_=>exact v5⟩
 have ap:W.heap.size=w.heap.size+3:=by rw[i];simp
 have af:AO w W:=by rw[i];exact Bd (Bd (Aa _ _) _) _
 have bH:=AV ap;have aa:w.heap.size<W.heap.size:=AQ
 have V:w.heap.size+1<W.heap.size:=AQ
 have N:w.heap.size+1+1<W.heap.size:=AQ
 have eU:=AV (λq hq=>HP.hca.1.lt q hq);clear i ap r0 r1 r2 r3 r4 r5 v0 v1 v2 v3 v4 v5;have qf:Hid (∀aj,AO w aj->0<n.length->∃p,L=some p/\∀ai ah,(Jc n)[ai]?=some ah->aj.cell? (p.add ai)=some ah):=by
  intro aj hV hz;obtain⟨g,c,hv,_,_,_,ax⟩:=Cb (ownsRow_below HP.ckr hV) hz;simp only[Value.slice.injEq] at hv;exact⟨(AK g 0),hv.1,λai ah hu=>by rw[Addr.add_lit];simpa using ax ai ah hu⟩
 go_region_held3 (λR=>(R.cell? (AL w 0)=some (AB F)/\R.cell? (AL w 1)=some (AB o1)/\R.cell? (AL w 2)=some (AE C j.length D)/\R.cell? (AL w 3)=some (AE B k.length E)/\R.cell? (AL w 4)=some (AE G m.length H)/\R.cell? (AK (w.heap.size+1) 0)=some (AB u)/\R.cell? (AK (w.heap.size+1) 1)=some (AB o2)/\R.cell? (AK (w.heap.size+1) 2)=some (AE t d.length A)/\R.cell? (AK (w.heap.size+1) 3)=some (AE z f.length y)/\R.cell? (AK (w.heap.size+1) 4)=some (AE L n.length O)/\R.cell? (AK (w.heap.size+1) 5)=some (AE I ks.length J))) (first | with_reducible assumption | with_reducible exact⟨Gz.trans p0,Gz.trans p1,Gz.trans p2,Gz.trans p3,Gz.trans p4,Gz.trans q0,Gz.trans q1,Gz.trans q2,Gz.trans q3,Gz.trans q4,Gz.trans q5⟩ | with_reducible exact⟨set6O BF S.1,set6O BF S.2.1,set6O BF S.2.2.1,set6O BF S.2.2.2.1,set6O BF S.2.2.2.2.1,set6O BF S.2.2.2.2.2.1,set6O BF S.2.2.2.2.2.2.1,set6O BF S.2.2.2.2.2.2.2.1,set6O BF S.2.2.2.2.2.2.2.2.1,set6O BF S.2.2.2.2.2.2.2.2.2.1,set6O BF S.2.2.2.2.2.2.2.2.2.2⟩ | skip) (first | (go_at_call 125;refine(mr.out _ (by exact af.drew)).mono ?_;rintro e T ⟨⟨mk,aJ,aG,x0,y0,x1,y1,aF,rfl,ao,al,ak⟩,av⟩;have b:=((Below.refl W.heap.size W).drew).trans av;have U:=af.trans (b.mono af.size);have ae:=CB aa b.size;have ab:=CB V b.size;have K:=CB N b.size;have aT:=AV ao;have aO:=AV al;have fQ:Hid (∀x∈(Ak.mk mk aJ aG (AE x0 aG.length y0) (AE x1 aF.length y1) aF).vals,x∈(Ak.mk F o1 j (AE C j.length D) (AE B k.length E) k).vals++(Ak.mk u o2 d (AE t d.length A) (AE z f.length y) f).vals\/∀q,x.ownBlock=some q->W.heap.size<=q):=ak;have P:(T.cell? (AL w 0)=some (AB F)/\T.cell? (AL w 1)=some (AB o1)/\T.cell? (AL w 2)=some (AE C j.length D)/\T.cell? (AL w 3)=some (AE B k.length E)/\T.cell? (AL w 4)=some (AE G m.length H)/\T.cell? (AK (w.heap.size+1) 0)=some (AB u)/\T.cell? (AK (w.heap.size+1) 1)=some (AB o2)/\T.cell? (AK (w.heap.size+1) 2)=some (AE t d.length A)/\T.cell? (AK (w.heap.size+1) 3)=some (AE z f.length y)/\T.cell? (AK (w.heap.size+1) 4)=some (AE L n.length O)/\T.cell? (AK (w.heap.size+1) 5)=some (AE I ks.length J)):=⟨(b.cell (p:=(AL w 0)) aa).trans p0,(b.cell (p:=(AL w 1)) aa).trans p1,(b.cell (p:=(AL w 2)) aa).trans p2,(b.cell (p:=(AL w 3)) aa).trans p3,(b.cell (p:=(AL w 4)) aa).trans p4,(b.cell (p:=(AK (w.heap.size+1) 0)) V).trans q0,(b.cell (p:=(AK (w.heap.size+1) 1)) V).trans q1,(b.cell (p:=(AK (w.heap.size+1) 2)) V).trans q2,(b.cell (p:=(AK (w.heap.size+1) 3)) V).trans q3,(b.cell (p:=(AK (w.heap.size+1) 4)) V).trans q4,(b.cell (p:=(AK (w.heap.size+1) 5)) V).trans q5⟩;clear ao al ak av) | (refine Zu rfl _ _ rfl base G H m n L O rfl rfl ((HP.out.below U).hca) (qf.out _ U) ((HP.out.below U).hck) HP.out.coils ay (CJ au U.size) ?_;intro a6 c6 Q bC l aW;have iQ:=AV bC;have bJ:=AV l;have wz:=AV aW;have X:(Value.slice G m.length H).ownBlock≠some (w.heap.size+1):=(λe=>by have:=(eU.out _ e).2;omega);have M:(Value.slice G m.length H).ownBlock≠some (w.heap.size+1+1):=(λe=>by have:=(eU.out _ e).2;omega);have oU:=CB K l.size;have ac:(Value.slice G m.length H).ownBlock≠some (w.heap.size):=(λe=>by have:=(eU.out _ e).2;omega);have S:(Q.cell? (AL w 0)=some (AB F)/\Q.cell? (AL w 1)=some (AB o1)/\Q.cell? (AL w 2)=some (AE C j.length D)/\Q.cell? (AL w 3)=some (AE B k.length E)/\Q.cell? (AL w 4)=some (AE G m.length H)/\Q.cell? (AK (w.heap.size+1) 0)=some (AB u)/\Q.cell? (AK (w.heap.size+1) 1)=some (AB o2)/\Q.cell? (AK (w.heap.size+1) 2)=some (AE t d.length A)/\Q.cell? (AK (w.heap.size+1) 3)=some (AE z f.length y)/\Q.cell? (AK (w.heap.size+1) 4)=some (AE L n.length O)/\Q.cell? (AK (w.heap.size+1) 5)=some (AE I ks.length J)):=⟨(Dx l ae ac).trans P.1,(Dx l ae ac).trans P.2.1,(Dx l ae ac).trans P.2.2.1,(Dx l ae ac).trans P.2.2.2.1,(Dx l ae ac).trans P.2.2.2.2.1,(Dx l ab X).trans P.2.2.2.2.2.1,(Dx l ab X).trans P.2.2.2.2.2.2.1,(Dx l ab X).trans P.2.2.2.2.2.2.2.1,(Dx l ab X).trans P.2.2.2.2.2.2.2.2.1,(Dx l ab X).trans P.2.2.2.2.2.2.2.2.2.1,(Dx l ab X).trans P.2.2.2.2.2.2.2.2.2.2⟩;obtain⟨⟨r0,r1,r2,r3,r4,r5⟩,Z⟩:=aA.out;have t0:=(Dx l K M).trans ((b.cell (p:=(AK (w.heap.size+1+1) 0)) N).trans r0);have t1:=(Dx l K M).trans ((b.cell (p:=(AK (w.heap.size+1+1) 1)) N).trans r1);have t2:=(Dx l K M).trans ((b.cell (p:=(AK (w.heap.size+1+1) 2)) N).trans r2);have t3:=(Dx l K M).trans ((b.cell (p:=(AK (w.heap.size+1+1) 3)) N).trans r3);have t4:=(Dx l K M).trans ((b.cell (p:=(AK (w.heap.size+1+1) 4)) N).trans r4);have t5:=(Dx l K M).trans ((b.cell (p:=(AK (w.heap.size+1+1) 5)) N).trans r5);have m0:=(Ik l K M).trans ((b.frozen (p:=(AK (w.heap.size+1+1) 0)) N).trans (Z 0 BF));have m1:=(Ik l K M).trans ((b.frozen (p:=(AK (w.heap.size+1+1) 1)) N).trans (Z 1 BF));have m2:=(Ik l K M).trans ((b.frozen (p:=(AK (w.heap.size+1+1) 2)) N).trans (Z 2 BF));have m3:=(Ik l K M).trans ((b.frozen (p:=(AK (w.heap.size+1+1) 3)) N).trans (Z 3 BF));have m4:=(Ik l K M).trans ((b.frozen (p:=(AK (w.heap.size+1+1) 4)) N).trans (Z 4 BF));have m5:=(Ik l K M).trans ((b.frozen (p:=(AK (w.heap.size+1+1) 5)) N).trans (Z 5 BF));clear bC aW ac X M P r0 r1 r2 r3 r4 r5 Z))
 all_goals
  try go_wp2
  have hj:=HP.join (lo:=W.heap.size) U aT fQ af.size b.size iQ bJ wz.out;refine bodyPost_ret (v:=.agg #[AB mk,AB aJ,AE x0 aG.length y0,AE x1 aF.length y1,AE a6 (m.length+n.length) c6,AE I ks.length J]) (by simp[results,results85,go_sem,t0,t1,t2,t3,t4,t5]) rfl ⟨⟨mk,aJ,aG,x0,y0,aF,x1,y1,m++n,a6,c6,ks,I,J,by rw[CM],?_,?_,?_⟩,?_⟩
  ·rw[CM]
   exact Lt.setO6 hj.1 (λx hx e=>by rcases hj.2 x hx _ e with⟨h1,_⟩ | h1<;>(have I:=bH.out;omega))
  ·rw[Bq.arm_eq]
   simp only;rw[aO.out]
  ·rw[CM]
   intro x hx q hq;rcases hj.2 x hx q hq with⟨_,ag,s,e⟩ | h1
   ·exact .inl ⟨ag,fV ag s,e⟩
   ·exact .inr (by have I:=bH.out;omega)
  ·have az:=nK U bJ.out
   clear U b af;repeat (refine nr ?_ AQ _)
   exact az
def B6 (w:World)(b:Nat)(v0 v1 v2 v3 v4 v5:Value):Prop:=b<w.heap.size/\(w.cell? ⟨b,0,none⟩=some v0/\w.cell? ⟨b,1,none⟩=some v1/\w.cell? ⟨b,2,none⟩=some v2/\w.cell? ⟨b,3,none⟩=some v3/\w.cell? ⟨b,4,none⟩=some v4/\w.cell? ⟨b,5,none⟩=some v5)/\∀o,o<6->w.frozen? ⟨b,o,none⟩=false
theorem B6.below {w:World}{n b:Nat}{v0:Value}(h:B6 w b v0 v1 v2 v3 v4 v5)(d:Below n w w')(e:b<n):B6 w' b v0 v1 v2 v3 v4 v5:=by
 obtain⟨q,⟨m,i,g,k,s,j⟩,f⟩:=h;refine⟨CB q d.size,⟨(d.cell (p:=(AK b 0)) e).trans m,(d.cell (p:=(AK b 1)) e).trans i,(d.cell (p:=(AK b 2)) e).trans g,(d.cell (p:=(AK b 3)) e).trans k,(d.cell (p:=(AK b 4)) e).trans s,(d.cell (p:=(AK b 5)) e).trans j⟩,λo l=>(d.frozen (p:=(AK b o)) e).trans (f o l)⟩
theorem B6.at {w:World}{b:Nat}{v0:Value}(h:B6 w b v0 v1 v2 v3 v4 v5)(d:AO w w'):B6 w' b v0 v1 v2 v3 v4 v5:=h.below d h.1
theorem B6.grown {w:World}{b:Nat}{v0:Value}(h:B6 w b v0 v1 v2 v3 v4 v5)(hg:w.grownBy w' r)(e:r≠some b):B6 w' b v0 v1 v2 v3 v4 v5:=by
 obtain⟨d,⟨m,i,g,k,n,j⟩,f⟩:=h;exact⟨CB d hg.size,⟨(Dx hg d e).trans m,(Dx hg d e).trans i,(Dx hg d e).trans g,(Dx hg d e).trans k,(Dx hg d e).trans n,(Dx hg d e).trans j⟩,λo l=>(Ik hg d e).trans (f o l)⟩
theorem B6.drew {w:World}{b:Nat}{v0:Value}(h:B6 w b v0 v1 v2 v3 v4 v5):B6 w.drew b v0 v1 v2 v3 v4 v5:=h
theorem B6.setO {w:World}{b:Nat}{v0:Value}(h:B6 w b v0 v1 v2 v3 v4 v5)(d:b≠c)(u:Value):B6 (w.setCell (AK c o) u) b v0 v1 v2 v3 v4 v5:=by
 obtain⟨m,⟨l,g,e,j,n,i⟩,f⟩:=h;exact⟨CB m (I7 _ _ _),⟨(Bj d).trans l,(Bj d).trans g,(Bj d).trans e,(Bj d).trans j,(Bj d).trans n,(Bj d).trans i⟩,λo k=>Ou.trans (f o k)⟩
theorem B6.set6O {w:World}{b:Nat}{v0:Value}(h:B6 w b v0 v1 v2 v3 v4 v5)(d:b≠c):B6 ((((((w.setCell (AK c 0) u0).setCell (AK c 1) u1).setCell (AK c 2) u2).setCell (AK c 3) u3).setCell (AK c 4) u4).setCell (AK c 5) u5) b v0 v1 v2 v3 v4 v5:=
 (((((h.setO d u0).setO d u1).setO d u2).setO d u3).setO d u4).setO d u5
theorem B6.set4O {w:World}{b:Nat}{v0:Value}(h:B6 w b v0 v1 v2 v3 v4 v5)(d:b≠c):B6 ((((w.setCell (AK c 0) u0).setCell (AK c 1) u1).setCell (AK c 2) u2).setCell (AK c 3) u3) b v0 v1 v2 v3 v4 v5:=
 (((h.setO d u0).setO d u1).setO d u2).setO d u3
theorem B6.set0 {w:World}{b:Nat}{v0:Value}(h:B6 w b v0 v1 v2 v3 v4 v5)(u:Value):B6 (w.setCell (AK b 0) u) b u v1 v2 v3 v4 v5:=by
 obtain⟨l,⟨k,e,d,i,m,g⟩,f⟩:=h;exact⟨CB l (I7 _ _ _),⟨Fb k,(A7 AQ).trans e,(A7 AQ).trans d,(A7 AQ).trans i,(A7 AQ).trans m,(A7 AQ).trans g⟩,λo j=>Ou.trans (f o j)⟩
theorem B6.set1 {w:World}{b:Nat}{v0:Value}(h:B6 w b v0 v1 v2 v3 v4 v5)(u:Value):B6 (w.setCell (AK b 1) u) b v0 u v2 v3 v4 v5:=by
 obtain⟨l,⟨k,e,d,i,m,g⟩,f⟩:=h;exact⟨CB l (I7 _ _ _),⟨(A7 AQ).trans k,Fb e,(A7 AQ).trans d,(A7 AQ).trans i,(A7 AQ).trans m,(A7 AQ).trans g⟩,λo j=>Ou.trans (f o j)⟩
theorem B6.set2 {w:World}{b:Nat}{v0:Value}(h:B6 w b v0 v1 v2 v3 v4 v5)(u:Value):B6 (w.setCell (AK b 2) u) b v0 v1 u v3 v4 v5:=by
 obtain⟨l,⟨k,e,d,i,m,g⟩,f⟩:=h;exact⟨CB l (I7 _ _ _),⟨(A7 AQ).trans k,(A7 AQ).trans e,Fb d,(A7 AQ).trans i,(A7 AQ).trans m,(A7 AQ).trans g⟩,λo j=>Ou.trans (f o j)⟩
theorem B6.set3 {w:World}{b:Nat}{v0:Value}(h:B6 w b v0 v1 v2 v3 v4 v5)(u:Value):B6 (w.setCell (AK b 3) u) b v0 v1 v2 u v4 v5:=by
 obtain⟨l,⟨k,e,d,i,m,g⟩,f⟩:=h;exact⟨CB l (I7 _ _ _),⟨(A7 AQ).trans k,(A7 AQ).trans e,(A7 AQ).trans d,Fb i,(A7 AQ).trans m,(A7 AQ).trans g⟩,λo j=>Ou.trans (f o j)⟩
theorem B6.set4 {w:World}{b:Nat}{v0:Value}(h:B6 w b v0 v1 v2 v3 v4 v5)(u:Value):B6 (w.setCell (AK b 4) u) b v0 v1 v2 v3 u v5:=by
 obtain⟨l,⟨k,e,d,i,m,g⟩,f⟩:=h;exact⟨CB l (I7 _ _ _),⟨(A7 AQ).trans k,(A7 AQ).trans e,(A7 AQ).trans d,(A7 AQ).trans i,Fb m,(A7 AQ).trans g⟩,λo j=>Ou.trans (f o j)⟩
theorem B6.set5 {w:World}{b:Nat}{v0:Value}(h:B6 w b v0 v1 v2 v3 v4 v5)(u:Value):B6 (w.setCell (AK b 5) u) b v0 v1 v2 v3 v4 u:=by
 obtain⟨l,⟨k,e,d,i,m,g⟩,f⟩:=h;exact⟨CB l (I7 _ _ _),⟨(A7 AQ).trans k,(A7 AQ).trans e,(A7 AQ).trans d,(A7 AQ).trans i,(A7 AQ).trans m,Fb g⟩,λo j=>Ou.trans (f o j)⟩
theorem B6.set6 {w:World}{b:Nat}{v0:Value}(h:B6 w b v0 v1 v2 v3 v4 v5):B6 ((((((w.setCell (AK b 0) u0).setCell (AK b 1) u1).setCell (AK b 2) u2).setCell (AK b 3) u3).setCell (AK b 4) u4).setCell (AK b 5) u5) b u0 u1 u2 u3 u4 u5:=
 (((((h.set0 u0).set1 u1).set2 u2).set3 u3).set4 u4).set5 u5
theorem B6.setN {w:World}{b:Nat}{v0:Value}(h:B6 w b v0 v1 v2 v3 v4 v5):B6 ((((w.setCell (AK b 0) u0).setCell (AK b 1) u1).setCell (AK b 2) u2).setCell (AK b 3) u3) b u0 u1 u2 u3 v4 v5:=
 (((h.set0 u0).set1 u1).set2 u2).set3 u3
theorem B6.new (w:World)(v0 v1 v2 v3 v4 v5:Value)(t:TypeId):B6 (w.alloc (.cells #[v0,v1,v2,v3,v4,v5] t)) w.heap.size v0 v1 v2 v3 v4 v5:=by
 refine⟨AU,⟨?_,?_,?_,?_,?_,?_⟩,λo _=>?_⟩<;>simp[go_sem]
def NM (w:World)(b:Nat)(m:Bq):Prop:=B6 w b (AB m.net.kind) (AB m.net.op) m.net.av m.net.kv m.cv m.kv
