import Derived.Test.YtobbpffcggchmaaGreatDoorGs
import Derived.Deep.RegionHeld3
namespace Go.Proofs.YtobbpffcggchmaaGreatDoor
open Tryz
open Stil
open Go.RowKit Go.Sort Go.BigFrame
variable {a:Addr}{base c o o1 o2 o3 o4 o5 o6:Nat}{dX mM fK u0 u1 u2 u3 u4 u5 u6 v1 v2 v3 v4 v5:Value}{r:Option Nat}{w':World}
theorem Afz {ops:Array Oper}{o:Oper}{a:Act}{w:World}{K:Act->World->Prop}{Q:Exit->Act->World->Prop}{E:Prop}
  (hg:o.guard=none) (s x:Operand) (hop:o.op=.call {callee:=.builtin .append,args:=#[s,x],argTypes:=#[35,35]})
  (base:Nat) (ra:Option Addr) (rc:Nat) (ms b:List Fg) (ad:Option Addr) (c:Nat) (hs:a.eval s=.slice ra ms.length rc) (hx:a.eval x=.slice ad b.length c)
  (hrow:Yb w base (.slice ra ms.length rc) ms) (v:0<b.length->∃p,ad=some p/\∀j u,(Jh b)[j]?=some u->w.cell? (p.add j)=some u)
  (q:∀m∈b,EOk w base m) (G:(Value.slice ra ms.length rc::(Hq ms++Hq b)).Pairwise Aside) (hl:ms.length+b.length<=1000000) (I:base<=w.heap.size)
  (n:∀i d w',Yb w' base (.slice i (ms.length+b.length) d) (ms++b)->w.grownBy w' (Value.slice ra ms.length rc).ownBlock->((Value.slice i (ms.length+b.length) d).ownBlock=(Value.slice ra ms.length rc).ownBlock\/(Value.slice i (ms.length+b.length) d).ownBlock=some w.heap.size)->K (a.put o.dst (.slice i (ms.length+b.length) d)) w'):
  if Region.wanted o (yielded ops a.tmps)=true then Oper.wp prog o a w K Q else E:=by
 obtain⟨C,hi,y,D,F⟩:=info_parts Alr;by_cases hd:b.length=0
 ·have M:=List.length_eq_zero_iff.1 hd
  subst M;have H:Region.wanted o (yielded ops a.tmps)=true:=by simp[Region.wanted,hg]
  rw[if_pos H];have hcap:ms.length<=rc:=by
   rcases hrow.1.2 with⟨k,f⟩ | ⟨g,d,cur,k,_,_,J,_⟩
   ·rw[f];exact Ban _
   ·simp only[Value.slice.injEq] at k
    rw[k.2.2];exact J
  have hk2:=n ra rc w yCf (Aez _ _) (.inl spz);simp only[A85,Ba8] at hk2 hx;unfold Oper.wp execOp;cases ad
  ·exact zh0
  ·exact ze0
 ·obtain⟨p,rfl,A⟩:=v omz
  refine Eo hg s x _ hop base 27 C _ 2 32 underlying35 hi y D F rfl dcz _ _ (Jh ms) hs hrow.1 _ _ _ (Jh b) hx (Ahv b) A (Ae4 q) yAe omz I ?_;intro N w' f l t;obtain⟨L,z,B⟩:=Ac f;subst B;exact n L z w' (hrow.add q G f l t) l t
structure Parts (w:World)(base:Nat)(na nk:Ah)(dX:Value)(ca:List Fg)(mM:Value)(ck:List Fg)(fK:Value)(kk:List Dw):Prop where
 hna:MOk w base na
 hnk:MOk w base nk
 hca:Yb w base dX ca
 hck:∀m∈ck,EOk w base m
 ckr:w.ownsRow base 27 2 mM ck.length (Jh ck)
 hkk:Ue w base fK kk
 nets:(na.vals++nk.vals).Pairwise Aside
 coils:(dX::(Hq ca++Hq ck)).Pairwise Aside
 nc:∀x∈na.vals++nk.vals,∀y∈dX::(Hq ca++Hq ck),Aside x y
 nkk:∀x∈na.vals++nk.vals,∀y∈fK::Il kk,Aside x y
 ckk:∀x∈dX::(Hq ca++Hq ck),∀y∈fK::Il kk,Aside x y
theorem Qz.parts {w:World}{n e:Ah}{k:Value}{j b:List Fg}{d:List Dw}(h:Qz w base ⟨n,dX,j,k,[⟨e,mM,b,fK,d⟩]⟩):Parts w base n e dX j mM b fK d:=by
 obtain⟨O,g⟩:=h;obtain⟨C,⟨z,D⟩,_,P⟩:=(Lj _ _ _).1 O;obtain⟨s,⟨t,v⟩,q,A⟩:=(Lj _ _ _).1 (P ⟨e,mM,b,fK,d⟩ spz);simp only at C z D s t v q A;rw[Dw.vals_eq] at g;simp only[Afk] at g;rw[Dw.vals_eq] at g;simp only at g;obtain⟨M,N,l⟩:=List.pairwise_append.1 g;obtain⟨i,E,f⟩:=List.pairwise_append.1 N;obtain⟨_,K⟩:=List.pairwise_cons.1 E;obtain⟨F,I,u⟩:=List.pairwise_append.1 K;obtain⟨L,G,H⟩:=List.pairwise_append.1 I;have Q:∀y∈e.vals,y∈(dX::Hq j)++(k::(e.vals++((mM::Hq b)++(fK::Il d)))):=λy hy=>by simp[hy]
 have B:∀y∈Hq b,y∈k::(e.vals++((mM::Hq b)++(fK::Il d))):=λy hy=>by simp[hy]
 have m:∀y∈fK::Il d,y∈k::(e.vals++((mM::Hq b)++(fK::Il d))):=λy hy=>by simp only[A9o,A9g] at hy ⊢;exact .inr (.inr (.inr hy))
 have J:(dX::(Hq j++Hq b)).Pairwise Aside:=by
  rw[A9p] at i ⊢;refine⟨λy hy=>?_,List.pairwise_append.2 ⟨i.2,(List.pairwise_cons.1 L).2,λx hx y hy=>f x (A87 _ hx) y (B y hy)⟩⟩;rcases List.mem_append.1 hy with hy | hy
  ·exact i.1 y hy
  ·exact f dX spz y (B y hy)
 refine⟨C,s,⟨z,D,i⟩,v,t,⟨q,A,G⟩,List.pairwise_append.2 ⟨M,F,λx hx y hy=>l x hx y (Q y hy)⟩,J,λx hx y hy=>?_,λx hx y hy=>?_,λx hx y hy=>?_⟩
 ·rcases List.mem_append.1 hx with hx | hx
  ·refine l x hx y ?_
   simp only[A9o,A9g] at hy ⊢;rcases hy with hy | hy | hy
   ·exact .inl (.inl hy)
   ·exact .inl (.inr hy)
   ·exact .inr (.inr (.inr (.inl (.inr hy))))
  ·simp only[A9o,A9g] at hy
   rcases hy with hy | hy | hy
   ·exact(f y yCg x yBj).symm
   ·exact(f y yCg x yBj).symm
   ·exact u x hx y yCg
 ·rcases List.mem_append.1 hx with hx | hx
  ·exact l x hx y (A9b _ (m y hy))
  ·exact u x hx y (A9b _ hy)
 ·simp only[A9o,A9g] at hx
  rcases hx with hx | hx | hx
  ·exact f x yBj y (m y hy)
  ·exact f x yBj y (m y hy)
  ·exact H x (A87 _ hx) y hy
theorem Parts.below {w:World}{d i:Ah}{g e:List Fg}{f:List Dw}(h:Parts w base d i dX g mM e fK f)(b:Below w.heap.size w w'):Parts w' base d i dX g mM e fK f:=
 ⟨h.hna.below b,h.hnk.below b,h.hca.below b,λm j=>ownsRow_below (h.hck m j) b,ownsRow_below h.ckr b,h.hkk.below b,h.nets,h.coils,h.nc,h.nkk,h.ckk⟩
theorem Parts.join {w w1 B:World}{lo:Nat}{v A t:Ah}{i:Value}{j k:List Fg}{l:List Dw}(g:Parts w base v A dX j mM k fK l)(M:Below w.heap.size w w1)(I:I7 w1 base t)(R:∀x∈t.vals,x∈v.vals++A.vals\/∀q,x.ownBlock=some q->lo<=q)(U:w.heap.size<=lo)(S:lo<=w1.heap.size)
  (F:Yb B base i (j++k)) (hg:w1.grownBy B dX.ownBlock) (N:i.ownBlock=dX.ownBlock\/i.ownBlock=some w1.heap.size):Qz B base ⟨t,i,j++k,fK,l⟩/\∀x∈(Dw.mk t i (j++k) fK l).vals,∀q,x.ownBlock=some q->(q<w.heap.size/\∃y∈v.vals++A.vals++((dX::(Hq j++Hq k))++(fK::Il l)),y.ownBlock=some q)\/lo<=q:=by
 have V:∀x∈v.vals++A.vals,∀q,x.ownBlock=some q->q<w.heap.size:=by
  intro x b q f;rcases List.mem_append.1 b with b | b
  ·exact(g.hna.lt _ x b q f).2
  ·exact(g.hnk.lt _ x b q f).2
 have C:∀y∈dX::(Hq j++Hq k),∀q,y.ownBlock=some q->q<w.heap.size:=by
  intro y d q f;simp only[A9o,A9g] at d;rcases d with rfl | d | d
  ·exact(g.hca.1.lt q f).2
  ·exact(g.hca.lt y (A87 _ d) q f).2
  ·obtain⟨m,D,rfl⟩:=Qh.1 d
   exact((g.hck m D).lt q f).2
 have E:=λy d q f=>(g.hkk.lt y d q f).2
 have H:∀x∈t.vals,∀y,(∀q,y.ownBlock=some q->q<w.heap.size)->(∀z∈v.vals++A.vals,Aside z y)->Aside x y:=by
  intro x b y d s;rcases R x b with h | h
  ·exact s x h
  ·exact(Eg (n:=w.heap.size) d (λq f=>A9f U (h q f))).symm
 have J:∀y,(∀q,y.ownBlock=some q->q<w1.heap.size)->Aside dX y->Aside i y:=by
  intro y d T;rcases N with e | e
  ·rcases T with h0 | h0
   ·exact .inl yCb
   ·exact .inr yCb
  ·refine .inr (λQ=>?_)
   rw[e] at Q;have:=d _ Q.symm
   omega
 have W:=M.size;have D:=λx b=>H x b dX (C dX spz) (λz s=>g.nc z s dX spz)
 have G:=g.hkk.below M;have P:Ue B base fK l:=⟨G.1.kept hg (g.ckk dX spz fK spz).symm,λm O=>(G.2.1 m O).kept hg (λu hu=>(g.ckk dX spz u (A87 _ (Nj.2 ⟨m,O,hu⟩))).symm),G.2.2⟩
 have K:(Dw.mk t i (j++k) fK l).vals=t.vals++((i::(Hq j++Hq k))++(fK::Il l)):=by rw[Dw.vals_eq,Xg]
 refine⟨⟨(Lj _ _ _).2 ⟨I.1.kept hg D,⟨F.1,F.2.1⟩,P.1,P.2.1⟩,?_⟩,?_⟩
 ·rw[K]
  have L:=F.2.2;rw[Xg] at L;refine List.pairwise_append.2 ⟨I.2,List.pairwise_append.2 ⟨L,g.hkk.2.2,λx b y d=>?_⟩,λx b y d=>?_⟩
  ·rcases List.mem_cons.1 b with rfl | b
   ·exact J y (λq f=>by have:=E y d q f;omega) (g.ckk dX spz y d)
   ·exact g.ckk x (A87 _ b) y d
  ·rcases List.mem_append.1 d with d | d
   ·rcases List.mem_cons.1 d with rfl | d
    ·exact(J x (λq f=>(I.1.lt _ x b q f).2) (D x b).symm).symm
    ·exact H x b y (C y (A87 _ d)) (λz s=>g.nc z s y (A87 _ d))
   ·exact H x b y (E y d) (λz s=>g.nkk z s y d)
 ·intro x b q f
  rw[K] at b;rcases List.mem_append.1 b with b | b
  ·rcases R x b with h | h
   ·exact .inl ⟨V x h q f,x,A9e _ h,f⟩
   ·exact .inr (h q f)
  rcases List.mem_append.1 b with b | b
  ·rcases List.mem_cons.1 b with rfl | b
   ·rcases N with e | e
    ·exact .inl ⟨C dX spz q (by rw[<-e];exact f),dX,A9b _ (A9e _ spz),by rw[<-e];exact f⟩
    ·rw[e] at f;cases f;exact .inr S
   ·exact .inl ⟨C x (A87 _ b) q f,x,A9b _ (A9e _ (A87 _ b)),f⟩
  ·exact .inl ⟨E x b q f,x,A9b _ (A9b _ b),f⟩
theorem Qz.setO {w:World}{m:Dw}(h:Qz w base m)(b:∀x∈m.vals,x.ownBlock≠some a.block)(u:Value):Qz (w.setCell a u) base m:=⟨AOk.map m h.1 (λ_ _ _ _ _ e d=>ownsRow_setCell_other d (b _ e) u),h.2⟩
theorem Qz.setO6 {w:World}{b:Nat}{m:Dw}(h:Qz w base m)(d:∀x∈m.vals,x.ownBlock≠some b):Qz ((((((w.setCell ⟨b,o1,none⟩ u1).setCell ⟨b,o2,none⟩ u2).setCell ⟨b,o3,none⟩ u3).setCell ⟨b,o4,none⟩ u4).setCell ⟨b,o5,none⟩ u5).setCell ⟨b,o6,none⟩ u6) base m:=
 Qz.setO (Qz.setO (Qz.setO (Qz.setO (Qz.setO (Qz.setO h (a:=⟨b,o1,none⟩) d u1) (a:=⟨b,o2,none⟩) d u2) (a:=⟨b,o3,none⟩) d u3) (a:=⟨b,o4,none⟩) d u4) (a:=⟨b,o5,none⟩) d u5) (a:=⟨b,o6,none⟩) d u6
def A6q (w:World)(base:Nat)(vs:List Value)(lo:Nat)(a:Stil.Arm)(e:Ending):Prop:=∃(k op:Int) (d:List Stil.Dev) (h:Option Addr) (j:Nat) (ns:List Ah) (p:Option Addr) (n:Nat) (f:List Fg) (l:Option Addr) (m:Nat) (b:List Dw) (i:Option Addr) (g:Nat),e=.returned (.agg #[.int .i64 k, .int .i64 op, .slice h d.length j, .slice p ns.length n, .slice l f.length m, .slice i b.length g])/\Qz w base ⟨⟨k,op,d, .slice h d.length j, .slice p ns.length n,ns⟩, .slice l f.length m,f, .slice i b.length g,b⟩/\(Dw.mk ⟨k,op,d, .slice h d.length j, .slice p ns.length n,ns⟩ (.slice l f.length m) f (.slice i b.length g) b).arm=a/\∀x∈(Dw.mk ⟨k,op,d, .slice h d.length j, .slice p ns.length n,ns⟩ (.slice l f.length m) f (.slice i b.length g) b).vals,∀q,x.ownBlock=some q->(∃y∈vs,y.ownBlock=some q)\/lo<=q
theorem A7h {a b c:World}(h:Below a.heap.size a b)(k:b.grownBy c r):a.grownBy c r:=
 ⟨k.os.trans h.os,k.tape.trans h.tape,k.output.trans h.output,A9f h.size k.size,λj d e=>(k.block j (A82 d h.size) e).trans (h.block j d)⟩
theorem A8m {w a:World}{b:Nat}(h:w.grownBy a r)(f:w.heap.size<=b)(v:Value):w.grownBy (a.setCell ⟨b,o,none⟩ v) r:=
 ⟨h.os,h.tape,h.output,by simpa using h.size,λk d e=>by
  rw[<-h.block k d e];simp only[World.setCell,Ba9]
  rw[if_neg omz]⟩
theorem Jr {W:World}:W.drew.cell? a=W.cell? a:=rfl
theorem set6O {w:World}{b:Nat}{v:Value}(h:b≠c)(d:w.cell? ⟨b,o,none⟩=some v):((((((w.setCell ⟨c,o1,none⟩ u1).setCell ⟨c,o2,none⟩ u2).setCell ⟨c,o3,none⟩ u3).setCell ⟨c,o4,none⟩ u4).setCell ⟨c,o5,none⟩ u5).setCell ⟨c,o6,none⟩ u6).cell? ⟨b,o,none⟩=some v:=
 (Bz h).trans ((Bz h).trans ((Bz h).trans ((Bz h).trans ((Bz h).trans ((Bz h).trans d)))))
set_option maxHeartbeats 8000000 in
set_option maxRecDepth 100000 in
theorem Atj (F o1:Int)(k:List Stil.Dev)(C:Option Addr)(E:Nat)(G:Option Addr)(D:Nat)(j:List Ah)(I:Option Addr)(H:Nat)(l:List Fg)(h1:Option Addr)(V:Nat)(u o2:Int)(d:List Stil.Dev)(z:Option Addr)(y:Nat)(A:Option Addr)(B:Nat)(b:List Ah)(M:Option Addr)(Q:Nat)(n:List Fg)(J:Option Addr)(K:Nat)(s:List Dw)(base:Nat)(w:World)
  (ho:Qz w base (Dw.mk (Ah.mk F o1 k (.slice C k.length E) (.slice G j.length D) j) (.slice I l.length H) l (.slice h1 1 V) [(Dw.mk (Ah.mk u o2 d (.slice z d.length y) (.slice A b.length B) b) (.slice M n.length Q) n (.slice J s.length K) s)])) (ap:base<=w.heap.size) (hs:Stil.sizes [(Ah.mk F o1 k (.slice C k.length E) (.slice G j.length D) j).net,(Ah.mk u o2 d (.slice z d.length y) (.slice A b.length B) b).net]<=999999) (au:Cj (Ah.mk F o1 k (.slice C k.length E) (.slice G j.length D) j).net) (ar:Cj (Ah.mk u o2 d (.slice z d.length y) (.slice A b.length B) b).net) (az:l.length+n.length<=1000000):
  Calls prog 97 #[.agg #[.int .i64 F, .int .i64 o1, .slice C k.length E, .slice G j.length D, .slice I l.length H, .slice h1 1 V], .agg #[.int .i64 u, .int .i64 o2, .slice z d.length y, .slice A b.length B, .slice M n.length Q, .slice J s.length K]] w λe w'=>A6q w' base (Dw.mk (Ah.mk F o1 k (.slice C k.length E) (.slice G j.length D) j) (.slice I l.length H) l (.slice h1 1 V) [(Dw.mk (Ah.mk u o2 d (.slice z d.length y) (.slice A b.length B) b) (.slice M n.length Q) n (.slice J s.length K) s)]).vals w.heap.size ⟨Ny (Ah.mk F o1 k (.slice C k.length E) (.slice G j.length D) j).net (Ah.mk u o2 d (.slice z d.length y) (.slice A b.length B) b).net,(l++n).map Fg.elem,s.map Dw.arm⟩ e/\w.grownBy w' (Value.slice I l.length H).ownBlock:=by
 have hP:=ho.parts;have jR:Hid (∀ah∈(Ah.mk F o1 k (.slice C k.length E) (.slice G j.length D) j).vals++(Ah.mk u o2 d (.slice z d.length y) (.slice A b.length B) b).vals++((.slice I l.length H::(Hq l++Hq n))++(.slice J s.length K::Il s)),ah∈(Dw.mk (Ah.mk F o1 k (.slice C k.length E) (.slice G j.length D) j) (.slice I l.length H) l (.slice h1 1 V) [(Dw.mk (Ah.mk u o2 d (.slice z d.length y) (.slice A b.length B) b) (.slice M n.length Q) n (.slice J s.length K) s)]).vals):=by
  intro ah t;rw[Dw.vals_eq];simp only[Afk];rw[Dw.vals_eq (Dw.mk (Ah.mk u o2 d (.slice z d.length y) (.slice A b.length B) b) (.slice M n.length Q) n (.slice J s.length K) s)];simp only[A9g,A9o] at t ⊢;rcases t with(t | t) | (t | t | t) | t | t
  ·exact .inl t
  ·exact .inr (.inr (.inr (.inl t)))
  ·exact .inr (.inl (.inl t))
  ·exact .inr (.inl (.inr t))
  ·exact .inr (.inr (.inr (.inr (.inl (.inr t)))))
  ·exact .inr (.inr (.inr (.inr (.inr (.inl t)))))
  ·exact .inr (.inr (.inr (.inr (.inr (.inr t)))))
 obtain⟨OV,tZ⟩:∃OV,OV=(Dw.mk (Ah.mk F o1 k (.slice C k.length E) (.slice G j.length D) j) (.slice I l.length H) l (.slice h1 1 V) [(Dw.mk (Ah.mk u o2 d (.slice z d.length y) (.slice A b.length B) b) (.slice M n.length Q) n (.slice J s.length K) s)]).vals:=⟨_,rfl⟩
 rw[<-tZ] at jR ⊢;clear tZ;have HP:=hid hP;have xR:=hid (λW h=>Alv F o1 k C E G D j u o2 d z y A B b base W (hP.hna.below h) (hP.hnk.below h) hP.nets (A9f ap h.size) hs au ar);obtain⟨aw,hS⟩:∃aw,aw=Ny (Ah.mk F o1 k (.slice C k.length E) (.slice G j.length D) j).net (Ah.mk u o2 d (.slice z d.length y) (.slice A b.length B) b).net:=⟨_,rfl⟩
 rw[<-hS] at xR ⊢;clear ho hP hs au ar hS;go_enter func97,ntmps97;go_upto_region 1 with fail
 obtain⟨W,i⟩:∃W,W=((w.alloc (.cells #[.int .i64 F, .int .i64 o1, .slice C k.length E, .slice G j.length D, .slice I l.length H, .slice h1 1 V] 38)).alloc (.cells #[.int .i64 u, .int .i64 o2, .slice z d.length y, .slice A b.length B, .slice M n.length Q, .slice J s.length K] 38)).alloc (.cells #[.int .i64 0, .int .i64 0, .slice none 0 0, .slice none 0 0, .slice none 0 0, .slice none 0 0] 38):=⟨_,rfl⟩
 rw[<-i];have p0:W.cell? ⟨w.heap.size,0,none⟩=some (.int .i64 F):=by rw[i];simp[go_sem]
 have p1:W.cell? ⟨w.heap.size,1,none⟩=some (.int .i64 o1):=by rw[i];simp[go_sem]
 have p2:W.cell? ⟨w.heap.size,2,none⟩=some (.slice C k.length E):=by rw[i];simp[go_sem]
 have p3:W.cell? ⟨w.heap.size,3,none⟩=some (.slice G j.length D):=by rw[i];simp[go_sem]
 have p4:W.cell? ⟨w.heap.size,4,none⟩=some (.slice I l.length H):=by rw[i];simp[go_sem]
 have p5:W.cell? ⟨w.heap.size,5,none⟩=some (.slice h1 1 V):=by rw[i];simp[go_sem]
 have q0:W.cell? ⟨w.heap.size+1,0,none⟩=some (.int .i64 u):=by rw[i];simp[go_sem]
 have q1:W.cell? ⟨w.heap.size+1,1,none⟩=some (.int .i64 o2):=by rw[i];simp[go_sem]
 have q2:W.cell? ⟨w.heap.size+1,2,none⟩=some (.slice z d.length y):=by rw[i];simp[go_sem]
 have q3:W.cell? ⟨w.heap.size+1,3,none⟩=some (.slice A b.length B):=by rw[i];simp[go_sem]
 have q4:W.cell? ⟨w.heap.size+1,4,none⟩=some (.slice M n.length Q):=by rw[i];simp[go_sem]
 have q5:W.cell? ⟨w.heap.size+1,5,none⟩=some (.slice J s.length K):=by rw[i];simp[go_sem]
 have r0:W.cell? ⟨w.heap.size+1+1,0,none⟩=some (.int .i64 0):=by rw[i];simp[go_sem]
 have r1:W.cell? ⟨w.heap.size+1+1,1,none⟩=some (.int .i64 0):=by rw[i];simp[go_sem]
 have r2:W.cell? ⟨w.heap.size+1+1,2,none⟩=some (.slice none 0 0):=by rw[i];simp[go_sem]
 have r3:W.cell? ⟨w.heap.size+1+1,3,none⟩=some (.slice none 0 0):=by rw[i];simp[go_sem]
 have r4:W.cell? ⟨w.heap.size+1+1,4,none⟩=some (.slice none 0 0):=by rw[i];simp[go_sem]
 have r5:W.cell? ⟨w.heap.size+1+1,5,none⟩=some (.slice none 0 0):=by rw[i];simp[go_sem]
 have v0:W.frozen? ⟨w.heap.size+1+1,0,none⟩=false:=by rw[i];simp[go_sem]
 have v1:W.frozen? ⟨w.heap.size+1+1,1,none⟩=false:=by rw[i];simp[go_sem]
 have v2:W.frozen? ⟨w.heap.size+1+1,2,none⟩=false:=by rw[i];simp[go_sem]
 have v3:W.frozen? ⟨w.heap.size+1+1,3,none⟩=false:=by rw[i];simp[go_sem]
 have v4:W.frozen? ⟨w.heap.size+1+1,4,none⟩=false:=by rw[i];simp[go_sem]
 have v5:W.frozen? ⟨w.heap.size+1+1,5,none⟩=false:=by rw[i];simp[go_sem]
 have aE:Hid ((W.cell? ⟨w.heap.size+1+1,0,none⟩=some (.int .i64 0)/\W.cell? ⟨w.heap.size+1+1,1,none⟩=some (.int .i64 0)/\W.cell? ⟨w.heap.size+1+1,2,none⟩=some (.slice none 0 0)/\W.cell? ⟨w.heap.size+1+1,3,none⟩=some (.slice none 0 0)/\W.cell? ⟨w.heap.size+1+1,4,none⟩=some (.slice none 0 0)/\W.cell? ⟨w.heap.size+1+1,5,none⟩=some (.slice none 0 0))/\∀o,o<6->W.frozen? ⟨w.heap.size+1+1,o,none⟩=false):=⟨⟨r0,r1,r2,r3,r4,r5⟩,λo ho=>by match o,ho with | 0,_=>exact v0 | 1,_=>exact v1 | 2,_=>exact v2 | 3,_=>exact v3 | 4,_=>exact v4 | 5,_=>exact v5⟩
 have an:W.heap.size=w.heap.size+3:=by rw[i];simp
 have ag:Below w.heap.size w W:=by rw[i];exact Be (Be (Aa _ _) _) _
 have dZ:=hid an;have ae:w.heap.size<W.heap.size:=omz
 have Z:w.heap.size+1<W.heap.size:=omz
 have O:w.heap.size+1+1<W.heap.size:=omz
 have iQ:=hid (λq hq=>HP.hca.1.lt q hq);clear i an r0 r1 r2 r3 r4 r5 v0 v1 v2 v3 v4 v5;have aA:Hid (∀ak,Below w.heap.size w ak->0<n.length->∃p,M=some p/\∀aj ai,(Jh n)[aj]?=some ai->ak.cell? (p.add aj)=some ai):=by
  intro ak hV hz;obtain⟨g,c,hv,_,_,_,aB⟩:=Cf (ownsRow_below HP.ckr hV) hz;simp only[Value.slice.injEq] at hv;exact⟨⟨g,0,none⟩,hv.1,λaj ai hu=>by rw[Addr.add_lit];simpa using aB aj ai hu⟩
 go_region_held3 (λT=>(T.cell? ⟨w.heap.size,0,none⟩=some (.int .i64 F)/\T.cell? ⟨w.heap.size,1,none⟩=some (.int .i64 o1)/\T.cell? ⟨w.heap.size,2,none⟩=some (.slice C k.length E)/\T.cell? ⟨w.heap.size,3,none⟩=some (.slice G j.length D)/\T.cell? ⟨w.heap.size,4,none⟩=some (.slice I l.length H)/\T.cell? ⟨w.heap.size+1,0,none⟩=some (.int .i64 u)/\T.cell? ⟨w.heap.size+1,1,none⟩=some (.int .i64 o2)/\T.cell? ⟨w.heap.size+1,2,none⟩=some (.slice z d.length y)/\T.cell? ⟨w.heap.size+1,3,none⟩=some (.slice A b.length B)/\T.cell? ⟨w.heap.size+1,4,none⟩=some (.slice M n.length Q)/\T.cell? ⟨w.heap.size+1,5,none⟩=some (.slice J s.length K))) (first | with_reducible assumption | with_reducible exact⟨Jr.trans p0,Jr.trans p1,Jr.trans p2,Jr.trans p3,Jr.trans p4,Jr.trans q0,Jr.trans q1,Jr.trans q2,Jr.trans q3,Jr.trans q4,Jr.trans q5⟩ | with_reducible exact⟨set6O yBa U.1,set6O yBa U.2.1,set6O yBa U.2.2.1,set6O yBa U.2.2.2.1,set6O yBa U.2.2.2.2.1,set6O yBa U.2.2.2.2.2.1,set6O yBa U.2.2.2.2.2.2.1,set6O yBa U.2.2.2.2.2.2.2.1,set6O yBa U.2.2.2.2.2.2.2.2.1,set6O yBa U.2.2.2.2.2.2.2.2.2.1,set6O yBa U.2.2.2.2.2.2.2.2.2.2⟩ | skip) (first | (go_at_call 114;refine(xR.out _ (by exact ag.drew)).mono ?_;rintro e S ⟨⟨mk,aJ,aF,x0,y0,x1,y1,aC,rfl,ax,av,al⟩,ao⟩;have f:=((Below.refl W.heap.size W).drew).trans ao;have aa:=ag.trans (f.mono ag.size);have af:=A82 ae f.size;have ab:=A82 Z f.size;have N:=A82 O f.size;have bG:=hid ax;have aQ:=hid av;have jJ:Hid (∀x∈(Ah.mk mk aJ aF (.slice x0 aF.length y0) (.slice x1 aC.length y1) aC).vals,x∈(Ah.mk F o1 k (.slice C k.length E) (.slice G j.length D) j).vals++(Ah.mk u o2 d (.slice z d.length y) (.slice A b.length B) b).vals\/∀q,x.ownBlock=some q->W.heap.size<=q):=al;have P:(S.cell? ⟨w.heap.size,0,none⟩=some (.int .i64 F)/\S.cell? ⟨w.heap.size,1,none⟩=some (.int .i64 o1)/\S.cell? ⟨w.heap.size,2,none⟩=some (.slice C k.length E)/\S.cell? ⟨w.heap.size,3,none⟩=some (.slice G j.length D)/\S.cell? ⟨w.heap.size,4,none⟩=some (.slice I l.length H)/\S.cell? ⟨w.heap.size+1,0,none⟩=some (.int .i64 u)/\S.cell? ⟨w.heap.size+1,1,none⟩=some (.int .i64 o2)/\S.cell? ⟨w.heap.size+1,2,none⟩=some (.slice z d.length y)/\S.cell? ⟨w.heap.size+1,3,none⟩=some (.slice A b.length B)/\S.cell? ⟨w.heap.size+1,4,none⟩=some (.slice M n.length Q)/\S.cell? ⟨w.heap.size+1,5,none⟩=some (.slice J s.length K)):=⟨(f.cell (p:=⟨w.heap.size,0,none⟩) ae).trans p0,(f.cell (p:=⟨w.heap.size,1,none⟩) ae).trans p1,(f.cell (p:=⟨w.heap.size,2,none⟩) ae).trans p2,(f.cell (p:=⟨w.heap.size,3,none⟩) ae).trans p3,(f.cell (p:=⟨w.heap.size,4,none⟩) ae).trans p4,(f.cell (p:=⟨w.heap.size+1,0,none⟩) Z).trans q0,(f.cell (p:=⟨w.heap.size+1,1,none⟩) Z).trans q1,(f.cell (p:=⟨w.heap.size+1,2,none⟩) Z).trans q2,(f.cell (p:=⟨w.heap.size+1,3,none⟩) Z).trans q3,(f.cell (p:=⟨w.heap.size+1,4,none⟩) Z).trans q4,(f.cell (p:=⟨w.heap.size+1,5,none⟩) Z).trans q5⟩;clear ax av al ao) | (refine Afz rfl _ _ rfl base I H l n M Q rfl rfl ((HP.out.below aa).hca) (aA.out _ aa) ((HP.out.below aa).hck) HP.out.coils az (A9f ap aa.size) ?_;intro a6 c6 R bV m mD;have gV:=hid bV;have ay:=hid m;have aD:=hid mD;have Y:(Value.slice I l.length H).ownBlock≠some (w.heap.size+1):=(λe=>by have:=(iQ.out _ e).2;omega);have L:(Value.slice I l.length H).ownBlock≠some (w.heap.size+1+1):=(λe=>by have:=(iQ.out _ e).2;omega);have vF:=A82 N m.size;have ac:(Value.slice I l.length H).ownBlock≠some (w.heap.size):=(λe=>by have:=(iQ.out _ e).2;omega);have U:(R.cell? ⟨w.heap.size,0,none⟩=some (.int .i64 F)/\R.cell? ⟨w.heap.size,1,none⟩=some (.int .i64 o1)/\R.cell? ⟨w.heap.size,2,none⟩=some (.slice C k.length E)/\R.cell? ⟨w.heap.size,3,none⟩=some (.slice G j.length D)/\R.cell? ⟨w.heap.size,4,none⟩=some (.slice I l.length H)/\R.cell? ⟨w.heap.size+1,0,none⟩=some (.int .i64 u)/\R.cell? ⟨w.heap.size+1,1,none⟩=some (.int .i64 o2)/\R.cell? ⟨w.heap.size+1,2,none⟩=some (.slice z d.length y)/\R.cell? ⟨w.heap.size+1,3,none⟩=some (.slice A b.length B)/\R.cell? ⟨w.heap.size+1,4,none⟩=some (.slice M n.length Q)/\R.cell? ⟨w.heap.size+1,5,none⟩=some (.slice J s.length K)):=⟨(A8 m af ac).trans P.1,(A8 m af ac).trans P.2.1,(A8 m af ac).trans P.2.2.1,(A8 m af ac).trans P.2.2.2.1,(A8 m af ac).trans P.2.2.2.2.1,(A8 m ab Y).trans P.2.2.2.2.2.1,(A8 m ab Y).trans P.2.2.2.2.2.2.1,(A8 m ab Y).trans P.2.2.2.2.2.2.2.1,(A8 m ab Y).trans P.2.2.2.2.2.2.2.2.1,(A8 m ab Y).trans P.2.2.2.2.2.2.2.2.2.1,(A8 m ab Y).trans P.2.2.2.2.2.2.2.2.2.2⟩;obtain⟨⟨r0,r1,r2,r3,r4,r5⟩,X⟩:=aE.out;have t0:=(A8 m N L).trans ((f.cell (p:=⟨w.heap.size+1+1,0,none⟩) O).trans r0);have t1:=(A8 m N L).trans ((f.cell (p:=⟨w.heap.size+1+1,1,none⟩) O).trans r1);have t2:=(A8 m N L).trans ((f.cell (p:=⟨w.heap.size+1+1,2,none⟩) O).trans r2);have t3:=(A8 m N L).trans ((f.cell (p:=⟨w.heap.size+1+1,3,none⟩) O).trans r3);have t4:=(A8 m N L).trans ((f.cell (p:=⟨w.heap.size+1+1,4,none⟩) O).trans r4);have t5:=(A8 m N L).trans ((f.cell (p:=⟨w.heap.size+1+1,5,none⟩) O).trans r5);have m0:=(Fa m N L).trans ((f.frozen (p:=⟨w.heap.size+1+1,0,none⟩) O).trans (X 0 yBa));have m1:=(Fa m N L).trans ((f.frozen (p:=⟨w.heap.size+1+1,1,none⟩) O).trans (X 1 yBa));have m2:=(Fa m N L).trans ((f.frozen (p:=⟨w.heap.size+1+1,2,none⟩) O).trans (X 2 yBa));have m3:=(Fa m N L).trans ((f.frozen (p:=⟨w.heap.size+1+1,3,none⟩) O).trans (X 3 yBa));have m4:=(Fa m N L).trans ((f.frozen (p:=⟨w.heap.size+1+1,4,none⟩) O).trans (X 4 yBa));have m5:=(Fa m N L).trans ((f.frozen (p:=⟨w.heap.size+1+1,5,none⟩) O).trans (X 5 yBa));clear bV mD ac Y L P r0 r1 r2 r3 r4 r5 X))
 all_goals
  try go_wp2
  have hj:=HP.join (lo:=W.heap.size) aa bG jJ ag.size f.size gV ay aD.out;refine bodyPost_ret (v:=.agg #[.int .i64 mk, .int .i64 aJ, .slice x0 aF.length y0, .slice x1 aC.length y1, .slice a6 (l.length+n.length) c6, .slice J s.length K]) (by simp[results,results97,go_sem,t0,t1,t2,t3,t4,t5]) rfl ⟨⟨mk,aJ,aF,x0,y0,aC,x1,y1,l++n,a6,c6,s,J,K,by rw[A83],?_,?_,?_⟩,?_⟩
  ·rw[A83]
   exact Qz.setO6 hj.1 (λx hx e=>by rcases hj.2 x hx _ e with⟨h1,_⟩ | h1<;>(have J:=dZ.out;omega))
  ·rw[Dw.arm_eq]
   simp only;rw[aQ.out]
  ·rw[A83]
   intro x hx q hq;rcases hj.2 x hx q hq with⟨_,ah,t,e⟩ | h1
   ·exact .inl ⟨ah,jR ah t,e⟩
   ·exact .inr (by have J:=dZ.out;omega)
  ·have pz:=A7h aa ay.out
   clear aa f ag;repeat (refine A8m ?_ omz _)
   exact pz
def B6 (w:World)(b:Nat)(v0 v1 v2 v3 v4 v5:Value):Prop:=b<w.heap.size/\(w.cell? ⟨b,0,none⟩=some v0/\w.cell? ⟨b,1,none⟩=some v1/\w.cell? ⟨b,2,none⟩=some v2/\w.cell? ⟨b,3,none⟩=some v3/\w.cell? ⟨b,4,none⟩=some v4/\w.cell? ⟨b,5,none⟩=some v5)/\∀o,o<6->w.frozen? ⟨b,o,none⟩=false
theorem B6.below {w:World}{n b:Nat}{v0:Value}(h:B6 w b v0 v1 v2 v3 v4 v5)(d:Below n w w')(e:b<n):B6 w' b v0 v1 v2 v3 v4 v5:=by
 obtain⟨s,⟨q,j,k,l,i,g⟩,f⟩:=h;refine⟨A82 s d.size,⟨(d.cell (p:=⟨b,0,none⟩) e).trans q,(d.cell (p:=⟨b,1,none⟩) e).trans j,(d.cell (p:=⟨b,2,none⟩) e).trans k,(d.cell (p:=⟨b,3,none⟩) e).trans l,(d.cell (p:=⟨b,4,none⟩) e).trans i,(d.cell (p:=⟨b,5,none⟩) e).trans g⟩,λo m=>(d.frozen (p:=⟨b,o,none⟩) e).trans (f o m)⟩
theorem B6.at {w:World}{b:Nat}{v0:Value}(h:B6 w b v0 v1 v2 v3 v4 v5)(d:Below w.heap.size w w'):B6 w' b v0 v1 v2 v3 v4 v5:=h.below d h.1
theorem B6.grown {w:World}{b:Nat}{v0:Value}(h:B6 w b v0 v1 v2 v3 v4 v5)(hg:w.grownBy w' r)(e:r≠some b):B6 w' b v0 v1 v2 v3 v4 v5:=by
 obtain⟨d,⟨n,j,k,l,i,g⟩,f⟩:=h;exact⟨A82 d hg.size,⟨(A8 hg d e).trans n,(A8 hg d e).trans j,(A8 hg d e).trans k,(A8 hg d e).trans l,(A8 hg d e).trans i,(A8 hg d e).trans g⟩,λo m=>(Fa hg d e).trans (f o m)⟩
theorem B6.drew {w:World}{b:Nat}{v0:Value}(h:B6 w b v0 v1 v2 v3 v4 v5):B6 w.drew b v0 v1 v2 v3 v4 v5:=h
theorem B6.setO {w:World}{b:Nat}{v0:Value}(h:B6 w b v0 v1 v2 v3 v4 v5)(d:b≠c)(u:Value):B6 (w.setCell ⟨c,o,none⟩ u) b v0 v1 v2 v3 v4 v5:=by
 obtain⟨n,⟨m,i,j,k,g,e⟩,f⟩:=h;exact⟨A82 n (Kt _ _ _),⟨(Bz d).trans m,(Bz d).trans i,(Bz d).trans j,(Bz d).trans k,(Bz d).trans g,(Bz d).trans e⟩,λo l=>Nu.trans (f o l)⟩
theorem B6.set6O {w:World}{b:Nat}{v0:Value}(h:B6 w b v0 v1 v2 v3 v4 v5)(d:b≠c):B6 ((((((w.setCell ⟨c,0,none⟩ u0).setCell ⟨c,1,none⟩ u1).setCell ⟨c,2,none⟩ u2).setCell ⟨c,3,none⟩ u3).setCell ⟨c,4,none⟩ u4).setCell ⟨c,5,none⟩ u5) b v0 v1 v2 v3 v4 v5:=
 (((((h.setO d u0).setO d u1).setO d u2).setO d u3).setO d u4).setO d u5
theorem B6.set4O {w:World}{b:Nat}{v0:Value}(h:B6 w b v0 v1 v2 v3 v4 v5)(d:b≠c):B6 ((((w.setCell ⟨c,0,none⟩ u0).setCell ⟨c,1,none⟩ u1).setCell ⟨c,2,none⟩ u2).setCell ⟨c,3,none⟩ u3) b v0 v1 v2 v3 v4 v5:=
 (((h.setO d u0).setO d u1).setO d u2).setO d u3
theorem B6.set0 {w:World}{b:Nat}{v0:Value}(h:B6 w b v0 v1 v2 v3 v4 v5)(u:Value):B6 (w.setCell ⟨b,0,none⟩ u) b u v1 v2 v3 v4 v5:=by
 obtain⟨m,⟨l,g,i,j,e,d⟩,f⟩:=h;exact⟨A82 m (Kt _ _ _),⟨Gg l,(C9 omz).trans g,(C9 omz).trans i,(C9 omz).trans j,(C9 omz).trans e,(C9 omz).trans d⟩,λo k=>Nu.trans (f o k)⟩
theorem B6.set1 {w:World}{b:Nat}{v0:Value}(h:B6 w b v0 v1 v2 v3 v4 v5)(u:Value):B6 (w.setCell ⟨b,1,none⟩ u) b v0 u v2 v3 v4 v5:=by
 obtain⟨m,⟨l,g,i,j,e,d⟩,f⟩:=h;exact⟨A82 m (Kt _ _ _),⟨(C9 omz).trans l,Gg g,(C9 omz).trans i,(C9 omz).trans j,(C9 omz).trans e,(C9 omz).trans d⟩,λo k=>Nu.trans (f o k)⟩
theorem B6.set2 {w:World}{b:Nat}{v0:Value}(h:B6 w b v0 v1 v2 v3 v4 v5)(u:Value):B6 (w.setCell ⟨b,2,none⟩ u) b v0 v1 u v3 v4 v5:=by
 obtain⟨m,⟨l,g,i,j,e,d⟩,f⟩:=h;exact⟨A82 m (Kt _ _ _),⟨(C9 omz).trans l,(C9 omz).trans g,Gg i,(C9 omz).trans j,(C9 omz).trans e,(C9 omz).trans d⟩,λo k=>Nu.trans (f o k)⟩
theorem B6.set3 {w:World}{b:Nat}{v0:Value}(h:B6 w b v0 v1 v2 v3 v4 v5)(u:Value):B6 (w.setCell ⟨b,3,none⟩ u) b v0 v1 v2 u v4 v5:=by
 obtain⟨m,⟨l,g,i,j,e,d⟩,f⟩:=h;exact⟨A82 m (Kt _ _ _),⟨(C9 omz).trans l,(C9 omz).trans g,(C9 omz).trans i,Gg j,(C9 omz).trans e,(C9 omz).trans d⟩,λo k=>Nu.trans (f o k)⟩
theorem B6.set4 {w:World}{b:Nat}{v0:Value}(h:B6 w b v0 v1 v2 v3 v4 v5)(u:Value):B6 (w.setCell ⟨b,4,none⟩ u) b v0 v1 v2 v3 u v5:=by
 obtain⟨m,⟨l,g,i,j,e,d⟩,f⟩:=h;exact⟨A82 m (Kt _ _ _),⟨(C9 omz).trans l,(C9 omz).trans g,(C9 omz).trans i,(C9 omz).trans j,Gg e,(C9 omz).trans d⟩,λo k=>Nu.trans (f o k)⟩
theorem B6.set5 {w:World}{b:Nat}{v0:Value}(h:B6 w b v0 v1 v2 v3 v4 v5)(u:Value):B6 (w.setCell ⟨b,5,none⟩ u) b v0 v1 v2 v3 v4 u:=by
 obtain⟨m,⟨l,g,i,j,e,d⟩,f⟩:=h;exact⟨A82 m (Kt _ _ _),⟨(C9 omz).trans l,(C9 omz).trans g,(C9 omz).trans i,(C9 omz).trans j,(C9 omz).trans e,Gg d⟩,λo k=>Nu.trans (f o k)⟩
theorem B6.set6 {w:World}{b:Nat}{v0:Value}(h:B6 w b v0 v1 v2 v3 v4 v5):B6 ((((((w.setCell ⟨b,0,none⟩ u0).setCell ⟨b,1,none⟩ u1).setCell ⟨b,2,none⟩ u2).setCell ⟨b,3,none⟩ u3).setCell ⟨b,4,none⟩ u4).setCell ⟨b,5,none⟩ u5) b u0 u1 u2 u3 u4 u5:=
 (((((h.set0 u0).set1 u1).set2 u2).set3 u3).set4 u4).set5 u5
theorem B6.setN {w:World}{b:Nat}{v0:Value}(h:B6 w b v0 v1 v2 v3 v4 v5):B6 ((((w.setCell ⟨b,0,none⟩ u0).setCell ⟨b,1,none⟩ u1).setCell ⟨b,2,none⟩ u2).setCell ⟨b,3,none⟩ u3) b u0 u1 u2 u3 v4 v5:=
 (((h.set0 u0).set1 u1).set2 u2).set3 u3
theorem B6.new (w:World)(v0 v1 v2 v3 v4 v5:Value)(t:TypeId):B6 (w.alloc (.cells #[v0,v1,v2,v3,v4,v5] t)) w.heap.size v0 v1 v2 v3 v4 v5:=by
 refine⟨spz,⟨?_,?_,?_,?_,?_,?_⟩,λo _=>?_⟩<;>simp[go_sem]
def A8u (w:World)(b:Nat)(m:Dw):Prop:=B6 w b (.int .i64 m.net.kind) (.int .i64 m.net.op) m.net.av m.net.kv m.cv m.kv
end Go.Proofs.YtobbpffcggchmaaGreatDoor
