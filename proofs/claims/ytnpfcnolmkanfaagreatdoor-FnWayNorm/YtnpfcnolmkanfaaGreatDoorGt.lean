import Derived.Test.YtnpfcnolmkanfaaGreatDoorGs
import Derived.Deep.RegionHeld3
namespace Go.Proofs.YtnpfcnolmkanfaaGreatDoor
open Tryz
open Stil
open Go.RowKit Go.Sort Go.BigFrame
variable {a:Addr}{base c o o1 o2 o3 o4 o5 o6:Nat}{eG nZ fV u0 u1 u2 u3 u4 u5 u6 v1 v2 v3 v4 v5:Value}{r:Option Nat}{w':World}
theorem Yp {ops:Array Oper}{o:Oper}{a:Act}{w:World}{K:Act->World->Prop}{Q:Exit->Act->World->Prop}{E:Prop}
  (hg:o.guard=none) (s x:Operand) (hop:o.op=.call {callee:=.builtin .append,args:=#[s,x],argTypes:=#[44,44]})
  (base:Nat) (ra:Option Addr) (rc:Nat) (ms ks:List D8) (ad:Option Addr) (c:Nat) (hs:a.eval s=.slice ra ms.length rc) (hx:a.eval x=.slice ad ks.length c)
  (hrow:Ud w base (.slice ra ms.length rc) ms) (L:0<ks.length->∃p,ad=some p/\∀j u,(Ib ks)[j]?=some u->w.cell? (p.add j)=some u)
  (l:∀m∈ks,EOk w base m) (F:(Value.slice ra ms.length rc::(Gg ms++Gg ks)).Pairwise Aside) (hl:ms.length+ks.length<=1000000) (v:base<=w.heap.size)
  (k:∀d b w',Ud w' base (.slice d (ms.length+ks.length) b) (ms++ks)->w.grownBy w' (Value.slice ra ms.length rc).ownBlock->((Value.slice d (ms.length+ks.length) b).ownBlock=(Value.slice ra ms.length rc).ownBlock\/(Value.slice d (ms.length+ks.length) b).ownBlock=some w.heap.size)->K (a.put o.dst (.slice d (ms.length+ks.length) b)) w'):
  if Region.wanted o (yielded ops a.tmps)=true then Oper.wp prog o a w K Q else E:=by
 obtain⟨C,hi,I,z,J⟩:=info_parts Akz;by_cases hd:ks.length=0
 ·have G:=List.length_eq_zero_iff.1 hd
  subst G;have y:Region.wanted o (yielded ops a.tmps)=true:=by simp[Region.wanted,hg]
  rw[if_pos y];have hcap:ms.length<=rc:=by
   rcases hrow.1.2 with⟨i,f⟩ | ⟨g,b,cur,i,_,_,D,_⟩
   ·rw[f];exact A7l _
   ·simp only[Value.slice.injEq] at i
    rw[i.2.2];exact D
  have hk2:=k ra rc w yDd (Aer _ _) (.inl spz);simp only[A54,A75] at hk2 hx;unfold Oper.wp execOp;cases ad
  ·exact zi0
  ·exact zd0
 ·obtain⟨p,rfl,A⟩:=L omz
  refine Eb hg s x _ hop base 40 C _ 2 32 underlying44 hi I z J rfl dcz _ _ (Ib ms) hs hrow.1 _ _ _ (Ib ks) hx (Ahc ks) A (Aey l) yAe omz v ?_;intro M w' f q n;obtain⟨B,t,H⟩:=Aj f;subst H;exact k B t w' (hrow.add l F f q n) q n
structure Parts (w:World)(base:Nat)(na nk:Aq)(eG:Value)(ca:List D8)(nZ:Value)(ck:List D8)(fV:Value)(kk:List Bj):Prop where
 hna:MOk w base na
 hnk:MOk w base nk
 hca:Ud w base eG ca
 hck:∀m∈ck,EOk w base m
 ckr:w.ownsRow base 40 2 nZ ck.length (Ib ck)
 hkk:Qw w base fV kk
 nets:(na.vals++nk.vals).Pairwise Aside
 coils:(eG::(Gg ca++Gg ck)).Pairwise Aside
 nc:∀x∈na.vals++nk.vals,∀y∈eG::(Gg ca++Gg ck),Aside x y
 nkk:∀x∈na.vals++nk.vals,∀y∈fV::Hy kk,Aside x y
 ckk:∀x∈eG::(Gg ca++Gg ck),∀y∈fV::Hy kk,Aside x y
theorem J8.parts {w:World}{v e:Aq}{j:Value}{k b:List D8}{d:List Bj}(h:J8 w base ⟨v,eG,k,j,[⟨e,nZ,b,fV,d⟩]⟩):Parts w base v e eG k nZ b fV d:=by
 obtain⟨O,g⟩:=h;obtain⟨s,⟨D,B⟩,_,L⟩:=(Il _ _ _).1 O;obtain⟨q,⟨z,n⟩,A,C⟩:=(Il _ _ _).1 (L ⟨e,nZ,b,fV,d⟩ spz);simp only at s D B q z n A C;rw[Bj.vals_eq] at g;simp only[Qh] at g;rw[Bj.vals_eq] at g;simp only at g;obtain⟨H,F,m⟩:=List.pairwise_append.1 g;obtain⟨i,M,f⟩:=List.pairwise_append.1 F;obtain⟨_,E⟩:=List.pairwise_cons.1 M;obtain⟨Q,K,t⟩:=List.pairwise_append.1 E;obtain⟨G,J,N⟩:=List.pairwise_append.1 K;have P:∀y∈e.vals,y∈(eG::Gg k)++(j::(e.vals++((nZ::Gg b)++(fV::Hy d)))):=λy hy=>by simp[hy]
 have u:∀y∈Gg b,y∈j::(e.vals++((nZ::Gg b)++(fV::Hy d))):=λy hy=>by simp[hy]
 have l:∀y∈fV::Hy d,y∈j::(e.vals++((nZ::Gg b)++(fV::Hy d))):=λy hy=>by simp only[A6n,A6f] at hy ⊢;exact .inr (.inr (.inr hy))
 have I:(eG::(Gg k++Gg b)).Pairwise Aside:=by
  rw[A6o] at i ⊢;refine⟨λy hy=>?_,List.pairwise_append.2 ⟨i.2,(List.pairwise_cons.1 G).2,λx hx y hy=>f x (A56 _ hx) y (u y hy)⟩⟩;rcases List.mem_append.1 hy with hy | hy
  ·exact i.1 y hy
  ·exact f eG spz y (u y hy)
 refine⟨s,q,⟨D,B,i⟩,n,z,⟨A,C,J⟩,List.pairwise_append.2 ⟨H,Q,λx hx y hy=>m x hx y (P y hy)⟩,I,λx hx y hy=>?_,λx hx y hy=>?_,λx hx y hy=>?_⟩
 ·rcases List.mem_append.1 hx with hx | hx
  ·refine m x hx y ?_
   simp only[A6n,A6f] at hy ⊢;rcases hy with hy | hy | hy
   ·exact .inl (.inl hy)
   ·exact .inl (.inr hy)
   ·exact .inr (.inr (.inr (.inl (.inr hy))))
  ·simp only[A6n,A6f] at hy
   rcases hy with hy | hy | hy
   ·exact(f y yDb x yCb).symm
   ·exact(f y yDb x yCb).symm
   ·exact t x hx y yDb
 ·rcases List.mem_append.1 hx with hx | hx
  ·exact m x hx y (A6a _ (l y hy))
  ·exact t x hx y (A6a _ hy)
 ·simp only[A6n,A6f] at hx
  rcases hx with hx | hx | hx
  ·exact f x yCb y (l y hy)
  ·exact f x yCb y (l y hy)
  ·exact N x (A56 _ hx) y hy
theorem Parts.below {w:World}{e i:Aq}{g f:List D8}{d:List Bj}(h:Parts w base e i eG g nZ f fV d)(b:Below w.heap.size w w'):Parts w' base e i eG g nZ f fV d:=
 ⟨h.hna.below b,h.hnk.below b,h.hca.below b,λm j=>ownsRow_below (h.hck m j) b,ownsRow_below h.ckr b,h.hkk.below b,h.nets,h.coils,h.nc,h.nkk,h.ckk⟩
theorem Parts.join {w w1 C:World}{lo:Nat}{v A t:Aq}{i:Value}{k j:List D8}{l:List Bj}(g:Parts w base v A eG k nZ j fV l)(P:Below w.heap.size w w1)(I:J7 w1 base t)(N:∀x∈t.vals,x∈v.vals++A.vals\/∀q,x.ownBlock=some q->lo<=q)(V:w.heap.size<=lo)(U:lo<=w1.heap.size)
  (E:Ud C base i (k++j)) (hg:w1.grownBy C eG.ownBlock) (O:i.ownBlock=eG.ownBlock\/i.ownBlock=some w1.heap.size):J8 C base ⟨t,i,k++j,fV,l⟩/\∀x∈(Bj.mk t i (k++j) fV l).vals,∀q,x.ownBlock=some q->(q<w.heap.size/\∃y∈v.vals++A.vals++((eG::(Gg k++Gg j))++(fV::Hy l)),y.ownBlock=some q)\/lo<=q:=by
 have S:∀x∈v.vals++A.vals,∀q,x.ownBlock=some q->q<w.heap.size:=by
  intro x b q f;rcases List.mem_append.1 b with b | b
  ·exact(g.hna.lt _ x b q f).2
  ·exact(g.hnk.lt _ x b q f).2
 have B:∀y∈eG::(Gg k++Gg j),∀q,y.ownBlock=some q->q<w.heap.size:=by
  intro y d q f;simp only[A6n,A6f] at d;rcases d with rfl | d | d
  ·exact(g.hca.1.lt q f).2
  ·exact(g.hca.lt y (A56 _ d) q f).2
  ·obtain⟨m,D,rfl⟩:=Oi.1 d
   exact((g.hck m D).lt q f).2
 have H:=λy d q f=>(g.hkk.lt y d q f).2
 have G:∀x∈t.vals,∀y,(∀q,y.ownBlock=some q->q<w.heap.size)->(∀z∈v.vals++A.vals,Aside z y)->Aside x y:=by
  intro x b y d s;rcases N x b with h | h
  ·exact s x h
  ·exact(Ij (n:=w.heap.size) d (λq f=>A6e V (h q f))).symm
 have J:∀y,(∀q,y.ownBlock=some q->q<w1.heap.size)->Aside eG y->Aside i y:=by
  intro y d T;rcases O with e | e
  ·rcases T with h0 | h0
   ·exact .inl yCf
   ·exact .inr yCf
  ·refine .inr (λL=>?_)
   rw[e] at L;have:=d _ L.symm
   omega
 have W:=P.size;have D:=λx b=>G x b eG (B eG spz) (λz s=>g.nc z s eG spz)
 have F:=g.hkk.below P;have R:Qw C base fV l:=⟨F.1.kept hg (g.ckk eG spz fV spz).symm,λm Q=>(F.2.1 m Q).kept hg (λu hu=>(g.ckk eG spz u (A56 _ (Na.2 ⟨m,Q,hu⟩))).symm),F.2.2⟩
 have K:(Bj.mk t i (k++j) fV l).vals=t.vals++((i::(Gg k++Gg j))++(fV::Hy l)):=by rw[Bj.vals_eq,Xj]
 refine⟨⟨(Il _ _ _).2 ⟨I.1.kept hg D,⟨E.1,E.2.1⟩,R.1,R.2.1⟩,?_⟩,?_⟩
 ·rw[K]
  have M:=E.2.2;rw[Xj] at M;refine List.pairwise_append.2 ⟨I.2,List.pairwise_append.2 ⟨M,g.hkk.2.2,λx b y d=>?_⟩,λx b y d=>?_⟩
  ·rcases List.mem_cons.1 b with rfl | b
   ·exact J y (λq f=>by have:=H y d q f;omega) (g.ckk eG spz y d)
   ·exact g.ckk x (A56 _ b) y d
  ·rcases List.mem_append.1 d with d | d
   ·rcases List.mem_cons.1 d with rfl | d
    ·exact(J x (λq f=>(I.1.lt _ x b q f).2) (D x b).symm).symm
    ·exact G x b y (B y (A56 _ d)) (λz s=>g.nc z s y (A56 _ d))
   ·exact G x b y (H y d) (λz s=>g.nkk z s y d)
 ·intro x b q f
  rw[K] at b;rcases List.mem_append.1 b with b | b
  ·rcases N x b with h | h
   ·exact .inl ⟨S x h q f,x,A6d _ h,f⟩
   ·exact .inr (h q f)
  rcases List.mem_append.1 b with b | b
  ·rcases List.mem_cons.1 b with rfl | b
   ·rcases O with e | e
    ·exact .inl ⟨B eG spz q (by rw[<-e];exact f),eG,A6a _ (A6d _ spz),by rw[<-e];exact f⟩
    ·rw[e] at f;cases f;exact .inr U
   ·exact .inl ⟨B x (A56 _ b) q f,x,A6a _ (A6d _ (A56 _ b)),f⟩
  ·exact .inl ⟨H x b q f,x,A6a _ (A6a _ b),f⟩
theorem J8.setO {w:World}{m:Bj}(h:J8 w base m)(e:∀x∈m.vals,x.ownBlock≠some a.block)(u:Value):J8 (w.setCell a u) base m:=⟨AOk.map m h.1 (λ_ _ _ _ _ b d=>ownsRow_setCell_other d (e _ b) u),h.2⟩
theorem J8.setO6 {w:World}{b:Nat}{m:Bj}(h:J8 w base m)(d:∀x∈m.vals,x.ownBlock≠some b):J8 ((((((w.setCell ⟨b,o1,none⟩ u1).setCell ⟨b,o2,none⟩ u2).setCell ⟨b,o3,none⟩ u3).setCell ⟨b,o4,none⟩ u4).setCell ⟨b,o5,none⟩ u5).setCell ⟨b,o6,none⟩ u6) base m:=
 J8.setO (J8.setO (J8.setO (J8.setO (J8.setO (J8.setO h (a:=⟨b,o1,none⟩) d u1) (a:=⟨b,o2,none⟩) d u2) (a:=⟨b,o3,none⟩) d u3) (a:=⟨b,o4,none⟩) d u4) (a:=⟨b,o5,none⟩) d u5) (a:=⟨b,o6,none⟩) d u6
def A4a (w:World)(base:Nat)(vs:List Value)(lo:Nat)(a:Stil.Arm)(e:Ending):Prop:=∃(k op:Int) (f:List Stil.Dev) (m:Option Addr) (n:Nat) (ns:List Aq) (j:Option Addr) (h:Nat) (d:List D8) (g:Option Addr) (l:Nat) (b:List Bj) (p:Option Addr) (i:Nat),e=.returned (.agg #[.int .i64 k, .int .i64 op, .slice m f.length n, .slice j ns.length h, .slice g d.length l, .slice p b.length i])/\J8 w base ⟨⟨k,op,f, .slice m f.length n, .slice j ns.length h,ns⟩, .slice g d.length l,d, .slice p b.length i,b⟩/\(Bj.mk ⟨k,op,f, .slice m f.length n, .slice j ns.length h,ns⟩ (.slice g d.length l) d (.slice p b.length i) b).arm=a/\∀x∈(Bj.mk ⟨k,op,f, .slice m f.length n, .slice j ns.length h,ns⟩ (.slice g d.length l) d (.slice p b.length i) b).vals,∀q,x.ownBlock=some q->(∃y∈vs,y.ownBlock=some q)\/lo<=q
theorem A40 {a b c:World}(h:Below a.heap.size a b)(k:b.grownBy c r):a.grownBy c r:=
 ⟨k.os.trans h.os,k.tape.trans h.tape,k.output.trans h.output,A6e h.size k.size,λj d e=>(k.block j (A51 d h.size) e).trans (h.block j d)⟩
theorem A5p {w a:World}{b:Nat}(h:w.grownBy a r)(f:w.heap.size<=b)(v:Value):w.grownBy (a.setCell ⟨b,o,none⟩ v) r:=
 ⟨h.os,h.tape,h.output,by simpa using h.size,λk d e=>by
  rw[<-h.block k d e];simp only[World.setCell,A76]
  rw[if_neg omz]⟩
theorem F8 {W:World}:W.drew.cell? a=W.cell? a:=rfl
theorem set6O {w:World}{b:Nat}{v:Value}(h:b≠c)(d:w.cell? ⟨b,o,none⟩=some v):((((((w.setCell ⟨c,o1,none⟩ u1).setCell ⟨c,o2,none⟩ u2).setCell ⟨c,o3,none⟩ u3).setCell ⟨c,o4,none⟩ u4).setCell ⟨c,o5,none⟩ u5).setCell ⟨c,o6,none⟩ u6).cell? ⟨b,o,none⟩=some v:=
 (Bq h).trans ((Bq h).trans ((Bq h).trans ((Bq h).trans ((Bq h).trans ((Bq h).trans d)))))
set_option maxHeartbeats 8000000 in
set_option maxRecDepth 100000 in
theorem Ar1 (E o1:Int)(k:List Stil.Dev)(F:Option Addr)(D:Nat)(C:Option Addr)(B:Nat)(j:List Aq)(I:Option Addr)(G:Nat)(m:List D8)(h1:Option Addr)(Z:Nat)(A o2:Int)(f:List Stil.Dev)(z:Option Addr)(y:Nat)(s:Option Addr)(t:Nat)(d:List Aq)(K:Option Addr)(P:Nat)(n:List D8)(H:Option Addr)(J:Nat)(ks:List Bj)(base:Nat)(w:World)
  (ho:J8 w base (Bj.mk (Aq.mk E o1 k (.slice F k.length D) (.slice C j.length B) j) (.slice I m.length G) m (.slice h1 1 Z) [(Bj.mk (Aq.mk A o2 f (.slice z f.length y) (.slice s d.length t) d) (.slice K n.length P) n (.slice H ks.length J) ks)])) (al:base<=w.heap.size) (hs:Stil.sizes [(Aq.mk E o1 k (.slice F k.length D) (.slice C j.length B) j).net,(Aq.mk A o2 f (.slice z f.length y) (.slice s d.length t) d).net]<=999999) (an:Dt (Aq.mk E o1 k (.slice F k.length D) (.slice C j.length B) j).net) (av:Dt (Aq.mk A o2 f (.slice z f.length y) (.slice s d.length t) d).net) (aA:m.length+n.length<=1000000):
  Calls prog 71 #[.agg #[.int .i64 E, .int .i64 o1, .slice F k.length D, .slice C j.length B, .slice I m.length G, .slice h1 1 Z], .agg #[.int .i64 A, .int .i64 o2, .slice z f.length y, .slice s d.length t, .slice K n.length P, .slice H ks.length J]] w λe w'=>A4a w' base (Bj.mk (Aq.mk E o1 k (.slice F k.length D) (.slice C j.length B) j) (.slice I m.length G) m (.slice h1 1 Z) [(Bj.mk (Aq.mk A o2 f (.slice z f.length y) (.slice s d.length t) d) (.slice K n.length P) n (.slice H ks.length J) ks)]).vals w.heap.size ⟨Ko (Aq.mk E o1 k (.slice F k.length D) (.slice C j.length B) j).net (Aq.mk A o2 f (.slice z f.length y) (.slice s d.length t) d).net,(m++n).map D8.elem,ks.map Bj.arm⟩ e/\w.grownBy w' (Value.slice I m.length G).ownBlock:=by
 have hP:=ho.parts;have fD:Hid (∀ag∈(Aq.mk E o1 k (.slice F k.length D) (.slice C j.length B) j).vals++(Aq.mk A o2 f (.slice z f.length y) (.slice s d.length t) d).vals++((.slice I m.length G::(Gg m++Gg n))++(.slice H ks.length J::Hy ks)),ag∈(Bj.mk (Aq.mk E o1 k (.slice F k.length D) (.slice C j.length B) j) (.slice I m.length G) m (.slice h1 1 Z) [(Bj.mk (Aq.mk A o2 f (.slice z f.length y) (.slice s d.length t) d) (.slice K n.length P) n (.slice H ks.length J) ks)]).vals):=by
  intro ag u;rw[Bj.vals_eq];simp only[Qh];rw[Bj.vals_eq (Bj.mk (Aq.mk A o2 f (.slice z f.length y) (.slice s d.length t) d) (.slice K n.length P) n (.slice H ks.length J) ks)];simp only[A6f,A6n] at u ⊢;rcases u with(u | u) | (u | u | u) | u | u
  ·exact .inl u
  ·exact .inr (.inr (.inr (.inl u)))
  ·exact .inr (.inl (.inl u))
  ·exact .inr (.inl (.inr u))
  ·exact .inr (.inr (.inr (.inr (.inl (.inr u)))))
  ·exact .inr (.inr (.inr (.inr (.inr (.inl u)))))
  ·exact .inr (.inr (.inr (.inr (.inr (.inr u)))))
 obtain⟨OV,wP⟩:∃OV,OV=(Bj.mk (Aq.mk E o1 k (.slice F k.length D) (.slice C j.length B) j) (.slice I m.length G) m (.slice h1 1 Z) [(Bj.mk (Aq.mk A o2 f (.slice z f.length y) (.slice s d.length t) d) (.slice K n.length P) n (.slice H ks.length J) ks)]).vals:=⟨_,rfl⟩
 rw[<-wP] at fD ⊢;clear wP;have HP:=hid hP;have ai:=hid (λW h=>Ak3 E o1 k F D C B j A o2 f z y s t d base W (hP.hna.below h) (hP.hnk.below h) hP.nets (A6e al h.size) hs an av);obtain⟨ap,hS⟩:∃ap,ap=Ko (Aq.mk E o1 k (.slice F k.length D) (.slice C j.length B) j).net (Aq.mk A o2 f (.slice z f.length y) (.slice s d.length t) d).net:=⟨_,rfl⟩
 rw[<-hS] at ai ⊢;clear ho hP hs an av hS;go_enter func71,ntmps71;go_upto_region 1 with fail
 obtain⟨W,i⟩:∃W,W=((w.alloc (.cells #[.int .i64 E, .int .i64 o1, .slice F k.length D, .slice C j.length B, .slice I m.length G, .slice h1 1 Z] 46)).alloc (.cells #[.int .i64 A, .int .i64 o2, .slice z f.length y, .slice s d.length t, .slice K n.length P, .slice H ks.length J] 46)).alloc (.cells #[.int .i64 0, .int .i64 0, .slice none 0 0, .slice none 0 0, .slice none 0 0, .slice none 0 0] 46):=⟨_,rfl⟩
 rw[<-i];have p0:W.cell? ⟨w.heap.size,0,none⟩=some (.int .i64 E):=by rw[i];simp[go_sem]
 have p1:W.cell? ⟨w.heap.size,1,none⟩=some (.int .i64 o1):=by rw[i];simp[go_sem]
 have p2:W.cell? ⟨w.heap.size,2,none⟩=some (.slice F k.length D):=by rw[i];simp[go_sem]
 have p3:W.cell? ⟨w.heap.size,3,none⟩=some (.slice C j.length B):=by rw[i];simp[go_sem]
 have p4:W.cell? ⟨w.heap.size,4,none⟩=some (.slice I m.length G):=by rw[i];simp[go_sem]
 have p5:W.cell? ⟨w.heap.size,5,none⟩=some (.slice h1 1 Z):=by rw[i];simp[go_sem]
 have q0:W.cell? ⟨w.heap.size+1,0,none⟩=some (.int .i64 A):=by rw[i];simp[go_sem]
 have q1:W.cell? ⟨w.heap.size+1,1,none⟩=some (.int .i64 o2):=by rw[i];simp[go_sem]
 have q2:W.cell? ⟨w.heap.size+1,2,none⟩=some (.slice z f.length y):=by rw[i];simp[go_sem]
 have q3:W.cell? ⟨w.heap.size+1,3,none⟩=some (.slice s d.length t):=by rw[i];simp[go_sem]
 have q4:W.cell? ⟨w.heap.size+1,4,none⟩=some (.slice K n.length P):=by rw[i];simp[go_sem]
 have q5:W.cell? ⟨w.heap.size+1,5,none⟩=some (.slice H ks.length J):=by rw[i];simp[go_sem]
 have r0:W.cell? ⟨w.heap.size+1+1,0,none⟩=some (.int .i64 0):=by rw[i];simp[go_sem]
 have r1:W.cell? ⟨w.heap.size+1+1,1,none⟩=some (.int .i64 0):=by rw[i];simp[go_sem]
 have r2:W.cell? ⟨w.heap.size+1+1,2,none⟩=some (.slice none 0 0):=by rw[i];simp[go_sem]
 have r3:W.cell? ⟨w.heap.size+1+1,3,none⟩=some (.slice none 0 0):=by rw[i];simp[go_sem]
 have r4:W.cell? ⟨w.heap.size+1+1,4,none⟩=some (.slice none 0 0):=by rw[i];simp[go_sem]
 have r5:W.cell? ⟨w.heap.size+1+1,5,none⟩=some (.slice none 0 0):=by rw[i];simp[go_sem]
 have v0:W.frozen? ⟨w.heap.size+1+1,0,none⟩=false:=by rw[i];simp[go_sem]
 have v1:W.frozen? ⟨w.heap.size+1+1,1,none⟩=false:=by rw[i];simp[go_sem]
 have v2:W.frozen? ⟨w.heap.size+1+1,2,none⟩=false:=by rw[i];simp[go_sem]
 have v3:W.frozen? ⟨w.heap.size+1+1,3,none⟩=false:=by rw[i];simp[go_sem]
 have v4:W.frozen? ⟨w.heap.size+1+1,4,none⟩=false:=by rw[i];simp[go_sem]
 have v5:W.frozen? ⟨w.heap.size+1+1,5,none⟩=false:=by rw[i];simp[go_sem]
 have ay:Hid ((W.cell? ⟨w.heap.size+1+1,0,none⟩=some (.int .i64 0)/\W.cell? ⟨w.heap.size+1+1,1,none⟩=some (.int .i64 0)/\W.cell? ⟨w.heap.size+1+1,2,none⟩=some (.slice none 0 0)/\W.cell? ⟨w.heap.size+1+1,3,none⟩=some (.slice none 0 0)/\W.cell? ⟨w.heap.size+1+1,4,none⟩=some (.slice none 0 0)/\W.cell? ⟨w.heap.size+1+1,5,none⟩=some (.slice none 0 0))/\∀o,o<6->W.frozen? ⟨w.heap.size+1+1,o,none⟩=false):=⟨⟨r0,r1,r2,r3,r4,r5⟩,λo ho=>by match o,ho with | 0,_=>exact v0 | 1,_=>exact v1 | 2,_=>exact v2 | 3,_=>exact v3 | 4,_=>exact v4 | 5,_=>exact v5⟩
 have aw:W.heap.size=w.heap.size+3:=by rw[i];simp
 have ae:Below w.heap.size w W:=by rw[i];exact Cc (Cc (Aa _ _) _) _
 have bP:=hid aw;have ac:w.heap.size<W.heap.size:=omz
 have Y:w.heap.size+1<W.heap.size:=omz
 have L:w.heap.size+1+1<W.heap.size:=omz
 have dX:=hid (λq hq=>HP.hca.1.lt q hq);clear i aw r0 r1 r2 r3 r4 r5 v0 v1 v2 v3 v4 v5;have bu:Hid (∀ak,Below w.heap.size w ak->0<n.length->∃p,K=some p/\∀aj ah,(Ib n)[aj]?=some ah->ak.cell? (p.add aj)=some ah):=by
  intro ak hV hz;obtain⟨g,c,hv,_,_,_,aB⟩:=Bo (ownsRow_below HP.ckr hV) hz;simp only[Value.slice.injEq] at hv;exact⟨⟨g,0,none⟩,hv.1,λaj ah hu=>by rw[Addr.add_lit];simpa using aB aj ah hu⟩
 go_region_held3 (λR=>(R.cell? ⟨w.heap.size,0,none⟩=some (.int .i64 E)/\R.cell? ⟨w.heap.size,1,none⟩=some (.int .i64 o1)/\R.cell? ⟨w.heap.size,2,none⟩=some (.slice F k.length D)/\R.cell? ⟨w.heap.size,3,none⟩=some (.slice C j.length B)/\R.cell? ⟨w.heap.size,4,none⟩=some (.slice I m.length G)/\R.cell? ⟨w.heap.size+1,0,none⟩=some (.int .i64 A)/\R.cell? ⟨w.heap.size+1,1,none⟩=some (.int .i64 o2)/\R.cell? ⟨w.heap.size+1,2,none⟩=some (.slice z f.length y)/\R.cell? ⟨w.heap.size+1,3,none⟩=some (.slice s d.length t)/\R.cell? ⟨w.heap.size+1,4,none⟩=some (.slice K n.length P)/\R.cell? ⟨w.heap.size+1,5,none⟩=some (.slice H ks.length J))) (first | with_reducible assumption | with_reducible exact⟨F8.trans p0,F8.trans p1,F8.trans p2,F8.trans p3,F8.trans p4,F8.trans q0,F8.trans q1,F8.trans q2,F8.trans q3,F8.trans q4,F8.trans q5⟩ | with_reducible exact⟨set6O yBe S.1,set6O yBe S.2.1,set6O yBe S.2.2.1,set6O yBe S.2.2.2.1,set6O yBe S.2.2.2.2.1,set6O yBe S.2.2.2.2.2.1,set6O yBe S.2.2.2.2.2.2.1,set6O yBe S.2.2.2.2.2.2.2.1,set6O yBe S.2.2.2.2.2.2.2.2.1,set6O yBe S.2.2.2.2.2.2.2.2.2.1,set6O yBe S.2.2.2.2.2.2.2.2.2.2⟩ | skip) (first | (go_at_call 98;refine(ai.out _ (by exact ae.drew)).mono ?_;rintro e Q ⟨⟨mk,aK,aG,x0,y0,x1,y1,aF,rfl,ao,ar,ax⟩,au⟩;have b:=((Below.refl W.heap.size W).drew).trans au;have U:=ae.trans (b.mono ae.size);have af:=A51 ac b.size;have ab:=A51 Y b.size;have N:=A51 L b.size;have aU:=hid ao;have aQ:=hid ar;have fC:Hid (∀x∈(Aq.mk mk aK aG (.slice x0 aG.length y0) (.slice x1 aF.length y1) aF).vals,x∈(Aq.mk E o1 k (.slice F k.length D) (.slice C j.length B) j).vals++(Aq.mk A o2 f (.slice z f.length y) (.slice s d.length t) d).vals\/∀q,x.ownBlock=some q->W.heap.size<=q):=ax;have O:(Q.cell? ⟨w.heap.size,0,none⟩=some (.int .i64 E)/\Q.cell? ⟨w.heap.size,1,none⟩=some (.int .i64 o1)/\Q.cell? ⟨w.heap.size,2,none⟩=some (.slice F k.length D)/\Q.cell? ⟨w.heap.size,3,none⟩=some (.slice C j.length B)/\Q.cell? ⟨w.heap.size,4,none⟩=some (.slice I m.length G)/\Q.cell? ⟨w.heap.size+1,0,none⟩=some (.int .i64 A)/\Q.cell? ⟨w.heap.size+1,1,none⟩=some (.int .i64 o2)/\Q.cell? ⟨w.heap.size+1,2,none⟩=some (.slice z f.length y)/\Q.cell? ⟨w.heap.size+1,3,none⟩=some (.slice s d.length t)/\Q.cell? ⟨w.heap.size+1,4,none⟩=some (.slice K n.length P)/\Q.cell? ⟨w.heap.size+1,5,none⟩=some (.slice H ks.length J)):=⟨(b.cell (p:=⟨w.heap.size,0,none⟩) ac).trans p0,(b.cell (p:=⟨w.heap.size,1,none⟩) ac).trans p1,(b.cell (p:=⟨w.heap.size,2,none⟩) ac).trans p2,(b.cell (p:=⟨w.heap.size,3,none⟩) ac).trans p3,(b.cell (p:=⟨w.heap.size,4,none⟩) ac).trans p4,(b.cell (p:=⟨w.heap.size+1,0,none⟩) Y).trans q0,(b.cell (p:=⟨w.heap.size+1,1,none⟩) Y).trans q1,(b.cell (p:=⟨w.heap.size+1,2,none⟩) Y).trans q2,(b.cell (p:=⟨w.heap.size+1,3,none⟩) Y).trans q3,(b.cell (p:=⟨w.heap.size+1,4,none⟩) Y).trans q4,(b.cell (p:=⟨w.heap.size+1,5,none⟩) Y).trans q5⟩;clear ao ar ax au) | (refine Yp rfl _ _ rfl base I G m n K P rfl rfl ((HP.out.below U).hca) (bu.out _ U) ((HP.out.below U).hck) HP.out.coils aA (A6e al U.size) ?_;intro a6 c6 T aY l aV;have gX:=hid aY;have bH:=hid l;have jw:=hid aV;have V:(Value.slice I m.length G).ownBlock≠some (w.heap.size+1):=(λe=>by have:=(dX.out _ e).2;omega);have M:(Value.slice I m.length G).ownBlock≠some (w.heap.size+1+1):=(λe=>by have:=(dX.out _ e).2;omega);have mX:=A51 N l.size;have aa:(Value.slice I m.length G).ownBlock≠some (w.heap.size):=(λe=>by have:=(dX.out _ e).2;omega);have S:(T.cell? ⟨w.heap.size,0,none⟩=some (.int .i64 E)/\T.cell? ⟨w.heap.size,1,none⟩=some (.int .i64 o1)/\T.cell? ⟨w.heap.size,2,none⟩=some (.slice F k.length D)/\T.cell? ⟨w.heap.size,3,none⟩=some (.slice C j.length B)/\T.cell? ⟨w.heap.size,4,none⟩=some (.slice I m.length G)/\T.cell? ⟨w.heap.size+1,0,none⟩=some (.int .i64 A)/\T.cell? ⟨w.heap.size+1,1,none⟩=some (.int .i64 o2)/\T.cell? ⟨w.heap.size+1,2,none⟩=some (.slice z f.length y)/\T.cell? ⟨w.heap.size+1,3,none⟩=some (.slice s d.length t)/\T.cell? ⟨w.heap.size+1,4,none⟩=some (.slice K n.length P)/\T.cell? ⟨w.heap.size+1,5,none⟩=some (.slice H ks.length J)):=⟨(Dj l af aa).trans O.1,(Dj l af aa).trans O.2.1,(Dj l af aa).trans O.2.2.1,(Dj l af aa).trans O.2.2.2.1,(Dj l af aa).trans O.2.2.2.2.1,(Dj l ab V).trans O.2.2.2.2.2.1,(Dj l ab V).trans O.2.2.2.2.2.2.1,(Dj l ab V).trans O.2.2.2.2.2.2.2.1,(Dj l ab V).trans O.2.2.2.2.2.2.2.2.1,(Dj l ab V).trans O.2.2.2.2.2.2.2.2.2.1,(Dj l ab V).trans O.2.2.2.2.2.2.2.2.2.2⟩;obtain⟨⟨r0,r1,r2,r3,r4,r5⟩,X⟩:=ay.out;have t0:=(Dj l N M).trans ((b.cell (p:=⟨w.heap.size+1+1,0,none⟩) L).trans r0);have t1:=(Dj l N M).trans ((b.cell (p:=⟨w.heap.size+1+1,1,none⟩) L).trans r1);have t2:=(Dj l N M).trans ((b.cell (p:=⟨w.heap.size+1+1,2,none⟩) L).trans r2);have t3:=(Dj l N M).trans ((b.cell (p:=⟨w.heap.size+1+1,3,none⟩) L).trans r3);have t4:=(Dj l N M).trans ((b.cell (p:=⟨w.heap.size+1+1,4,none⟩) L).trans r4);have t5:=(Dj l N M).trans ((b.cell (p:=⟨w.heap.size+1+1,5,none⟩) L).trans r5);have m0:=(Ho l N M).trans ((b.frozen (p:=⟨w.heap.size+1+1,0,none⟩) L).trans (X 0 yBe));have m1:=(Ho l N M).trans ((b.frozen (p:=⟨w.heap.size+1+1,1,none⟩) L).trans (X 1 yBe));have m2:=(Ho l N M).trans ((b.frozen (p:=⟨w.heap.size+1+1,2,none⟩) L).trans (X 2 yBe));have m3:=(Ho l N M).trans ((b.frozen (p:=⟨w.heap.size+1+1,3,none⟩) L).trans (X 3 yBe));have m4:=(Ho l N M).trans ((b.frozen (p:=⟨w.heap.size+1+1,4,none⟩) L).trans (X 4 yBe));have m5:=(Ho l N M).trans ((b.frozen (p:=⟨w.heap.size+1+1,5,none⟩) L).trans (X 5 yBe));clear aY aV aa V M O r0 r1 r2 r3 r4 r5 X))
 all_goals
  try go_wp2
  have hj:=HP.join (lo:=W.heap.size) U aU fC ae.size b.size gX bH jw.out;refine bodyPost_ret (v:=.agg #[.int .i64 mk, .int .i64 aK, .slice x0 aG.length y0, .slice x1 aF.length y1, .slice a6 (m.length+n.length) c6, .slice H ks.length J]) (by simp[results,results71,go_sem,t0,t1,t2,t3,t4,t5]) rfl ⟨⟨mk,aK,aG,x0,y0,aF,x1,y1,m++n,a6,c6,ks,H,J,by rw[A52],?_,?_,?_⟩,?_⟩
  ·rw[A52]
   exact J8.setO6 hj.1 (λx hx e=>by rcases hj.2 x hx _ e with⟨h1,_⟩ | h1<;>(have H:=bP.out;omega))
  ·rw[Bj.arm_eq]
   simp only;rw[aQ.out]
  ·rw[A52]
   intro x hx q hq;rcases hj.2 x hx q hq with⟨_,ag,u,e⟩ | h1
   ·exact .inl ⟨ag,fD ag u,e⟩
   ·exact .inr (by have H:=bP.out;omega)
  ·have az:=A40 U bH.out
   clear U b ae;repeat (refine A5p ?_ omz _)
   exact az
def B6 (w:World)(b:Nat)(v0 v1 v2 v3 v4 v5:Value):Prop:=b<w.heap.size/\(w.cell? ⟨b,0,none⟩=some v0/\w.cell? ⟨b,1,none⟩=some v1/\w.cell? ⟨b,2,none⟩=some v2/\w.cell? ⟨b,3,none⟩=some v3/\w.cell? ⟨b,4,none⟩=some v4/\w.cell? ⟨b,5,none⟩=some v5)/\∀o,o<6->w.frozen? ⟨b,o,none⟩=false
theorem B6.below {w:World}{n b:Nat}{v0:Value}(h:B6 w b v0 v1 v2 v3 v4 v5)(d:Below n w w')(e:b<n):B6 w' b v0 v1 v2 v3 v4 v5:=by
 obtain⟨q,⟨j,k,m,g,s,l⟩,f⟩:=h;refine⟨A51 q d.size,⟨(d.cell (p:=⟨b,0,none⟩) e).trans j,(d.cell (p:=⟨b,1,none⟩) e).trans k,(d.cell (p:=⟨b,2,none⟩) e).trans m,(d.cell (p:=⟨b,3,none⟩) e).trans g,(d.cell (p:=⟨b,4,none⟩) e).trans s,(d.cell (p:=⟨b,5,none⟩) e).trans l⟩,λo i=>(d.frozen (p:=⟨b,o,none⟩) e).trans (f o i)⟩
theorem B6.at {w:World}{b:Nat}{v0:Value}(h:B6 w b v0 v1 v2 v3 v4 v5)(d:Below w.heap.size w w'):B6 w' b v0 v1 v2 v3 v4 v5:=h.below d h.1
theorem B6.grown {w:World}{b:Nat}{v0:Value}(h:B6 w b v0 v1 v2 v3 v4 v5)(hg:w.grownBy w' r)(e:r≠some b):B6 w' b v0 v1 v2 v3 v4 v5:=by
 obtain⟨d,⟨j,k,m,g,n,l⟩,f⟩:=h;exact⟨A51 d hg.size,⟨(Dj hg d e).trans j,(Dj hg d e).trans k,(Dj hg d e).trans m,(Dj hg d e).trans g,(Dj hg d e).trans n,(Dj hg d e).trans l⟩,λo i=>(Ho hg d e).trans (f o i)⟩
theorem B6.drew {w:World}{b:Nat}{v0:Value}(h:B6 w b v0 v1 v2 v3 v4 v5):B6 w.drew b v0 v1 v2 v3 v4 v5:=h
theorem B6.setO {w:World}{b:Nat}{v0:Value}(h:B6 w b v0 v1 v2 v3 v4 v5)(d:b≠c)(u:Value):B6 (w.setCell ⟨c,o,none⟩ u) b v0 v1 v2 v3 v4 v5:=by
 obtain⟨m,⟨i,j,l,e,n,k⟩,f⟩:=h;exact⟨A51 m (J9 _ _ _),⟨(Bq d).trans i,(Bq d).trans j,(Bq d).trans l,(Bq d).trans e,(Bq d).trans n,(Bq d).trans k⟩,λo g=>Nk.trans (f o g)⟩
theorem B6.set6O {w:World}{b:Nat}{v0:Value}(h:B6 w b v0 v1 v2 v3 v4 v5)(d:b≠c):B6 ((((((w.setCell ⟨c,0,none⟩ u0).setCell ⟨c,1,none⟩ u1).setCell ⟨c,2,none⟩ u2).setCell ⟨c,3,none⟩ u3).setCell ⟨c,4,none⟩ u4).setCell ⟨c,5,none⟩ u5) b v0 v1 v2 v3 v4 v5:=
 (((((h.setO d u0).setO d u1).setO d u2).setO d u3).setO d u4).setO d u5
theorem B6.set4O {w:World}{b:Nat}{v0:Value}(h:B6 w b v0 v1 v2 v3 v4 v5)(d:b≠c):B6 ((((w.setCell ⟨c,0,none⟩ u0).setCell ⟨c,1,none⟩ u1).setCell ⟨c,2,none⟩ u2).setCell ⟨c,3,none⟩ u3) b v0 v1 v2 v3 v4 v5:=
 (((h.setO d u0).setO d u1).setO d u2).setO d u3
theorem B6.set0 {w:World}{b:Nat}{v0:Value}(h:B6 w b v0 v1 v2 v3 v4 v5)(u:Value):B6 (w.setCell ⟨b,0,none⟩ u) b u v1 v2 v3 v4 v5:=by
 obtain⟨l,⟨g,i,k,d,m,j⟩,f⟩:=h;exact⟨A51 l (J9 _ _ _),⟨Gh g,(Cj omz).trans i,(Cj omz).trans k,(Cj omz).trans d,(Cj omz).trans m,(Cj omz).trans j⟩,λo e=>Nk.trans (f o e)⟩
theorem B6.set1 {w:World}{b:Nat}{v0:Value}(h:B6 w b v0 v1 v2 v3 v4 v5)(u:Value):B6 (w.setCell ⟨b,1,none⟩ u) b v0 u v2 v3 v4 v5:=by
 obtain⟨l,⟨g,i,k,d,m,j⟩,f⟩:=h;exact⟨A51 l (J9 _ _ _),⟨(Cj omz).trans g,Gh i,(Cj omz).trans k,(Cj omz).trans d,(Cj omz).trans m,(Cj omz).trans j⟩,λo e=>Nk.trans (f o e)⟩
theorem B6.set2 {w:World}{b:Nat}{v0:Value}(h:B6 w b v0 v1 v2 v3 v4 v5)(u:Value):B6 (w.setCell ⟨b,2,none⟩ u) b v0 v1 u v3 v4 v5:=by
 obtain⟨l,⟨g,i,k,d,m,j⟩,f⟩:=h;exact⟨A51 l (J9 _ _ _),⟨(Cj omz).trans g,(Cj omz).trans i,Gh k,(Cj omz).trans d,(Cj omz).trans m,(Cj omz).trans j⟩,λo e=>Nk.trans (f o e)⟩
theorem B6.set3 {w:World}{b:Nat}{v0:Value}(h:B6 w b v0 v1 v2 v3 v4 v5)(u:Value):B6 (w.setCell ⟨b,3,none⟩ u) b v0 v1 v2 u v4 v5:=by
 obtain⟨l,⟨g,i,k,d,m,j⟩,f⟩:=h;exact⟨A51 l (J9 _ _ _),⟨(Cj omz).trans g,(Cj omz).trans i,(Cj omz).trans k,Gh d,(Cj omz).trans m,(Cj omz).trans j⟩,λo e=>Nk.trans (f o e)⟩
theorem B6.set4 {w:World}{b:Nat}{v0:Value}(h:B6 w b v0 v1 v2 v3 v4 v5)(u:Value):B6 (w.setCell ⟨b,4,none⟩ u) b v0 v1 v2 v3 u v5:=by
 obtain⟨l,⟨g,i,k,d,m,j⟩,f⟩:=h;exact⟨A51 l (J9 _ _ _),⟨(Cj omz).trans g,(Cj omz).trans i,(Cj omz).trans k,(Cj omz).trans d,Gh m,(Cj omz).trans j⟩,λo e=>Nk.trans (f o e)⟩
theorem B6.set5 {w:World}{b:Nat}{v0:Value}(h:B6 w b v0 v1 v2 v3 v4 v5)(u:Value):B6 (w.setCell ⟨b,5,none⟩ u) b v0 v1 v2 v3 v4 u:=by
 obtain⟨l,⟨g,i,k,d,m,j⟩,f⟩:=h;exact⟨A51 l (J9 _ _ _),⟨(Cj omz).trans g,(Cj omz).trans i,(Cj omz).trans k,(Cj omz).trans d,(Cj omz).trans m,Gh j⟩,λo e=>Nk.trans (f o e)⟩
theorem B6.set6 {w:World}{b:Nat}{v0:Value}(h:B6 w b v0 v1 v2 v3 v4 v5):B6 ((((((w.setCell ⟨b,0,none⟩ u0).setCell ⟨b,1,none⟩ u1).setCell ⟨b,2,none⟩ u2).setCell ⟨b,3,none⟩ u3).setCell ⟨b,4,none⟩ u4).setCell ⟨b,5,none⟩ u5) b u0 u1 u2 u3 u4 u5:=
 (((((h.set0 u0).set1 u1).set2 u2).set3 u3).set4 u4).set5 u5
theorem B6.setN {w:World}{b:Nat}{v0:Value}(h:B6 w b v0 v1 v2 v3 v4 v5):B6 ((((w.setCell ⟨b,0,none⟩ u0).setCell ⟨b,1,none⟩ u1).setCell ⟨b,2,none⟩ u2).setCell ⟨b,3,none⟩ u3) b u0 u1 u2 u3 v4 v5:=
 (((h.set0 u0).set1 u1).set2 u2).set3 u3
theorem B6.new (w:World)(v0 v1 v2 v3 v4 v5:Value)(t:TypeId):B6 (w.alloc (.cells #[v0,v1,v2,v3,v4,v5] t)) w.heap.size v0 v1 v2 v3 v4 v5:=by
 refine⟨spz,⟨?_,?_,?_,?_,?_,?_⟩,λo _=>?_⟩<;>simp[go_sem]
def A5t (w:World)(b:Nat)(m:Bj):Prop:=B6 w b (.int .i64 m.net.kind) (.int .i64 m.net.op) m.net.av m.net.kv m.cv m.kv
end Go.Proofs.YtnpfcnolmkanfaaGreatDoor
