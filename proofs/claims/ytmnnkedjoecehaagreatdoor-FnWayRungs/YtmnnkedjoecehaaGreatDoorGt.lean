import Derived.Test.YtmnnkedjoecehaaGreatDoorGs
set_option linter.defProp false
set_option maxHeartbeats 8000000
set_option maxRecDepth 100000
namespace Go.Proofs.YtmnnkedjoecehaaGreatDoor
open Tryz Stil Go.RowKit Go.Sort Go.BigFrame
variable {a:Addr}{base c o o1 o2 o3 o4 o5 o6:Nat}{fH qM iF u0 u1 u2 u3 u4 u5 u6 v1 v2 v3 v4 v5:Value}{r:Option Nat}{w':World}
theorem TK {ops:Array Oper}{o:Oper}{a:Act}{w:World}{K:Act->World->Prop}{Q:Exit->Act->World->Prop}{E:Prop}
  (hg:o.guard=none) (s x:Operand) (hop:o.op=.call {callee:=.builtin .append,args:=#[s,x],argTypes:=#[60,60]})
  (base:Nat) (ra:Option Addr) (rc:Nat) (ms ks:List Eo) (ad:Option Addr) (c:Nat) (hs:a.eval s=AE ra ms.length rc) (hx:a.eval x=AE ad ks.length c)
  (hrow:Vy w base (AE ra ms.length rc) ms) (G:0<ks.length->∃p,ad=some p/\∀j u,(I8 ks)[j]?=some u->w.cell? (p.add j)=some u)
  (n:∀m∈ks,EOk w base m) (L:(Value.slice ra ms.length rc::(Gv ms++Gv ks)).Pairwise Aside) (hl:ms.length+ks.length<=1000000) (B:base<=w.heap.size)
  (q:∀f b w',Vy w' base (AE f (ms.length+ks.length) b) (ms++ks)->w.grownBy w' (Value.slice ra ms.length rc).ownBlock->((Value.slice f (ms.length+ks.length) b).ownBlock=(Value.slice ra ms.length rc).ownBlock\/(Value.slice f (ms.length+ks.length) b).ownBlock=some w.heap.size)->K (a.put o.dst (AE f (ms.length+ks.length) b)) w'):
  if Region.wanted o (yielded ops a.tmps)=true then Oper.wp prog o a w K Q else E:=by
 obtain⟨v,hi,z,y,H⟩:=info_parts YK;by_cases hd:ks.length=0
 ·have t:=List.length_eq_zero_iff.1 hd
  subst t;have C:Region.wanted o (yielded ops a.tmps)=true:=by simp[Region.wanted,hg]
  rw[if_pos C];have hcap:ms.length<=rc:=by
   rcases hrow.1.2 with⟨i,d⟩ | ⟨g,b,cur,i,_,_,F,_⟩
   ·rw[d];exact DZ _
   ·simp only[Value.slice.injEq] at i
    rw[i.2.2];exact F
  have hk2:=q ra rc w yDd (PP _ _) (.inl AU);simp only[CP,ER] at hk2 hx;unfold Oper.wp execOp;cases ad
  ·exact zh0
  ·exact zc0
 ·obtain⟨p,rfl,D⟩:=G AQ
  refine Ec hg s x _ hop base 46 v _ 2 32 underlying60 hi z y H rfl AY _ _ (I8 ms) hs hrow.1 _ _ _ (I8 ks) hx (XU ks) D (VJ n) A6 AQ B ?_;intro M w' d k l;obtain⟨A,J,I⟩:=Af d;subst I;exact q A J w' (hrow.add n L d k l) k l
structure Parts (w:World)(base:Nat)(na nk:Ap)(fH:Value)(ca:List Eo)(qM:Value)(ck:List Eo)(iF:Value)(kk:List Bz):Prop where
 hna:MOk w base na
 hnk:MOk w base nk
 hca:Vy w base fH ca
 hck:∀m∈ck,EOk w base m
 ckr:w.ownsRow base 46 2 qM ck.length (I8 ck)
 hkk:Tj w base iF kk
 nets:(na.vals++nk.vals).Pairwise Aside
 coils:(fH::(Gv ca++Gv ck)).Pairwise Aside
 nc:∀x∈na.vals++nk.vals,∀y∈fH::(Gv ca++Gv ck),Aside x y
 nkk:∀x∈na.vals++nk.vals,∀y∈iF::Iq kk,Aside x y
 ckk:∀x∈fH::(Gv ca++Gv ck),∀y∈iF::Iq kk,Aside x y
theorem Lu.parts {w:World}{v d:Ap}{j:Value}{i b:List Eo}{e:List Bz}(h:Lu w base ⟨v,fH,i,j,[⟨d,qM,b,iF,e⟩]⟩):Parts w base v d fH i qM b iF e:=by
 obtain⟨K,g⟩:=h;obtain⟨s,⟨q,t⟩,_,F⟩:=(Ji _ _ _).1 K;obtain⟨z,⟨n,D⟩,A,C⟩:=(Ji _ _ _).1 (F ⟨d,qM,b,iF,e⟩ AU);simp only at s q t z n D A C;rw[Bz.vals_eq] at g;simp only[Rz] at g;rw[Bz.vals_eq] at g;simp only at g;obtain⟨N,Q,l⟩:=List.pairwise_append.1 g;obtain⟨k,E,f⟩:=List.pairwise_append.1 Q;obtain⟨_,M⟩:=List.pairwise_cons.1 E;obtain⟨I,J,B⟩:=List.pairwise_append.1 M;obtain⟨O,H,L⟩:=List.pairwise_append.1 J;have P:∀y∈d.vals,y∈(fH::Gv i)++(j::(d.vals++((qM::Gv b)++(iF::Iq e)))):=λy hy=>by simp[hy]
 have u:∀y∈Gv b,y∈j::(d.vals++((qM::Gv b)++(iF::Iq e))):=λy hy=>by simp[hy]
 have m:∀y∈iF::Iq e,y∈j::(d.vals++((qM::Gv b)++(iF::Iq e))):=λy hy=>by simp only[C7,EN] at hy ⊢;exact .inr (.inr (.inr hy))
 have G:(fH::(Gv i++Gv b)).Pairwise Aside:=by
  rw[DX] at k ⊢;refine⟨λy hy=>?_,List.pairwise_append.2 ⟨k.2,(List.pairwise_cons.1 O).2,λx hx y hy=>f x (CN _ hx) y (u y hy)⟩⟩;rcases List.mem_append.1 hy with hy | hy
  ·exact k.1 y hy
  ·exact f fH AU y (u y hy)
 refine⟨s,z,⟨q,t,k⟩,D,n,⟨A,C,H⟩,List.pairwise_append.2 ⟨N,I,λx hx y hy=>l x hx y (P y hy)⟩,G,λx hx y hy=>?_,λx hx y hy=>?_,λx hx y hy=>?_⟩
 ·rcases List.mem_append.1 hx with hx | hx
  ·refine l x hx y ?_
   simp only[C7,EN] at hy ⊢;rcases hy with hy | hy | hy
   ·exact .inl (.inl hy)
   ·exact .inl (.inr hy)
   ·exact .inr (.inr (.inr (.inl (.inr hy))))
  ·simp only[C7,EN] at hy
   rcases hy with hy | hy | hy
   ·exact(f y BN x BQ).symm
   ·exact(f y BN x BQ).symm
   ·exact B x hx y BN
 ·rcases List.mem_append.1 hx with hx | hx
  ·exact l x hx y (Da _ (m y hy))
  ·exact B x hx y (Da _ hy)
 ·simp only[C7,EN] at hx
  rcases hx with hx | hx | hx
  ·exact f x BQ y (m y hy)
  ·exact f x BQ y (m y hy)
  ·exact L x (CN _ hx) y hy
def Parts.below {w:World}{f e:Ap}{i g:List Eo}{d:List Bz}(h:Parts w base f e fH i qM g iF d)(b:AO w w'):Parts w' base f e fH i qM g iF d:=
 ⟨h.hna.below b,h.hnk.below b,h.hca.below b,λm j=>ownsRow_below (h.hck m j) b,ownsRow_below h.ckr b,h.hkk.below b,h.nets,h.coils,h.nc,h.nkk,h.ckk⟩
theorem Parts.join {w w1 D:World}{lo:Nat}{A v s:Ap}{j:Value}{i k:List Eo}{l:List Bz}(g:Parts w base A v fH i qM k iF l)(I:AO w w1)(E:Lt w1 base s)(O:∀x∈s.vals,x∈A.vals++v.vals\/∀q,x.ownBlock=some q->lo<=q)(U:w.heap.size<=lo)(R:lo<=w1.heap.size)
  (he:Vy D base j (i++k)) (hg:w1.grownBy D fH.ownBlock) (K:j.ownBlock=fH.ownBlock\/j.ownBlock=some w1.heap.size):Lu D base ⟨s,j,i++k,iF,l⟩/\∀x∈(Bz.mk s j (i++k) iF l).vals,∀q,x.ownBlock=some q->(q<w.heap.size/\∃y∈A.vals++v.vals++((fH::(Gv i++Gv k))++(iF::Iq l)),y.ownBlock=some q)\/lo<=q:=by
 have T:∀x∈A.vals++v.vals,∀q,x.ownBlock=some q->q<w.heap.size:=by
  intro x b q d;rcases List.mem_append.1 b with b | b
  ·exact(g.hna.lt _ x b q d).2
  ·exact(g.hnk.lt _ x b q d).2
 have C:∀y∈fH::(Gv i++Gv k),∀q,y.ownBlock=some q->q<w.heap.size:=by
  intro y f q d;simp only[C7,EN] at f;rcases f with rfl | f | f
  ·exact(g.hca.1.lt q d).2
  ·exact(g.hca.lt y (CN _ f) q d).2
  ·obtain⟨m,B,rfl⟩:=P6.1 f
   exact((g.hck m B).lt q d).2
 have F:=λy f q d=>(g.hkk.lt y f q d).2
 have H:∀x∈s.vals,∀y,(∀q,y.ownBlock=some q->q<w.heap.size)->(∀z∈A.vals++v.vals,Aside z y)->Aside x y:=by
  intro x b y f t;rcases O x b with h | h
  ·exact t x h
  ·exact(He (n:=w.heap.size) f (λq d=>CM U (h q d))).symm
 have P:∀y,(∀q,y.ownBlock=some q->q<w1.heap.size)->Aside fH y->Aside j y:=by
  intro y f S;rcases K with e | e
  ·rcases S with h0 | h0
   ·exact .inl Br
   ·exact .inr Br
  ·refine .inr (λQ=>?_)
   rw[e] at Q;have:=f _ Q.symm
   omega
 have V:=I.size;have B:=λx b=>H x b fH (C fH AU) (λz t=>g.nc z t fH AU)
 have G:=g.hkk.below I;have L:Tj D base iF l:=⟨G.1.kept hg (g.ckk fH AU iF AU).symm,λm J=>(G.2.1 m J).kept hg (λu hu=>(g.ckk fH AU u (CN _ (Oi.2 ⟨m,J,hu⟩))).symm),G.2.2⟩
 have N:(Bz.mk s j (i++k) iF l).vals=s.vals++((j::(Gv i++Gv k))++(iF::Iq l)):=by rw[Bz.vals_eq,Y1]
 refine⟨⟨(Ji _ _ _).2 ⟨E.1.kept hg B,⟨he.1,he.2.1⟩,L.1,L.2.1⟩,?_⟩,?_⟩
 ·rw[N]
  have M:=he.2.2;rw[Y1] at M;refine List.pairwise_append.2 ⟨E.2,List.pairwise_append.2 ⟨M,g.hkk.2.2,λx b y f=>?_⟩,λx b y f=>?_⟩
  ·rcases List.mem_cons.1 b with rfl | b
   ·exact P y (λq d=>by have:=F y f q d;omega) (g.ckk fH AU y f)
   ·exact g.ckk x (CN _ b) y f
  ·rcases List.mem_append.1 f with f | f
   ·rcases List.mem_cons.1 f with rfl | f
    ·exact(P x (λq d=>(E.1.lt _ x b q d).2) (B x b).symm).symm
    ·exact H x b y (C y (CN _ f)) (λz t=>g.nc z t y (CN _ f))
   ·exact H x b y (F y f) (λz t=>g.nkk z t y f)
 ·intro x b q d
  rw[N] at b;rcases List.mem_append.1 b with b | b
  ·rcases O x b with h | h
   ·exact .inl ⟨T x h q d,x,E0 _ h,d⟩
   ·exact .inr (h q d)
  rcases List.mem_append.1 b with b | b
  ·rcases List.mem_cons.1 b with rfl | b
   ·rcases K with e | e
    ·exact .inl ⟨C fH AU q (by rw[<-e];exact d),fH,Da _ (E0 _ AU),by rw[<-e];exact d⟩
    ·rw[e] at d;cases d;exact .inr R
   ·exact .inl ⟨C x (CN _ b) q d,x,Da _ (E0 _ (CN _ b)),d⟩
  ·exact .inl ⟨F x b q d,x,Da _ (Da _ b),d⟩
def Lu.setO {w:World}{m:Bz}(h:Lu w base m)(b:∀x∈m.vals,x.ownBlock≠some a.block)(u:Value):Lu (w.setCell a u) base m:=⟨AOk.map m h.1 (λ_ _ _ _ _ e d=>ownsRow_setCell_other d (b _ e) u),h.2⟩
theorem Lu.setO6 {w:World}{b:Nat}{m:Bz}(h:Lu w base m)(d:∀x∈m.vals,x.ownBlock≠some b):Lu ((((((w.setCell (AK b o1) u1).setCell (AK b o2) u2).setCell (AK b o3) u3).setCell (AK b o4) u4).setCell (AK b o5) u5).setCell (AK b o6) u6) base m:=
 Lu.setO (Lu.setO (Lu.setO (Lu.setO (Lu.setO (Lu.setO h (a:=(AK b o1)) d u1) (a:=(AK b o2)) d u2) (a:=(AK b o3)) d u3) (a:=(AK b o4)) d u4) (a:=(AK b o5)) d u5) (a:=(AK b o6)) d u6
def l8 (w:World)(base:Nat)(vs:List Value)(lo:Nat)(a:Stil.B9)(e:Ending):Prop:=∃(k op:Int) (b:List Stil.CC) (p:Option Addr) (m:Nat) (ns:List Ap) (l:Option Addr) (n:Nat) (d:List Eo) (j:Option Addr) (g:Nat) (f:List Bz) (h:Option Addr) (i:Nat),e=.returned (.agg #[AB k,AB op,AE p b.length m,AE l ns.length n,AE j d.length g,AE h f.length i])/\Lu w base ⟨⟨k,op,b,AE p b.length m,AE l ns.length n,ns⟩,AE j d.length g,d,AE h f.length i,f⟩/\(Bz.mk ⟨k,op,b,AE p b.length m,AE l ns.length n,ns⟩ (AE j d.length g) d (AE h f.length i) f).arm=a/\∀x∈(Bz.mk ⟨k,op,b,AE p b.length m,AE l ns.length n,ns⟩ (AE j d.length g) d (AE h f.length i) f).vals,∀q,x.ownBlock=some q->(∃y∈vs,y.ownBlock=some q)\/lo<=q
def nU {a b c:World}(h:AO a b)(k:b.grownBy c r):a.grownBy c r:=
 ⟨k.os.trans h.os,k.tape.trans h.tape,k.output.trans h.output,CM h.size k.size,λj d e=>(k.block j (CB d h.size) e).trans (h.block j d)⟩
def nu {w a:World}{b:Nat}(h:w.grownBy a r)(f:w.heap.size<=b)(v:Value):w.grownBy (a.setCell (AK b o) v) r:=
 ⟨h.os,h.tape,h.output,by simpa using h.size,λk e d=>by
  rw[<-h.block k e d];simp only[World.setCell,JO]
  rw[if_neg AQ]⟩
def Gs {W:World}:W.drew.cell? a=W.cell? a:=rfl
def set6O {w:World}{b:Nat}{v:Value}(h:b≠c)(d:w.cell? (AK b o)=some v):((((((w.setCell (AK c o1) u1).setCell (AK c o2) u2).setCell (AK c o3) u3).setCell (AK c o4) u4).setCell (AK c o5) u5).setCell (AK c o6) u6).cell? (AK b o)=some v:=
 (Bl h).trans ((Bl h).trans ((Bl h).trans ((Bl h).trans ((Bl h).trans ((Bl h).trans d)))))
theorem Avi (C o1:Int)(j:List Stil.CC)(E:Option Addr)(B:Nat)(F:Option Addr)(D:Nat)(k:List Ap)(I:Option Addr)(G:Nat)(m:List Eo)(h1:Option Addr)(X:Nat)(A o2:Int)(f:List Stil.CC)(s:Option Addr)(y:Nat)(t:Option Addr)(z:Nat)(d:List Ap)(K:Option Addr)(P:Nat)(n:List Eo)(H:Option Addr)(J:Nat)(ks:List Bz)(base:Nat)(w:World)
  (ho:Lu w base (Bz.mk (Ap.mk C o1 j (AE E j.length B) (AE F k.length D) k) (AE I m.length G) m (AE h1 1 X) [(Bz.mk (Ap.mk A o2 f (AE s f.length y) (AE t d.length z) d) (AE K n.length P) n (AE H ks.length J) ks)])) (ak:base<=w.heap.size) (hs:Stil.sizes [(Ap.mk C o1 j (AE E j.length B) (AE F k.length D) k).net,(Ap.mk A o2 f (AE s f.length y) (AE t d.length z) d).net]<=999999) (an:Dz (Ap.mk C o1 j (AE E j.length B) (AE F k.length D) k).net) (ao:Dz (Ap.mk A o2 f (AE s f.length y) (AE t d.length z) d).net) (az:m.length+n.length<=1000000):
  Calls prog 93 #[.agg #[AB C,AB o1,AE E j.length B,AE F k.length D,AE I m.length G,AE h1 1 X], .agg #[AB A,AB o2,AE s f.length y,AE t d.length z,AE K n.length P,AE H ks.length J]] w λe w'=>l8 w' base (Bz.mk (Ap.mk C o1 j (AE E j.length B) (AE F k.length D) k) (AE I m.length G) m (AE h1 1 X) [(Bz.mk (Ap.mk A o2 f (AE s f.length y) (AE t d.length z) d) (AE K n.length P) n (AE H ks.length J) ks)]).vals w.heap.size ⟨L8 (Ap.mk C o1 j (AE E j.length B) (AE F k.length D) k).net (Ap.mk A o2 f (AE s f.length y) (AE t d.length z) d).net,(m++n).map Eo.elem,ks.map Bz.arm⟩ e/\w.grownBy w' (Value.slice I m.length G).ownBlock:=by
 have hP:=ho.parts;have fV:Hid (∀af∈(Ap.mk C o1 j (AE E j.length B) (AE F k.length D) k).vals++(Ap.mk A o2 f (AE s f.length y) (AE t d.length z) d).vals++((.slice I m.length G::(Gv m++Gv n))++(.slice H ks.length J::Iq ks)),af∈(Bz.mk (Ap.mk C o1 j (AE E j.length B) (AE F k.length D) k) (AE I m.length G) m (AE h1 1 X) [(Bz.mk (Ap.mk A o2 f (AE s f.length y) (AE t d.length z) d) (AE K n.length P) n (AE H ks.length J) ks)]).vals):=by
  intro af u;rw[Bz.vals_eq];simp only[Rz];rw[Bz.vals_eq (Bz.mk (Ap.mk A o2 f (AE s f.length y) (AE t d.length z) d) (AE K n.length P) n (AE H ks.length J) ks)];simp only[EN,C7] at u ⊢;rcases u with(u | u) | (u | u | u) | u | u
  ·exact .inl u
  ·exact .inr (.inr (.inr (.inl u)))
  ·exact .inr (.inl (.inl u))
  ·exact .inr (.inl (.inr u))
  ·exact .inr (.inr (.inr (.inr (.inl (.inr u)))))
  ·exact .inr (.inr (.inr (.inr (.inr (.inl u)))))
  ·exact .inr (.inr (.inr (.inr (.inr (.inr u)))))
 obtain⟨OV,zJ⟩:=AA ((Bz.mk (Ap.mk C o1 j (AE E j.length B) (AE F k.length D) k) (AE I m.length G) m (AE h1 1 X) [(Bz.mk (Ap.mk A o2 f (AE s f.length y) (AE t d.length z) d) (AE K n.length P) n (AE H ks.length J) ks)]).vals)
 rw[<-zJ] at fV ⊢;clear zJ;have HP:=AV hP;have o9:=AV (λW h=>sN C o1 j E B F D k A o2 f s y t z d base W (hP.hna.below h) (hP.hnk.below h) hP.nets (CM ak h.size) hs an ao);obtain⟨ap,hS⟩:=AA (L8 (Ap.mk C o1 j (AE E j.length B) (AE F k.length D) k).net (Ap.mk A o2 f (AE s f.length y) (AE t d.length z) d).net)
 rw[<-hS] at o9 ⊢;clear ho hP hs an ao hS;go_enter func93,ntmps93;go_upto_region 1 with fail
 obtain⟨W,i⟩:=AA (((w.alloc (.cells #[AB C,AB o1,AE E j.length B,AE F k.length D,AE I m.length G,AE h1 1 X] 62)).alloc (.cells #[AB A,AB o2,AE s f.length y,AE t d.length z,AE K n.length P,AE H ks.length J] 62)).alloc (.cells #[AB 0,AB 0,AG,AG,AG,AG] 62))
 rw[<-i];have p0:W.cell? (AL w 0)=some (AB C):=by rw[i];simp[go_sem]
 have p1:W.cell? (AL w 1)=some (AB o1):=by rw[i];simp[go_sem]
 have p2:W.cell? (AL w 2)=some (AE E j.length B):=by rw[i];simp[go_sem]
 have p3:W.cell? (AL w 3)=some (AE F k.length D):=by rw[i];simp[go_sem]
 have p4:W.cell? (AL w 4)=some (AE I m.length G):=by rw[i];simp[go_sem]
 have p5:W.cell? (AL w 5)=some (AE h1 1 X):=by rw[i];simp[go_sem]
 have q0:W.cell? (AK (w.heap.size+1) 0)=some (AB A):=by rw[i];simp[go_sem]
 have q1:W.cell? (AK (w.heap.size+1) 1)=some (AB o2):=by rw[i];simp[go_sem]
 have q2:W.cell? (AK (w.heap.size+1) 2)=some (AE s f.length y):=by rw[i];simp[go_sem]
 have q3:W.cell? (AK (w.heap.size+1) 3)=some (AE t d.length z):=by rw[i];simp[go_sem]
 have q4:W.cell? (AK (w.heap.size+1) 4)=some (AE K n.length P):=by rw[i];simp[go_sem]
 have q5:W.cell? (AK (w.heap.size+1) 5)=some (AE H ks.length J):=by rw[i];simp[go_sem]
 have r0:W.cell? (AK (w.heap.size+1+1) 0)=some (AB 0):=by rw[i];simp[go_sem]
 have r1:W.cell? (AK (w.heap.size+1+1) 1)=some (AB 0):=by rw[i];simp[go_sem]
 have r2:W.cell? (AK (w.heap.size+1+1) 2)=some AG:=by rw[i];simp[go_sem]
 have r3:W.cell? (AK (w.heap.size+1+1) 3)=some AG:=by rw[i];simp[go_sem]
 have r4:W.cell? (AK (w.heap.size+1+1) 4)=some AG:=by rw[i];simp[go_sem]
 have r5:W.cell? (AK (w.heap.size+1+1) 5)=some AG:=by rw[i];simp[go_sem]
 have v0:W.frozen? (AK (w.heap.size+1+1) 0)=false:=by rw[i];simp[go_sem]
 have v1:W.frozen? (AK (w.heap.size+1+1) 1)=false:=by rw[i];simp[go_sem]
 have v2:W.frozen? (AK (w.heap.size+1+1) 2)=false:=by rw[i];simp[go_sem]
 have v3:W.frozen? (AK (w.heap.size+1+1) 3)=false:=by rw[i];simp[go_sem]
 have v4:W.frozen? (AK (w.heap.size+1+1) 4)=false:=by rw[i];simp[go_sem]
 have v5:W.frozen? (AK (w.heap.size+1+1) 5)=false:=by rw[i];simp[go_sem]
 have ay:Hid ((W.cell? (AK (w.heap.size+1+1) 0)=some (AB 0)/\W.cell? (AK (w.heap.size+1+1) 1)=some (AB 0)/\W.cell? (AK (w.heap.size+1+1) 2)=some AG/\W.cell? (AK (w.heap.size+1+1) 3)=some AG/\W.cell? (AK (w.heap.size+1+1) 4)=some AG/\W.cell? (AK (w.heap.size+1+1) 5)=some AG)/\∀o,o<6->W.frozen? (AK (w.heap.size+1+1) o)=false):=⟨⟨r0,r1,r2,r3,r4,r5⟩,λo ho=>by match o,ho with | 0,_=>exact v0 | 1,_=>exact v1 | 2,_=>exact v2 | 3,_=>exact v3 | 4,_=>exact v4 | 5,_=>exact v5⟩
 have al:W.heap.size=w.heap.size+3:=by rw[i];simp
 have ag:AO w W:=by rw[i];exact Bi (Bi (Aa _ _) _) _
 have bG:=AV al;have aa:w.heap.size<W.heap.size:=AQ
 have Y:w.heap.size+1<W.heap.size:=AQ
 have N:w.heap.size+1+1<W.heap.size:=AQ
 have eX:=AV (λq hq=>HP.hca.1.lt q hq);clear i al r0 r1 r2 r3 r4 r5 v0 v1 v2 v3 v4 v5;have qw:Hid (∀aj,AO w aj->0<n.length->∃p,K=some p/\∀ah ai,(I8 n)[ah]?=some ai->aj.cell? (p.add ah)=some ai):=by
  intro aj hV hz;obtain⟨g,c,hv,_,_,_,ax⟩:=Bg (ownsRow_below HP.ckr hV) hz;simp only[Value.slice.injEq] at hv;exact⟨(AK g 0),hv.1,λah ai hu=>by rw[Addr.add_lit];simpa using ax ah ai hu⟩
 go_region_held3 (λQ=>(Q.cell? (AL w 0)=some (AB C)/\Q.cell? (AL w 1)=some (AB o1)/\Q.cell? (AL w 2)=some (AE E j.length B)/\Q.cell? (AL w 3)=some (AE F k.length D)/\Q.cell? (AL w 4)=some (AE I m.length G)/\Q.cell? (AK (w.heap.size+1) 0)=some (AB A)/\Q.cell? (AK (w.heap.size+1) 1)=some (AB o2)/\Q.cell? (AK (w.heap.size+1) 2)=some (AE s f.length y)/\Q.cell? (AK (w.heap.size+1) 3)=some (AE t d.length z)/\Q.cell? (AK (w.heap.size+1) 4)=some (AE K n.length P)/\Q.cell? (AK (w.heap.size+1) 5)=some (AE H ks.length J))) (first | with_reducible assumption | with_reducible exact⟨Gs.trans p0,Gs.trans p1,Gs.trans p2,Gs.trans p3,Gs.trans p4,Gs.trans q0,Gs.trans q1,Gs.trans q2,Gs.trans q3,Gs.trans q4,Gs.trans q5⟩ | with_reducible exact⟨set6O BF T.1,set6O BF T.2.1,set6O BF T.2.2.1,set6O BF T.2.2.2.1,set6O BF T.2.2.2.2.1,set6O BF T.2.2.2.2.2.1,set6O BF T.2.2.2.2.2.2.1,set6O BF T.2.2.2.2.2.2.2.1,set6O BF T.2.2.2.2.2.2.2.2.1,set6O BF T.2.2.2.2.2.2.2.2.2.1,set6O BF T.2.2.2.2.2.2.2.2.2.2⟩ | skip) (first | (go_at_call 131;refine(o9.out _ (by exact ag.drew)).mono ?_;rintro e S ⟨⟨mk,aH,aG,x0,y0,x1,y1,aF,rfl,ar,aw,au⟩,av⟩;have b:=((Below.refl W.heap.size W).drew).trans av;have U:=ag.trans (b.mono ag.size);have ae:=CB aa b.size;have ac:=CB Y b.size;have M:=CB N b.size;have aT:=AV ar;have aO:=AV aw;have fU:Hid (∀x∈(Ap.mk mk aH aG (AE x0 aG.length y0) (AE x1 aF.length y1) aF).vals,x∈(Ap.mk C o1 j (AE E j.length B) (AE F k.length D) k).vals++(Ap.mk A o2 f (AE s f.length y) (AE t d.length z) d).vals\/∀q,x.ownBlock=some q->W.heap.size<=q):=au;have O:(S.cell? (AL w 0)=some (AB C)/\S.cell? (AL w 1)=some (AB o1)/\S.cell? (AL w 2)=some (AE E j.length B)/\S.cell? (AL w 3)=some (AE F k.length D)/\S.cell? (AL w 4)=some (AE I m.length G)/\S.cell? (AK (w.heap.size+1) 0)=some (AB A)/\S.cell? (AK (w.heap.size+1) 1)=some (AB o2)/\S.cell? (AK (w.heap.size+1) 2)=some (AE s f.length y)/\S.cell? (AK (w.heap.size+1) 3)=some (AE t d.length z)/\S.cell? (AK (w.heap.size+1) 4)=some (AE K n.length P)/\S.cell? (AK (w.heap.size+1) 5)=some (AE H ks.length J)):=⟨(b.cell (p:=(AL w 0)) aa).trans p0,(b.cell (p:=(AL w 1)) aa).trans p1,(b.cell (p:=(AL w 2)) aa).trans p2,(b.cell (p:=(AL w 3)) aa).trans p3,(b.cell (p:=(AL w 4)) aa).trans p4,(b.cell (p:=(AK (w.heap.size+1) 0)) Y).trans q0,(b.cell (p:=(AK (w.heap.size+1) 1)) Y).trans q1,(b.cell (p:=(AK (w.heap.size+1) 2)) Y).trans q2,(b.cell (p:=(AK (w.heap.size+1) 3)) Y).trans q3,(b.cell (p:=(AK (w.heap.size+1) 4)) Y).trans q4,(b.cell (p:=(AK (w.heap.size+1) 5)) Y).trans q5⟩;clear ar aw au av) | (refine TK rfl _ _ rfl base I G m n K P rfl rfl ((HP.out.below U).hca) (qw.out _ U) ((HP.out.below U).hck) HP.out.coils az (CM ak U.size) ?_;intro a6 c6 R aZ l aV;have iU:=AV aZ;have bJ:=AV l;have xw:=AV aV;have V:(Value.slice I m.length G).ownBlock≠some (w.heap.size+1):=(λe=>by have:=(eX.out _ e).2;omega);have L:(Value.slice I m.length G).ownBlock≠some (w.heap.size+1+1):=(λe=>by have:=(eX.out _ e).2;omega);have oW:=CB M l.size;have ab:(Value.slice I m.length G).ownBlock≠some (w.heap.size):=(λe=>by have:=(eX.out _ e).2;omega);have T:(R.cell? (AL w 0)=some (AB C)/\R.cell? (AL w 1)=some (AB o1)/\R.cell? (AL w 2)=some (AE E j.length B)/\R.cell? (AL w 3)=some (AE F k.length D)/\R.cell? (AL w 4)=some (AE I m.length G)/\R.cell? (AK (w.heap.size+1) 0)=some (AB A)/\R.cell? (AK (w.heap.size+1) 1)=some (AB o2)/\R.cell? (AK (w.heap.size+1) 2)=some (AE s f.length y)/\R.cell? (AK (w.heap.size+1) 3)=some (AE t d.length z)/\R.cell? (AK (w.heap.size+1) 4)=some (AE K n.length P)/\R.cell? (AK (w.heap.size+1) 5)=some (AE H ks.length J)):=⟨(Du l ae ab).trans O.1,(Du l ae ab).trans O.2.1,(Du l ae ab).trans O.2.2.1,(Du l ae ab).trans O.2.2.2.1,(Du l ae ab).trans O.2.2.2.2.1,(Du l ac V).trans O.2.2.2.2.2.1,(Du l ac V).trans O.2.2.2.2.2.2.1,(Du l ac V).trans O.2.2.2.2.2.2.2.1,(Du l ac V).trans O.2.2.2.2.2.2.2.2.1,(Du l ac V).trans O.2.2.2.2.2.2.2.2.2.1,(Du l ac V).trans O.2.2.2.2.2.2.2.2.2.2⟩;obtain⟨⟨r0,r1,r2,r3,r4,r5⟩,Z⟩:=ay.out;have t0:=(Du l M L).trans ((b.cell (p:=(AK (w.heap.size+1+1) 0)) N).trans r0);have t1:=(Du l M L).trans ((b.cell (p:=(AK (w.heap.size+1+1) 1)) N).trans r1);have t2:=(Du l M L).trans ((b.cell (p:=(AK (w.heap.size+1+1) 2)) N).trans r2);have t3:=(Du l M L).trans ((b.cell (p:=(AK (w.heap.size+1+1) 3)) N).trans r3);have t4:=(Du l M L).trans ((b.cell (p:=(AK (w.heap.size+1+1) 4)) N).trans r4);have t5:=(Du l M L).trans ((b.cell (p:=(AK (w.heap.size+1+1) 5)) N).trans r5);have m0:=(Ie l M L).trans ((b.frozen (p:=(AK (w.heap.size+1+1) 0)) N).trans (Z 0 BF));have m1:=(Ie l M L).trans ((b.frozen (p:=(AK (w.heap.size+1+1) 1)) N).trans (Z 1 BF));have m2:=(Ie l M L).trans ((b.frozen (p:=(AK (w.heap.size+1+1) 2)) N).trans (Z 2 BF));have m3:=(Ie l M L).trans ((b.frozen (p:=(AK (w.heap.size+1+1) 3)) N).trans (Z 3 BF));have m4:=(Ie l M L).trans ((b.frozen (p:=(AK (w.heap.size+1+1) 4)) N).trans (Z 4 BF));have m5:=(Ie l M L).trans ((b.frozen (p:=(AK (w.heap.size+1+1) 5)) N).trans (Z 5 BF));clear aZ aV ab V L O r0 r1 r2 r3 r4 r5 Z))
 all_goals
  try go_wp2
  have hj:=HP.join (lo:=W.heap.size) U aT fU ag.size b.size iU bJ xw.out;refine bodyPost_ret (v:=.agg #[AB mk,AB aH,AE x0 aG.length y0,AE x1 aF.length y1,AE a6 (m.length+n.length) c6,AE H ks.length J]) (by simp[results,results93,go_sem,t0,t1,t2,t3,t4,t5]) rfl ⟨⟨mk,aH,aG,x0,y0,aF,x1,y1,m++n,a6,c6,ks,H,J,by rw[CO],?_,?_,?_⟩,?_⟩
  ·rw[CO]
   exact Lu.setO6 hj.1 (λx hx e=>by rcases hj.2 x hx _ e with⟨h1,_⟩ | h1<;>(have H:=bG.out;omega))
  ·rw[Bz.arm_eq]
   simp only;rw[aO.out]
  ·rw[CO]
   intro x hx q hq;rcases hj.2 x hx q hq with⟨_,af,u,e⟩ | h1
   ·exact .inl ⟨af,fV af u,e⟩
   ·exact .inr (by have H:=bG.out;omega)
  ·have lu:=nU U bJ.out
   clear U b ag;repeat (refine nu ?_ AQ _)
   exact lu
def B6 (w:World)(b:Nat)(v0 v1 v2 v3 v4 v5:Value):Prop:=b<w.heap.size/\(w.cell? ⟨b,0,none⟩=some v0/\w.cell? ⟨b,1,none⟩=some v1/\w.cell? ⟨b,2,none⟩=some v2/\w.cell? ⟨b,3,none⟩=some v3/\w.cell? ⟨b,4,none⟩=some v4/\w.cell? ⟨b,5,none⟩=some v5)/\∀o,o<6->w.frozen? ⟨b,o,none⟩=false
theorem B6.below {w:World}{n b:Nat}{v0:Value}(h:B6 w b v0 v1 v2 v3 v4 v5)(d:Below n w w')(e:b<n):B6 w' b v0 v1 v2 v3 v4 v5:=by
 obtain⟨s,⟨k,g,i,j,q,l⟩,f⟩:=h;refine⟨CB s d.size,⟨(d.cell (p:=(AK b 0)) e).trans k,(d.cell (p:=(AK b 1)) e).trans g,(d.cell (p:=(AK b 2)) e).trans i,(d.cell (p:=(AK b 3)) e).trans j,(d.cell (p:=(AK b 4)) e).trans q,(d.cell (p:=(AK b 5)) e).trans l⟩,λo m=>(d.frozen (p:=(AK b o)) e).trans (f o m)⟩
def B6.at {w:World}{b:Nat}{v0:Value}(h:B6 w b v0 v1 v2 v3 v4 v5)(d:AO w w'):B6 w' b v0 v1 v2 v3 v4 v5:=h.below d h.1
theorem B6.grown {w:World}{b:Nat}{v0:Value}(h:B6 w b v0 v1 v2 v3 v4 v5)(hg:w.grownBy w' r)(e:r≠some b):B6 w' b v0 v1 v2 v3 v4 v5:=by
 obtain⟨d,⟨k,g,i,j,n,l⟩,f⟩:=h;exact⟨CB d hg.size,⟨(Du hg d e).trans k,(Du hg d e).trans g,(Du hg d e).trans i,(Du hg d e).trans j,(Du hg d e).trans n,(Du hg d e).trans l⟩,λo m=>(Ie hg d e).trans (f o m)⟩
def B6.drew {w:World}{b:Nat}{v0:Value}(h:B6 w b v0 v1 v2 v3 v4 v5):B6 w.drew b v0 v1 v2 v3 v4 v5:=h
def B6.setO {w:World}{b:Nat}{v0:Value}(h:B6 w b v0 v1 v2 v3 v4 v5)(d:b≠c)(u:Value):B6 (w.setCell (AK c o) u) b v0 v1 v2 v3 v4 v5:=by
 obtain⟨n,⟨j,e,g,i,m,k⟩,f⟩:=h;exact⟨CB n (Iz _ _ _),⟨(Bl d).trans j,(Bl d).trans e,(Bl d).trans g,(Bl d).trans i,(Bl d).trans m,(Bl d).trans k⟩,λo l=>O6.trans (f o l)⟩
def B6.set6O {w:World}{b:Nat}{v0:Value}(h:B6 w b v0 v1 v2 v3 v4 v5)(d:b≠c):B6 ((((((w.setCell (AK c 0) u0).setCell (AK c 1) u1).setCell (AK c 2) u2).setCell (AK c 3) u3).setCell (AK c 4) u4).setCell (AK c 5) u5) b v0 v1 v2 v3 v4 v5:=
 (((((h.setO d u0).setO d u1).setO d u2).setO d u3).setO d u4).setO d u5
def B6.set4O {w:World}{b:Nat}{v0:Value}(h:B6 w b v0 v1 v2 v3 v4 v5)(d:b≠c):B6 ((((w.setCell (AK c 0) u0).setCell (AK c 1) u1).setCell (AK c 2) u2).setCell (AK c 3) u3) b v0 v1 v2 v3 v4 v5:=
 (((h.setO d u0).setO d u1).setO d u2).setO d u3
theorem B6.set0 {w:World}{b:Nat}{v0:Value}(h:B6 w b v0 v1 v2 v3 v4 v5)(u:Value):B6 (w.setCell (AK b 0) u) b u v1 v2 v3 v4 v5:=by
 obtain⟨m,⟨i,d,e,g,l,j⟩,f⟩:=h;exact⟨CB m (Iz _ _ _),⟨Fb i,(A8 AQ).trans d,(A8 AQ).trans e,(A8 AQ).trans g,(A8 AQ).trans l,(A8 AQ).trans j⟩,λo k=>O6.trans (f o k)⟩
theorem B6.set1 {w:World}{b:Nat}{v0:Value}(h:B6 w b v0 v1 v2 v3 v4 v5)(u:Value):B6 (w.setCell (AK b 1) u) b v0 u v2 v3 v4 v5:=by
 obtain⟨m,⟨i,d,e,g,l,j⟩,f⟩:=h;exact⟨CB m (Iz _ _ _),⟨(A8 AQ).trans i,Fb d,(A8 AQ).trans e,(A8 AQ).trans g,(A8 AQ).trans l,(A8 AQ).trans j⟩,λo k=>O6.trans (f o k)⟩
theorem B6.set2 {w:World}{b:Nat}{v0:Value}(h:B6 w b v0 v1 v2 v3 v4 v5)(u:Value):B6 (w.setCell (AK b 2) u) b v0 v1 u v3 v4 v5:=by
 obtain⟨m,⟨i,d,e,g,l,j⟩,f⟩:=h;exact⟨CB m (Iz _ _ _),⟨(A8 AQ).trans i,(A8 AQ).trans d,Fb e,(A8 AQ).trans g,(A8 AQ).trans l,(A8 AQ).trans j⟩,λo k=>O6.trans (f o k)⟩
theorem B6.set3 {w:World}{b:Nat}{v0:Value}(h:B6 w b v0 v1 v2 v3 v4 v5)(u:Value):B6 (w.setCell (AK b 3) u) b v0 v1 v2 u v4 v5:=by
 obtain⟨m,⟨i,d,e,g,l,j⟩,f⟩:=h;exact⟨CB m (Iz _ _ _),⟨(A8 AQ).trans i,(A8 AQ).trans d,(A8 AQ).trans e,Fb g,(A8 AQ).trans l,(A8 AQ).trans j⟩,λo k=>O6.trans (f o k)⟩
theorem B6.set4 {w:World}{b:Nat}{v0:Value}(h:B6 w b v0 v1 v2 v3 v4 v5)(u:Value):B6 (w.setCell (AK b 4) u) b v0 v1 v2 v3 u v5:=by
 obtain⟨m,⟨i,d,e,g,l,j⟩,f⟩:=h;exact⟨CB m (Iz _ _ _),⟨(A8 AQ).trans i,(A8 AQ).trans d,(A8 AQ).trans e,(A8 AQ).trans g,Fb l,(A8 AQ).trans j⟩,λo k=>O6.trans (f o k)⟩
theorem B6.set5 {w:World}{b:Nat}{v0:Value}(h:B6 w b v0 v1 v2 v3 v4 v5)(u:Value):B6 (w.setCell (AK b 5) u) b v0 v1 v2 v3 v4 u:=by
 obtain⟨m,⟨i,d,e,g,l,j⟩,f⟩:=h;exact⟨CB m (Iz _ _ _),⟨(A8 AQ).trans i,(A8 AQ).trans d,(A8 AQ).trans e,(A8 AQ).trans g,(A8 AQ).trans l,Fb j⟩,λo k=>O6.trans (f o k)⟩
def B6.set6 {w:World}{b:Nat}{v0:Value}(h:B6 w b v0 v1 v2 v3 v4 v5):B6 ((((((w.setCell (AK b 0) u0).setCell (AK b 1) u1).setCell (AK b 2) u2).setCell (AK b 3) u3).setCell (AK b 4) u4).setCell (AK b 5) u5) b u0 u1 u2 u3 u4 u5:=
 (((((h.set0 u0).set1 u1).set2 u2).set3 u3).set4 u4).set5 u5
def B6.setN {w:World}{b:Nat}{v0:Value}(h:B6 w b v0 v1 v2 v3 v4 v5):B6 ((((w.setCell (AK b 0) u0).setCell (AK b 1) u1).setCell (AK b 2) u2).setCell (AK b 3) u3) b u0 u1 u2 u3 v4 v5:=
 (((h.set0 u0).set1 u1).set2 u2).set3 u3
theorem B6.new (w:World)(v0 v1 v2 v3 v4 v5:Value)(t:TypeId):B6 (w.alloc (.cells #[v0,v1,v2,v3,v4,v5] t)) w.heap.size v0 v1 v2 v3 v4 v5:=by
 refine⟨AU,⟨?_,?_,?_,?_,?_,?_⟩,λo _=>?_⟩<;>simp[go_sem]
def NT (w:World)(b:Nat)(m:Bz):Prop:=B6 w b (AB m.net.kind) (AB m.net.op) m.net.av m.net.kv m.cv m.kv
