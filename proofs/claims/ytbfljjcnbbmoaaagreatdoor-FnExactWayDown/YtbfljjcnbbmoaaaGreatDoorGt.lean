import Derived.Test.YtbfljjcnbbmoaaaGreatDoorGs
import Derived.Deep.RegionHeld3
namespace Go.Proofs.YtbfljjcnbbmoaaaGreatDoor
open Stil
open Go.RowKit Go.Sort Go.BigFrame
variable {a:Addr}{base c o o1 o2 o3 o4 o5 o6:Nat}{dR oJ fO u0 u1 u2 u3 u4 u5 u6 v1 v2 v3 v4 v5:Value}{r:Option Nat}{w':World}
theorem Xz {ops:Array Oper}{o:Oper}{a:Act}{w:World}{K:Act->World->Prop}{Q:Exit->Act->World->Prop}{E:Prop}
  (hg:o.guard=none) (s x:Operand) (hop:o.op=.call {callee:=.builtin .append,args:=#[s,x],argTypes:=#[53,53]})
  (base:Nat) (ra:Option Addr) (rc:Nat) (ms ks:List Df) (ad:Option Addr) (c:Nat) (hs:a.eval s=.slice ra ms.length rc) (hx:a.eval x=.slice ad ks.length c)
  (hrow:Pg w base (.slice ra ms.length rc) ms) (hxs:0<ks.length->∃p,ad=some p/\∀j u,(Gh ks)[j]?=some u->w.cell? (p.add j)=some u)
  (hk:∀m∈ks,EOk w base m) (hp:(Value.slice ra ms.length rc::(Ff ms++Ff ks)).Pairwise Aside) (hl:ms.length+ks.length<=1000000) (hbase:base<=w.heap.size)
  (hK:∀a' c' w',Pg w' base (.slice a' (ms.length+ks.length) c') (ms++ks)->w.grownBy w' (Value.slice ra ms.length rc).ownBlock->((Value.slice a' (ms.length+ks.length) c').ownBlock=(Value.slice ra ms.length rc).ownBlock\/(Value.slice a' (ms.length+ks.length) c').ownBlock=some w.heap.size)->K (a.put o.dst (.slice a' (ms.length+ks.length) c')) w'):
  if Region.wanted o (yielded ops a.tmps)=true then Oper.wp Tryz.prog o a w K Q else E:=by
 obtain⟨i0,hi,hz0,hz1,hz2⟩:=info_parts Adr;by_cases hd:ks.length=0
 ·have hn:=List.length_eq_zero_iff.1 hd
  subst hn;have hw:Region.wanted o (yielded ops a.tmps)=true:=by simp[Region.wanted,hg]
  rw[if_pos hw];have hcap:ms.length<=rc:=by
   rcases hrow.1.2 with⟨h0,h1⟩ | ⟨g,c',cur,h0,_,_,hnc,_⟩
   ·rw[h1];exact Nat.zero_le _
   ·simp only[Value.slice.injEq] at h0
    rw[h0.2.2];exact hnc
  have hk2:=hK ra rc w (by simpa using hrow) (Adw _ _) (.inl spz);simp only[A4a,Nat.add_zero] at hk2 hx;unfold Oper.wp execOp;cases ad
  ·exact ze0
  ·exact za0
 ·obtain⟨p,rfl,hcs⟩:=hxs omz
  refine Gz hg s x _ hop base 49 i0 _ 2 32 Tryz.underlying53 hi hz0 hz1 hz2 rfl dcz _ _ (Gh ms) hs hrow.1 _ _ _ (Gh ks) hx (Xo ks) hcs (Ad4 hk) (by unfold maxLen;omega) omz hbase ?_;intro v' w' h1 h2 h3;obtain⟨a6,c6,hv6⟩:=Af h1;subst hv6;exact hK a6 c6 w' (hrow.add hk hp h1 h2 h3) h2 h3
structure Parts (w:World)(base:Nat)(na nk:Ah)(dR:Value)(ca:List Df)(oJ:Value)(ck:List Df)(fO:Value)(kk:List Aw):Prop where
 hna:MOk w base na
 hnk:MOk w base nk
 hca:Pg w base dR ca
 hck:∀m∈ck,EOk w base m
 ckr:w.ownsRow base 49 2 oJ ck.length (Gh ck)
 hkk:Oi w base fO kk
 nets:(na.vals++nk.vals).Pairwise Aside
 coils:(dR::(Ff ca++Ff ck)).Pairwise Aside
 nc:∀x∈na.vals++nk.vals,∀y∈dR::(Ff ca++Ff ck),Aside x y
 nkk:∀x∈na.vals++nk.vals,∀y∈fO::Gj kk,Aside x y
 ckk:∀x∈dR::(Ff ca++Ff ck),∀y∈fO::Gj kk,Aside x y
theorem Ic.parts {w:World}{na nk:Ah}{mr:Value}{ca ck:List Df}{kk:List Aw}(h:Ic w base ⟨na,dR,ca,mr,[⟨nk,oJ,ck,fO,kk⟩]⟩):Parts w base na nk dR ca oJ ck fO kk:=by
 obtain⟨hok,hp⟩:=h;obtain⟨h1,⟨h2,h3⟩,_,h5⟩:=(Hf _ _ _).1 hok;obtain⟨g1,⟨g2,g3⟩,g4,g5⟩:=(Hf _ _ _).1 (h5 ⟨nk,oJ,ck,fO,kk⟩ spz);simp only at h1 h2 h3 g1 g2 g3 g4 g5;rw[Aw.vals_eq] at hp;simp only[Nq] at hp;rw[Aw.vals_eq] at hp;simp only at hp;obtain⟨pN,pR,pO⟩:=List.pairwise_append.1 hp;obtain⟨pC,pK,mW⟩:=List.pairwise_append.1 pR;obtain⟨_,uk⟩:=List.pairwise_cons.1 pK;obtain⟨qN,qR,qNR⟩:=List.pairwise_append.1 uk;obtain⟨qC,qK,qCK⟩:=List.pairwise_append.1 qR;have m1:∀y∈nk.vals,y∈(dR::Ff ca)++(mr::(nk.vals++((oJ::Ff ck)++(fO::Gj kk)))):=λy hy=>by simp[hy]
 have m2:∀y∈Ff ck,y∈mr::(nk.vals++((oJ::Ff ck)++(fO::Gj kk))):=λy hy=>by simp[hy]
 have m3:∀y∈fO::Gj kk,y∈mr::(nk.vals++((oJ::Ff ck)++(fO::Gj kk))):=λy hy=>by simp only[A4t,A4l] at hy ⊢;exact .inr (.inr (.inr hy))
 have uO:(dR::(Ff ca++Ff ck)).Pairwise Aside:=by
  rw[A4u] at pC ⊢;refine⟨λy hy=>?_,List.pairwise_append.2 ⟨pC.2,(List.pairwise_cons.1 qC).2,λx hx y hy=>mW x (A4c _ hx) y (m2 y hy)⟩⟩;rcases List.mem_append.1 hy with hy | hy
  ·exact pC.1 y hy
  ·exact mW dR spz y (m2 y hy)
 refine⟨h1,g1,⟨h2,h3,pC⟩,g3,g2,⟨g4,g5,qK⟩,List.pairwise_append.2 ⟨pN,qN,λx hx y hy=>pO x hx y (m1 y hy)⟩,uO,λx hx y hy=>?_,λx hx y hy=>?_,λx hx y hy=>?_⟩
 ·rcases List.mem_append.1 hx with hx | hx
  ·refine pO x hx y ?_
   simp only[A4t,A4l] at hy ⊢;rcases hy with hy | hy | hy
   ·exact .inl (.inl hy)
   ·exact .inl (.inr hy)
   ·exact .inr (.inr (.inr (.inl (.inr hy))))
  ·simp only[A4t,A4l] at hy
   rcases hy with hy | hy | hy
   ·exact(mW y (by simp[hy]) x (by simp[hx])).symm
   ·exact(mW y (by simp[hy]) x (by simp[hx])).symm
   ·exact qNR x hx y (by simp[hy])
 ·rcases List.mem_append.1 hx with hx | hx
  ·exact pO x hx y (A4g _ (m3 y hy))
  ·exact qNR x hx y (A4g _ hy)
 ·simp only[A4t,A4l] at hx
  rcases hx with hx | hx | hx
  ·exact mW x (by simp[hx]) y (m3 y hy)
  ·exact mW x (by simp[hx]) y (m3 y hy)
  ·exact qCK x (A4c _ hx) y hy
theorem Parts.below {w:World}{na nk:Ah}{ca ck:List Df}{kk:List Aw}(h:Parts w base na nk dR ca oJ ck fO kk)(hb:Below w.heap.size w w'):Parts w' base na nk dR ca oJ ck fO kk:=
 ⟨h.hna.below hb,h.hnk.below hb,h.hca.below hb,λm hm=>ownsRow_below (h.hck m hm) hb,ownsRow_below h.ckr hb,h.hkk.below hb,h.nets,h.coils,h.nc,h.nkk,h.ckk⟩
theorem Parts.join {w w1 w6:World}{lo:Nat}{na nk mN:Ah}{cv':Value}{ca ck:List Df}{kk:List Aw}(hP:Parts w base na nk dR ca oJ ck fO kk)(hb:Below w.heap.size w w1)(hn:Ik w1 base mN)(hv:∀x∈mN.vals,x∈na.vals++nk.vals\/∀q,x.ownBlock=some q->lo<=q)(hlo:w.heap.size<=lo)(hl1:lo<=w1.heap.size)
  (he:Pg w6 base cv' (ca++ck)) (hg:w1.grownBy w6 dR.ownBlock) (hat:cv'.ownBlock=dR.ownBlock\/cv'.ownBlock=some w1.heap.size):Ic w6 base ⟨mN,cv',ca++ck,fO,kk⟩/\∀x∈(Aw.mk mN cv' (ca++ck) fO kk).vals,∀q,x.ownBlock=some q->(q<w.heap.size/\∃y∈na.vals++nk.vals++((dR::(Ff ca++Ff ck))++(fO::Gj kk)),y.ownBlock=some q)\/lo<=q:=by
 have lN:∀x∈na.vals++nk.vals,∀q,x.ownBlock=some q->q<w.heap.size:=by
  intro x hx q hq;rcases List.mem_append.1 hx with hx | hx
  ·exact(hP.hna.lt _ x hx q hq).2
  ·exact(hP.hnk.lt _ x hx q hq).2
 have lC:∀y∈dR::(Ff ca++Ff ck),∀q,y.ownBlock=some q->q<w.heap.size:=by
  intro y hy q hq;simp only[A4t,A4l] at hy;rcases hy with rfl | hy | hy
  ·exact(hP.hca.1.lt q hq).2
  ·exact(hP.hca.lt y (A4c _ hy) q hq).2
  ·obtain⟨m,hm,rfl⟩:=Jd.1 hy
   exact((hP.hck m hm).lt q hq).2
 have lK:=λy hy q hq=>(hP.hkk.lt y hy q hq).2
 have hold:∀x∈mN.vals,∀y,(∀q,y.ownBlock=some q->q<w.heap.size)->(∀z∈na.vals++nk.vals,Aside z y)->Aside x y:=by
  intro x hx y hy hz;rcases hv x hx with h | h
  ·exact hz x h
  ·exact(Ef (n:=w.heap.size) hy (λq hq=>A4k hlo (h q hq))).symm
 have hcv:∀y,(∀q,y.ownBlock=some q->q<w1.heap.size)->Aside dR y->Aside cv' y:=by
  intro y hy ha;rcases hat with e | e
  ·rcases ha with h0 | h0
   ·exact .inl (by rw[e];exact h0)
   ·exact .inr (by rw[e];exact h0)
  ·refine .inr (λe2=>?_)
   rw[e] at e2;have:=hy _ e2.symm
   omega
 have hsz:=hb.size;have hm:=λx hx=>hold x hx dR (lC dR spz) (λz hz=>hP.nc z hz dR spz)
 have hk1:=hP.hkk.below hb;have hk6:Oi w6 base fO kk:=⟨hk1.1.kept hg (hP.ckk dR spz fO spz).symm,λm hm2=>(hk1.2.1 m hm2).kept hg (λu hu=>(hP.ckk dR spz u (A4c _ (Io.2 ⟨m,hm2,hu⟩))).symm),hk1.2.2⟩
 have bQ:(Aw.mk mN cv' (ca++ck) fO kk).vals=mN.vals++((cv'::(Ff ca++Ff ck))++(fO::Gj kk)):=by rw[Aw.vals_eq,Sj]
 refine⟨⟨(Hf _ _ _).2 ⟨hn.1.kept hg hm,⟨he.1,he.2.1⟩,hk6.1,hk6.2.1⟩,?_⟩,?_⟩
 ·rw[bQ]
  have he2:=he.2.2;rw[Sj] at he2;refine List.pairwise_append.2 ⟨hn.2,List.pairwise_append.2 ⟨he2,hP.hkk.2.2,λx hx y hy=>?_⟩,λx hx y hy=>?_⟩
  ·rcases List.mem_cons.1 hx with rfl | hx
   ·exact hcv y (λq hq=>by have:=lK y hy q hq;omega) (hP.ckk dR spz y hy)
   ·exact hP.ckk x (A4c _ hx) y hy
  ·rcases List.mem_append.1 hy with hy | hy
   ·rcases List.mem_cons.1 hy with rfl | hy
    ·exact(hcv x (λq hq=>(hn.1.lt _ x hx q hq).2) (hm x hx).symm).symm
    ·exact hold x hx y (lC y (A4c _ hy)) (λz hz=>hP.nc z hz y (A4c _ hy))
   ·exact hold x hx y (lK y hy) (λz hz=>hP.nkk z hz y hy)
 ·intro x hx q hq
  rw[bQ] at hx;rcases List.mem_append.1 hx with hx | hx
  ·rcases hv x hx with h | h
   ·exact .inl ⟨lN x h q hq,x,A4j _ h,hq⟩
   ·exact .inr (h q hq)
  rcases List.mem_append.1 hx with hx | hx
  ·rcases List.mem_cons.1 hx with rfl | hx
   ·rcases hat with e | e
    ·exact .inl ⟨lC dR spz q (by rw[<-e];exact hq),dR,A4g _ (A4j _ spz),by rw[<-e];exact hq⟩
    ·rw[e] at hq;cases hq;exact .inr hl1
   ·exact .inl ⟨lC x (A4c _ hx) q hq,x,A4g _ (A4j _ (A4c _ hx)),hq⟩
  ·exact .inl ⟨lK x hx q hq,x,A4g _ (A4g _ hx),hq⟩
theorem Ic.setO {w:World}{m:Aw}(h:Ic w base m)(ha:∀x∈m.vals,x.ownBlock≠some a.block)(u:Value):Ic (w.setCell a u) base m:=⟨AOk.map m h.1 (λ_ _ _ _ _ hx ho=>ownsRow_setCell_other ho (ha _ hx) u),h.2⟩
theorem Ic.setO6 {w:World}{b:Nat}{m:Aw}(h:Ic w base m)(hb:∀x∈m.vals,x.ownBlock≠some b):Ic ((((((w.setCell ⟨b,o1,none⟩ u1).setCell ⟨b,o2,none⟩ u2).setCell ⟨b,o3,none⟩ u3).setCell ⟨b,o4,none⟩ u4).setCell ⟨b,o5,none⟩ u5).setCell ⟨b,o6,none⟩ u6) base m:=
 Ic.setO (Ic.setO (Ic.setO (Ic.setO (Ic.setO (Ic.setO h (a:=⟨b,o1,none⟩) hb u1) (a:=⟨b,o2,none⟩) hb u2) (a:=⟨b,o3,none⟩) hb u3) (a:=⟨b,o4,none⟩) hb u4) (a:=⟨b,o5,none⟩) hb u5) (a:=⟨b,o6,none⟩) hb u6
def A14 (w:World)(base:Nat)(vs:List Value)(lo:Nat)(a:Stil.Arm)(e:Ending):Prop:=∃(k op:Int) (ds:List Stil.Dev) (a1:Option Addr) (c1:Nat) (ns:List Ah) (a2:Option Addr) (c2:Nat) (cs:List Df) (a3:Option Addr) (c3:Nat) (ks:List Aw) (a4:Option Addr) (c4:Nat),e=.returned (.agg #[.int .i64 k, .int .i64 op, .slice a1 ds.length c1, .slice a2 ns.length c2, .slice a3 cs.length c3, .slice a4 ks.length c4])/\Ic w base ⟨⟨k,op,ds, .slice a1 ds.length c1, .slice a2 ns.length c2,ns⟩, .slice a3 cs.length c3,cs, .slice a4 ks.length c4,ks⟩/\(Aw.mk ⟨k,op,ds, .slice a1 ds.length c1, .slice a2 ns.length c2,ns⟩ (.slice a3 cs.length c3) cs (.slice a4 ks.length c4) ks).arm=a/\∀x∈(Aw.mk ⟨k,op,ds, .slice a1 ds.length c1, .slice a2 ns.length c2,ns⟩ (.slice a3 cs.length c3) cs (.slice a4 ks.length c4) ks).vals,∀q,x.ownBlock=some q->(∃y∈vs,y.ownBlock=some q)\/lo<=q
theorem A2u {a b c:World}(h:Below a.heap.size a b)(k:b.grownBy c r):a.grownBy c r:=
 ⟨k.os.trans h.os,k.tape.trans h.tape,k.output.trans h.output,A4k h.size k.size,λj hj hn=>(k.block j (A37 hj h.size) hn).trans (h.block j hj)⟩
theorem A3s {w a:World}{b:Nat}(h:w.grownBy a r)(hp:w.heap.size<=b)(v:Value):w.grownBy (a.setCell ⟨b,o,none⟩ v) r:=
 ⟨h.os,h.tape,h.output,by simpa using h.size,λk hk hn=>by
  rw[<-h.block k hk hn];simp only[World.setCell,Array.getElem?_modify]
  rw[if_neg omz]⟩
theorem Fz {W:World}:W.drew.cell? a=W.cell? a:=rfl
theorem set6O {w:World}{b:Nat}{v:Value}(h:b≠c)(hq:w.cell? ⟨b,o,none⟩=some v):((((((w.setCell ⟨c,o1,none⟩ u1).setCell ⟨c,o2,none⟩ u2).setCell ⟨c,o3,none⟩ u3).setCell ⟨c,o4,none⟩ u4).setCell ⟨c,o5,none⟩ u5).setCell ⟨c,o6,none⟩ u6).cell? ⟨b,o,none⟩=some v:=
 (Ba h).trans ((Ba h).trans ((Ba h).trans ((Ba h).trans ((Ba h).trans ((Ba h).trans hq)))))
set_option maxHeartbeats 8000000 in
set_option maxRecDepth 100000 in
theorem Aqj (k1 o1:Int)(d1:List Stil.Dev)(a1:Option Addr)(c1:Nat)(aO:Option Addr)(e1:Nat)(n1:List Ah)(f1:Option Addr)(g1:Nat)(s1:List Df)(h1:Option Addr)(j1:Nat)(k2 o2:Int)(d2:List Stil.Dev)(a2:Option Addr)(c2:Nat)(aI:Option Addr)(e2:Nat)(n2:List Ah)(f2:Option Addr)(g2:Nat)(s2:List Df)(h2:Option Addr)(j2:Nat)(ks:List Aw)(base:Nat)(w:World)
  (ho:Ic w base (Aw.mk (Ah.mk k1 o1 d1 (.slice a1 d1.length c1) (.slice aO n1.length e1) n1) (.slice f1 s1.length g1) s1 (.slice h1 1 j1) [(Aw.mk (Ah.mk k2 o2 d2 (.slice a2 d2.length c2) (.slice aI n2.length e2) n2) (.slice f2 s2.length g2) s2 (.slice h2 ks.length j2) ks)])) (hbase:base<=w.heap.size) (hs:Stil.sizes [(Ah.mk k1 o1 d1 (.slice a1 d1.length c1) (.slice aO n1.length e1) n1).net,(Ah.mk k2 o2 d2 (.slice a2 d2.length c2) (.slice aI n2.length e2) n2).net]<=999999) (hf1:Dc (Ah.mk k1 o1 d1 (.slice a1 d1.length c1) (.slice aO n1.length e1) n1).net) (hf2:Dc (Ah.mk k2 o2 d2 (.slice a2 d2.length c2) (.slice aI n2.length e2) n2).net) (hsl:s1.length+s2.length<=1000000):
  Calls Tryz.prog 75 #[.agg #[.int .i64 k1, .int .i64 o1, .slice a1 d1.length c1, .slice aO n1.length e1, .slice f1 s1.length g1, .slice h1 1 j1], .agg #[.int .i64 k2, .int .i64 o2, .slice a2 d2.length c2, .slice aI n2.length e2, .slice f2 s2.length g2, .slice h2 ks.length j2]] w λe w'=>A14 w' base (Aw.mk (Ah.mk k1 o1 d1 (.slice a1 d1.length c1) (.slice aO n1.length e1) n1) (.slice f1 s1.length g1) s1 (.slice h1 1 j1) [(Aw.mk (Ah.mk k2 o2 d2 (.slice a2 d2.length c2) (.slice aI n2.length e2) n2) (.slice f2 s2.length g2) s2 (.slice h2 ks.length j2) ks)]).vals w.heap.size ⟨Jq (Ah.mk k1 o1 d1 (.slice a1 d1.length c1) (.slice aO n1.length e1) n1).net (Ah.mk k2 o2 d2 (.slice a2 d2.length c2) (.slice aI n2.length e2) n2).net,(s1++s2).map Df.elem,ks.map Aw.arm⟩ e/\w.grownBy w' (Value.slice f1 s1.length g1).ownBlock:=by
 have hP:=ho.parts;have eG:Hid (∀y∈(Ah.mk k1 o1 d1 (.slice a1 d1.length c1) (.slice aO n1.length e1) n1).vals++(Ah.mk k2 o2 d2 (.slice a2 d2.length c2) (.slice aI n2.length e2) n2).vals++((.slice f1 s1.length g1::(Ff s1++Ff s2))++(.slice h2 ks.length j2::Gj ks)),y∈(Aw.mk (Ah.mk k1 o1 d1 (.slice a1 d1.length c1) (.slice aO n1.length e1) n1) (.slice f1 s1.length g1) s1 (.slice h1 1 j1) [(Aw.mk (Ah.mk k2 o2 d2 (.slice a2 d2.length c2) (.slice aI n2.length e2) n2) (.slice f2 s2.length g2) s2 (.slice h2 ks.length j2) ks)]).vals):=by
  intro y hy;rw[Aw.vals_eq];simp only[Nq];rw[Aw.vals_eq (Aw.mk (Ah.mk k2 o2 d2 (.slice a2 d2.length c2) (.slice aI n2.length e2) n2) (.slice f2 s2.length g2) s2 (.slice h2 ks.length j2) ks)];simp only[A4l,A4t] at hy ⊢;rcases hy with(hy | hy) | (hy | hy | hy) | hy | hy
  ·exact .inl hy
  ·exact .inr (.inr (.inr (.inl hy)))
  ·exact .inr (.inl (.inl hy))
  ·exact .inr (.inl (.inr hy))
  ·exact .inr (.inr (.inr (.inr (.inl (.inr hy)))))
  ·exact .inr (.inr (.inr (.inr (.inr (.inl hy)))))
  ·exact .inr (.inr (.inr (.inr (.inr (.inr hy)))))
 obtain⟨OV,xG⟩:∃OV,OV=(Aw.mk (Ah.mk k1 o1 d1 (.slice a1 d1.length c1) (.slice aO n1.length e1) n1) (.slice f1 s1.length g1) s1 (.slice h1 1 j1) [(Aw.mk (Ah.mk k2 o2 d2 (.slice a2 d2.length c2) (.slice aI n2.length e2) n2) (.slice f2 s2.length g2) s2 (.slice h2 ks.length j2) ks)]).vals:=⟨_,rfl⟩
 rw[<-xG] at eG ⊢;clear xG;have HP:=hid hP;have dn:=hid (λW h=>Ajl k1 o1 d1 a1 c1 aO e1 n1 k2 o2 d2 a2 c2 aI e2 n2 base W (hP.hna.below h) (hP.hnk.below h) hP.nets (A4k hbase h.size) hs hf1 hf2);obtain⟨S,hS⟩:∃S,S=Jq (Ah.mk k1 o1 d1 (.slice a1 d1.length c1) (.slice aO n1.length e1) n1).net (Ah.mk k2 o2 d2 (.slice a2 d2.length c2) (.slice aI n2.length e2) n2).net:=⟨_,rfl⟩
 rw[<-hS] at dn ⊢;clear ho hP hs hf1 hf2 hS;go_enter Tryz.func75,Tryz.ntmps75;go_upto_region 1 with fail
 obtain⟨W,hW⟩:∃W,W=((w.alloc (.cells #[.int .i64 k1, .int .i64 o1, .slice a1 d1.length c1, .slice aO n1.length e1, .slice f1 s1.length g1, .slice h1 1 j1] 55)).alloc (.cells #[.int .i64 k2, .int .i64 o2, .slice a2 d2.length c2, .slice aI n2.length e2, .slice f2 s2.length g2, .slice h2 ks.length j2] 55)).alloc (.cells #[.int .i64 0, .int .i64 0, .slice none 0 0, .slice none 0 0, .slice none 0 0, .slice none 0 0] 55):=⟨_,rfl⟩
 rw[<-hW];have p0:W.cell? ⟨w.heap.size,0,none⟩=some (.int .i64 k1):=by rw[hW];simp[go_sem]
 have p1:W.cell? ⟨w.heap.size,1,none⟩=some (.int .i64 o1):=by rw[hW];simp[go_sem]
 have p2:W.cell? ⟨w.heap.size,2,none⟩=some (.slice a1 d1.length c1):=by rw[hW];simp[go_sem]
 have p3:W.cell? ⟨w.heap.size,3,none⟩=some (.slice aO n1.length e1):=by rw[hW];simp[go_sem]
 have p4:W.cell? ⟨w.heap.size,4,none⟩=some (.slice f1 s1.length g1):=by rw[hW];simp[go_sem]
 have p5:W.cell? ⟨w.heap.size,5,none⟩=some (.slice h1 1 j1):=by rw[hW];simp[go_sem]
 have q0:W.cell? ⟨w.heap.size+1,0,none⟩=some (.int .i64 k2):=by rw[hW];simp[go_sem]
 have q1:W.cell? ⟨w.heap.size+1,1,none⟩=some (.int .i64 o2):=by rw[hW];simp[go_sem]
 have q2:W.cell? ⟨w.heap.size+1,2,none⟩=some (.slice a2 d2.length c2):=by rw[hW];simp[go_sem]
 have q3:W.cell? ⟨w.heap.size+1,3,none⟩=some (.slice aI n2.length e2):=by rw[hW];simp[go_sem]
 have q4:W.cell? ⟨w.heap.size+1,4,none⟩=some (.slice f2 s2.length g2):=by rw[hW];simp[go_sem]
 have q5:W.cell? ⟨w.heap.size+1,5,none⟩=some (.slice h2 ks.length j2):=by rw[hW];simp[go_sem]
 have r0:W.cell? ⟨w.heap.size+1+1,0,none⟩=some (.int .i64 0):=by rw[hW];simp[go_sem]
 have r1:W.cell? ⟨w.heap.size+1+1,1,none⟩=some (.int .i64 0):=by rw[hW];simp[go_sem]
 have r2:W.cell? ⟨w.heap.size+1+1,2,none⟩=some (.slice none 0 0):=by rw[hW];simp[go_sem]
 have r3:W.cell? ⟨w.heap.size+1+1,3,none⟩=some (.slice none 0 0):=by rw[hW];simp[go_sem]
 have r4:W.cell? ⟨w.heap.size+1+1,4,none⟩=some (.slice none 0 0):=by rw[hW];simp[go_sem]
 have r5:W.cell? ⟨w.heap.size+1+1,5,none⟩=some (.slice none 0 0):=by rw[hW];simp[go_sem]
 have v0:W.frozen? ⟨w.heap.size+1+1,0,none⟩=false:=by rw[hW];simp[go_sem]
 have v1:W.frozen? ⟨w.heap.size+1+1,1,none⟩=false:=by rw[hW];simp[go_sem]
 have v2:W.frozen? ⟨w.heap.size+1+1,2,none⟩=false:=by rw[hW];simp[go_sem]
 have v3:W.frozen? ⟨w.heap.size+1+1,3,none⟩=false:=by rw[hW];simp[go_sem]
 have v4:W.frozen? ⟨w.heap.size+1+1,4,none⟩=false:=by rw[hW];simp[go_sem]
 have v5:W.frozen? ⟨w.heap.size+1+1,5,none⟩=false:=by rw[hW];simp[go_sem]
 have HRV:Hid ((W.cell? ⟨w.heap.size+1+1,0,none⟩=some (.int .i64 0)/\W.cell? ⟨w.heap.size+1+1,1,none⟩=some (.int .i64 0)/\W.cell? ⟨w.heap.size+1+1,2,none⟩=some (.slice none 0 0)/\W.cell? ⟨w.heap.size+1+1,3,none⟩=some (.slice none 0 0)/\W.cell? ⟨w.heap.size+1+1,4,none⟩=some (.slice none 0 0)/\W.cell? ⟨w.heap.size+1+1,5,none⟩=some (.slice none 0 0))/\∀o,o<6->W.frozen? ⟨w.heap.size+1+1,o,none⟩=false):=⟨⟨r0,r1,r2,r3,r4,r5⟩,λo ho=>by match o,ho with | 0,_=>exact v0 | 1,_=>exact v1 | 2,_=>exact v2 | 3,_=>exact v3 | 4,_=>exact v4 | 5,_=>exact v5⟩
 have hsW:W.heap.size=w.heap.size+3:=by rw[hW];simp
 have hBW:Below w.heap.size w W:=by rw[hW];exact Bq (Bq (Aa _ _) _) _
 have bD:=hid hsW;have hl0:w.heap.size<W.heap.size:=omz
 have hl1:w.heap.size+1<W.heap.size:=omz
 have hl2:w.heap.size+1+1<W.heap.size:=omz
 have dI:=hid (λq hq=>HP.hca.1.lt q hq);clear hW hsW r0 r1 r2 r3 r4 r5 v0 v1 v2 v3 v4 v5;have ja:Hid (∀V,Below w.heap.size w V->0<s2.length->∃p,f2=some p/\∀j u,(Gh s2)[j]?=some u->V.cell? (p.add j)=some u):=by
  intro V hV hz;obtain⟨g,c,hv,_,_,_,hcell⟩:=Az (ownsRow_below HP.ckr hV) hz;simp only[Value.slice.injEq] at hv;exact⟨⟨g,0,none⟩,hv.1,λj u hu=>by rw[Addr.add_lit];simpa using hcell j u hu⟩
 go_region_held3 (λW'=>(W'.cell? ⟨w.heap.size,0,none⟩=some (.int .i64 k1)/\W'.cell? ⟨w.heap.size,1,none⟩=some (.int .i64 o1)/\W'.cell? ⟨w.heap.size,2,none⟩=some (.slice a1 d1.length c1)/\W'.cell? ⟨w.heap.size,3,none⟩=some (.slice aO n1.length e1)/\W'.cell? ⟨w.heap.size,4,none⟩=some (.slice f1 s1.length g1)/\W'.cell? ⟨w.heap.size+1,0,none⟩=some (.int .i64 k2)/\W'.cell? ⟨w.heap.size+1,1,none⟩=some (.int .i64 o2)/\W'.cell? ⟨w.heap.size+1,2,none⟩=some (.slice a2 d2.length c2)/\W'.cell? ⟨w.heap.size+1,3,none⟩=some (.slice aI n2.length e2)/\W'.cell? ⟨w.heap.size+1,4,none⟩=some (.slice f2 s2.length g2)/\W'.cell? ⟨w.heap.size+1,5,none⟩=some (.slice h2 ks.length j2))) (first | with_reducible assumption | with_reducible exact⟨Fz.trans p0,Fz.trans p1,Fz.trans p2,Fz.trans p3,Fz.trans p4,Fz.trans q0,Fz.trans q1,Fz.trans q2,Fz.trans q3,Fz.trans q4,Fz.trans q5⟩ | with_reducible exact⟨set6O (by omega) hS6.1,set6O (by omega) hS6.2.1,set6O (by omega) hS6.2.2.1,set6O (by omega) hS6.2.2.2.1,set6O (by omega) hS6.2.2.2.2.1,set6O (by omega) hS6.2.2.2.2.2.1,set6O (by omega) hS6.2.2.2.2.2.2.1,set6O (by omega) hS6.2.2.2.2.2.2.2.1,set6O (by omega) hS6.2.2.2.2.2.2.2.2.1,set6O (by omega) hS6.2.2.2.2.2.2.2.2.2.1,set6O (by omega) hS6.2.2.2.2.2.2.2.2.2.2⟩ | skip) (first | (go_at_call 100;refine(dn.out _ (by exact hBW.drew)).mono ?_;rintro e w1 ⟨⟨mk,aG,aF,x0,y0,x1,y1,aC,rfl,hmo,hmn,hvs⟩,hb1⟩;have hb5:=((Below.refl W.heap.size W).drew).trans hb1;have hB1:=hBW.trans (hb5.mono hBW.size);have hz0:=A37 hl0 hb5.size;have hz1:=A37 hl1 hb5.size;have hz2:=A37 hl2 hb5.size;have aJ:=hid hmo;have aH:=hid hmn;have eF:Hid (∀x∈(Ah.mk mk aG aF (.slice x0 aF.length y0) (.slice x1 aC.length y1) aC).vals,x∈(Ah.mk k1 o1 d1 (.slice a1 d1.length c1) (.slice aO n1.length e1) n1).vals++(Ah.mk k2 o2 d2 (.slice a2 d2.length c2) (.slice aI n2.length e2) n2).vals\/∀q,x.ownBlock=some q->W.heap.size<=q):=hvs;have hS1:(w1.cell? ⟨w.heap.size,0,none⟩=some (.int .i64 k1)/\w1.cell? ⟨w.heap.size,1,none⟩=some (.int .i64 o1)/\w1.cell? ⟨w.heap.size,2,none⟩=some (.slice a1 d1.length c1)/\w1.cell? ⟨w.heap.size,3,none⟩=some (.slice aO n1.length e1)/\w1.cell? ⟨w.heap.size,4,none⟩=some (.slice f1 s1.length g1)/\w1.cell? ⟨w.heap.size+1,0,none⟩=some (.int .i64 k2)/\w1.cell? ⟨w.heap.size+1,1,none⟩=some (.int .i64 o2)/\w1.cell? ⟨w.heap.size+1,2,none⟩=some (.slice a2 d2.length c2)/\w1.cell? ⟨w.heap.size+1,3,none⟩=some (.slice aI n2.length e2)/\w1.cell? ⟨w.heap.size+1,4,none⟩=some (.slice f2 s2.length g2)/\w1.cell? ⟨w.heap.size+1,5,none⟩=some (.slice h2 ks.length j2)):=⟨(hb5.cell (p:=⟨w.heap.size,0,none⟩) hl0).trans p0,(hb5.cell (p:=⟨w.heap.size,1,none⟩) hl0).trans p1,(hb5.cell (p:=⟨w.heap.size,2,none⟩) hl0).trans p2,(hb5.cell (p:=⟨w.heap.size,3,none⟩) hl0).trans p3,(hb5.cell (p:=⟨w.heap.size,4,none⟩) hl0).trans p4,(hb5.cell (p:=⟨w.heap.size+1,0,none⟩) hl1).trans q0,(hb5.cell (p:=⟨w.heap.size+1,1,none⟩) hl1).trans q1,(hb5.cell (p:=⟨w.heap.size+1,2,none⟩) hl1).trans q2,(hb5.cell (p:=⟨w.heap.size+1,3,none⟩) hl1).trans q3,(hb5.cell (p:=⟨w.heap.size+1,4,none⟩) hl1).trans q4,(hb5.cell (p:=⟨w.heap.size+1,5,none⟩) hl1).trans q5⟩;clear hmo hmn hvs hb1) | (refine Xz rfl _ _ rfl base f1 g1 s1 s2 f2 g2 rfl rfl ((HP.out.below hB1).hca) (ja.out _ hB1) ((HP.out.below hB1).hck) HP.out.coils hsl (A4k hbase hB1.size) ?_;intro a6 c6 w6 aW aQ lV;have gJ:=hid aW;have qo:=hid aQ;have pz:=hid lV;have hn1:(Value.slice f1 s1.length g1).ownBlock≠some (w.heap.size+1):=(λe=>by have:=(dI.out _ e).2;omega);have hn2:(Value.slice f1 s1.length g1).ownBlock≠some (w.heap.size+1+1):=(λe=>by have:=(dI.out _ e).2;omega);have kX:=A37 hz2 aQ.size;have hn0:(Value.slice f1 s1.length g1).ownBlock≠some (w.heap.size):=(λe=>by have:=(dI.out _ e).2;omega);have hS6:(w6.cell? ⟨w.heap.size,0,none⟩=some (.int .i64 k1)/\w6.cell? ⟨w.heap.size,1,none⟩=some (.int .i64 o1)/\w6.cell? ⟨w.heap.size,2,none⟩=some (.slice a1 d1.length c1)/\w6.cell? ⟨w.heap.size,3,none⟩=some (.slice aO n1.length e1)/\w6.cell? ⟨w.heap.size,4,none⟩=some (.slice f1 s1.length g1)/\w6.cell? ⟨w.heap.size+1,0,none⟩=some (.int .i64 k2)/\w6.cell? ⟨w.heap.size+1,1,none⟩=some (.int .i64 o2)/\w6.cell? ⟨w.heap.size+1,2,none⟩=some (.slice a2 d2.length c2)/\w6.cell? ⟨w.heap.size+1,3,none⟩=some (.slice aI n2.length e2)/\w6.cell? ⟨w.heap.size+1,4,none⟩=some (.slice f2 s2.length g2)/\w6.cell? ⟨w.heap.size+1,5,none⟩=some (.slice h2 ks.length j2)):=⟨(Dl aQ hz0 hn0).trans hS1.1,(Dl aQ hz0 hn0).trans hS1.2.1,(Dl aQ hz0 hn0).trans hS1.2.2.1,(Dl aQ hz0 hn0).trans hS1.2.2.2.1,(Dl aQ hz0 hn0).trans hS1.2.2.2.2.1,(Dl aQ hz1 hn1).trans hS1.2.2.2.2.2.1,(Dl aQ hz1 hn1).trans hS1.2.2.2.2.2.2.1,(Dl aQ hz1 hn1).trans hS1.2.2.2.2.2.2.2.1,(Dl aQ hz1 hn1).trans hS1.2.2.2.2.2.2.2.2.1,(Dl aQ hz1 hn1).trans hS1.2.2.2.2.2.2.2.2.2.1,(Dl aQ hz1 hn1).trans hS1.2.2.2.2.2.2.2.2.2.2⟩;obtain⟨⟨r0,r1,r2,r3,r4,r5⟩,hfz⟩:=HRV.out;have t0:=(Dl aQ hz2 hn2).trans ((hb5.cell (p:=⟨w.heap.size+1+1,0,none⟩) hl2).trans r0);have t1:=(Dl aQ hz2 hn2).trans ((hb5.cell (p:=⟨w.heap.size+1+1,1,none⟩) hl2).trans r1);have t2:=(Dl aQ hz2 hn2).trans ((hb5.cell (p:=⟨w.heap.size+1+1,2,none⟩) hl2).trans r2);have t3:=(Dl aQ hz2 hn2).trans ((hb5.cell (p:=⟨w.heap.size+1+1,3,none⟩) hl2).trans r3);have t4:=(Dl aQ hz2 hn2).trans ((hb5.cell (p:=⟨w.heap.size+1+1,4,none⟩) hl2).trans r4);have t5:=(Dl aQ hz2 hn2).trans ((hb5.cell (p:=⟨w.heap.size+1+1,5,none⟩) hl2).trans r5);have m0:=(G7 aQ hz2 hn2).trans ((hb5.frozen (p:=⟨w.heap.size+1+1,0,none⟩) hl2).trans (hfz 0 (by omega)));have m1:=(G7 aQ hz2 hn2).trans ((hb5.frozen (p:=⟨w.heap.size+1+1,1,none⟩) hl2).trans (hfz 1 (by omega)));have m2:=(G7 aQ hz2 hn2).trans ((hb5.frozen (p:=⟨w.heap.size+1+1,2,none⟩) hl2).trans (hfz 2 (by omega)));have m3:=(G7 aQ hz2 hn2).trans ((hb5.frozen (p:=⟨w.heap.size+1+1,3,none⟩) hl2).trans (hfz 3 (by omega)));have m4:=(G7 aQ hz2 hn2).trans ((hb5.frozen (p:=⟨w.heap.size+1+1,4,none⟩) hl2).trans (hfz 4 (by omega)));have m5:=(G7 aQ hz2 hn2).trans ((hb5.frozen (p:=⟨w.heap.size+1+1,5,none⟩) hl2).trans (hfz 5 (by omega)));clear aW lV hn0 hn1 hn2 hS1 r0 r1 r2 r3 r4 r5 hfz))
 all_goals
  try go_wp2
  have hj:=HP.join (lo:=W.heap.size) hB1 aJ eF hBW.size hb5.size gJ qo pz.out;refine bodyPost_ret (v:=.agg #[.int .i64 mk, .int .i64 aG, .slice x0 aF.length y0, .slice x1 aC.length y1, .slice a6 (s1.length+s2.length) c6, .slice h2 ks.length j2]) (by simp[results,Tryz.results75,go_sem,t0,t1,t2,t3,t4,t5]) rfl ⟨⟨mk,aG,aF,x0,y0,aC,x1,y1,s1++s2,a6,c6,ks,h2,j2,by rw[A38],?_,?_,?_⟩,?_⟩
  ·rw[A38]
   exact Ic.setO6 hj.1 (λx hx e=>by rcases hj.2 x hx _ e with⟨h1,_⟩ | h1<;>(have h2:=bD.out;omega))
  ·rw[Aw.arm_eq]
   simp only;rw[aH.out]
  ·rw[A38]
   intro x hx q hq;rcases hj.2 x hx q hq with⟨_,y,hy,e⟩ | h1
   ·exact .inl ⟨y,eG y hy,e⟩
   ·exact .inr (by have h2:=bD.out;omega)
  ·have hB6:=A2u hB1 qo.out
   clear hB1 hb5 hBW;repeat (refine A3s ?_ omz _)
   exact hB6
def B6 (w:World)(b:Nat)(v0 v1 v2 v3 v4 v5:Value):Prop:=b<w.heap.size/\(w.cell? ⟨b,0,none⟩=some v0/\w.cell? ⟨b,1,none⟩=some v1/\w.cell? ⟨b,2,none⟩=some v2/\w.cell? ⟨b,3,none⟩=some v3/\w.cell? ⟨b,4,none⟩=some v4/\w.cell? ⟨b,5,none⟩=some v5)/\∀o,o<6->w.frozen? ⟨b,o,none⟩=false
theorem B6.below {w:World}{n b:Nat}{v0:Value}(h:B6 w b v0 v1 v2 v3 v4 v5)(hb:Below n w w')(hn:b<n):B6 w' b v0 v1 v2 v3 v4 v5:=by
 obtain⟨h0,⟨c0,c1,c2,c3,c4,c5⟩,f⟩:=h;refine⟨A37 h0 hb.size,⟨(hb.cell (p:=⟨b,0,none⟩) hn).trans c0,(hb.cell (p:=⟨b,1,none⟩) hn).trans c1,(hb.cell (p:=⟨b,2,none⟩) hn).trans c2,(hb.cell (p:=⟨b,3,none⟩) hn).trans c3,(hb.cell (p:=⟨b,4,none⟩) hn).trans c4,(hb.cell (p:=⟨b,5,none⟩) hn).trans c5⟩,λo ho=>(hb.frozen (p:=⟨b,o,none⟩) hn).trans (f o ho)⟩
theorem B6.at {w:World}{b:Nat}{v0:Value}(h:B6 w b v0 v1 v2 v3 v4 v5)(hb:Below w.heap.size w w'):B6 w' b v0 v1 v2 v3 v4 v5:=h.below hb h.1
theorem B6.grown {w:World}{b:Nat}{v0:Value}(h:B6 w b v0 v1 v2 v3 v4 v5)(hg:w.grownBy w' r)(hne:r≠some b):B6 w' b v0 v1 v2 v3 v4 v5:=by
 obtain⟨h0,⟨c0,c1,c2,c3,c4,c5⟩,f⟩:=h;exact⟨A37 h0 hg.size,⟨(Dl hg h0 hne).trans c0,(Dl hg h0 hne).trans c1,(Dl hg h0 hne).trans c2,(Dl hg h0 hne).trans c3,(Dl hg h0 hne).trans c4,(Dl hg h0 hne).trans c5⟩,λo ho=>(G7 hg h0 hne).trans (f o ho)⟩
theorem B6.drew {w:World}{b:Nat}{v0:Value}(h:B6 w b v0 v1 v2 v3 v4 v5):B6 w.drew b v0 v1 v2 v3 v4 v5:=h
theorem B6.setO {w:World}{b:Nat}{v0:Value}(h:B6 w b v0 v1 v2 v3 v4 v5)(hc:b≠c)(u:Value):B6 (w.setCell ⟨c,o,none⟩ u) b v0 v1 v2 v3 v4 v5:=by
 obtain⟨h0,⟨c0,c1,c2,c3,c4,c5⟩,f⟩:=h;exact⟨A37 h0 (F9 _ _ _),⟨(Ba hc).trans c0,(Ba hc).trans c1,(Ba hc).trans c2,(Ba hc).trans c3,(Ba hc).trans c4,(Ba hc).trans c5⟩,λo ho=>Lm.trans (f o ho)⟩
theorem B6.set6O {w:World}{b:Nat}{v0:Value}(h:B6 w b v0 v1 v2 v3 v4 v5)(hc:b≠c):B6 ((((((w.setCell ⟨c,0,none⟩ u0).setCell ⟨c,1,none⟩ u1).setCell ⟨c,2,none⟩ u2).setCell ⟨c,3,none⟩ u3).setCell ⟨c,4,none⟩ u4).setCell ⟨c,5,none⟩ u5) b v0 v1 v2 v3 v4 v5:=
 (((((h.setO hc u0).setO hc u1).setO hc u2).setO hc u3).setO hc u4).setO hc u5
theorem B6.set4O {w:World}{b:Nat}{v0:Value}(h:B6 w b v0 v1 v2 v3 v4 v5)(hc:b≠c):B6 ((((w.setCell ⟨c,0,none⟩ u0).setCell ⟨c,1,none⟩ u1).setCell ⟨c,2,none⟩ u2).setCell ⟨c,3,none⟩ u3) b v0 v1 v2 v3 v4 v5:=
 (((h.setO hc u0).setO hc u1).setO hc u2).setO hc u3
theorem B6.set0 {w:World}{b:Nat}{v0:Value}(h:B6 w b v0 v1 v2 v3 v4 v5)(u:Value):B6 (w.setCell ⟨b,0,none⟩ u) b u v1 v2 v3 v4 v5:=by
 obtain⟨h0,⟨c0,c1,c2,c3,c4,c5⟩,f⟩:=h;exact⟨A37 h0 (F9 _ _ _),⟨Fp c0,(Bh omz).trans c1,(Bh omz).trans c2,(Bh omz).trans c3,(Bh omz).trans c4,(Bh omz).trans c5⟩,λo ho=>Lm.trans (f o ho)⟩
theorem B6.set1 {w:World}{b:Nat}{v0:Value}(h:B6 w b v0 v1 v2 v3 v4 v5)(u:Value):B6 (w.setCell ⟨b,1,none⟩ u) b v0 u v2 v3 v4 v5:=by
 obtain⟨h0,⟨c0,c1,c2,c3,c4,c5⟩,f⟩:=h;exact⟨A37 h0 (F9 _ _ _),⟨(Bh omz).trans c0,Fp c1,(Bh omz).trans c2,(Bh omz).trans c3,(Bh omz).trans c4,(Bh omz).trans c5⟩,λo ho=>Lm.trans (f o ho)⟩
theorem B6.set2 {w:World}{b:Nat}{v0:Value}(h:B6 w b v0 v1 v2 v3 v4 v5)(u:Value):B6 (w.setCell ⟨b,2,none⟩ u) b v0 v1 u v3 v4 v5:=by
 obtain⟨h0,⟨c0,c1,c2,c3,c4,c5⟩,f⟩:=h;exact⟨A37 h0 (F9 _ _ _),⟨(Bh omz).trans c0,(Bh omz).trans c1,Fp c2,(Bh omz).trans c3,(Bh omz).trans c4,(Bh omz).trans c5⟩,λo ho=>Lm.trans (f o ho)⟩
theorem B6.set3 {w:World}{b:Nat}{v0:Value}(h:B6 w b v0 v1 v2 v3 v4 v5)(u:Value):B6 (w.setCell ⟨b,3,none⟩ u) b v0 v1 v2 u v4 v5:=by
 obtain⟨h0,⟨c0,c1,c2,c3,c4,c5⟩,f⟩:=h;exact⟨A37 h0 (F9 _ _ _),⟨(Bh omz).trans c0,(Bh omz).trans c1,(Bh omz).trans c2,Fp c3,(Bh omz).trans c4,(Bh omz).trans c5⟩,λo ho=>Lm.trans (f o ho)⟩
theorem B6.set4 {w:World}{b:Nat}{v0:Value}(h:B6 w b v0 v1 v2 v3 v4 v5)(u:Value):B6 (w.setCell ⟨b,4,none⟩ u) b v0 v1 v2 v3 u v5:=by
 obtain⟨h0,⟨c0,c1,c2,c3,c4,c5⟩,f⟩:=h;exact⟨A37 h0 (F9 _ _ _),⟨(Bh omz).trans c0,(Bh omz).trans c1,(Bh omz).trans c2,(Bh omz).trans c3,Fp c4,(Bh omz).trans c5⟩,λo ho=>Lm.trans (f o ho)⟩
theorem B6.set5 {w:World}{b:Nat}{v0:Value}(h:B6 w b v0 v1 v2 v3 v4 v5)(u:Value):B6 (w.setCell ⟨b,5,none⟩ u) b v0 v1 v2 v3 v4 u:=by
 obtain⟨h0,⟨c0,c1,c2,c3,c4,c5⟩,f⟩:=h;exact⟨A37 h0 (F9 _ _ _),⟨(Bh omz).trans c0,(Bh omz).trans c1,(Bh omz).trans c2,(Bh omz).trans c3,(Bh omz).trans c4,Fp c5⟩,λo ho=>Lm.trans (f o ho)⟩
theorem B6.set6 {w:World}{b:Nat}{v0:Value}(h:B6 w b v0 v1 v2 v3 v4 v5):B6 ((((((w.setCell ⟨b,0,none⟩ u0).setCell ⟨b,1,none⟩ u1).setCell ⟨b,2,none⟩ u2).setCell ⟨b,3,none⟩ u3).setCell ⟨b,4,none⟩ u4).setCell ⟨b,5,none⟩ u5) b u0 u1 u2 u3 u4 u5:=
 (((((h.set0 u0).set1 u1).set2 u2).set3 u3).set4 u4).set5 u5
theorem B6.setN {w:World}{b:Nat}{v0:Value}(h:B6 w b v0 v1 v2 v3 v4 v5):B6 ((((w.setCell ⟨b,0,none⟩ u0).setCell ⟨b,1,none⟩ u1).setCell ⟨b,2,none⟩ u2).setCell ⟨b,3,none⟩ u3) b u0 u1 u2 u3 v4 v5:=
 (((h.set0 u0).set1 u1).set2 u2).set3 u3
theorem B6.new (w:World)(v0 v1 v2 v3 v4 v5:Value)(t:TypeId):B6 (w.alloc (.cells #[v0,v1,v2,v3,v4,v5] t)) w.heap.size v0 v1 v2 v3 v4 v5:=by
 refine⟨spz,⟨?_,?_,?_,?_,?_,?_⟩,λo _=>?_⟩<;>simp[go_sem]
def A3x (w:World)(b:Nat)(m:Aw):Prop:=B6 w b (.int .i64 m.net.kind) (.int .i64 m.net.op) m.net.av m.net.kv m.cv m.kv
end Go.Proofs.YtbfljjcnbbmoaaaGreatDoor
