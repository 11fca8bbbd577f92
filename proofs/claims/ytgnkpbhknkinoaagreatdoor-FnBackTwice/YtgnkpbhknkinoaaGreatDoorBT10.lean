import Derived.Test.YtgnkpbhknkinoaaGreatDoorBT4
import Derived.Test.YtgnkpbhknkinoaaGreatDoorM51
set_option linter.defProp false
set_option maxHeartbeats 4000000
set_option maxRecDepth 100000
namespace Go.Proofs.YtgnkpbhknkinoaaGreatDoor
open Tryz Stil Go.RowKit Go.Sort Go.BigFrame
section
variable {V w2:AU}{B:Nat}{ls ls' bs:List Nat}{ts us:Ao}{s s':SN}{rm r:List SN}{v p:AW}
theorem Rw.tog{g:Option Nat}{t:AZ}(d:Rw V B bs ts ls (rm++r) v)(hl:V9 V ls' r p)(j:∀x∈ls',x∈ls)(hg:V.grownBy w2 g)(A:∀q,g=some q->∃x∈rm,x.kv.ownBlock=some q)(hS:Sv w2 (ob s'.kv++(rowsOf r++bs)) (us++ts))(C:s'.ok w2 B (us++ts))(m:∀q,s'.kv.ownBlock=some q->(∃x∈rm,x.kv.ownBlock=some q)\/V.heap.size<=q)(u:∀q∈bs,q<V.heap.size):
  Rw (w2.alloc (.cells #[AB s'.n.kind,AB s'.n.O.op,s'.av,s'.kv,p] t)) B bs (us++ts) (w2.heap.size::ls') (s'::r) (AH w2.heap.size):=by
 have l:=d.apart;rw[D2,Bbe]at l;have z:∀x∈rm,∀y∈r,∀q,x.kv.ownBlock=some q->y.kv.ownBlock≠some q:=λx c y f=>l.2.2 _ (IC c) _ (IC f);have F:=d.low;refine Rw.push (hl.kept hg λb u e=>?_) hS C (λx c=>((d.oks x (EM _ c)).more λ_ h=>EM _ h).kept hg ?_) l.2.1 (λx c q e=>?_) (λb k=>⟨DL (d.free b (j b k)).1 hg.size,λe=>?_,λx c=>(d.free b (j b k)).2 x (EM _ c)⟩) (λq e w=>?_) (λx c=>d.off x (EM _ c))
 .have⟨x,c,G⟩:=A _ e;exact(d.free b (j b u)).2 x (J0 _ c) G
 .cases D:x.kv.ownBlock with|none=>exact .inl rfl|some q=>exact .inr λe=>by have⟨y,f,i⟩:=A q e.symm;exact z y f x c q i D
 .rcases m q e with⟨y,f,i⟩|h;{exact z y f x c q i};intro E;have:=F x (EM _ c) q E;omega
 .rcases m b e with⟨y,f,i⟩|h;{exact(d.free b (j b k)).2 y (J0 _ f) i};have:=(d.free b (j b k)).1;omega
 rcases m q e with⟨y,f,i⟩|h
 .exact d.off y (J0 _ f) q i w
 have:=u q w;omega
theorem Rw.more(h:Rw V B bs ts ls r v)(hS:Sv V (rowsOf r++bs) us)(hu:∀x∈ts,x∈us):Rw V B bs us ls r v:=⟨h.link,hS,λs b=>(h.oks s b).more hu,h.apart,h.free,h.off⟩
def qB(h:Rw V B bs ts ls (s::r) v)(hg:V.grownBy w2 s.kv.ownBlock)(b:B<=V.heap.size):Below B V w2:=⟨hg.os,hg.tape,hg.output,hg.size,λk c=>hg.block k (DL c b) λe=>by have:=((h.oks s Av).row.lt _ e.symm).1;omega⟩
def VG{n:Nat}{a b:AU}(h:Below n a b)(c:n<=b.heap.size)(o:Obj):Below n a (b.alloc o):=h.tr ((Aa b o).mo c)
def Rw.head(h:Rw V B bs ts ls (s::r) v):Sv V (ob s.kv++(rowsOf r++bs)) ts:=h.sv.sub (λx b=>by rwa[rowsOf,List.flatMap_cons,EG]) λ_ h=>h
def Rw.bsLt(h:Rw V B bs ts ls r v):∀q∈bs,q<V.heap.size:=λq b=>h.sv.1 q (EM _ b)
theorem Rw.notIn(h:Rw V B bs ts ls (s::r) v):∀q,s.kv.ownBlock=some q->q∉rowsOf r++bs:=λq c b=>by
 rcases BI.1 b with b|b
 .have⟨x,d,e⟩:=cg.1 b
  exact(List.pairwise_cons.1 h.apart).1 _ (IC d) q c e
 .exact h.off s Av q c b
end
def zaa {p:Prop}(h:p:=by
 have pU:=Af (h1.head.sub (us:=ts) (λ_ h=>h) λ_ h=>h);have HS2:=Af hS2;have HO:=Af ho;have pY:=Af hlp;have dX:=Af (And.intro eP.size hB);have lM:=BX (DR hB eP.size);simp only[SN.agg]at nP;rw[hpp]at g4 pY;clear hV hC HS bJ hS hS2 ho k0 hB1 hz h1 hok hsz hlp hpp;have⟨hz0,q0,p0,q1,p1,q2,p2,q3,p3⟩:=id hb0;go_region_held3 (λW'=>(W'.cell? (AK b 0)=some (AB n.kind)/\W'.cell? (AK b 1)=some (AB n.O.op)/\W'.cell? (AK b 2)=some (AE x1 n.O.args.length y1)/\W'.cell? (AK b 3)=some (AE x2 n.K.length y2)/\W'.cell? (AK b 4)=some (.pointer pp)/\W'.cell? (AK C 0)=some (AB 1)/\W'.cell? (AK C 1)=some (AB op)/\W'.cell? (AK C 2)=some (AE a1 ds.length c1)/\W'.cell? (AK C 3)=some AG)) (first|with_reducible assumption|(refine⟨?_,?_,?_,?_,?_,?_,?_,?_,?_⟩<;>exact CU)) (first|(go_at_call 151;go_loud (refine(nP.out V.drew (rowsOf r++bs) _ ((HS2.out.drew).sub (λ_ h=>by rwa[rowsOf,List.flatMap_cons,EG]) (λ_ h=>h)) (((HST.out.oks _ Av).more λ_ h=>.tail _ (Ax h)).below (BP _ V).drew) (HO.out.below (BP _ V).drew) (by have:=dX.out;show _<=V.heap.size;omega) (λq hq=>⟨HST.out.notIn q hq,λe=>by cases e⟩) (λq hq=>by cases hq)).mo ?_;rintro e w3⟨s',us,hn,rfl,hS4,hs4,hg4,hq4⟩;have hfb:=(HST.out.free b Av).2 _ Av;have hgc:=(λo=>BE (a:=(AK b o)) (hg4.block b fM (λe=>hfb e.symm)));replace g0:=(hgc 0).tr g0;replace g1:=(hgc 1).tr g1;replace g2:=(hgc 2).tr g2;replace g3:=(hgc 3).tr g3;replace g4:=(hgc 4).tr g4;replace hb0:=(hb0.bel (BP _ V).drew).gr hg4 bF.out;have HT:=Af (zD.out.tog (V:=V.drew) (rm:=[⟨n,AE x1 n.O.args.length y1,AE x2 n.K.length y2,jG⟩]) (r:=r) (t:=157) (pY.out.below (BP _ V).drew) (λx hx=>.tail _ hx) hg4 (λq hq=>⟨_,.head _,hq⟩) hS4 hs4 (λq hq=>(hq4 q hq).elim (λh=>.inl ⟨_,.head _,h⟩) (λh=>.inr (h.elim (λh=>by cases h) id))) zD.out.bsLt);have hbw:b<w3.heap.size:=DL fM hg4.size;have hcw:C<w3.heap.size:=hb0.1;have hB3:Below B w w3:=(eP.drew.mo hB).tr (qB (s:=⟨n,AE x1 n.O.args.length y1,AE x2 n.K.length y2,jG⟩) (HST.out.below (BP _ V).drew) hg4 lM.out);have⟨hz0,q0,p0,q1,p1,q2,p2,q3,p3⟩:=id hb0)));all_goals
  try go_wp2
  go_ret;refine⟨_,ls',s'::r,us++[([],[]),([sl (H9 ds)],[AE a1 ds.length c1])],rfl,?_,by rw[EG,<-hn];exact HT.out,VG hB3 (DR lM hg4.size) _⟩;rw[DX,DX,hn];rfl):p:=h
def Ave(i:Stil.Aw)(j:AW)(ls:List Nat)(s:SN)(r:List SN)(v:AW)(w:AU)(B:Nat)(bs:List Nat)(ts:Ao)(d:Rw w B bs ts ls (s::r) v)(z:Ar w j i.O.args)(m:i.fits)(u:i.code=2)(hok:Xw s.n)(hsz:Ac s.n<=800000)(hB:B<=w.heap.size):
  Calls prog 113 #[v,.agg #[AB i.code,AB i.O.op,j]] w (KD (Lr i.code i.O ((s::r).map SN.n)) w B bs ts):=by
 have bJ:=Af (λW(h:AO w W)g us E=>Kt i.O m.2.2.1 j W g us E (z.below h));obtain⟨G,H,rfl,-⟩:=z;have⟨⟨x1,y1,y⟩,x2,y2,k⟩:=(d.oks s Av).forms d.sv λ_ h=>h;obtain⟨n,K,J,jG⟩:=s;simp only at y k hok hsz;subst y k;obtain⟨c,op,ds⟩:=i;simp only at bJ u⊢;subst u;have HS:=Af (λW(h:AO w W)=>d.below h);have hS:=d.sv.alloc (.cells #[AB 2,AB op,AE G ds.length H] 77);obtain⟨b,ls',rfl,rfl,L,-,-⟩:=d.link.cons;clear d m;go_enter func113,ntmps113;go_upto_region 6 with(go_at_call 114;refine(bJ _ BV _ _ hS).mo ?_;rintro e f⟨a1,c1,rfl,hS,l⟩;have k0:f.c (AL w 0)=some (AB 2):=(Gu l BU).tr AP;have hz:w.heap.size<f.heap.size:=Zb l BU;have hB1:AO w f:=BV);have⟨V,hV⟩:=AA (f.alloc (.cells #[AB 1,AB op,AE a1 ds.length c1,AG] 56));rw[<-hV];have⟨hS2,ho⟩:=SR (B:=B) (op:=op) (hS.alloc (.cells #[AB 1,AB op,AE a1 ds.length c1,AG] 56));rw[<-hV]at hS2 ho;have hb0:Da V f.heap.size (AB 1) (AB op) (AE a1 ds.length c1) AG:=by rw[hV];exact qN4
 have eP:AO w V:=by rw[hV];exact Bz hB1 _
 have⟨C,hC⟩:=AA f.heap.size;rw[<-hC]at hb0⊢;have h1:=HS V eP;have⟨_,_,e,_,fM,⟨g0,g1,g2,g3⟩,p,g4,hlp⟩:=h1.link.cons;cases e;have⟨pp,hpp⟩:=hlp.ptr;have nP:=Af (λW' g us hS D I hB A F=>OS 2 ⟨n,AE x1 n.O.args.length y1,AE x2 n.K.length y2,jG⟩ (ND op ds a1 c1) W' B g us hS D I hB A F yDh hok.1 (λh=>hok.2 h));have HST:=Af h1;have zD:=Af ((h1.more hS2 λ_ h=>.tail _ (Ax h)).below (BP _ V).drew);have bF:Hid ((Value.slice x2 n.K.length y2).b≠some C):=λe=>by have:=(HS w (BP _ _)).low _ Av _ e;omega
 exact zaa
def Avd(i:Stil.Aw)(j:AW)(ls:List Nat)(s:SN)(r:List SN)(v:AW)(w:AU)(B:Nat)(bs:List Nat)(ts:Ao)(d:Rw w B bs ts ls (s::r) v)(z:Ar w j i.O.args)(m:i.fits)(u:i.code=3)(hok:Xw s.n)(hsz:Ac s.n<=800000)(hB:B<=w.heap.size):
  Calls prog 113 #[v,.agg #[AB i.code,AB i.O.op,j]] w (KD (Lr i.code i.O ((s::r).map SN.n)) w B bs ts):=by
 have bJ:=Af (λW(h:AO w W)g us E=>Kt i.O m.2.2.1 j W g us E (z.below h));obtain⟨G,H,rfl,-⟩:=z;have⟨⟨x1,y1,y⟩,x2,y2,k⟩:=(d.oks s Av).forms d.sv λ_ h=>h;obtain⟨n,K,J,jG⟩:=s;simp only at y k hok hsz;subst y k;obtain⟨c,op,ds⟩:=i;simp only at bJ u⊢;subst u;have HS:=Af (λW(h:AO w W)=>d.below h);have hS:=d.sv.alloc (.cells #[AB 3,AB op,AE G ds.length H] 77);obtain⟨b,ls',rfl,rfl,L,-,-⟩:=d.link.cons;clear d m;go_enter func113,ntmps113;go_upto_region 8 with(go_at_call 114;refine(bJ _ BV _ _ hS).mo ?_;rintro e f⟨a1,c1,rfl,hS,l⟩;have k0:f.c (AL w 0)=some (AB 3):=(Gu l BU).tr AP;have hz:w.heap.size<f.heap.size:=Zb l BU;have hB1:AO w f:=BV);have⟨V,hV⟩:=AA (f.alloc (.cells #[AB 1,AB op,AE a1 ds.length c1,AG] 56));rw[<-hV];have⟨hS2,ho⟩:=SR (B:=B) (op:=op) (hS.alloc (.cells #[AB 1,AB op,AE a1 ds.length c1,AG] 56));rw[<-hV]at hS2 ho;have hb0:Da V f.heap.size (AB 1) (AB op) (AE a1 ds.length c1) AG:=by rw[hV];exact qN4
 have eP:AO w V:=by rw[hV];exact Bz hB1 _
 have⟨C,hC⟩:=AA f.heap.size;rw[<-hC]at hb0⊢;have h1:=HS V eP;have⟨_,_,e,_,fM,⟨g0,g1,g2,g3⟩,p,g4,hlp⟩:=h1.link.cons;cases e;have⟨pp,hpp⟩:=hlp.ptr;have nP:=Af (λW' g us hS D I hB A F=>OS 3 ⟨n,AE x1 n.O.args.length y1,AE x2 n.K.length y2,jG⟩ (ND op ds a1 c1) W' B g us hS D I hB A F yDh hok.1 (λh=>hok.2 h));have HST:=Af h1;have zD:=Af ((h1.more hS2 λ_ h=>.tail _ (Ax h)).below (BP _ V).drew);have bF:Hid ((Value.slice x2 n.K.length y2).b≠some C):=λe=>by have:=(HS w (BP _ _)).low _ Av _ e;omega
 exact zaa
section
variable {V w2:AU}{B:Nat}{ls bs:List Nat}{ts:Ao}{s s2:SN}{r:List SN}{v:AW}
theorem Rw.two (h:Rw V B bs ts ls (s::s2::r) v):Sv V (ob s2.kv++(ob s.kv++(rowsOf r++bs))) ts:=h.sv.sub (λx b=>by
 simp only[rowsOf,List.flatMap_cons,FU]at b⊢
 rcases b with h | h | h | h<;>simp[h]) λ_ h=>h
theorem xf{q:Nat}(h:q∈rowsOf r++bs):q∈rowsOf (s2::r)++bs:=by simp only[rowsOf,List.flatMap_cons,FU]at h⊢;rcases h with h|h<;>simp[h]
theorem Rw.notIn2(h:Rw V B bs ts ls (s::s2::r) v):∀q,s2.kv.ownBlock=some q->q∉rowsOf r++bs/\s.kv.ownBlock≠some q:=λq d=>by
 have c:=h.apart;rw[DX,DX,fW,fW]at c;refine⟨λb=>?_,λe=>c.1 _ Av q e d⟩;rcases BI.1 b with b|b
 .have⟨x,f,g⟩:=cg.1 b
  exact c.2.1 _ (IC f) q d g
 .exact h.off s2 (Ax Av) q d b
def qC{b:List SN}(h:Rw V B bs ts ls b v)(d:s∈b)(hg:V.grownBy w2 s.kv.ownBlock)(f:B<=V.heap.size):Below B V w2:=⟨hg.os,hg.tape,hg.output,hg.size,λk c=>hg.block k (DL c f) λe=>by have:=((h.oks s d).row.lt _ e.symm).1;omega⟩
end
def zba {p:Prop}(h:p:=by
 go_region_held3 (λW'=>(W'.cell? (AK b 0)=some (AB n.kind)/\W'.cell? (AK b 1)=some (AB n.O.op)/\W'.cell? (AK b 2)=some (AE x1 n.O.args.length y1)/\W'.cell? (AK b 3)=some (AE x2 n.K.length y2)/\W'.cell? (AK b 4)=some (AH b2)/\W'.cell? (AK b2 0)=some (AB n2.kind)/\W'.cell? (AK b2 1)=some (AB n2.O.op)/\W'.cell? (AK b2 2)=some (AE x3 n2.O.args.length y3)/\W'.cell? (AK b2 3)=some (AE x4 n2.K.length y4)/\W'.cell? (AK b2 4)=some (.pointer pp))) (first|with_reducible assumption|(refine⟨?_,?_,?_,?_,?_,?_,?_,?_,?_,?_⟩<;>exact CU)) (first|(go_at_call 151;go_loud (refine(nP.out V.drew (rowsOf r++bs) _ HST.out.two (HST.out.oks _ (Ax Av)) (HST.out.oks _ Av) lM.out HST.out.notIn2 (λq hq hm=>HST.out.notIn q hq (xf hm))).mo ?_;rintro e w3⟨s',us,hn,rfl,hS4,hs4,hg4,hq4⟩;have hfb:=(HST.out.free b Av).2 _ (Ax Av);have sW:=(HST.out.free b2 (Ax Av)).2 _ (Ax Av);have hgc:=(λo=>BE (a:=(AK b o)) (hg4.block b fM (λe=>hfb e.symm)));have hgd:=(λo=>BE (a:=(AK b2 o)) (hg4.block b2 nI (λe=>sW e.symm)));replace g0:=(hgc 0).tr g0;replace g1:=(hgc 1).tr g1;replace g2:=(hgc 2).tr g2;replace g3:=(hgc 3).tr g3;replace g4:=(hgc 4).tr g4;replace f0:=(hgd 0).tr f0;replace f1:=(hgd 1).tr f1;replace f2:=(hgd 2).tr f2;replace f3:=(hgd 3).tr f3;replace f4:=(hgd 4).tr f4;have HT:=Af (Rw.tog (V:=V.drew) (rm:=[(⟨n,AE x1 n.O.args.length y1,AE x2 n.K.length y2,jG⟩:SN),(⟨n2,AE x3 n2.O.args.length y3,AE x4 n2.K.length y4,sys⟩:SN)]) (r:=r) (t:=157) HST.out pY.out (λx hx=>.tail _ (Ax hx)) hg4 (λq hq=>⟨_,.tail _ Av,hq⟩) hS4 hs4 (λq hq=>(hq4 q hq).elim (λh=>.inl ⟨_,.tail _ Av,h⟩) (λh=>h.elim (λh=>.inl ⟨_,.head _,h⟩) .inr)) HST.out.bsLt);have hbw:b<w3.heap.size:=DL fM hg4.size;have hbw2:b2<w3.heap.size:=DL nI hg4.size;have hB3:Below B w w3:=yl.out.tr (qC (s:=(⟨n2,AE x3 n2.O.args.length y3,AE x4 n2.K.length y4,sys⟩:SN)) HST.out (Ax Av) hg4 lM.out))));all_goals
  try go_wp2
  go_ret;refine⟨_,ku,s'::r,us,rfl,?_,by rw[<-hn];exact HT.out,VG hB3 (DR lM hg4.size) _⟩;rw[DX,DX,DX,hn];rfl):p:=h
def Avc(i:Stil.Aw)(m:AW)(ls:List Nat)(s s2:SN)(r:List SN)(v:AW)(w:AU)(B:Nat)(bs:List Nat)(ts:Ao)(d:Rw w B bs ts ls (s::s2::r) v)(O:Ar w m i.O.args)(E:i.fits)(L:i.code=4)(l:Xw s2.n)(y:Ac s2.n+Ac s.n<=900000)(k:B<=w.heap.size):
  Calls prog 113 #[v,.agg #[AB i.code,AB i.O.op,m]] w (KD (Lr i.code i.O ((s::s2::r).map SN.n)) w B bs ts):=by
 have u:=Af (λW(h:AO w W)A us X=>Kt i.O E.2.2.1 m W A us X (O.below h));obtain⟨U,m0,rfl,-⟩:=O;have⟨⟨x1,y1,M⟩,x2,y2,J⟩:=(d.oks s Av).forms d.sv λ_ h=>h;have⟨⟨x3,y3,I⟩,x4,y4,N⟩:=(d.oks s2 (Ax Av)).forms d.sv λ_ h=>h;obtain⟨n,wI,wH,jG⟩:=s;obtain⟨n2,jv,jr,sys⟩:=s2;simp only at M J I N l y;subst M J I N;obtain⟨c,op,F⟩:=i;simp only at u L⊢;subst L;have G:=Af (λW(h:AO w W)=>d.below h);have hS:=d.sv.alloc (.cells #[AB 4,AB op,AE U F.l m0] 77);obtain⟨b,ls',rfl,rfl,aa,-,-⟩:=d.link.cons;clear d E;go_enter func113,ntmps113;go_upto_region 10 with(go_at_call 114;refine(u _ BV _ _ hS).mo ?_;rintro e j⟨Z,c1,rfl,-,D⟩;have T:j.c (AL w 0)=some (AB 4):=(Gu D BU).tr AP;have hz:w.z<j.z:=Zb D BU;have K:AO w j:=BV);have⟨V,z⟩:=AA (j.alloc (.cells #[AB 1,AB op,AE Z F.l c1,AG] 56));rw[<-z];have g:AO w V:=by rw[z];exact Bz K _
 have f:=G V g;have⟨_,_,e,_,fM,⟨g0,g1,g2,g3⟩,p1,g4,H⟩:=f.link.cons;cases e;obtain⟨b2,ku,rfl,rfl,nI,⟨f0,f1,f2,f3⟩,p,f4,C⟩:=H.cons;obtain⟨pp,rfl⟩:=C.ptr;have nP:=Af (λW' A us hS S hb k R Y=>OS 2 (⟨n2,AE x3 n2.O.args.l y3,AE x4 n2.K.l y4,sys⟩:SN) (⟨n,AE x1 n.O.args.l y1,AE x2 n.K.l y2,jG⟩:SN) W' B A us hS S hb k R Y y l.1 (λh=>l.2 h));have f:=f.below (BP _ V).drew;have HST:=Af f;have pY:=Af (C.below (BP _ V).drew);have lM:=BX (DR k g.size);have yl:=BX (g.drew.mo k);simp only[SN.agg]at nP;clear z G u hS T K hz f l y C H g;exact zba
def Avb(i:Stil.Aw)(m:AW)(ls:List Nat)(s s2:SN)(r:List SN)(v:AW)(w:AU)(B:Nat)(bs:List Nat)(ts:Ao)(d:Rw w B bs ts ls (s::s2::r) v)(O:Ar w m i.O.args)(E:i.fits)(L:i.code=5)(l:Xw s2.n)(y:Ac s2.n+Ac s.n<=900000)(k:B<=w.heap.size):
  Calls prog 113 #[v,.agg #[AB i.code,AB i.O.op,m]] w (KD (Lr i.code i.O ((s::s2::r).map SN.n)) w B bs ts):=by
 have u:=Af (λW(h:AO w W)A us X=>Kt i.O E.2.2.1 m W A us X (O.below h));obtain⟨U,m0,rfl,-⟩:=O;have⟨⟨x1,y1,M⟩,x2,y2,J⟩:=(d.oks s Av).forms d.sv λ_ h=>h;have⟨⟨x3,y3,I⟩,x4,y4,N⟩:=(d.oks s2 (Ax Av)).forms d.sv λ_ h=>h;obtain⟨n,wI,wH,jG⟩:=s;obtain⟨n2,jv,jr,sys⟩:=s2;simp only at M J I N l y;subst M J I N;obtain⟨c,op,F⟩:=i;simp only at u L⊢;subst L;have G:=Af (λW(h:AO w W)=>d.below h);have hS:=d.sv.alloc (.cells #[AB 5,AB op,AE U F.l m0] 77);obtain⟨b,ls',rfl,rfl,aa,-,-⟩:=d.link.cons;clear d E;go_enter func113,ntmps113;go_upto_region 12 with(go_at_call 114;refine(u _ BV _ _ hS).mo ?_;rintro e j⟨Z,c1,rfl,-,D⟩;have T:j.c (AL w 0)=some (AB 5):=(Gu D BU).tr AP;have hz:w.z<j.z:=Zb D BU;have K:AO w j:=BV);have⟨V,z⟩:=AA (j.alloc (.cells #[AB 1,AB op,AE Z F.l c1,AG] 56));rw[<-z];have g:AO w V:=by rw[z];exact Bz K _
 have f:=G V g;have⟨_,_,e,_,fM,⟨g0,g1,g2,g3⟩,p1,g4,H⟩:=f.link.cons;cases e;obtain⟨b2,ku,rfl,rfl,nI,⟨f0,f1,f2,f3⟩,p,f4,C⟩:=H.cons;obtain⟨pp,rfl⟩:=C.ptr;have nP:=Af (λW' A us hS S hb k R Y=>OS 3 (⟨n2,AE x3 n2.O.args.l y3,AE x4 n2.K.l y4,sys⟩:SN) (⟨n,AE x1 n.O.args.l y1,AE x2 n.K.l y2,jG⟩:SN) W' B A us hS S hb k R Y y l.1 (λh=>l.2 h));have f:=f.below (BP _ V).drew;have HST:=Af f;have pY:=Af (C.below (BP _ V).drew);have lM:=BX (DR k g.size);have yl:=BX (g.drew.mo k);simp only[SN.agg]at nP;clear z G u hS T K hz f l y C H g;exact zba
def notS(s:SN)(n:Nat):SN:=⟨⟨4,⟨0,[]⟩,[s.n]⟩,AG,AE (some (AK n 0)) 1 1,s.cells⟩
def Rw.not{V:AU}{B:Nat}{ls ls' bs:List Nat}{ts:Ao}{s:SN}{r:List SN}{v p:AW}(t:AZ)(h:Rw V B bs ts ls (s::r) v)(hl:V9 V ls' r p)(g:∀x∈ls',x∈ls)(m:B<=V.heap.size):
  Rw ((V.alloc (.cells #[AB s.n.kind,AB s.n.O.op,s.av,s.kv] 56)).alloc (.cells #[AB 4,AB 0,AG,AE (some (AL V 0)) 1 1,p] t)) B bs ([([sl []],[AG]),([Gy s.n],s.cells)]++ts) ((V.heap.size+1)::ls') (notS s V.heap.size::r) (AH (V.heap.size+1)):=by
 have f:=Aa V (.cells #[AB s.n.kind,AB s.n.O.op,s.av,s.kv] 56);have hS:=((SN.ice h.head (h.oks s Av) h.notIn).box (.cells #[AB s.n.kind,AB s.n.O.op,s.av,s.kv] 56)).snil;have j:=h.apart;rw[DX,fW]at j;have l:=World.ownsRow_lit (base:=B) (e:=56) (size:=4) V #[AB s.n.kind,AB s.n.O.op,s.av,s.kv] 1 m CH rfl;have k:=Rw.push (t:=t) (s:=notS s V.heap.size) (hl.below f) hS ⟨.head _,.tail _ Av,l⟩ (λx c=>((h.oks x (Ax c)).more λ_ h=>.tail _ (Ax h)).below f) j.2 (λx c q i e=>?_) (λb d=>⟨DL (h.free b (g b d)).1 f.size,λe=>?_,λx c=>(h.free b (g b d)).2 x (Ax c)⟩) (λq i d=>?_) (λx c=>h.off x (Ax c))
 .rw[BG]at k;exact k
 .cases i;exact absurd (h.low x (Ax c) _ e) (Kx _)
 .cases e;exact absurd (h.free _ (g _ d)).1 (Kx _)
 cases i;exact absurd (h.bsLt _ d) (Kx _)
def Ava(i:Stil.Aw)(q:AW)(ls:List Nat)(s:SN)(r:List SN)(v:AW)(w:AU)(B:Nat)(bs:List Nat)(ts:Ao)(d:Rw w B bs ts ls (s::r) v)(E:Ar w q i.O.args)(I:i.fits)(x:i.code=6)(l:B<=w.heap.size):
  Calls prog 113 #[v,.agg #[AB i.code,AB i.O.op,q]] w (KD (Lr i.code i.O ((s::r).map SN.n)) w B bs ts):=by
 have j:=Af (λW(h:AO w W)O us L=>Kt i.O I.2.2.1 q W O us L (E.below h));obtain⟨T,N,rfl,-⟩:=E;have⟨⟨y,J,D⟩,G,z,A⟩:=(d.oks s Av).forms d.sv λ_ h=>h;obtain⟨n,wI,Z,U⟩:=s;simp only at D A;subst D A;obtain⟨c,op,K⟩:=i;simp only at j x⊢;subst x;have u:=Af (λW(h:AO w W)=>d.below h);have hS:=d.sv.alloc (.cells #[AB 6,AB op,AE T K.l N] 77);obtain⟨b,ls',rfl,rfl,aa,-,-⟩:=d.link.cons;clear d I;go_enter func113,ntmps113;go_upto_region 13 with(go_at_call 114;refine(j _ BV _ _ hS).mo ?_;rintro e g⟨R,Y,rfl,-,C⟩;have M:g.c (AL w 0)=some (AB 6):=(Gu C BU).tr AP;have X:w.z<g.z:=Zb C BU;have H:AO w g:=BV);have⟨V,k⟩:=AA (g.alloc (.cells #[AB 1,AB op,AE R K.l Y,AG] 56));rw[<-k];have f:AO w V:=by rw[k];exact Bz H _
 have m:=u V f;have⟨_,_,e,_,fM,⟨g0,g1,g2,g3⟩,p,g4,t⟩:=m.link.cons;cases e;obtain⟨S,rfl⟩:=t.ptr;have F:=Af (And.intro (m.not 157 t (λ_ h=>.tail _ h) (DR l f.size)) ((Bz (Bz f (A2 n y J G z 56)) (.cells #[AB 4,AB 0,AG,AE (some (AL V 0)) 1 1,.pointer S] 157)).mo l));clear k u j hS M H X m t f l;go_region;all_goals go_wp2;go_ret;exact⟨_,ls',notS ⟨n,AE y n.O.args.l J,AE G n.K.l z,U⟩ V.z::r,[_,_],rfl,rfl,F.1.below (BP _ _).drew,F.2.drew⟩
def zm0{p:Prop}(h:p:=by exfalso;rcases (by omega:i.code=2\/i.code=3\/i.code=4\/i.code=5\/i.code=6) with e | e | e | e | e<;>rw[e]at hn<;>exact absurd hn BZ):p:=h
def zq0{p:Prop}(h:p:=by exfalso;rcases (by omega:i.code=4\/i.code=5) with e | e<;>rw[e]at hn<;>exact absurd (show(2:Int)<=1 from hn) BZ):p:=h
def tG(i:Stil.Aw)(b:AW)(ls:List Nat)(g:List SN)(v:AW)(w:AU)(B k:Nat)(bs:List Nat)(ts:Ao)(c:Rw w B bs ts ls g v)(f:Ar w b i.O.args)(j:i.fits)(h1:1<=i.code)(F:i.code<7)(hn:Stil.needs i.code<=(g.length:Int))(z:Ft k (g.map SN.n))(G:k<=800000)(d:B<=w.heap.size):
  Calls prog 113 #[v,.agg #[AB i.code,AB i.O.op,b]] w (KD (Lr i.code i.O (g.map SN.n)) w B bs ts):=by
 obtain⟨u,x⟩:=z;by_cases C:i.code=1
 .exact Avf i b ls g v w B bs ts c f j C d
 cases g with
 |nil=>exact zm0|cons m r=>rw[DX,Fp]at x;have t:=u m.n BU;by_cases A:i.code=2;{exact Ave i b ls m r v w B bs ts c f j A t BS d};by_cases y:i.code=3;{exact Avd i b ls m r v w B bs ts c f j y t BS d};by_cases D:i.code=6;{exact Ava i b ls m r v w B bs ts c f j D d};cases r with|nil=>exact zq0|cons l r=>rw[DX,Fp]at x;have q:=u l.n BU;by_cases E:i.code=4;{exact Avc i b ls m l r v w B bs ts c f j E q BS d};exact Avb i b ls m l r v w B bs ts c f j BS q BS d
variable {B P Q n o:Nat}{a w' w0:AU}{bs:List Nat}{r:Option Nat}{v:AW}
def NM{L r:List Stil.Aw}{i:Stil.Aw}(h:i::r<:+L):∃J,J=L.length - (i::r).length/\J+1=L.length - r.length/\∃f:J<L.length,L[J]=i:=by
 have d:=h.length_le;simp only[DO]at d;refine⟨_,rfl,yBe,yBe,?_⟩;have e:=List.suffix_iff_eq_drop.1 h;have b:=GH (l:=L) (i:=L.length - (i::r).length) yBe;rw[<-e]at b;injection b with c _
 exact c.symm
def MH{p:Prop}(h:p):Hid p:=h
def JO{W:AU}{a:Ab}:W.drew.cell? a=W.cell? a:=rfl
def Sr{w b:AU}(h:w.grownBy a r)(c:Below n a b)(f:w.heap.size<=n):w.grownBy b r:=
 ⟨c.os.tr h.os,c.tape.tr h.tape,c.output.tr h.output,DR h.size c.size,λk d e=>(c.block k (DL d f)).tr (h.block k d e)⟩
def Vo{w:AU}{r:Nat}(h:w.grownBy a (some r))(o:Nat)(v:AW):w.grownBy (a.setCell (AK r o) v) (some r):=by refine⟨h.os,h.tape,h.output,by simpa using h.size,λk c b=>?_⟩;have d:r≠k:=λe=>b (by rw[e]);have:=((BP (k+1) a)).block k (EO _);refine Eq.tr ?_ (h.block k c b);unfold World.setCell;simp[JK,d]
def grown_of{b:AU}(h:AO a b)(r:Option Nat):a.grownBy b r:=⟨h.os,h.tape,h.output,h.size,λk c _=>h.block k c⟩
def OH{b c:AU}(h:AO a b)(k:b.grownBy c r):a.grownBy c r:=
 ⟨k.os.tr h.os,k.tape.tr h.tape,k.output.tr h.output,DR h.size k.size,λj d e=>(k.block j (DL d h.size) e).tr (h.block j d)⟩
theorem Y4{N:Nat}:∀{b:List Stil.DJ}{l r:List Stil.Aw},Stil.Ih (Stil.Wh N [G5]) b l r->b.length<=l.length
 |[],_,_,h=>by simp[Stil.Ih]at h
 |_::_,[],_,h=>by simp[Stil.Ih]at h
 |y::b,i::l,r,h=>by
  rw[Stil.Ih]at h;split at h
  .rename_i e
   rw[e];simp
  .obtain⟨_,m,c,d⟩:=h
   have g:=Y4 d;have f:=c.suffix.length_le;simp only[DO];omega
theorem cJ{P:List Stil.Aw->Stil.DJ->List Stil.Aw->Prop}{ks:List Stil.DJ}{i:Stil.Aw}{l r:List Stil.Aw}(h:Stil.Ih P ks (i::l) r):∃y b,ks=y::b/\(b=[]/\i.code=9/\P l y r\/b≠[]/\(i.code=7\/i.code=8)/\∃m,P l y m/\Stil.Ih P b m r):=by cases ks with|nil=>simp[Stil.Ih]at h|cons y b=>refine⟨y,b,rfl,?_⟩;rw[Stil.Ih]at h;split at h;{rename_i e;exact .inl ⟨e,h⟩};rename_i e;exact .inr ⟨e,h⟩
theorem W7(c:Int)(w:AU):
  Calls prog 112 #[AB c] w λe w'=>e=.returned (.bool (decide (1<=c/\c<=6)))/\w'=w:=by
 have⟨R,b⟩:=AA (decide (1<=c/\c<=6));have d:=BX b;rw[<-b];clear b;by_cases f:1<=c
 .by_cases g:c<=6;{go_enter func112,ntmps112;go_wp2;go_ret;exact⟨by rw[d.out,FX BS];rfl,rfl⟩};go_enter func112,ntmps112;go_wp2;go_ret;exact⟨by rw[d.out,FM BS];rfl,rfl⟩
 go_enter func112,ntmps112;go_wp2;go_ret;exact⟨by rw[d.out,FM BS];rfl,rfl⟩
def LAt(w0:AU)(b o:Nat)(L:List Stil.Aw):Prop:=(L≠[]->b<w0.heap.size)/\∀i(h:i<L.length),Zu w0 b (o+i*3) L[i]
def LAt.lt{b i:Nat}{L:List Stil.Aw}(h:LAt w0 b o L)(hi:i<L.length):b<w0.heap.size:=h.1 (λe=>by rw[e]at hi;simp at hi)
structure EC(w0 w:World)(b o:Nat)(L l:List Stil.Aw):Prop where
 bel:Below w0.heap.size w0 w
 lt:w0.heap.size<w.heap.size
 c0:∃(cap:Nat)(q:Option Addr),l.length<=cap/\w.cell? ⟨w0.heap.size,0,none⟩=some (.slice q l.length cap)/\(l≠[]->q=some ⟨b,o+(L.length - l.length)*3,none⟩)
 f0:w.frozen? ⟨w0.heap.size,0,none⟩=false
 suf:l<:+L
def EC.below{w:AU}{b:Nat}{L l:List Stil.Aw}(h:EC w0 w b o L l)(c:Below n w w')(d:w0.heap.size<n):EC w0 w' b o L l:=by have⟨cap,q,e,c0,f⟩:=h.c0;exact⟨h.bel.tr (c.mo (EL d)),DL h.lt c.size,⟨cap,q,e,(c.cell (p:=(AL w0 0)) d).tr c0,f⟩,(c.frozen (p:=(AL w0 0)) d).tr h.f0,h.suf⟩
def EC.grown{w:AU}{b:Nat}{L l:List Stil.Aw}(h:EC w0 w b o L l)(hg:w.grownBy w' r)(hr:∀q,r=some q->w0.heap.size<q):EC w0 w' b o L l:=by have c:r≠some w0.z:=λe=>Kx _ (hr _ e);have⟨cap,q,f,c0,g⟩:=h.c0;exact⟨⟨hg.os.tr h.bel.os,hg.tape.tr h.bel.tape,hg.output.tr h.bel.output,DR h.bel.size hg.size,λk d=>(hg.block k (Nat.lt_trans d h.lt) (λe=>by have:=hr k e.symm;omega)).tr (h.bel.block k d)⟩,DL h.lt hg.size,⟨cap,q,f,(Gm hg h.lt c).tr c0,g⟩,(Nq hg h.lt c).tr h.f0,h.suf⟩
theorem EC.setB{w:AU}{b p:Nat}{L l:List Stil.Aw}(h:EC w0 w b o L l)(c:w0.heap.size<B)(v:AW):EC w0 (w.setCell (AK B p) v) b o L l:=
 h.below (n:=w0.z+1) ((BP _ _).s (p:=(AK B p)) c _) (EO _)
theorem EC.inst{w:AU}{b:Nat}{L r:List Stil.Aw}{i:Stil.Aw}(h:EC w0 w b o L (i::r))(f:LAt w0 b o L):∃(J cap:Nat)(c:AW),J<L.length/\J=L.length - (i::r).length/\J+1=L.length - r.length/\r.length+1<=cap/\w.cell? (AL w0 0)=some (AE (some (AK b (o+J*3))) (r.length+1) cap)/\w.cell? (AK b (o+J*3))=some (AB i.code)/\w.cell? (AK b (o+J*3+1))=some (AB i.O.op)/\w.cell? (AK b (o+J*3+2))=some c/\Ar w c i.O.args:=by obtain⟨J,e,k,d,rfl⟩:=NM h.suf;have⟨cap,q,j,c0,u⟩:=h.c0;rw[u BU,<-e]at c0;have⟨t,l,c,m,g⟩:=(f.2 J d).below h.bel (f.lt d);exact⟨J,cap,c,d,e,k,j,c0,t,l,m,g⟩
def EC.next{w:AU}{b J cap:Nat}{q:Ab}{L r:List Stil.Aw}{i:Stil.Aw}(h:EC w0 w b o L (i::r))(d:J+1=L.length - r.length)(f:r.length<=cap)(e:r≠[]->q=(AK b (o+J*3+3))):EC w0 (w.setCell (AL w0 0) (AE (some q) r.length cap)) b o L r:=by have⟨j,g,k,c0,_⟩:=h.c0;refine⟨h.bel.s (p:=(AL w0 0)) (DK _) _,by simpa using h.lt,⟨cap,some q,f,E8 c0,λc=>?_⟩,Mc.trans h.f0,(List.suffix_cons i r).trans h.suf⟩;rw[e c,<-d,Nat.add_mul];rfl
theorem OV(L r:List Stil.Aw)(i:Stil.Aw)(b o:Nat)(w0 w:AU)(hr:EC w0 w b o L (i::r))(j:LAt w0 b o L)(hl:L.length<=1000):
  Calls prog 87 #[AH w0.heap.size] w λe w'=>(∃(a:Option Ab)(c:Nat),e=.returned (.agg #[AB i.code,AB i.O.op,AE a i.O.args.length c])/\Ar w' (AE a i.O.args.length c) i.O.args)/\EC w0 w' b o L r/\w.grownBy w' (some w0.heap.size):=by
 have⟨J,cap,S,K,x,z,ad,c0,x0,x1,X,T⟩:=hr.inst j;have G:=BX hr;have C:=hr.lt;have f0:=hr.f0;have F:b<w0.heap.size:=j.lt K;have hb:b<w.heap.size:=Nat.lt_trans F C;have H:=BX z;have D:Hid (∀W,AO w0 W->Ar W S i.O.args):=λW h=>by
  obtain⟨_,g,e⟩:∃(_:J=J)(g:J<L.length),L[J]=i:=by have⟨M,R,_,g,e⟩:=NM hr.suf;have N:M=J:=(by rw[R,x]);subst N;exact⟨rfl,g,e⟩
  have⟨y0,y1,fP,y2,dY⟩:=(j.2 J g).below h (j.lt g);have⟨z0,z1,tu,z2,E⟩:=j.2 J g;have m:=(hr.bel.cell (p:=(AK b (o+J*3+2))) (j.lt g)).tr z2;rw[X]at m;injection m with m
  rw[m,<-e];exact E.below h
 obtain⟨f,d,rfl,-⟩:=T;have aa:1<=cap:=BS;have ac:r.length+1<=1000:=by have:=hr.suf.length_le;simp only[DO]at this;omega
 clear hr j x z;have t:Hid (∀(q:Ab)(c:Nat)(k l:AZ),r.length<=c->(r≠[]->q=(AK b (o+J*3+3)))->Ar (((w.s (AL w0 0) (AE (some q) r.length c)).alloc (.cells #[AB i.code,AB i.O.op,AE f i.O.args.length d] k)).alloc (.cells #[AB i.code,AB i.O.op,AE f i.O.args.length d] l)) (AE f i.O.args.length d) i.O.args/\EC w0 (((w.s (AL w0 0) (AE (some q) r.length c)).alloc (.cells #[AB i.code,AB i.O.op,AE f i.O.args.length d] k)).alloc (.cells #[AB i.code,AB i.O.op,AE f i.O.args.length d] l)) b o L r/\w.grownBy (((w.s (AL w0 0) (AE (some q) r.length c)).alloc (.cells #[AB i.code,AB i.O.op,AE f i.O.args.length d] k)).alloc (.cells #[AB i.code,AB i.O.op,AE f i.O.args.length d] l)) (some w0.heap.size)):=λq c k l U O=>by have u:=G.next H U O;have I:w.grownBy (w.s (AL w0 0) (AE (some q) r.length c)) (some w0.heap.size):=Vo (World.grownBy.refl _ _) _ _;have y:=(u.below (Aa _ (.cells #[AB i.code,AB i.O.op,AE f i.O.args.length d] k)) u.lt);have A:=y.below (Aa _ (.cells #[AB i.code,AB i.O.op,AE f i.O.args.length d] l)) y.lt;exact⟨D _ A.bel,A,(I.tr (grown_of (Aa _ _) _)).tr (grown_of (Aa _ _) _)⟩
 by_cases Y:cap=1
 .subst Y;have Z:r=[]:=BL.1 BS;subst Z;go_enter func87,ntmps87;go_wp2;refine BH (v:=.agg #[AB i.code,AB i.O.op,AE f i.O.args.length d]) (by simp[results,results87,go_sem]) rfl ?_;have h:=t (AK b (o+J*3)) 0 77 77 (DK _) (λh=>absurd rfl h);exact⟨⟨f,d,rfl,h.1⟩,h.2⟩
 have ab:¬(cap - 1=0):=by omega
 go_enter func87,ntmps87;go_wp2;refine BH (v:=.agg #[AB i.code,AB i.O.op,AE f i.O.args.length d]) (by simp[results,results87,go_sem]) rfl ?_;have h:=t (AK b (o+J*3+3)) (cap - 1) 77 77 BS (λ_=>rfl);exact⟨⟨f,d,rfl,h.1⟩,h.2⟩
structure Uy(w0 w:AU)(Q:Nat):Prop where
 hi:w0.heap.size<Q
 lt:Q<w.heap.size
 k0:w.cell? (AK Q 0)=some (AB 0)
 k1:w.cell? (AK Q 1)=some (AB 0)
 k2:w.cell? (AK Q 2)=some AG
 k3:w.cell? (AK Q 3)=some AG
 k4:w.cell? (AK Q 4)=some (.pointer none)
def Uy.keep{w:AU}(h:Uy w0 w Q)(c:w.heap.size<=w'.heap.size)(b:∀o,w'.cell? (AK Q o)=w.cell? (AK Q o)):Uy w0 w' Q:=
 ⟨h.hi,DL h.lt c,(b _).tr h.k0,(b _).tr h.k1,(b _).tr h.k2,(b _).tr h.k3,(b _).tr h.k4⟩
def Uy.G{w:AU}(h:Uy w0 w Q)(hg:w.grownBy w' r)(hr:r≠some Q):Uy w0 w' Q:=h.keep hg.size (λ_=>Gm hg h.lt hr)
def Uy.grown{w:AU}(h:Uy w0 w Q)(hg:w.grownBy w' (some w0.heap.size)):Uy w0 w' Q:=h.G hg (λe=>by injection e with e;have:=h.hi;omega)
def Xm(w:AU)(P:Nat):Nat:=match w.cell? (AK P 0) with
 |some (.slice _ n _)=>n
 |_=>0
def EC.len{w:AU}{b:Nat}{L l:List Stil.Aw}(h:EC w0 w b o L l):Xm w w0.heap.size=l.length:=by have⟨cap,q,_,c0,_⟩:=h.c0;unfold Xm;rw[c0]
def Azd(x y z:AW)(w:AU):Sem.run prog (Instr.field 77 (.agg #[x,y,z]) 0) w=.ok x w:=BW
def kU(x y z:AW)(w:AU):Sem.run prog (Instr.field 77 (.agg #[x,y,z]) 1) w=.ok (.agg #[y,z]) w:=BW
def JR(n:Stil.DJ)(bs:List Nat)(ts:Ao)(e:Ending)(w':AU):Prop:=∃a p b q d r f s,e=.returned (A4 n a p b q d r f s)/\Sv w' bs (([J6 n],A6 n a p b q d r f s)::ts)
def UX(L:List Stil.DJ)(bs:List Nat)(ts:Ao)(e:Ending)(w':AU):Prop:=∃a c,e=.returned (AE a L.length c)/\Sv w' bs (([sl (Iy L)],[AE a L.length c])::ts)
def NA(N:Nat)(w0:AU)(b o:Nat)(L:List Stil.Aw):Prop:=∀(l r:List Stil.Aw)(y:Stil.DJ)(Q:Nat)(W:AU)(bs:List Nat)(ts:Ao),Stil.Wh N [G5] l y r->EC w0 W b o L l->Uy w0 W Q->Sv W bs ts->w0.heap.size∈bs->Calls prog 86 #[AH w0.heap.size,AH Q] W λe w'=>JR y bs ts e w'/\EC w0 w' b o L r/\W.grownBy w' (some w0.heap.size)
theorem Vj {w:AU}{e k:Nat}{xs:List AW}(h:w.ownsRow B e k v n xs)(hg:w.grownBy w' (some P))(c:P<B):w'.ownsRow B e k v n xs:=h.kept hg (by
 cases b:v.ownBlock with
 |none=>exact .inl rfl
 | some q=>exact .inr λe=>by cases e;have:=(h.lt _ b).1;omega)
theorem Azw(N:Nat)(w0:AU)(b o:Nat)(L:List Stil.Aw)(ae:NA N w0 b o L)(ag:LAt w0 b o L)(hl:L.length<=1000)(l r:List Stil.Aw)(ks:List Stil.DJ)(Q:Nat)(w:AU)(bs:List Nat)(ts:Ao)(h:Sv w bs ts)(dV:w0.heap.size∈bs)(hf:Stil.Ih (Stil.Wh N [G5]) ks l r)(A:EC w0 w b o L l)(D:Uy w0 w Q)(al:ks.length<=1000):
  Calls prog 152 #[AH w0.heap.size,AH Q] w λe w'=>UX ks bs ts e w'/\EC w0 w' b o L r/\w.grownBy w' (some w0.heap.size):=by
 have vV:=Af ae;have ak:=Af ag;have HF:=Af hf;have dW:=Af A;have ja:=Af D;have HS:=Af h;have J:w0.heap.size<w.heap.size:=A.lt;have hQ:Q<w.heap.size:=D.lt;clear ae ag hf A D h;have an:=Azd;go_enter func152,ntmps152;go_wp2;go_loopw [5] (λkv wr=>∃(M:List Stil.Aw)(I d:List Stil.DJ)(z:Option Ab)(u:Nat)(W:List AW),kv=AE z d.length u/\wr.ownsRow w.heap.size 59 6 (AE z d.length u) d.length W/\Sv wr (ob (AE z d.length u)++bs) ((Iy d,W)::ts)/\d++I=ks/\Stil.Ih (Stil.Wh N [G5]) I M r/\EC w0 wr b o L M/\Uy w0 wr Q/\w.grownBy wr (some w0.heap.size)) (λ_ wr=>Xm wr w0.heap.size);case atStart=>exact⟨l,ks,[],none,0,[],rfl,BJ _ _ _ _,HS.nil,rfl,HF.out,dW.out,ja.out,World.grownBy.refl _ _⟩
 case round=>
  clear HF dW ja;obtain⟨M,I,d,z,u,W,rfl,ad,hS,U,Z,A,D,ab⟩:=hrel;cases M with
  |nil=>exact absurd Z (by cases I<;>simp[Stil.Ih])
  |cons i G=>(obtain⟨y,wY,rfl,ah⟩:=cJ Z;have eF:=Af (OV L G i b o w0 wr A ak hl);have dN:Hid (Xm wr w0.heap.size=G.length+1):=A.len;have ar:d.length<=1000:=by have K:=congrArg List.length U;simp only[DT,DO]at K;omega);have zI:=Af U;have T:=Af ad;have ig:=Af hS;have jY:=Af D;have vW:=Af ab;have ap:=ab.size;clear U D ab A Z ad hS;obtain⟨E,H⟩:∃E,Stil.Wh N [G5] G y E/\(wY=[]/\i.code=9/\E=r\/¬i.code=9/\Stil.Ih (Stil.Wh N [G5]) wY E r):=(by rcases ah with⟨h1,K,h3⟩|⟨_,K,m,h3,h4⟩;{exact⟨r,h3,.inl ⟨h1,K,rfl⟩⟩};exact⟨m,h3,.inr ⟨BS,h4⟩⟩);clear ah;have HY:=Af H.1;have af:Hid (w0.heap.size∈ob (AE z d.length u)++bs):=EM _ dV;have F:=Af (λq(g:(Value.slice z d.length u).ownBlock=some q)=>(T.lt q g).1);have qF:=Af (λt(g5:wr.grownBy t (some w0.heap.size))(r5:EC w0 t b o L G)=>vV G E y Q t (ob (AE z d.length u)++bs) _ HY r5 (jY.grown g5) (ig.grow g5 (λq g=>by cases g;exact af.out)) af.out);rcases H.2 with⟨rfl,h9,rfl⟩|⟨h9,ai⟩;{clear H;go_wp2_with(first|(go_at_call 87;refine eF.mono ?_;rintro e t⟨⟨ta,ua,rfl,-⟩,aQ,j⟩)|(go_at_call 86;refine(qF t j aQ).mono ?_;rintro e w6⟨⟨a1,p1,a2,O,a3,p3,X,p4,rfl,aa⟩,S,k⟩;have ac:=Vj (Vj T j J) k J;have oh:=k.size;have og:=j.size)|(at_builtin;refine Bi rfl rfl (Sv.pushM (f:=J6) (x:=y) (c:=A6 y a1 p1 a2 O a3 p3 X p4) _ kd6 aa (Ax Av) Av Uj ac BS BS) rfl rfl ?_;rintro v7 w7⟨a7,c7,rfl,R,Y,C,-⟩));go_ret;obtain rfl:=zI.out;refine⟨⟨a7,c7,by rw[DT];rfl,(Y.ice Av xAz HS.1).sub (λ_ h=>h) B8⟩,S.grown C (λq g=>by have:=F q g;omega),((vW.trans j).trans k).andThen C (λq g=>.inl (F q g))⟩};have aj:=Af ai;clear H ai;go_wp2_with(first|(go_at_call 87;refine eF.mono ?_;rintro e t⟨⟨ta,ua,rfl,-⟩,aQ,j⟩)|(go_at_call 86;refine(qF t j aQ).mono ?_;rintro e w6⟨⟨a1,p1,a2,O,a3,p3,X,p4,rfl,aa⟩,S,k⟩;have ac:=Vj (Vj T j J) k J;have oh:=k.size;have og:=j.size)|(at_builtin;refine Bi rfl rfl (Sv.pushM (f:=J6) (x:=y) (c:=A6 y a1 p1 a2 O a3 p3 X p4) _ kd6 aa (Ax Av) Av Uj ac BS BS) rfl rfl ?_;rintro v7 w7⟨a7,c7,rfl,R,Y,C,-⟩));have ao:=HY.suffix.length_le;have hR:=S.grown C (λq g=>by have:=F q g;omega);exact⟨⟨E,wY,d++[y],a7,c7,_,by rw[DT];rfl,R,Y.sub (λ_ h=>h) B8,by rw[EG];exact zI.out,aj.out,hR,((jY.grown j).grown k).G C (λe=>by have:=F _ e;omega),((vW.trans j).trans k).andThen C (λq g=>.inl (F q g))⟩,by rw[hR.len,dN.out];omega⟩
theorem nL(N:Nat)(w0:AU)(b o:Nat)(L:List Stil.Aw)(A:NA N w0 b o L)(q:LAt w0 b o L)(hl:L.length<=1000)(l r:List Stil.Aw)(ks:List Stil.DJ)(w:AU)(bs:List Nat)(ts:Ao)(h:Sv w bs ts)(E:w0.heap.size∈bs)(G:Stil.KY (Stil.Wh N [G5]) ks l r)(c:EC w0 w b o L l)(O:ks.length<=1000):
  Calls prog 115 #[AH w0.heap.size] w λe w'=>UX ks bs ts e w'/\EC w0 w' b o L r/\w.grownBy w' (some w0.heap.size):=by
 cases l with
 |nil=>exfalso;rcases G with⟨h,_⟩|⟨h,_⟩|⟨h,_⟩;{simp[Dv]at h};{simp[Dv]at h};simp[Dv]at h
 |cons i C=>
  obtain⟨J,cap,av,T,U,-,aa,c0,x0,-,-,-⟩:=c.inst q;have S:w0.heap.size<w.heap.size:=c.lt;have hb:b<w.heap.size:=Nat.lt_trans (q.lt T) c.lt;have Z:C.length+1<=1000:=by have:=c.suf.length_le;simp only[DO]at this;omega
  have D:=Af c;have R:=Af h;have F:=Af (λt:AZ=>(⟨S,BU,AP,AP,AP,AP,AP⟩:Uy w0 (w.alloc (.cells #[AB 0,AB 0,AG,AG,.pointer none] t)) w.heap.size));have f:=Af (λ(y:Stil.DJ)m t=>(A (i::C) r y w.heap.size _ bs ts m (c.below (Aa _ _) c.lt) (F t) (h.alloc _) E));have g:=Af (λu t=>(Azw N w0 b o L A q hl (i::C) r ks w.heap.size _ bs ts (h.alloc _) E u (c.below (Aa _ _) c.lt) (F t) O));clear A q c U h;rcases G with⟨d,rfl,rfl⟩|⟨K,j,y,rfl,m⟩|⟨j,u⟩;{have d:i.code=8\/i.code=9\/i.code=11:=d;clear f g;rcases d with d|d|d;all_goals go_enter func115,ntmps115;go_wp2;go_ret;exact⟨⟨none,0,rfl,(R.alloc _).snil⟩,D.below (Aa _ _) D.lt,grown_of (Aa _ _) _⟩};{have K:1<=i.code:=K;have j:i.code<7:=j;have Y:¬i.code=8:=BS;have W:¬i.code=9:=BS;have ab:¬i.code=11:=BS;have n7:¬i.code=7:=BS;have f:=Af (f y m);clear m g;go_enter func115,ntmps115;go_wp2_with(go_at_call 86;refine(f _).mo ?_;rintro e I⟨⟨H,M,a2,X,a3,p3,a4,p4,rfl,z⟩,k,x⟩);go_ret;exact⟨⟨some (AL I 0),1,rfl,(z.lit (l:=[J6 y]) Av _ _ rfl rfl).sub (λ_ h=>h) B8⟩,k.below (Aa _ _) k.lt,(grown_of (Aa _ _) _).tr (x.tr (grown_of (Aa _ _) _))⟩};have j:i.code=7:=j;have g:=Af (g u);clear u f;go_enter func115,ntmps115;go_wp2_with(go_at_call 152;refine(g _).mo ?_;rintro e I⟨⟨H,M,rfl,z⟩,k,x⟩);go_ret;exact⟨⟨H,M,rfl,z⟩,k,(grown_of (Aa _ _) _).tr x⟩
theorem Rw.grownP{w:AU}{ls:List Nat}{ts:Ao}{g:List SN}(h:Rw w B bs ts ls g v)(hg:w.grownBy w' (some P))(d:P∈bs)(hl:P∉ls):Rw w' B bs ts ls g v:=
 ⟨h.link.kept hg (λb c e=>by cases e;exact hl c),h.sv.grow hg (λb e=>by cases e;exact EM _ d),λs f=>(h.oks s f).kept hg (by
  cases i:s.kv.ownBlock with
  |none=>exact .inl rfl
  | some q=>exact .inr λe=>by cases e;exact h.off s f _ i d),h.apart,λb c=>⟨DL (h.free b c).1 hg.size,(h.free b c).2⟩,h.off⟩
def zeroS:SN:=⟨G5,AG,AG,[]⟩
theorem vq{w:AU}{ts:Ao}(h:Uy w0 w Q)(hS:Sv w bs ts):Rw w B bs ([([sl []],[AG]),([],[])]++ts) [Q] [zeroS] (AH Q):=
 ⟨⟨rfl,h.lt,⟨h.k0,h.k1,h.k2,h.k3⟩,_,h.k4,rfl⟩,hS.nil.snil,λs c=>by
  cases BB.1 c
  exact⟨.head _, .tail _ Av,BJ _ _ _ _⟩,Bcg _ _,λb d=>⟨by cases BB.1 d;exact h.lt,λs c e=>by cases BB.1 c;cases e⟩,λs c q e=>by cases BB.1 c;cases e⟩
