import Derived.Test.YtobbpffcggchmaaGreatDoorI25
import Derived.Deep.RegionHeld3
import Derived.Test.YtobbpffcggchmaaGreatDoorS21
set_option maxHeartbeats 4000000
set_option maxRecDepth 100000
namespace Go.Proofs.YtobbpffcggchmaaGreatDoor
open Tryz
open Stil
open Go.RowKit Go.Sort Go.BigFrame
variable {base:Nat}{bs:List Nat}{p v:Value}
theorem Akj {V k:World}{b b2:Nat}{m d M:Ah}{r:List Ah}(i:Fe V base (b::b2::bs) (m::d::r) v)(hg:V.grownBy k d.kv.ownBlock)(C:I7 k base M)(z:∀x∈M.vals,x∈d.vals++m.vals\/x.ownBlock=d.kv.ownBlock\/∀q,x.ownBlock=some q->V.heap.size<=q)(E:Kr V bs r p):
  Fe k base bs r p/\(M.vals++Bq r).Pairwise Aside/\∀c∈bs,∀x∈M.vals,x.ownBlock≠some c:=by
 have j:d.kv∈d.vals:=by rw[Ah.vals_eq];simp
 have s:=i.apart;have B:=i.low;rw[Dx,Dx,A9q,A9q] at s;obtain⟨-,⟨-,t,l⟩,F⟩:=s;have D:∀x∈m.vals,x∈Bq (m::d::r):=λx hx=>by rw[Dx];exact A9e _ hx
 have o:∀x∈d.vals,x∈Bq (m::d::r):=λx hx=>by rw[Dx,Dx];exact A9b _ (A9e _ hx)
 have w:∀x∈Bq r,x∈Bq (m::d::r):=λx hx=>by rw[Dx,Dx];exact A9b _ (A9b _ hx)
 have f:∀c∈bs,0<=c/\c<V.heap.size/\∀x∈Bq (m::d::r),x.ownBlock≠some c:=λc a=>i.free c (by simp[a])
 refine⟨⟨E.kept hg (λc a=>(f c a).2.2 _ (o _ j)),λx hx=>(i.oks x yBj).kept hg (λu hu=>(l _ j u (Jf.2 ⟨x,hx,hu⟩)).symm),t,λc a=>⟨(f c a).1,A82 (f c a).2.1 hg.size,λx hx=>(f c a).2.2 x (w x hx)⟩⟩,?_,λc a x hx e=>?_⟩
 ·rw[A9q]
  refine⟨C.2,t,λx hx y g=>?_⟩;rcases z x hx with h | h | h
  ·rcases List.mem_append.1 h with h | h
   ·exact l x h y g
   ·exact F x h y (A9b _ g)
  ·have A:=l _ j y g
   unfold Aside at A ⊢;rw[h];exact A
  ·exact(Eg (n:=V.heap.size) (B y (w y g)) h).symm
 ·have G:=(f c a).2.1
  rcases z x hx with h | h | h
  ·rcases List.mem_append.1 h with h | h
   ·exact(f c a).2.2 x (o x h) e
   ·exact(f c a).2.2 x (D x h) e
  ·rw[h] at e
   exact(f c a).2.2 _ (o _ j) e
  ·have:=h _ e;omega
theorem zl0 {p:Prop}(h:p:=by
 have hB:Below base w V:=(hBW.trans (h.mono hBW.size)).mono hbase
 exact(hB.trans ((Below.refl _ _).grown hg hbs (λk hk=>((hSW.oks m2 spz).lt m2 _ hkv k hk).1))).trans ((Aa w2 _).mono (A9f hbs hg.size))):p:=h
theorem Azc (i:Stil.F7)(Y:Value)(bs:List Nat)(m m2:Ah)(r:List Ah)(v:Value)(base:Nat)(w:World)(ax:Fe w base bs (m::m2::r) v)(al:A7 w Y i.one.args)(hf:i.fits)(ap:i.code=4)(aa:As1 m2.net)(an:Aj m2.net+Aj m.net<=900000)(hbase:base<=w.heap.size):
  Calls prog 50 #[v, .agg #[.int .i64 i.code, .int .i64 i.one.op,Y]] w λe D=>Jm w D base (Ib i.code i.one ((m::m2::r).map Ah.net)) e:=by
 have bK:Hid (∀W,Below w.heap.size w W->Calls prog 76 #[.agg #[.int .i64 i.one.op,Y]] W λr D=>∃u,r=.returned (.agg #[.int .i64 i.one.op,u])/\D.ownsRow W.heap.size 34 3 u i.one.args.length (Am i.one.args)/\Below W.heap.size W D):=λW h=>Oc i.one.op Y i.one.args W (al.below h) hf.2.2.1
 obtain⟨p0,r0,rfl,-⟩:=al;obtain⟨c,op,C⟩:=i;simp only at bK ap ⊢;subst ap;have HS:Hid (Fe w base bs (m::m2::r) v):=ax;clear ax hf;go_enter func50,ntmps50;go_upto_region 2 with(go_at_call 76;refine(bK _ blA).mono ?_;rintro e y ⟨u1,rfl,hown,ab⟩;obtain⟨a1,c1,hu⟩:=Ac hown;subst hu;have ay:Hid (y.ownsRow (w.heap.size+1) 34 3 (.slice a1 C.length c1) C.length (Am C)):=yAd;clear hown)
 have aw:Below w.heap.size w y:=blA;have aA:w.heap.size<y.heap.size:=by have:=ab.size;simp at this;omega
 obtain⟨W,T⟩:∃W,W=y.alloc (.cells #[.int .i64 1, .int .i64 op, .slice a1 C.length c1, .slice none 0 0] 30):=⟨_,rfl⟩
 have aK:Below y.heap.size y W:=by rw[T];exact Aa _ _
 have hBW:Below w.heap.size w W:=Dj aw aK;have k0:W.cell? ⟨w.heap.size,0,none⟩=some (.int .i64 4):=by
  rw[aK.cell (p:=⟨w.heap.size,0,none⟩) aA,ab.cell (p:=⟨w.heap.size,0,none⟩) spz];simp[go_sem]
 have bx:B4 W y.heap.size (.int .i64 1) (.int .i64 op) (.slice a1 C.length c1) (.slice none 0 0):=by rw[T];exact Akh
 rw[<-T];clear T aK aw ab ay bK;obtain⟨nZ,⟨o0,o1,o2,o3⟩,_⟩:=bx;have hSW:=HS.below hBW;obtain⟨b,aG,rfl,rfl,ae,⟨h0,Z,X,U⟩,p1,h4,lQ⟩:=hSW.link.cons;obtain⟨a,aB,rfl,rfl,bD,⟨R,Q,O,P⟩,p,g4,ag⟩:=lQ.cons;have ai:=(Ee _ _ _).1 (hSW.oks m spz);obtain⟨pa,ca,ak⟩:=Ac ai.1;obtain⟨qa,da,ao⟩:=Ac ai.2.1;have ah:=(Ee _ _ _).1 (hSW.oks m2 spz);obtain⟨uO,ar,iJ⟩:=Ac ah.1;obtain⟨aj,xJ,lM⟩:=Ac ah.2.1;have az:=ag.ptr;have z:=hSW.apart;rw[Dx,Dx,A9q,A9q] at z;have hkv:m2.kv∈m2.vals:=by rw[Ah.vals_eq];simp
 have ac:m2.kv∈Bq (m::m2::r):=by rw[Dx,Dx];exact A9b _ (A9e _ hkv)
 have af:m2.kv.ownBlock≠some b:=(hSW.free b spz).2.2 _ ac;have au:m2.kv.ownBlock≠some a:=(hSW.free a spz).2.2 _ ac;have jK:Hid (∀V,Below W.heap.size W V->Calls prog 77 #[.int .i64 2, .agg #[.int .i64 m2.kind, .int .i64 m2.op,m2.av,m2.kv], .agg #[.int .i64 m.kind, .int .i64 m.op,m.av,m.kv]] V λe D=>Am8 V D base (m2.vals++m.vals) m2.kv.ownBlock (Ff 2 m2.net m.net) e):=λV h=>by
  have S:=hSW.below h;refine X3 2 m2 m base V ⟨S.oks m2 spz,z.2.1.1⟩ ⟨S.oks m spz,z.1⟩ ?_ an aa.1 (λh0=>?_) (A9f hbase (A9f hBW.size h.size))
  ·rw[A9q]
   exact⟨z.2.1.1,z.1,λx A aD l=>(z.2.2 aD l x (A9e _ A)).symm⟩
  ·exact aa.2 yDh
 have dB:Hid (∀(V w2:World) (M:Ah) (t:TypeId),Below W.heap.size W V->V.grownBy w2 m2.kv.ownBlock->I7 w2 base M->M.net=Ff 2 m2.net m.net->(∀x∈M.vals,x∈m2.vals++m.vals\/x.ownBlock=m2.kv.ownBlock\/∀q,x.ownBlock=some q->V.heap.size<=q)->Jm w (w2.alloc (.cells #[.int .i64 M.kind, .int .i64 M.op,M.av,M.kv,p] t)) base (Ib 4 ⟨op,C⟩ ((m::m2::r).map Ah.net)) (.returned (.pointer (some ⟨w2.heap.size,0,none⟩)))):=λV w2 M t h hg hM hn hv=>by
  have S:=hSW.below h;obtain⟨q1,q2,q3⟩:=Akj S hg hM hv (ag.below h);have hbs:base<=V.heap.size:=A9f hbase (A9f hBW.size h.size);refine⟨w2.heap.size,aB,M::r,rfl,q1.push hM q2 q3 (A9f hbs hg.size),?_,?_⟩
  ·rw[A9l,hn]
   rfl
  ·exact zl0
 have bW:Hid (∀V w2:World,Below W.heap.size W V->V.grownBy w2 m2.kv.ownBlock->(b<w2.heap.size/\a<w2.heap.size)/\w2.cell? ⟨b,0,none⟩=some (.int .i64 m.kind)/\w2.cell? ⟨b,1,none⟩=some (.int .i64 m.op)/\w2.cell? ⟨b,2,none⟩=some m.av/\w2.cell? ⟨b,3,none⟩=some m.kv/\w2.cell? ⟨b,4,none⟩=some (.pointer (some ⟨a,0,none⟩))/\w2.cell? ⟨a,0,none⟩=some (.int .i64 m2.kind)/\w2.cell? ⟨a,1,none⟩=some (.int .i64 m2.op)/\w2.cell? ⟨a,2,none⟩=some m2.av/\w2.cell? ⟨a,3,none⟩=some m2.kv/\w2.cell? ⟨a,4,none⟩=some p):=λV w2 h hg=>by
  have A:∀o u,W.cell? ⟨b,o,none⟩=some u->w2.cell? ⟨b,o,none⟩=some u:=λo u e=>(A8 hg (A82 ae h.size) af).trans ((h.cell ae).trans e)
  have l:∀o u,W.cell? ⟨a,o,none⟩=some u->w2.cell? ⟨a,o,none⟩=some u:=λo u e=>(A8 hg (A82 bD h.size) au).trans ((h.cell bD).trans e)
  exact⟨⟨A82 ae (A9f h.size hg.size),A82 bD (A9f h.size hg.size)⟩,A _ _ h0,A _ _ Z,A _ _ X,A _ _ U,A _ _ h4,l _ _ R,l _ _ Q,l _ _ O,l _ _ P,l _ _ g4⟩
 obtain⟨xk,fJ,eY,nP,kY,eX⟩:=m;obtain⟨yk,uK,uN,aI,aH,uM⟩:=m2;simp only at ak ao iJ lM h0 Z X U R Q O P jK bW dB af;subst ak;subst ao;subst iJ;subst lM;clear ai ah z hkv ac ag hSW aa an af au lQ;have aE:Hid (Below w.heap.size w W):=hBW;obtain rfl | ⟨pb,rfl⟩:=az
 ·go_upto_region 10 with fail
  go_region_held3 (λd=>(d.cell? ⟨b,0,none⟩=some (.int .i64 xk)/\d.cell? ⟨b,1,none⟩=some (.int .i64 fJ)/\d.cell? ⟨b,2,none⟩=some (.slice pa eY.length ca)/\d.cell? ⟨b,3,none⟩=some (.slice qa eX.length da)/\d.cell? ⟨b,4,none⟩=some (.pointer (some ⟨a,0,none⟩))/\d.cell? ⟨a,0,none⟩=some (.int .i64 yk)/\d.cell? ⟨a,1,none⟩=some (.int .i64 uK)/\d.cell? ⟨a,2,none⟩=some (.slice uO uN.length ar)/\d.cell? ⟨a,3,none⟩=some (.slice aj uM.length xJ)/\d.cell? ⟨a,4,none⟩=some (.pointer none))) (first | with_reducible assumption | with_reducible exact⟨Aw.trans h0,Aw.trans Z,Aw.trans X,Aw.trans U,Aw.trans h4,Aw.trans R,Aw.trans Q,Aw.trans O,Aw.trans P,Aw.trans g4⟩ | with_reducible exact⟨(Aq g).trans f.1,(Aq g).trans f.2.1,(Aq g).trans f.2.2.1,(Aq g).trans f.2.2.2.1,(Aq g).trans f.2.2.2.2.1,(Aq j).trans f.2.2.2.2.2.1,(Aq j).trans f.2.2.2.2.2.2.1,(Aq j).trans f.2.2.2.2.2.2.2.1,(Aq j).trans f.2.2.2.2.2.2.2.2.1,(Aq j).trans f.2.2.2.2.2.2.2.2.2⟩ | skip) (first | (go_at_call 77;refine(jK.out _ yAc).mono ?_;rintro e w2 ⟨G,H,s,J,L,I,F,B,rfl,N,K,E,hg⟩;have jT:Hid (∀t,Jm w (w2.alloc (.cells #[.int .i64 G, .int .i64 H, .slice J s.length L, .slice I B.length F,_] t)) base _ (.returned (.pointer (some ⟨w2.heap.size,0,none⟩)))):=(λt=>dB.out _ w2 (Ah.mk G H s (.slice J s.length L) (.slice I B.length F) B) t yAc hg N K E);obtain⟨⟨g,j⟩,f⟩:=bW.out _ w2 yAc hg;clear N K E hg))
  all_goals
   go_wp2
   go_ret;exact jT _
 ·go_upto_region 10 with fail
  go_region_held3 (λd=>(d.cell? ⟨b,0,none⟩=some (.int .i64 xk)/\d.cell? ⟨b,1,none⟩=some (.int .i64 fJ)/\d.cell? ⟨b,2,none⟩=some (.slice pa eY.length ca)/\d.cell? ⟨b,3,none⟩=some (.slice qa eX.length da)/\d.cell? ⟨b,4,none⟩=some (.pointer (some ⟨a,0,none⟩))/\d.cell? ⟨a,0,none⟩=some (.int .i64 yk)/\d.cell? ⟨a,1,none⟩=some (.int .i64 uK)/\d.cell? ⟨a,2,none⟩=some (.slice uO uN.length ar)/\d.cell? ⟨a,3,none⟩=some (.slice aj uM.length xJ)/\d.cell? ⟨a,4,none⟩=some (.pointer (some ⟨pb,0,none⟩)))) (first | with_reducible assumption | with_reducible exact⟨Aw.trans h0,Aw.trans Z,Aw.trans X,Aw.trans U,Aw.trans h4,Aw.trans R,Aw.trans Q,Aw.trans O,Aw.trans P,Aw.trans g4⟩ | with_reducible exact⟨(Aq g).trans f.1,(Aq g).trans f.2.1,(Aq g).trans f.2.2.1,(Aq g).trans f.2.2.2.1,(Aq g).trans f.2.2.2.2.1,(Aq j).trans f.2.2.2.2.2.1,(Aq j).trans f.2.2.2.2.2.2.1,(Aq j).trans f.2.2.2.2.2.2.2.1,(Aq j).trans f.2.2.2.2.2.2.2.2.1,(Aq j).trans f.2.2.2.2.2.2.2.2.2⟩ | skip) (first | (go_at_call 77;refine(jK.out _ yAc).mono ?_;rintro e w2 ⟨G,H,s,J,L,I,F,B,rfl,N,K,E,hg⟩;have jT:Hid (∀t,Jm w (w2.alloc (.cells #[.int .i64 G, .int .i64 H, .slice J s.length L, .slice I B.length F,_] t)) base _ (.returned (.pointer (some ⟨w2.heap.size,0,none⟩)))):=(λt=>dB.out _ w2 (Ah.mk G H s (.slice J s.length L) (.slice I B.length F) B) t yAc hg N K E);obtain⟨⟨g,j⟩,f⟩:=bW.out _ w2 yAc hg;clear N K E hg))
  all_goals
   go_wp2
   go_ret;exact jT _
theorem Azb (i:Stil.F7)(Y:Value)(bs:List Nat)(m m2:Ah)(r:List Ah)(v:Value)(base:Nat)(w:World)(ax:Fe w base bs (m::m2::r) v)(al:A7 w Y i.one.args)(hf:i.fits)(ap:i.code=5)(aa:As1 m2.net)(an:Aj m2.net+Aj m.net<=900000)(hbase:base<=w.heap.size):
  Calls prog 50 #[v, .agg #[.int .i64 i.code, .int .i64 i.one.op,Y]] w λe D=>Jm w D base (Ib i.code i.one ((m::m2::r).map Ah.net)) e:=by
 have bK:Hid (∀W,Below w.heap.size w W->Calls prog 76 #[.agg #[.int .i64 i.one.op,Y]] W λr D=>∃u,r=.returned (.agg #[.int .i64 i.one.op,u])/\D.ownsRow W.heap.size 34 3 u i.one.args.length (Am i.one.args)/\Below W.heap.size W D):=λW h=>Oc i.one.op Y i.one.args W (al.below h) hf.2.2.1
 obtain⟨p0,r0,rfl,-⟩:=al;obtain⟨c,op,C⟩:=i;simp only at bK ap ⊢;subst ap;have HS:Hid (Fe w base bs (m::m2::r) v):=ax;clear ax hf;go_enter func50,ntmps50;go_upto_region 2 with(go_at_call 76;refine(bK _ blA).mono ?_;rintro e y ⟨u1,rfl,hown,ab⟩;obtain⟨a1,c1,hu⟩:=Ac hown;subst hu;have ay:Hid (y.ownsRow (w.heap.size+1) 34 3 (.slice a1 C.length c1) C.length (Am C)):=yAd;clear hown)
 have aw:Below w.heap.size w y:=blA;have aA:w.heap.size<y.heap.size:=by have:=ab.size;simp at this;omega
 obtain⟨W,T⟩:∃W,W=y.alloc (.cells #[.int .i64 1, .int .i64 op, .slice a1 C.length c1, .slice none 0 0] 30):=⟨_,rfl⟩
 have aK:Below y.heap.size y W:=by rw[T];exact Aa _ _
 have hBW:Below w.heap.size w W:=Dj aw aK;have k0:W.cell? ⟨w.heap.size,0,none⟩=some (.int .i64 5):=by
  rw[aK.cell (p:=⟨w.heap.size,0,none⟩) aA,ab.cell (p:=⟨w.heap.size,0,none⟩) spz];simp[go_sem]
 have bx:B4 W y.heap.size (.int .i64 1) (.int .i64 op) (.slice a1 C.length c1) (.slice none 0 0):=by rw[T];exact Akh
 rw[<-T];clear T aK aw ab ay bK;obtain⟨nZ,⟨o0,o1,o2,o3⟩,_⟩:=bx;have hSW:=HS.below hBW;obtain⟨b,aG,rfl,rfl,ae,⟨h0,Z,X,U⟩,p1,h4,lQ⟩:=hSW.link.cons;obtain⟨a,aB,rfl,rfl,bD,⟨R,Q,O,P⟩,p,g4,ag⟩:=lQ.cons;have ai:=(Ee _ _ _).1 (hSW.oks m spz);obtain⟨pa,ca,ak⟩:=Ac ai.1;obtain⟨qa,da,ao⟩:=Ac ai.2.1;have ah:=(Ee _ _ _).1 (hSW.oks m2 spz);obtain⟨uO,ar,iJ⟩:=Ac ah.1;obtain⟨aj,xJ,lM⟩:=Ac ah.2.1;have az:=ag.ptr;have z:=hSW.apart;rw[Dx,Dx,A9q,A9q] at z;have hkv:m2.kv∈m2.vals:=by rw[Ah.vals_eq];simp
 have ac:m2.kv∈Bq (m::m2::r):=by rw[Dx,Dx];exact A9b _ (A9e _ hkv)
 have af:m2.kv.ownBlock≠some b:=(hSW.free b spz).2.2 _ ac;have au:m2.kv.ownBlock≠some a:=(hSW.free a spz).2.2 _ ac;have jK:Hid (∀V,Below W.heap.size W V->Calls prog 77 #[.int .i64 3, .agg #[.int .i64 m2.kind, .int .i64 m2.op,m2.av,m2.kv], .agg #[.int .i64 m.kind, .int .i64 m.op,m.av,m.kv]] V λe D=>Am8 V D base (m2.vals++m.vals) m2.kv.ownBlock (Ff 3 m2.net m.net) e):=λV h=>by
  have S:=hSW.below h;refine X3 3 m2 m base V ⟨S.oks m2 spz,z.2.1.1⟩ ⟨S.oks m spz,z.1⟩ ?_ an aa.1 (λh0=>?_) (A9f hbase (A9f hBW.size h.size))
  ·rw[A9q]
   exact⟨z.2.1.1,z.1,λx A aD l=>(z.2.2 aD l x (A9e _ A)).symm⟩
  ·exact aa.2 yDh
 have dB:Hid (∀(V w2:World) (M:Ah) (t:TypeId),Below W.heap.size W V->V.grownBy w2 m2.kv.ownBlock->I7 w2 base M->M.net=Ff 3 m2.net m.net->(∀x∈M.vals,x∈m2.vals++m.vals\/x.ownBlock=m2.kv.ownBlock\/∀q,x.ownBlock=some q->V.heap.size<=q)->Jm w (w2.alloc (.cells #[.int .i64 M.kind, .int .i64 M.op,M.av,M.kv,p] t)) base (Ib 5 ⟨op,C⟩ ((m::m2::r).map Ah.net)) (.returned (.pointer (some ⟨w2.heap.size,0,none⟩)))):=λV w2 M t h hg hM hn hv=>by
  have S:=hSW.below h;obtain⟨q1,q2,q3⟩:=Akj S hg hM hv (ag.below h);have hbs:base<=V.heap.size:=A9f hbase (A9f hBW.size h.size);refine⟨w2.heap.size,aB,M::r,rfl,q1.push hM q2 q3 (A9f hbs hg.size),?_,?_⟩
  ·rw[A9l,hn]
   rfl
  ·exact zl0
 have bW:Hid (∀V w2:World,Below W.heap.size W V->V.grownBy w2 m2.kv.ownBlock->(b<w2.heap.size/\a<w2.heap.size)/\w2.cell? ⟨b,0,none⟩=some (.int .i64 m.kind)/\w2.cell? ⟨b,1,none⟩=some (.int .i64 m.op)/\w2.cell? ⟨b,2,none⟩=some m.av/\w2.cell? ⟨b,3,none⟩=some m.kv/\w2.cell? ⟨b,4,none⟩=some (.pointer (some ⟨a,0,none⟩))/\w2.cell? ⟨a,0,none⟩=some (.int .i64 m2.kind)/\w2.cell? ⟨a,1,none⟩=some (.int .i64 m2.op)/\w2.cell? ⟨a,2,none⟩=some m2.av/\w2.cell? ⟨a,3,none⟩=some m2.kv/\w2.cell? ⟨a,4,none⟩=some p):=λV w2 h hg=>by
  have A:∀o u,W.cell? ⟨b,o,none⟩=some u->w2.cell? ⟨b,o,none⟩=some u:=λo u e=>(A8 hg (A82 ae h.size) af).trans ((h.cell ae).trans e)
  have l:∀o u,W.cell? ⟨a,o,none⟩=some u->w2.cell? ⟨a,o,none⟩=some u:=λo u e=>(A8 hg (A82 bD h.size) au).trans ((h.cell bD).trans e)
  exact⟨⟨A82 ae (A9f h.size hg.size),A82 bD (A9f h.size hg.size)⟩,A _ _ h0,A _ _ Z,A _ _ X,A _ _ U,A _ _ h4,l _ _ R,l _ _ Q,l _ _ O,l _ _ P,l _ _ g4⟩
 obtain⟨xk,fJ,eY,nP,kY,eX⟩:=m;obtain⟨yk,uK,uN,aI,aH,uM⟩:=m2;simp only at ak ao iJ lM h0 Z X U R Q O P jK bW dB af;subst ak;subst ao;subst iJ;subst lM;clear ai ah z hkv ac ag hSW aa an af au lQ;have aE:Hid (Below w.heap.size w W):=hBW;obtain rfl | ⟨pb,rfl⟩:=az
 ·go_upto_region 12 with fail
  go_region_held3 (λd=>(d.cell? ⟨b,0,none⟩=some (.int .i64 xk)/\d.cell? ⟨b,1,none⟩=some (.int .i64 fJ)/\d.cell? ⟨b,2,none⟩=some (.slice pa eY.length ca)/\d.cell? ⟨b,3,none⟩=some (.slice qa eX.length da)/\d.cell? ⟨b,4,none⟩=some (.pointer (some ⟨a,0,none⟩))/\d.cell? ⟨a,0,none⟩=some (.int .i64 yk)/\d.cell? ⟨a,1,none⟩=some (.int .i64 uK)/\d.cell? ⟨a,2,none⟩=some (.slice uO uN.length ar)/\d.cell? ⟨a,3,none⟩=some (.slice aj uM.length xJ)/\d.cell? ⟨a,4,none⟩=some (.pointer none))) (first | with_reducible assumption | with_reducible exact⟨Aw.trans h0,Aw.trans Z,Aw.trans X,Aw.trans U,Aw.trans h4,Aw.trans R,Aw.trans Q,Aw.trans O,Aw.trans P,Aw.trans g4⟩ | with_reducible exact⟨(Aq g).trans f.1,(Aq g).trans f.2.1,(Aq g).trans f.2.2.1,(Aq g).trans f.2.2.2.1,(Aq g).trans f.2.2.2.2.1,(Aq j).trans f.2.2.2.2.2.1,(Aq j).trans f.2.2.2.2.2.2.1,(Aq j).trans f.2.2.2.2.2.2.2.1,(Aq j).trans f.2.2.2.2.2.2.2.2.1,(Aq j).trans f.2.2.2.2.2.2.2.2.2⟩ | skip) (first | (go_at_call 77;refine(jK.out _ yAc).mono ?_;rintro e w2 ⟨G,H,s,J,L,I,F,B,rfl,N,K,E,hg⟩;have jT:Hid (∀t,Jm w (w2.alloc (.cells #[.int .i64 G, .int .i64 H, .slice J s.length L, .slice I B.length F,_] t)) base _ (.returned (.pointer (some ⟨w2.heap.size,0,none⟩)))):=(λt=>dB.out _ w2 (Ah.mk G H s (.slice J s.length L) (.slice I B.length F) B) t yAc hg N K E);obtain⟨⟨g,j⟩,f⟩:=bW.out _ w2 yAc hg;clear N K E hg))
  all_goals
   go_wp2
   go_ret;exact jT _
 ·go_upto_region 12 with fail
  go_region_held3 (λd=>(d.cell? ⟨b,0,none⟩=some (.int .i64 xk)/\d.cell? ⟨b,1,none⟩=some (.int .i64 fJ)/\d.cell? ⟨b,2,none⟩=some (.slice pa eY.length ca)/\d.cell? ⟨b,3,none⟩=some (.slice qa eX.length da)/\d.cell? ⟨b,4,none⟩=some (.pointer (some ⟨a,0,none⟩))/\d.cell? ⟨a,0,none⟩=some (.int .i64 yk)/\d.cell? ⟨a,1,none⟩=some (.int .i64 uK)/\d.cell? ⟨a,2,none⟩=some (.slice uO uN.length ar)/\d.cell? ⟨a,3,none⟩=some (.slice aj uM.length xJ)/\d.cell? ⟨a,4,none⟩=some (.pointer (some ⟨pb,0,none⟩)))) (first | with_reducible assumption | with_reducible exact⟨Aw.trans h0,Aw.trans Z,Aw.trans X,Aw.trans U,Aw.trans h4,Aw.trans R,Aw.trans Q,Aw.trans O,Aw.trans P,Aw.trans g4⟩ | with_reducible exact⟨(Aq g).trans f.1,(Aq g).trans f.2.1,(Aq g).trans f.2.2.1,(Aq g).trans f.2.2.2.1,(Aq g).trans f.2.2.2.2.1,(Aq j).trans f.2.2.2.2.2.1,(Aq j).trans f.2.2.2.2.2.2.1,(Aq j).trans f.2.2.2.2.2.2.2.1,(Aq j).trans f.2.2.2.2.2.2.2.2.1,(Aq j).trans f.2.2.2.2.2.2.2.2.2⟩ | skip) (first | (go_at_call 77;refine(jK.out _ yAc).mono ?_;rintro e w2 ⟨G,H,s,J,L,I,F,B,rfl,N,K,E,hg⟩;have jT:Hid (∀t,Jm w (w2.alloc (.cells #[.int .i64 G, .int .i64 H, .slice J s.length L, .slice I B.length F,_] t)) base _ (.returned (.pointer (some ⟨w2.heap.size,0,none⟩)))):=(λt=>dB.out _ w2 (Ah.mk G H s (.slice J s.length L) (.slice I B.length F) B) t yAc hg N K E);obtain⟨⟨g,j⟩,f⟩:=bW.out _ w2 yAc hg;clear N K E hg))
  all_goals
   go_wp2
   go_ret;exact jT _
theorem Jm.drew {w w':World}{st:List Stil.Net}{e:Ending}(h:Jm w w' base st e):Jm w w'.drew base st e:=by
 obtain⟨b,bs,a,d,c,g,f⟩:=h;exact⟨b,bs,a,d,c.below (Below.refl _ _).drew,g,f.drew⟩
theorem Fe.tail {w:World}{b:Nat}{m:Ah}{r:List Ah}(h:Fe w base (b::bs) (m::r) v)(f:Kr w bs r p):Fe w base bs r p:=by
 have e:=h.apart;rw[Dx,A9q] at e;exact⟨f,λx d=>h.oks x (A87 _ d),e.2.1,λc a=>⟨(h.free c (A87 _ a)).1,(h.free c (A87 _ a)).2.1,λx d=>(h.free c (A87 _ a)).2.2 x (by rw[Dx];exact A9b _ d)⟩⟩
theorem Awn {W:World}{b:Nat}{m:Ah}{r:List Ah}(a:Fe W base (b::bs) (m::r) v)(o:Kr W bs r p)(q:base<=W.heap.size)(t:TypeId):
  Fe ((W.alloc (.cells #[.int .i64 m.kind, .int .i64 m.op,m.av,m.kv] 30)).alloc (.cells #[.int .i64 4, .int .i64 0, .slice none 0 0, .slice (some ⟨W.heap.size,0,none⟩) 1 1,p] t)) base ((W.heap.size+1)::bs) (Ax7 W.heap.size m::r) (.pointer (some ⟨W.heap.size+1,0,none⟩)):=by
 have d:=a.apart;have l:=a.low;rw[Dx,A9q] at d;have g:=Aqx (X:=m) ⟨a.oks m spz,d.1⟩ q
 have k:=((a.tail o).below (Aa W (.cells #[.int .i64 m.kind, .int .i64 m.op,m.av,m.kv] 30))).push (m:=Ax7 W.heap.size m) (t:=t) g (by
  rw[A9q];refine⟨g.2,d.2.1,λx f y i=>?_⟩;rcases Aek f [] with h | h
  ·rw[Bbz] at h
   exact d.2.2 x h y i
  ·exact(Eg (n:=W.heap.size) (l y (by rw[Dx];exact A9b _ i)) h).symm) (λc j x f e=>by
  rcases Aek f [] with h | h
  ·rw[Bbz] at h
   exact(a.free c (A87 _ j)).2.2 x (by rw[Dx];exact A9e _ h) e
  ·have:=h _ e
   have:=(a.free c (A87 _ j)).2.1
   omega) yAb
 simp only[World.size_alloc] at k;exact k
theorem Aza (i:Stil.F7)(j:Value)(bs:List Nat)(m:Ah)(r:List Ah)(v:Value)(base:Nat)(w:World)(G:Fe w base bs (m::r) v)(E:A7 w j i.one.args)(F:i.fits)(J:i.code=6)(H:base<=w.heap.size):
  Calls prog 50 #[v, .agg #[.int .i64 i.code, .int .i64 i.one.op,j]] w λe g=>Jm w g base (Ib i.code i.one ((m::r).map Ah.net)) e:=by
 have A:Hid (∀W,Below w.heap.size w W->Calls prog 76 #[.agg #[.int .i64 i.one.op,j]] W λr g=>∃u,r=.returned (.agg #[.int .i64 i.one.op,u])/\g.ownsRow W.heap.size 34 3 u i.one.args.length (Am i.one.args)/\Below W.heap.size W g):=λW h=>Oc i.one.op j i.one.args W (E.below h) F.2.2.1
 obtain⟨X,r0,rfl,-⟩:=E;obtain⟨c,op,d⟩:=i;simp only at A J ⊢;subst J;have Q:Hid (Fe w base bs (m::r) v):=G;clear G F;go_enter func50,ntmps50;go_upto_region 2 with(go_at_call 76;refine(A _ blA).mono ?_;rintro e a ⟨u1,rfl,hown,s⟩;obtain⟨o,q,hu⟩:=Ac hown;subst hu;have M:Hid (a.ownsRow (w.heap.size+1) 34 3 (.slice o d.length q) d.length (Am d)):=yAd;clear hown)
 have D:Below w.heap.size w a:=blA;have T:w.heap.size<a.heap.size:=by have:=s.size;simp at this;omega
 obtain⟨W,l⟩:∃W,W=a.alloc (.cells #[.int .i64 1, .int .i64 op, .slice o d.length q, .slice none 0 0] 30):=⟨_,rfl⟩
 have z:Below a.heap.size a W:=by rw[l];exact Aa _ _
 have f:Below w.heap.size w W:=Dj D z;have k0:W.cell? ⟨w.heap.size,0,none⟩=some (.int .i64 6):=by
  rw[z.cell (p:=⟨w.heap.size,0,none⟩) T,s.cell (p:=⟨w.heap.size,0,none⟩) spz];simp[go_sem]
 have L:B4 W a.heap.size (.int .i64 1) (.int .i64 op) (.slice o d.length q) (.slice none 0 0):=by rw[l];exact Akh
 rw[<-l];clear l z D s M A;obtain⟨nZ,⟨o0,o1,o2,U⟩,_⟩:=L;have k:=Q.below f;obtain⟨b,N,rfl,rfl,Y,⟨K,R,O,S⟩,p,h4,x⟩:=k.link.cons;have y:=(Ee _ _ _).1 (k.oks m spz);obtain⟨pa,Z,C⟩:=Ac y.1;obtain⟨qa,da,I⟩:=Ac y.2.1;have P:=x.ptr;have B:Hid (∀t,Jm w ((W.alloc (.cells #[.int .i64 m.kind, .int .i64 m.op,m.av,m.kv] 30)).alloc (.cells #[.int .i64 4, .int .i64 0, .slice none 0 0, .slice (some ⟨W.heap.size,0,none⟩) 1 1,p] t)) base (Ib 6 ⟨op,d⟩ ((m::r).map Ah.net)) (.returned (.pointer (some ⟨W.heap.size+1,0,none⟩)))):=λt=>by
  refine⟨W.heap.size+1,N,Ax7 W.heap.size m::r,rfl,Awn k x (A9f H f.size) t,?_,(Be (Be f _) _).mono H⟩;rw[A9l,Aqy];rfl
 obtain⟨xk,fJ,eY,nP,kY,eX⟩:=m;simp only at C I K R O S B;subst C;subst I;clear y x k;have V:Hid (Below w.heap.size w W):=f;obtain rfl | ⟨pb,rfl⟩:=P
 all_goals
  go_upto_region 13 with fail
  go_region
  all_goals
   go_wp2
   go_ret;exact(B _).drew
theorem Aow (i:Stil.F7)(a:Value)(bs:List Nat)(b:List Ah)(v:Value)(base s:Nat)(w:World)(f:Fe w base bs b v)(c:A7 w a i.one.args)(d:i.fits)(h1:1<=i.code)(C:i.code<7)(j:Stil.needs i.code<=(b.length:Int))(A:A8r s (b.map Ah.net))(D:s<=800000)(g:base<=w.heap.size):
  Calls prog 50 #[v, .agg #[.int .i64 i.code, .int .i64 i.one.op,a]] w λe y=>Jm w y base (Ib i.code i.one (b.map Ah.net)) e:=by
 obtain⟨n,o⟩:=A;by_cases u:i.code=1
 ·exact Azf i a bs b v base w f c d u g
 ·cases b with
  | nil=>
   exfalso;rcases (by omega:i.code=2\/i.code=3\/i.code=4\/i.code=5\/i.code=6) with e | e | e | e | e<;>rw[e] at j<;>exact absurd j dcz
  | cons m r=>
   rw[A9l,Dv] at o;have q:=n m.net spz;by_cases x:i.code=2
   ·exact Aze i a bs m r v base w f c d x q omz g
   by_cases B:i.code=3
   ·exact Azd i a bs m r v base w f c d B q omz g
   by_cases t:i.code=6
   ·exact Aza i a bs m r v base w f c d t g
   cases r with
   | nil=>
    exfalso;rcases (by omega:i.code=4\/i.code=5) with e | e<;>rw[e] at j<;>exact absurd (show(2:Int)<=1 from j) dcz
   | cons k r=>
    rw[A9l,Dv] at o;have l:=n k.net spz;by_cases z:i.code=4
    ·exact Azc i a bs m k r v base w f c d z l omz g
    ·exact Azb i a bs m k r v base w f c d omz l omz g
end Go.Proofs.YtobbpffcggchmaaGreatDoor
