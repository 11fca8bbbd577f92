import Derived.Test.YtobbpffcggchmaaGreatDoorKc
import Derived.Test.YtobbpffcggchmaaGreatDoorS20
import Derived.Test.YtobbpffcggchmaaGreatDoorG5
import Derived.Deep.RegionHeld3
namespace Go.Proofs.YtobbpffcggchmaaGreatDoor
open Tryz
open Stil
open Go.RowKit Go.Sort Go.BigFrame
variable {base:Nat}{bs:List Nat}{v:Value}
structure Fe (w:World)(base:Nat)(bs:List Nat)(ms:List Ah)(v:Value):Prop where
 link:Kr w bs ms v
 oks:∀m∈ms,MOk w base m
 apart:(Bq ms).Pairwise Aside
 free:∀b∈bs,0<=b/\b<w.heap.size/\∀x∈Bq ms,x.ownBlock≠some b
theorem Fe.below {w w':World}{d:List Ah}(h:Fe w base bs d v)(a:Below w.heap.size w w'):Fe w' base bs d v:=
 ⟨h.link.below a,λm e=>(h.oks m e).below a,h.apart,λb c=>⟨(h.free b c).1,A82 (h.free b c).2.1 a.size,(h.free b c).2.2⟩⟩
theorem Fe.low {w:World}{b:List Ah}(h:Fe w base bs b v):∀x∈Bq b,∀q,x.ownBlock=some q->q<w.heap.size:=λx a q d=>by
 obtain⟨m,c,a⟩:=Jf.1 a;exact((h.oks m c).lt m x a q d).2
def Jm (w w':World)(base:Nat)(st:List Stil.Net)(e:Ending):Prop:=∃(b:Nat) (bs:List Nat) (a:List Ah),e=.returned (.pointer (some ⟨b,0,none⟩))/\Fe w' base (b::bs) a (.pointer (some ⟨b,0,none⟩))/\a.map Ah.net=st/\Below base w w'
theorem Fe.push {w:World}{d:List Ah}{m:Ah}{t:TypeId}(h:Fe w base bs d v)(g:I7 w base m)(k:(m.vals++Bq d).Pairwise Aside)(j:∀b∈bs,∀x∈m.vals,x.ownBlock≠some b)(_hb:base<=w.heap.size):
  Fe (w.alloc (.cells #[.int .i64 m.kind, .int .i64 m.op,m.av,m.kv,v] t)) base (w.heap.size::bs) (m::d) (.pointer (some ⟨w.heap.size,0,none⟩)):=by
 have f:=h.below (Aa w (.cells #[.int .i64 m.kind, .int .i64 m.op,m.av,m.kv,v] t));have e:Bq (m::d)=m.vals++Bq d:=by rw[<-Dt m,<-Cb];rfl
 refine⟨⟨rfl,spz,⟨by simp[go_sem],by simp[go_sem],by simp[go_sem],by simp[go_sem]⟩,v,by simp[go_sem],f.link⟩,λx a=>?_,by rw[e];exact k,λb c=>?_⟩
 ·rcases List.mem_cons.1 a with rfl | a
  ·exact g.1.below (Aa _ _)
  ·exact f.oks x a
 ·rcases List.mem_cons.1 c with rfl | c
  ·refine⟨Ban _,spz,λx a i=>?_⟩
   rw[e] at a;rcases List.mem_append.1 a with a | a
   ·have:=(g.1.lt m x a _ i).2;omega
   ·have:=h.low x a _ i;omega
  ·refine⟨(f.free b c).1,(f.free b c).2.1,λx a=>?_⟩
   rw[e] at a;rcases List.mem_append.1 a with a | a
   ·exact j b c x a
   ·exact(f.free b c).2.2 x a
set_option maxHeartbeats 4000000 in
set_option maxRecDepth 100000 in
theorem Azf (i:Stil.F7)(l:Value)(bs:List Nat)(j:List Ah)(v:Value)(base:Nat)(w:World)(D:Fe w base bs j v)(M:A7 w l i.one.args)(N:i.fits)(H:i.code=1)(O:base<=w.heap.size):
  Calls prog 50 #[v, .agg #[.int .i64 i.code, .int .i64 i.one.op,l]] w λe o=>Jm w o base (Ib i.code i.one (j.map Ah.net)) e:=by
 have G:Hid (∀W,Below w.heap.size w W->Calls prog 76 #[.agg #[.int .i64 i.one.op,l]] W λr o=>∃u,r=.returned (.agg #[.int .i64 i.one.op,u])/\o.ownsRow W.heap.size 34 3 u i.one.args.length (Am i.one.args)/\Below W.heap.size W o):=λW h=>Oc i.one.op l i.one.args W (M.below h) N.2.2.1
 obtain⟨Y,r0,rfl,-⟩:=M;obtain⟨c,op,a⟩:=i;simp only at G H ⊢;subst H;have B:Hid (Fe w base bs j v):=D;have Q:=D.link.ptr;clear D N;go_enter func50,ntmps50;go_upto_region 2 with(go_at_call 76;refine(G _ blA).mono ?_;rintro e g ⟨Z,rfl,hown,A⟩;obtain⟨d,f,hu⟩:=Ac hown;subst hu;have C:Hid (g.ownsRow (w.heap.size+1) 34 3 (.slice d a.length f) a.length (Am a)):=yAd;clear hown)
 have J:Below w.heap.size w g:=blA;have V:w.heap.size<g.heap.size:=by have:=A.size;simp at this;omega
 obtain⟨W,z⟩:∃W,W=g.alloc (.cells #[.int .i64 1, .int .i64 op, .slice d a.length f, .slice none 0 0] 30):=⟨_,rfl⟩
 have s:Below g.heap.size g W:=by rw[z];exact Aa _ _
 have F:Below w.heap.size w W:=Dj J s;have K:Hid (I7 W base (Vd op a d f)):=((Ii C.out).le omz).below s;have L:Hid (∀x∈(Vd op a d f).vals,∀q,x.ownBlock=some q->w.heap.size<q):=λx k q E=>by
  have:=(MOk.lt _ (Ii (op:=op) C.out).1 x k q E).1
  omega
 have k0:W.cell? ⟨w.heap.size,0,none⟩=some (.int .i64 1):=by
  rw[s.cell (p:=⟨w.heap.size,0,none⟩) V,A.cell (p:=⟨w.heap.size,0,none⟩) spz];simp[go_sem]
 have S:B4 W g.heap.size (.int .i64 1) (.int .i64 op) (.slice d a.length f) (.slice none 0 0):=by rw[z];exact Akh
 rw[<-z];clear z s J A C G;obtain⟨_,⟨o0,o1,o2,X⟩,_⟩:=S;have I:Hid (∀t,Jm w (W.alloc (.cells #[.int .i64 1, .int .i64 op, .slice d a.length f, .slice none 0 0,v] t)) base (Ib 1 ⟨op,a⟩ (j.map Ah.net)) (.returned (.pointer (some ⟨W.heap.size,0,none⟩)))):=λt=>by
  have P:=B.below F
  have U:=P.push (m:=Vd op a d f) (t:=t) K (by
   rw[A9q]
   refine⟨K.2,P.apart,λx k y R=>(Eg (n:=w.heap.size) (B.low y R) (λq E=>by have:=L x k q E;omega)).symm⟩) (λb T x k e=>by have:=L x k _ e;have:=(B.free b T).2.1;omega) (A9f O F.size)
  refine⟨W.heap.size,bs,Vd op a d f::j,rfl,U,?_,(Be F _).mono O⟩;rw[A9l,P8];rfl
 obtain rfl | ⟨vb,rfl⟩:=Q
 ·go_wp2
  go_ret;exact I _
 ·go_wp2
  go_ret;exact I _
end Go.Proofs.YtobbpffcggchmaaGreatDoor
set_option maxHeartbeats 4000000
set_option maxRecDepth 100000
namespace Go.Proofs.YtobbpffcggchmaaGreatDoor
open Tryz
open Stil
open Go.RowKit Go.Sort Go.BigFrame
variable {W:World}
theorem Aw {a:Addr}:W.drew.cell? a=W.cell? a:=rfl
theorem Aq {ob:Obj}{c p:Nat}(h:c<W.heap.size):(W.alloc ob).cell? ⟨c,p,none⟩=W.cell? ⟨c,p,none⟩:=(Aa W ob).cell (p:=⟨c,p,none⟩) h
theorem Dx (m:Ah)(a:List Ah):Bq (m::a)=m.vals++Bq a:=by rw[<-Dt m,<-Cb];rfl
theorem Aqa {V k:World}{base lo b:Nat}{bs:List Nat}{m one M:Ah}{r:List Ah}{v p:Value}(f:Fe V base (b::bs) (m::r) v)(s:∀x∈Bq (m::r),∀q,x.ownBlock=some q->q<lo)(B:∀c∈bs,c<lo)(t:∀x∈one.vals,∀q,x.ownBlock=some q->lo<=q)(C:lo<=V.heap.size)(hg:V.grownBy k m.kv.ownBlock)(A:I7 k base M)(w:∀x∈M.vals,x∈m.vals++one.vals\/x.ownBlock=m.kv.ownBlock\/∀q,x.ownBlock=some q->V.heap.size<=q)(D:Kr V bs r p):
  Fe k base bs r p/\(M.vals++Bq r).Pairwise Aside/\∀c∈bs,∀x∈M.vals,x.ownBlock≠some c:=by
 have j:m.kv∈m.vals:=by rw[Ah.vals_eq];simp
 have g:=f.apart;rw[Dx,A9q] at g;have l:∀x∈m.vals,x∈Bq (m::r):=λx a=>by rw[Dx];exact A9e _ a
 have o:∀x∈Bq r,x∈Bq (m::r):=λx a=>by rw[Dx];exact A9b _ a
 refine⟨⟨D.kept hg (λc d=>(f.free c (A87 _ d)).2.2 _ (l _ j)),λx a=>(f.oks x (A87 _ a)).kept hg (λu hu=>(g.2.2 _ j u (Jf.2 ⟨x,a,hu⟩)).symm),g.2.1,λc d=>⟨(f.free c (A87 _ d)).1,A82 (f.free c (A87 _ d)).2.1 hg.size,λx a=>(f.free c (A87 _ d)).2.2 x (o x a)⟩⟩,?_,λc d x a e=>?_⟩
 ·rw[A9q]
  refine⟨A.2,g.2.1,λx a y i=>?_⟩;rcases w x a with h | h | h
  ·rcases List.mem_append.1 h with h | h
   ·exact g.2.2 x h y i
   ·exact(Eg (n:=lo) (s y (o y i)) (t x h)).symm
  ·have z:=g.2.2 _ j y i
   unfold Aside at z ⊢;rw[h];exact z
  ·exact(Eg (n:=lo) (s y (o y i)) (λq E=>A9f C (h q E))).symm
 ·have F:=B c d
  rcases w x a with h | h | h
  ·rcases List.mem_append.1 h with h | h
   ·exact(f.free c (A87 _ d)).2.2 x (l x h) e
   ·have:=t x h _ e;omega
  ·rw[h] at e
   exact(f.free c (A87 _ d)).2.2 _ (l _ j) e
  ·have:=h _ e;omega
theorem zm0 {p:Prop}(h:p:=by
 have hB:Below base w V:=(hBW.trans (h.mono hBW.size)).mono hbase
 exact(hB.trans ((Below.refl _ _).grown hg hbs (λk hk=>((hSW.oks m spz).lt m _ hkv k hk).1))).trans ((Aa w2 _).mono (A9f hbs hg.size))):p:=h
theorem zv0 {p:Prop}(h:p:=by
 rw[A9q]
 exact⟨hmp,qJ.2,λx hx y hy=>Eg (n:=w.heap.size) (dJ x (hmem x hx)) (λq hq=>by have:=jS y hy q hq;omega)⟩):p:=h
theorem Aze (i:Stil.F7)(Q:Value)(bs:List Nat)(m:Ah)(r:List Ah)(v:Value)(base:Nat)(w:World)(ao:Fe w base bs (m::r) v)(ai:A7 w Q i.one.args)(hf:i.fits)(ak:i.code=2)(aa:As1 m.net)(ar:Aj m.net<=800000)(hbase:base<=w.heap.size):
  Calls prog 50 #[v, .agg #[.int .i64 i.code, .int .i64 i.one.op,Q]] w λe C=>Jm w C base (Ib i.code i.one ((m::r).map Ah.net)) e:=by
 have bK:Hid (∀W,Below w.heap.size w W->Calls prog 76 #[.agg #[.int .i64 i.one.op,Q]] W λr C=>∃u,r=.returned (.agg #[.int .i64 i.one.op,u])/\C.ownsRow W.heap.size 34 3 u i.one.args.length (Am i.one.args)/\Below W.heap.size W C):=λW h=>Oc i.one.op Q i.one.args W (ai.below h) hf.2.2.1
 obtain⟨p0,r0,rfl,-⟩:=ai;obtain⟨c,op,g⟩:=i;simp only at bK ak ⊢;subst ak;have HS:Hid (Fe w base bs (m::r) v):=ao;clear ao hf;go_enter func50,ntmps50;go_upto_region 2 with(go_at_call 76;refine(bK _ blA).mono ?_;rintro e a ⟨u1,rfl,hown,ab⟩;obtain⟨j,l,hu⟩:=Ac hown;subst hu;have X:Hid (a.ownsRow (w.heap.size+1) 34 3 (.slice j g.length l) g.length (Am g)):=yAd;clear hown)
 have an:Below w.heap.size w a:=blA;have au:w.heap.size<a.heap.size:=by have:=ab.size;simp at this;omega
 obtain⟨W,N⟩:∃W,W=a.alloc (.cells #[.int .i64 1, .int .i64 op, .slice j g.length l, .slice none 0 0] 30):=⟨_,rfl⟩
 have R:Below a.heap.size a W:=by rw[N];exact Aa _ _
 have hBW:Below w.heap.size w W:=Dj an R;have qJ:Hid (I7 W base (Vd op g j l)):=((Ii X.out).le omz).below R;have jS:Hid (∀x∈(Vd op g j l).vals,∀q,x.ownBlock=some q->w.heap.size<q):=λx hx q hq=>by
  have:=(MOk.lt _ (Ii (op:=op) X.out).1 x hx q hq).1
  omega
 have k0:W.cell? ⟨w.heap.size,0,none⟩=some (.int .i64 2):=by
  rw[R.cell (p:=⟨w.heap.size,0,none⟩) au,ab.cell (p:=⟨w.heap.size,0,none⟩) spz];simp[go_sem]
 have bx:B4 W a.heap.size (.int .i64 1) (.int .i64 op) (.slice j g.length l) (.slice none 0 0):=by rw[N];exact Akh
 rw[<-N];clear N R an ab X bK;obtain⟨nZ,⟨Y,o1,o2,o3⟩,_⟩:=bx;have hSW:=HS.below hBW;obtain⟨b,aw,rfl,rfl,ae,⟨h0,S,P,O⟩,p,h4,af⟩:=hSW.link.cons;have ag:=(Ee _ _ _).1 (hSW.oks m spz);obtain⟨pa,ca,ah⟩:=Ac ag.1;obtain⟨qa,da,aj⟩:=Ac ag.2.1;have ap:=af.ptr;have hmp:m.vals.Pairwise Aside:=by
  have:=hSW.apart
  rw[Dx] at this;exact(List.pairwise_append.1 this).1
 have dJ:∀x∈Bq (m::r),∀q,x.ownBlock=some q->q<w.heap.size:=HS.low;have hkv:m.kv∈m.vals:=by rw[Ah.vals_eq];simp
 have hmem:∀x∈m.vals,x∈Bq (m::r):=λx hx=>by rw[Dx];exact A9e _ hx
 have al:m.kv.ownBlock≠some b:=(hSW.free b spz).2.2 _ (hmem _ hkv);have Z:a.heap.size<W.heap.size:=nZ;have lT:m.kv.ownBlock≠some a.heap.size:=λe=>by have:=dJ _ (hmem _ hkv) _ e;omega
 have T:Hid (∀V,Below W.heap.size W V->Calls prog 77 #[.int .i64 2, .agg #[.int .i64 m.kind, .int .i64 m.op,m.av,m.kv], .agg #[.int .i64 1, .int .i64 op, .slice j g.length l, .slice none 0 0]] V λe C=>Am8 V C base (m.vals++(Vd op g j l).vals) m.kv.ownBlock (Ff 2 m.net (D6 ⟨op,g⟩)) e):=λV h=>by
  have ac:=hSW.below h;rw[<-P8 op g j l];refine X3 2 m (Vd op g j l) base V ⟨ac.oks m spz,hmp⟩ (qJ.below h) ?_ (by rw[P8,Qn];omega) aa.1 (λh0=>?_) (A9f hbase (A9f hBW.size h.size))
  ·exact zv0
  ·exact aa.2 yDh
 have U:Hid (∀(V w2:World) (M:Ah) (t:TypeId),Below W.heap.size W V->V.grownBy w2 m.kv.ownBlock->I7 w2 base M->M.net=Ff 2 m.net (D6 ⟨op,g⟩)->(∀x∈M.vals,x∈m.vals++(Vd op g j l).vals\/x.ownBlock=m.kv.ownBlock\/∀q,x.ownBlock=some q->V.heap.size<=q)->Jm w (w2.alloc (.cells #[.int .i64 M.kind, .int .i64 M.op,M.av,M.kv,p] t)) base (Ib 2 ⟨op,g⟩ ((m::r).map Ah.net)) (.returned (.pointer (some ⟨w2.heap.size,0,none⟩)))):=λV w2 M t h hg hM hn hv=>by
  have ac:=hSW.below h;obtain⟨q1,q2,q3⟩:=Aqa (lo:=w.heap.size) ac dJ (λc hc=>(HS.free c (A87 _ hc)).2.1) (λx hx q hq=>by have:=jS x hx q hq;omega) (A9f hBW.size h.size) hg hM hv (af.below h);have hbs:base<=V.heap.size:=A9f hbase (A9f hBW.size h.size);refine⟨w2.heap.size,aw,M::r,rfl,q1.push hM q2 q3 (A9f hbs hg.size),?_,?_⟩
  ·rw[A9l,hn]
   rfl
  ·exact zm0
 have bW:Hid (∀V w2:World,Below W.heap.size W V->V.grownBy w2 m.kv.ownBlock->(b<w2.heap.size/\a.heap.size<w2.heap.size)/\w2.cell? ⟨b,0,none⟩=some (.int .i64 m.kind)/\w2.cell? ⟨b,1,none⟩=some (.int .i64 m.op)/\w2.cell? ⟨b,2,none⟩=some m.av/\w2.cell? ⟨b,3,none⟩=some m.kv/\w2.cell? ⟨b,4,none⟩=some p/\w2.cell? ⟨a.heap.size,0,none⟩=some (.int .i64 1)/\w2.cell? ⟨a.heap.size,1,none⟩=some (.int .i64 op)/\w2.cell? ⟨a.heap.size,2,none⟩=some (.slice j g.length l)/\w2.cell? ⟨a.heap.size,3,none⟩=some (.slice none 0 0)):=λV w2 h hg=>by
  have hx:∀o u,W.cell? ⟨b,o,none⟩=some u->w2.cell? ⟨b,o,none⟩=some u:=λo u e=>(A8 hg (A82 ae h.size) al).trans ((h.cell ae).trans e)
  have hy:∀o u,W.cell? ⟨a.heap.size,o,none⟩=some u->w2.cell? ⟨a.heap.size,o,none⟩=some u:=λo u e=>(A8 hg (A82 Z h.size) lT).trans ((h.cell Z).trans e)
  exact⟨⟨A82 ae (A9f h.size hg.size),A82 Z (A9f h.size hg.size)⟩,hx _ _ h0,hx _ _ S,hx _ _ P,hx _ _ O,hx _ _ h4,hy _ _ Y,hy _ _ o1,hy _ _ o2,hy _ _ o3⟩
 obtain⟨xk,fJ,eY,nP,kY,eX⟩:=m;simp only at ah aj h0 S P O T bW U;subst ah;subst aj;clear ag hmp dJ hkv hmem af hSW aa ar al lT;have ax:Hid (Below w.heap.size w W):=hBW;obtain rfl | ⟨pb,rfl⟩:=ap
 ·go_upto_region 6 with fail
  go_region_held3 (λd=>(d.cell? ⟨b,0,none⟩=some (.int .i64 xk)/\d.cell? ⟨b,1,none⟩=some (.int .i64 fJ)/\d.cell? ⟨b,2,none⟩=some (.slice pa eY.length ca)/\d.cell? ⟨b,3,none⟩=some (.slice qa eX.length da)/\d.cell? ⟨b,4,none⟩=some (.pointer none)/\d.cell? ⟨a.heap.size,0,none⟩=some (.int .i64 1)/\d.cell? ⟨a.heap.size,1,none⟩=some (.int .i64 op)/\d.cell? ⟨a.heap.size,2,none⟩=some (.slice j g.length l)/\d.cell? ⟨a.heap.size,3,none⟩=some (.slice none 0 0))) (first | with_reducible assumption | with_reducible exact⟨Aw.trans h0,Aw.trans S,Aw.trans P,Aw.trans O,Aw.trans h4,Aw.trans Y,Aw.trans o1,Aw.trans o2,Aw.trans o3⟩ | with_reducible exact⟨(Aq s).trans f.1,(Aq s).trans f.2.1,(Aq s).trans f.2.2.1,(Aq s).trans f.2.2.2.1,(Aq s).trans f.2.2.2.2.1,(Aq z).trans f.2.2.2.2.2.1,(Aq z).trans f.2.2.2.2.2.2.1,(Aq z).trans f.2.2.2.2.2.2.2.1,(Aq z).trans f.2.2.2.2.2.2.2.2⟩ | skip) (first | (go_at_call 77;refine(T.out _ yAc).mono ?_;rintro e w2 ⟨F,G,A,I,K,H,E,B,rfl,L,J,D,hg⟩;have jT:Hid (∀t,Jm w (w2.alloc (.cells #[.int .i64 F, .int .i64 G, .slice I A.length K, .slice H B.length E,_] t)) base _ (.returned (.pointer (some ⟨w2.heap.size,0,none⟩)))):=(λt=>U.out _ w2 (Ah.mk F G A (.slice I A.length K) (.slice H B.length E) B) t yAc hg L J D);obtain⟨⟨s,z⟩,f⟩:=bW.out _ w2 yAc hg;clear L J D hg))
  all_goals
   go_wp2
   go_ret;exact jT _
 ·go_upto_region 6 with fail
  go_region_held3 (λd=>(d.cell? ⟨b,0,none⟩=some (.int .i64 xk)/\d.cell? ⟨b,1,none⟩=some (.int .i64 fJ)/\d.cell? ⟨b,2,none⟩=some (.slice pa eY.length ca)/\d.cell? ⟨b,3,none⟩=some (.slice qa eX.length da)/\d.cell? ⟨b,4,none⟩=some (.pointer (some ⟨pb,0,none⟩))/\d.cell? ⟨a.heap.size,0,none⟩=some (.int .i64 1)/\d.cell? ⟨a.heap.size,1,none⟩=some (.int .i64 op)/\d.cell? ⟨a.heap.size,2,none⟩=some (.slice j g.length l)/\d.cell? ⟨a.heap.size,3,none⟩=some (.slice none 0 0))) (first | with_reducible assumption | with_reducible exact⟨Aw.trans h0,Aw.trans S,Aw.trans P,Aw.trans O,Aw.trans h4,Aw.trans Y,Aw.trans o1,Aw.trans o2,Aw.trans o3⟩ | with_reducible exact⟨(Aq s).trans f.1,(Aq s).trans f.2.1,(Aq s).trans f.2.2.1,(Aq s).trans f.2.2.2.1,(Aq s).trans f.2.2.2.2.1,(Aq z).trans f.2.2.2.2.2.1,(Aq z).trans f.2.2.2.2.2.2.1,(Aq z).trans f.2.2.2.2.2.2.2.1,(Aq z).trans f.2.2.2.2.2.2.2.2⟩ | skip) (first | (go_at_call 77;refine(T.out _ yAc).mono ?_;rintro e w2 ⟨F,G,A,I,K,H,E,B,rfl,L,J,D,hg⟩;have jT:Hid (∀t,Jm w (w2.alloc (.cells #[.int .i64 F, .int .i64 G, .slice I A.length K, .slice H B.length E,_] t)) base _ (.returned (.pointer (some ⟨w2.heap.size,0,none⟩)))):=(λt=>U.out _ w2 (Ah.mk F G A (.slice I A.length K) (.slice H B.length E) B) t yAc hg L J D);obtain⟨⟨s,z⟩,f⟩:=bW.out _ w2 yAc hg;clear L J D hg))
  all_goals
   go_wp2
   go_ret;exact jT _
theorem Azd (i:Stil.F7)(Q:Value)(bs:List Nat)(m:Ah)(r:List Ah)(v:Value)(base:Nat)(w:World)(ao:Fe w base bs (m::r) v)(ai:A7 w Q i.one.args)(hf:i.fits)(ak:i.code=3)(aa:As1 m.net)(ar:Aj m.net<=800000)(hbase:base<=w.heap.size):
  Calls prog 50 #[v, .agg #[.int .i64 i.code, .int .i64 i.one.op,Q]] w λe C=>Jm w C base (Ib i.code i.one ((m::r).map Ah.net)) e:=by
 have bK:Hid (∀W,Below w.heap.size w W->Calls prog 76 #[.agg #[.int .i64 i.one.op,Q]] W λr C=>∃u,r=.returned (.agg #[.int .i64 i.one.op,u])/\C.ownsRow W.heap.size 34 3 u i.one.args.length (Am i.one.args)/\Below W.heap.size W C):=λW h=>Oc i.one.op Q i.one.args W (ai.below h) hf.2.2.1
 obtain⟨p0,r0,rfl,-⟩:=ai;obtain⟨c,op,g⟩:=i;simp only at bK ak ⊢;subst ak;have HS:Hid (Fe w base bs (m::r) v):=ao;clear ao hf;go_enter func50,ntmps50;go_upto_region 2 with(go_at_call 76;refine(bK _ blA).mono ?_;rintro e a ⟨u1,rfl,hown,ab⟩;obtain⟨j,l,hu⟩:=Ac hown;subst hu;have X:Hid (a.ownsRow (w.heap.size+1) 34 3 (.slice j g.length l) g.length (Am g)):=yAd;clear hown)
 have an:Below w.heap.size w a:=blA;have au:w.heap.size<a.heap.size:=by have:=ab.size;simp at this;omega
 obtain⟨W,N⟩:∃W,W=a.alloc (.cells #[.int .i64 1, .int .i64 op, .slice j g.length l, .slice none 0 0] 30):=⟨_,rfl⟩
 have R:Below a.heap.size a W:=by rw[N];exact Aa _ _
 have hBW:Below w.heap.size w W:=Dj an R;have qJ:Hid (I7 W base (Vd op g j l)):=((Ii X.out).le omz).below R;have jS:Hid (∀x∈(Vd op g j l).vals,∀q,x.ownBlock=some q->w.heap.size<q):=λx hx q hq=>by
  have:=(MOk.lt _ (Ii (op:=op) X.out).1 x hx q hq).1
  omega
 have k0:W.cell? ⟨w.heap.size,0,none⟩=some (.int .i64 3):=by
  rw[R.cell (p:=⟨w.heap.size,0,none⟩) au,ab.cell (p:=⟨w.heap.size,0,none⟩) spz];simp[go_sem]
 have bx:B4 W a.heap.size (.int .i64 1) (.int .i64 op) (.slice j g.length l) (.slice none 0 0):=by rw[N];exact Akh
 rw[<-N];clear N R an ab X bK;obtain⟨nZ,⟨Y,o1,o2,o3⟩,_⟩:=bx;have hSW:=HS.below hBW;obtain⟨b,aw,rfl,rfl,ae,⟨h0,S,P,O⟩,p,h4,af⟩:=hSW.link.cons;have ag:=(Ee _ _ _).1 (hSW.oks m spz);obtain⟨pa,ca,ah⟩:=Ac ag.1;obtain⟨qa,da,aj⟩:=Ac ag.2.1;have ap:=af.ptr;have hmp:m.vals.Pairwise Aside:=by
  have:=hSW.apart
  rw[Dx] at this;exact(List.pairwise_append.1 this).1
 have dJ:∀x∈Bq (m::r),∀q,x.ownBlock=some q->q<w.heap.size:=HS.low;have hkv:m.kv∈m.vals:=by rw[Ah.vals_eq];simp
 have hmem:∀x∈m.vals,x∈Bq (m::r):=λx hx=>by rw[Dx];exact A9e _ hx
 have al:m.kv.ownBlock≠some b:=(hSW.free b spz).2.2 _ (hmem _ hkv);have Z:a.heap.size<W.heap.size:=nZ;have lT:m.kv.ownBlock≠some a.heap.size:=λe=>by have:=dJ _ (hmem _ hkv) _ e;omega
 have T:Hid (∀V,Below W.heap.size W V->Calls prog 77 #[.int .i64 3, .agg #[.int .i64 m.kind, .int .i64 m.op,m.av,m.kv], .agg #[.int .i64 1, .int .i64 op, .slice j g.length l, .slice none 0 0]] V λe C=>Am8 V C base (m.vals++(Vd op g j l).vals) m.kv.ownBlock (Ff 3 m.net (D6 ⟨op,g⟩)) e):=λV h=>by
  have ac:=hSW.below h;rw[<-P8 op g j l];refine X3 3 m (Vd op g j l) base V ⟨ac.oks m spz,hmp⟩ (qJ.below h) ?_ (by rw[P8,Qn];omega) aa.1 (λh0=>?_) (A9f hbase (A9f hBW.size h.size))
  ·exact zv0
  ·exact aa.2 yDh
 have U:Hid (∀(V w2:World) (M:Ah) (t:TypeId),Below W.heap.size W V->V.grownBy w2 m.kv.ownBlock->I7 w2 base M->M.net=Ff 3 m.net (D6 ⟨op,g⟩)->(∀x∈M.vals,x∈m.vals++(Vd op g j l).vals\/x.ownBlock=m.kv.ownBlock\/∀q,x.ownBlock=some q->V.heap.size<=q)->Jm w (w2.alloc (.cells #[.int .i64 M.kind, .int .i64 M.op,M.av,M.kv,p] t)) base (Ib 3 ⟨op,g⟩ ((m::r).map Ah.net)) (.returned (.pointer (some ⟨w2.heap.size,0,none⟩)))):=λV w2 M t h hg hM hn hv=>by
  have ac:=hSW.below h;obtain⟨q1,q2,q3⟩:=Aqa (lo:=w.heap.size) ac dJ (λc hc=>(HS.free c (A87 _ hc)).2.1) (λx hx q hq=>by have:=jS x hx q hq;omega) (A9f hBW.size h.size) hg hM hv (af.below h);have hbs:base<=V.heap.size:=A9f hbase (A9f hBW.size h.size);refine⟨w2.heap.size,aw,M::r,rfl,q1.push hM q2 q3 (A9f hbs hg.size),?_,?_⟩
  ·rw[A9l,hn]
   rfl
  ·exact zm0
 have bW:Hid (∀V w2:World,Below W.heap.size W V->V.grownBy w2 m.kv.ownBlock->(b<w2.heap.size/\a.heap.size<w2.heap.size)/\w2.cell? ⟨b,0,none⟩=some (.int .i64 m.kind)/\w2.cell? ⟨b,1,none⟩=some (.int .i64 m.op)/\w2.cell? ⟨b,2,none⟩=some m.av/\w2.cell? ⟨b,3,none⟩=some m.kv/\w2.cell? ⟨b,4,none⟩=some p/\w2.cell? ⟨a.heap.size,0,none⟩=some (.int .i64 1)/\w2.cell? ⟨a.heap.size,1,none⟩=some (.int .i64 op)/\w2.cell? ⟨a.heap.size,2,none⟩=some (.slice j g.length l)/\w2.cell? ⟨a.heap.size,3,none⟩=some (.slice none 0 0)):=λV w2 h hg=>by
  have hx:∀o u,W.cell? ⟨b,o,none⟩=some u->w2.cell? ⟨b,o,none⟩=some u:=λo u e=>(A8 hg (A82 ae h.size) al).trans ((h.cell ae).trans e)
  have hy:∀o u,W.cell? ⟨a.heap.size,o,none⟩=some u->w2.cell? ⟨a.heap.size,o,none⟩=some u:=λo u e=>(A8 hg (A82 Z h.size) lT).trans ((h.cell Z).trans e)
  exact⟨⟨A82 ae (A9f h.size hg.size),A82 Z (A9f h.size hg.size)⟩,hx _ _ h0,hx _ _ S,hx _ _ P,hx _ _ O,hx _ _ h4,hy _ _ Y,hy _ _ o1,hy _ _ o2,hy _ _ o3⟩
 obtain⟨xk,fJ,eY,nP,kY,eX⟩:=m;simp only at ah aj h0 S P O T bW U;subst ah;subst aj;clear ag hmp dJ hkv hmem af hSW aa ar al lT;have ax:Hid (Below w.heap.size w W):=hBW;obtain rfl | ⟨pb,rfl⟩:=ap
 ·go_upto_region 8 with fail
  go_region_held3 (λd=>(d.cell? ⟨b,0,none⟩=some (.int .i64 xk)/\d.cell? ⟨b,1,none⟩=some (.int .i64 fJ)/\d.cell? ⟨b,2,none⟩=some (.slice pa eY.length ca)/\d.cell? ⟨b,3,none⟩=some (.slice qa eX.length da)/\d.cell? ⟨b,4,none⟩=some (.pointer none)/\d.cell? ⟨a.heap.size,0,none⟩=some (.int .i64 1)/\d.cell? ⟨a.heap.size,1,none⟩=some (.int .i64 op)/\d.cell? ⟨a.heap.size,2,none⟩=some (.slice j g.length l)/\d.cell? ⟨a.heap.size,3,none⟩=some (.slice none 0 0))) (first | with_reducible assumption | with_reducible exact⟨Aw.trans h0,Aw.trans S,Aw.trans P,Aw.trans O,Aw.trans h4,Aw.trans Y,Aw.trans o1,Aw.trans o2,Aw.trans o3⟩ | with_reducible exact⟨(Aq s).trans f.1,(Aq s).trans f.2.1,(Aq s).trans f.2.2.1,(Aq s).trans f.2.2.2.1,(Aq s).trans f.2.2.2.2.1,(Aq z).trans f.2.2.2.2.2.1,(Aq z).trans f.2.2.2.2.2.2.1,(Aq z).trans f.2.2.2.2.2.2.2.1,(Aq z).trans f.2.2.2.2.2.2.2.2⟩ | skip) (first | (go_at_call 77;refine(T.out _ yAc).mono ?_;rintro e w2 ⟨F,G,A,I,K,H,E,B,rfl,L,J,D,hg⟩;have jT:Hid (∀t,Jm w (w2.alloc (.cells #[.int .i64 F, .int .i64 G, .slice I A.length K, .slice H B.length E,_] t)) base _ (.returned (.pointer (some ⟨w2.heap.size,0,none⟩)))):=(λt=>U.out _ w2 (Ah.mk F G A (.slice I A.length K) (.slice H B.length E) B) t yAc hg L J D);obtain⟨⟨s,z⟩,f⟩:=bW.out _ w2 yAc hg;clear L J D hg))
  all_goals
   go_wp2
   go_ret;exact jT _
 ·go_upto_region 8 with fail
  go_region_held3 (λd=>(d.cell? ⟨b,0,none⟩=some (.int .i64 xk)/\d.cell? ⟨b,1,none⟩=some (.int .i64 fJ)/\d.cell? ⟨b,2,none⟩=some (.slice pa eY.length ca)/\d.cell? ⟨b,3,none⟩=some (.slice qa eX.length da)/\d.cell? ⟨b,4,none⟩=some (.pointer (some ⟨pb,0,none⟩))/\d.cell? ⟨a.heap.size,0,none⟩=some (.int .i64 1)/\d.cell? ⟨a.heap.size,1,none⟩=some (.int .i64 op)/\d.cell? ⟨a.heap.size,2,none⟩=some (.slice j g.length l)/\d.cell? ⟨a.heap.size,3,none⟩=some (.slice none 0 0))) (first | with_reducible assumption | with_reducible exact⟨Aw.trans h0,Aw.trans S,Aw.trans P,Aw.trans O,Aw.trans h4,Aw.trans Y,Aw.trans o1,Aw.trans o2,Aw.trans o3⟩ | with_reducible exact⟨(Aq s).trans f.1,(Aq s).trans f.2.1,(Aq s).trans f.2.2.1,(Aq s).trans f.2.2.2.1,(Aq s).trans f.2.2.2.2.1,(Aq z).trans f.2.2.2.2.2.1,(Aq z).trans f.2.2.2.2.2.2.1,(Aq z).trans f.2.2.2.2.2.2.2.1,(Aq z).trans f.2.2.2.2.2.2.2.2⟩ | skip) (first | (go_at_call 77;refine(T.out _ yAc).mono ?_;rintro e w2 ⟨F,G,A,I,K,H,E,B,rfl,L,J,D,hg⟩;have jT:Hid (∀t,Jm w (w2.alloc (.cells #[.int .i64 F, .int .i64 G, .slice I A.length K, .slice H B.length E,_] t)) base _ (.returned (.pointer (some ⟨w2.heap.size,0,none⟩)))):=(λt=>U.out _ w2 (Ah.mk F G A (.slice I A.length K) (.slice H B.length E) B) t yAc hg L J D);obtain⟨⟨s,z⟩,f⟩:=bW.out _ w2 yAc hg;clear L J D hg))
  all_goals
   go_wp2
   go_ret;exact jT _
end Go.Proofs.YtobbpffcggchmaaGreatDoor
