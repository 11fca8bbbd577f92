import Derived.Test.YtobbpffcggchmaaGreatDoorGp
import Derived.Test.YtobbpffcggchmaaGreatDoorGr
set_option maxHeartbeats 4000000
set_option maxRecDepth 100000
namespace Go.Proofs.YtobbpffcggchmaaGreatDoor
open Tryz
open Stil
open Go.RowKit Go.Sort Go.BigFrame
variable {base cap g:Nat}{k:Int}{u1 u2 u3 v v1 v2 v3 x:Value}
theorem Abz (e:Stil.Elem)(j:Value)(w:World)(q:A7 w j e.args)(G:e.args.length<=1048576):
  Calls prog 38 #[.agg #[.int .i64 e.op,j]] w λr t=>∃a c,r=.returned (.agg #[.int .i64 e.op, .slice a e.args.length c])/\t.ownsRow w.heap.size 34 3 (.slice a e.args.length c) e.args.length (Am e.args)/\Below w.heap.size w t:=by
 have C:=hid (λW (h:Below w.heap.size w W)=>q.below h);obtain⟨l,u,rfl,A⟩:=q;clear A;go_enter func38,ntmps38;go_upto_region 1 with fail
 obtain⟨W,b⟩:∃W,W=(w.alloc (.cells #[.int .i64 e.op, .slice l e.args.length u] 27)).alloc (.cells #[.int .i64 0, .slice none 0 0] 27):=⟨_,rfl⟩
 rw[<-b];have y:W.cell? ⟨w.heap.size,0,none⟩=some (.int .i64 e.op):=by rw[b];simp[go_sem]
 have q1:W.cell? ⟨w.heap.size,1,none⟩=some (.slice l e.args.length u):=by rw[b];simp[go_sem]
 have B:W.cell? ⟨w.heap.size+1,0,none⟩=some (.int .i64 0):=by rw[b];simp[go_sem]
 have J:W.cell? ⟨w.heap.size+1,1,none⟩=some (.slice none 0 0):=by rw[b];simp[go_sem]
 have v0:W.frozen? ⟨w.heap.size+1,0,none⟩=false:=by rw[b];simp[go_sem]
 have v1:W.frozen? ⟨w.heap.size+1,1,none⟩=false:=by rw[b];simp[go_sem]
 have m:W.heap.size=w.heap.size+2:=by rw[b];simp
 have f:Below w.heap.size w W:=by rw[b];exact Be (Aa _ _) _
 have dZ:=hid m;have R:w.heap.size<W.heap.size:=omz
 have K:w.heap.size+1<W.heap.size:=omz
 clear b m
 go_region_law (refine Acv rfl _ _ rfl (w.heap.size+2) _ e.args rfl (by exact(World.ownsRow_lit W #[] 0 (by have:=dZ.out;omega) yAe rfl).drew) _ _ rfl (C _ (by exact(Be f _).drew)) G (by have:=dZ.out;simp;omega) ?_;intro Q D i H;obtain⟨o,s,E⟩:=Ac i;subst E;have d:=(Aa W _).drew.grown H spz (λk I=>by cases I;exact A88 _);have O:w.heap.size+2<=D.heap.size:=(by have:=dZ.out;have:=d.size;omega);have L:=(d.cell (p:=⟨w.heap.size,0,none⟩) (by have:=dZ.out;show w.heap.size<W.heap.size;omega)).trans y;have P:=(d.cell (p:=⟨w.heap.size,1,none⟩) (by have:=dZ.out;show w.heap.size<W.heap.size;omega)).trans q1;have z:=(d.cell (p:=⟨w.heap.size+1,0,none⟩) yBe).trans B;have F:=(d.cell (p:=⟨w.heap.size+1,1,none⟩) yBe).trans J;have N:=(d.frozen (p:=⟨w.heap.size+1,0,none⟩) yBe).trans v0;have S:=(d.frozen (p:=⟨w.heap.size+1,1,none⟩) yBe).trans v1)
 all_goals
  try go_wp2
  refine bodyPost_ret (v:=.agg #[.int .i64 e.op, .slice o e.args.length s]) (by simp[results,results38,go_sem,z,F]) rfl ⟨o,s,rfl,?_,?_⟩
  ·refine Joins.ownsRow_le (base:=w.heap.size+2) ?_ omz
   repeat (refine ownsRow_setCell_below ?_ yAg _)
   exact i
  ·have M:=f.trans (d.mono f.size)
   exact blA
def Oi (k:Int)(m:Ah):List Ah:=if m.kind=k then m.kids else [m]
theorem P7 (k:Int)(m:Ah):(Oi k m).map Ah.net=Stil.opn k m.net:=by
 unfold Oi Stil.opn;rw[Ah.net_eq];split
 ·rfl
 ·rw[Ba0,Ah.net_eq]
theorem Nb {m:Ah}(h:x∈Bq (Oi k m)):x∈m.vals:=by
 unfold Oi at h;split at h
 ·rw[Ah.vals_eq];simp[h]
 ·rwa [Dt] at h
theorem Ax3 {w:World}{m:Ah}(h:MOk w base m):∀x∈Oi k m,MOk w base x:=by
 unfold Oi;split
 ·exact((Ee _ _ _).1 h).2.2
 ·intro x a
  rw[List.mem_singleton.1 a];exact h
theorem Aeh {m:Ah}(h:m.vals.Pairwise Aside):(Bq (Oi k m)).Pairwise Aside:=by
 unfold Oi;split
 ·rw[Ah.vals_eq,A9p,A9p] at h
  exact h.2.2
 ·rw[Dt];exact h
theorem A18 {a b:Ah}(h:(a.vals++b.vals).Pairwise Aside):(Bq (Oi k a)++Bq (Oi k b)).Pairwise Aside:=by
 rw[A9q] at h ⊢;exact⟨Aeh h.1,Aeh h.2.1,λx d y c=>h.2.2 x (Nb d) y (Nb c)⟩
theorem Gq.setO {w:World}{b:List Ah}(h:Gq w base v b){a:Addr}(c:∀x∈v::Bq b,x.ownBlock≠some a.block)(u:Value):Gq (w.setCell a u) base v b:=
 ⟨ownsRow_setCell_other h.1 (c _ spz) u,λm d=>MOk.map m (h.2.1 m d) (λ_ _ _ _ _ f e=>ownsRow_setCell_other e (c _ (A87 _ (Jf.2 ⟨m,d,f⟩))) u),h.2.2⟩
theorem Gq.setsO {w:World}{b3 b2:Nat}{u c:Value}{a:List Ah}(h:Gq w base v a)(d:∀x∈v::Bq a,x.ownBlock≠some b3)(b:∀x∈v::Bq a,x.ownBlock≠some b2):
  Gq (((((w.setCell ⟨b3,3,none⟩ u).setCell ⟨b2,0,none⟩ c).setCell ⟨b2,1,none⟩ u1).setCell ⟨b2,2,none⟩ u2).setCell ⟨b2,3,none⟩ u3) base v a:=
 ((((h.setO d _).setO b _).setO b _).setO b _).setO b _
theorem Akh {w:World}{v0:Value}{t:TypeId}:B4 (w.alloc (.cells #[v0,v1,v2,v3] t)) w.heap.size v0 v1 v2 v3:=
 ⟨spz,⟨by simp[go_sem],by simp[go_sem],by simp[go_sem],by simp[go_sem]⟩,by simp[go_sem],by simp[go_sem],by simp[go_sem],by simp[go_sem]⟩
theorem B4.al {w:World}{b:Nat}{v0:Value}(h:B4 w b v0 v1 v2 v3)(o:Obj):B4 (w.alloc o) b v0 v1 v2 v3:=h.below (Aa _ _) h.1
theorem A13 {a:List Ah}(h:(Bq a).Pairwise Aside)(b:v.ownBlock=none):(v::(Bq []++Bq a)).Pairwise Aside:=by
 rw[A9p];exact⟨λy _=>.inl b,by simpa[Bq] using h⟩
theorem cells_of_row {w:World}{s:Option Addr}{t:Nat}{a:List Ah}(hr:w.ownsRow base 30 4 (.slice s a.length t) a.length (Fp a)):0<a.length->∃p,s=some p/\∀j u,(Fp a)[j]?=some u->w.cell? (p.add j)=some u:=by
 intro d;obtain⟨g,c,b,_,_,_,e⟩:=Cf hr d;simp only[Value.slice.injEq] at b;exact⟨⟨g,0,none⟩,b.1,λj u hu=>by rw[Addr.add_lit];simpa using e j u hu⟩
theorem Uf {ops:Array Oper}{rest:List Oper}{o:Oper}{a:Act}{w:World}{Q:Exit->Act->World->Prop}
  (hg:o.guard=none) (s x:Operand) (t:o.op=.call {callee:=.builtin .append,args:=#[s,x],argTypes:=#[28,28]})
  (base lo:Nat) (b:List Ah) (ad:Option Addr) (c:Nat) (B:a.eval s=.slice none 0 0) (hx:a.eval x=.slice ad b.length c)
  (n:0<b.length->∃p,ad=some p/\∀j u,(Fp b)[j]?=some u->w.cell? (p.add j)=some u)
  (C:∀m∈b,MOk w base m) (y:(Bq b).Pairwise Aside) (hl:b.length<=1000000) (A:base<=w.heap.size) (r:lo<=w.heap.size)
  (h:∀f d e,Gq e base (.slice f b.length d) b->Below lo w e->(∀k,(Value.slice f b.length d).ownBlock=some k->lo<=k)->wpList prog ops Q rest (a.put o.dst (.slice f b.length d)) e):
  wpList prog ops Q (o::rest) a w:=by
 refine Ip hg s x t base lo none 0 [] b ad c B hx (Gq.nil _ _) n C (A13 y rfl) (by simpa using hl) A r (λq D=>by cases D) ?_;intro f d e i z l;simp only[A85,A9c,A9u] at i l ⊢;exact h f d e i z l
theorem zu0 {p:Prop}(h:p:=by
 exact gV.setsO (λx hx=>iE _ sJ x (by rw[<-Cb];exact hx) _ omz omz) (λx hx=>iE _ sJ x (by rw[<-Cb];exact hx) _ omz omz)):p:=h
theorem s_put (k:Int)(a b:Ah)(base:Nat)(w:World)(ha:MOk w base a)(hb:MOk w base b)(hp:(a.vals++b.vals).Pairwise Aside)(hs:Aj a.net+Aj b.net<=900000)(aV:base<=w.heap.size):
  Calls prog 88 #[.int .i64 k, .agg #[.int .i64 a.kind, .int .i64 a.op,a.av,a.kv], .agg #[.int .i64 b.kind, .int .i64 b.op,b.av,b.kv]] w λah w'=>∃(ra:Option Addr) (rc:Nat),ah=.returned (.agg #[.int .i64 k, .int .i64 0, .slice none 0 0, .slice ra ((Oi k a).length+(Oi k b).length) rc])/\Gq w' base (.slice ra ((Oi k a).length+(Oi k b).length) rc) (Oi k a++Oi k b)/\(∀q,(Value.slice ra ((Oi k a).length+(Oi k b).length) rc).ownBlock=some q->w.heap.size<=q)/\Below w.heap.size w w':=by
 have aw:=MOk.lt a ha;have au:=MOk.lt b hb;have ai:=(Ee _ _ _).1 ha;have ag:=(Ee _ _ _).1 hb;have aJ:=(List.pairwise_append.1 hp).1;have aN:=(List.pairwise_append.1 hp).2.1;have ao:(Oi k a).length+(Oi k b).length<=900000:=by
  have h1:=Qe k a.net;have h2:=Qe k b.net;have h3:=Fz (Stil.opn k a.net);have h4:=Fz (Stil.opn k b.net);rw[<-P7,A9j] at h3;rw[<-P7,A9j] at h4;rw[<-P7] at h1 h2;omega
 obtain⟨N,M,aG⟩:=Ac ai.1;obtain⟨H,I,aH⟩:=Ac ai.2.1;obtain⟨G,E,aB⟩:=Ac ag.1;obtain⟨u,z,aK⟩:=Ac ag.2.1;obtain⟨r,O,s,zO,zN,i⟩:=a;obtain⟨m,F,o,aW,aX,f⟩:=b;simp only at aG aH aB aK;subst aG;subst aH;subst aB;subst aK;simp only at ai ag;obtain⟨A,Q⟩:∃A,A=Ah.mk r O s (.slice N s.length M) (.slice H i.length I) i:=⟨_,rfl⟩
 obtain⟨B,S⟩:∃B,B=Ah.mk m F o (.slice G o.length E) (.slice u f.length z) f:=⟨_,rfl⟩
 rw[<-Q] at ha aw aJ hp ao;rw[<-S] at hb au aN hp ao;obtain⟨c,U⟩:∃ar,ar=Oi k A:=⟨_,rfl⟩
 obtain⟨e,R⟩:∃ar,ar=Oi k B:=⟨_,rfl⟩
 have wF:r=k->c=i:=λh=>by rw[U,Q];unfold Oi;rw[if_pos h]
 have iJ:r≠k->c=[A]:=λh=>by rw[U,Q];unfold Oi;rw[if_neg h]
 have wE:m=k->e=f:=λh=>by rw[R,S];unfold Oi;rw[if_pos h]
 have wC:m≠k->e=[B]:=λh=>by rw[R,S];unfold Oi;rw[if_neg h]
 have vV:∀x∈c,MOk w base x:=by rw[U];exact Ax3 ha
 have vU:∀x∈e,MOk w base x:=by rw[R];exact Ax3 hb
 have lI:(Bq c++Bq e).Pairwise Aside:=by rw[U,R];exact A18 hp
 have ap:∀x∈Bq c,∀q,x.ownBlock=some q->q<w.heap.size:=λx hx q y=>(aw x (Nb (by rw[<-U];exact hx)) q y).2
 have an:∀x∈Bq e,∀q,x.ownBlock=some q->q<w.heap.size:=λx hx q y=>(au x (Nb (by rw[<-R];exact hx)) q y).2
 have aF:Oi k (Ah.mk r O s (.slice N s.length M) (.slice H i.length I) i)=c:=by rw[U,Q]
 have aC:Oi k (Ah.mk m F o (.slice G o.length E) (.slice u f.length z) f)=e:=by rw[R,S]
 simp only[aF,aC];rw[<-U,<-R] at ao;have jA:Hid (c.length+e.length<=900000):=ao;have aD:Hid (∀W,Below w.heap.size w W->∀x∈c,MOk W base x):=λW h x hx=>(vV x hx).below h
 have ax:Hid (∀W,Below w.heap.size w W->∀x∈e,MOk W base x):=λW h x hx=>(vU x hx).below h
 have aO:Hid ((Bq c++Bq e).Pairwise Aside):=lI;have xP:Hid (∀x∈Bq c,∀q,x.ownBlock=some q->q<w.heap.size):=ap;have aT:Hid (∀x∈Bq e,∀q,x.ownBlock=some q->q<w.heap.size):=an;have xX:Hid (∀W,Below w.heap.size w W->0<i.length->∃p,H=some p/\∀ac ab,(Fp i)[ac]?=some ab->W.cell? (p.add ac)=some ab):=λW h=>cells_of_row (ownsRow_below ai.2.1 h)
 have xW:Hid (∀W,Below w.heap.size w W->0<f.length->∃p,u=some p/\∀ac ab,(Fp f)[ac]?=some ab->W.cell? (p.add ac)=some ab):=λW h=>cells_of_row (ownsRow_below ag.2.1 h)
 have aP:Hid (r=k->c=i):=wF;have nN:Hid (r≠k->c=[A]):=iJ;have yF:Hid (m=k->e=f):=wE;have aQ:Hid (m≠k->e=[B]):=wC;have aR:Hid (A=Ah.mk r O s (.slice N s.length M) (.slice H i.length I) i):=Q;have aS:Hid (B=Ah.mk m F o (.slice G o.length E) (.slice u f.length z) f):=S;have iE:Hid (∀(v:Value),(∀q,v.ownBlock=some q->w.heap.size+4<=q)->∀x∈v::(Bq c++Bq e),∀d,w.heap.size<=d->d<w.heap.size+4->x.ownBlock≠some d):=λv hv x hx d h1 h2 ah=>by
  rcases List.mem_cons.1 hx with rfl | hx
  ·have:=hv _ ah;omega
  ·rcases List.mem_append.1 hx with hx | hx
   ·have:=ap x hx _ ah;omega
   ·have:=an x hx _ ah;omega
 have aA:Hid (∀(v:Value),(∀q,v.ownBlock=some q->w.heap.size+4<=q)->(v::(Bq c++Bq e)).Pairwise Aside):=λv hv=>by
  rw[A9p];refine⟨λaM hy=>(Eg (n:=w.heap.size) (λq y=>?_) (λq y=>by have:=hv q y;omega)).symm,lI⟩;rcases List.mem_append.1 hy with hy | hy
  ·exact ap aM hy q y
  ·exact an aM hy q y
 clear aF aC wF iJ wE wC vV vU lI ap an Q S U R aw au ai ag aJ aN hp ha hb hs;go_enter func88,ntmps88;go_upto_if 13 with fail
 obtain⟨C,V⟩:∃W,W=((((w.alloc (.cells #[.int .i64 r, .int .i64 O, .slice N s.length M, .slice H i.length I] 30)).alloc (.cells #[.int .i64 m, .int .i64 F, .slice G o.length E, .slice u f.length z] 30)).alloc (.cells #[.int .i64 0, .int .i64 0, .slice none 0 0, .slice none 0 0] 30)).alloc (.cells #[.int .i64 k, .int .i64 0, .slice none 0 0, .slice none 0 0] 30)):=⟨_,rfl⟩
 have az:C.heap.size=w.heap.size+4:=by rw[V];simp
 have aa:Below w.heap.size w C:=by rw[V];exact Be (Be (Be (Aa _ _) _) _) _
 have b0:B4 C w.heap.size (.int .i64 r) (.int .i64 O) (.slice N s.length M) (.slice H i.length I):=by rw[V];exact((Akh.al _).al _).al _
 have b1:B4 C (w.heap.size+1) (.int .i64 m) (.int .i64 F) (.slice G o.length E) (.slice u f.length z):=by
  rw[V];have:=(((Akh (w:=w.alloc (.cells #[.int .i64 r, .int .i64 O, .slice N s.length M, .slice H i.length I] 30)) (v0:=.int .i64 m) (v1:=.int .i64 F) (v2:=.slice G o.length E) (v3:=.slice u f.length z) (t:=30)).al (.cells #[.int .i64 0, .int .i64 0, .slice none 0 0, .slice none 0 0] 30)).al (.cells #[.int .i64 k, .int .i64 0, .slice none 0 0, .slice none 0 0] 30))
  simpa using this
 have b2:B4 C (w.heap.size+2) (.int .i64 0) (.int .i64 0) (.slice none 0 0) (.slice none 0 0):=by
  rw[V];refine⟨spz,⟨by simp[go_sem],by simp[go_sem],by simp[go_sem],by simp[go_sem]⟩,by simp[go_sem],by simp[go_sem],by simp[go_sem],by simp[go_sem]⟩
 have b3:B4 C (w.heap.size+3) (.int .i64 k) (.int .i64 0) (.slice none 0 0) (.slice none 0 0):=by
  rw[V];refine⟨spz,⟨by simp[go_sem],by simp[go_sem],by simp[go_sem],by simp[go_sem]⟩,by simp[go_sem],by simp[go_sem],by simp[go_sem],by simp[go_sem]⟩
 have aE:Hid (B4 C (w.heap.size+1) (.int .i64 m) (.int .i64 F) (.slice G o.length E) (.slice u f.length z)):=b1;have aL:Hid (B4 C (w.heap.size+2) (.int .i64 0) (.int .i64 0) (.slice none 0 0) (.slice none 0 0)):=b2;have aj:Hid (B4 C (w.heap.size+3) (.int .i64 k) (.int .i64 0) (.slice none 0 0) (.slice none 0 0)):=b3;have zW:Hid (C.heap.size=w.heap.size+4):=az;rw[<-V];clear V b1 b2 az;obtain⟨_,⟨q0,q1,q2,q3⟩,_⟩:=b0;obtain⟨_,⟨t0,t1,t2,t3⟩,_,_,_,t4⟩:=b3;go_cut [] (λwc=>∃(j:Option Addr) (l:Nat),Gq wc base (.slice j c.length l) c/\(∀q,(Value.slice j c.length l).ownBlock=some q->w.heap.size+4<=q)/\B4 wc (w.heap.size+1) (.int .i64 m) (.int .i64 F) (.slice G o.length E) (.slice u f.length z)/\B4 wc (w.heap.size+2) (.int .i64 0) (.int .i64 0) (.slice none 0 0) (.slice none 0 0)/\B4 wc (w.heap.size+3) (.int .i64 k) (.int .i64 0) (.slice none 0 0) (.slice j c.length l)/\Below w.heap.size w wc)
 case first=>
  by_cases L:r=k
  ·have Z:=aP L
   subst L;subst Z
   go_wp2_with (at_builtin;refine Uf rfl _ _ rfl base (w.heap.size+4) c H I rfl rfl (xX _ aa) (aD _ aa) (List.pairwise_append.1 aO.out).1 yEg (by have:=zW.out;omega) (by have:=zW.out;omega) ?_;intro j l w5 P D T;obtain⟨_,⟨_,_,_,y3⟩,_,_,_,y4⟩:=aj.below D omz;have uk:Hid (Gq w5 base (.slice j c.length l) c):=P;have xY:Hid (∀q,(Value.slice j c.length l).ownBlock=some q->w.heap.size+4<=q):=T;clear P T)
   go_meet;refine⟨j,l,uk.setO (λx hx=>iE _ xY x yFa _ yAg yAg) _,xY.out,?_,?_,?_,?_⟩
   ·exact(aE.below D omz).setO omz _
   ·exact(aL.below D omz).setO omz _
   ·exact(aj.below D omz).set3 _
   ·exact(aa.trans (D.mono omz)).setCell yAg _
  ·have Z:=nN L
   have Q:=aR.out;subst Q;subst Z;have xG:(r==k)=false:=by rw[A95];exact L
   go_wp2_with (at_builtin;refine Uf rfl _ _ rfl base (w.heap.size+4) [Ah.mk r O s (.slice N s.length M) (.slice H i.length I) i] (some ⟨C.heap.size,0,none⟩) 1 rfl rfl (λ_=>⟨_,rfl,by exact cells4⟩) (aD _ (Be aa _)) (List.pairwise_append.1 aO.out).1 spz (by have:=zW.out;simp;omega) (by have:=zW.out;simp;omega) ?_;intro j l w5 P D T;obtain⟨_,⟨_,_,_,y3⟩,_,_,_,y4⟩:=(aj.al _).below D omz;have uk:Hid (Gq w5 base (.slice j 1 l) [Ah.mk r O s (.slice N s.length M) (.slice H i.length I) i]):=P;have xY:Hid (∀q,(Value.slice j 1 l).ownBlock=some q->w.heap.size+4<=q):=T;clear P T)
   go_meet;refine⟨j,l,uk.setO (λx hx=>iE _ xY x yFa _ yAg yAg) _,xY.out,?_,?_,?_,?_⟩
   ·exact((aE.al _).below D omz).setO omz _
   ·exact((aL.al _).below D omz).setO omz _
   ·exact((aj.al _).below D omz).set3 _
   ·exact((Be aa _).trans (D.mono omz)).setCell yAg _
 case rest=>
  clear q0 q1 q2 q3 t0 t1 t2 t3 t4 aa;obtain⟨j,l,P,T,b1,b2,b3,ae⟩:=hcut;have ay:Hid (Gq wc base (.slice j c.length l) c):=P;have zX:Hid (∀q,(Value.slice j c.length l).ownBlock=some q->w.heap.size+4<=q):=T;have aI:Hid (B4 wc (w.heap.size+2) (.int .i64 0) (.int .i64 0) (.slice none 0 0) (.slice none 0 0)):=b2;have sW:Hid (B4 wc (w.heap.size+3) (.int .i64 k) (.int .i64 0) (.slice none 0 0) (.slice j c.length l)):=b3;have aU:=b3.1;obtain⟨_,⟨q0,q1,q2,q3⟩,_⟩:=b1;obtain⟨_,⟨t0,t1,t2,t3⟩,_,_,_,t4⟩:=b3;clear P T b2;by_cases L:m=k
  ·have Z:=yF L
   subst L;subst Z
   go_wp2_with (at_builtin;refine Ip rfl _ _ rfl base (w.heap.size+4) j l c e u z rfl rfl ay (xW _ ae) (ax _ ae) (aA _ zX.out) yEg omz omz zX.out ?_;intro K J X pO Y af;have xO:Hid (B4 X (w.heap.size+2) (.int .i64 0) (.int .i64 0) (.slice none 0 0) (.slice none 0 0)):=aI.below Y omz;obtain⟨_,⟨y0,y1,y2,y3⟩,_,_,_,y4⟩:=sW.below Y omz;obtain⟨_,⟨x0,x1,x2,x3⟩,x4,x5,x6,x7⟩:=xO.out;have gV:Hid (Gq X base (.slice K (c.length+e.length) J) (c++e)):=pO;have sJ:Hid (∀q,(Value.slice K (c.length+e.length) J).ownBlock=some q->w.heap.size+4<=q):=af;have xg:Hid (Below w.heap.size w X):=ae.trans (Y.mono omz);clear pO af)
   obtain⟨_,⟨z0,z1,z2,z3⟩,_⟩:=xO.out;all_goals
    refine bodyPost_ret (v:=.agg #[.int .i64 m, .int .i64 0, .slice none 0 0, .slice K (c.length+e.length) J]) (by simp[results,results88,go_sem,z0,z1,z2,z3]) rfl ⟨K,J,rfl,?_,λq y=>by have:=sJ q y;omega,?_⟩
    ·exact zu0
    ·have pz:=xg.out
     exact blA
  ·have Z:=aQ L
   have S:=aS.out;subst S;subst Z;have xG:(m==k)=false:=by rw[A95];exact L
   go_wp2_with (at_builtin;refine Ip rfl _ _ rfl base (w.heap.size+4) j l c [Ah.mk m F o (.slice G o.length E) (.slice u f.length z) f] (some ⟨wc.heap.size,0,none⟩) 1 rfl rfl (ay.below (Aa _ _)) (λ_=>⟨_,rfl,by exact cells4⟩) (ax _ (Be ae _)) (aA _ zX.out) yEg yAb yAb zX.out ?_;intro K J X pO Y af;have xO:Hid (B4 X (w.heap.size+2) (.int .i64 0) (.int .i64 0) (.slice none 0 0) (.slice none 0 0)):=(aI.al _).below Y omz;obtain⟨_,⟨y0,y1,y2,y3⟩,_,_,_,y4⟩:=(sW.al _).below Y omz;obtain⟨_,⟨x0,x1,x2,x3⟩,x4,x5,x6,x7⟩:=xO.out;have gV:Hid (Gq X base (.slice K (c.length+1) J) (c++[Ah.mk m F o (.slice G o.length E) (.slice u f.length z) f])):=pO;have sJ:Hid (∀q,(Value.slice K (c.length+1) J).ownBlock=some q->w.heap.size+4<=q):=af;have xg:Hid (Below w.heap.size w X):=(Be ae _).trans (Y.mono omz);clear pO af)
   obtain⟨_,⟨z0,z1,z2,z3⟩,_⟩:=xO.out;all_goals
    refine bodyPost_ret (v:=.agg #[.int .i64 k, .int .i64 0, .slice none 0 0, .slice K (c.length+1) J]) (by simp[results,results88,go_sem,z0,z1,z2,z3]) rfl ⟨K,J,rfl,?_,λq y=>by have:=sJ q y;omega,?_⟩
    ·exact zu0
    ·have pz:=xg.out
     exact blA
def Afl (w:World)(base:Nat)(vs:List Value)(lo:Nat)(n:Stil.Net)(e:Ending):Prop:=∃(k op:Int) (a:List Stil.Dev) (d:Option Addr) (c:Nat) (h:Option Addr) (f:Nat) (b:List Ah),e=.returned (.agg #[.int .i64 k, .int .i64 op, .slice d a.length c, .slice h b.length f])/\
 I7 w base ⟨k,op,a, .slice d a.length c, .slice h b.length f,b⟩/\(Ah.mk k op a (.slice d a.length c) (.slice h b.length f) b).net=n/\∀x∈(Ah.mk k op a (.slice d a.length c) (.slice h b.length f) b).vals,x∈vs\/∀q,x.ownBlock=some q->lo<=q
theorem A48 {w w':World}{a b:Ah}{d:Option Addr}{e:Nat}(h:Gq w' base (.slice d ((Oi k a).length+(Oi k b).length) e) (Oi k a++Oi k b))(f:∀q,(Value.slice d ((Oi k a).length+(Oi k b).length) e).ownBlock=some q->w.heap.size<=q):
  Afl w' base (a.vals++b.vals) w.heap.size (Jd k a.net b.net) (.returned (.agg #[.int .i64 k, .int .i64 0, .slice none 0 0, .slice d ((Oi k a).length+(Oi k b).length) e])):=by
 refine⟨k,0,[],none,0,d,e,Oi k a++Oi k b,by rw[A83];rfl,?_,?_,?_⟩
 ·rw[A83]
  exact h.net k 0 [] (World.ownsRow_nil _ _ _ _) (λx _=>Le x)
 ·rw[Ah.net_eq]
  unfold Jd;rw[<-P7,<-P7,<-A9h]
 ·intro x c
  rw[Ah.vals_eq] at c;simp only[A9o] at c;rcases c with rfl | rfl | c
  ·exact .inr (λq f=>by cases f)
  ·exact .inr (λq h=>f q (by rw[<-A83];exact h))
  ·left
   rw[Cb] at c;rcases List.mem_append.1 c with c | c
   ·exact A9e _ (Nb c)
   ·exact A9b _ (Nb c)
theorem I7.apart4 {w:World}{b:Nat}{m:Ah}{u4:Value}(h:I7 w base m)(a:∀x∈m.vals,x.ownBlock≠some b):I7 ((((w.setCell ⟨b,0,none⟩ u1).setCell ⟨b,1,none⟩ u2).setCell ⟨b,2,none⟩ u3).setCell ⟨b,3,none⟩ u4) base m:=
 ⟨MOk.map m h.1 (λ_ _ _ _ _ c d=>ownsRow_setCell_other (ownsRow_setCell_other (ownsRow_setCell_other (ownsRow_setCell_other d (a _ c) _) (a _ c) _) (a _ c) _) (a _ c) _),h.2⟩
theorem A1e (k:Int)(a b:Ah)(base:Nat)(w:World)(A:MOk w base a)(u:MOk w base b)(D:(a.vals++b.vals).Pairwise Aside)(U:Aj a.net+Aj b.net<=900000)(af:base<=w.heap.size):
  Calls prog 58 #[.int .i64 k, .agg #[.int .i64 a.kind, .int .i64 a.op,a.av,a.kv], .agg #[.int .i64 b.kind, .int .i64 b.op,b.av,b.kv]] w λe j=>Afl j base (a.vals++b.vals) w.heap.size (Ff k a.net b.net) e/\Below w.heap.size w j:=by
 have z:Hid (∀W,Below w.heap.size w W->Calls prog 88 #[.int .i64 k, .agg #[.int .i64 a.kind, .int .i64 a.op,a.av,a.kv], .agg #[.int .i64 b.kind, .int .i64 b.op,b.av,b.kv]] W λe j=>Afl j base (a.vals++b.vals) W.heap.size (Jd k a.net b.net) e/\Below W.heap.size W j):=λW h=>by
  refine(s_put k a b base W (A.below h) (u.below h) D U (A9f af h.size)).mono ?_;rintro e j ⟨ra,rc,rfl,h1,h2,h3⟩;exact⟨A48 h1 h2,h3⟩
 have H:=(Ee _ _ _).1 A;have G:=(Ee _ _ _).1 u;obtain⟨pa,ca,aa⟩:=Ac H.1;obtain⟨qa,da,ac⟩:=Ac H.2.1;obtain⟨Y,K,Q⟩:=Ac G.1;obtain⟨V,db,S⟩:=Ac G.2.1;have i:Hid (Ff k a.net b.net=if a.kind=0 then b.net else Jd k a.net b.net):=by
  show _=_
  unfold Ff;rw[show a.net.kind=a.kind by rw[Ah.net_eq]]
 have zZ:Hid (∀W,Below w.heap.size w W->I7 W base b):=λW h=>⟨u.below h,(List.pairwise_append.1 D).2.1⟩
 have L:Hid (∀x∈a.vals++b.vals,∀q,x.ownBlock=some q->q<w.heap.size):=λx c q B=>by
  rcases List.mem_append.1 c with c | c
  ·exact(MOk.lt a A x c q B).2
  ·exact(MOk.lt b u x c q B).2
 have oQ:Hid (∀x∈b.vals,x∈a.vals++b.vals):=λx c=>A9b _ c
 obtain⟨F,I⟩:∃F,F=a.vals++b.vals:=⟨_,rfl⟩
 obtain⟨N,T⟩:∃N,N=Ff k a.net b.net:=⟨_,rfl⟩
 obtain⟨NP,O⟩:∃N,N=Jd k a.net b.net:=⟨_,rfl⟩
 rw[<-I] at z oQ L ⊢;rw[<-T] at i ⊢;rw[<-O] at z i;clear I T O A u D U H G;obtain⟨P,iV,fU,zO,zN,dH⟩:=a;obtain⟨bk,M,dY,ag,ah,J⟩:=b;simp only at aa ac Q S z i ⊢;subst aa;subst ac;subst Q;subst S;by_cases E:P=0
 ·subst E
  rw[if_pos rfl] at i;clear z;go_enter func58,ntmps58
  go_wp2
  refine bodyPost_ret (v:=.agg #[.int .i64 bk, .int .i64 M, .slice Y dY.length K, .slice V J.length db]) (by simp[results,results58,go_sem]) rfl ⟨⟨bk,M,dY,Y,K,V,db,J,rfl,?_,i.symm,λx c=>.inl (oQ x c)⟩,blA⟩;exact zZ _ blA
 ·rw[if_neg E] at i
  have xG:(P==0)=false:=by rw[A95];exact E
  go_enter func58,ntmps58
  go_wp2_with (go_at_call 88;refine(z _ blA).mono ?_;rintro e t ⟨⟨s,l,d,o,y,m,r,f,rfl,ab,Z,R⟩,ae⟩;have bG:Hid (I7 t base ⟨s,l,d, .slice o d.length y, .slice m f.length r,f⟩):=ab;have X:Hid (∀x∈(Ah.mk s l d (.slice o d.length y) (.slice m f.length r) f).vals,x∈F\/∀q,x.ownBlock=some q->_<=q):=R;have aQ:Hid ((Ah.mk s l d (.slice o d.length y) (.slice m f.length r) f).net=NP):=Z;clear ab Z R;obtain⟨C,ai⟩:=Eh ae)
  have z0:t.cell? ⟨w.heap.size+2,0,none⟩=some (.int .i64 0):=by rw[C _ _ spz];simp[go_sem]
  have z1:t.cell? ⟨w.heap.size+2,1,none⟩=some (.int .i64 0):=by rw[C _ _ spz];simp[go_sem]
  have z2:t.cell? ⟨w.heap.size+2,2,none⟩=some (.slice none 0 0):=by rw[C _ _ spz];simp[go_sem]
  have z3:t.cell? ⟨w.heap.size+2,3,none⟩=some (.slice none 0 0):=by rw[C _ _ spz];simp[go_sem]
  refine bodyPost_ret (v:=.agg #[.int .i64 s, .int .i64 l, .slice o d.length y, .slice m f.length r]) (by simp[results,results58,go_sem,z0,z1,z2,z3]) rfl ⟨⟨s,l,d,o,y,m,r,f,rfl,?_,aQ.trans i.symm,λx c=>?_⟩,blA⟩
  ·refine bG.apart4 (λx c e=>?_)
   rcases X x c with h | h
   ·have:=L x h _ e;omega
   ·have:=h _ e;simp at this;omega
  ·rcases X x c with h | h
   ·exact .inl h
   ·exact .inr (λq B=>by have:=h q B;simp at this;omega)
theorem Ahi:∀(a:List Ah) (i:Nat) (_:i<a.length) (m:Ah),Fp (a.set i m)=((((Fp a).set (i*4) (.int .i64 m.kind)).set (i*4+1) (.int .i64 m.op)).set (i*4+2) m.av).set (i*4+3) m.kv
 | [],_,h,_=>by simp at h
 | x::r,0,_,m=>rfl
 | x::r,i+1,h,m=>by
  have b:=Ahi r i yBc m;have e:∀(y:Ah) (l:List Ah),Fp (y::l)=.int .i64 y.kind::.int .i64 y.op::y.av::y.kv::Fp l:=λ_ _=>rfl
  have c:(i+1)*4=i*4+1+1+1+1:=omz
  rw[List.set_cons_succ,e,b,e,c];rfl
theorem A3k (h:Aside v x)(a:v.ownBlock=some g):x.ownBlock≠some g:=λe=>h.no a e
theorem Gq.stored {w:World}{i:Nat}{a:List Ah}{m:Ah}(h:Gq w base (.slice (some ⟨g,0,none⟩) a.length cap) a)(hi:i<a.length)(l:MOk w base m)(e:(Value.slice (some ⟨g,0,none⟩) a.length cap::Bq (a.set i m)).Pairwise Aside):
  Gq ((((w.setCell ⟨g,i*4,none⟩ (.int .i64 m.kind)).setCell ⟨g,i*4+1,none⟩ (.int .i64 m.op)).setCell ⟨g,i*4+2,none⟩ m.av).setCell ⟨g,i*4+3,none⟩ m.kv) base (.slice (some ⟨g,0,none⟩) a.length cap) (a.set i m):=by
 refine⟨?_,λx d=>?_,e⟩
 ·rw[Bbl,Ahi a i hi m]
  exact((((h.1.stored (i*4) _).1.stored (i*4+1) _).1.stored (i*4+2) _).1.stored (i*4+3) _).1
 ·have f:MOk w base x:=by
   rcases Bbj d with d | rfl
   ·exact h.2.1 x d
   ·exact l
  have c:∀y∈x.vals,y.ownBlock≠some g:=λy b=>A3k ((List.pairwise_cons.1 e).1 y (Jf.2 ⟨x,d,b⟩)) rfl
  exact MOk.map x f (λ_ _ _ _ _ b j=>ownsRow_setCell_other (ownsRow_setCell_other (ownsRow_setCell_other (ownsRow_setCell_other j (c _ b) _) (c _ b) _) (c _ b) _) (c _ b) _)
theorem Gq.firsts {w:World}{n:Nat}{a:Option Addr}{b:List Ah}(h:Gq w base (.slice a b.length cap) b)(C:n<=b.length):Gq w base (.slice a n cap) (b.take n)\/n=0:=by
 by_cases u:n=0
 ·exact .inr u
 ·left
  have l:(b.take n).length=n:=by rw[Ba7];omega
  refine⟨?_,λm B=>h.2.1 m (List.mem_of_mem_take B),?_⟩
  ·rw[l]
   rcases h.1.2 with⟨_,q⟩ | ⟨g,c,cur,o,q,d,e,z,A,i⟩
   ·omega
   ·have t:Fp b=Fp (b.take n)++Fp (b.drop n):=by rw[<-Aad,Bbu]
    have f:=X0 (b.take n);rw[l] at f;simp only[Value.slice.injEq] at o;obtain⟨rfl,_,rfl⟩:=o;refine⟨f, .inr ⟨g,cap,cur,rfl,q,d,omz,z,A,?_⟩⟩;rw[t] at i;have j:=congrArg (List.take (n*4)) i;rw[List.take_take,List.take_left' f] at j;rw[<-j];congr 1;have:=Bak 4 C
    omega
  ·have d:=h.2.2
   rw[<-Bbu n b,Cb] at d;rw[A9p] at d ⊢;have r:(Value.slice a n cap).ownBlock=(Value.slice a b.length cap).ownBlock:=by cases a<;>rfl
   refine⟨λy s=>?_,(List.pairwise_append.1 d.2).1⟩;have e:=d.1 y (A9e _ s);rw[Bbu] at e;unfold Aside at e ⊢;rw[r];exact e
end Go.Proofs.YtobbpffcggchmaaGreatDoor
