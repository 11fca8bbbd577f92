import Derived.Test.YtobbpffcggchmaaGreatDoorS20
set_option maxHeartbeats 4000000
set_option maxRecDepth 100000
namespace Go.Proofs.YtobbpffcggchmaaGreatDoor
open Tryz
open Stil
open Go.RowKit Go.Sort Go.BigFrame
variable {W:World}{j:Nat}
theorem A7m {e:Stil.Elem}{a:List Ah}(h:a.length=j+1)(d:j<a.length){M:Ah}(b:M.net=Abb a[j].net):((a.set j M).map Ah.net).reverse=Ib 6 e (a.map Ah.net).reverse:=by
 have c:(a.map Ah.net).reverse=a[j].net::((a.take j).map Ah.net).reverse:=by
  have e:=congrArg (λl:List Ah=>(l.map Ah.net).reverse) (Vh h d);simp only[A9h,A9l,A97,List.reverse_append,List.reverse_cons,List.reverse_nil,A9u,A9t] at e;exact e
 rw[Tj h,A9h,List.reverse_append,Ba0,b,c];rfl
theorem Agx {g o1 o2 o3 o4:Nat}{u1 u2 u3 u4:Value}(hg:g<W.heap.size)(o:Obj):(((((W.alloc o).setCell ⟨g,o1,none⟩ u1).setCell ⟨g,o2,none⟩ u2).setCell ⟨g,o3,none⟩ u3).setCell ⟨g,o4,none⟩ u4)=((((W.setCell ⟨g,o1,none⟩ u1).setCell ⟨g,o2,none⟩ u2).setCell ⟨g,o3,none⟩ u3).setCell ⟨g,o4,none⟩ u4).alloc o:=by
 rw[World.setCell_alloc_past _ _ _ _ hg,World.setCell_alloc_past _ _ _ _ (by simpa using hg),World.setCell_alloc_past _ _ _ _ (by simpa using hg),World.setCell_alloc_past _ _ _ _ (by simpa using hg)]
def Ax7 (b:Nat)(X:Ah):Ah:=⟨4,0,[], .slice none 0 0, .slice (some ⟨b,0,none⟩) 1 1,[X]⟩
theorem Aqx {base:Nat}{X:Ah}(h:I7 W base X)(a:base<=W.heap.size):I7 (W.alloc (.cells #[.int .i64 X.kind, .int .i64 X.op,X.av,X.kv] 30)) base (Ax7 W.heap.size X):=(Gq.single h a).net 4 0 [] (World.ownsRow_nil _ _ _ _) (λx _=>Le x)
theorem Aqy (b:Nat)(X:Ah):(Ax7 b X).net=Abb X.net:=by unfold Ax7;rw[Ah.net_eq];rfl
theorem Aek {b:Nat}{X:Ah}{x:Value}(h:x∈(Ax7 b X).vals)(c:List Value):x∈X.vals++c\/∀q,x.ownBlock=some q->b<=q:=by
 unfold Ax7 at h;rw[Ah.vals_eq] at h;simp only[A9o,Dt] at h;rcases h with rfl | rfl | h
 ·exact .inr (λq a=>by cases a)
 ·exact .inr (λq a=>by cases a;exact A88 _)
 ·exact .inl (A9e _ h)
theorem Aqt {a:Option Addr}{n m c d:Nat}{l:List Value}(h:(Value.slice a n c::l).Pairwise Aside):(Value.slice a m d::l).Pairwise Aside:=by
 rw[A9p] at h ⊢;refine⟨λy f=>?_,h.2⟩;have b:=h.1 y f;have e:(Value.slice a m d).ownBlock=(Value.slice a n c).ownBlock:=by cases a<;>rfl
 unfold Aside at b ⊢;rw[e];exact b
theorem Vg {a:List Ah}(h:a.length=j+2)(c:j<a.length)(h1:j+1<a.length):a=a.take j++[a[j],a[j+1]]:=by
 have b:=A9m h1;have d:=A9m c;rw[A9y omz,d,A9r] at b;exact b
theorem A4d {c:Int}{e:Stil.Elem}{a:List Ah}(i:c=4\/c=5)(h:a.length=j+2)(k:j<a.length)(h1:j+1<a.length){M:Ah}(f:M.net=Ff (c - 2) a[j].net a[j+1].net):(((a.take (j+1)).set j M).map Ah.net).reverse=Ib c e (a.map Ah.net).reverse:=by
 have g:(a.map Ah.net).reverse=a[j+1].net::a[j].net::((a.take j).map Ah.net).reverse:=by
  have e:=congrArg (λl:List Ah=>(l.map Ah.net).reverse) (Vg h k h1);simp only[A9h,A9l,A97,List.reverse_append,List.reverse_cons,List.reverse_nil,A9u,A9t] at e;exact e
 have d:(a.take (j+1)).length=j+1:=by rw[Ba7];omega
 have b:(a.take (j+1)).take j=a.take j:=by rw[List.take_take];congr 1;omega
 rw[Tj d,b,A9h,List.reverse_append,Ba0,f,g];rcases i with rfl | rfl<;>rfl
theorem A72 (i:Stil.F7)(G:Value)(ms:List Ah)(z:Option Addr)(r base:Nat)(w:World)(ah:Gq w base (.slice z ms.length r) ms)(ac:A7 w G i.one.args)(hf:i.fits)(ae:i.code=6)(S:Stil.needs i.code<=ms.length)(hs:Stil.sizes (ms.map Ah.net)<=800000)(R:base<=w.heap.size):
  Calls prog 24 #[.slice z ms.length r, .agg #[.int .i64 i.code, .int .i64 i.one.op,G]] w λal F=>Akb w F base (Ib i.code i.one (ms.map Ah.net).reverse) al:=by
 have bK:Hid (∀W,Below w.heap.size w W->Calls prog 38 #[.agg #[.int .i64 i.one.op,G]] W λao F=>∃a c,ao=.returned (.agg #[.int .i64 i.one.op, .slice a i.one.args.length c])/\F.ownsRow W.heap.size 34 3 (.slice a i.one.args.length c) i.one.args.length (Am i.one.args)/\Below W.heap.size W F):=λW h=>Abz i.one G W (ac.below h) hf.2.2.1
 obtain⟨p0,r0,rfl,-⟩:=ac;obtain⟨c,op,ds⟩:=i;simp only at bK ae S ⊢;subst ae;have aw:ms.length<=800000:=by
  have:=Fz (ms.map Ah.net)
  rw[A9j] at this;omega
 have HS:Hid (Stil.sizes (ms.map Ah.net)<=800000):=hs;have Q:Hid (Gq w base (.slice z ms.length r) ms):=ah;clear ah hs hf;go_enter func24,ntmps24;go_upto_region 3 with(go_at_call 38;refine(bK _ blA).mono ?_;rintro al e ⟨a1,c1,rfl,hown,O⟩;have L:Hid (e.ownsRow (w.heap.size+1) 34 3 (.slice a1 ds.length c1) ds.length (Am ds)):=yAd;clear hown)
 have ai:Below w.heap.size w e:=blA;have af:w.heap.size<e.heap.size:=by have:=O.size;simp at this;omega
 obtain⟨W,E⟩:∃W,W=e.alloc (.cells #[.int .i64 1, .int .i64 op, .slice a1 ds.length c1, .slice none 0 0] 30):=⟨_,rfl⟩
 have H:Below e.heap.size e W:=by rw[E];exact Aa _ _
 have ab:Below w.heap.size w W:=Dj ai H;have b:Hid (A0r w W base e.heap.size ms z r op ds a1 c1):=by
  refine⟨Q.below ab,?_,λx d q t=>(Q.lt x d q t).2,λx d q t=>?_,by rw[E];exact Akh,af,ab,R⟩
  ·exact((Ii L.out).le omz).below H
  ·have:=(MOk.lt _ (Ii (op:=op) L.out).1 x d q t).1
   omega
 have k0:W.cell? ⟨w.heap.size,0,none⟩=some (.int .i64 6):=by
  rw[H.cell (p:=⟨w.heap.size,0,none⟩) af,O.cell (p:=⟨w.heap.size,0,none⟩) spz];simp[go_sem]
 rw[<-E];clear E H ai O L bK Q;obtain⟨_,⟨o0,o1,o2,o3⟩,_⟩:=b.box;have pM:e.heap.size<W.heap.size:=b.box.1;obtain⟨j,s⟩:∃j,ms.length=j+1:=⟨ms.length - 1,by simp[Stil.needs] at S;omega⟩
 obtain⟨g,cp,D,an,o,_,u⟩:=Cf b.row.1 omz;have l:j<ms.length:=omz
 obtain⟨x0,x1,x2,x3⟩:=Gx ms j l;have J:=u _ _ x0;have P:=u _ _ x1;have T:=u _ _ x2;have Y:=u _ _ x3;simp only[Value.slice.injEq] at D;obtain⟨rfl,_,rfl⟩:=D;have Z:=(Ee _ _ _).1 (b.row.2.1 ms[j] (A9a l));obtain⟨A,v,aa⟩:=Ac Z.1;obtain⟨I,B,N⟩:=Ac Z.2.1;have aj:Hid (I7 W base ms[j]):=b.row.one j l;have U:Hid (∀V,Below W.heap.size W V->(V.cell? ⟨g,j*4,none⟩=some (.int .i64 ms[j].kind)/\V.cell? ⟨g,j*4+1,none⟩=some (.int .i64 ms[j].op)/\V.cell? ⟨g,j*4+2,none⟩=some ms[j].av/\V.cell? ⟨g,j*4+3,none⟩=some ms[j].kv)/\V.frozen? ⟨g,j*4,none⟩=false/\V.frozen? ⟨g,j*4+1,none⟩=false/\V.frozen? ⟨g,j*4+2,none⟩=false/\V.frozen? ⟨g,j*4+3,none⟩=false):=λV h=>
  ⟨⟨(h.cell o).trans J,(h.cell o).trans P,(h.cell o).trans T,(h.cell o).trans Y⟩,(b.below h).row.1.frozenAt _,(b.below h).row.1.frozenAt _,(b.below h).row.1.frozenAt _,(b.below h).row.1.frozenAt _⟩
 have mX:Hid (ms.length=j+1):=s;have nO:Hid (∀M:Ah,M.net=Abb ms[j].net->((ms.set j M).map Ah.net).reverse=Ib 6 ⟨op,ds⟩ (ms.map Ah.net).reverse):=λM K=>A7m s l K
 have qI:Hid (∀(M:Ah) (lo:Nat),w.heap.size<=lo->M.vals.Pairwise Aside->(∀x∈M.vals,x∈ms[j].vals++(Vd op ds a1 c1).vals\/∀q,x.ownBlock=some q->lo<=q)->(Value.slice (some ⟨g,0,none⟩) ms.length r::Bq (ms.set j M)).Pairwise Aside):=λM lo ar K D=>by
  have hal:=b.all;have ap:=b.low;have he:=Vh s l;rw[Tj s];refine Wq (vs:=ms[j].vals++(Vd op ds a1 c1).vals) (lo:=lo) ?_ (λx d q t=>A82 (ap x ?_ q t) ar) K D
  ·exact zb0
  ·rcases List.mem_cons.1 d with rfl | d
   ·exact Bau
   ·refine A87 _ ?_
    rw[he,Cb];exact A9e _ d
 have e5:((j+1:Nat):Int) - 1=(j:Int):=omz
 obtain⟨X,hX⟩:∃X,X=ms[j]:=⟨_,rfl⟩
 rw[<-hX] at J P T Y aj U nO qI aa N;obtain⟨y,C,k,nP,kY,f⟩:=X;simp only at aa N J P T Y U;subst aa;subst N;rw[s,e5];clear hX u x0 x1 x2 x3 Z S;have au:¬((j:Int)<0):=omz
 obtain⟨⟨_,_,_,_⟩,f0,f1,f2,f3⟩:=U W (Below.refl _ _)
 go_wp2
 go_ret;have ak:=Aqx aj (A9f R b.bel.size);have ag:Below W.heap.size W (W.alloc (.cells #[.int .i64 y, .int .i64 C, .slice A k.length v, .slice I f.length B] 30)):=Aa _ _;have hp:=qI (Ax7 W.heap.size (Ah.mk y C k (.slice A k.length v) (.slice I f.length B) f)) W.heap.size b.bel.size ak.2 (λx d=>Aek d _);have hr:=(b.below ag).row.stored (m:=Ax7 W.heap.size (Ah.mk y C k (.slice A k.length v) (.slice I f.length B) f)) l ak.1 hp;have hB:=(b.bel.trans (ag.mono b.bel.size)).mono R;refine⟨some ⟨g,0,none⟩,r,ms.set j (Ax7 W.heap.size (Ah.mk y C k (.slice A k.length v) (.slice I f.length B) f)),by rw[Bbl,mX.out];rfl,?_,nO _ (Aqy _ _),?_⟩
 ·rw[Bbl,<-Agx o]
  exact hr
 ·rw[<-Agx o]
  exact bl4 hB an
theorem zP {p:Prop}(h:p:=by
 have hr2:Gq V base (.slice (some ⟨g,0,none⟩) (ms.take (j+1)).length rc) (ms.take (j+1)):=by rw[hlt];exact hr
 have h3:=hr2.stored (i:=j) (m:=M) omz hM.1 (by
  rw[Tj hlt,htt];refine Wq (vs:=ms[j].vals++ms[j+1].vals) (lo:=W.heap.size) (Aqt hall) (λx hx q hq=>?_) hM.2 hv;refine A82 ?_ HST.bel.size;rcases List.mem_cons.1 hx with rfl | hx
  ·exact HST.low (Value.slice (some ⟨g,0,none⟩) ms.length rc) Bau q hq
  ·refine HST.low x (A87 _ ?_) q hq
   rw[congrArg Bq (Vg hml hjm hjn),Cb]
   exact A9e _ hx)
 rw[hlt] at h3;exact h3):p:=h
theorem A74 (i:Stil.F7)(N:Value)(ms:List Ah)(I:Option Addr)(rc base:Nat)(w:World)(ao:Gq w base (.slice I ms.length rc) ms)(aj:A7 w N i.one.args)(hf:i.fits)(ak:i.code=4)(C:Stil.needs i.code<=ms.length)(hs:Stil.sizes (ms.map Ah.net)<=800000)(ab:base<=w.heap.size):
  Calls prog 24 #[.slice I ms.length rc, .agg #[.int .i64 i.code, .int .i64 i.one.op,N]] w λe t=>Akb w t base (Ib i.code i.one (ms.map Ah.net).reverse) e:=by
 have bK:Hid (∀W,Below w.heap.size w W->Calls prog 38 #[.agg #[.int .i64 i.one.op,N]] W λax t=>∃a c,ax=.returned (.agg #[.int .i64 i.one.op, .slice a i.one.args.length c])/\t.ownsRow W.heap.size 34 3 (.slice a i.one.args.length c) i.one.args.length (Am i.one.args)/\Below W.heap.size W t):=λW h=>Abz i.one N W (aj.below h) hf.2.2.1
 obtain⟨p0,r0,rfl,-⟩:=aj;obtain⟨c,op,y⟩:=i;simp only at bK ak C ⊢;subst ak;have aN:ms.length<=800000:=by
  have:=Fz (ms.map Ah.net)
  rw[A9j] at this;omega
 have HS:Hid (Stil.sizes (ms.map Ah.net)<=800000):=hs;have HR:Hid (Gq w base (.slice I ms.length rc) ms):=ao;clear ao hs hf;go_enter func24,ntmps24;go_upto_region 3 with(go_at_call 38;refine(bK _ blA).mono ?_;rintro e k ⟨P,R,rfl,hown,aa⟩;have S:Hid (k.ownsRow (w.heap.size+1) 34 3 (.slice P y.length R) y.length (Am y)):=yAd;clear hown)
 have ap:Below w.heap.size w k:=blA;have al:w.heap.size<k.heap.size:=by have:=aa.size;simp at this;omega
 obtain⟨W,K⟩:∃W,W=k.alloc (.cells #[.int .i64 1, .int .i64 op, .slice P y.length R, .slice none 0 0] 30):=⟨_,rfl⟩
 have O:Below k.heap.size k W:=by rw[K];exact Aa _ _
 have ai:Below w.heap.size w W:=Dj ap O;have HST:Hid (A0r w W base k.heap.size ms I rc op y P R):=by
  refine⟨HR.below ai,?_,λx hx q hq=>(HR.lt x hx q hq).2,λx hx q hq=>?_,by rw[K];exact Akh,al,ai,ab⟩
  ·exact((Ii S.out).le omz).below O
  ·have:=(MOk.lt _ (Ii (op:=op) S.out).1 x hx q hq).1
   omega
 have k0:W.cell? ⟨w.heap.size,0,none⟩=some (.int .i64 4):=by
  rw[O.cell (p:=⟨w.heap.size,0,none⟩) al,aa.cell (p:=⟨w.heap.size,0,none⟩) spz];simp[go_sem]
 rw[<-K];clear K O ap aa S bK HR;obtain⟨_,⟨o0,o1,o2,o3⟩,_⟩:=HST.box;have pM:k.heap.size<W.heap.size:=HST.box.1;obtain⟨j,hml⟩:∃j,ms.length=j+2:=⟨ms.length - 2,by simp[Stil.needs] at C;omega⟩
 obtain⟨g,cp,hv,aw,L,aG,f⟩:=Cf HST.row.1 omz;have hjm:j<ms.length:=omz
 have hjn:j+1<ms.length:=omz
 obtain⟨x0,x1,x2,x3⟩:=Gx ms j hjm;obtain⟨x4,x5,x6,x7⟩:=Gx ms (j+1) hjn;have A:=f _ _ x0;have B:=f _ _ x1;have D:=f _ _ x2;have F:=f _ _ x3;have Q:=f _ _ x4;have z1:=f _ _ x5;have z2:=f _ _ x6;have Y:=f _ _ x7;simp only[Value.slice.injEq] at hv;obtain⟨rfl,_,rfl⟩:=hv;have af:=(Ee _ _ _).1 (HST.row.2.1 ms[j] (A9a hjm));have ae:=(Ee _ _ _).1 (HST.row.2.1 ms[j+1] (A9a hjn));obtain⟨pa,ca,ag⟩:=Ac af.1;obtain⟨qa,da,T⟩:=Ac af.2.1;obtain⟨pb,cb,U⟩:=Ac ae.1;obtain⟨qb,db,lD⟩:=Ac ae.2.1;have hlt:(ms.take (j+1)).length=j+1:=by rw[Ba7];omega
 have htt:(ms.take (j+1)).take j=ms.take j:=by rw[List.take_take];congr 1;omega
 have hall:(Value.slice (some ⟨g,0,none⟩) ms.length rc::(Bq (ms.take j)++(ms[j].vals++ms[j+1].vals))).Pairwise Aside:=by
  have h2:=HST.row.2.2;have e3:=congrArg Bq (Vg hml hjm hjn);rw[Cb,show [ms[j],ms[j+1]]=[ms[j]]++[ms[j+1]] from rfl,Cb,Dt,Dt] at e3;rw[e3] at h2;exact h2
 have G:Hid (∀V,Below W.heap.size W V->Calls prog 58 #[.int .i64 2, .agg #[.int .i64 ms[j].kind, .int .i64 ms[j].op,ms[j].av,ms[j].kv], .agg #[.int .i64 ms[j+1].kind, .int .i64 ms[j+1].op,ms[j+1].av,ms[j+1].kv]] V λe t=>Afl t base (ms[j].vals++ms[j+1].vals) V.heap.size (Ff 2 ms[j].net ms[j+1].net) e/\Below V.heap.size V t):=λV h=>by
  have z:=HST.below h;have aL:=HS.out;refine A1e 2 ms[j] ms[j+1] base V (z.row.2.1 _ (A9a hjm)) (z.row.2.1 _ (A9a hjn)) (List.pairwise_append.1 (List.pairwise_cons.1 hall).2).2.1 ?_ (A9f ab z.bel.size);have e4:=congrArg (λaD:List Ah=>Stil.sizes (aD.map Ah.net)) (Vg hml hjm hjn);simp only[A9h,H6,A9l,A97,Dv,Ol] at e4;omega
 have bW:Hid (∀V,Below W.heap.size W V->(V.cell? ⟨g,j*4,none⟩=some (.int .i64 ms[j].kind)/\V.cell? ⟨g,j*4+1,none⟩=some (.int .i64 ms[j].op)/\V.cell? ⟨g,j*4+2,none⟩=some ms[j].av/\V.cell? ⟨g,j*4+3,none⟩=some ms[j].kv)/\V.frozen? ⟨g,j*4,none⟩=false/\V.frozen? ⟨g,j*4+1,none⟩=false/\V.frozen? ⟨g,j*4+2,none⟩=false/\V.frozen? ⟨g,j*4+3,none⟩=false):=λV h=>
  ⟨⟨(h.cell L).trans A,(h.cell L).trans B,(h.cell L).trans D,(h.cell L).trans F⟩,(HST.below h).row.1.frozenAt _,(HST.below h).row.1.frozenAt _,(HST.below h).row.1.frozenAt _,(HST.below h).row.1.frozenAt _⟩
 have H:Hid (∀(V:World) (M:Ah),Below W.heap.size W V->I7 V base M->M.net=Ff 2 ms[j].net ms[j+1].net->(∀x∈M.vals,x∈ms[j].vals++ms[j+1].vals\/∀q,x.ownBlock=some q->W.heap.size<=q)->Gq ((((V.setCell ⟨g,j*4,none⟩ (.int .i64 M.kind)).setCell ⟨g,j*4+1,none⟩ (.int .i64 M.op)).setCell ⟨g,j*4+2,none⟩ M.av).setCell ⟨g,j*4+3,none⟩ M.kv) base (.slice (some ⟨g,0,none⟩) (j+1) rc) ((ms.take (j+1)).set j M)/\((((ms.take (j+1)).set j M)).map Ah.net).reverse=Ib 4 ⟨op,y⟩ (ms.map Ah.net).reverse/\Below base w ((((V.setCell ⟨g,j*4,none⟩ (.int .i64 M.kind)).setCell ⟨g,j*4+1,none⟩ (.int .i64 M.op)).setCell ⟨g,j*4+2,none⟩ M.av).setCell ⟨g,j*4+3,none⟩ M.kv)):=λV M h hM C hv=>by
  have z:=HST.below h;refine⟨?_,A4d spz hml hjm hjn C,bl4 (z.bel.mono ab) aw⟩;have hr:=z.row.firsts (n:=j+1) omz;rcases hr with hr | hr
  ·exact zP
  ·omega
 have iD:Hid ((ms.take (j+1)).length=j+1):=hlt;obtain⟨X,hX⟩:∃X,X=ms[j]:=⟨_,rfl⟩
 obtain⟨ay,hZ⟩:∃X,X=ms[j+1]:=⟨_,rfl⟩
 rw[<-hX] at A B D F G bW H ag T;rw[<-hZ] at Q z1 z2 Y G H U lD;obtain⟨xk,fJ,eY,nP,kY,eX⟩:=X;obtain⟨zk,aU,aI,aO,aH,aM⟩:=ay;simp only at ag T U lD A B D F Q z1 z2 Y G bW;subst ag;subst T;subst U;subst lD;clear hX hZ f x0 x1 x2 x3 x4 x5 x6 x7 af ae C hall hlt htt;obtain⟨J,hJ⟩:∃J,J=j+1:=⟨_,rfl⟩
 have jg:ms.length=J+1:=omz
 have e5:((J+1:Nat):Int) - 1=(J:Int):=omz
 have e6:(J:Int) - 1=(j:Int):=omz
 have i0:j<J+1:=omz
 have i1:(j:Int)<((J+1:Nat):Int):=omz
 have i2:j<=J:=omz
 have i3:(j:Int)<=(J:Int):=omz
 have i4:j<J:=omz
 have i5:(j:Int)<(J:Int):=omz
 have aW:j<=800000:=omz
 have aT:IntKind.i64.wrap ((J:Int) - 1)=(j:Int):=by rw[IntKind.wrap_i64];omega
 have aP:IntKind.i64.wrap (j:Int)=(j:Int):=by rw[IntKind.wrap_i64];omega
 have aS:J<=800000:=omz
 have aR:J<=rc:=omz
 rw[<-hJ] at Q z1 z2 Y H iD;rw[jg,e5];clear hml hjn hJ;go_upto_region 13 with fail
 go_region_with (go_at_call 58;refine(G _ blA).mono ?_;rintro e E ⟨⟨o,r,b,u,v,s,l,d,rfl,au,ar,ah⟩,aV⟩;have bG:Hid (I7 E base ⟨o,r,b, .slice u b.length v, .slice s d.length l,d⟩):=au;have aQ:Hid ((Ah.mk o r b (.slice u b.length v) (.slice s d.length l) d).net=_):=ar;have jP:Hid (∀x∈(Ah.mk o r b (.slice u b.length v) (.slice s d.length l) d).vals,_\/∀q,x.ownBlock=some q->W.heap.size<=q):=ah;clear au ar ah A B D F;obtain⟨⟨A,B,D,F⟩,f0,f1,f2,f3⟩:=bW E blA;have an:Below W.heap.size W E:=blA;have aA:Hid (Below W.heap.size W E):=an;clear an)
 all_goals
  obtain⟨ac,hr2,Z⟩:=H E (Ah.mk o r b (.slice u b.length v) (.slice s d.length l) d) aA bG aQ jP.out;simp only at ac Z;have az:Hid (Gq _ base (.slice (some ⟨g,0,none⟩) J rc) ((ms.take J).set j (Ah.mk o r b (.slice u b.length v) (.slice s d.length l) d))):=ac;have aE:Hid ((((ms.take J).set j (Ah.mk o r b (.slice u b.length v) (.slice s d.length l) d)).map Ah.net).reverse=_):=hr2;have aB:Hid (Below base w _):=Z;clear ac hr2 Z
  go_wp2
  go_ret;refine⟨some ⟨g,0,none⟩,rc,(ms.take J).set j (Ah.mk o r b (.slice u b.length v) (.slice s d.length l) d),by rw[Bbl,iD.out];rfl,?_,aE.out,aB.out⟩;rw[Bbl,iD.out];exact az.out
theorem A73 (i:Stil.F7)(N:Value)(ms:List Ah)(I:Option Addr)(rc base:Nat)(w:World)(ao:Gq w base (.slice I ms.length rc) ms)(aj:A7 w N i.one.args)(hf:i.fits)(ak:i.code=5)(C:Stil.needs i.code<=ms.length)(hs:Stil.sizes (ms.map Ah.net)<=800000)(ab:base<=w.heap.size):
  Calls prog 24 #[.slice I ms.length rc, .agg #[.int .i64 i.code, .int .i64 i.one.op,N]] w λe t=>Akb w t base (Ib i.code i.one (ms.map Ah.net).reverse) e:=by
 have bK:Hid (∀W,Below w.heap.size w W->Calls prog 38 #[.agg #[.int .i64 i.one.op,N]] W λax t=>∃a c,ax=.returned (.agg #[.int .i64 i.one.op, .slice a i.one.args.length c])/\t.ownsRow W.heap.size 34 3 (.slice a i.one.args.length c) i.one.args.length (Am i.one.args)/\Below W.heap.size W t):=λW h=>Abz i.one N W (aj.below h) hf.2.2.1
 obtain⟨p0,r0,rfl,-⟩:=aj;obtain⟨c,op,y⟩:=i;simp only at bK ak C ⊢;subst ak;have aN:ms.length<=800000:=by
  have:=Fz (ms.map Ah.net)
  rw[A9j] at this;omega
 have HS:Hid (Stil.sizes (ms.map Ah.net)<=800000):=hs;have HR:Hid (Gq w base (.slice I ms.length rc) ms):=ao;clear ao hs hf;go_enter func24,ntmps24;go_upto_region 3 with(go_at_call 38;refine(bK _ blA).mono ?_;rintro e k ⟨P,R,rfl,hown,aa⟩;have S:Hid (k.ownsRow (w.heap.size+1) 34 3 (.slice P y.length R) y.length (Am y)):=yAd;clear hown)
 have ap:Below w.heap.size w k:=blA;have al:w.heap.size<k.heap.size:=by have:=aa.size;simp at this;omega
 obtain⟨W,K⟩:∃W,W=k.alloc (.cells #[.int .i64 1, .int .i64 op, .slice P y.length R, .slice none 0 0] 30):=⟨_,rfl⟩
 have O:Below k.heap.size k W:=by rw[K];exact Aa _ _
 have ai:Below w.heap.size w W:=Dj ap O;have HST:Hid (A0r w W base k.heap.size ms I rc op y P R):=by
  refine⟨HR.below ai,?_,λx hx q hq=>(HR.lt x hx q hq).2,λx hx q hq=>?_,by rw[K];exact Akh,al,ai,ab⟩
  ·exact((Ii S.out).le omz).below O
  ·have:=(MOk.lt _ (Ii (op:=op) S.out).1 x hx q hq).1
   omega
 have k0:W.cell? ⟨w.heap.size,0,none⟩=some (.int .i64 5):=by
  rw[O.cell (p:=⟨w.heap.size,0,none⟩) al,aa.cell (p:=⟨w.heap.size,0,none⟩) spz];simp[go_sem]
 rw[<-K];clear K O ap aa S bK HR;obtain⟨_,⟨o0,o1,o2,o3⟩,_⟩:=HST.box;have pM:k.heap.size<W.heap.size:=HST.box.1;obtain⟨j,hml⟩:∃j,ms.length=j+2:=⟨ms.length - 2,by simp[Stil.needs] at C;omega⟩
 obtain⟨g,cp,hv,aw,L,aG,f⟩:=Cf HST.row.1 omz;have hjm:j<ms.length:=omz
 have hjn:j+1<ms.length:=omz
 obtain⟨x0,x1,x2,x3⟩:=Gx ms j hjm;obtain⟨x4,x5,x6,x7⟩:=Gx ms (j+1) hjn;have A:=f _ _ x0;have B:=f _ _ x1;have D:=f _ _ x2;have F:=f _ _ x3;have Q:=f _ _ x4;have z1:=f _ _ x5;have z2:=f _ _ x6;have Y:=f _ _ x7;simp only[Value.slice.injEq] at hv;obtain⟨rfl,_,rfl⟩:=hv;have af:=(Ee _ _ _).1 (HST.row.2.1 ms[j] (A9a hjm));have ae:=(Ee _ _ _).1 (HST.row.2.1 ms[j+1] (A9a hjn));obtain⟨pa,ca,ag⟩:=Ac af.1;obtain⟨qa,da,T⟩:=Ac af.2.1;obtain⟨pb,cb,U⟩:=Ac ae.1;obtain⟨qb,db,lD⟩:=Ac ae.2.1;have hlt:(ms.take (j+1)).length=j+1:=by rw[Ba7];omega
 have htt:(ms.take (j+1)).take j=ms.take j:=by rw[List.take_take];congr 1;omega
 have hall:(Value.slice (some ⟨g,0,none⟩) ms.length rc::(Bq (ms.take j)++(ms[j].vals++ms[j+1].vals))).Pairwise Aside:=by
  have h2:=HST.row.2.2;have e3:=congrArg Bq (Vg hml hjm hjn);rw[Cb,show [ms[j],ms[j+1]]=[ms[j]]++[ms[j+1]] from rfl,Cb,Dt,Dt] at e3;rw[e3] at h2;exact h2
 have G:Hid (∀V,Below W.heap.size W V->Calls prog 58 #[.int .i64 3, .agg #[.int .i64 ms[j].kind, .int .i64 ms[j].op,ms[j].av,ms[j].kv], .agg #[.int .i64 ms[j+1].kind, .int .i64 ms[j+1].op,ms[j+1].av,ms[j+1].kv]] V λe t=>Afl t base (ms[j].vals++ms[j+1].vals) V.heap.size (Ff 3 ms[j].net ms[j+1].net) e/\Below V.heap.size V t):=λV h=>by
  have z:=HST.below h;have aL:=HS.out;refine A1e 3 ms[j] ms[j+1] base V (z.row.2.1 _ (A9a hjm)) (z.row.2.1 _ (A9a hjn)) (List.pairwise_append.1 (List.pairwise_cons.1 hall).2).2.1 ?_ (A9f ab z.bel.size);have e4:=congrArg (λaD:List Ah=>Stil.sizes (aD.map Ah.net)) (Vg hml hjm hjn);simp only[A9h,H6,A9l,A97,Dv,Ol] at e4;omega
 have bW:Hid (∀V,Below W.heap.size W V->(V.cell? ⟨g,j*4,none⟩=some (.int .i64 ms[j].kind)/\V.cell? ⟨g,j*4+1,none⟩=some (.int .i64 ms[j].op)/\V.cell? ⟨g,j*4+2,none⟩=some ms[j].av/\V.cell? ⟨g,j*4+3,none⟩=some ms[j].kv)/\V.frozen? ⟨g,j*4,none⟩=false/\V.frozen? ⟨g,j*4+1,none⟩=false/\V.frozen? ⟨g,j*4+2,none⟩=false/\V.frozen? ⟨g,j*4+3,none⟩=false):=λV h=>
  ⟨⟨(h.cell L).trans A,(h.cell L).trans B,(h.cell L).trans D,(h.cell L).trans F⟩,(HST.below h).row.1.frozenAt _,(HST.below h).row.1.frozenAt _,(HST.below h).row.1.frozenAt _,(HST.below h).row.1.frozenAt _⟩
 have H:Hid (∀(V:World) (M:Ah),Below W.heap.size W V->I7 V base M->M.net=Ff 3 ms[j].net ms[j+1].net->(∀x∈M.vals,x∈ms[j].vals++ms[j+1].vals\/∀q,x.ownBlock=some q->W.heap.size<=q)->Gq ((((V.setCell ⟨g,j*4,none⟩ (.int .i64 M.kind)).setCell ⟨g,j*4+1,none⟩ (.int .i64 M.op)).setCell ⟨g,j*4+2,none⟩ M.av).setCell ⟨g,j*4+3,none⟩ M.kv) base (.slice (some ⟨g,0,none⟩) (j+1) rc) ((ms.take (j+1)).set j M)/\((((ms.take (j+1)).set j M)).map Ah.net).reverse=Ib 5 ⟨op,y⟩ (ms.map Ah.net).reverse/\Below base w ((((V.setCell ⟨g,j*4,none⟩ (.int .i64 M.kind)).setCell ⟨g,j*4+1,none⟩ (.int .i64 M.op)).setCell ⟨g,j*4+2,none⟩ M.av).setCell ⟨g,j*4+3,none⟩ M.kv)):=λV M h hM C hv=>by
  have z:=HST.below h;refine⟨?_,A4d spz hml hjm hjn C,bl4 (z.bel.mono ab) aw⟩;have hr:=z.row.firsts (n:=j+1) omz;rcases hr with hr | hr
  ·exact zP
  ·omega
 have iD:Hid ((ms.take (j+1)).length=j+1):=hlt;obtain⟨X,hX⟩:∃X,X=ms[j]:=⟨_,rfl⟩
 obtain⟨ay,hZ⟩:∃X,X=ms[j+1]:=⟨_,rfl⟩
 rw[<-hX] at A B D F G bW H ag T;rw[<-hZ] at Q z1 z2 Y G H U lD;obtain⟨xk,fJ,eY,nP,kY,eX⟩:=X;obtain⟨zk,aU,aI,aO,aH,aM⟩:=ay;simp only at ag T U lD A B D F Q z1 z2 Y G bW;subst ag;subst T;subst U;subst lD;clear hX hZ f x0 x1 x2 x3 x4 x5 x6 x7 af ae C hall hlt htt;obtain⟨J,hJ⟩:∃J,J=j+1:=⟨_,rfl⟩
 have jg:ms.length=J+1:=omz
 have e5:((J+1:Nat):Int) - 1=(J:Int):=omz
 have e6:(J:Int) - 1=(j:Int):=omz
 have i0:j<J+1:=omz
 have i1:(j:Int)<((J+1:Nat):Int):=omz
 have i2:j<=J:=omz
 have i3:(j:Int)<=(J:Int):=omz
 have i4:j<J:=omz
 have i5:(j:Int)<(J:Int):=omz
 have aW:j<=800000:=omz
 have aT:IntKind.i64.wrap ((J:Int) - 1)=(j:Int):=by rw[IntKind.wrap_i64];omega
 have aP:IntKind.i64.wrap (j:Int)=(j:Int):=by rw[IntKind.wrap_i64];omega
 have aS:J<=800000:=omz
 have aR:J<=rc:=omz
 rw[<-hJ] at Q z1 z2 Y H iD;rw[jg,e5];clear hml hjn hJ;go_upto_region 16 with fail
 go_region_with (go_at_call 58;refine(G _ blA).mono ?_;rintro e E ⟨⟨o,r,b,u,v,s,l,d,rfl,au,ar,ah⟩,aV⟩;have bG:Hid (I7 E base ⟨o,r,b, .slice u b.length v, .slice s d.length l,d⟩):=au;have aQ:Hid ((Ah.mk o r b (.slice u b.length v) (.slice s d.length l) d).net=_):=ar;have jP:Hid (∀x∈(Ah.mk o r b (.slice u b.length v) (.slice s d.length l) d).vals,_\/∀q,x.ownBlock=some q->W.heap.size<=q):=ah;clear au ar ah A B D F;obtain⟨⟨A,B,D,F⟩,f0,f1,f2,f3⟩:=bW E blA;have an:Below W.heap.size W E:=blA;have aA:Hid (Below W.heap.size W E):=an;clear an)
 all_goals
  obtain⟨ac,hr2,Z⟩:=H E (Ah.mk o r b (.slice u b.length v) (.slice s d.length l) d) aA bG aQ jP.out;simp only at ac Z;have az:Hid (Gq _ base (.slice (some ⟨g,0,none⟩) J rc) ((ms.take J).set j (Ah.mk o r b (.slice u b.length v) (.slice s d.length l) d))):=ac;have aE:Hid ((((ms.take J).set j (Ah.mk o r b (.slice u b.length v) (.slice s d.length l) d)).map Ah.net).reverse=_):=hr2;have aB:Hid (Below base w _):=Z;clear ac hr2 Z
  go_wp2
  go_ret;refine⟨some ⟨g,0,none⟩,rc,(ms.take J).set j (Ah.mk o r b (.slice u b.length v) (.slice s d.length l) d),by rw[Bbl,iD.out];rfl,?_,aE.out,aB.out⟩;rw[Bbl,iD.out];exact az.out
theorem A8v (i:Stil.F7)(b:Value)(a:List Ah)(c:Option Addr)(d base:Nat)(w:World)(l:Gq w base (.slice c a.length d) a)(m:A7 w b i.one.args)(f:i.fits)(q:1<=i.code/\i.code<=6)(n:Stil.needs i.code<=a.length)(k:Stil.sizes (a.map Ah.net)<=800000)(g:base<=w.heap.size):
  Calls prog 24 #[.slice c a.length d, .agg #[.int .i64 i.code, .int .i64 i.one.op,b]] w λe o=>Akb w o base (Ib i.code i.one (a.map Ah.net).reverse) e:=by
 have h:i.code=1\/i.code=2\/i.code=3\/i.code=4\/i.code=5\/i.code=6:=omz
 rcases h with h | h | h | h | h | h
 ·exact A77 i b a c d base w l m f h n k g
 ·exact A76 i b a c d base w l m f h n k g
 ·exact A75 i b a c d base w l m f h n k g
 ·exact A74 i b a c d base w l m f h n k g
 ·exact A73 i b a c d base w l m f h n k g
 ·exact A72 i b a c d base w l m f h n k g
end Go.Proofs.YtobbpffcggchmaaGreatDoor
