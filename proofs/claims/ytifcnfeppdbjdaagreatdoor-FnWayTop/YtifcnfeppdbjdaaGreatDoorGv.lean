import Derived.Test.YtifcnfeppdbjdaaGreatDoorZ9
import Derived.Test.YtifcnfeppdbjdaaGreatDoorGu
namespace Go.Proofs.YtifcnfeppdbjdaaGreatDoor
open Tryz Stil Go.RowKit Go.Sort Go.BigFrame
variable {a:Act}{base n:Nat}{o:Oper}{ops:Array Oper}{u0 u1 u2 u3:Value}
theorem qS {w:World}{K:Act->World->Prop}{Q:Exit->Act->World->Prop}{E:Prop}
  (hg:o.guard=none) (s x:Operand) (hop:o.op=.call {callee:=.builtin .append,args:=#[s,x],argTypes:=#[23,23]})
  (base:Nat) (ra:Option Addr) (rc:Nat) (ms ks:List Bq) (ad:Option Addr) (c:Nat) (hs:a.eval s=AE ra ms.length rc) (hx:a.eval x=AE ad ks.length c)
  (hrow:Su w base (AE ra ms.length rc) ms) (z:0<ks.length->∃p,ad=some p/\∀j u,(Jl ks)[j]?=some u->w.cell? (p.add j)=some u)
  (r:∀m∈ks,AOk w base m) (C:(Value.slice ra ms.length rc::(Iy ms++Iy ks)).Pairwise Aside) (hl:ms.length+ks.length<=1000000) (M:base<=w.heap.size)
  (l:∀f b d,Su d base (AE f (ms.length+ks.length) b) (ms++ks)->w.grownBy d (Value.slice ra ms.length rc).ownBlock->((Value.slice f (ms.length+ks.length) b).ownBlock=(Value.slice ra ms.length rc).ownBlock\/(Value.slice f (ms.length+ks.length) b).ownBlock=some w.heap.size)->K (a.put o.dst (AE f (ms.length+ks.length) b)) d):
  if Region.wanted o (yielded ops a.tmps)=true then Oper.wp prog o a w K Q else E:=by
 obtain⟨I,hi,D,J,B⟩:=info_parts ZR;by_cases hd:ks.length=0
 ·have y:=List.length_eq_zero_iff.1 hd
  subst y;have G:Region.wanted o (yielded ops a.tmps)=true:=by simp[Region.wanted,hg]
  rw[if_pos G];have hcap:ms.length<=rc:=by
   rcases hrow.1.2 with⟨k,i⟩ | ⟨g,b,cur,k,_,_,L,_⟩
   ·rw[i];exact DI _
   ·simp only[Value.slice.injEq] at k
    rw[k.2.2];exact L
  have hk2:=l ra rc w yDc (PN _ _) (.inl AU);simp only[CO,EO] at hk2 hx;unfold Oper.wp execOp;cases ad
  ·exact zi0
  ·exact zd0
 ·obtain⟨p,rfl,F⟩:=z AQ
  refine Eh hg s x _ hop base 62 I _ 6 112 underlying23 hi D J B rfl AY _ _ (Jl ms) hs hrow.1 _ _ _ (Jl ks) hx (XH ks) F (VG r) A6 AQ M ?_;intro N d i t q;obtain⟨H,v,A⟩:=Ah i;subst A;exact l H v d (hrow.add r C i t q) t q
theorem Z1 {x y b:Value}(h:Aside x y)(hx:∀q,x.ownBlock=some q->q<n)(d:b.ownBlock=y.ownBlock\/b.ownBlock=some n):Aside x b:=by
 rcases d with e | e
 ·rcases h with h0 | h0
  ·exact .inl h0
  ·exact .inr B0
 ·by_cases f:x.ownBlock=none
  ·exact .inl f
  ·refine .inr (λc=>?_)
   rw[e] at c;have:=hx _ c
   omega
theorem Lt.addKid {w1 f:World}{m k:Bq}{kv':Value}(h:Lt w1 base m)(v:∀x∈k.vals,∀y∈m.vals,Aside x y)(hr:Su f base kv' (m.kids++[k]))(hg:w1.grownBy f m.kv.ownBlock)(u:kv'.ownBlock=m.kv.ownBlock\/kv'.ownBlock=some w1.heap.size):
  Lt f base ⟨m.net,m.cv,m.coils,kv',m.kids++[k]⟩/\∀x∈(Bq.mk m.net m.cv m.coils kv' (m.kids++[k])).vals,x∈m.vals\/x∈k.vals\/x=kv':=by
 obtain⟨w,p⟩:=h;have s:=λx b q A=>(w.lt m x b q A).2
 obtain⟨G,⟨B,D⟩,_,_⟩:=(Jp _ _ _).1 w;have z:(Bq.mk m.net m.cv m.coils kv' (m.kids++[k])).vals=m.net.vals++((m.cv::G6 m.coils)++(kv'::(Iy m.kids++k.vals))):=by rw[Bq.vals_eq];simp only;rw[Yv,Ro]
 have d:m.vals=m.net.vals++((m.cv::G6 m.coils)++(m.kv::Iy m.kids)):=Bq.vals_eq _;have i:∀x∈m.net.vals,x∈m.vals:=λx b=>by rw[d];exact E1 _ b
 have e:∀x∈m.cv::G6 m.coils,x∈m.vals:=λx b=>by rw[d];exact D3 _ (E1 _ b)
 have E:∀x∈Iy m.kids,x∈m.vals:=λx b=>by rw[d];exact D3 _ (D3 _ (CQ _ b))
 rw[d] at p;obtain⟨C,H,g⟩:=List.pairwise_append.1 p;obtain⟨F,_,t⟩:=List.pairwise_append.1 H;have l:=λx b=>g x b _ (D3 _ (E4 ..))
 have j:=λx b=>t x b _ (E4 ..)
 refine⟨⟨(Jp _ _ _).2 ⟨G.kept hg l,⟨B.kept hg (j _ (E4 ..)),λx b=>(D x b).kept hg (j _ (CQ _ (Po.2 ⟨x,b,rfl⟩)))⟩,hr.1,hr.2.1⟩,?_⟩,?_⟩
 ·rw[z]
  have r:=hr.2.2;rw[Yv,Ro] at r;refine List.pairwise_append.2 ⟨C,List.pairwise_append.2 ⟨F,r,λx b y c=>?_⟩,λx b y c=>?_⟩
  ·rcases List.mem_cons.1 c with rfl | c
   ·exact Z1 (j x b) (s x (e x b)) u
   rcases List.mem_append.1 c with c | c
   ·exact t x b y (CQ _ c)
   ·exact(v y c x (e x b)).symm
  ·rcases List.mem_append.1 c with c | c
   ·exact g x b y (E1 _ c)
   rcases List.mem_cons.1 c with rfl | c
   ·exact Z1 (l x b) (s x (i x b)) u
   rcases List.mem_append.1 c with c | c
   ·exact g x b y (D3 _ (CQ _ c))
   ·exact(v y c x (i x b)).symm
 ·intro x b
  rw[z] at b;rcases List.mem_append.1 b with b | b
  ·exact .inl (i x b)
  rcases List.mem_append.1 b with b | b
  ·exact .inl (e x b)
  rcases List.mem_cons.1 b with rfl | b
  ·exact .inr (.inr rfl)
  rcases List.mem_append.1 b with b | b
  ·exact .inl (E x b)
  ·exact .inr (.inl b)
theorem Lt.krow {w:World}{m:Bq}(h:Lt w base m):Su w base m.kv m.kids:=by
 obtain⟨c,b⟩:=h;obtain⟨_,_,e,d⟩:=(Jp _ _ _).1 c;rw[Bq.vals_eq] at b;exact⟨e,d,(List.pairwise_append.1 (List.pairwise_append.1 b).2.1).2.1⟩
theorem B6.al {w:World}{b:Nat}{v0 d c e g f:Value}(h:B6 w b v0 d c e g f)(o:Obj):B6 (w.alloc o) b v0 d c e g f:=h.at (Aa _ _)
theorem RY {W:World}{b c:Value}{t:TypeId}:∀j u,[u0,u1,u2,u3,b,c][j]?=some u->(W.alloc (.cells #[u0,u1,u2,u3,b,c] t)).cell? (((AL W 0):Addr).add j)=some u:=by
 intro j u h;rw[Addr.add_lit]
 match j,h with
 | 0,h=>simp at h;subst h;simp[go_sem]
 | 1,h=>simp at h;subst h;simp[go_sem]
 | 2,h=>simp at h;subst h;simp[go_sem]
 | 3,h=>simp at h;subst h;simp[go_sem]
 | 4,h=>simp at h;subst h;simp[go_sem]
 | 5,h=>simp at h;subst h;simp[go_sem]
 | j+6,h=>simp at h
theorem Xn {rest:List Oper}{w:World}{Q:Exit->Act->World->Prop}
  (hg:o.guard=none) (s x:Operand) (D:o.op=.call {callee:=.builtin .append,args:=#[s,x],argTypes:=#[60,60]})
  (base:Nat) (g:Option Addr) (d n:Nat) (b ks:List Ej) (k:n=b.length) (ad:Option Addr) (c:Nat) (v:a.eval s=AE g n d) (hx:a.eval x=AE ad ks.length c)
  (y:Vj w base (AE g b.length d) b) (l:0<ks.length->∃p,ad=some p/\∀j u,(Jc ks)[j]?=some u->w.cell? (p.add j)=some u)
  (A:∀m∈ks,EOk w base m) (q:(Value.slice g b.length d::(G6 b++G6 ks)).Pairwise Aside) (hl:b.length+ks.length<=1000000) (F:base<=w.heap.size)
  (h:∀f e i,Vj i base (AE f (n+ks.length) e) (b++ks)->w.grownBy i (Value.slice g n d).ownBlock->((Value.slice f (n+ks.length) e).ownBlock=(Value.slice g n d).ownBlock\/(Value.slice f (n+ks.length) e).ownBlock=some w.heap.size)->wpList prog ops Q rest (a.put o.dst (AE f (n+ks.length) e)) i):
  wpList prog ops Q (o::rest) a w:=by
 subst k;refine wpList_plain hg λK r=>?_
 have t:Region.wanted o (yielded #[] a.tmps)=true:=by simp[Region.wanted,hg]
 have:=Zu (ops:=#[]) (K:=K) (Q:=Q) (E:=True) hg s x D base g d b ks ad c v hx y l A q hl F (λf e i B C z=>r _ _ (h f e i B C z))
 rwa [if_pos t] at this
theorem Zk {a b:World}(h:Below n a b)(p:Addr)(v:Value):Below n (a.setCell p v) (b.setCell p v):=by
 refine⟨h.os,h.tape,h.output,by simpa using h.size,λk c=>?_⟩;have:=h.block k c
 simp only[World.setCell,JG];split
 ·rw[this]
 ·exact this
theorem VZ {c:Nat}{a b:World}(h:Below n a b):Below n ((((a.setCell (AK c 0) u0).setCell (AK c 1) u1).setCell (AK c 2) u2).setCell (AK c 3) u3) ((((b.setCell (AK c 0) u0).setCell (AK c 1) u1).setCell (AK c 2) u2).setCell (AK c 3) u3):=
 Zk (Zk (Zk (Zk h _ _) _ _) _ _) _ _
set_option maxHeartbeats 4000000 in
set_option maxRecDepth 100000 in
theorem i7 (a:Stil.B8):Dh a->Aj a<=900000->Ll a->∀(av nv cv kv:Value) (w:World),Dk w av a.net.one.args->Gn w nv a.net.kids->Iz w cv a.coils->Fe w kv a.kids->Calls prog 51 #[.agg #[AB a.net.kind,AB a.net.one.op,av,nv,cv,kv]] w λe w'=>KX w' w.heap.size (Dt a) e/\AO w w':=by
 induction a using Gl with
 | h n cs kids ih=>
  intro bE ax cz av nv cv kv w aI aH aL aM;obtain⟨bX,di,cd,aS,dH⟩:=(F7 _ _ _).1 bE;obtain⟨b8,aN⟩:=(Qk _ _ _).1 cz;simp only at aI aH aL aM;have bM:∀x∈kids,Aj x<=900000:=by
   intro x y;have:Aj x<=I5 kids:=D9 Aj kids x y;rw[Ce] at ax;omega
  have dl:kids.length<=999999:=by
   have h1:=Og kids;rw[Ce] at ax;omega
  have cm:cs.length<=999999:=by
   rw[Ce] at ax;omega
  have cG:Am n=false->Af n<=999999:=by
   intro h;rw[Ce] at ax;have e:Stil.BK n=Af n:=if_neg yDj;omega
  have H1:=AV (λW h=>jX cs cv W (aL.below h) cm cd);have H2:=AV (λx y=>ih x y (dH x y) (bM x y) (aN x y));have H3:=AV (λW h=>Y2 n av nv W (aI.below h) (aH.below h) bX);have H4:Hid (Am n=false->∀W,AO w W->Calls prog 88 #[.agg #[AB n.kind,AB n.one.op,av,nv]] W λe w'=>Rq w' W.heap.size (Ap n) e/\AO W w'):=λhn W h=>QT n bX (b8.resolve_left (by rw[hn];exact FO)) (by have:=cG hn;omega) av nv W (aI.below h) (aH.below h)
  have jA:=AV (λW (h:AO w W)=>aM.below h);have HJ:=AV (Oz n cs kids);have HM:Hid (Zo 900000 ⟨Us n,cs,kids.map Dt⟩):=by
   have:=QG bE ax (λx y=>Y8 x (dH x y) (bM x y))
   exact⟨this.1,CJ this.2 ax⟩
  have cq:Hid (E8 ⟨Us n,cs,kids.map Dt⟩):=(En _ _ _).2 ⟨Tn b8,λx y=>by obtain⟨ae,U,rfl⟩:=List.mem_map.1 y;exact U2 ae (aN ae U)⟩;have vO:=AV dl;obtain⟨bh,hT⟩:=AA (Dt ⟨n,cs,kids⟩)
  rw[<-hT] at HJ ⊢;obtain⟨p0,r0,rfl,dq⟩:=aI;obtain⟨p1,r1,rfl,cJ⟩:=aH;obtain⟨p2,r2,rfl,dk⟩:=aL;obtain⟨p3,r3,rfl,dd⟩:=aM;clear dq cJ dk dd ih bE ax bX di cd aS dH bM cm cG hT cz b8 aN;go_enter func51,ntmps51;go_upto_region 1 with fail
  obtain⟨W,hW⟩:=AA ((w.alloc (.cells #[AB n.kind,AB n.one.op,AE p0 n.one.args.length r0,AE p1 n.kids.length r1,AE p2 cs.length r2,AE p3 kids.length r3] 62)).alloc (.cells #[AB 0,AB 0,AG,AG,AG,AG] 62))
  rw[<-hW];have hA:B6 W w.heap.size (AB n.kind) (AB n.one.op) (AE p0 n.one.args.length r0) (AE p1 n.kids.length r1) (AE p2 cs.length r2) (AE p3 kids.length r3):=by rw[hW];exact(B6.new w _ _ _ _ _ _ _).at (Aa _ _)
  have hZ:B6 W (w.heap.size+1) (AB 0) (AB 0) AG AG AG AG:=by rw[hW];have:=B6.new (w.alloc (.cells #[AB n.kind,AB n.one.op,AE p0 n.one.args.length r0,AE p1 n.kids.length r1,AE p2 cs.length r2,AE p3 kids.length r3] 62)) (AB 0) (AB 0) AG AG AG AG 62;simpa using this
  have cf:W.heap.size=w.heap.size+2:=by rw[hW];simp
  have bf:AO w W:=by rw[hW];exact Bd (Aa _ _) _
  clear hW;have HA:=AV hA;have HZ:=AV hZ;have bH:=AV cf;have bv:w.heap.size<W.heap.size:=AQ
  obtain⟨_,⟨_,_,_,_,p4,_⟩,_⟩:=hA;clear hZ cf;go_cut [3] (λs3 wc=>∃(B:Nat) (m:Bq),s3=AH B/\NSt w wc B m/\m.arm=⟨Stil.none0,cs,[]⟩/\B6 wc w.heap.size (AB n.kind) (AB n.one.op) (AE p0 n.one.args.length r0) (AE p1 n.kids.length r1) (AE p2 cs.length r2) (AE p3 kids.length r3))
  case first=>
   go_wp2_with (go_at_call 87;refine(H1 _ (by exact bf)).mono ?_;rintro e w1 ⟨ra,rc,gY,rfl,af,cr,cy⟩;have fH:=cy;have dm:=bf.trans (fH.mono bf.size);have cJ:=CB bv fH.size;have dC:=(fH.cell (p:=(AL w 4)) bv).trans p4;have qo:=AV af;have qm:Hid (Vj w1 _ (AE ra gY.length rc) gY):=cr;have dN:Hid (Below _ _ w1):=cy;clear af cr)
   go_meet;have dA:=bH.out;obtain⟨ho,hv⟩:=LU (base:=w.heap.size+2) (lA:=w1.heap.size) qm (Su.nil w1 w1.heap.size) (Below.refl _ _) yGe (CG _) (by have:=fH.size;omega);have ax:=fH.size;refine⟨w1.heap.size,⟨Qy,AE ra gY.length rc,gY,AG,[]⟩,rfl,⟨AQ,B6.new _ _ _ _ _ _ _ _,ho.below (Aa _ _),λx y e=>by(have h:=hv x y _ e;omega),(HZ.at fH).at (Aa _ _),Bd dm _⟩,?_,(HA.at fH).at (Aa _ _)⟩;rw[Bq.arm_eq];simp only;rw[qo.out,Y9];rfl
  case rest=>
   clear p4 bf bv bH HA HZ;obtain⟨B,m,rfl,aA,ap,hA⟩:=hcut;have aE:=AV aA;have jZ:=AV ap;have HA:=AV hA;clear aA ap H1;obtain⟨aV,⟨cn,cE,ck,zJ,y9,y8⟩,db⟩:=hA;clear db;obtain⟨ak,an,ac,ah,ai,hbw⟩:=aE.out;obtain⟨t,ht⟩:=AA (Am n)
   have HT:=AV ht;have fK:Hid (∀W,AO wc W->Calls prog 62 #[.agg #[AB n.kind,AB n.one.op,AE p0 n.one.args.length r0,AE p1 n.kids.length r1]] W (AN W (.bool t))):=by rw[ht];exact λW h=>H3 W (hbw.trans (h.mono hbw.size))
   have dO:Hid (t=false->∀W,AO wc W->Calls prog 88 #[.agg #[AB n.kind,AB n.one.op,AE p0 n.one.args.length r0,AE p1 n.kids.length r1]] W λe w'=>Rq w' W.heap.size (Ap n) e/\AO W w'):=by rw[ht];exact λhn W h=>H4 hn W (hbw.trans (h.mono hbw.size))
   clear ht H3 H4 ak an ac ah ai hbw;go_upto_if 13 with(go_at_call 62;refine(fK _ AW).mono ?_;rintro e w3 ⟨rfl,aD⟩;obtain⟨a8,ba⟩:=Ef aD;have wC:=CB aV aD.size;have q0:w3.cell? (AL w 0)=_:=(a8 _ _ aV).trans cn;have q1:w3.cell? (AL w 1)=_:=(a8 _ _ aV).trans cE;have q2:w3.cell? (AL w 2)=_:=(a8 _ _ aV).trans ck;have q3:w3.cell? (AL w 3)=_:=(a8 _ _ aV).trans zJ;clear a8 ba)
   clear fK;have jK:Hid (NSt w w3 B m):=by
    obtain⟨ak,an,ac,ah,ai,hbw⟩:=aE.out;exact⟨ak,an.at aD,ac.below aD,ah,ai.at aD,Bc hbw aD⟩
   have nT:=AV (λh=>dO h w3 aD);have cb:=HA.at aD;clear aE HA aV cn cE ck zJ y9 y8 aD dO;have bG:=AV cb;clear cb;go_cut [] (λwd=>∃m:Bq,NSt w wd B m/\m.arm=⟨Us n,cs,[]⟩/\B6 wd w.heap.size (AB n.kind) (AB n.one.op) (AE p0 n.one.args.length r0) (AE p1 n.kids.length r1) (AE p2 cs.length r2) (AE p3 kids.length r3))
   case first=>
    cases t with
    | true=>
     have dZ:Hid (Us n=n/\n=Stil.none0):=⟨if_pos HT.symm,IZ HT.symm⟩
     clear nT
     go_wp2
     go_meet;exact⟨m,jK.out,by rw[jZ.out,dZ.out.1,dZ.out.2],bG.out⟩
    | false=>
     have dZ:Hid (Us n=Ap n):=if_neg (by rw[<-HT.out];exact FO);have zG:=AV (nT rfl);clear nT
     go_wp2_with (go_at_call 88;refine zG.mono ?_;rintro e z ⟨⟨mk,A,d,s0,t0,f,t1,c,rfl,aw,af⟩,hb4⟩;have aT:=AV aw;have aO:=AV af;clear aw af;have nI:Hid (NM z B m):=B6.at jK.2.1 hb4;obtain⟨cF,⟨M,L,y2,y3,_,_⟩,fP⟩:=nI.out;have f0:=fP 0 AQ;have F:=fP 1 AQ;have f2:=fP 2 AQ;have f3:=fP 3 AQ;clear fP)
     go_meet;obtain⟨ak,an,ac,ah,ai,hbw⟩:=jK.out;have dx:=hb4.size;have ax:=hbw.size;have dG:=an.1;have hN:Ls z (w.heap.size+2) ⟨mk,A,d,AE s0 d.length t0,AE f c.length t1,c⟩:=aT.le AQ;have bu:=Lt.setNet (ac.below hb4) hN (λx y q hq=>(aT.1.lt _ x y q hq).1) (λx y q hq=>(ac.1.lt _ x y q hq).2);have pI:∀x∈(Bq.mk ⟨mk,A,d,AE s0 d.length t0,AE f c.length t1,c⟩ m.cv m.coils m.kv m.kids).vals,x.ownBlock≠some B:=by
      intro x y e;rw[Bq.vals_eq] at y;rcases List.mem_append.1 y with y | y
      ·have:=(aT.1.lt _ x y _ e).1;omega
      ·exact ah x (by rw[Bq.vals_eq];exact D3 _ y) e
     refine⟨⟨⟨mk,A,d,AE s0 d.length t0,AE f c.length t1,c⟩,m.cv,m.coils,m.kv,m.kids⟩,⟨ak,B6.setN nI.out,Lt.setN bu pI,pI,B6.set4O (ai.at hb4) AQ,?_⟩,?_,B6.set4O (bG.at hb4) AQ⟩
     ·exact zz0
     ·exact zs0
   case rest=>
    obtain⟨m2,aA,ap,hA⟩:=hcut;clear jZ jK nT q0 q1 q2 q3 bG wC;have aE:=AV aA;have jZ:=AV ap;clear aA ap
    go_wp2
    go_loopw [4] (λi wr=>∃(j:Nat) (m:Bq),j<=kids.length/\i=AB j/\NSt w wr B m/\m.arm=⟨Us n,cs,(kids.take j).map Dt⟩/\B6 wr w.heap.size (AB n.kind) (AB n.one.op) (AE p0 n.one.args.length r0) (AE p1 n.kids.length r1) (AE p2 cs.length r2) (AE p3 kids.length r3)) (λi _=>kids.length - (intOf i).toNat)
    case atStart=>exact⟨0,m2,AQ,rfl,aE.out,by rw[jZ.out];rfl,hA⟩
    case round=>
     clear aE jZ hA HT;obtain⟨j,m3,hj,rfl,aA,ap,hA⟩:=hrel;obtain⟨ak,an,ac,ah,ai,hbw⟩:=aA;obtain⟨X,Z,C,Y,V,b1,e1,D,F,G,f,h1,j1,E,rfl⟩:=Yf m3 ac.1;have aS:E.length=j:=by
      rw[Bq.arm_eq] at ap;have h2:=congrArg (λa:Stil.B8=>a.kids.length) ap;simp only[CW,FY] at h2;omega
     have iK:B6 wr B (AB X) (AB Z) (AE Y C.length V) (AE b1 D.length e1) (AE F f.length G) (AE h1 E.length j1):=an;have bY:=AV iK;have fM:=AV ac;have dZ:=AV ah;have uF:=AV ai;have iZ:=AV hbw;have jZ:=AV ap;have ar:=AV ak;have HA:=AV hA;have b6:Hid (w.heap.size+2<=wr.heap.size):=by have:=iK.1;show _<=_;omega
     by_cases bi:j<kids.length
     ·have aK:=jA wr hbw
      obtain⟨pa,pc,cK,cu⟩:=aK;simp only[Value.slice.injEq,true_and] at cK;obtain⟨rfl,rfl⟩:=cK;obtain⟨b,o,rfl,dX,hn⟩:=cu j bi;obtain⟨cA,cY,zq,x4,x5,aL,aM⟩:=hn.open;obtain⟨H,J,jW,jT,x2,x3,aI,aH⟩:=cA.open;have HI:=AV (λW h=>H2 kids[j] (CN bi) jW jT cY zq W (aI.below h) (aH.below h) (aL.below h) (aM.below h));have aX:Hid ((kids.take (j+1)).map Dt=(kids.take j).map Dt++[Dt kids[j]]):=by show _=_;rw[D2 bi,CU];rfl
      obtain⟨x,y⟩:=AA (kids[j])
      rw[<-y] at HI aX H J aI aH aL aM;obtain⟨q0,s0,rfl,_⟩:=aI;obtain⟨q1,dU,rfl,_⟩:=aH;obtain⟨q2,dQ,rfl,_⟩:=aL;obtain⟨q3,dP,rfl,_⟩:=aM;obtain⟨ab,⟨_,_,_,_,_,y5⟩,fP⟩:=iK;obtain⟨dV,⟨_,_,_,_,_,z5⟩,_⟩:=hA;have da:=AV (fP 5 AQ);have bT:E.length+[(Bq.mk ⟨X,Z,C,AE Y C.length V,AE b1 D.length e1,D⟩ (AE F f.length G) f (AE h1 E.length j1) E)].length<=1000000:=by simp only[ED];omega
      have aB:Value.slice h1 E.length j1∈(Bq.mk ⟨X,Z,C,AE Y C.length V,AE b1 D.length e1,D⟩ (AE F f.length G) f (AE h1 E.length j1) E).vals:=by rw[Bq.vals_eq];simp
      have bg:=AV (ah _ aB);have qW:=AV (λq hq=>(ac.1.lt _ _ aB q hq).1);have dF:(0:Int)<=(j:Int):=AQ
      have dE:(j:Int)<(kids.length:Int):=AQ
      clear y hn cA cu an ac ah ai hbw ap ak fP aB aS;go_upto_region 7 with fail
      go_region_law (first | (refine qS rfl _ _ rfl (w.heap.size+2) h1 j1 E [(Bq.mk ⟨mk,A,d,AE xa d.length ya,AE xb dB.length yb,dB⟩ (AE xc dD.length yc) dD (AE xd c.length yd) c)] (some (AL w5 0)) 1 rfl rfl (((fM.below aa).below (Aa _ _)).krow) (λ_=>⟨_,rfl,by exact RY⟩) (λm hm=>by rw[List.mem_singleton.1 hm];exact((aT.1.le b6.out).below (Aa _ _))) (fM.krow.apart (w1:=w5) (b1:=wr.heap.size) (λm hm=>by rw[List.mem_singleton.1 hm];exact aT.1) (CG _) (by rw[Ro];exact aT.2)) bT (by have:=aa.size;have:=b6.out;simp;omega) ?_;intro a6 c6 w6 bC aC aW;have iQ:Hid (Su w6 (w.heap.size+2) (AE a6 (E.length+1) c6) (E++[(Bq.mk ⟨mk,A,d,AE xa d.length ya,AE xb dB.length yb,dB⟩ (AE xc dD.length yc) dD (AE xd c.length yd) c)])):=bC;have bJ:Hid ((w5.alloc (.cells #[AB mk,AB A,AE xa d.length ya,AE xb dB.length yb,AE xc dD.length yc,AE xd c.length yd] 62)).grownBy w6 (Value.slice h1 E.length j1).ownBlock):=aC;have wz:Hid ((Value.slice a6 (E.length+1) c6).ownBlock=(Value.slice h1 E.length j1).ownBlock\/(Value.slice a6 (E.length+1) c6).ownBlock=some (w5.alloc (.cells #[AB mk,AB A,AE xa d.length ya,AE xb dB.length yb,AE xc dD.length yc,AE xd c.length yd] 62)).heap.size):=aW;have bN:B<(w5.alloc (.cells #[AB mk,AB A,AE xa d.length ya,AE xb dB.length yb,AE xc dD.length yc,AE xd c.length yd] 62)).heap.size:=Ax;have t5:=(Dx aC bN bg.out).trans ((Ey qI).trans cQ);have u5:=(Ik aC bN bg.out).trans (((Aa w5 (.cells #[AB mk,AB A,AE xa d.length ya,AE xb dB.length yb,AE xc dD.length yc,AE xd c.length yd] 62)).frozen (p:=(AK B 5)) qI).trans de.out);clear bC aC aW bN) | (go_simp;go_at_call 51;refine(HI _ yEb).mono ?_;rintro e w5 ⟨⟨mk,A,d,xa,ya,dB,xb,yb,dD,xc,yc,c,xd,yd,rfl,aw,af⟩,ik⟩;have aa:=Bc (Below.refl _ _).drew ik;have aT:Hid (Lt w5 wr.heap.size (Bq.mk ⟨mk,A,d,AE xa d.length ya,AE xb dB.length yb,dB⟩ (AE xc dD.length yc) dD (AE xd c.length yd) c)):=aw;have aO:=AV af;have qI:=CB ab aa.size;have cQ:=(aa.cell (p:=(AK B 5)) ab).trans y5;have de:=AV ((aa.frozen (p:=(AK B 5)) ab).trans da.out);clear aw af ik))
      all_goals
       go_wp2
       have cF:=ar.out;have hg:=bJ.out;have cD:=Lt.addKid (m:=(Bq.mk ⟨X,Z,C,AE Y C.length V,AE b1 D.length e1,D⟩ (AE F f.length G) f (AE h1 E.length j1) E)) (k:=(Bq.mk ⟨mk,A,d,AE xa d.length ya,AE xb dB.length yb,dB⟩ (AE xc dD.length yc) dD (AE xd c.length yd) c)) (kv':=AE a6 (E.length+1) c6) ((fM.below aa).below (Aa _ _)) (λx y ae U=>(Ho (n:=wr.heap.size) (λq hq=>(fM.1.lt _ ae U q hq).2) (λq hq=>(aT.1.lt _ x y q hq).1)).symm) iQ hg wz.out;have df:∀x∈(Bq.mk ⟨X,Z,C,AE Y C.length V,AE b1 D.length e1,D⟩ (AE F f.length G) f (AE a6 (E.length+1) c6) (E++[(Bq.mk ⟨mk,A,d,AE xa d.length ya,AE xb dB.length yb,dB⟩ (AE xc dD.length yc) dD (AE xd c.length yd) c)])).vals,x.ownBlock≠some B:=by
        intro x y e;rcases cD.2 x y with h | h | h
        ·exact dZ x h e
        ·have:=(aT.1.lt _ x h _ e).1;omega
        ·rw[h] at e
         rcases wz.out with h2 | h2
         ·rw[h2] at e;exact bg e
         ·rw[h2] at e;cases e;simp at qI;omega
       refine⟨⟨j+1,(Bq.mk ⟨X,Z,C,AE Y C.length V,AE b1 D.length e1,D⟩ (AE F f.length G) f (AE a6 (E.length+1) c6) (E++[(Bq.mk ⟨mk,A,d,AE xa d.length ya,AE xb dB.length yb,dB⟩ (AE xc dD.length yc) dD (AE xd c.length yd) c)])),AQ,by go_num,⟨cF,B6.set5 (B6.grown ((bY.at aa).al _) hg bg.out) _,Lt.setO cD.1 (a:=(AK B 5)) df _,df,B6.setO (B6.grown ((uF.at aa).al _) hg (λe=>by have:=qW _ e;omega)) AQ _,?_⟩,?_,B6.setO (B6.grown ((HA.at aa).al _) hg (λe=>by have:=qW _ e;omega)) AQ _⟩,by simp[intOf];omega⟩
       ·have hle:w.heap.size<=B:=by omega
        exact Dj hle ((Bd (Bc iZ aa) _).grown hg (by have:=iZ.size;have:=aa.size;simp;omega) (λk hk=>by have:=qW k hk;omega)) _
       ·have e:=jZ.out
        rw[Bq.arm_eq] at e ⊢;simp only[Stil.B8.mk.injEq] at e ⊢;refine⟨e.1,e.2.1,?_⟩;rw[CU,e.2.2,aX.out,GU,aO.out]
     ·obtain rfl:j=kids.length:=by omega
      have bz:=jZ.out;rw[Gk] at bz;have pg:=AV bz;have mg:Hid (NSt w wr B (Bq.mk ⟨X,Z,C,AE Y C.length V,AE b1 D.length e1,D⟩ (AE F f.length G) f (AE h1 E.length j1) E)):=⟨ar.out,bY.out,fM.out,dZ.out,uF.out,iZ.out⟩
      obtain⟨_,⟨_,_,_,_,_,z5⟩,_⟩:=hA;clear bz an iK ac ah ai hbw ap bY fM dZ uF iZ jZ HA b6 H2 jA bi aS ak;obtain⟨wo,dn⟩:∃wo:World,wo=wr:=⟨wr,rfl⟩
      subst dn
      go_wp2
      go_loopg [] (I5 (kids.map Dt)) (λk wr=>∃m:Bq,NSt w wr B m/\Stil.joined m.arm=bh/\Zo 900000 m.arm/\E8 m.arm/\I5 m.arm.kids<=k)
      case atStart=>
       refine⟨(Bq.mk ⟨X,Z,C,AE Y C.length V,AE b1 D.length e1,D⟩ (AE F f.length G) f (AE h1 E.length j1) E),mg.out,?_,?_,?_,?_⟩
       ·rw[pg.out,HJ.out]
       ·rw[pg.out];exact HM.out
       ·rw[pg.out];exact cq.out
       ·rw[pg.out];exact CG _
      case round=>
       clear mg pg HJ HM cq vO z5 X Z C Y V b1 e1 D F G f h1 j1 E ar;obtain⟨m3,aA,cx,bq,cI,cH⟩:=hrel;obtain⟨ak,an,ac,ah,ai,hbw⟩:=aA;obtain⟨X,Z,C,Y,V,b1,e1,D,F,G,f,h1,j1,E,rfl⟩:=Yf m3 ac.1;have iK:B6 wr B (AB X) (AB Z) (AE Y C.length V) (AE b1 D.length e1) (AE F f.length G) (AE h1 E.length j1):=an;have bY:=AV iK;have fM:=AV ac;have dZ:=AV ah;have uF:=AV ai;have iZ:=AV hbw;have yB:=AV cx;have dj:=AV bq;have dw:=AV cI;have dh:=AV cH;have ar:=AV ak;have aS:E.length<=900000/\f.length<=900000:=by
        have h0:=bq.2;rw[Bq.arm_eq,Ce] at h0;simp only[CW] at h0;have h1:(E.map Bq.arm).length<=I5 (E.map Bq.arm):=Og _;rw[CW] at h1;omega
       obtain⟨wK,cS⟩:=aS;obtain⟨ab,⟨H,J,x2,x3,x4,x5⟩,fP⟩:=iK;obtain⟨ag,⟨z0,z1,z2,z3,z4,z5⟩,mM⟩:=ai;have M:=mM 0 AQ;have L:=mM 1 AQ;have y2:=mM 2 AQ;have y3:=mM 3 AQ;have y4:=mM 4 AQ;have y5:=mM 5 AQ;have aU:w.heap.size+1≠B:=AQ
       clear an ac ah hbw cx bq cH ak mM cI;by_cases hk:E.length=1
       ·obtain⟨kid,rfl⟩:=List.length_eq_one_iff.1 hk
        obtain⟨_,_,aN,bc⟩:=(Jp _ _ _).1 fM.1;simp only at aN bc;obtain⟨O,N,s,P,R,Q,K,u,f2,g2,l,h2,j2,r,rfl⟩:=Yf kid (bc kid AU);obtain⟨g,rfl,aQ,q0,q1,q2,q3,q4,q5⟩:=YL aN;simp only[ED] at*;have cw:=(Jp _ _ _).1 (bc (Bq.mk ⟨O,N,s,AE P s.length R,AE Q u.length K,u⟩ (AE f2 l.length g2) l (AE h2 r.length j2) r) AU);obtain⟨ba,aj⟩:=MOk.from _ cw.1;have HE:Hid ((Bq.mk ⟨X,Z,C,AE Y C.length V,AE b1 D.length e1,D⟩ (AE F f.length G) f (AE (some (AK g 0)) 1 j1) [(Bq.mk ⟨O,N,s,AE P s.length R,AE Q u.length K,u⟩ (AE f2 l.length g2) l (AE h2 r.length j2) r)]).arm=⟨(Ak.mk X Z C (AE Y C.length V) (AE b1 D.length e1) D).net,f.map Ej.elem,[⟨(Ak.mk O N s (AE P s.length R) (AE Q u.length K) u).net,l.map Ej.elem,r.map Bq.arm⟩]⟩):=by
         show _=_
         rw[Bq.arm_eq];simp only[CP,C3];rw[Bq.arm_eq (Bq.mk ⟨O,N,s,AE P s.length R,AE Q u.length K,u⟩ (AE f2 l.length g2) l (AE h2 r.length j2) r)]
        have wI:=dj.out;rw[HE.out] at wI;have cp:=QY wI (CG _);simp only at cp;obtain⟨cj,ct,cg,br,bS,cB⟩:=cp;simp only[CW] at bS;have jY:Hid (∀W,AO wr W->Calls prog 62 #[.agg #[AB O,AB N,AE P s.length R,AE Q u.length K]] W (AN W (.bool (Am (Ak.mk O N s (AE P s.length R) (AE Q u.length K) u).net)))):=by
         intro W h;have:=Y2 (Ak.mk O N s (AE P s.length R) (AE Q u.length K) u).net _ _ W (ba.at.below h) (aj.at.below h) br
         have e:=Ak.net_eq (Ak.mk O N s (AE P s.length R) (AE Q u.length K) u);have qL:(Ak.mk O N s (AE P s.length R) (AE Q u.length K) u).net.kind=O:=by rw[e]
         have qJ:(Ak.mk O N s (AE P s.length R) (AE Q u.length K) u).net.one.op=N:=by rw[e]
         rw[qL,qJ] at this;exact this
        have bO:=dw.out;rw[HE.out] at bO;have jo:=LO bO;simp only at jo;have uw:=Lt.parts fM.out;have oJ:=AV (λW h=>mo X Z C Y V b1 e1 D O N s P R Q K u (w.heap.size+2) W (uw.hna.below h) (uw.hnk.below h) uw.nets (CJ (by have:=ar.out;omega) h.size) ct jo.2.1 jo.2.2 cg br);have bK:Hid (∀ae∈(Ak.mk X Z C (AE Y C.length V) (AE b1 D.length e1) D).vals++(Ak.mk O N s (AE P s.length R) (AE Q u.length K) u).vals++((.slice F f.length G::(G6 f++G6 l))++(.slice h2 r.length j2::Iy r)),ae∈(Bq.mk ⟨X,Z,C,AE Y C.length V,AE b1 D.length e1,D⟩ (AE F f.length G) f (AE (some (AK g 0)) 1 j1) [(Bq.mk ⟨O,N,s,AE P s.length R,AE Q u.length K,u⟩ (AE f2 l.length g2) l (AE h2 r.length j2) r)]).vals):=by
         intro ae U;rw[Bq.vals_eq];simp only[Ro];rw[Bq.vals_eq (Bq.mk ⟨O,N,s,AE P s.length R,AE Q u.length K,u⟩ (AE f2 l.length g2) l (AE h2 r.length j2) r)];simp only[E7,DF] at U ⊢;rcases U with(U | U) | (U | U | U) | U | U
         ·exact .inl U
         ·exact .inr (.inr (.inr (.inl U)))
         ·exact .inr (.inl (.inl U))
         ·exact .inr (.inl (.inr U))
         ·exact .inr (.inr (.inr (.inr (.inl (.inr U)))))
         ·exact .inr (.inr (.inr (.inr (.inr (.inl U)))))
         ·exact .inr (.inr (.inr (.inr (.inr (.inr U)))))
        have fV:=AV (λae U=>bK ae (E1 _ U));have aB:Value.slice F f.length G∈(Bq.mk ⟨X,Z,C,AE Y C.length V,AE b1 D.length e1,D⟩ (AE F f.length G) f (AE (some (AK g 0)) 1 j1) [(Bq.mk ⟨O,N,s,AE P s.length R,AE Q u.length K,u⟩ (AE f2 l.length g2) l (AE h2 r.length j2) r)]).vals:=by rw[Bq.vals_eq];simp
        have eU:=AV (dZ _ aB);have rY:Hid (∀q,(Value.slice F f.length G).ownBlock=some q->w.heap.size<=q):=λq hq=>by have:=(fM.1.lt _ _ aB q hq).1;omega
        have ca:=AV (λq hq=>(fM.1.lt _ _ aB q hq).2);have yG:Hid ((Value.slice F f.length G).ownBlock≠some (w.heap.size+1)):=λe=>by have:=(fM.1.lt _ _ aB _ e).1;omega
        have qg:Hid (I5 (r.map Bq.arm)<gk):=by
         have h1:=dh.out;rw[HE.out] at h1;exact CB cB h1
        have lU:=yB.out;rw[HE.out] at lU;obtain⟨X1,a5⟩:∃bZ,bZ=(Ak.mk X Z C (AE Y C.length V) (AE b1 D.length e1) D).net:=⟨_,rfl⟩
        obtain⟨X2,a9⟩:∃bZ,bZ=(Ak.mk O N s (AE P s.length R) (AE Q u.length K) u).net:=⟨_,rfl⟩
        obtain⟨t2,bb⟩:∃t,t=Am (Ak.mk O N s (AE P s.length R) (AE Q u.length K) u).net:=⟨_,rfl⟩
        obtain⟨ln,bB⟩:=AA f.length
        have fE:=AV bB;have HT2:=AV bb;rw[<-bb] at jY;have rC:Hid (f.map Ej.elem=[]\/t2=true->Stil.joined ⟨Lu X1 X2,f.map Ej.elem++l.map Ej.elem,r.map Bq.arm⟩=bh):=by
         intro h;rw[a5,a9,<-lU];exact(UL _ _ ⟨(Ak.mk O N s (AE P s.length R) (AE Q u.length K) u).net,l.map Ej.elem,r.map Bq.arm⟩ (by rw[<-bb];exact h)).symm
        have eF:Hid (Zo 900000 ⟨Lu X1 X2,f.map Ej.elem++l.map Ej.elem,r.map Bq.arm⟩):=by rw[a5,a9];exact cj
        have qj:Hid (E8 ⟨Lu X1 X2,f.map Ej.elem++l.map Ej.elem,r.map Bq.arm⟩):=by rw[a5,a9];exact jo.1
        rw[<-a5,<-a9] at oJ;rw[<-bB] at x4 bY cS eU rY yG ca;have jS:=AV (λW (h:AO wr W)=>fM.below h);clear hk aN bc cw ba aj wI cj ct cg br cB lU a5 a9 bb bB aB fM wK bO jo uw;by_cases hc:0<ln
        ·have dJ:((ln:Int)==0)=false:=by rw[CS];omega
         have dT:¬((ln:Int)=0):=AQ
         cases t2 with
         | false=>
          clear oJ rC fP
          go_wp2_with (go_at_call 62;refine(jY _ AW).mono ?_;rintro e z ⟨rfl,hb4⟩;obtain⟨T,aj⟩:=Ef hb4;have xC:=CB ab hb4.size;have wS:=CB ag hb4.size;have dc:z.cell? (AK B 0)=_:=(T _ _ ab).trans H;have dp:z.cell? (AK B 1)=_:=(T _ _ ab).trans J;have dt:z.cell? (AK B 2)=_:=(T _ _ ab).trans x2;have cZ:z.cell? (AK B 3)=_:=(T _ _ ab).trans x3;have cV:z.cell? (AK B 4)=_:=(T _ _ ab).trans x4;have cX:z.cell? (AK B 5)=_:=(T _ _ ab).trans x5;have v0:z.cell? (AK (w.heap.size+1) 0)=_:=(T _ _ ag).trans z0;have v1:z.cell? (AK (w.heap.size+1) 1)=_:=(T _ _ ag).trans z1;have v2:z.cell? (AK (w.heap.size+1) 2)=_:=(T _ _ ag).trans z2;have v3:z.cell? (AK (w.heap.size+1) 3)=_:=(T _ _ ag).trans z3;have v4:z.cell? (AK (w.heap.size+1) 4)=_:=(T _ _ ag).trans z4;have v5:z.cell? (AK (w.heap.size+1) 5)=_:=(T _ _ ag).trans z5;have dI:z.frozen? (AK (w.heap.size+1) 0)=_:=(aj _ _ ag).trans M;have dW:z.frozen? (AK (w.heap.size+1) 1)=_:=(aj _ _ ag).trans L;have dS:z.frozen? (AK (w.heap.size+1) 2)=_:=(aj _ _ ag).trans y2;have dy:z.frozen? (AK (w.heap.size+1) 3)=_:=(aj _ _ ag).trans y3;have dz:z.frozen? (AK (w.heap.size+1) 4)=_:=(aj _ _ ag).trans y4;have dM:z.frozen? (AK (w.heap.size+1) 5)=_:=(aj _ _ ag).trans y5;clear T aj)
          have yJ:=AV (Bc iZ hb4);have kT:=jS z hb4;refine bodyPost_ret (v:=.agg #[AB X,AB Z,AE Y C.length V,AE b1 D.length e1,AE F ln G,AE (some (AK g 0)) 1 j1]) (by simp[results,results51,go_sem,v0,v1,v2,v3,v4,v5]) rfl ⟨⟨X,Z,C,Y,V,D,b1,e1,f,F,G,[(Bq.mk ⟨O,N,s,AE P s.length R,AE Q u.length K,u⟩ (AE f2 l.length g2) l (AE h2 r.length j2) r)],(some (AK g 0)),j1,by rw[<-fE.out];rfl,?_,?_⟩,?_⟩
          ·exact Lt.le (Lt.setO6 (base:=w.heap.size+2) kT (λx y e=>by have:=((kT).1.lt _ x y _ e).1;omega)) AQ
          ·exact z8
          ·exact Dj (DZ _) (Dj (DZ _) (Dj (DZ _) (Dj (DZ _) (Dj (DZ _) (Dj (DZ _) yJ _) _) _) _) _) _
         | true=>
          have bn:=AV (rC (.inr rfl));clear rC fP HE HT2 z0 z1 z2 z3 z4 z5 M L y2 y3 y4 y5;go_upto_region 9 with(go_at_call 62;refine(jY _ AW).mono ?_;rintro e z ⟨rfl,hb4⟩;obtain⟨T,aj⟩:=Ef hb4;have xC:=CB ab hb4.size;have wS:=CB ag hb4.size;have dc:z.cell? (AK B 0)=_:=(T _ _ ab).trans H;have dp:z.cell? (AK B 1)=_:=(T _ _ ab).trans J;have dt:z.cell? (AK B 2)=_:=(T _ _ ab).trans x2;have cZ:z.cell? (AK B 3)=_:=(T _ _ ab).trans x3;have cV:z.cell? (AK B 4)=_:=(T _ _ ab).trans x4;have cX:z.cell? (AK B 5)=_:=(T _ _ ab).trans x5;have Q0:z.cell? (AK g 0)=_:=(T _ _ aQ).trans q0;have Q1:z.cell? (AK g 1)=_:=(T _ _ aQ).trans q1;have Q2:z.cell? (AK g 2)=_:=(T _ _ aQ).trans q2;have Q3:z.cell? (AK g 3)=_:=(T _ _ aQ).trans q3;have Q4:z.cell? (AK g 4)=_:=(T _ _ aQ).trans q4;have Q5:z.cell? (AK g 5)=_:=(T _ _ aQ).trans q5;have dK:=CB aQ hb4.size;clear T aj)
          have gZ:=AV (bY.at hb4);have mP:=AV (uF.at hb4);have jQ:=AV (Bc iZ hb4);have yP:=AV (jS z hb4);have qY:=AV (λW h=>oJ W (Bc hb4 h));have au:=hb4.size;clear oJ H J x2 x3 x4 x5 q0 q1 q2 q3 q4 q5 hb4 jY jS;obtain⟨I,ao⟩:=AA (z.alloc (.cells #[AB O,AB N,AE P s.length R,AE Q u.length K,AE f2 l.length g2,AE h2 r.length j2] 62))
          have jC:AO z I:=by rw[ao];exact Aa _ _
          have ay:I.heap.size=z.heap.size+1:=by rw[ao];simp
          have xO:=AV ay;have lJ:Hid (B6 I z.heap.size (AB O) (AB N) (AE P s.length R) (AE Q u.length K) (AE f2 l.length g2) (AE h2 r.length j2)):=by rw[ao];exact B6.new _ _ _ _ _ _ _ _
          have nJ:=AV (gZ.at jC);have xH:=AV (mP.at jC);have yK:=AV (Bc jQ jC);have yQ:=AV (yP.below jC);have qZ:=AV (qY I jC);have bo:=K3 gZ.1;have c8:=nJ.1;have bT:z.heap.size<I.heap.size:=AQ
          clear ay;go_upto_region 10 with fail
          rw[<-ao];clear ao qY;obtain⟨_,⟨bQ,bW,bV,b7,bU,bA⟩,_⟩:=lJ.out;obtain⟨_,⟨bm,b0,bj,bD,bL,bs⟩,b9⟩:=nJ.out;go_upto_region 11 with(go_at_call 89;refine qZ.mono ?_;rintro e w5 ⟨⟨mk,A,d,H,M,J,L,c,rfl,aw,af,a3⟩,aa⟩;have aT:=AV aw;have aO:=AV af;have fQ:=AV a3;have iC:=AV (nJ.at aa);have bR:=AV (lJ.at aa);obtain⟨vI,⟨t0,t1,t2,t3,_,_⟩,tf⟩:=iC.out;have u0:=tf 0 AQ;have u1:=tf 1 AQ;have u2:=tf 2 AQ;have u3:=tf 3 AQ;clear aw af a3 tf)
          obtain⟨S,kK⟩:=AA (((((w5.setCell (AK B 0) (AB mk)).setCell (AK B 1) (AB A)).setCell (AK B 2) (AE H d.length M)).setCell (AK B 3) (AE J c.length L)))
          rw[<-kK];have jP:Hid (B6 S B (AB mk) (AB A) (AE H d.length M) (AE J c.length L) (AE F ln G) (AE (some (AK g 0)) 1 j1)):=by rw[kK];exact iC.setN
          have yA:Hid (B6 S z.heap.size (AB O) (AB N) (AE P s.length R) (AE Q u.length K) (AE f2 l.length g2) (AE h2 r.length j2)):=by rw[kK];exact bR.set4O (Ne.symm bo)
          have xG:Hid (B6 S (w.heap.size+1) (AB 0) (AB 0) AG AG AG AG):=by rw[kK];exact(xH.at aa).set4O aU
          have hle:w.heap.size<=B:=by have:=ar.out;omega
          have rE:Hid (AO w S):=by rw[kK];exact Dj hle (Dj hle (Dj hle (Dj hle (Bc yK aa) _) _) _) _
          have aY:∀x∈(Ak.mk mk A d (AE H d.length M) (AE J c.length L) c).vals,x.ownBlock≠some B:=by
           intro x y e;rcases fQ.out x y with h | h
           ·exact dZ x (fV x h) e
           ·have:=h _ e;omega
          have xY:Hid (Ls S (w.heap.size+2) (Ak.mk mk A d (AE H d.length M) (AE J c.length L) c)):=by rw[kK];exact Ls.setO4 aT aY
          have aR:Below I.heap.size ((((I.setCell (AK B 0) (AB mk)).setCell (AK B 1) (AB A)).setCell (AK B 2) (AE H d.length M)).setCell (AK B 3) (AE J c.length L)) S:=by rw[kK];exact VZ aa
          have sJ:(((((I.setCell (AK B 0) (AB mk)).setCell (AK B 1) (AB A)).setCell (AK B 2) (AE H d.length M)).setCell (AK B 3) (AE J c.length L))).heap.size=I.heap.size:=AU
          have hP:Parts ((((I.setCell (AK B 0) (AB mk)).setCell (AK B 1) (AB A)).setCell (AK B 2) (AE H d.length M)).setCell (AK B 3) (AE J c.length L)) (w.heap.size+2) (Ak.mk X Z C (AE Y C.length V) (AE b1 D.length e1) D) (Ak.mk O N s (AE P s.length R) (AE Q u.length K) u) (AE F f.length G) f (AE f2 l.length g2) l (AE h2 r.length j2) r:=(Lt.setN yQ dZ.out).parts;have mF:Below (((((I.setCell (AK B 0) (AB mk)).setCell (AK B 1) (AB A)).setCell (AK B 2) (AE H d.length M)).setCell (AK B 3) (AE J c.length L))).heap.size ((((I.setCell (AK B 0) (AB mk)).setCell (AK B 1) (AB A)).setCell (AK B 2) (AE H d.length M)).setCell (AK B 3) (AE J c.length L)) S:=by rw[sJ];exact aR
          have uK:=AV (hP.below mF);have bI:Hid (∀w7 a7 c7,Vj w7 (w.heap.size+2) (AE a7 (ln+l.length) c7) (f++l)->S.grownBy w7 (Value.slice F ln G).ownBlock->((Value.slice a7 (ln+l.length) c7).ownBlock=(Value.slice F ln G).ownBlock\/(Value.slice a7 (ln+l.length) c7).ownBlock=some S.heap.size)->Lt w7 (w.heap.size+2) ⟨(Ak.mk mk A d (AE H d.length M) (AE J c.length L) c),AE a7 (ln+l.length) c7,f++l,AE h2 r.length j2,r⟩/\∀x∈(Bq.mk (Ak.mk mk A d (AE H d.length M) (AE J c.length L) c) (AE a7 (ln+l.length) c7) (f++l) (AE h2 r.length j2) r).vals,x.ownBlock≠some B):=by
           intro w7 a7 c7 he hg aK;have bF:=fE.out;rw[bF] at hg aK he ⊢;have hj:=hP.join (lo:=I.heap.size) mF xY fQ (by rw[sJ];exact CG _) (by rw[<-sJ];exact aR.size) he hg aK;refine⟨hj.1,λx y e=>?_⟩;rcases hj.2 x y _ e with⟨_,ae,U,K⟩ | h1
           ·exact dZ ae (bK ae U) K
           ·omega
          have qf:Hid (0<l.length->∃p,f2=some p/\∀j az,(Jc l)[j]?=some az->S.cell? (p.add j)=some az):=by
           intro hz;obtain⟨gg,cc,hv,_,_,_,bk⟩:=Cb uK.ckr hz;simp only[Value.slice.injEq] at hv;exact⟨(AK gg 0),hv.1,λj az hu=>by rw[Addr.add_lit];simpa using bk j az hu⟩
          have wR:w.heap.size+2<=S.heap.size:=by have:=jP.1;have:=ar.out;omega
          have c9:=yA.1;have dr:=jP.1;obtain⟨_,⟨_,_,_,_,v4,_⟩,_⟩:=jP.out;obtain⟨_,⟨_,_,_,_,cT,_⟩,_⟩:=yA.out;clear kK aR mF hP sJ aY bm b0 bj bD bL bs b9 bQ bW bV b7 bU bA t0 t1 t2 t3 u0 u1 u2 u3 qZ
          go_wp2_with (at_builtin;refine Xn rfl _ _ rfl (w.heap.size+2) F G ln f l fE f2 g2 rfl rfl uK.hca qf uK.hck uK.coils bS wR ?_;intro a7 c7 w7 pJ aP qB;have bw:=AV (bI w7 a7 c7 pJ aP qB);have qh:=AV aP;have kS:=AV (jP.grown aP eU.out);have bp:=AV (yA.grown aP (λe=>by have h0:=ca _ e;omega));obtain⟨_,⟨_,_,_,_,du,cM⟩,vU⟩:=kS.out;obtain⟨_,⟨_,_,_,_,_,cO⟩,_⟩:=bp.out;have cL:=vU 4 AQ;have cU:=vU 5 AQ;clear pJ aP qB vU)
          go_roundg (I5 (r.map Bq.arm))
          rotate_left
          ·exact qg.out
          ·have rV:=bw.out
           refine⟨⟨(Ak.mk mk A d (AE H d.length M) (AE J c.length L) c),AE a7 (ln+l.length) c7,f++l,AE h2 r.length j2,r⟩,⟨ar.out,B6.set5 (B6.set4 kS _) _,Lt.setO (Lt.setO rV.1 (a:=(AK B 4)) rV.2 _) (a:=(AK B 5)) rV.2 _,rV.2,B6.setO (B6.setO (xG.grown qh yG.out) aU _) aU _,?_⟩,?_,?_,?_,?_⟩
           ·exact Dj hle (Dj hle (rE.grown qh rE.size rY.out) _) _
           ·rw[Bq.arm_eq];simp only;rw[aO.out,CU];exact bn.out
           ·rw[Bq.arm_eq];simp only;rw[aO.out,CU];exact eF.out
           ·rw[Bq.arm_eq];simp only;rw[aO.out,CU];exact qj.out
           ·rw[Bq.arm_eq];exact CG _
        ·obtain rfl:ln=0:=by omega
         have bn:=AV (rC (.inl (by rw[List.length_eq_zero_iff.1 fE.out.symm];rfl)));clear rC fP HE HT2 z0 z1 z2 z3 z4 z5 M L y2 y3 y4 y5 jY;go_upto_region 9 with fail
         have gZ:=AV bY.out;have mP:=AV uF.out;have jQ:=AV iZ.out;have yP:=AV (jS wr (Below.refl _ _));have qY:=AV oJ.out;clear oJ jS;obtain⟨I,ao⟩:=AA (wr.alloc (.cells #[AB O,AB N,AE P s.length R,AE Q u.length K,AE f2 l.length g2,AE h2 r.length j2] 62))
         have jC:AO wr I:=by rw[ao];exact Aa _ _
         have ay:I.heap.size=wr.heap.size+1:=by rw[ao];simp
         have xO:=AV ay;have lJ:Hid (B6 I wr.heap.size (AB O) (AB N) (AE P s.length R) (AE Q u.length K) (AE f2 l.length g2) (AE h2 r.length j2)):=by rw[ao];exact B6.new _ _ _ _ _ _ _ _
         have nJ:=AV (gZ.at jC);have xH:=AV (mP.at jC);have yK:=AV (Bc jQ jC);have yQ:=AV (yP.below jC);have qZ:=AV (qY I jC);have bo:=K3 gZ.1;have c8:=nJ.1;have bT:wr.heap.size<I.heap.size:=AQ
         clear ay;go_upto_region 10 with fail
         rw[<-ao];clear ao qY;obtain⟨_,⟨bQ,bW,bV,b7,bU,bA⟩,_⟩:=lJ.out;obtain⟨_,⟨bm,b0,bj,bD,bL,bs⟩,b9⟩:=nJ.out;go_upto_region 11 with(go_at_call 89;refine qZ.mono ?_;rintro e w5 ⟨⟨mk,A,d,H,M,J,L,c,rfl,aw,af,a3⟩,aa⟩;have aT:=AV aw;have aO:=AV af;have fQ:=AV a3;have iC:=AV (nJ.at aa);have bR:=AV (lJ.at aa);obtain⟨vI,⟨t0,t1,t2,t3,_,_⟩,tf⟩:=iC.out;have u0:=tf 0 AQ;have u1:=tf 1 AQ;have u2:=tf 2 AQ;have u3:=tf 3 AQ;clear aw af a3 tf)
         obtain⟨S,kK⟩:=AA (((((w5.setCell (AK B 0) (AB mk)).setCell (AK B 1) (AB A)).setCell (AK B 2) (AE H d.length M)).setCell (AK B 3) (AE J c.length L)))
         rw[<-kK];have jP:Hid (B6 S B (AB mk) (AB A) (AE H d.length M) (AE J c.length L) (AE F 0 G) (AE (some (AK g 0)) 1 j1)):=by rw[kK];exact iC.setN
         have yA:Hid (B6 S wr.heap.size (AB O) (AB N) (AE P s.length R) (AE Q u.length K) (AE f2 l.length g2) (AE h2 r.length j2)):=by rw[kK];exact bR.set4O (Ne.symm bo)
         have xG:Hid (B6 S (w.heap.size+1) (AB 0) (AB 0) AG AG AG AG):=by rw[kK];exact(xH.at aa).set4O aU
         have hle:w.heap.size<=B:=by have:=ar.out;omega
         have rE:Hid (AO w S):=by rw[kK];exact Dj hle (Dj hle (Dj hle (Dj hle (Bc yK aa) _) _) _) _
         have aY:∀x∈(Ak.mk mk A d (AE H d.length M) (AE J c.length L) c).vals,x.ownBlock≠some B:=by
          intro x y e;rcases fQ.out x y with h | h
          ·exact dZ x (fV x h) e
          ·have:=h _ e;omega
         have xY:Hid (Ls S (w.heap.size+2) (Ak.mk mk A d (AE H d.length M) (AE J c.length L) c)):=by rw[kK];exact Ls.setO4 aT aY
         have aR:Below I.heap.size ((((I.setCell (AK B 0) (AB mk)).setCell (AK B 1) (AB A)).setCell (AK B 2) (AE H d.length M)).setCell (AK B 3) (AE J c.length L)) S:=by rw[kK];exact VZ aa
         have sJ:(((((I.setCell (AK B 0) (AB mk)).setCell (AK B 1) (AB A)).setCell (AK B 2) (AE H d.length M)).setCell (AK B 3) (AE J c.length L))).heap.size=I.heap.size:=AU
         have hP:Parts ((((I.setCell (AK B 0) (AB mk)).setCell (AK B 1) (AB A)).setCell (AK B 2) (AE H d.length M)).setCell (AK B 3) (AE J c.length L)) (w.heap.size+2) (Ak.mk X Z C (AE Y C.length V) (AE b1 D.length e1) D) (Ak.mk O N s (AE P s.length R) (AE Q u.length K) u) (AE F f.length G) f (AE f2 l.length g2) l (AE h2 r.length j2) r:=(Lt.setN yQ dZ.out).parts;have mF:Below (((((I.setCell (AK B 0) (AB mk)).setCell (AK B 1) (AB A)).setCell (AK B 2) (AE H d.length M)).setCell (AK B 3) (AE J c.length L))).heap.size ((((I.setCell (AK B 0) (AB mk)).setCell (AK B 1) (AB A)).setCell (AK B 2) (AE H d.length M)).setCell (AK B 3) (AE J c.length L)) S:=by rw[sJ];exact aR
         have uK:=AV (hP.below mF);have bI:Hid (∀w7 a7 c7,Vj w7 (w.heap.size+2) (AE a7 (0+l.length) c7) (f++l)->S.grownBy w7 (Value.slice F 0 G).ownBlock->((Value.slice a7 (0+l.length) c7).ownBlock=(Value.slice F 0 G).ownBlock\/(Value.slice a7 (0+l.length) c7).ownBlock=some S.heap.size)->Lt w7 (w.heap.size+2) ⟨(Ak.mk mk A d (AE H d.length M) (AE J c.length L) c),AE a7 (0+l.length) c7,f++l,AE h2 r.length j2,r⟩/\∀x∈(Bq.mk (Ak.mk mk A d (AE H d.length M) (AE J c.length L) c) (AE a7 (0+l.length) c7) (f++l) (AE h2 r.length j2) r).vals,x.ownBlock≠some B):=by
          intro w7 a7 c7 he hg aK;have bF:=fE.out;rw[bF] at hg aK he ⊢;have hj:=hP.join (lo:=I.heap.size) mF xY fQ (by rw[sJ];exact CG _) (by rw[<-sJ];exact aR.size) he hg aK;refine⟨hj.1,λx y e=>?_⟩;rcases hj.2 x y _ e with⟨_,ae,U,K⟩ | h1
          ·exact dZ ae (bK ae U) K
          ·omega
         have qf:Hid (0<l.length->∃p,f2=some p/\∀j az,(Jc l)[j]?=some az->S.cell? (p.add j)=some az):=by
          intro hz;obtain⟨gg,cc,hv,_,_,_,bk⟩:=Cb uK.ckr hz;simp only[Value.slice.injEq] at hv;exact⟨(AK gg 0),hv.1,λj az hu=>by rw[Addr.add_lit];simpa using bk j az hu⟩
         have wR:w.heap.size+2<=S.heap.size:=by have:=jP.1;have:=ar.out;omega
         have c9:=yA.1;have dr:=jP.1;obtain⟨_,⟨_,_,_,_,v4,_⟩,_⟩:=jP.out;obtain⟨_,⟨_,_,_,_,cT,_⟩,_⟩:=yA.out;clear kK aR mF hP sJ aY bm b0 bj bD bL bs b9 bQ bW bV b7 bU bA t0 t1 t2 t3 u0 u1 u2 u3 qZ
         go_wp2_with (at_builtin;refine Xn rfl _ _ rfl (w.heap.size+2) F G 0 f l fE f2 g2 rfl rfl uK.hca qf uK.hck uK.coils bS wR ?_;intro a7 c7 w7 pJ aP qB;have bw:=AV (bI w7 a7 c7 pJ aP qB);have qh:=AV aP;have kS:=AV (jP.grown aP eU.out);have bp:=AV (yA.grown aP (λe=>by have h0:=ca _ e;omega));obtain⟨_,⟨_,_,_,_,du,cM⟩,vU⟩:=kS.out;obtain⟨_,⟨_,_,_,_,_,cO⟩,_⟩:=bp.out;have cL:=vU 4 AQ;have cU:=vU 5 AQ;clear pJ aP qB vU)
         go_roundg (I5 (r.map Bq.arm))
         rotate_left
         ·exact qg.out
         ·have rV:=bw.out
          simp only[CV] at rV;refine⟨⟨(Ak.mk mk A d (AE H d.length M) (AE J c.length L) c),AE a7 l.length c7,f++l,AE h2 r.length j2,r⟩,⟨ar.out,B6.set5 (B6.set4 kS _) _,Lt.setO (Lt.setO rV.1 (a:=(AK B 4)) rV.2 _) (a:=(AK B 5)) rV.2 _,rV.2,B6.setO (B6.setO (xG.grown qh yG.out) aU _) aU _,?_⟩,?_,?_,?_,?_⟩
          ·exact Dj hle (Dj hle (rE.grown qh rE.size rY.out) _) _
          ·rw[Bq.arm_eq];simp only;rw[aO.out,CU];exact bn.out
          ·rw[Bq.arm_eq];simp only;rw[aO.out,CU];exact eF.out
          ·rw[Bq.arm_eq];simp only;rw[aO.out,CU];exact qj.out
          ·rw[Bq.arm_eq];exact CG _
       ·have dL:((E.length:Int)==1)=false:=by rw[CS];omega
        have dR:¬((E.length:Int)=1):=AQ
        have aE:=AV (λkid (e:(E.map Bq.arm)=[kid])=>hk (by have:=congrArg List.length e;simpa using this));clear hk fP
        go_wp2
        refine bodyPost_ret (v:=.agg #[AB X,AB Z,AE Y C.length V,AE b1 D.length e1,AE F f.length G,AE h1 E.length j1]) (by simp[results,results51,go_sem,z0,z1,z2,z3,z4,z5]) rfl ⟨⟨X,Z,C,Y,V,D,b1,e1,f,F,G,E,h1,j1,rfl,?_,?_⟩,?_⟩
        ·exact Lt.le (Lt.setO6 (base:=w.heap.size+2) fM (λx y e=>by have:=((fM.out).1.lt _ x y _ e).1;omega)) AQ
        ·rw[<-yB.out]
         refine(Ue _ ?_).symm;intro kid e _;rw[Bq.arm_eq] at e;exact aE kid e
        ·exact Dj (DZ _) (Dj (DZ _) (Dj (DZ _) (Dj (DZ _) (Dj (DZ _) (Dj (DZ _) iZ _) _) _) _) _) _
