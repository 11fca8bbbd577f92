import Derived.Test.YtmnnkedjoecehaaGreatDoorZ9
import Derived.Test.YtmnnkedjoecehaaGreatDoorGu
set_option maxHeartbeats 4000000
set_option maxRecDepth 100000
namespace Go.Proofs.YtmnnkedjoecehaaGreatDoor
open Tryz Stil Go.RowKit Go.Sort Go.BigFrame
variable {a:Act}{base n:Nat}{o:Oper}{ops:Array Oper}{u0 u1 u2 u3:Value}
theorem rA {w:World}{K:Act->World->Prop}{Q:Exit->Act->World->Prop}{E:Prop}
  (hg:o.guard=none) (s x:Operand) (hop:o.op=.call {callee:=.builtin .append,args:=#[s,x],argTypes:=#[23,23]})
  (base:Nat) (ra:Option Addr) (rc:Nat) (ms ks:List Bz) (ad:Option Addr) (c:Nat) (hs:a.eval s=AE ra ms.length rc) (hx:a.eval x=AE ad ks.length c)
  (hrow:Tj w base (AE ra ms.length rc) ms) (H:0<ks.length->∃p,ad=some p/\∀j u,(Jg ks)[j]?=some u->w.cell? (p.add j)=some u)
  (r:∀m∈ks,AOk w base m) (M:(Value.slice ra ms.length rc::(Iq ms++Iq ks)).Pairwise Aside) (hl:ms.length+ks.length<=1000000) (C:base<=w.heap.size)
  (t:∀i b d,Tj d base (AE i (ms.length+ks.length) b) (ms++ks)->w.grownBy d (Value.slice ra ms.length rc).ownBlock->((Value.slice i (ms.length+ks.length) b).ownBlock=(Value.slice ra ms.length rc).ownBlock\/(Value.slice i (ms.length+ks.length) b).ownBlock=some w.heap.size)->K (a.put o.dst (AE i (ms.length+ks.length) b)) d):
  if Region.wanted o (yielded ops a.tmps)=true then Oper.wp prog o a w K Q else E:=by
 have⟨y,hi,A,z,I⟩:=info_parts eD;by_cases hd:ks.length=0
 ·have v:=List.length_eq_zero_iff.1 hd
  subst v;have D:Region.wanted o (yielded ops a.tmps)=true:=by simp[Region.wanted,hg]
  rw[if_pos D];have hcap:ms.length<=rc:=by
   rcases hrow.1.2 with⟨k,f⟩ | ⟨g,b,cur,k,_,_,G,_⟩
   ·rw[f];exact DZ _
   ·simp only[Value.slice.injEq] at k
    rw[k.2.2];exact G
  have hk2:=t ra rc w yDd (PP _ _) (.inl AU);simp only[CP,ER] at hk2 hx;unfold Oper.wp execOp;cases ad
  ·exact zi0
  ·exact zd0
 ·obtain⟨p,rfl,F⟩:=H AQ
  refine Ec hg s x _ hop base 62 y _ 6 112 underlying23 hi A z I rfl AY _ _ (Jg ms) hs hrow.1 _ _ _ (Jg ks) hx (XA ks) F (WO r) A6 AQ C ?_;intro N d f l q;have⟨B,L,J⟩:=Af f;subst J;exact t B L d (hrow.add r M f l q) l q
theorem eJ {x y b:Value}(h:Aside x y)(hx:∀q,x.ownBlock=some q->q<n)(d:b.ownBlock=y.ownBlock\/b.ownBlock=some n):Aside x b:=by
 rcases d with e | e
 ·rcases h with h0 | h0
  ·exact .inl h0
  ·exact .inr Br
 ·by_cases f:x.ownBlock=none
  ·exact .inl f
  ·refine .inr (λc=>?_)
   rw[e] at c;have:=hx _ c
   omega
theorem Lu.addKid {w1 g:World}{m k:Bz}{kv':Value}(h:Lu w1 base m)(t:∀x∈k.vals,∀y∈m.vals,Aside x y)(hr:Tj g base kv' (m.kids++[k]))(hg:w1.grownBy g m.kv.ownBlock)(r:kv'.ownBlock=m.kv.ownBlock\/kv'.ownBlock=some w1.heap.size):
  Lu g base ⟨m.net,m.cv,m.coils,kv',m.kids++[k]⟩/\∀x∈(Bz.mk m.net m.cv m.coils kv' (m.kids++[k])).vals,x∈m.vals\/x∈k.vals\/x=kv':=by
 obtain⟨l,w⟩:=h;have p:=λx b q B=>(l.lt m x b q B).2
 have⟨C,⟨A,E⟩,_,_⟩:=(Ji _ _ _).1 l;have v:(Bz.mk m.net m.cv m.coils kv' (m.kids++[k])).vals=m.net.vals++((m.cv::Gv m.coils)++(kv'::(Iq m.kids++k.vals))):=by rw[Bz.vals_eq];simp only;rw[Zb,Rz]
 have d:m.vals=m.net.vals++((m.cv::Gv m.coils)++(m.kv::Iq m.kids)):=Bz.vals_eq _;have i:∀x∈m.net.vals,x∈m.vals:=λx b=>by rw[d];exact E0 _ b
 have f:∀x∈m.cv::Gv m.coils,x∈m.vals:=λx b=>by rw[d];exact Da _ (E0 _ b)
 have G:∀x∈Iq m.kids,x∈m.vals:=λx b=>by rw[d];exact Da _ (Da _ (CN _ b))
 rw[d] at w;have⟨D,F,e⟩:=List.pairwise_append.1 w;have⟨H,_,u⟩:=List.pairwise_append.1 F;have s:=λx b=>e x b _ (Da _ (ET ..))
 have j:=λx b=>u x b _ (ET ..)
 refine⟨⟨(Ji _ _ _).2 ⟨C.kept hg s,⟨A.kept hg (j _ (ET ..)),λx b=>(E x b).kept hg (j _ (CN _ (P6.2 ⟨x,b,rfl⟩)))⟩,hr.1,hr.2.1⟩,?_⟩,?_⟩
 ·rw[v]
  have z:=hr.2.2;rw[Zb,Rz] at z;refine List.pairwise_append.2 ⟨D,List.pairwise_append.2 ⟨H,z,λx b y c=>?_⟩,λx b y c=>?_⟩
  ·rcases List.mem_cons.1 c with rfl | c
   ·exact eJ (j x b) (p x (f x b)) r
   rcases List.mem_append.1 c with c | c
   ·exact u x b y (CN _ c)
   ·exact(t y c x (f x b)).symm
  ·rcases List.mem_append.1 c with c | c
   ·exact e x b y (E0 _ c)
   rcases List.mem_cons.1 c with rfl | c
   ·exact eJ (s x b) (p x (i x b)) r
   rcases List.mem_append.1 c with c | c
   ·exact e x b y (Da _ (CN _ c))
   ·exact(t y c x (i x b)).symm
 ·intro x b
  rw[v] at b;rcases List.mem_append.1 b with b | b
  ·exact .inl (i x b)
  rcases List.mem_append.1 b with b | b
  ·exact .inl (f x b)
  rcases List.mem_cons.1 b with rfl | b
  ·exact .inr (.inr rfl)
  rcases List.mem_append.1 b with b | b
  ·exact .inl (G x b)
  ·exact .inr (.inl b)
theorem Lu.krow {w:World}{m:Bz}(h:Lu w base m):Tj w base m.kv m.kids:=by
 obtain⟨e,b⟩:=h;have⟨_,_,d,c⟩:=(Ji _ _ _).1 e;rw[Bz.vals_eq] at b;exact⟨d,c,(List.pairwise_append.1 (List.pairwise_append.1 b).2.1).2.1⟩
theorem B6.al {w:World}{b:Nat}{v0 g f d c e:Value}(h:B6 w b v0 g f d c e)(o:Obj):B6 (w.alloc o) b v0 g f d c e:=h.at (Aa _ _)
theorem Rb {W:World}{b c:Value}{t:TypeId}:∀j u,[u0,u1,u2,u3,b,c][j]?=some u->(W.alloc (.cells #[u0,u1,u2,u3,b,c] t)).cell? (((AL W 0):Addr).add j)=some u:=by
 intro j u h;rw[Addr.add_lit]
 match j,h with
 | 0,h=>simp at h;subst h;simp[go_sem]
 | 1,h=>simp at h;subst h;simp[go_sem]
 | 2,h=>simp at h;subst h;simp[go_sem]
 | 3,h=>simp at h;subst h;simp[go_sem]
 | 4,h=>simp at h;subst h;simp[go_sem]
 | 5,h=>simp at h;subst h;simp[go_sem]
 | j+6,h=>simp at h
theorem X5 {rest:List Oper}{w:World}{Q:Exit->Act->World->Prop}
  (hg:o.guard=none) (s x:Operand) (t:o.op=.call {callee:=.builtin .append,args:=#[s,x],argTypes:=#[60,60]})
  (base:Nat) (g:Option Addr) (f n:Nat) (b ks:List Eo) (k:n=b.length) (ad:Option Addr) (c:Nat) (B:a.eval s=AE g n f) (hx:a.eval x=AE ad ks.length c)
  (D:Vy w base (AE g b.length f) b) (A:0<ks.length->∃p,ad=some p/\∀j u,(I8 ks)[j]?=some u->w.cell? (p.add j)=some u)
  (z:∀m∈ks,EOk w base m) (F:(Value.slice g b.length f::(Gv b++Gv ks)).Pairwise Aside) (hl:b.length+ks.length<=1000000) (r:base<=w.heap.size)
  (h:∀e d i,Vy i base (AE e (n+ks.length) d) (b++ks)->w.grownBy i (Value.slice g n f).ownBlock->((Value.slice e (n+ks.length) d).ownBlock=(Value.slice g n f).ownBlock\/(Value.slice e (n+ks.length) d).ownBlock=some w.heap.size)->wpList prog ops Q rest (a.put o.dst (AE e (n+ks.length) d)) i):
  wpList prog ops Q (o::rest) a w:=by
 subst k;refine wpList_plain hg λK C=>?_
 have y:Region.wanted o (yielded #[] a.tmps)=true:=by simp[Region.wanted,hg]
 have:=TK (ops:=#[]) (K:=K) (Q:=Q) (E:=True) hg s x t base g f b ks ad c B hx D A z F hl r (λe d i q l v=>C _ _ (h e d i q l v))
 rwa [if_pos y] at this
theorem Z4 {a b:World}(h:Below n a b)(p:Addr)(v:Value):Below n (a.setCell p v) (b.setCell p v):=by
 refine⟨h.os,h.tape,h.output,by simpa using h.size,λk c=>?_⟩;have:=h.block k c
 simp only[World.setCell,JO];split
 ·rw[this]
 ·exact this
theorem WI {c:Nat}{a b:World}(h:Below n a b):Below n ((((a.setCell (AK c 0) u0).setCell (AK c 1) u1).setCell (AK c 2) u2).setCell (AK c 3) u3) ((((b.setCell (AK c 0) u0).setCell (AK c 1) u1).setCell (AK c 2) u2).setCell (AK c 3) u3):=
 Z4 (Z4 (Z4 (Z4 h _ _) _ _) _ _) _ _
theorem j6 (a:Stil.B9):Dh a->Ak a<=900000->Lp a->∀(av nv cv kv:Value) (w:World),Dj w av a.net.one.args->Gg w nv a.net.kids->Ir w cv a.coils->E8 w kv a.kids->Calls prog 66 #[.agg #[AB a.net.kind,AB a.net.one.op,av,nv,cv,kv]] w λe w'=>K0 w' w.heap.size (Bo a) e/\AO w w':=by
 induction a using Fq with
 | h n cs kids ih=>
  intro bn ay cf av nv cv kv w aB aD aN aK;have⟨b0,cH,cb,aQ,dF⟩:=(Fz _ _ _).1 bn;have⟨bP,aJ⟩:=(Qr _ _ _).1 cf;simp only at aB aD aN aK;have bL:∀x∈kids,Ak x<=900000:=by
   intro x y;have:Ak x<=Iu kids:=Eb Ak kids x y;rw[Cf] at ay;omega
  have dk:kids.length<=999999:=by
   have h1:=Oj kids;rw[Cf] at ay;omega
  have ct:cs.length<=999999:=by
   rw[Cf] at ay;omega
  have ca:Am n=false->Ai n<=999999:=by
   intro h;rw[Cf] at ay;have e:Stil.BK n=Ai n:=if_neg yDi;omega
  have H1:=AV (λW h=>kj cs cv W (aN.below h) ct cb);have H2:=AV (λx y=>ih x y (dF x y) (bL x y) (aJ x y));have H3:=AV (λW h=>Zi n av nv W (aB.below h) (aD.below h) b0);have H4:Hid (Am n=false->∀W,AO w W->Calls prog 107 #[.agg #[AB n.kind,AB n.one.op,av,nv]] W λe w'=>Si w' W.heap.size (Au n) e/\AO W w'):=λhn W h=>QU n b0 (bP.resolve_left (by rw[hn];exact FV)) (by have:=ca hn;omega) av nv W (aB.below h) (aD.below h)
  have jD:=AV (λW (h:AO w W)=>aK.below h);have HJ:=AV (Pg n cs kids);have HM:Hid (Z9 900000 ⟨U2 n,cs,kids.map Bo⟩):=by
   have:=QB bn ay (λx y=>Zo x (dF x y) (bL x y))
   exact⟨this.1,CM this.2 ay⟩
  have b7:Hid (E5 ⟨U2 n,cs,kids.map Bo⟩):=(Eg _ _ _).2 ⟨Ud bP,λx y=>by obtain⟨ae,U,rfl⟩:=List.mem_map.1 y;exact Vb ae (aJ ae U)⟩;have vZ:=AV dk;have⟨a9,hT⟩:=AA (Bo ⟨n,cs,kids⟩)
  rw[<-hT] at HJ ⊢;obtain⟨p0,r0,rfl,cT⟩:=aB;obtain⟨p1,r1,rfl,cD⟩:=aD;obtain⟨p2,r2,rfl,di⟩:=aN;obtain⟨p3,r3,rfl,c9⟩:=aK;clear cT cD di c9 ih bn ay b0 cH cb aQ dF bL ct ca hT cf bP aJ;go_enter func66,ntmps66;go_upto_region 1 with fail
  have⟨W,hW⟩:=AA ((w.alloc (.cells #[AB n.kind,AB n.one.op,AE p0 n.one.args.length r0,AE p1 n.kids.length r1,AE p2 cs.length r2,AE p3 kids.length r3] 62)).alloc (.cells #[AB 0,AB 0,AG,AG,AG,AG] 62))
  rw[<-hW];have hA:B6 W w.heap.size (AB n.kind) (AB n.one.op) (AE p0 n.one.args.length r0) (AE p1 n.kids.length r1) (AE p2 cs.length r2) (AE p3 kids.length r3):=by rw[hW];exact(B6.new w _ _ _ _ _ _ _).at (Aa _ _)
  have hZ:B6 W (w.heap.size+1) (AB 0) (AB 0) AG AG AG AG:=by rw[hW];have:=B6.new (w.alloc (.cells #[AB n.kind,AB n.one.op,AE p0 n.one.args.length r0,AE p1 n.kids.length r1,AE p2 cs.length r2,AE p3 kids.length r3] 62)) (AB 0) (AB 0) AG AG AG AG 62;simpa using this
  have cn:W.heap.size=w.heap.size+2:=by rw[hW];simp
  have bc:AO w W:=by rw[hW];exact Bi (Aa _ _) _
  clear hW;have HA:=AV hA;have HZ:=AV hZ;have bG:=AV cn;have bZ:w.heap.size<W.heap.size:=AQ
  obtain⟨_,⟨_,_,_,_,p4,_⟩,_⟩:=hA;clear hZ cn;go_cut [3] (λs3 wc=>∃(B:Nat) (m:Bz),s3=AH B/\NSt w wc B m/\m.arm=⟨Stil.none0,cs,[]⟩/\B6 wc w.heap.size (AB n.kind) (AB n.one.op) (AE p0 n.one.args.length r0) (AE p1 n.kids.length r1) (AE p2 cs.length r2) (AE p3 kids.length r3))
  case first=>
   go_wp2_with (go_at_call 106;refine(H1 _ (by exact bc)).mono ?_;rintro e w1 ⟨ra,rc,gZ,rfl,af,cF,cr⟩;have fK:=cr;have c8:=bc.trans (fK.mono bc.size);have cD:=CB bZ fK.size;have dx:=(fK.cell (p:=(AL w 4)) bZ).trans p4;have su:=AV af;have ry:Hid (Vy w1 _ (AE ra gZ.length rc) gZ):=cF;have dy:Hid (Below _ _ w1):=cr;clear af cF)
   go_meet;have dT:=bG.out;have⟨ho,hv⟩:=Lo (base:=w.heap.size+2) (lA:=w1.heap.size) ry (Tj.nil w1 w1.heap.size) (Below.refl _ _) yGe (CG _) (by have:=fK.size;omega);have ay:=fK.size;refine⟨w1.heap.size,⟨Rj,AE ra gZ.length rc,gZ,AG,[]⟩,rfl,⟨AQ,B6.new _ _ _ _ _ _ _ _,ho.below (Aa _ _),λx y e=>by(have h:=hv x y _ e;omega),(HZ.at fK).at (Aa _ _),Bi c8 _⟩,?_,(HA.at fK).at (Aa _ _)⟩;rw[Bz.arm_eq];simp only;rw[su.out,Zp];rfl
  case rest=>
   clear p4 bc bZ bG HA HZ;obtain⟨B,m,rfl,aw,ao,hA⟩:=hcut;have aE:=AV aw;have kF:=AV ao;have HA:=AV hA;clear aw ao H1;obtain⟨aS,⟨cx,cg,cE,zV,cY,cV⟩,cU⟩:=hA;clear cU;have⟨an,ai,ac,ah,ak,hbw⟩:=aE.out;have⟨t,ht⟩:=AA (Am n)
   have HT:=AV ht;have fM:Hid (∀W,AO wc W->Calls prog 63 #[.agg #[AB n.kind,AB n.one.op,AE p0 n.one.args.length r0,AE p1 n.kids.length r1]] W (AN W (.bool t))):=by rw[ht];exact λW h=>H3 W (hbw.trans (h.mono hbw.size))
   have dP:Hid (t=false->∀W,AO wc W->Calls prog 107 #[.agg #[AB n.kind,AB n.one.op,AE p0 n.one.args.length r0,AE p1 n.kids.length r1]] W λe w'=>Si w' W.heap.size (Au n) e/\AO W w'):=by rw[ht];exact λhn W h=>H4 hn W (hbw.trans (h.mono hbw.size))
   clear ht H3 H4 an ai ac ah ak hbw;go_upto_if 13 with(go_at_call 63;refine(fM _ AW).mono ?_;rintro e w3 ⟨rfl,ax⟩;have⟨aU,bf⟩:=En ax;have wO:=CB aS ax.size;have q0:w3.cell? (AL w 0)=_:=(aU _ _ aS).trans cx;have q1:w3.cell? (AL w 1)=_:=(aU _ _ aS).trans cg;have q2:w3.cell? (AL w 2)=_:=(aU _ _ aS).trans cE;have q3:w3.cell? (AL w 3)=_:=(aU _ _ aS).trans zV;clear aU bf)
   clear fM;have jO:Hid (NSt w w3 B m):=by
    have⟨an,ai,ac,ah,ak,hbw⟩:=aE.out;exact⟨an,ai.at ax,ac.below ax,ah,ak.at ax,Bh hbw ax⟩
   have nT:=AV (λh=>dP h w3 ax);have cj:=HA.at ax;clear aE HA aS cx cg cE zV cY cV ax dP;have bi:=AV cj;clear cj;go_cut [] (λwd=>∃m:Bz,NSt w wd B m/\m.arm=⟨U2 n,cs,[]⟩/\B6 wd w.heap.size (AB n.kind) (AB n.one.op) (AE p0 n.one.args.length r0) (AE p1 n.kids.length r1) (AE p2 cs.length r2) (AE p3 kids.length r3))
   case first=>
    cases t with
    | true=>
     have dY:Hid (U2 n=n/\n=Stil.none0):=⟨if_pos HT.symm,Yw HT.symm⟩
     clear nT
     go_wp2
     go_meet;exact⟨m,jO.out,by rw[kF.out,dY.out.1,dY.out.2],bi.out⟩
    | false=>
     have dY:Hid (U2 n=Au n):=if_neg (by rw[<-HT.out];exact FV);have zS:=AV (nT rfl);clear nT
     go_wp2_with (go_at_call 107;refine zS.mono ?_;rintro e z ⟨⟨mk,A,c,s0,t0,f,t1,d,rfl,au,af⟩,hb4⟩;have aT:=AV au;have aO:=AV af;clear au af;have rD:Hid (NT z B m):=B6.at jO.2.1 hb4;have⟨ck,⟨M,L,y2,y3,_,_⟩,fQ⟩:=rD.out;have f0:=fQ 0 AQ;have F:=fQ 1 AQ;have f2:=fQ 2 AQ;have f3:=fQ 3 AQ;clear fQ)
     go_meet;have⟨an,ai,ac,ah,ak,hbw⟩:=jO.out;have d0:=hb4.size;have ay:=hbw.size;have dW:=ai.1;have hN:Lt z (w.heap.size+2) ⟨mk,A,c,AE s0 c.length t0,AE f d.length t1,d⟩:=aT.le AQ;have gm:=Lu.setNet (ac.below hb4) hN (λx y q hq=>(aT.1.lt _ x y q hq).1) (λx y q hq=>(ac.1.lt _ x y q hq).2);have pM:∀x∈(Bz.mk ⟨mk,A,c,AE s0 c.length t0,AE f d.length t1,d⟩ m.cv m.coils m.kv m.kids).vals,x.ownBlock≠some B:=by
      intro x y e;rw[Bz.vals_eq] at y;rcases List.mem_append.1 y with y | y
      ·have:=(aT.1.lt _ x y _ e).1;omega
      ·exact ah x (by rw[Bz.vals_eq];exact Da _ y) e
     refine⟨⟨⟨mk,A,c,AE s0 c.length t0,AE f d.length t1,d⟩,m.cv,m.coils,m.kv,m.kids⟩,⟨an,B6.setN rD.out,Lu.setN gm pM,pM,B6.set4O (ak.at hb4) AQ,?_⟩,?_,B6.set4O (bi.at hb4) AQ⟩
     ·exact zA0
     ·exact zt0
   case rest=>
    obtain⟨m2,aw,ao,hA⟩:=hcut;clear kF jO nT q0 q1 q2 q3 bi wO;have aE:=AV aw;have kF:=AV ao;clear aw ao
    go_wp2
    go_loopw [4] (λi wr=>∃(j:Nat) (m:Bz),j<=kids.length/\i=AB j/\NSt w wr B m/\m.arm=⟨U2 n,cs,(kids.take j).map Bo⟩/\B6 wr w.heap.size (AB n.kind) (AB n.one.op) (AE p0 n.one.args.length r0) (AE p1 n.kids.length r1) (AE p2 cs.length r2) (AE p3 kids.length r3)) (λi _=>kids.length - (intOf i).toNat)
    case atStart=>exact⟨0,m2,AQ,rfl,aE.out,by rw[kF.out];rfl,hA⟩
    case round=>
     clear aE kF hA HT;obtain⟨j,m3,hj,rfl,aw,ao,hA⟩:=hrel;obtain⟨an,ai,ac,ah,ak,hbw⟩:=aw;obtain⟨Y,X,D,a1,V,b1,Z,C,F,G,f,h1,j1,E,rfl⟩:=Yx m3 ac.1;have aQ:E.length=j:=by
      rw[Bz.arm_eq] at ao;have h2:=congrArg (λa:Stil.B9=>a.kids.length) ao;simp only[CW,FP] at h2;omega
     have iL:B6 wr B (AB Y) (AB X) (AE a1 D.length V) (AE b1 C.length Z) (AE F f.length G) (AE h1 E.length j1):=ai;have dH:=AV iL;have fO:=AV ac;have dY:=AV ah;have uG:=AV ak;have fZ:=AV hbw;have kF:=AV ao;have ar:=AV an;have HA:=AV hA;have bp:Hid (w.heap.size+2<=wr.heap.size):=by have:=iL.1;show _<=_;omega
     by_cases bg:j<kids.length
     ·have aL:=jD wr hbw
      obtain⟨pa,pc,cp,cw⟩:=aL;simp only[Value.slice.injEq,true_and] at cp;obtain⟨rfl,rfl⟩:=cp;obtain⟨b,o,rfl,dz,hn⟩:=cw j bg;have⟨cA,da,dq,x4,x5,aN,aK⟩:=hn.open;have⟨I,J,kC,jX,x2,x3,aB,aD⟩:=cA.open;have HI:=AV (λW h=>H2 kids[j] (CJ bg) kC jX da dq W (aB.below h) (aD.below h) (aN.below h) (aK.below h));have aX:Hid ((kids.take (j+1)).map Bo=(kids.take j).map Bo++[Bo kids[j]]):=by show _=_;rw[EB bg,CU];rfl
      have⟨x,y⟩:=AA (kids[j])
      rw[<-y] at HI aX I J aB aD aN aK;obtain⟨q0,s0,rfl,_⟩:=aB;obtain⟨q1,dS,rfl,_⟩:=aD;obtain⟨q2,dX,rfl,_⟩:=aN;obtain⟨q3,dw,rfl,_⟩:=aK;obtain⟨ab,⟨_,_,_,_,_,y5⟩,fQ⟩:=iL;obtain⟨dO,⟨_,_,_,_,_,z5⟩,_⟩:=hA;have dd:=AV (fQ 5 AQ);have bY:E.length+[(Bz.mk ⟨Y,X,D,AE a1 D.length V,AE b1 C.length Z,C⟩ (AE F f.length G) f (AE h1 E.length j1) E)].length<=1000000:=by simp only[EF];omega
      have aA:Value.slice h1 E.length j1∈(Bz.mk ⟨Y,X,D,AE a1 D.length V,AE b1 C.length Z,C⟩ (AE F f.length G) f (AE h1 E.length j1) E).vals:=by rw[Bz.vals_eq];simp
      have bb:=AV (ah _ aA);have qW:=AV (λq hq=>(ac.1.lt _ _ aA q hq).1);have dR:(0:Int)<=(j:Int):=AQ
      have dV:(j:Int)<(kids.length:Int):=AQ
      clear y hn cA cw ai ac ah ak hbw ao an fQ aA aQ;go_upto_region 7 with fail
      go_region_law (first | (refine rA rfl _ _ rfl (w.heap.size+2) h1 j1 E [(Bz.mk ⟨mk,A,c,AE xa c.length ya,AE xb dA.length yb,dA⟩ (AE xc dB.length yc) dB (AE xd d.length yd) d)] (some (AL w5 0)) 1 rfl rfl (((fO.below aa).below (Aa _ _)).krow) (λ_=>⟨_,rfl,by exact Rb⟩) (λm hm=>by rw[List.mem_singleton.1 hm];exact((aT.1.le bp.out).below (Aa _ _))) (fO.krow.apart (w1:=w5) (b1:=wr.heap.size) (λm hm=>by rw[List.mem_singleton.1 hm];exact aT.1) (CG _) (by rw[Rz];exact aT.2)) bY (by have:=aa.size;have:=bp.out;simp;omega) ?_;intro a6 c6 w6 aZ aC aV;have iU:Hid (Tj w6 (w.heap.size+2) (AE a6 (E.length+1) c6) (E++[(Bz.mk ⟨mk,A,c,AE xa c.length ya,AE xb dA.length yb,dA⟩ (AE xc dB.length yc) dB (AE xd d.length yd) d)])):=aZ;have bJ:Hid ((w5.alloc (.cells #[AB mk,AB A,AE xa c.length ya,AE xb dA.length yb,AE xc dB.length yc,AE xd d.length yd] 62)).grownBy w6 (Value.slice h1 E.length j1).ownBlock):=aC;have xw:Hid ((Value.slice a6 (E.length+1) c6).ownBlock=(Value.slice h1 E.length j1).ownBlock\/(Value.slice a6 (E.length+1) c6).ownBlock=some (w5.alloc (.cells #[AB mk,AB A,AE xa c.length ya,AE xb dA.length yb,AE xc dB.length yc,AE xd d.length yd] 62)).heap.size):=aV;have bK:B<(w5.alloc (.cells #[AB mk,AB A,AE xa c.length ya,AE xb dA.length yb,AE xc dB.length yc,AE xd d.length yd] 62)).heap.size:=Ax;have t5:=(Du aC bK bb.out).trans ((Ez qI).trans dj);have u5:=(Ie aC bK bb.out).trans (((Aa w5 (.cells #[AB mk,AB A,AE xa c.length ya,AE xb dA.length yb,AE xc dB.length yc,AE xd d.length yd] 62)).frozen (p:=(AK B 5)) qI).trans cI.out);clear aZ aC aV bK) | (go_simp;go_at_call 66;refine(HI _ yEa).mono ?_;rintro e w5 ⟨⟨mk,A,c,xa,ya,dA,xb,yb,dB,xc,yc,d,xd,yd,rfl,au,af⟩,jg⟩;have aa:=Bh (Below.refl _ _).drew jg;have aT:Hid (Lu w5 wr.heap.size (Bz.mk ⟨mk,A,c,AE xa c.length ya,AE xb dA.length yb,dA⟩ (AE xc dB.length yc) dB (AE xd d.length yd) d)):=au;have aO:=AV af;have qI:=CB ab aa.size;have dj:=(aa.cell (p:=(AK B 5)) ab).trans y5;have cI:=AV ((aa.frozen (p:=(AK B 5)) ab).trans dd.out);clear au af jg))
      all_goals
       go_wp2
       have ck:=ar.out;have hg:=bJ.out;have cy:=Lu.addKid (m:=(Bz.mk ⟨Y,X,D,AE a1 D.length V,AE b1 C.length Z,C⟩ (AE F f.length G) f (AE h1 E.length j1) E)) (k:=(Bz.mk ⟨mk,A,c,AE xa c.length ya,AE xb dA.length yb,dA⟩ (AE xc dB.length yc) dB (AE xd d.length yd) d)) (kv':=AE a6 (E.length+1) c6) ((fO.below aa).below (Aa _ _)) (λx y ae U=>(He (n:=wr.heap.size) (λq hq=>(fO.1.lt _ ae U q hq).2) (λq hq=>(aT.1.lt _ x y q hq).1)).symm) iU hg xw.out;have gu:∀x∈(Bz.mk ⟨Y,X,D,AE a1 D.length V,AE b1 C.length Z,C⟩ (AE F f.length G) f (AE a6 (E.length+1) c6) (E++[(Bz.mk ⟨mk,A,c,AE xa c.length ya,AE xb dA.length yb,dA⟩ (AE xc dB.length yc) dB (AE xd d.length yd) d)])).vals,x.ownBlock≠some B:=by
        intro x y e;rcases cy.2 x y with h | h | h
        ·exact dY x h e
        ·have:=(aT.1.lt _ x h _ e).1;omega
        ·rw[h] at e
         rcases xw.out with h2 | h2
         ·rw[h2] at e;exact bb e
         ·rw[h2] at e;cases e;simp at qI;omega
       refine⟨⟨j+1,(Bz.mk ⟨Y,X,D,AE a1 D.length V,AE b1 C.length Z,C⟩ (AE F f.length G) f (AE a6 (E.length+1) c6) (E++[(Bz.mk ⟨mk,A,c,AE xa c.length ya,AE xb dA.length yb,dA⟩ (AE xc dB.length yc) dB (AE xd d.length yd) d)])),AQ,by go_num,⟨ck,B6.set5 (B6.grown ((dH.at aa).al _) hg bb.out) _,Lu.setO cy.1 (a:=(AK B 5)) gu _,gu,B6.setO (B6.grown ((uG.at aa).al _) hg (λe=>by have:=qW _ e;omega)) AQ _,?_⟩,?_,B6.setO (B6.grown ((HA.at aa).al _) hg (λe=>by have:=qW _ e;omega)) AQ _⟩,by simp[intOf];omega⟩
       ·have hle:w.heap.size<=B:=by omega
        exact Dq hle ((Bi (Bh fZ aa) _).grown hg (by have:=fZ.size;have:=aa.size;simp;omega) (λk hk=>by have:=qW k hk;omega)) _
       ·have e:=kF.out
        rw[Bz.arm_eq] at e ⊢;simp only[Stil.B9.mk.injEq] at e ⊢;refine⟨e.1,e.2.1,?_⟩;rw[CU,e.2.2,aX.out,G3,aO.out]
     ·obtain rfl:j=kids.length:=by omega
      have bu:=kF.out;rw[IV] at bu;have qm:=AV bu;have o7:Hid (NSt w wr B (Bz.mk ⟨Y,X,D,AE a1 D.length V,AE b1 C.length Z,C⟩ (AE F f.length G) f (AE h1 E.length j1) E)):=⟨ar.out,dH.out,fO.out,dY.out,uG.out,fZ.out⟩
      obtain⟨_,⟨_,_,_,_,_,z5⟩,_⟩:=hA;clear bu ai iL ac ah ak hbw ao dH fO dY uG fZ kF HA bp H2 jD bg aQ an;obtain⟨wo,cQ⟩:∃wo:World,wo=wr:=⟨wr,rfl⟩
      subst cQ
      go_wp2
      go_loopg [] (Iu (kids.map Bo)) (λk wr=>∃m:Bz,NSt w wr B m/\Stil.joined m.arm=a9/\Z9 900000 m.arm/\E5 m.arm/\Iu m.arm.kids<=k)
      case atStart=>
       refine⟨(Bz.mk ⟨Y,X,D,AE a1 D.length V,AE b1 C.length Z,C⟩ (AE F f.length G) f (AE h1 E.length j1) E),o7.out,?_,?_,?_,?_⟩
       ·rw[qm.out,HJ.out]
       ·rw[qm.out];exact HM.out
       ·rw[qm.out];exact b7.out
       ·rw[qm.out];exact CG _
      case round=>
       clear o7 qm HJ HM b7 vZ z5 Y X D a1 V b1 Z C F G f h1 j1 E ar;obtain⟨m3,aw,b9,bX,b8,cu⟩:=hrel;obtain⟨an,ai,ac,ah,ak,hbw⟩:=aw;obtain⟨Y,X,D,a1,V,b1,Z,C,F,G,f,h1,j1,E,rfl⟩:=Yx m3 ac.1;have iL:B6 wr B (AB Y) (AB X) (AE a1 D.length V) (AE b1 C.length Z) (AE F f.length G) (AE h1 E.length j1):=ai;have dH:=AV iL;have fO:=AV ac;have dY:=AV ah;have uG:=AV ak;have fZ:=AV hbw;have yN:=AV b9;have cM:=AV bX;have dc:=AV b8;have db:=AV cu;have ar:=AV an;have aQ:E.length<=900000/\f.length<=900000:=by
        have h0:=bX.2;rw[Bz.arm_eq,Cf] at h0;simp only[CW] at h0;have h1:(E.map Bz.arm).length<=Iu (E.map Bz.arm):=Oj _;rw[CW] at h1;omega
       obtain⟨wZ,cS⟩:=aQ;obtain⟨ab,⟨I,J,x2,x3,x4,x5⟩,fQ⟩:=iL;obtain⟨ag,⟨z0,z1,z2,z3,z4,z5⟩,mP⟩:=ak;have M:=mP 0 AQ;have L:=mP 1 AQ;have y2:=mP 2 AQ;have y3:=mP 3 AQ;have y4:=mP 4 AQ;have y5:=mP 5 AQ;have aR:w.heap.size+1≠B:=AQ
       clear ai ac ah hbw b9 bX cu an mP b8;by_cases hk:E.length=1
       ·obtain⟨kid,rfl⟩:=List.length_eq_one_iff.1 hk
        have⟨_,_,aJ,bh⟩:=(Ji _ _ _).1 fO.1;simp only at aJ bh;obtain⟨O,N,s,S,Q,T,K,u,f2,g2,l,h2,j2,r,rfl⟩:=Yx kid (bh kid AU);obtain⟨g,rfl,aI,q0,q1,q2,q3,q4,q5⟩:=YW aJ;simp only[EF] at*;have cq:=(Ji _ _ _).1 (bh (Bz.mk ⟨O,N,s,AE S s.length Q,AE T u.length K,u⟩ (AE f2 l.length g2) l (AE h2 r.length j2) r) AU);have⟨bf,aj⟩:=MOk.from _ cq.1;have HE:Hid ((Bz.mk ⟨Y,X,D,AE a1 D.length V,AE b1 C.length Z,C⟩ (AE F f.length G) f (AE (some (AK g 0)) 1 j1) [(Bz.mk ⟨O,N,s,AE S s.length Q,AE T u.length K,u⟩ (AE f2 l.length g2) l (AE h2 r.length j2) r)]).arm=⟨(Ap.mk Y X D (AE a1 D.length V) (AE b1 C.length Z) C).net,f.map Eo.elem,[⟨(Ap.mk O N s (AE S s.length Q) (AE T u.length K) u).net,l.map Eo.elem,r.map Bz.arm⟩]⟩):=by
         show _=_
         rw[Bz.arm_eq];simp only[CQ,C6];rw[Bz.arm_eq (Bz.mk ⟨O,N,s,AE S s.length Q,AE T u.length K,u⟩ (AE f2 l.length g2) l (AE h2 r.length j2) r)]
        have wX:=cM.out;rw[HE.out] at wX;have cz:=Qf wX (CG _);simp only at cz;obtain⟨cB,cm,cd,b6,bv,cG⟩:=cz;simp only[CW] at bv;have kE:Hid (∀W,AO wr W->Calls prog 63 #[.agg #[AB O,AB N,AE S s.length Q,AE T u.length K]] W (AN W (.bool (Am (Ap.mk O N s (AE S s.length Q) (AE T u.length K) u).net)))):=by
         intro W h;have:=Zi (Ap.mk O N s (AE S s.length Q) (AE T u.length K) u).net _ _ W (bf.at.below h) (aj.at.below h) b6
         have e:=Ap.net_eq (Ap.mk O N s (AE S s.length Q) (AE T u.length K) u);have qL:(Ap.mk O N s (AE S s.length Q) (AE T u.length K) u).net.kind=O:=by rw[e]
         have qJ:(Ap.mk O N s (AE S s.length Q) (AE T u.length K) u).net.one.op=N:=by rw[e]
         rw[qL,qJ] at this;exact this
        have bU:=dc.out;rw[HE.out] at bU;have lm:=LM bU;simp only at lm;have wu:=Lu.parts fO.out;have oK:=AV (λW h=>m8 Y X D a1 V b1 Z C O N s S Q T K u (w.heap.size+2) W (wu.hna.below h) (wu.hnk.below h) wu.nets (CM (by have:=ar.out;omega) h.size) cm lm.2.1 lm.2.2 cd b6);have bE:Hid (∀ae∈(Ap.mk Y X D (AE a1 D.length V) (AE b1 C.length Z) C).vals++(Ap.mk O N s (AE S s.length Q) (AE T u.length K) u).vals++((.slice F f.length G::(Gv f++Gv l))++(.slice h2 r.length j2::Iq r)),ae∈(Bz.mk ⟨Y,X,D,AE a1 D.length V,AE b1 C.length Z,C⟩ (AE F f.length G) f (AE (some (AK g 0)) 1 j1) [(Bz.mk ⟨O,N,s,AE S s.length Q,AE T u.length K,u⟩ (AE f2 l.length g2) l (AE h2 r.length j2) r)]).vals):=by
         intro ae U;rw[Bz.vals_eq];simp only[Rz];rw[Bz.vals_eq (Bz.mk ⟨O,N,s,AE S s.length Q,AE T u.length K,u⟩ (AE f2 l.length g2) l (AE h2 r.length j2) r)];simp only[EN,C7] at U ⊢;rcases U with(U | U) | (U | U | U) | U | U
         ·exact .inl U
         ·exact .inr (.inr (.inr (.inl U)))
         ·exact .inr (.inl (.inl U))
         ·exact .inr (.inl (.inr U))
         ·exact .inr (.inr (.inr (.inr (.inl (.inr U)))))
         ·exact .inr (.inr (.inr (.inr (.inr (.inl U)))))
         ·exact .inr (.inr (.inr (.inr (.inr (.inr U)))))
        have fV:=AV (λae U=>bE ae (E0 _ U));have aA:Value.slice F f.length G∈(Bz.mk ⟨Y,X,D,AE a1 D.length V,AE b1 C.length Z,C⟩ (AE F f.length G) f (AE (some (AK g 0)) 1 j1) [(Bz.mk ⟨O,N,s,AE S s.length Q,AE T u.length K,u⟩ (AE f2 l.length g2) l (AE h2 r.length j2) r)]).vals:=by rw[Bz.vals_eq];simp
        have eX:=AV (dY _ aA);have rZ:Hid (∀q,(Value.slice F f.length G).ownBlock=some q->w.heap.size<=q):=λq hq=>by have:=(fO.1.lt _ _ aA q hq).1;omega
        have bW:=AV (λq hq=>(fO.1.lt _ _ aA q hq).2);have yS:Hid ((Value.slice F f.length G).ownBlock≠some (w.heap.size+1)):=λe=>by have:=(fO.1.lt _ _ aA _ e).1;omega
        have qx:Hid (Iu (r.map Bz.arm)<gk):=by
         have h1:=db.out;rw[HE.out] at h1;exact CB cG h1
        have lY:=yN.out;rw[HE.out] at lY;obtain⟨X1,aW⟩:∃bC,bC=(Ap.mk Y X D (AE a1 D.length V) (AE b1 C.length Z) C).net:=⟨_,rfl⟩
        obtain⟨X2,a8⟩:∃bC,bC=(Ap.mk O N s (AE S s.length Q) (AE T u.length K) u).net:=⟨_,rfl⟩
        obtain⟨t2,ba⟩:∃t,t=Am (Ap.mk O N s (AE S s.length Q) (AE T u.length K) u).net:=⟨_,rfl⟩
        have⟨ln,bQ⟩:=AA f.length
        have eF:=AV bQ;have HT2:=AV ba;rw[<-ba] at kE;have qZ:Hid (f.map Eo.elem=[]\/t2=true->Stil.joined ⟨L8 X1 X2,f.map Eo.elem++l.map Eo.elem,r.map Bz.arm⟩=a9):=by
         intro h;rw[aW,a8,<-lY];exact(VT _ _ ⟨(Ap.mk O N s (AE S s.length Q) (AE T u.length K) u).net,l.map Eo.elem,r.map Bz.arm⟩ (by rw[<-ba];exact h)).symm
        have dZ:Hid (Z9 900000 ⟨L8 X1 X2,f.map Eo.elem++l.map Eo.elem,r.map Bz.arm⟩):=by rw[aW,a8];exact cB
        have rq:Hid (E5 ⟨L8 X1 X2,f.map Eo.elem++l.map Eo.elem,r.map Bz.arm⟩):=by rw[aW,a8];exact lm.1
        rw[<-aW,<-a8] at oK;rw[<-bQ] at x4 dH cS eX rZ yS bW;have jW:=AV (λW (h:AO wr W)=>fO.below h);clear hk aJ bh cq bf aj wX cB cm cd b6 cG lY aW a8 ba bQ aA fO wZ bU lm wu;by_cases hc:0<ln
        ·have dL:((ln:Int)==0)=false:=by rw[CS];omega
         have dU:¬((ln:Int)=0):=AQ
         cases t2 with
         | false=>
          clear oK qZ fQ
          go_wp2_with (go_at_call 63;refine(kE _ AW).mono ?_;rintro e z ⟨rfl,hb4⟩;have⟨P,aj⟩:=En hb4;have xW:=CB ab hb4.size;have xJ:=CB ag hb4.size;have cZ:z.cell? (AK B 0)=_:=(P _ _ ab).trans I;have cX:z.cell? (AK B 1)=_:=(P _ _ ab).trans J;have df:z.cell? (AK B 2)=_:=(P _ _ ab).trans x2;have cL:z.cell? (AK B 3)=_:=(P _ _ ab).trans x3;have de:z.cell? (AK B 4)=_:=(P _ _ ab).trans x4;have cO:z.cell? (AK B 5)=_:=(P _ _ ab).trans x5;have v0:z.cell? (AK (w.heap.size+1) 0)=_:=(P _ _ ag).trans z0;have v1:z.cell? (AK (w.heap.size+1) 1)=_:=(P _ _ ag).trans z1;have v2:z.cell? (AK (w.heap.size+1) 2)=_:=(P _ _ ag).trans z2;have v3:z.cell? (AK (w.heap.size+1) 3)=_:=(P _ _ ag).trans z3;have v4:z.cell? (AK (w.heap.size+1) 4)=_:=(P _ _ ag).trans z4;have v5:z.cell? (AK (w.heap.size+1) 5)=_:=(P _ _ ag).trans z5;have dI:z.frozen? (AK (w.heap.size+1) 0)=_:=(aj _ _ ag).trans M;have dN:z.frozen? (AK (w.heap.size+1) 1)=_:=(aj _ _ ag).trans L;have dC:z.frozen? (AK (w.heap.size+1) 2)=_:=(aj _ _ ag).trans y2;have dE:z.frozen? (AK (w.heap.size+1) 3)=_:=(aj _ _ ag).trans y3;have dM:z.frozen? (AK (w.heap.size+1) 4)=_:=(aj _ _ ag).trans y4;have dG:z.frozen? (AK (w.heap.size+1) 5)=_:=(aj _ _ ag).trans y5;clear P aj)
          have yV:=AV (Bh fZ hb4);have lF:=jW z hb4;refine bodyPost_ret (v:=.agg #[AB Y,AB X,AE a1 D.length V,AE b1 C.length Z,AE F ln G,AE (some (AK g 0)) 1 j1]) (by simp[results,results66,go_sem,v0,v1,v2,v3,v4,v5]) rfl ⟨⟨Y,X,D,a1,V,C,b1,Z,f,F,G,[(Bz.mk ⟨O,N,s,AE S s.length Q,AE T u.length K,u⟩ (AE f2 l.length g2) l (AE h2 r.length j2) r)],(some (AK g 0)),j1,by rw[<-eF.out];rfl,?_,?_⟩,?_⟩
          ·exact Lu.le (Lu.setO6 (base:=w.heap.size+2) lF (λx y e=>by have:=((lF).1.lt _ x y _ e).1;omega)) AQ
          ·exact z8
          ·exact Dq (Db _) (Dq (Db _) (Dq (Db _) (Dq (Db _) (Dq (Db _) (Dq (Db _) yV _) _) _) _) _) _
         | true=>
          have bk:=AV (qZ (.inr rfl));clear qZ fQ HE HT2 z0 z1 z2 z3 z4 z5 M L y2 y3 y4 y5;go_upto_region 9 with(go_at_call 63;refine(kE _ AW).mono ?_;rintro e z ⟨rfl,hb4⟩;have⟨P,aj⟩:=En hb4;have xW:=CB ab hb4.size;have xJ:=CB ag hb4.size;have cZ:z.cell? (AK B 0)=_:=(P _ _ ab).trans I;have cX:z.cell? (AK B 1)=_:=(P _ _ ab).trans J;have df:z.cell? (AK B 2)=_:=(P _ _ ab).trans x2;have cL:z.cell? (AK B 3)=_:=(P _ _ ab).trans x3;have de:z.cell? (AK B 4)=_:=(P _ _ ab).trans x4;have cO:z.cell? (AK B 5)=_:=(P _ _ ab).trans x5;have Q0:z.cell? (AK g 0)=_:=(P _ _ aI).trans q0;have Q1:z.cell? (AK g 1)=_:=(P _ _ aI).trans q1;have Q2:z.cell? (AK g 2)=_:=(P _ _ aI).trans q2;have Q3:z.cell? (AK g 3)=_:=(P _ _ aI).trans q3;have Q4:z.cell? (AK g 4)=_:=(P _ _ aI).trans q4;have Q5:z.cell? (AK g 5)=_:=(P _ _ aI).trans q5;have dK:=CB aI hb4.size;clear P aj)
          have iC:=AV (dH.at hb4);have mV:=AV (uG.at hb4);have jU:=AV (Bh fZ hb4);have zB:=AV (jW z hb4);have qX:=AV (λW h=>oK W (Bh hb4 h));have dQ:=hb4.size;clear oK I J x2 x3 x4 x5 q0 q1 q2 q3 q4 q5 hb4 kE jW;have⟨H,ap⟩:=AA (z.alloc (.cells #[AB O,AB N,AE S s.length Q,AE T u.length K,AE f2 l.length g2,AE h2 r.length j2] 62))
          have nY:AO z H:=by rw[ap];exact Aa _ _
          have dm:H.heap.size=z.heap.size+1:=by rw[ap];simp
          have oz:=AV dm;have lT:Hid (B6 H z.heap.size (AB O) (AB N) (AE S s.length Q) (AE T u.length K) (AE f2 l.length g2) (AE h2 r.length j2)):=by rw[ap];exact B6.new _ _ _ _ _ _ _ _
          have nK:=AV (iC.at nY);have xZ:=AV (mV.at nY);have yX:=AV (Bh jU nY);have zC:=AV (zB.below nY);have qY:=AV (qX H nY);have bq:=KH iC.1;have dl:=nK.1;have bY:z.heap.size<H.heap.size:=AQ
          clear dm;go_upto_region 10 with fail
          rw[<-ap];clear ap qX;have⟨_,⟨bR,bT,bN,bI,bj,bm⟩,_⟩:=lT.out;have⟨_,⟨bw,bF,bH,bO,bs,br⟩,bo⟩:=nK.out;go_upto_region 11 with(go_at_call 108;refine qY.mono ?_;rintro e w5 ⟨⟨mk,A,c,I,M,J,L,d,rfl,au,af,a5⟩,aa⟩;have aT:=AV au;have aO:=AV af;have fU:=AV a5;have iD:=AV (nK.at aa);have bS:=AV (lT.at aa);have⟨vO,⟨t0,t1,t2,t3,_,_⟩,tf⟩:=iD.out;have u0:=tf 0 AQ;have u1:=tf 1 AQ;have u2:=tf 2 AQ;have u3:=tf 3 AQ;clear au af a5 tf)
          have⟨R,kN⟩:=AA (((((w5.setCell (AK B 0) (AB mk)).setCell (AK B 1) (AB A)).setCell (AK B 2) (AE I c.length M)).setCell (AK B 3) (AE J d.length L)))
          rw[<-kN];have jT:Hid (B6 R B (AB mk) (AB A) (AE I c.length M) (AE J d.length L) (AE F ln G) (AE (some (AK g 0)) 1 j1)):=by rw[kN];exact iD.setN
          have yM:Hid (B6 R z.heap.size (AB O) (AB N) (AE S s.length Q) (AE T u.length K) (AE f2 l.length g2) (AE h2 r.length j2)):=by rw[kN];exact bS.set4O (Ne.symm bq)
          have xY:Hid (B6 R (w.heap.size+1) (AB 0) (AB 0) AG AG AG AG):=by rw[kN];exact(xZ.at aa).set4O aR
          have hle:w.heap.size<=B:=by have:=ar.out;omega
          have rE:Hid (AO w R):=by rw[kN];exact Dq hle (Dq hle (Dq hle (Dq hle (Bh yX aa) _) _) _) _
          have a3:∀x∈(Ap.mk mk A c (AE I c.length M) (AE J d.length L) d).vals,x.ownBlock≠some B:=by
           intro x y e;rcases fU.out x y with h | h
           ·exact dY x (fV x h) e
           ·have:=h _ e;omega
          have yK:Hid (Lt R (w.heap.size+2) (Ap.mk mk A c (AE I c.length M) (AE J d.length L) d)):=by rw[kN];exact Lt.setO4 aT a3
          have aM:Below H.heap.size ((((H.setCell (AK B 0) (AB mk)).setCell (AK B 1) (AB A)).setCell (AK B 2) (AE I c.length M)).setCell (AK B 3) (AE J d.length L)) R:=by rw[kN];exact WI aa
          have sK:(((((H.setCell (AK B 0) (AB mk)).setCell (AK B 1) (AB A)).setCell (AK B 2) (AE I c.length M)).setCell (AK B 3) (AE J d.length L))).heap.size=H.heap.size:=AU
          have hP:Parts ((((H.setCell (AK B 0) (AB mk)).setCell (AK B 1) (AB A)).setCell (AK B 2) (AE I c.length M)).setCell (AK B 3) (AE J d.length L)) (w.heap.size+2) (Ap.mk Y X D (AE a1 D.length V) (AE b1 C.length Z) C) (Ap.mk O N s (AE S s.length Q) (AE T u.length K) u) (AE F f.length G) f (AE f2 l.length g2) l (AE h2 r.length j2) r:=(Lu.setN zC dY.out).parts;have mM:Below (((((H.setCell (AK B 0) (AB mk)).setCell (AK B 1) (AB A)).setCell (AK B 2) (AE I c.length M)).setCell (AK B 3) (AE J d.length L))).heap.size ((((H.setCell (AK B 0) (AB mk)).setCell (AK B 1) (AB A)).setCell (AK B 2) (AE I c.length M)).setCell (AK B 3) (AE J d.length L)) R:=by rw[sK];exact aM
          have uM:=AV (hP.below mM);have bA:Hid (∀w7 a7 c7,Vy w7 (w.heap.size+2) (AE a7 (ln+l.length) c7) (f++l)->R.grownBy w7 (Value.slice F ln G).ownBlock->((Value.slice a7 (ln+l.length) c7).ownBlock=(Value.slice F ln G).ownBlock\/(Value.slice a7 (ln+l.length) c7).ownBlock=some R.heap.size)->Lu w7 (w.heap.size+2) ⟨(Ap.mk mk A c (AE I c.length M) (AE J d.length L) d),AE a7 (ln+l.length) c7,f++l,AE h2 r.length j2,r⟩/\∀x∈(Bz.mk (Ap.mk mk A c (AE I c.length M) (AE J d.length L) d) (AE a7 (ln+l.length) c7) (f++l) (AE h2 r.length j2) r).vals,x.ownBlock≠some B):=by
           intro w7 a7 c7 he hg aL;have bB:=eF.out;rw[bB] at hg aL he ⊢;have hj:=hP.join (lo:=H.heap.size) mM yK fU (by rw[sK];exact CG _) (by rw[<-sK];exact aM.size) he hg aL;refine⟨hj.1,λx y e=>?_⟩;rcases hj.2 x y _ e with⟨_,ae,U,K⟩ | h1
           ·exact dY ae (bE ae U) K
           ·omega
          have qw:Hid (0<l.length->∃p,f2=some p/\∀j az,(I8 l)[j]?=some az->R.cell? (p.add j)=some az):=by
           intro hz;have⟨gg,cc,hv,_,_,_,bV⟩:=Bg uM.ckr hz;simp only[Value.slice.injEq] at hv;exact⟨(AK gg 0),hv.1,λj az hu=>by rw[Addr.add_lit];simpa using bV j az hu⟩
          have xI:w.heap.size+2<=R.heap.size:=by have:=jT.1;have:=ar.out;omega
          have du:=yM.1;have dr:=jT.1;have⟨_,⟨_,_,_,_,v4,_⟩,_⟩:=jT.out;have⟨_,⟨_,_,_,_,dh,_⟩,_⟩:=yM.out;clear kN aM mM hP sK a3 bw bF bH bO bs br bo bR bT bN bI bj bm t0 t1 t2 t3 u0 u1 u2 u3 qY
          go_wp2_with (at_builtin;refine X5 rfl _ _ rfl (w.heap.size+2) F G ln f l eF f2 g2 rfl rfl uM.hca qw uM.hck uM.coils bv xI ?_;intro a7 c7 w7 pO aP qF;have bD:=AV (bA w7 a7 c7 pO aP qF);have qy:=AV aP;have lD:=AV (jT.grown aP eX.out);have bz:=AV (yM.grown aP (λe=>by have h0:=bW _ e;omega));have⟨_,⟨_,_,_,_,cK,dp⟩,wG⟩:=lD.out;have⟨_,⟨_,_,_,_,_,dn⟩,_⟩:=bz.out;have cJ:=wG 4 AQ;have dt:=wG 5 AQ;clear pO aP qF wG)
          go_roundg (Iu (r.map Bz.arm))
          rotate_left
          ·exact qx.out
          ·have rV:=bD.out
           refine⟨⟨(Ap.mk mk A c (AE I c.length M) (AE J d.length L) d),AE a7 (ln+l.length) c7,f++l,AE h2 r.length j2,r⟩,⟨ar.out,B6.set5 (B6.set4 lD _) _,Lu.setO (Lu.setO rV.1 (a:=(AK B 4)) rV.2 _) (a:=(AK B 5)) rV.2 _,rV.2,B6.setO (B6.setO (xY.grown qy yS.out) aR _) aR _,?_⟩,?_,?_,?_,?_⟩
           ·exact Dq hle (Dq hle (rE.grown qy rE.size rZ.out) _) _
           ·rw[Bz.arm_eq];simp only;rw[aO.out,CU];exact bk.out
           ·rw[Bz.arm_eq];simp only;rw[aO.out,CU];exact dZ.out
           ·rw[Bz.arm_eq];simp only;rw[aO.out,CU];exact rq.out
           ·rw[Bz.arm_eq];exact CG _
        ·obtain rfl:ln=0:=by omega
         have bk:=AV (qZ (.inl (by rw[List.length_eq_zero_iff.1 eF.out.symm];rfl)));clear qZ fQ HE HT2 z0 z1 z2 z3 z4 z5 M L y2 y3 y4 y5 kE;go_upto_region 9 with fail
         have iC:=AV dH.out;have mV:=AV uG.out;have jU:=AV fZ.out;have zB:=AV (jW wr (Below.refl _ _));have qX:=AV oK.out;clear oK jW;have⟨H,ap⟩:=AA (wr.alloc (.cells #[AB O,AB N,AE S s.length Q,AE T u.length K,AE f2 l.length g2,AE h2 r.length j2] 62))
         have nY:AO wr H:=by rw[ap];exact Aa _ _
         have dm:H.heap.size=wr.heap.size+1:=by rw[ap];simp
         have oz:=AV dm;have lT:Hid (B6 H wr.heap.size (AB O) (AB N) (AE S s.length Q) (AE T u.length K) (AE f2 l.length g2) (AE h2 r.length j2)):=by rw[ap];exact B6.new _ _ _ _ _ _ _ _
         have nK:=AV (iC.at nY);have xZ:=AV (mV.at nY);have yX:=AV (Bh jU nY);have zC:=AV (zB.below nY);have qY:=AV (qX H nY);have bq:=KH iC.1;have dl:=nK.1;have bY:wr.heap.size<H.heap.size:=AQ
         clear dm;go_upto_region 10 with fail
         rw[<-ap];clear ap qX;have⟨_,⟨bR,bT,bN,bI,bj,bm⟩,_⟩:=lT.out;have⟨_,⟨bw,bF,bH,bO,bs,br⟩,bo⟩:=nK.out;go_upto_region 11 with(go_at_call 108;refine qY.mono ?_;rintro e w5 ⟨⟨mk,A,c,I,M,J,L,d,rfl,au,af,a5⟩,aa⟩;have aT:=AV au;have aO:=AV af;have fU:=AV a5;have iD:=AV (nK.at aa);have bS:=AV (lT.at aa);have⟨vO,⟨t0,t1,t2,t3,_,_⟩,tf⟩:=iD.out;have u0:=tf 0 AQ;have u1:=tf 1 AQ;have u2:=tf 2 AQ;have u3:=tf 3 AQ;clear au af a5 tf)
         have⟨R,kN⟩:=AA (((((w5.setCell (AK B 0) (AB mk)).setCell (AK B 1) (AB A)).setCell (AK B 2) (AE I c.length M)).setCell (AK B 3) (AE J d.length L)))
         rw[<-kN];have jT:Hid (B6 R B (AB mk) (AB A) (AE I c.length M) (AE J d.length L) (AE F 0 G) (AE (some (AK g 0)) 1 j1)):=by rw[kN];exact iD.setN
         have yM:Hid (B6 R wr.heap.size (AB O) (AB N) (AE S s.length Q) (AE T u.length K) (AE f2 l.length g2) (AE h2 r.length j2)):=by rw[kN];exact bS.set4O (Ne.symm bq)
         have xY:Hid (B6 R (w.heap.size+1) (AB 0) (AB 0) AG AG AG AG):=by rw[kN];exact(xZ.at aa).set4O aR
         have hle:w.heap.size<=B:=by have:=ar.out;omega
         have rE:Hid (AO w R):=by rw[kN];exact Dq hle (Dq hle (Dq hle (Dq hle (Bh yX aa) _) _) _) _
         have a3:∀x∈(Ap.mk mk A c (AE I c.length M) (AE J d.length L) d).vals,x.ownBlock≠some B:=by
          intro x y e;rcases fU.out x y with h | h
          ·exact dY x (fV x h) e
          ·have:=h _ e;omega
         have yK:Hid (Lt R (w.heap.size+2) (Ap.mk mk A c (AE I c.length M) (AE J d.length L) d)):=by rw[kN];exact Lt.setO4 aT a3
         have aM:Below H.heap.size ((((H.setCell (AK B 0) (AB mk)).setCell (AK B 1) (AB A)).setCell (AK B 2) (AE I c.length M)).setCell (AK B 3) (AE J d.length L)) R:=by rw[kN];exact WI aa
         have sK:(((((H.setCell (AK B 0) (AB mk)).setCell (AK B 1) (AB A)).setCell (AK B 2) (AE I c.length M)).setCell (AK B 3) (AE J d.length L))).heap.size=H.heap.size:=AU
         have hP:Parts ((((H.setCell (AK B 0) (AB mk)).setCell (AK B 1) (AB A)).setCell (AK B 2) (AE I c.length M)).setCell (AK B 3) (AE J d.length L)) (w.heap.size+2) (Ap.mk Y X D (AE a1 D.length V) (AE b1 C.length Z) C) (Ap.mk O N s (AE S s.length Q) (AE T u.length K) u) (AE F f.length G) f (AE f2 l.length g2) l (AE h2 r.length j2) r:=(Lu.setN zC dY.out).parts;have mM:Below (((((H.setCell (AK B 0) (AB mk)).setCell (AK B 1) (AB A)).setCell (AK B 2) (AE I c.length M)).setCell (AK B 3) (AE J d.length L))).heap.size ((((H.setCell (AK B 0) (AB mk)).setCell (AK B 1) (AB A)).setCell (AK B 2) (AE I c.length M)).setCell (AK B 3) (AE J d.length L)) R:=by rw[sK];exact aM
         have uM:=AV (hP.below mM);have bA:Hid (∀w7 a7 c7,Vy w7 (w.heap.size+2) (AE a7 (0+l.length) c7) (f++l)->R.grownBy w7 (Value.slice F 0 G).ownBlock->((Value.slice a7 (0+l.length) c7).ownBlock=(Value.slice F 0 G).ownBlock\/(Value.slice a7 (0+l.length) c7).ownBlock=some R.heap.size)->Lu w7 (w.heap.size+2) ⟨(Ap.mk mk A c (AE I c.length M) (AE J d.length L) d),AE a7 (0+l.length) c7,f++l,AE h2 r.length j2,r⟩/\∀x∈(Bz.mk (Ap.mk mk A c (AE I c.length M) (AE J d.length L) d) (AE a7 (0+l.length) c7) (f++l) (AE h2 r.length j2) r).vals,x.ownBlock≠some B):=by
          intro w7 a7 c7 he hg aL;have bB:=eF.out;rw[bB] at hg aL he ⊢;have hj:=hP.join (lo:=H.heap.size) mM yK fU (by rw[sK];exact CG _) (by rw[<-sK];exact aM.size) he hg aL;refine⟨hj.1,λx y e=>?_⟩;rcases hj.2 x y _ e with⟨_,ae,U,K⟩ | h1
          ·exact dY ae (bE ae U) K
          ·omega
         have qw:Hid (0<l.length->∃p,f2=some p/\∀j az,(I8 l)[j]?=some az->R.cell? (p.add j)=some az):=by
          intro hz;have⟨gg,cc,hv,_,_,_,bV⟩:=Bg uM.ckr hz;simp only[Value.slice.injEq] at hv;exact⟨(AK gg 0),hv.1,λj az hu=>by rw[Addr.add_lit];simpa using bV j az hu⟩
         have xI:w.heap.size+2<=R.heap.size:=by have:=jT.1;have:=ar.out;omega
         have du:=yM.1;have dr:=jT.1;have⟨_,⟨_,_,_,_,v4,_⟩,_⟩:=jT.out;have⟨_,⟨_,_,_,_,dh,_⟩,_⟩:=yM.out;clear kN aM mM hP sK a3 bw bF bH bO bs br bo bR bT bN bI bj bm t0 t1 t2 t3 u0 u1 u2 u3 qY
         go_wp2_with (at_builtin;refine X5 rfl _ _ rfl (w.heap.size+2) F G 0 f l eF f2 g2 rfl rfl uM.hca qw uM.hck uM.coils bv xI ?_;intro a7 c7 w7 pO aP qF;have bD:=AV (bA w7 a7 c7 pO aP qF);have qy:=AV aP;have lD:=AV (jT.grown aP eX.out);have bz:=AV (yM.grown aP (λe=>by have h0:=bW _ e;omega));have⟨_,⟨_,_,_,_,cK,dp⟩,wG⟩:=lD.out;have⟨_,⟨_,_,_,_,_,dn⟩,_⟩:=bz.out;have cJ:=wG 4 AQ;have dt:=wG 5 AQ;clear pO aP qF wG)
         go_roundg (Iu (r.map Bz.arm))
         rotate_left
         ·exact qx.out
         ·have rV:=bD.out
          simp only[CV] at rV;refine⟨⟨(Ap.mk mk A c (AE I c.length M) (AE J d.length L) d),AE a7 l.length c7,f++l,AE h2 r.length j2,r⟩,⟨ar.out,B6.set5 (B6.set4 lD _) _,Lu.setO (Lu.setO rV.1 (a:=(AK B 4)) rV.2 _) (a:=(AK B 5)) rV.2 _,rV.2,B6.setO (B6.setO (xY.grown qy yS.out) aR _) aR _,?_⟩,?_,?_,?_,?_⟩
          ·exact Dq hle (Dq hle (rE.grown qy rE.size rZ.out) _) _
          ·rw[Bz.arm_eq];simp only;rw[aO.out,CU];exact bk.out
          ·rw[Bz.arm_eq];simp only;rw[aO.out,CU];exact dZ.out
          ·rw[Bz.arm_eq];simp only;rw[aO.out,CU];exact rq.out
          ·rw[Bz.arm_eq];exact CG _
       ·have dD:((E.length:Int)==1)=false:=by rw[CS];omega
        have dJ:¬((E.length:Int)=1):=AQ
        have aE:=AV (λkid (e:(E.map Bz.arm)=[kid])=>hk (by have:=congrArg List.length e;simpa using this));clear hk fQ
        go_wp2
        refine bodyPost_ret (v:=.agg #[AB Y,AB X,AE a1 D.length V,AE b1 C.length Z,AE F f.length G,AE h1 E.length j1]) (by simp[results,results66,go_sem,z0,z1,z2,z3,z4,z5]) rfl ⟨⟨Y,X,D,a1,V,C,b1,Z,f,F,G,E,h1,j1,rfl,?_,?_⟩,?_⟩
        ·exact Lu.le (Lu.setO6 (base:=w.heap.size+2) fO (λx y e=>by have:=((fO.out).1.lt _ x y _ e).1;omega)) AQ
        ·rw[<-yN.out]
         refine(Uo _ ?_).symm;intro kid e _;rw[Bz.arm_eq] at e;exact aE kid e
        ·exact Dq (Db _) (Dq (Db _) (Dq (Db _) (Dq (Db _) (Dq (Db _) (Dq (Db _) fZ _) _) _) _) _) _
