import Derived.Test.YtnpfcnolmkanfaaGreatDoorZ9
import Derived.Test.YtnpfcnolmkanfaaGreatDoorGu
import Derived.Deep.LoopGhost
import Derived.Deep.RegionHeld3
namespace Go.Proofs.YtnpfcnolmkanfaaGreatDoor
open Tryz
open Stil
open Go.RowKit Go.Sort Go.BigFrame
variable {a:Act}{base n:Nat}{o:Oper}{ops:Array Oper}{u0 u1 u2 u3:Value}
theorem Ahz {w:World}{K:Act->World->Prop}{Q:Exit->Act->World->Prop}{E:Prop}
  (hg:o.guard=none) (s x:Operand) (hop:o.op=.call {callee:=.builtin .append,args:=#[s,x],argTypes:=#[23,23]})
  (base:Nat) (ra:Option Addr) (rc:Nat) (ms ks:List Bj) (ad:Option Addr) (c:Nat) (hs:a.eval s=.slice ra ms.length rc) (hx:a.eval x=.slice ad ks.length c)
  (hrow:Qw w base (.slice ra ms.length rc) ms) (M:0<ks.length->∃p,ad=some p/\∀j u,(Ip ks)[j]?=some u->w.cell? (p.add j)=some u)
  (q:∀m∈ks,AOk w base m) (G:(Value.slice ra ms.length rc::(Hy ms++Hy ks)).Pairwise Aside) (hl:ms.length+ks.length<=1000000) (y:base<=w.heap.size)
  (l:∀f b d,Qw d base (.slice f (ms.length+ks.length) b) (ms++ks)->w.grownBy d (Value.slice ra ms.length rc).ownBlock->((Value.slice f (ms.length+ks.length) b).ownBlock=(Value.slice ra ms.length rc).ownBlock\/(Value.slice f (ms.length+ks.length) b).ownBlock=some w.heap.size)->K (a.put o.dst (.slice f (ms.length+ks.length) b)) d):
  if Region.wanted o (yielded ops a.tmps)=true then Oper.wp prog o a w K Q else E:=by
 obtain⟨D,hi,J,A,L⟩:=info_parts Aps;by_cases hd:ks.length=0
 ·have H:=List.length_eq_zero_iff.1 hd
  subst H;have z:Region.wanted o (yielded ops a.tmps)=true:=by simp[Region.wanted,hg]
  rw[if_pos z];have hcap:ms.length<=rc:=by
   rcases hrow.1.2 with⟨k,i⟩ | ⟨g,b,cur,k,_,_,F,_⟩
   ·rw[i];exact A7l _
   ·simp only[Value.slice.injEq] at k
    rw[k.2.2];exact F
  have hk2:=l ra rc w yDd (Aer _ _) (.inl spz);simp only[A54,A75] at hk2 hx;unfold Oper.wp execOp;cases ad
  ·exact zj0
  ·exact ze0
 ·obtain⟨p,rfl,B⟩:=M omz
  refine Eb hg s x _ hop base 46 D _ 6 112 underlying23 hi J A L rfl dcz _ _ (Ip ms) hs hrow.1 _ _ _ (Ip ks) hx (Ahs ks) B (Afg q) yAe omz y ?_;intro N d i t r;obtain⟨C,v,I⟩:=Aj i;subst I;exact l C v d (hrow.add q G i t r) t r
theorem Aqk {x y b:Value}(h:Aside x y)(hx:∀q,x.ownBlock=some q->q<n)(d:b.ownBlock=y.ownBlock\/b.ownBlock=some n):Aside x b:=by
 rcases d with e | e
 ·rcases h with h0 | h0
  ·exact .inl h0
  ·exact .inr yCf
 ·by_cases f:x.ownBlock=none
  ·exact .inl f
  ·refine .inr (λc=>?_)
   rw[e] at c;have:=hx _ c
   omega
theorem J8.addKid {w1 e:World}{m k:Bj}{kv':Value}(h:J8 w1 base m)(r:∀x∈k.vals,∀y∈m.vals,Aside x y)(hr:Qw e base kv' (m.kids++[k]))(hg:w1.grownBy e m.kv.ownBlock)(t:kv'.ownBlock=m.kv.ownBlock\/kv'.ownBlock=some w1.heap.size):
  J8 e base ⟨m.net,m.cv,m.coils,kv',m.kids++[k]⟩/\∀x∈(Bj.mk m.net m.cv m.coils kv' (m.kids++[k])).vals,x∈m.vals\/x∈k.vals\/x=kv':=by
 obtain⟨v,w⟩:=h;have u:=λx b q F=>(v.lt m x b q F).2
 obtain⟨C,⟨H,B⟩,_,_⟩:=(Il _ _ _).1 v;have s:(Bj.mk m.net m.cv m.coils kv' (m.kids++[k])).vals=m.net.vals++((m.cv::Gg m.coils)++(kv'::(Hy m.kids++k.vals))):=by rw[Bj.vals_eq];simp only;rw[Xp,Qh]
 have d:m.vals=m.net.vals++((m.cv::Gg m.coils)++(m.kv::Hy m.kids)):=Bj.vals_eq _;have j:∀x∈m.net.vals,x∈m.vals:=λx b=>by rw[d];exact A6d _ b
 have f:∀x∈m.cv::Gg m.coils,x∈m.vals:=λx b=>by rw[d];exact A6a _ (A6d _ b)
 have G:∀x∈Hy m.kids,x∈m.vals:=λx b=>by rw[d];exact A6a _ (A6a _ (A56 _ b))
 rw[d] at w;obtain⟨E,A,g⟩:=List.pairwise_append.1 w;obtain⟨D,_,l⟩:=List.pairwise_append.1 A;have z:=λx b=>g x b _ (A6a _ (A7r ..))
 have i:=λx b=>l x b _ (A7r ..)
 refine⟨⟨(Il _ _ _).2 ⟨C.kept hg z,⟨H.kept hg (i _ (A7r ..)),λx b=>(B x b).kept hg (i _ (A56 _ (Oi.2 ⟨x,b,rfl⟩)))⟩,hr.1,hr.2.1⟩,?_⟩,?_⟩
 ·rw[s]
  have p:=hr.2.2;rw[Xp,Qh] at p;refine List.pairwise_append.2 ⟨E,List.pairwise_append.2 ⟨D,p,λx b y c=>?_⟩,λx b y c=>?_⟩
  ·rcases List.mem_cons.1 c with rfl | c
   ·exact Aqk (i x b) (u x (f x b)) t
   rcases List.mem_append.1 c with c | c
   ·exact l x b y (A56 _ c)
   ·exact(r y c x (f x b)).symm
  ·rcases List.mem_append.1 c with c | c
   ·exact g x b y (A6d _ c)
   rcases List.mem_cons.1 c with rfl | c
   ·exact Aqk (z x b) (u x (j x b)) t
   rcases List.mem_append.1 c with c | c
   ·exact g x b y (A6a _ (A56 _ c))
   ·exact(r y c x (j x b)).symm
 ·intro x b
  rw[s] at b;rcases List.mem_append.1 b with b | b
  ·exact .inl (j x b)
  rcases List.mem_append.1 b with b | b
  ·exact .inl (f x b)
  rcases List.mem_cons.1 b with rfl | b
  ·exact .inr (.inr rfl)
  rcases List.mem_append.1 b with b | b
  ·exact .inl (G x b)
  ·exact .inr (.inl b)
theorem J8.krow {w:World}{m:Bj}(h:J8 w base m):Qw w base m.kv m.kids:=by
 obtain⟨c,b⟩:=h;obtain⟨_,_,d,e⟩:=(Il _ _ _).1 c;rw[Bj.vals_eq] at b;exact⟨d,e,(List.pairwise_append.1 (List.pairwise_append.1 b).2.1).2.1⟩
theorem B6.al {w:World}{b:Nat}{v0 c g f d e:Value}(h:B6 w b v0 c g f d e)(o:Obj):B6 (w.alloc o) b v0 c g f d e:=h.at (Aa _ _)
theorem Aya {W:World}{b c:Value}{t:TypeId}:∀j u,[u0,u1,u2,u3,b,c][j]?=some u->(W.alloc (.cells #[u0,u1,u2,u3,b,c] t)).cell? ((⟨W.heap.size,0,none⟩:Addr).add j)=some u:=by
 intro j u h;rw[Addr.add_lit]
 match j,h with
 | 0,h=>simp at h;subst h;simp[go_sem]
 | 1,h=>simp at h;subst h;simp[go_sem]
 | 2,h=>simp at h;subst h;simp[go_sem]
 | 3,h=>simp at h;subst h;simp[go_sem]
 | 4,h=>simp at h;subst h;simp[go_sem]
 | 5,h=>simp at h;subst h;simp[go_sem]
 | j+6,h=>simp at h
theorem Vw {rest:List Oper}{w:World}{Q:Exit->Act->World->Prop}
  (hg:o.guard=none) (s x:Operand) (y:o.op=.call {callee:=.builtin .append,args:=#[s,x],argTypes:=#[44,44]})
  (base:Nat) (f:Option Addr) (g n:Nat) (b ks:List D8) (B:n=b.length) (ad:Option Addr) (c:Nat) (t:a.eval s=.slice f n g) (hx:a.eval x=.slice ad ks.length c)
  (r:Ud w base (.slice f b.length g) b) (D:0<ks.length->∃p,ad=some p/\∀j u,(Ib ks)[j]?=some u->w.cell? (p.add j)=some u)
  (q:∀m∈ks,EOk w base m) (A:(Value.slice f b.length g::(Gg b++Gg ks)).Pairwise Aside) (hl:b.length+ks.length<=1000000) (l:base<=w.heap.size)
  (h:∀e d i,Ud i base (.slice e (n+ks.length) d) (b++ks)->w.grownBy i (Value.slice f n g).ownBlock->((Value.slice e (n+ks.length) d).ownBlock=(Value.slice f n g).ownBlock\/(Value.slice e (n+ks.length) d).ownBlock=some w.heap.size)->wpList prog ops Q rest (a.put o.dst (.slice e (n+ks.length) d)) i):
  wpList prog ops Q (o::rest) a w:=by
 subst B;refine wpList_plain hg λK k=>?_
 have v:Region.wanted o (yielded #[] a.tmps)=true:=by simp[Region.wanted,hg]
 have:=Yp (ops:=#[]) (K:=K) (Q:=Q) (E:=True) hg s x y base f g b ks ad c t hx r D q A hl l (λe d i z F C=>k _ _ (h e d i z F C))
 rwa [if_pos v] at this
theorem Yi {a b:World}(h:Below n a b)(p:Addr)(v:Value):Below n (a.setCell p v) (b.setCell p v):=by
 refine⟨h.os,h.tape,h.output,by simpa using h.size,λk c=>?_⟩;have:=h.block k c
 simp only[World.setCell,A76];split
 ·rw[this]
 ·exact this
theorem Afb {c:Nat}{a b:World}(h:Below n a b):Below n ((((a.setCell ⟨c,0,none⟩ u0).setCell ⟨c,1,none⟩ u1).setCell ⟨c,2,none⟩ u2).setCell ⟨c,3,none⟩ u3) ((((b.setCell ⟨c,0,none⟩ u0).setCell ⟨c,1,none⟩ u1).setCell ⟨c,2,none⟩ u2).setCell ⟨c,3,none⟩ u3):=
 Yi (Yi (Yi (Yi h _ _) _ _) _ _) _ _
set_option maxHeartbeats 4000000 in
set_option maxRecDepth 100000 in
theorem A2k (a:Stil.Arm):Cm a->Aw a<=900000->J5 a->∀(av nv cv kv:Value) (w:World),Dh w av a.net.one.args->E8 w nv a.net.kids->Hz w cv a.coils->Ea w kv a.kids->Calls prog 12 #[.agg #[.int .i64 a.net.kind, .int .i64 a.net.one.op,av,nv,cv,kv]] w λe w'=>Amg w' w.heap.size (Dc a) e/\Below w.heap.size w w':=by
 induction a using Fz with
 | h n cs kids ih=>
  intro bM ay cr av nv cv kv w aD aI aP aO;obtain⟨bD,cD,b9,aS,dV⟩:=(Gi _ _ _).1 bM;obtain⟨bC,aL⟩:=(O9 _ _ _).1 cr;simp only at aD aI aP aO;have bK:∀x∈kids,Aw x<=900000:=by
   intro x y;have:Aw x<=Ig kids:=Ed Aw kids x y;rw[Dp] at ay;omega
  have cE:kids.length<=999999:=by
   have h1:=Rt kids;rw[Dp] at ay;omega
  have cA:cs.length<=999999:=by
   rw[Dp] at ay;omega
  have cx:Ar n=false->Am n<=999999:=by
   intro h;rw[Dp] at ay;have e:Stil.nsz n=Am n:=if_neg yDf;omega
  have H1:=hid (λW h=>A2n cs cv W (aP.below h) cA b9);have H2:=hid (λx y=>ih x y (dV x y) (bK x y) (aL x y));have H3:=hid (λW h=>Xx n av nv W (aD.below h) (aI.below h) bD);have H4:Hid (Ar n=false->∀W,Below w.heap.size w W->Calls prog 27 #[.agg #[.int .i64 n.kind, .int .i64 n.one.op,av,nv]] W λe w'=>Qi w' W.heap.size (Au n) e/\Below W.heap.size W w'):=λhn W h=>Am5 n bD (bC.resolve_left (by rw[hn];exact A7h)) (by have:=cx hn;omega) av nv W (aD.below h) (aI.below h)
  have gu:=hid (λW (h:Below w.heap.size w W)=>aO.below h);have HJ:=hid (Nu n cs kids);have HM:Hid (Yl 900000 ⟨Sm n,cs,kids.map Dc⟩):=by
   have:=Ajl bM ay (λx y=>X5 x (dV x y) (bK x y))
   exact⟨this.1,A6e this.2 ay⟩
  have cy:Hid (Gm ⟨Sm n,cs,kids.map Dc⟩):=(Gu _ _ _).2 ⟨Rh bC,λx y=>by obtain⟨ae,U,rfl⟩:=List.mem_map.1 y;exact Td ae (aL ae U)⟩;have cH:=hid cE;obtain⟨a9,hT⟩:∃a9,a9=Dc ⟨n,cs,kids⟩:=⟨_,rfl⟩
  rw[<-hT] at HJ ⊢;obtain⟨p0,r0,rfl,cY⟩:=aD;obtain⟨p1,r1,rfl,cg⟩:=aI;obtain⟨p2,r2,rfl,c8⟩:=aP;obtain⟨p3,r3,rfl,cQ⟩:=aO;clear cY cg c8 cQ ih bM ay bD cD b9 aS dV bK cA cx hT cr bC aL;go_enter func12,ntmps12;go_upto_region 1 with fail
  obtain⟨W,hW⟩:∃W,W=(w.alloc (.cells #[.int .i64 n.kind, .int .i64 n.one.op, .slice p0 n.one.args.length r0, .slice p1 n.kids.length r1, .slice p2 cs.length r2, .slice p3 kids.length r3] 46)).alloc (.cells #[.int .i64 0, .int .i64 0, .slice none 0 0, .slice none 0 0, .slice none 0 0, .slice none 0 0] 46):=⟨_,rfl⟩
  rw[<-hW];have hA:B6 W w.heap.size (.int .i64 n.kind) (.int .i64 n.one.op) (.slice p0 n.one.args.length r0) (.slice p1 n.kids.length r1) (.slice p2 cs.length r2) (.slice p3 kids.length r3):=by rw[hW];exact(B6.new w _ _ _ _ _ _ _).at (Aa _ _)
  have hZ:B6 W (w.heap.size+1) (.int .i64 0) (.int .i64 0) (.slice none 0 0) (.slice none 0 0) (.slice none 0 0) (.slice none 0 0):=by rw[hW];have:=B6.new (w.alloc (.cells #[.int .i64 n.kind, .int .i64 n.one.op, .slice p0 n.one.args.length r0, .slice p1 n.kids.length r1, .slice p2 cs.length r2, .slice p3 kids.length r3] 46)) (.int .i64 0) (.int .i64 0) (.slice none 0 0) (.slice none 0 0) (.slice none 0 0) (.slice none 0 0) 46;simpa using this
  have cw:W.heap.size=w.heap.size+2:=by rw[hW];simp
  have bh:Below w.heap.size w W:=by rw[hW];exact Cc (Aa _ _) _
  clear hW;have HA:=hid hA;have HZ:=hid hZ;have bP:=hid cw;have br:w.heap.size<W.heap.size:=omz
  obtain⟨_,⟨_,_,_,_,p4,_⟩,_⟩:=hA;clear hZ cw;go_cut [3] (λs3 wc=>∃(B:Nat) (m:Bj),s3=.pointer (some ⟨B,0,none⟩)/\NSt w wc B m/\m.arm=⟨Stil.none0,cs,[]⟩/\B6 wc w.heap.size (.int .i64 n.kind) (.int .i64 n.one.op) (.slice p0 n.one.args.length r0) (.slice p1 n.kids.length r1) (.slice p2 cs.length r2) (.slice p3 kids.length r3))
  case first=>
   go_wp2_with (go_at_call 25;refine(H1 _ (by exact bh)).mono ?_;rintro e w1 ⟨ra,rc,fP,rfl,ag,bV,b8⟩;have eP:=b8;have da:=bh.trans (eP.mono bh.size);have cg:=A51 br eP.size;have de:=(eP.cell (p:=⟨w.heap.size,4,none⟩) br).trans p4;have dw:=hid ag;have dn:Hid (Ud w1 _ (.slice ra fP.length rc) fP):=bV;have dz:Hid (Below _ _ w1):=b8;clear ag bV)
   go_meet;have dD:=bP.out;obtain⟨ho,hv⟩:=Aa5 (base:=w.heap.size+2) (lA:=w1.heap.size) dn (Qw.nil w1 w1.heap.size) (Below.refl _ _) yFf (A57 _) (by have:=eP.size;omega);have ay:=eP.size;refine⟨w1.heap.size,⟨Pz, .slice ra fP.length rc,fP, .slice none 0 0,[]⟩,rfl,⟨omz,B6.new _ _ _ _ _ _ _ _,ho.below (Aa _ _),λx y e=>by(have h:=hv x y _ e;omega),(HZ.at eP).at (Aa _ _),Cc da _⟩,?_,(HA.at eP).at (Aa _ _)⟩;rw[Bj.arm_eq];simp only;rw[dw.out,X6];rfl
  case rest=>
   clear p4 bh br bP HA HZ;obtain⟨B,m,rfl,aA,au,hA⟩:=hcut;have aE:=hid aA;have jF:=hid au;have HA:=hid hA;clear aA au H1;obtain⟨aR,⟨cq,cf,cz,xB,oh,og⟩,xe⟩:=hA;clear xe;obtain⟨ak,an,ac,ai,ao,hbw⟩:=aE.out;obtain⟨t,ht⟩:∃t,t=Ar n:=⟨_,rfl⟩
   have HT:=hid ht;have eX:Hid (∀W,Below wc.heap.size wc W->Calls prog 26 #[.agg #[.int .i64 n.kind, .int .i64 n.one.op, .slice p0 n.one.args.length r0, .slice p1 n.kids.length r1]] W λe w'=>e=.returned (.bool t)/\Below W.heap.size W w'):=by rw[ht];exact λW h=>H3 W (hbw.trans (h.mono hbw.size))
   have dO:Hid (t=false->∀W,Below wc.heap.size wc W->Calls prog 27 #[.agg #[.int .i64 n.kind, .int .i64 n.one.op, .slice p0 n.one.args.length r0, .slice p1 n.kids.length r1]] W λe w'=>Qi w' W.heap.size (Au n) e/\Below W.heap.size W w'):=by rw[ht];exact λhn W h=>H4 hn W (hbw.trans (h.mono hbw.size))
   clear ht H3 H4 ak an ac ai ao hbw;go_upto_if 13 with(go_at_call 26;refine(eX _ blA).mono ?_;rintro e w3 ⟨rfl,aB⟩;obtain⟨a8,bc⟩:=D7 aB;have tC:=A51 aR aB.size;have q0:w3.cell? ⟨w.heap.size,0,none⟩=_:=(a8 _ _ aR).trans cq;have q1:w3.cell? ⟨w.heap.size,1,none⟩=_:=(a8 _ _ aR).trans cf;have q2:w3.cell? ⟨w.heap.size,2,none⟩=_:=(a8 _ _ aR).trans cz;have q3:w3.cell? ⟨w.heap.size,3,none⟩=_:=(a8 _ _ aR).trans xB;clear a8 bc)
   clear eX;have iR:Hid (NSt w w3 B m):=by
    obtain⟨ak,an,ac,ai,ao,hbw⟩:=aE.out;exact⟨ak,an.at aB,ac.below aB,ai,ao.at aB,Du hbw aB⟩
   have lQ:=hid (λh=>dO h w3 aB);have ca:=HA.at aB;clear aE HA aR cq cf cz xB oh og aB dO;have wI:=hid ca;clear ca;go_cut [] (λwd=>∃m:Bj,NSt w wd B m/\m.arm=⟨Sm n,cs,[]⟩/\B6 wd w.heap.size (.int .i64 n.kind) (.int .i64 n.one.op) (.slice p0 n.one.args.length r0) (.slice p1 n.kids.length r1) (.slice p2 cs.length r2) (.slice p3 kids.length r3))
   case first=>
    cases t with
    | true=>
     have eU:Hid (Sm n=n/\n=Stil.none0):=⟨if_pos HT.symm,Abq HT.symm⟩
     clear lQ
     go_wp2
     go_meet;exact⟨m,iR.out,by rw[jF.out,eU.out.1,eU.out.2],wI.out⟩
    | false=>
     have eU:Hid (Sm n=Au n):=if_neg (by rw[<-HT.out];exact A7h);have wX:=hid (lQ rfl);clear lQ
     go_wp2_with (go_at_call 27;refine wX.mono ?_;rintro e z ⟨⟨mk,A,d,s0,t0,f,t1,c,rfl,ap,ag⟩,hb4⟩;have aU:=hid ap;have aQ:=hid ag;clear ap ag;have oN:Hid (A5t z B m):=B6.at iR.2.1 hb4;obtain⟨cp,⟨M,L,y2,y3,_,_⟩,fB⟩:=oN.out;have f0:=fB 0 omz;have F:=fB 1 omz;have f2:=fB 2 omz;have f3:=fB 3 omz;clear fB)
     go_meet;obtain⟨ak,an,ac,ai,ao,hbw⟩:=iR.out;have tu:=hb4.size;have ay:=hbw.size;have dh:=an.1;have hN:J7 z (w.heap.size+2) ⟨mk,A,d, .slice s0 d.length t0, .slice f c.length t1,c⟩:=aU.le omz;have yE:=J8.setNet (ac.below hb4) hN (λx y q hq=>(aU.1.lt _ x y q hq).1) (λx y q hq=>(ac.1.lt _ x y q hq).2);have nH:∀x∈(Bj.mk ⟨mk,A,d, .slice s0 d.length t0, .slice f c.length t1,c⟩ m.cv m.coils m.kv m.kids).vals,x.ownBlock≠some B:=by
      intro x y e;rw[Bj.vals_eq] at y;rcases List.mem_append.1 y with y | y
      ·have:=(aU.1.lt _ x y _ e).1;omega
      ·exact ai x (by rw[Bj.vals_eq];exact A6a _ y) e
     refine⟨⟨⟨mk,A,d, .slice s0 d.length t0, .slice f c.length t1,c⟩,m.cv,m.coils,m.kv,m.kids⟩,⟨ak,B6.setN oN.out,J8.setN yE nH,nH,B6.set4O (ao.at hb4) omz,?_⟩,?_,B6.set4O (wI.at hb4) omz⟩
     ·exact zA0
     ·exact zt0
   case rest=>
    obtain⟨m2,aA,au,hA⟩:=hcut;clear jF iR lQ q0 q1 q2 q3 wI tC;have aE:=hid aA;have jF:=hid au;clear aA au
    go_wp2
    go_loopw [4] (λi wr=>∃(j:Nat) (m:Bj),j<=kids.length/\i=.int .i64 j/\NSt w wr B m/\m.arm=⟨Sm n,cs,(kids.take j).map Dc⟩/\B6 wr w.heap.size (.int .i64 n.kind) (.int .i64 n.one.op) (.slice p0 n.one.args.length r0) (.slice p1 n.kids.length r1) (.slice p2 cs.length r2) (.slice p3 kids.length r3)) (λi _=>kids.length - (intOf i).toNat)
    case atStart=>exact⟨0,m2,omz,rfl,aE.out,by rw[jF.out];rfl,hA⟩
    case round=>
     clear aE jF hA HT;obtain⟨j,m3,hj,rfl,aA,au,hA⟩:=hrel;obtain⟨ak,an,ac,ai,ao,hbw⟩:=aA;obtain⟨k1,Z,D,X,V,b1,Y,C,F,G,f,h1,j1,E,rfl⟩:=Xd m3 ac.1;have aS:E.length=j:=by
      rw[Bj.arm_eq] at au;have h2:=congrArg (λa:Stil.Arm=>a.kids.length) au;simp only[A6i,A74] at h2;omega
     have gQ:B6 wr B (.int .i64 k1) (.int .i64 Z) (.slice X D.length V) (.slice b1 C.length Y) (.slice F f.length G) (.slice h1 E.length j1):=an;have dA:=hid gQ;have fA:=hid ac;have eU:=hid ai;have qZ:=hid ao;have iH:=hid hbw;have jF:=hid au;have aw:=hid ak;have HA:=hid hA;have bm:Hid (w.heap.size+2<=wr.heap.size):=by have:=gQ.1;show _<=_;omega
     by_cases ba:j<kids.length
     ·have aN:=gu wr hbw
      obtain⟨pa,pc,cb,b7⟩:=aN;simp only[Value.slice.injEq,true_and] at cb;obtain⟨rfl,rfl⟩:=cb;obtain⟨b,o,rfl,dF,hn⟩:=b7 j ba;obtain⟨cm,cF,pz,x4,x5,aP,aO⟩:=hn.open;obtain⟨J,I,mQ,mO,x2,x3,aD,aI⟩:=cm.open;have HI:=hid (λW h=>H2 kids[j] (A59 ba) mQ mO cF pz W (aD.below h) (aI.below h) (aP.below h) (aO.below h));have dN:Hid ((kids.take (j+1)).map Dc=(kids.take j).map Dc++[Dc kids[j]]):=by show _=_;rw[A6l ba,A6g];rfl
      obtain⟨x,y⟩:∃x,x=kids[j]:=⟨_,rfl⟩
      rw[<-y] at HI dN J I aD aI aP aO;obtain⟨q0,s0,rfl,_⟩:=aD;obtain⟨q1,dC,rfl,_⟩:=aI;obtain⟨q2,dH,rfl,_⟩:=aP;obtain⟨q3,dt,rfl,_⟩:=aO;obtain⟨ab,⟨_,_,_,_,_,y5⟩,fB⟩:=gQ;obtain⟨dr,⟨_,_,_,_,_,z5⟩,_⟩:=hA;have cT:=hid (fB 5 omz);have bL:E.length+[(Bj.mk ⟨k1,Z,D, .slice X D.length V, .slice b1 C.length Y,C⟩ (.slice F f.length G) f (.slice h1 E.length j1) E)].length<=1000000:=by simp only[A62];omega
      have ax:Value.slice h1 E.length j1∈(Bj.mk ⟨k1,Z,D, .slice X D.length V, .slice b1 C.length Y,C⟩ (.slice F f.length G) f (.slice h1 E.length j1) E).vals:=by rw[Bj.vals_eq];simp
      have bf:=hid (ai _ ax);have oI:=hid (λq hq=>(ac.1.lt _ _ ax q hq).1);have dj:(0:Int)<=(j:Int):=omz
      have dl:(j:Int)<(kids.length:Int):=omz
      clear y hn cm b7 an ac ai ao hbw au ak fB ax aS;go_upto_region 7 with fail
      go_region_law (first | (refine Ahz rfl _ _ rfl (w.heap.size+2) h1 j1 E [(Bj.mk ⟨mk,A,d, .slice xa d.length ya, .slice xb bY.length yb,bY⟩ (.slice xc bZ.length yc) bZ (.slice xd c.length yd) c)] (some ⟨w5.heap.size,0,none⟩) 1 rfl rfl (((fA.below aa).below (Aa _ _)).krow) (λ_=>⟨_,rfl,by exact Aya⟩) (λm hm=>by rw[List.mem_singleton.1 hm];exact((aU.1.le bm.out).below (Aa _ _))) (fA.krow.apart (w1:=w5) (b1:=wr.heap.size) (λm hm=>by rw[List.mem_singleton.1 hm];exact aU.1) (A57 _) (by rw[Qh];exact aU.2)) bL (by have:=aa.size;have:=bm.out;simp;omega) ?_;intro a6 c6 w6 aY aC aV;have gX:Hid (Qw w6 (w.heap.size+2) (.slice a6 (E.length+1) c6) (E++[(Bj.mk ⟨mk,A,d, .slice xa d.length ya, .slice xb bY.length yb,bY⟩ (.slice xc bZ.length yc) bZ (.slice xd c.length yd) c)])):=aY;have bH:Hid ((w5.alloc (.cells #[.int .i64 mk, .int .i64 A, .slice xa d.length ya, .slice xb bY.length yb, .slice xc bZ.length yc, .slice xd c.length yd] 46)).grownBy w6 (Value.slice h1 E.length j1).ownBlock):=aC;have jw:Hid ((Value.slice a6 (E.length+1) c6).ownBlock=(Value.slice h1 E.length j1).ownBlock\/(Value.slice a6 (E.length+1) c6).ownBlock=some (w5.alloc (.cells #[.int .i64 mk, .int .i64 A, .slice xa d.length ya, .slice xb bY.length yb, .slice xc bZ.length yc, .slice xd c.length yd] 46)).heap.size):=aV;have bQ:B<(w5.alloc (.cells #[.int .i64 mk, .int .i64 A, .slice xa d.length ya, .slice xb bY.length yb, .slice xc bZ.length yc, .slice xd c.length yd] 46)).heap.size:=yAd;have t5:=(Dj aC bQ bf.out).trans ((Eg nV).trans dc);have u5:=(Ho aC bQ bf.out).trans (((Aa w5 (.cells #[.int .i64 mk, .int .i64 A, .slice xa d.length ya, .slice xb bY.length yb, .slice xc bZ.length yc, .slice xd c.length yd] 46)).frozen (p:=⟨B,5,none⟩) nV).trans cJ.out);clear aY aC aV bQ) | (go_simp;go_at_call 12;refine(HI _ yFc).mono ?_;rintro e w5 ⟨⟨mk,A,d,xa,ya,bY,xb,yb,bZ,xc,yc,c,xd,yd,rfl,ap,ag⟩,yS⟩;have aa:=Du (Below.refl _ _).drew yS;have aU:Hid (J8 w5 wr.heap.size (Bj.mk ⟨mk,A,d, .slice xa d.length ya, .slice xb bY.length yb,bY⟩ (.slice xc bZ.length yc) bZ (.slice xd c.length yd) c)):=ap;have aQ:=hid ag;have nV:=A51 ab aa.size;have dc:=(aa.cell (p:=⟨B,5,none⟩) ab).trans y5;have cJ:=hid ((aa.frozen (p:=⟨B,5,none⟩) ab).trans cT.out);clear ap ag yS))
      all_goals
       go_wp2
       have cp:=aw.out;have hg:=bH.out;have cd:=J8.addKid (m:=(Bj.mk ⟨k1,Z,D, .slice X D.length V, .slice b1 C.length Y,C⟩ (.slice F f.length G) f (.slice h1 E.length j1) E)) (k:=(Bj.mk ⟨mk,A,d, .slice xa d.length ya, .slice xb bY.length yb,bY⟩ (.slice xc bZ.length yc) bZ (.slice xd c.length yd) c)) (kv':=.slice a6 (E.length+1) c6) ((fA.below aa).below (Aa _ _)) (λx y ae U=>(Ij (n:=wr.heap.size) (λq hq=>(fA.1.lt _ ae U q hq).2) (λq hq=>(aU.1.lt _ x y q hq).1)).symm) gX hg jw.out;have yG:∀x∈(Bj.mk ⟨k1,Z,D, .slice X D.length V, .slice b1 C.length Y,C⟩ (.slice F f.length G) f (.slice a6 (E.length+1) c6) (E++[(Bj.mk ⟨mk,A,d, .slice xa d.length ya, .slice xb bY.length yb,bY⟩ (.slice xc bZ.length yc) bZ (.slice xd c.length yd) c)])).vals,x.ownBlock≠some B:=by
        intro x y e;rcases cd.2 x y with h | h | h
        ·exact eU x h e
        ·have:=(aU.1.lt _ x h _ e).1;omega
        ·rw[h] at e
         rcases jw with h2 | h2
         ·rw[h2] at e;exact bf e
         ·rw[h2] at e;cases e;simp at nV;omega
       refine⟨⟨j+1,(Bj.mk ⟨k1,Z,D, .slice X D.length V, .slice b1 C.length Y,C⟩ (.slice F f.length G) f (.slice a6 (E.length+1) c6) (E++[(Bj.mk ⟨mk,A,d, .slice xa d.length ya, .slice xb bY.length yb,bY⟩ (.slice xc bZ.length yc) bZ (.slice xd c.length yd) c)])),omz,by go_num,⟨cp,B6.set5 (B6.grown ((dA.at aa).al _) hg bf.out) _,J8.setO cd.1 (a:=⟨B,5,none⟩) yG _,yG,B6.setO (B6.grown ((qZ.at aa).al _) hg (λe=>by have:=oI _ e;omega)) omz _,?_⟩,?_,B6.setO (B6.grown ((HA.at aa).al _) hg (λe=>by have:=oI _ e;omega)) omz _⟩,by simp[intOf];omega⟩
       ·have hle:w.heap.size<=B:=by omega
        exact Di hle ((Cc (Du iH aa) _).grown hg (by have:=iH.size;have:=aa.size;simp;omega) (λk hk=>by have:=oI k hk;omega)) _
       ·have e:=jF.out
        rw[Bj.arm_eq] at e ⊢;simp only[Stil.Arm.mk.injEq] at e ⊢;refine⟨e.1,e.2.1,?_⟩;rw[A6g,e.2.2,dN.out,A7x,aQ.out]
     ·obtain rfl:j=kids.length:=by omega
      have bO:=jF.out;rw[A73] at bO;have bg:=hid bO;have af:Hid (NSt w wr B (Bj.mk ⟨k1,Z,D, .slice X D.length V, .slice b1 C.length Y,C⟩ (.slice F f.length G) f (.slice h1 E.length j1) E)):=⟨aw.out,dA.out,fA.out,eU.out,qZ.out,iH.out⟩
      obtain⟨_,⟨_,_,_,_,_,z5⟩,_⟩:=hA;clear bO an gQ ac ai ao hbw au dA fA eU qZ iH jF HA bm H2 gu ba aS ak;obtain⟨wo,cV⟩:∃wo:World,wo=wr:=⟨wr,rfl⟩
      subst cV
      go_wp2
      go_loopg [] (Ig (kids.map Dc)) (λk wr=>∃m:Bj,NSt w wr B m/\Stil.joined m.arm=a9/\Yl 900000 m.arm/\Gm m.arm/\Ig m.arm.kids<=k)
      case atStart=>
       refine⟨(Bj.mk ⟨k1,Z,D, .slice X D.length V, .slice b1 C.length Y,C⟩ (.slice F f.length G) f (.slice h1 E.length j1) E),af.out,?_,?_,?_,?_⟩
       ·rw[bg.out,HJ.out]
       ·rw[bg.out];exact HM.out
       ·rw[bg.out];exact cy.out
       ·rw[bg.out];exact A57 _
      case round=>
       clear af bg HJ HM cy cH z5 k1 Z D X V b1 Y C F G f h1 j1 E aw;obtain⟨m3,aA,bW,bw,bX,cj⟩:=hrel;obtain⟨ak,an,ac,ai,ao,hbw⟩:=aA;obtain⟨k1,Z,D,X,V,b1,Y,C,F,G,f,h1,j1,E,rfl⟩:=Xd m3 ac.1;have gQ:B6 wr B (.int .i64 k1) (.int .i64 Z) (.slice X D.length V) (.slice b1 C.length Y) (.slice F f.length G) (.slice h1 E.length j1):=an;have dA:=hid gQ;have fA:=hid ac;have eU:=hid ai;have qZ:=hid ao;have iH:=hid hbw;have vT:=hid bW;have zq:=hid bw;have cG:=hid bX;have cX:=hid cj;have aw:=hid ak;have aS:E.length<=900000/\f.length<=900000:=by
        have h0:=bw.2;rw[Bj.arm_eq,Dp] at h0;simp only[A6i] at h0;have h1:(E.map Bj.arm).length<=Ig (E.map Bj.arm):=Rt _;rw[A6i] at h1;omega
       obtain⟨tY,cL⟩:=aS;obtain⟨ab,⟨J,I,x2,x3,x4,x5⟩,fB⟩:=gQ;obtain⟨ah,⟨z0,z1,z2,z3,z4,z5⟩,kR⟩:=ao;have M:=kR 0 omz;have L:=kR 1 omz;have y2:=kR 2 omz;have y3:=kR 3 omz;have y4:=kR 4 omz;have y5:=kR 5 omz;have aT:w.heap.size+1≠B:=omz
       clear an ac ai hbw bW bw cj ak kR bX;by_cases hk:E.length=1
       ·obtain⟨kid,rfl⟩:=List.length_eq_one_iff.1 hk
        obtain⟨_,_,aL,bi⟩:=(Il _ _ _).1 fA.1;simp only at aL bi;obtain⟨N,O,u,S,T,R,H,s,f2,g2,l,h2,j2,r,rfl⟩:=Xd kid (bi kid spz);obtain⟨g,rfl,aM,q0,q1,q2,q3,q4,q5⟩:=Akw aL;simp only[A62] at*;have ck:=(Il _ _ _).1 (bi (Bj.mk ⟨N,O,u, .slice S u.length T, .slice R s.length H,s⟩ (.slice f2 l.length g2) l (.slice h2 r.length j2) r) spz);obtain⟨bc,aj⟩:=MOk.from _ ck.1;have HE:Hid ((Bj.mk ⟨k1,Z,D, .slice X D.length V, .slice b1 C.length Y,C⟩ (.slice F f.length G) f (.slice (some ⟨g,0,none⟩) 1 j1) [(Bj.mk ⟨N,O,u, .slice S u.length T, .slice R s.length H,s⟩ (.slice f2 l.length g2) l (.slice h2 r.length j2) r)]).arm=⟨(Aq.mk k1 Z D (.slice X D.length V) (.slice b1 C.length Y) C).net,f.map D8.elem,[⟨(Aq.mk N O u (.slice S u.length T) (.slice R s.length H) s).net,l.map D8.elem,r.map Bj.arm⟩]⟩):=by
         show _=_
         rw[Bj.arm_eq];simp only[A6k,A66];rw[Bj.arm_eq (Bj.mk ⟨N,O,u, .slice S u.length T, .slice R s.length H,s⟩ (.slice f2 l.length g2) l (.slice h2 r.length j2) r)]
        have tX:=zq.out;rw[HE.out] at tX;have b6:=Anx tX (A57 _);simp only at b6;obtain⟨b0,cB,ct,bq,bz,cn⟩:=b6;simp only[A6i] at bz;have jE:Hid (∀W,Below wr.heap.size wr W->Calls prog 26 #[.agg #[.int .i64 N, .int .i64 O, .slice S u.length T, .slice R s.length H]] W λe w'=>e=.returned (.bool (Ar (Aq.mk N O u (.slice S u.length T) (.slice R s.length H) s).net))/\Below W.heap.size W w'):=by
         intro W h;have:=Xx (Aq.mk N O u (.slice S u.length T) (.slice R s.length H) s).net _ _ W (bc.at.below h) (aj.at.below h) bq
         have e:=Aq.net_eq (Aq.mk N O u (.slice S u.length T) (.slice R s.length H) s);have nY:(Aq.mk N O u (.slice S u.length T) (.slice R s.length H) s).net.kind=N:=by rw[e]
         have nX:(Aq.mk N O u (.slice S u.length T) (.slice R s.length H) s).net.one.op=O:=by rw[e]
         rw[nY,nX] at this;exact this
        have bE:=cG.out;rw[HE.out] at bE;have zL:=Aan bE;simp only at zL;have jh:=J8.parts fA.out;have mF:=hid (λW h=>A4m k1 Z D X V b1 Y C N O u S T R H s (w.heap.size+2) W (jh.hna.below h) (jh.hnk.below h) jh.nets (A6e (by have:=aw.out;omega) h.size) cB zL.2.1 zL.2.2 ct bq);have bn:Hid (∀ae∈(Aq.mk k1 Z D (.slice X D.length V) (.slice b1 C.length Y) C).vals++(Aq.mk N O u (.slice S u.length T) (.slice R s.length H) s).vals++((.slice F f.length G::(Gg f++Gg l))++(.slice h2 r.length j2::Hy r)),ae∈(Bj.mk ⟨k1,Z,D, .slice X D.length V, .slice b1 C.length Y,C⟩ (.slice F f.length G) f (.slice (some ⟨g,0,none⟩) 1 j1) [(Bj.mk ⟨N,O,u, .slice S u.length T, .slice R s.length H,s⟩ (.slice f2 l.length g2) l (.slice h2 r.length j2) r)]).vals):=by
         intro ae U;rw[Bj.vals_eq];simp only[Qh];rw[Bj.vals_eq (Bj.mk ⟨N,O,u, .slice S u.length T, .slice R s.length H,s⟩ (.slice f2 l.length g2) l (.slice h2 r.length j2) r)];simp only[A6f,A6n] at U ⊢;rcases U with(U | U) | (U | U | U) | U | U
         ·exact .inl U
         ·exact .inr (.inr (.inr (.inl U)))
         ·exact .inr (.inl (.inl U))
         ·exact .inr (.inl (.inr U))
         ·exact .inr (.inr (.inr (.inr (.inl (.inr U)))))
         ·exact .inr (.inr (.inr (.inr (.inr (.inl U)))))
         ·exact .inr (.inr (.inr (.inr (.inr (.inr U)))))
        have fD:=hid (λae U=>bn ae (A6d _ U));have ax:Value.slice F f.length G∈(Bj.mk ⟨k1,Z,D, .slice X D.length V, .slice b1 C.length Y,C⟩ (.slice F f.length G) f (.slice (some ⟨g,0,none⟩) 1 j1) [(Bj.mk ⟨N,O,u, .slice S u.length T, .slice R s.length H,s⟩ (.slice f2 l.length g2) l (.slice h2 r.length j2) r)]).vals:=by rw[Bj.vals_eq];simp
        have dX:=hid (eU _ ax);have pO:Hid (∀q,(Value.slice F f.length G).ownBlock=some q->w.heap.size<=q):=λq hq=>by have:=(fA.1.lt _ _ ax q hq).1;omega
        have bB:=hid (λq hq=>(fA.1.lt _ _ ax q hq).2);have vX:Hid ((Value.slice F f.length G).ownBlock≠some (w.heap.size+1)):=λe=>by have:=(fA.1.lt _ _ ax _ e).1;omega
        have cu:Hid (Ig (r.map Bj.arm)<gk):=by
         have h1:=cX.out;rw[HE.out] at h1;exact A51 cn h1
        have kH:=vT.out;rw[HE.out] at kH;obtain⟨X1,aZ⟩:∃bo,bo=(Aq.mk k1 Z D (.slice X D.length V) (.slice b1 C.length Y) C).net:=⟨_,rfl⟩
        obtain⟨X2,aW⟩:∃bo,bo=(Aq.mk N O u (.slice S u.length T) (.slice R s.length H) s).net:=⟨_,rfl⟩
        obtain⟨t2,bb⟩:∃t,t=Ar (Aq.mk N O u (.slice S u.length T) (.slice R s.length H) s).net:=⟨_,rfl⟩
        obtain⟨ln,bU⟩:∃ln,ln=f.length:=⟨_,rfl⟩
        have gY:=hid bU;have HT2:=hid bb;rw[<-bb] at jE;have oL:Hid (f.map D8.elem=[]\/t2=true->Stil.joined ⟨Ko X1 X2,f.map D8.elem++l.map D8.elem,r.map Bj.arm⟩=a9):=by
         intro h;rw[aZ,aW,<-kH];exact(Aej _ _ ⟨(Aq.mk N O u (.slice S u.length T) (.slice R s.length H) s).net,l.map D8.elem,r.map Bj.arm⟩ (by rw[<-bb];exact h)).symm
        have rJ:Hid (Yl 900000 ⟨Ko X1 X2,f.map D8.elem++l.map D8.elem,r.map Bj.arm⟩):=by rw[aZ,aW];exact b0
        have di:Hid (Gm ⟨Ko X1 X2,f.map D8.elem++l.map D8.elem,r.map Bj.arm⟩):=by rw[aZ,aW];exact zL.1
        rw[<-aZ,<-aW] at mF;rw[<-bU] at x4 dA cL dX pO vX bB;have iZ:=hid (λW (h:Below wr.heap.size wr W)=>fA.below h);clear hk aL bi ck bc aj tX b0 cB ct bq cn kH aZ aW bb bU ax fA tY bE zL jh;by_cases hc:0<ln
        ·have dB:((ln:Int)==0)=false:=by rw[A64];omega
         have dm:¬((ln:Int)=0):=omz
         cases t2 with
         | false=>
          clear mF oL fB
          go_wp2_with (go_at_call 26;refine(jE _ blA).mono ?_;rintro e z ⟨rfl,hb4⟩;obtain⟨Q,aj⟩:=D7 hb4;have uS:=A51 ab hb4.size;have uH:=A51 ah hb4.size;have xw:z.cell? ⟨B,0,none⟩=_:=(Q _ _ ab).trans J;have xu:z.cell? ⟨B,1,none⟩=_:=(Q _ _ ab).trans I;have xq:z.cell? ⟨B,2,none⟩=_:=(Q _ _ ab).trans x2;have xm:z.cell? ⟨B,3,none⟩=_:=(Q _ _ ab).trans x3;have xh:z.cell? ⟨B,4,none⟩=_:=(Q _ _ ab).trans x4;have xg:z.cell? ⟨B,5,none⟩=_:=(Q _ _ ab).trans x5;have v0:z.cell? ⟨w.heap.size+1,0,none⟩=_:=(Q _ _ ah).trans z0;have v1:z.cell? ⟨w.heap.size+1,1,none⟩=_:=(Q _ _ ah).trans z1;have v2:z.cell? ⟨w.heap.size+1,2,none⟩=_:=(Q _ _ ah).trans z2;have v3:z.cell? ⟨w.heap.size+1,3,none⟩=_:=(Q _ _ ah).trans z3;have v4:z.cell? ⟨w.heap.size+1,4,none⟩=_:=(Q _ _ ah).trans z4;have v5:z.cell? ⟨w.heap.size+1,5,none⟩=_:=(Q _ _ ah).trans z5;have dE:z.frozen? ⟨w.heap.size+1,0,none⟩=_:=(aj _ _ ah).trans M;have du:z.frozen? ⟨w.heap.size+1,1,none⟩=_:=(aj _ _ ah).trans L;have dk:z.frozen? ⟨w.heap.size+1,2,none⟩=_:=(aj _ _ ah).trans y2;have dG:z.frozen? ⟨w.heap.size+1,3,none⟩=_:=(aj _ _ ah).trans y3;have dp:z.frozen? ⟨w.heap.size+1,4,none⟩=_:=(aj _ _ ah).trans y4;have dd:z.frozen? ⟨w.heap.size+1,5,none⟩=_:=(aj _ _ ah).trans y5;clear Q aj)
          have vZ:=hid (Du iH hb4);have jU:=iZ z hb4;refine bodyPost_ret (v:=.agg #[.int .i64 k1, .int .i64 Z, .slice X D.length V, .slice b1 C.length Y, .slice F ln G, .slice (some ⟨g,0,none⟩) 1 j1]) (by simp[results,results12,go_sem,v0,v1,v2,v3,v4,v5]) rfl ⟨⟨k1,Z,D,X,V,C,b1,Y,f,F,G,[(Bj.mk ⟨N,O,u, .slice S u.length T, .slice R s.length H,s⟩ (.slice f2 l.length g2) l (.slice h2 r.length j2) r)],(some ⟨g,0,none⟩),j1,by rw[<-gY.out];rfl,?_,?_⟩,?_⟩
          ·exact J8.le (J8.setO6 (base:=w.heap.size+2) jU (λx y e=>by have:=((jU).1.lt _ x y _ e).1;omega)) omz
          ·exact za0
          ·exact Di (A7n _) (Di (A7n _) (Di (A7n _) (Di (A7n _) (Di (A7n _) (Di (A7n _) vZ _) _) _) _) _) _
         | true=>
          have bT:=hid (oL (.inr rfl));clear oL fB HE HT2 z0 z1 z2 z3 z4 z5 M L y2 y3 y4 y5;go_upto_region 9 with(go_at_call 26;refine(jE _ blA).mono ?_;rintro e z ⟨rfl,hb4⟩;obtain⟨Q,aj⟩:=D7 hb4;have uS:=A51 ab hb4.size;have uH:=A51 ah hb4.size;have xw:z.cell? ⟨B,0,none⟩=_:=(Q _ _ ab).trans J;have xu:z.cell? ⟨B,1,none⟩=_:=(Q _ _ ab).trans I;have xq:z.cell? ⟨B,2,none⟩=_:=(Q _ _ ab).trans x2;have xm:z.cell? ⟨B,3,none⟩=_:=(Q _ _ ab).trans x3;have xh:z.cell? ⟨B,4,none⟩=_:=(Q _ _ ab).trans x4;have xg:z.cell? ⟨B,5,none⟩=_:=(Q _ _ ab).trans x5;have Q0:z.cell? ⟨g,0,none⟩=_:=(Q _ _ aM).trans q0;have Q1:z.cell? ⟨g,1,none⟩=_:=(Q _ _ aM).trans q1;have Q2:z.cell? ⟨g,2,none⟩=_:=(Q _ _ aM).trans q2;have Q3:z.cell? ⟨g,3,none⟩=_:=(Q _ _ aM).trans q3;have Q4:z.cell? ⟨g,4,none⟩=_:=(Q _ _ aM).trans q4;have Q5:z.cell? ⟨g,5,none⟩=_:=(Q _ _ aM).trans q5;have uj:=A51 aM hb4.size;clear Q aj)
          have fQ:=hid (dA.at hb4);have kT:=hid (qZ.at hb4);have iV:=hid (Du iH hb4);have wG:=hid (iZ z hb4);have oJ:=hid (λW h=>mF W (Du hb4 h));have dq:=hb4.size;clear mF J I x2 x3 x4 x5 q0 q1 q2 q3 q4 q5 hb4 jE iZ;obtain⟨K,ar⟩:∃K,K=z.alloc (.cells #[.int .i64 N, .int .i64 O, .slice S u.length T, .slice R s.length H, .slice f2 l.length g2, .slice h2 r.length j2] 46):=⟨_,rfl⟩
          have nR:Below z.heap.size z K:=by rw[ar];exact Aa _ _
          have yA:K.heap.size=z.heap.size+1:=by rw[ar];simp
          have zZ:=hid yA;have kC:Hid (B6 K z.heap.size (.int .i64 N) (.int .i64 O) (.slice S u.length T) (.slice R s.length H) (.slice f2 l.length g2) (.slice h2 r.length j2)):=by rw[ar];exact B6.new _ _ _ _ _ _ _ _
          have lH:=hid (fQ.at nR);have uX:=hid (kT.at nR);have wB:=hid (Du iV nR);have wH:=hid (wG.below nR);have oK:=hid (oJ K nR);have wu:=A88 fQ.1;have cI:=lH.1;have bL:z.heap.size<K.heap.size:=omz
          clear yA;go_upto_region 10 with fail
          rw[<-ar];clear ar oJ;obtain⟨_,⟨bs,bk,bj,bv,bp,bA⟩,_⟩:=kC.out;obtain⟨_,⟨bS,bR,yg,yf,x9,xy⟩,bN⟩:=lH.out;go_upto_region 11 with(go_at_call 28;refine oK.mono ?_;rintro e w5 ⟨⟨mk,A,d,J,M,I,L,c,rfl,ap,ag,a5⟩,aa⟩;have aU:=hid ap;have aQ:=hid ag;have fC:=hid a5;have fU:=hid (lH.at aa);have bF:=hid (kC.at aa);obtain⟨uT,⟨t0,t1,t2,t3,_,_⟩,tf⟩:=fU.out;have u0:=tf 0 omz;have u1:=tf 1 omz;have u2:=tf 2 omz;have u3:=tf 3 omz;clear ap ag a5 tf)
          obtain⟨P,jK⟩:∃P,P=((((w5.setCell ⟨B,0,none⟩ (.int .i64 mk)).setCell ⟨B,1,none⟩ (.int .i64 A)).setCell ⟨B,2,none⟩ (.slice J d.length M)).setCell ⟨B,3,none⟩ (.slice I c.length L)):=⟨_,rfl⟩
          rw[<-jK];have iU:Hid (B6 P B (.int .i64 mk) (.int .i64 A) (.slice J d.length M) (.slice I c.length L) (.slice F ln G) (.slice (some ⟨g,0,none⟩) 1 j1)):=by rw[jK];exact fU.setN
          have vP:Hid (B6 P z.heap.size (.int .i64 N) (.int .i64 O) (.slice S u.length T) (.slice R s.length H) (.slice f2 l.length g2) (.slice h2 r.length j2)):=by rw[jK];exact bF.set4O (Ne.symm wu)
          have uV:Hid (B6 P (w.heap.size+1) (.int .i64 0) (.int .i64 0) (.slice none 0 0) (.slice none 0 0) (.slice none 0 0) (.slice none 0 0)):=by rw[jK];exact(uX.at aa).set4O aT
          have hle:w.heap.size<=B:=by have:=aw.out;omega
          have oO:Hid (Below w.heap.size w P):=by rw[jK];exact Di hle (Di hle (Di hle (Di hle (Du wB aa) _) _) _) _
          have a3:∀x∈(Aq.mk mk A d (.slice J d.length M) (.slice I c.length L) c).vals,x.ownBlock≠some B:=by
           intro x y e;rcases fC x y with h | h
           ·exact eU x (fD x h) e
           ·have:=h _ e;omega
          have vN:Hid (J7 P (w.heap.size+2) (Aq.mk mk A d (.slice J d.length M) (.slice I c.length L) c)):=by rw[jK];exact J7.setO4 aU a3
          have aJ:Below K.heap.size ((((K.setCell ⟨B,0,none⟩ (.int .i64 mk)).setCell ⟨B,1,none⟩ (.int .i64 A)).setCell ⟨B,2,none⟩ (.slice J d.length M)).setCell ⟨B,3,none⟩ (.slice I c.length L)) P:=by rw[jK];exact Afb aa
          have pY:(((((K.setCell ⟨B,0,none⟩ (.int .i64 mk)).setCell ⟨B,1,none⟩ (.int .i64 A)).setCell ⟨B,2,none⟩ (.slice J d.length M)).setCell ⟨B,3,none⟩ (.slice I c.length L))).heap.size=K.heap.size:=spz
          have hP:Parts ((((K.setCell ⟨B,0,none⟩ (.int .i64 mk)).setCell ⟨B,1,none⟩ (.int .i64 A)).setCell ⟨B,2,none⟩ (.slice J d.length M)).setCell ⟨B,3,none⟩ (.slice I c.length L)) (w.heap.size+2) (Aq.mk k1 Z D (.slice X D.length V) (.slice b1 C.length Y) C) (Aq.mk N O u (.slice S u.length T) (.slice R s.length H) s) (.slice F f.length G) f (.slice f2 l.length g2) l (.slice h2 r.length j2) r:=(J8.setN wH eU.out).parts;have kP:Below (((((K.setCell ⟨B,0,none⟩ (.int .i64 mk)).setCell ⟨B,1,none⟩ (.int .i64 A)).setCell ⟨B,2,none⟩ (.slice J d.length M)).setCell ⟨B,3,none⟩ (.slice I c.length L))).heap.size ((((K.setCell ⟨B,0,none⟩ (.int .i64 mk)).setCell ⟨B,1,none⟩ (.int .i64 A)).setCell ⟨B,2,none⟩ (.slice J d.length M)).setCell ⟨B,3,none⟩ (.slice I c.length L)) P:=by rw[pY];exact aJ
          have rF:=hid (hP.below kP);have zk:Hid (∀w7 a7 c7,Ud w7 (w.heap.size+2) (.slice a7 (ln+l.length) c7) (f++l)->P.grownBy w7 (Value.slice F ln G).ownBlock->((Value.slice a7 (ln+l.length) c7).ownBlock=(Value.slice F ln G).ownBlock\/(Value.slice a7 (ln+l.length) c7).ownBlock=some P.heap.size)->J8 w7 (w.heap.size+2) ⟨(Aq.mk mk A d (.slice J d.length M) (.slice I c.length L) c), .slice a7 (ln+l.length) c7,f++l, .slice h2 r.length j2,r⟩/\∀x∈(Bj.mk (Aq.mk mk A d (.slice J d.length M) (.slice I c.length L) c) (.slice a7 (ln+l.length) c7) (f++l) (.slice h2 r.length j2) r).vals,x.ownBlock≠some B):=by
           intro w7 a7 c7 he hg aN;have bG:=gY.out;rw[bG] at hg aN he ⊢;have hj:=hP.join (lo:=K.heap.size) kP vN fC (by rw[pY];exact A57 _) (by rw[<-pY];exact aJ.size) he hg aN;refine⟨hj.1,λx y e=>?_⟩;rcases hj.2 x y _ e with⟨_,ae,U,H⟩ | h1
           ·exact eU ae (bn ae U) H
           ·omega
          have bu:Hid (0<l.length->∃p,f2=some p/\∀j az,(Ib l)[j]?=some az->P.cell? (p.add j)=some az):=by
           intro hz;obtain⟨gg,cc,hv,_,_,_,bI⟩:=Bo rF.ckr hz;simp only[Value.slice.injEq] at hv;exact⟨⟨gg,0,none⟩,hv.1,λj az hu=>by rw[Addr.add_lit];simpa using bI j az hu⟩
          have uF:w.heap.size+2<=P.heap.size:=by have:=iU.1;have:=aw.out;omega
          have cZ:=vP.1;have wz:=iU.1;obtain⟨_,⟨_,_,_,_,v4,_⟩,_⟩:=iU.out;obtain⟨_,⟨_,_,_,_,cK,_⟩,_⟩:=vP.out;clear jK aJ kP hP pY a3 bS bR yg yf x9 xy bN bs bk bj bv bp bA t0 t1 t2 t3 u0 u1 u2 u3 oK
          go_wp2_with (at_builtin;refine Vw rfl _ _ rfl (w.heap.size+2) F G ln f l gY f2 g2 rfl rfl rF.hca bu rF.hck rF.coils bz uF ?_;intro a7 c7 w7 nI aH nS;have zu:=hid (zk w7 a7 c7 nI aH nS);have df:=hid aH;have jT:=hid (iU.grown aH dX.out);have zy:=hid (vP.grown aH (λe=>by have h0:=bB _ e;omega));obtain⟨_,⟨_,_,_,_,db,cS⟩,sQ⟩:=jT.out;obtain⟨_,⟨_,_,_,_,_,cO⟩,_⟩:=zy.out;have c9:=sQ 4 omz;have cM:=sQ 5 omz;clear nI aH nS sQ)
          go_roundg (Ig (r.map Bj.arm))
          rotate_left
          ·exact cu.out
          ·have pI:=zu.out
           refine⟨⟨(Aq.mk mk A d (.slice J d.length M) (.slice I c.length L) c), .slice a7 (ln+l.length) c7,f++l, .slice h2 r.length j2,r⟩,⟨aw.out,B6.set5 (B6.set4 jT _) _,J8.setO (J8.setO pI.1 (a:=⟨B,4,none⟩) pI.2 _) (a:=⟨B,5,none⟩) pI.2 _,pI.2,B6.setO (B6.setO (uV.grown df vX.out) aT _) aT _,?_⟩,?_,?_,?_,?_⟩
           ·exact Di hle (Di hle (oO.grown df oO.size pO.out) _) _
           ·rw[Bj.arm_eq];simp only;rw[aQ.out,A6g];exact bT.out
           ·rw[Bj.arm_eq];simp only;rw[aQ.out,A6g];exact rJ.out
           ·rw[Bj.arm_eq];simp only;rw[aQ.out,A6g];exact di.out
           ·rw[Bj.arm_eq];exact A57 _
        ·obtain rfl:ln=0:=by omega
         have bT:=hid (oL (.inl (by rw[List.length_eq_zero_iff.1 gY.out.symm];rfl)));clear oL fB HE HT2 z0 z1 z2 z3 z4 z5 M L y2 y3 y4 y5 jE;go_upto_region 9 with fail
         have fQ:=hid dA.out;have kT:=hid qZ.out;have iV:=hid iH.out;have wG:=hid (iZ wr (Below.refl _ _));have oJ:=hid mF.out;clear mF iZ;obtain⟨K,ar⟩:∃K,K=wr.alloc (.cells #[.int .i64 N, .int .i64 O, .slice S u.length T, .slice R s.length H, .slice f2 l.length g2, .slice h2 r.length j2] 46):=⟨_,rfl⟩
         have nR:Below wr.heap.size wr K:=by rw[ar];exact Aa _ _
         have yA:K.heap.size=wr.heap.size+1:=by rw[ar];simp
         have zZ:=hid yA;have kC:Hid (B6 K wr.heap.size (.int .i64 N) (.int .i64 O) (.slice S u.length T) (.slice R s.length H) (.slice f2 l.length g2) (.slice h2 r.length j2)):=by rw[ar];exact B6.new _ _ _ _ _ _ _ _
         have lH:=hid (fQ.at nR);have uX:=hid (kT.at nR);have wB:=hid (Du iV nR);have wH:=hid (wG.below nR);have oK:=hid (oJ K nR);have wu:=A88 fQ.1;have cI:=lH.1;have bL:wr.heap.size<K.heap.size:=omz
         clear yA;go_upto_region 10 with fail
         rw[<-ar];clear ar oJ;obtain⟨_,⟨bs,bk,bj,bv,bp,bA⟩,_⟩:=kC.out;obtain⟨_,⟨bS,bR,yg,yf,x9,xy⟩,bN⟩:=lH.out;go_upto_region 11 with(go_at_call 28;refine oK.mono ?_;rintro e w5 ⟨⟨mk,A,d,J,M,I,L,c,rfl,ap,ag,a5⟩,aa⟩;have aU:=hid ap;have aQ:=hid ag;have fC:=hid a5;have fU:=hid (lH.at aa);have bF:=hid (kC.at aa);obtain⟨uT,⟨t0,t1,t2,t3,_,_⟩,tf⟩:=fU.out;have u0:=tf 0 omz;have u1:=tf 1 omz;have u2:=tf 2 omz;have u3:=tf 3 omz;clear ap ag a5 tf)
         obtain⟨P,jK⟩:∃P,P=((((w5.setCell ⟨B,0,none⟩ (.int .i64 mk)).setCell ⟨B,1,none⟩ (.int .i64 A)).setCell ⟨B,2,none⟩ (.slice J d.length M)).setCell ⟨B,3,none⟩ (.slice I c.length L)):=⟨_,rfl⟩
         rw[<-jK];have iU:Hid (B6 P B (.int .i64 mk) (.int .i64 A) (.slice J d.length M) (.slice I c.length L) (.slice F 0 G) (.slice (some ⟨g,0,none⟩) 1 j1)):=by rw[jK];exact fU.setN
         have vP:Hid (B6 P wr.heap.size (.int .i64 N) (.int .i64 O) (.slice S u.length T) (.slice R s.length H) (.slice f2 l.length g2) (.slice h2 r.length j2)):=by rw[jK];exact bF.set4O (Ne.symm wu)
         have uV:Hid (B6 P (w.heap.size+1) (.int .i64 0) (.int .i64 0) (.slice none 0 0) (.slice none 0 0) (.slice none 0 0) (.slice none 0 0)):=by rw[jK];exact(uX.at aa).set4O aT
         have hle:w.heap.size<=B:=by have:=aw.out;omega
         have oO:Hid (Below w.heap.size w P):=by rw[jK];exact Di hle (Di hle (Di hle (Di hle (Du wB aa) _) _) _) _
         have a3:∀x∈(Aq.mk mk A d (.slice J d.length M) (.slice I c.length L) c).vals,x.ownBlock≠some B:=by
          intro x y e;rcases fC x y with h | h
          ·exact eU x (fD x h) e
          ·have:=h _ e;omega
         have vN:Hid (J7 P (w.heap.size+2) (Aq.mk mk A d (.slice J d.length M) (.slice I c.length L) c)):=by rw[jK];exact J7.setO4 aU a3
         have aJ:Below K.heap.size ((((K.setCell ⟨B,0,none⟩ (.int .i64 mk)).setCell ⟨B,1,none⟩ (.int .i64 A)).setCell ⟨B,2,none⟩ (.slice J d.length M)).setCell ⟨B,3,none⟩ (.slice I c.length L)) P:=by rw[jK];exact Afb aa
         have pY:(((((K.setCell ⟨B,0,none⟩ (.int .i64 mk)).setCell ⟨B,1,none⟩ (.int .i64 A)).setCell ⟨B,2,none⟩ (.slice J d.length M)).setCell ⟨B,3,none⟩ (.slice I c.length L))).heap.size=K.heap.size:=spz
         have hP:Parts ((((K.setCell ⟨B,0,none⟩ (.int .i64 mk)).setCell ⟨B,1,none⟩ (.int .i64 A)).setCell ⟨B,2,none⟩ (.slice J d.length M)).setCell ⟨B,3,none⟩ (.slice I c.length L)) (w.heap.size+2) (Aq.mk k1 Z D (.slice X D.length V) (.slice b1 C.length Y) C) (Aq.mk N O u (.slice S u.length T) (.slice R s.length H) s) (.slice F f.length G) f (.slice f2 l.length g2) l (.slice h2 r.length j2) r:=(J8.setN wH eU.out).parts;have kP:Below (((((K.setCell ⟨B,0,none⟩ (.int .i64 mk)).setCell ⟨B,1,none⟩ (.int .i64 A)).setCell ⟨B,2,none⟩ (.slice J d.length M)).setCell ⟨B,3,none⟩ (.slice I c.length L))).heap.size ((((K.setCell ⟨B,0,none⟩ (.int .i64 mk)).setCell ⟨B,1,none⟩ (.int .i64 A)).setCell ⟨B,2,none⟩ (.slice J d.length M)).setCell ⟨B,3,none⟩ (.slice I c.length L)) P:=by rw[pY];exact aJ
         have rF:=hid (hP.below kP);have zk:Hid (∀w7 a7 c7,Ud w7 (w.heap.size+2) (.slice a7 (0+l.length) c7) (f++l)->P.grownBy w7 (Value.slice F 0 G).ownBlock->((Value.slice a7 (0+l.length) c7).ownBlock=(Value.slice F 0 G).ownBlock\/(Value.slice a7 (0+l.length) c7).ownBlock=some P.heap.size)->J8 w7 (w.heap.size+2) ⟨(Aq.mk mk A d (.slice J d.length M) (.slice I c.length L) c), .slice a7 (0+l.length) c7,f++l, .slice h2 r.length j2,r⟩/\∀x∈(Bj.mk (Aq.mk mk A d (.slice J d.length M) (.slice I c.length L) c) (.slice a7 (0+l.length) c7) (f++l) (.slice h2 r.length j2) r).vals,x.ownBlock≠some B):=by
          intro w7 a7 c7 he hg aN;have bG:=gY.out;rw[bG] at hg aN he ⊢;have hj:=hP.join (lo:=K.heap.size) kP vN fC (by rw[pY];exact A57 _) (by rw[<-pY];exact aJ.size) he hg aN;refine⟨hj.1,λx y e=>?_⟩;rcases hj.2 x y _ e with⟨_,ae,U,H⟩ | h1
          ·exact eU ae (bn ae U) H
          ·omega
         have bu:Hid (0<l.length->∃p,f2=some p/\∀j az,(Ib l)[j]?=some az->P.cell? (p.add j)=some az):=by
          intro hz;obtain⟨gg,cc,hv,_,_,_,bI⟩:=Bo rF.ckr hz;simp only[Value.slice.injEq] at hv;exact⟨⟨gg,0,none⟩,hv.1,λj az hu=>by rw[Addr.add_lit];simpa using bI j az hu⟩
         have uF:w.heap.size+2<=P.heap.size:=by have:=iU.1;have:=aw.out;omega
         have cZ:=vP.1;have wz:=iU.1;obtain⟨_,⟨_,_,_,_,v4,_⟩,_⟩:=iU.out;obtain⟨_,⟨_,_,_,_,cK,_⟩,_⟩:=vP.out;clear jK aJ kP hP pY a3 bS bR yg yf x9 xy bN bs bk bj bv bp bA t0 t1 t2 t3 u0 u1 u2 u3 oK
         go_wp2_with (at_builtin;refine Vw rfl _ _ rfl (w.heap.size+2) F G 0 f l gY f2 g2 rfl rfl rF.hca bu rF.hck rF.coils bz uF ?_;intro a7 c7 w7 nI aH nS;have zu:=hid (zk w7 a7 c7 nI aH nS);have df:=hid aH;have jT:=hid (iU.grown aH dX.out);have zy:=hid (vP.grown aH (λe=>by have h0:=bB _ e;omega));obtain⟨_,⟨_,_,_,_,db,cS⟩,sQ⟩:=jT.out;obtain⟨_,⟨_,_,_,_,_,cO⟩,_⟩:=zy.out;have c9:=sQ 4 omz;have cM:=sQ 5 omz;clear nI aH nS sQ)
         go_roundg (Ig (r.map Bj.arm))
         rotate_left
         ·exact cu.out
         ·have pI:=zu.out
          simp only[A6b] at pI;refine⟨⟨(Aq.mk mk A d (.slice J d.length M) (.slice I c.length L) c), .slice a7 l.length c7,f++l, .slice h2 r.length j2,r⟩,⟨aw.out,B6.set5 (B6.set4 jT _) _,J8.setO (J8.setO pI.1 (a:=⟨B,4,none⟩) pI.2 _) (a:=⟨B,5,none⟩) pI.2 _,pI.2,B6.setO (B6.setO (uV.grown df vX.out) aT _) aT _,?_⟩,?_,?_,?_,?_⟩
          ·exact Di hle (Di hle (oO.grown df oO.size pO.out) _) _
          ·rw[Bj.arm_eq];simp only;rw[aQ.out,A6g];exact bT.out
          ·rw[Bj.arm_eq];simp only;rw[aQ.out,A6g];exact rJ.out
          ·rw[Bj.arm_eq];simp only;rw[aQ.out,A6g];exact di.out
          ·rw[Bj.arm_eq];exact A57 _
       ·have dx:((E.length:Int)==1)=false:=by rw[A64];omega
        have dy:¬((E.length:Int)=1):=omz
        have aE:=hid (λkid (e:(E.map Bj.arm)=[kid])=>hk (by have:=congrArg List.length e;simpa using this));clear hk fB
        go_wp2
        refine bodyPost_ret (v:=.agg #[.int .i64 k1, .int .i64 Z, .slice X D.length V, .slice b1 C.length Y, .slice F f.length G, .slice h1 E.length j1]) (by simp[results,results12,go_sem,z0,z1,z2,z3,z4,z5]) rfl ⟨⟨k1,Z,D,X,V,C,b1,Y,f,F,G,E,h1,j1,rfl,?_,?_⟩,?_⟩
        ·exact J8.le (J8.setO6 (base:=w.heap.size+2) fA (λx y e=>by have:=((fA.out).1.lt _ x y _ e).1;omega)) omz
        ·rw[<-vT.out]
         refine(Ru _ ?_).symm;intro kid e _;rw[Bj.arm_eq] at e;exact aE kid e
        ·exact Di (A7n _) (Di (A7n _) (Di (A7n _) (Di (A7n _) (Di (A7n _) (Di (A7n _) iH _) _) _) _) _) _
end Go.Proofs.YtnpfcnolmkanfaaGreatDoor
