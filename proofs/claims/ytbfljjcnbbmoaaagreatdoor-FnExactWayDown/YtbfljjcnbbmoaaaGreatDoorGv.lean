import Derived.Test.YtbfljjcnbbmoaaaGreatDoorZ9
import Derived.Test.YtbfljjcnbbmoaaaGreatDoorGu
import Derived.Deep.LoopGhost
import Derived.Deep.RegionHeld3
namespace Go.Proofs.YtbfljjcnbbmoaaaGreatDoor
open Stil
open Go.RowKit Go.Sort Go.BigFrame
variable {a:Act}{base n:Nat}{o:Oper}{ops:Array Oper}{u0 u1 u2 u3:Value}
theorem Agp {w:World}{K:Act->World->Prop}{Q:Exit->Act->World->Prop}{E:Prop}
  (hg:o.guard=none) (s x:Operand) (hop:o.op=.call {callee:=.builtin .append,args:=#[s,x],argTypes:=#[26,26]})
  (base:Nat) (ra:Option Addr) (rc:Nat) (ms ks:List Aw) (ad:Option Addr) (c:Nat) (hs:a.eval s=.slice ra ms.length rc) (hx:a.eval x=.slice ad ks.length c)
  (hrow:Oi w base (.slice ra ms.length rc) ms) (hxs:0<ks.length->∃p,ad=some p/\∀j u,(Gg ks)[j]?=some u->w.cell? (p.add j)=some u)
  (hk:∀m∈ks,AOk w base m) (hp:(Value.slice ra ms.length rc::(Gj ms++Gj ks)).Pairwise Aside) (hl:ms.length+ks.length<=1000000) (hbase:base<=w.heap.size)
  (hK:∀a' c' w',Oi w' base (.slice a' (ms.length+ks.length) c') (ms++ks)->w.grownBy w' (Value.slice ra ms.length rc).ownBlock->((Value.slice a' (ms.length+ks.length) c').ownBlock=(Value.slice ra ms.length rc).ownBlock\/(Value.slice a' (ms.length+ks.length) c').ownBlock=some w.heap.size)->K (a.put o.dst (.slice a' (ms.length+ks.length) c')) w'):
  if Region.wanted o (yielded ops a.tmps)=true then Oper.wp Tryz.prog o a w K Q else E:=by
 obtain⟨i0,hi,hz0,hz1,hz2⟩:=info_parts Ag3;by_cases hd:ks.length=0
 ·have hn:=List.length_eq_zero_iff.1 hd
  subst hn;have hw:Region.wanted o (yielded ops a.tmps)=true:=by simp[Region.wanted,hg]
  rw[if_pos hw];have hcap:ms.length<=rc:=by
   rcases hrow.1.2 with⟨h0,h1⟩ | ⟨g,c',cur,h0,_,_,hnc,_⟩
   ·rw[h1];exact Nat.zero_le _
   ·simp only[Value.slice.injEq] at h0
    rw[h0.2.2];exact hnc
  have hk2:=hK ra rc w (by simpa using hrow) (Adw _ _) (.inl spz);simp only[A4a,Nat.add_zero] at hk2 hx;unfold Oper.wp execOp;cases ad
  ·exact zf0
  ·exact zb0
 ·obtain⟨p,rfl,hcs⟩:=hxs omz
  refine Gz hg s x _ hop base 55 i0 _ 6 112 Tryz.underlying26 hi hz0 hz1 hz2 rfl dcz _ _ (Gg ms) hs hrow.1 _ _ _ (Gg ks) hx (Xv ks) hcs (Aei hk) (by unfold maxLen;omega) omz hbase ?_;intro v' w' h1 h2 h3;obtain⟨a6,c6,hv6⟩:=Af h1;subst hv6;exact hK a6 c6 w' (hrow.add hk hp h1 h2 h3) h2 h3
theorem Aot {x y y':Value}(h:Aside x y)(hx:∀q,x.ownBlock=some q->q<n)(hat:y'.ownBlock=y.ownBlock\/y'.ownBlock=some n):Aside x y':=by
 rcases hat with e | e
 ·rcases h with h0 | h0
  ·exact .inl h0
  ·exact .inr (by rw[e];exact h0)
 ·by_cases e0:x.ownBlock=none
  ·exact .inl e0
  ·refine .inr (λe2=>?_)
   rw[e] at e2;have:=hx _ e2
   omega
theorem Ic.addKid {w1 w6:World}{m k:Aw}{kv':Value}(h:Ic w1 base m)(hk:∀x∈k.vals,∀y∈m.vals,Aside x y)(hr:Oi w6 base kv' (m.kids++[k]))(hg:w1.grownBy w6 m.kv.ownBlock)(hat:kv'.ownBlock=m.kv.ownBlock\/kv'.ownBlock=some w1.heap.size):
  Ic w6 base ⟨m.net,m.cv,m.coils,kv',m.kids++[k]⟩/\∀x∈(Aw.mk m.net m.cv m.coils kv' (m.kids++[k])).vals,x∈m.vals\/x∈k.vals\/x=kv':=by
 obtain⟨h1,hp⟩:=h;have hlt:=λx hx q hq=>(h1.lt m x hx q hq).2
 obtain⟨g1,⟨g2,g3⟩,_,_⟩:=(Hf _ _ _).1 h1;have hv:(Aw.mk m.net m.cv m.coils kv' (m.kids++[k])).vals=m.net.vals++((m.cv::Ff m.coils)++(kv'::(Gj m.kids++k.vals))):=by rw[Aw.vals_eq];simp only;rw[Sm,Nq]
 have hm:m.vals=m.net.vals++((m.cv::Ff m.coils)++(m.kv::Gj m.kids)):=Aw.vals_eq _;have mN:∀x∈m.net.vals,x∈m.vals:=λx hx=>by rw[hm];exact A4j _ hx
 have mC:∀x∈m.cv::Ff m.coils,x∈m.vals:=λx hx=>by rw[hm];exact A4g _ (A4j _ hx)
 have mK:∀x∈Gj m.kids,x∈m.vals:=λx hx=>by rw[hm];exact A4g _ (A4g _ (A4c _ hx))
 rw[hm] at hp;obtain⟨pN,pR,pO⟩:=List.pairwise_append.1 hp;obtain⟨pC,_,mW⟩:=List.pairwise_append.1 pR;have nk:=λx hx=>pO x hx _ (A4g _ (List.mem_cons_self ..))
 have ck:=λx hx=>mW x hx _ (List.mem_cons_self ..)
 refine⟨⟨(Hf _ _ _).2 ⟨g1.kept hg nk,⟨g2.kept hg (ck _ (List.mem_cons_self ..)),λx hx=>(g3 x hx).kept hg (ck _ (A4c _ (Jd.2 ⟨x,hx,rfl⟩)))⟩,hr.1,hr.2.1⟩,?_⟩,?_⟩
 ·rw[hv]
  have hr2:=hr.2.2;rw[Sm,Nq] at hr2;refine List.pairwise_append.2 ⟨pN,List.pairwise_append.2 ⟨pC,hr2,λx hx y hy=>?_⟩,λx hx y hy=>?_⟩
  ·rcases List.mem_cons.1 hy with rfl | hy
   ·exact Aot (ck x hx) (hlt x (mC x hx)) hat
   rcases List.mem_append.1 hy with hy | hy
   ·exact mW x hx y (A4c _ hy)
   ·exact(hk y hy x (mC x hx)).symm
  ·rcases List.mem_append.1 hy with hy | hy
   ·exact pO x hx y (A4j _ hy)
   rcases List.mem_cons.1 hy with rfl | hy
   ·exact Aot (nk x hx) (hlt x (mN x hx)) hat
   rcases List.mem_append.1 hy with hy | hy
   ·exact pO x hx y (A4g _ (A4c _ hy))
   ·exact(hk y hy x (mN x hx)).symm
 ·intro x hx
  rw[hv] at hx;rcases List.mem_append.1 hx with hx | hx
  ·exact .inl (mN x hx)
  rcases List.mem_append.1 hx with hx | hx
  ·exact .inl (mC x hx)
  rcases List.mem_cons.1 hx with rfl | hx
  ·exact .inr (.inr rfl)
  rcases List.mem_append.1 hx with hx | hx
  ·exact .inl (mK x hx)
  ·exact .inr (.inl hx)
theorem Ic.krow {w:World}{m:Aw}(h:Ic w base m):Oi w base m.kv m.kids:=by
 obtain⟨h1,hp⟩:=h;obtain⟨_,_,h4,h5⟩:=(Hf _ _ _).1 h1;rw[Aw.vals_eq] at hp;exact⟨h4,h5,(List.pairwise_append.1 (List.pairwise_append.1 hp).2.1).2.1⟩
theorem B6.al {w:World}{b:Nat}{v0 v1 v2 v3 v4 v5:Value}(h:B6 w b v0 v1 v2 v3 v4 v5)(o:Obj):B6 (w.alloc o) b v0 v1 v2 v3 v4 v5:=h.at (Aa _ _)
theorem Awj {W:World}{u4 u5:Value}{t:TypeId}:∀j u,[u0,u1,u2,u3,u4,u5][j]?=some u->(W.alloc (.cells #[u0,u1,u2,u3,u4,u5] t)).cell? ((⟨W.heap.size,0,none⟩:Addr).add j)=some u:=by
 intro j u h;rw[Addr.add_lit]
 match j,h with
 | 0,h=>simp at h;subst h;simp[go_sem]
 | 1,h=>simp at h;subst h;simp[go_sem]
 | 2,h=>simp at h;subst h;simp[go_sem]
 | 3,h=>simp at h;subst h;simp[go_sem]
 | 4,h=>simp at h;subst h;simp[go_sem]
 | 5,h=>simp at h;subst h;simp[go_sem]
 | j+6,h=>simp at h
theorem Ve {rest:List Oper}{w:World}{Q:Exit->Act->World->Prop}
  (hg:o.guard=none) (s x:Operand) (hop:o.op=.call {callee:=.builtin .append,args:=#[s,x],argTypes:=#[53,53]})
  (base:Nat) (ra:Option Addr) (rc n:Nat) (ms ks:List Df) (hn:n=ms.length) (ad:Option Addr) (c:Nat) (hs:a.eval s=.slice ra n rc) (hx:a.eval x=.slice ad ks.length c)
  (hrow:Pg w base (.slice ra ms.length rc) ms) (hxs:0<ks.length->∃p,ad=some p/\∀j u,(Gh ks)[j]?=some u->w.cell? (p.add j)=some u)
  (hk:∀m∈ks,EOk w base m) (hp:(Value.slice ra ms.length rc::(Ff ms++Ff ks)).Pairwise Aside) (hl:ms.length+ks.length<=1000000) (hbase:base<=w.heap.size)
  (h:∀a' c' w',Pg w' base (.slice a' (n+ks.length) c') (ms++ks)->w.grownBy w' (Value.slice ra n rc).ownBlock->((Value.slice a' (n+ks.length) c').ownBlock=(Value.slice ra n rc).ownBlock\/(Value.slice a' (n+ks.length) c').ownBlock=some w.heap.size)->wpList Tryz.prog ops Q rest (a.put o.dst (.slice a' (n+ks.length) c')) w'):
  wpList Tryz.prog ops Q (o::rest) a w:=by
 subst hn;refine wpList_plain hg λK hK=>?_
 have hw:Region.wanted o (yielded #[] a.tmps)=true:=by simp[Region.wanted,hg]
 have:=Xz (ops:=#[]) (K:=K) (Q:=Q) (E:=True) hg s x hop base ra rc ms ks ad c hs hx hrow hxs hk hp hl hbase (λa' c' w' h1 h2 h3=>hK _ _ (h a' c' w' h1 h2 h3))
 rwa [if_pos hw] at this
theorem Xt {a b:World}(h:Below n a b)(p:Addr)(v:Value):Below n (a.setCell p v) (b.setCell p v):=by
 refine⟨h.os,h.tape,h.output,by simpa using h.size,λk hk=>?_⟩;have:=h.block k hk
 simp only[World.setCell,Array.getElem?_modify];split
 ·rw[this]
 ·exact this
theorem Aed {c:Nat}{a b:World}(h:Below n a b):Below n ((((a.setCell ⟨c,0,none⟩ u0).setCell ⟨c,1,none⟩ u1).setCell ⟨c,2,none⟩ u2).setCell ⟨c,3,none⟩ u3) ((((b.setCell ⟨c,0,none⟩ u0).setCell ⟨c,1,none⟩ u1).setCell ⟨c,2,none⟩ u2).setCell ⟨c,3,none⟩ u3):=
 Xt (Xt (Xt (Xt h _ _) _ _) _ _) _ _
set_option maxHeartbeats 4000000 in
set_option maxRecDepth 100000 in
theorem A0i (a:Stil.Arm):Ci a->Ak a<=900000->Jp a->∀(av nv cv kv:Value) (w:World),Bi w av a.net.one.args->Dx w nv a.net.kids->En w cv a.coils->Dj w kv a.kids->Calls Tryz.prog 37 #[.agg #[.int .i64 a.net.kind, .int .i64 a.net.one.op,av,nv,cv,kv]] w λe w'=>Aem w' w.heap.size (Dh a) e/\Below w.heap.size w w':=by
 induction a using Fg with
 | h n cs kids ih=>
  intro hft hsz hrt av nv cv kv w hav hnv hcv hkv;obtain⟨hnf,hcl,hcf,hkl,bK⟩:=(Em _ _ _).1 hft;obtain⟨hnr,hkr⟩:=(Oc _ _ _).1 hrt;simp only at hav hnv hcv hkv;have hks:∀x∈kids,Ak x<=900000:=by
   intro x hx;have:Ak x<=Hq kids:=D9 Ak kids x hx;rw[Cc] at hsz;omega
  have hkn:kids.length<=999999:=by
   have h1:=Lc kids;rw[Cc] at hsz;omega
  have hcn:cs.length<=999999:=by
   rw[Cc] at hsz;omega
  have hns:Aq n=false->Aj n<=999999:=by
   intro h;rw[Cc] at hsz;have e:Stil.nsz n=Aj n:=if_neg (by rw[h];exact Bool.false_ne_true);omega
  have H1:=hid (λW h=>A0j cs cv W (hcv.below h) hcn hcf);have H2:=hid (λx hx=>ih x hx (bK x hx) (hks x hx) (hkr x hx));have H3:=hid (λW h=>Xd n av nv W (hav.below h) (hnv.below h) hnf);have H4:Hid (Aq n=false->∀W,Below w.heap.size w W->Calls Tryz.prog 63 #[.agg #[.int .i64 n.kind, .int .i64 n.one.op,av,nv]] W λe w'=>Nr w' W.heap.size (A7 n) e/\Below W.heap.size W w'):=λhn W h=>Alc n hnf (hnr.resolve_left (by rw[hn];exact Bool.false_ne_true)) (by have:=hns hn;omega) av nv W (hav.below h) (hnv.below h)
  have iD:=hid (λW (h:Below w.heap.size w W)=>hkv.below h);have HJ:=hid (Lt n cs kids);have HM:Hid (Xw 900000 ⟨Rk n,cs,kids.map Dh⟩):=by
   have:=Ah2 hft hsz (λx hx=>Xh x (bK x hx) (hks x hx))
   exact⟨this.1,A4k this.2 hsz⟩
  have HFI:Hid (Fq ⟨Rk n,cs,kids.map Dh⟩):=(Eu _ _ _).2 ⟨Qb hnr,λx hx=>by obtain⟨y,hy,rfl⟩:=List.mem_map.1 hx;exact Rx y (hkr y hy)⟩;have tJ:=hid hkn;obtain⟨T,hT⟩:∃T,T=Dh ⟨n,cs,kids⟩:=⟨_,rfl⟩
  rw[<-hT] at HJ ⊢;obtain⟨p0,r0,rfl,hz0⟩:=hav;obtain⟨p1,r1,rfl,hz1⟩:=hnv;obtain⟨p2,r2,rfl,hz2⟩:=hcv;obtain⟨p3,r3,rfl,hz3⟩:=hkv;clear hz0 hz1 hz2 hz3 ih hft hsz hnf hcl hcf hkl bK hks hcn hns hT hrt hnr hkr;go_enter Tryz.func37,Tryz.ntmps37;go_upto_region 1 with fail
  obtain⟨W,hW⟩:∃W,W=(w.alloc (.cells #[.int .i64 n.kind, .int .i64 n.one.op, .slice p0 n.one.args.length r0, .slice p1 n.kids.length r1, .slice p2 cs.length r2, .slice p3 kids.length r3] 55)).alloc (.cells #[.int .i64 0, .int .i64 0, .slice none 0 0, .slice none 0 0, .slice none 0 0, .slice none 0 0] 55):=⟨_,rfl⟩
  rw[<-hW];have hA:B6 W w.heap.size (.int .i64 n.kind) (.int .i64 n.one.op) (.slice p0 n.one.args.length r0) (.slice p1 n.kids.length r1) (.slice p2 cs.length r2) (.slice p3 kids.length r3):=by rw[hW];exact(B6.new w _ _ _ _ _ _ _).at (Aa _ _)
  have hZ:B6 W (w.heap.size+1) (.int .i64 0) (.int .i64 0) (.slice none 0 0) (.slice none 0 0) (.slice none 0 0) (.slice none 0 0):=by rw[hW];have:=B6.new (w.alloc (.cells #[.int .i64 n.kind, .int .i64 n.one.op, .slice p0 n.one.args.length r0, .slice p1 n.kids.length r1, .slice p2 cs.length r2, .slice p3 kids.length r3] 55)) (.int .i64 0) (.int .i64 0) (.slice none 0 0) (.slice none 0 0) (.slice none 0 0) (.slice none 0 0) 55;simpa using this
  have hsW:W.heap.size=w.heap.size+2:=by rw[hW];simp
  have hBW:Below w.heap.size w W:=by rw[hW];exact Bq (Aa _ _) _
  clear hW;have HA:=hid hA;have HZ:=hid hZ;have bD:=hid hsW;have hl0:w.heap.size<W.heap.size:=omz
  obtain⟨_,⟨_,_,_,_,p4,_⟩,_⟩:=hA;clear hZ hsW;go_cut [3] (λs3 wc=>∃(B:Nat) (m:Aw),s3=.pointer (some ⟨B,0,none⟩)/\NSt w wc B m/\m.arm=⟨Stil.none0,cs,[]⟩/\B6 wc w.heap.size (.int .i64 n.kind) (.int .i64 n.one.op) (.slice p0 n.one.args.length r0) (.slice p1 n.kids.length r1) (.slice p2 cs.length r2) (.slice p3 kids.length r3))
  case first=>
   go_wp2_with (go_at_call 61;refine(H1 _ (by exact hBW)).mono ?_;rintro e w1 ⟨ra,rc,fE,rfl,hmn,hmr,hb1⟩;have dW:=hb1;have hB1:=hBW.trans (dW.mono hBW.size);have hz1:=A37 hl0 dW.size;have hS1:=(dW.cell (p:=⟨w.heap.size,4,none⟩) hl0).trans p4;have jm:=hid hmn;have jl:Hid (Pg w1 _ (.slice ra fE.length rc) fE):=hmr;have HB1:Hid (Below _ _ w1):=hb1;clear hmn hmr)
   go_meet;have hs0:=bD.out;obtain⟨ho,hv⟩:=Aac (base:=w.heap.size+2) (lA:=w1.heap.size) jl (Oi.nil w1 w1.heap.size) (Below.refl _ _) (by show _<=W.heap.size;omega) (A4d _) (by have:=dW.size;omega);have hsz:=dW.size;refine⟨w1.heap.size,⟨Oz, .slice ra fE.length rc,fE, .slice none 0 0,[]⟩,rfl,⟨omz,B6.new _ _ _ _ _ _ _ _,ho.below (Aa _ _),λx hx e=>by(have h:=hv x hx _ e;omega),(HZ.at dW).at (Aa _ _),Bq hB1 _⟩,?_,(HA.at dW).at (Aa _ _)⟩;rw[Aw.arm_eq];simp only;rw[jm.out,Xi];rfl
  case rest=>
   clear p4 hBW hl0 bD HA HZ;obtain⟨B,m,rfl,hst,hma,hA⟩:=hcut;have HST:=hid hst;have fK:=hid hma;have HA:=hid hA;clear hst hma H1;obtain⟨hA0,⟨p0',p1',p2',xW,um,ul⟩,y9⟩:=hA;clear y9;obtain⟨hB2,hbx,hao,hno,hzb,hbw⟩:=HST.out;obtain⟨t,ht⟩:∃t,t=Aq n:=⟨_,rfl⟩
   have HT:=hid ht;have gY:Hid (∀W,Below wc.heap.size wc W->Calls Tryz.prog 62 #[.agg #[.int .i64 n.kind, .int .i64 n.one.op, .slice p0 n.one.args.length r0, .slice p1 n.kids.length r1]] W λe w'=>e=.returned (.bool t)/\Below W.heap.size W w'):=by rw[ht];exact λW h=>H3 W (hbw.trans (h.mono hbw.size))
   have fF:Hid (t=false->∀W,Below wc.heap.size wc W->Calls Tryz.prog 63 #[.agg #[.int .i64 n.kind, .int .i64 n.one.op, .slice p0 n.one.args.length r0, .slice p1 n.kids.length r1]] W λe w'=>Nr w' W.heap.size (A7 n) e/\Below W.heap.size W w'):=by rw[ht];exact λhn W h=>H4 hn W (hbw.trans (h.mono hbw.size))
   clear ht H3 H4 hB2 hbx hao hno hzb hbw;go_upto_if 13 with(go_at_call 62;refine(gY _ blA).mono ?_;rintro e w3 ⟨rfl,hb3⟩;obtain⟨hc3,hf3⟩:=Dq hb3;have uD:=A37 hA0 hb3.size;have q0:w3.cell? ⟨w.heap.size,0,none⟩=_:=(hc3 _ _ hA0).trans p0';have q1:w3.cell? ⟨w.heap.size,1,none⟩=_:=(hc3 _ _ hA0).trans p1';have q2:w3.cell? ⟨w.heap.size,2,none⟩=_:=(hc3 _ _ hA0).trans p2';have q3:w3.cell? ⟨w.heap.size,3,none⟩=_:=(hc3 _ _ hA0).trans xW;clear hc3 hf3)
   clear gY;have iL:Hid (NSt w w3 B m):=by
    obtain⟨hB2,hbx,hao,hno,hzb,hbw⟩:=HST.out;exact⟨hB2,hbx.at hb3,hao.below hb3,hno,hzb.at hb3,Bd hbw hb3⟩
   have oU:=hid (λh=>fF h w3 hb3);have HA4:=HA.at hb3;clear HST HA hA0 p0' p1' p2' xW um ul hb3 fF;have HA3:=hid HA4;clear HA4;go_cut [] (λwd=>∃m:Aw,NSt w wd B m/\m.arm=⟨Rk n,cs,[]⟩/\B6 wd w.heap.size (.int .i64 n.kind) (.int .i64 n.one.op) (.slice p0 n.one.args.length r0) (.slice p1 n.kids.length r1) (.slice p2 cs.length r2) (.slice p3 kids.length r3))
   case first=>
    cases t with
    | true=>
     have dX:Hid (Rk n=n/\n=Stil.none0):=⟨if_pos HT.symm,Ym HT.symm⟩
     clear oU
     go_wp2
     go_meet;exact⟨m,iL.out,by rw[fK.out,dX.out.1,dX.out.2],HA3.out⟩
    | false=>
     have dX:Hid (Rk n=A7 n):=if_neg (by rw[<-HT.out];exact Bool.false_ne_true);have HN4:=hid (oU rfl);clear oU
     go_wp2_with (go_at_call 63;refine HN4.mono ?_;rintro e w4 ⟨⟨mk,aG,aF,s0,t0,s1,t1,aC,rfl,hmo,hmn⟩,hb4⟩;have aJ:=hid hmo;have aH:=hid hmn;clear hmo hmn;have pJ:Hid (A3x w4 B m):=B6.at iL.2.1 hb4;obtain⟨hB0,⟨y0,y1,y2,y3,_,_⟩,dZ⟩:=pJ.out;have f0:=dZ 0 omz;have f1:=dZ 1 omz;have f2:=dZ 2 omz;have f3:=dZ 3 omz;clear dZ)
     go_meet;obtain⟨hB2,hbx,hao,hno,hzb,hbw⟩:=iL.out;have xu:=hb4.size;have hsz:=hbw.size;have hBl:=hbx.1;have hN:Ik w4 (w.heap.size+2) ⟨mk,aG,aF, .slice s0 aF.length t0, .slice s1 aC.length t1,aC⟩:=aJ.le omz;have xg:=Ic.setNet (hao.below hb4) hN (λx hx q hq=>(aJ.1.lt _ x hx q hq).1) (λx hx q hq=>(hao.1.lt _ x hx q hq).2);have nP:∀x∈(Aw.mk ⟨mk,aG,aF, .slice s0 aF.length t0, .slice s1 aC.length t1,aC⟩ m.cv m.coils m.kv m.kids).vals,x.ownBlock≠some B:=by
      intro x hx e;rw[Aw.vals_eq] at hx;rcases List.mem_append.1 hx with hx | hx
      ·have:=(aJ.1.lt _ x hx _ e).1;omega
      ·exact hno x (by rw[Aw.vals_eq];exact A4g _ hx) e
     refine⟨⟨⟨mk,aG,aF, .slice s0 aF.length t0, .slice s1 aC.length t1,aC⟩,m.cv,m.coils,m.kv,m.kids⟩,⟨hB2,B6.setN pJ.out,Ic.setN xg nP,nP,B6.set4O (hzb.at hb4) omz,?_⟩,?_,B6.set4O (HA3.at hb4) omz⟩
     ·exact zD0
     ·exact zx0
   case rest=>
    obtain⟨m2,hst,hma,hA⟩:=hcut;clear fK iL oU q0 q1 q2 q3 HA3 uD;have HST:=hid hst;have fK:=hid hma;clear hst hma
    go_wp2
    go_loopw [4] (λi wr=>∃(j:Nat) (m:Aw),j<=kids.length/\i=.int .i64 j/\NSt w wr B m/\m.arm=⟨Rk n,cs,(kids.take j).map Dh⟩/\B6 wr w.heap.size (.int .i64 n.kind) (.int .i64 n.one.op) (.slice p0 n.one.args.length r0) (.slice p1 n.kids.length r1) (.slice p2 cs.length r2) (.slice p3 kids.length r3)) (λi _=>kids.length - (intOf i).toNat)
    case atStart=>exact⟨0,m2,omz,rfl,HST.out,by rw[fK.out];rfl,hA⟩
    case round=>
     clear HST fK hA HT;obtain⟨j,m3,hj,rfl,hst,hma,hA⟩:=hrel;obtain⟨hB2,hbx,hao,hno,hzb,hbw⟩:=hst;obtain⟨k1,o1,d1,a1,c1,b1,e1,n1,f1,g1,s1,h1,j1,bG,rfl⟩:=V9 m3 hao.1;have hkl:bG.length=j:=by
      rw[Aw.arm_eq] at hma;have h2:=congrArg (λa:Stil.Arm=>a.kids.length) hma;simp only[A4o,List.length_take] at h2;omega
     have fZ:B6 wr B (.int .i64 k1) (.int .i64 o1) (.slice a1 d1.length c1) (.slice b1 n1.length e1) (.slice f1 s1.length g1) (.slice h1 bG.length j1):=hbx;have cZ:=hid fZ;have dY:=hid hao;have dX:=hid hno;have rE:=hid hzb;have iC:=hid hbw;have fK:=hid hma;have HB2:=hid hB2;have HA:=hid hA;have HB3:Hid (w.heap.size+2<=wr.heap.size):=by have:=fZ.1;show _<=_;omega
     by_cases hlt:j<kids.length
     ·have hat:=iD wr hbw
      obtain⟨pa,pc,hpe,hpc⟩:=hat;simp only[Value.slice.injEq,true_and] at hpe;obtain⟨rfl,rfl⟩:=hpe;obtain⟨b,o,rfl,hbl,hn⟩:=hpc j hlt;obtain⟨hnn,cv',vk,x4,x5,hcv,hkv⟩:=hn.open;obtain⟨x0,x1,kG,kT,x2,x3,hav,hnv⟩:=hnn.open;have HI:=hid (λW h=>H2 kids[j] (A4f hlt) kG kT cv' vk W (hav.below h) (hnv.below h) (hcv.below h) (hkv.below h));have aT:Hid ((kids.take (j+1)).map Dh=(kids.take j).map Dh++[Dh kids[j]]):=by show _=_;rw[A4r hlt,A4m];rfl
      obtain⟨x,hx⟩:∃x,x=kids[j]:=⟨_,rfl⟩
      rw[<-hx] at HI aT x0 x1 hav hnv hcv hkv;obtain⟨q0,s0,rfl,_⟩:=hav;obtain⟨q1,s1',rfl,_⟩:=hnv;obtain⟨q2,s2',rfl,_⟩:=hcv;obtain⟨q3,s3',rfl,_⟩:=hkv;obtain⟨hBs,⟨_,_,_,_,_,y5⟩,dZ⟩:=fZ;obtain⟨hAs,⟨_,_,_,_,_,z5⟩,_⟩:=hA;have HF5:=hid (dZ 5 omz);have hl2:bG.length+[(Aw.mk ⟨k1,o1,d1, .slice a1 d1.length c1, .slice b1 n1.length e1,n1⟩ (.slice f1 s1.length g1) s1 (.slice h1 bG.length j1) bG)].length<=1000000:=by simp only[A48];omega
      have hvm:Value.slice h1 bG.length j1∈(Aw.mk ⟨k1,o1,d1, .slice a1 d1.length c1, .slice b1 n1.length e1,n1⟩ (.slice f1 s1.length g1) s1 (.slice h1 bG.length j1) bG).vals:=by rw[Aw.vals_eq];simp
      have HKB:=hid (hno _ hvm);have rV:=hid (λq hq=>(hao.1.lt _ _ hvm q hq).1);have hj1:(0:Int)<=(j:Int):=omz
      have hj2:(j:Int)<(kids.length:Int):=omz
      clear hx hn hnn hpc hbx hao hno hzb hbw hma hB2 dZ hvm hkl;go_upto_region 7 with fail
      go_region_law (first | (refine Agp rfl _ _ rfl (w.heap.size+2) h1 j1 bG [(Aw.mk ⟨mk,aG,aF, .slice xa aF.length ya, .slice xb bT.length yb,bT⟩ (.slice xc bU.length yc) bU (.slice xd aC.length yd) aC)] (some ⟨w5.heap.size,0,none⟩) 1 rfl rfl (((dY.below hb5).below (Aa _ _)).krow) (λ_=>⟨_,rfl,by exact Awj⟩) (λm hm=>by rw[List.mem_singleton.1 hm];exact((aJ.1.le HB3.out).below (Aa _ _))) (dY.krow.apart (w1:=w5) (b1:=wr.heap.size) (λm hm=>by rw[List.mem_singleton.1 hm];exact aJ.1) (A4d _) (by rw[Nq];exact aJ.2)) hl2 (by have:=hb5.size;have:=HB3.out;simp;omega) ?_;intro a6 c6 w6 aW aQ lV;have gJ:Hid (Oi w6 (w.heap.size+2) (.slice a6 (bG.length+1) c6) (bG++[(Aw.mk ⟨mk,aG,aF, .slice xa aF.length ya, .slice xb bT.length yb,bT⟩ (.slice xc bU.length yc) bU (.slice xd aC.length yd) aC)])):=aW;have qo:Hid ((w5.alloc (.cells #[.int .i64 mk, .int .i64 aG, .slice xa aF.length ya, .slice xb bT.length yb, .slice xc bU.length yc, .slice xd aC.length yd] 55)).grownBy w6 (Value.slice h1 bG.length j1).ownBlock):=aQ;have pz:Hid ((Value.slice a6 (bG.length+1) c6).ownBlock=(Value.slice h1 bG.length j1).ownBlock\/(Value.slice a6 (bG.length+1) c6).ownBlock=some (w5.alloc (.cells #[.int .i64 mk, .int .i64 aG, .slice xa aF.length ya, .slice xb bT.length yb, .slice xc bU.length yc, .slice xd aC.length yd] 55)).heap.size):=lV;have hBa:B<(w5.alloc (.cells #[.int .i64 mk, .int .i64 aG, .slice xa aF.length ya, .slice xb bT.length yb, .slice xc bU.length yc, .slice xd aC.length yd] 55)).heap.size:=(by simp;omega);have t5:=(Dl aQ hBa HKB.out).trans ((Ej oG).trans y55);have u5:=(G7 aQ hBa HKB.out).trans (((Aa w5 (.cells #[.int .i64 mk, .int .i64 aG, .slice xa aF.length ya, .slice xb bT.length yb, .slice xc bU.length yc, .slice xd aC.length yd] 55)).frozen (p:=⟨B,5,none⟩) oG).trans HU5.out);clear aW aQ lV hBa) | (go_simp;go_at_call 37;refine(HI _ (by exact(Below.refl _ _).drew)).mono ?_;rintro e w5 ⟨⟨mk,aG,aF,xa,ya,bT,xb,yb,bU,xc,yc,aC,xd,yd,rfl,hmo,hmn⟩,zO⟩;have hb5:=Bd (Below.refl _ _).drew zO;have aJ:Hid (Ic w5 wr.heap.size (Aw.mk ⟨mk,aG,aF, .slice xa aF.length ya, .slice xb bT.length yb,bT⟩ (.slice xc bU.length yc) bU (.slice xd aC.length yd) aC)):=hmo;have aH:=hid hmn;have oG:=A37 hBs hb5.size;have y55:=(hb5.cell (p:=⟨B,5,none⟩) hBs).trans y5;have HU5:=hid ((hb5.frozen (p:=⟨B,5,none⟩) hBs).trans HF5.out);clear hmo hmn zO))
      all_goals
       go_wp2
       have hB0:=HB2.out;have hg:=qo.out;have hadd:=Ic.addKid (m:=(Aw.mk ⟨k1,o1,d1, .slice a1 d1.length c1, .slice b1 n1.length e1,n1⟩ (.slice f1 s1.length g1) s1 (.slice h1 bG.length j1) bG)) (k:=(Aw.mk ⟨mk,aG,aF, .slice xa aF.length ya, .slice xb bT.length yb,bT⟩ (.slice xc bU.length yc) bU (.slice xd aC.length yd) aC)) (kv':=.slice a6 (bG.length+1) c6) ((dY.below hb5).below (Aa _ _)) (λx hx y hy=>(Ef (n:=wr.heap.size) (λq hq=>(dY.1.lt _ y hy q hq).2) (λq hq=>(aJ.1.lt _ x hx q hq).1)).symm) gJ hg pz.out;have yZ:∀x∈(Aw.mk ⟨k1,o1,d1, .slice a1 d1.length c1, .slice b1 n1.length e1,n1⟩ (.slice f1 s1.length g1) s1 (.slice a6 (bG.length+1) c6) (bG++[(Aw.mk ⟨mk,aG,aF, .slice xa aF.length ya, .slice xb bT.length yb,bT⟩ (.slice xc bU.length yc) bU (.slice xd aC.length yd) aC)])).vals,x.ownBlock≠some B:=by
        intro x hx e;rcases hadd.2 x hx with h | h | h
        ·exact dX x h e
        ·have:=(aJ.1.lt _ x h _ e).1;omega
        ·rw[h] at e
         rcases pz with h2 | h2
         ·rw[h2] at e;exact HKB e
         ·rw[h2] at e;cases e;simp at oG;omega
       refine⟨⟨j+1,(Aw.mk ⟨k1,o1,d1, .slice a1 d1.length c1, .slice b1 n1.length e1,n1⟩ (.slice f1 s1.length g1) s1 (.slice a6 (bG.length+1) c6) (bG++[(Aw.mk ⟨mk,aG,aF, .slice xa aF.length ya, .slice xb bT.length yb,bT⟩ (.slice xc bU.length yc) bU (.slice xd aC.length yd) aC)])),omz,by go_num,⟨hB0,B6.set5 (B6.grown ((cZ.at hb5).al _) hg HKB.out) _,Ic.setO hadd.1 (a:=⟨B,5,none⟩) yZ _,yZ,B6.setO (B6.grown ((rE.at hb5).al _) hg (λe=>by have:=rV _ e;omega)) omz _,?_⟩,?_,B6.setO (B6.grown ((HA.at hb5).al _) hg (λe=>by have:=rV _ e;omega)) omz _⟩,by simp[intOf];omega⟩
       ·have hle:w.heap.size<=B:=by omega
        exact Bz hle ((Bq (Bd iC hb5) _).grown hg (by have:=iC.size;have:=hb5.size;simp;omega) (λk hk=>by have:=rV k hk;omega)) _
       ·have e:=fK.out
        rw[Aw.arm_eq] at e ⊢;simp only[Stil.Arm.mk.injEq] at e ⊢;refine⟨e.1,e.2.1,?_⟩;rw[A4m,e.2.2,aT.out,List.map_singleton,aH.out]
     ·obtain rfl:j=kids.length:=by omega
      have hm4:=fK.out;rw[List.take_length] at hm4;have wB:=hid hm4;have dm:Hid (NSt w wr B (Aw.mk ⟨k1,o1,d1, .slice a1 d1.length c1, .slice b1 n1.length e1,n1⟩ (.slice f1 s1.length g1) s1 (.slice h1 bG.length j1) bG)):=⟨HB2.out,cZ.out,dY.out,dX.out,rE.out,iC.out⟩
      obtain⟨_,⟨_,_,_,_,_,z5⟩,_⟩:=hA;clear hm4 hbx fZ hao hno hzb hbw hma cZ dY dX rE iC fK HA HB3 H2 iD hlt hkl hB2;obtain⟨wo,hwo⟩:∃wo:World,wo=wr:=⟨wr,rfl⟩
      subst hwo
      go_wp2
      go_loopg [] (Hq (kids.map Dh)) (λk wr=>∃m:Aw,NSt w wr B m/\Stil.joined m.arm=T/\Xw 900000 m.arm/\Fq m.arm/\Hq m.arm.kids<=k)
      case atStart=>
       refine⟨(Aw.mk ⟨k1,o1,d1, .slice a1 d1.length c1, .slice b1 n1.length e1,n1⟩ (.slice f1 s1.length g1) s1 (.slice h1 bG.length j1) bG),dm.out,?_,?_,?_,?_⟩
       ·rw[wB.out,HJ.out]
       ·rw[wB.out];exact HM.out
       ·rw[wB.out];exact HFI.out
       ·rw[wB.out];exact A4d _
      case round=>
       clear dm wB HJ HM HFI tJ z5 k1 o1 d1 a1 c1 b1 e1 n1 f1 g1 s1 h1 j1 bG HB2;obtain⟨m3,hst,hjo,hmid,hfi,hgk⟩:=hrel;obtain⟨hB2,hbx,hao,hno,hzb,hbw⟩:=hst;obtain⟨k1,o1,d1,a1,c1,b1,e1,n1,f1,g1,s1,h1,j1,bG,rfl⟩:=V9 m3 hao.1;have fZ:B6 wr B (.int .i64 k1) (.int .i64 o1) (.slice a1 d1.length c1) (.slice b1 n1.length e1) (.slice f1 s1.length g1) (.slice h1 bG.length j1):=hbx;have cZ:=hid fZ;have dY:=hid hao;have dX:=hid hno;have rE:=hid hzb;have iC:=hid hbw;have wG:=hid hjo;have xO:=hid hmid;have HFN:=hid hfi;have HGK:=hid hgk;have HB2:=hid hB2;have hkl:bG.length<=900000/\s1.length<=900000:=by
        have h0:=hmid.2;rw[Aw.arm_eq,Cc] at h0;simp only[A4o] at h0;have h1:(bG.map Aw.arm).length<=Hq (bG.map Aw.arm):=Lc _;rw[A4o] at h1;omega
       obtain⟨uK,hkl2⟩:=hkl;obtain⟨hBs,⟨x0,x1,x2,x3,x4,x5⟩,dZ⟩:=fZ;obtain⟨hZs,⟨z0,z1,z2,z3,z4,z5⟩,kC⟩:=hzb;have y0:=kC 0 omz;have y1:=kC 1 omz;have y2:=kC 2 omz;have y3:=kC 3 omz;have y4:=kC 4 omz;have y5:=kC 5 omz;have hBne:w.heap.size+1≠B:=omz
       clear hbx hao hno hbw hjo hmid hgk hB2 kC hfi;by_cases hk:bG.length=1
       ·obtain⟨kid,rfl⟩:=List.length_eq_one_iff.1 hk
        obtain⟨_,_,hkr,hka⟩:=(Hf _ _ _).1 dY.1;simp only at hkr hka;obtain⟨k2,o2,d2,a2,c2,b2,e2,n2,f2,g2,s2,h2,j2,aV,rfl⟩:=V9 kid (hka kid spz);obtain⟨g,rfl,hgs,q0,q1,q2,q3,q4,q5⟩:=Ajg hkr;simp only[A48] at*;have hkm:=(Hf _ _ _).1 (hka (Aw.mk ⟨k2,o2,d2, .slice a2 d2.length c2, .slice b2 n2.length e2,n2⟩ (.slice f2 s2.length g2) s2 (.slice h2 aV.length j2) aV) spz);obtain⟨hf3,hf4⟩:=MOk.from _ hkm.1;have HE:Hid ((Aw.mk ⟨k1,o1,d1, .slice a1 d1.length c1, .slice b1 n1.length e1,n1⟩ (.slice f1 s1.length g1) s1 (.slice (some ⟨g,0,none⟩) 1 j1) [(Aw.mk ⟨k2,o2,d2, .slice a2 d2.length c2, .slice b2 n2.length e2,n2⟩ (.slice f2 s2.length g2) s2 (.slice h2 aV.length j2) aV)]).arm=⟨(Ah.mk k1 o1 d1 (.slice a1 d1.length c1) (.slice b1 n1.length e1) n1).net,s1.map Df.elem,[⟨(Ah.mk k2 o2 d2 (.slice a2 d2.length c2) (.slice b2 n2.length e2) n2).net,s2.map Df.elem,aV.map Aw.arm⟩]⟩):=by
         show _=_
         rw[Aw.arm_eq];simp only[A4q,List.map_nil];rw[Aw.arm_eq (Aw.mk ⟨k2,o2,d2, .slice a2 d2.length c2, .slice b2 n2.length e2,n2⟩ (.slice f2 s2.length g2) s2 (.slice h2 aV.length j2) aV)]
        have uI:=xO.out;rw[HE.out] at uI;have hok:=Al7 uI (A4d _);simp only at hok;obtain⟨hM2,hS2,hF1,hF2,hL2,hK2⟩:=hok;simp only[A4o] at hL2;have oQ:Hid (∀W,Below wr.heap.size wr W->Calls Tryz.prog 62 #[.agg #[.int .i64 k2, .int .i64 o2, .slice a2 d2.length c2, .slice b2 n2.length e2]] W λe w'=>e=.returned (.bool (Aq (Ah.mk k2 o2 d2 (.slice a2 d2.length c2) (.slice b2 n2.length e2) n2).net))/\Below W.heap.size W w'):=by
         intro W h;have:=Xd (Ah.mk k2 o2 d2 (.slice a2 d2.length c2) (.slice b2 n2.length e2) n2).net _ _ W (hf3.at.below h) (hf4.at.below h) hF2
         have e:=Ah.net_eq (Ah.mk k2 o2 d2 (.slice a2 d2.length c2) (.slice b2 n2.length e2) n2);have oI:(Ah.mk k2 o2 d2 (.slice a2 d2.length c2) (.slice b2 n2.length e2) n2).net.kind=k2:=by rw[e]
         have oH:(Ah.mk k2 o2 d2 (.slice a2 d2.length c2) (.slice b2 n2.length e2) n2).net.one.op=o2:=by rw[e]
         rw[oI,oH] at this;exact this
        have hfn:=HFN.out;rw[HE.out] at hfn;have ax:=Zp hfn;simp only at ax;have oz:=Ic.parts dY.out;have mG:=hid (λW h=>A2h k1 o1 d1 a1 c1 b1 e1 n1 k2 o2 d2 a2 c2 b2 e2 n2 (w.heap.size+2) W (oz.hna.below h) (oz.hnk.below h) oz.nets (A4k (by have:=HB2.out;omega) h.size) hS2 ax.2.1 ax.2.2 hF1 hF2);have HIA:Hid (∀y∈(Ah.mk k1 o1 d1 (.slice a1 d1.length c1) (.slice b1 n1.length e1) n1).vals++(Ah.mk k2 o2 d2 (.slice a2 d2.length c2) (.slice b2 n2.length e2) n2).vals++((.slice f1 s1.length g1::(Ff s1++Ff s2))++(.slice h2 aV.length j2::Gj aV)),y∈(Aw.mk ⟨k1,o1,d1, .slice a1 d1.length c1, .slice b1 n1.length e1,n1⟩ (.slice f1 s1.length g1) s1 (.slice (some ⟨g,0,none⟩) 1 j1) [(Aw.mk ⟨k2,o2,d2, .slice a2 d2.length c2, .slice b2 n2.length e2,n2⟩ (.slice f2 s2.length g2) s2 (.slice h2 aV.length j2) aV)]).vals):=by
         intro y hy;rw[Aw.vals_eq];simp only[Nq];rw[Aw.vals_eq (Aw.mk ⟨k2,o2,d2, .slice a2 d2.length c2, .slice b2 n2.length e2,n2⟩ (.slice f2 s2.length g2) s2 (.slice h2 aV.length j2) aV)];simp only[A4l,A4t] at hy ⊢;rcases hy with(hy | hy) | (hy | hy | hy) | hy | hy
         ·exact .inl hy
         ·exact .inr (.inr (.inr (.inl hy)))
         ·exact .inr (.inl (.inl hy))
         ·exact .inr (.inl (.inr hy))
         ·exact .inr (.inr (.inr (.inr (.inl (.inr hy)))))
         ·exact .inr (.inr (.inr (.inr (.inr (.inl hy)))))
         ·exact .inr (.inr (.inr (.inr (.inr (.inr hy)))))
        have eG:=hid (λy hy=>HIA y (A4j _ hy));have hvm:Value.slice f1 s1.length g1∈(Aw.mk ⟨k1,o1,d1, .slice a1 d1.length c1, .slice b1 n1.length e1,n1⟩ (.slice f1 s1.length g1) s1 (.slice (some ⟨g,0,none⟩) 1 j1) [(Aw.mk ⟨k2,o2,d2, .slice a2 d2.length c2, .slice b2 n2.length e2,n2⟩ (.slice f2 s2.length g2) s2 (.slice h2 aV.length j2) aV)]).vals:=by rw[Aw.vals_eq];simp
        have dI:=hid (dX _ hvm);have pY:Hid (∀q,(Value.slice f1 s1.length g1).ownBlock=some q->w.heap.size<=q):=λq hq=>by have:=(dY.1.lt _ _ hvm q hq).1;omega
        have HCL:=hid (λq hq=>(dY.1.lt _ _ hvm q hq).2);have wO:Hid ((Value.slice f1 s1.length g1).ownBlock≠some (w.heap.size+1)):=λe=>by have:=(dY.1.lt _ _ hvm _ e).1;omega
        have jb:Hid (Hq (aV.map Aw.arm)<gk):=by
         have h1:=HGK.out;rw[HE.out] at h1;exact A37 hK2 h1
        have jW:=wG.out;rw[HE.out] at jW;obtain⟨X1,hX1⟩:∃X,X=(Ah.mk k1 o1 d1 (.slice a1 d1.length c1) (.slice b1 n1.length e1) n1).net:=⟨_,rfl⟩
        obtain⟨X2,hX2⟩:∃X,X=(Ah.mk k2 o2 d2 (.slice a2 d2.length c2) (.slice b2 n2.length e2) n2).net:=⟨_,rfl⟩
        obtain⟨t2,ht2⟩:∃t,t=Aq (Ah.mk k2 o2 d2 (.slice a2 d2.length c2) (.slice b2 n2.length e2) n2).net:=⟨_,rfl⟩
        obtain⟨ln,hln⟩:∃ln,ln=s1.length:=⟨_,rfl⟩
        have fG:=hid hln;have HT2:=hid ht2;rw[<-ht2] at oQ;have pG:Hid (s1.map Df.elem=[]\/t2=true->Stil.joined ⟨Jq X1 X2,s1.map Df.elem++s2.map Df.elem,aV.map Aw.arm⟩=T):=by
         intro h;rw[hX1,hX2,<-jW];exact(Adp _ _ ⟨(Ah.mk k2 o2 d2 (.slice a2 d2.length c2) (.slice b2 n2.length e2) n2).net,s2.map Df.elem,aV.map Aw.arm⟩ (by rw[<-ht2];exact h)).symm
        have dF:Hid (Xw 900000 ⟨Jq X1 X2,s1.map Df.elem++s2.map Df.elem,aV.map Aw.arm⟩):=by rw[hX1,hX2];exact hM2
        have ji:Hid (Fq ⟨Jq X1 X2,s1.map Df.elem++s2.map Df.elem,aV.map Aw.arm⟩):=by rw[hX1,hX2];exact ax.1
        rw[<-hX1,<-hX2] at mG;rw[<-hln] at x4 cZ hkl2 dI pY wO HCL;have iV:=hid (λW (h:Below wr.heap.size wr W)=>dY.below h);clear hk hkr hka hkm hf3 hf4 uI hM2 hS2 hF1 hF2 hK2 jW hX1 hX2 ht2 hln hvm dY uK hfn ax oz;by_cases hc:0<ln
        ·have hcb:((ln:Int)==0)=false:=by rw[A5a];omega
         have hcc:¬((ln:Int)=0):=omz
         cases t2 with
         | false=>
          clear mG pG dZ
          go_wp2_with (go_at_call 62;refine(oQ _ blA).mono ?_;rintro e w4 ⟨rfl,hb4⟩;obtain⟨hc4,hf4⟩:=Dq hb4;have vK:=A37 hBs hb4.size;have uT:=A37 hZs hb4.size;have zn:w4.cell? ⟨B,0,none⟩=_:=(hc4 _ _ hBs).trans x0;have zl:w4.cell? ⟨B,1,none⟩=_:=(hc4 _ _ hBs).trans x1;have zk:w4.cell? ⟨B,2,none⟩=_:=(hc4 _ _ hBs).trans x2;have zi:w4.cell? ⟨B,3,none⟩=_:=(hc4 _ _ hBs).trans x3;have zh:w4.cell? ⟨B,4,none⟩=_:=(hc4 _ _ hBs).trans x4;have zg:w4.cell? ⟨B,5,none⟩=_:=(hc4 _ _ hBs).trans x5;have v0:w4.cell? ⟨w.heap.size+1,0,none⟩=_:=(hc4 _ _ hZs).trans z0;have v1:w4.cell? ⟨w.heap.size+1,1,none⟩=_:=(hc4 _ _ hZs).trans z1;have v2:w4.cell? ⟨w.heap.size+1,2,none⟩=_:=(hc4 _ _ hZs).trans z2;have v3:w4.cell? ⟨w.heap.size+1,3,none⟩=_:=(hc4 _ _ hZs).trans z3;have v4:w4.cell? ⟨w.heap.size+1,4,none⟩=_:=(hc4 _ _ hZs).trans z4;have v5:w4.cell? ⟨w.heap.size+1,5,none⟩=_:=(hc4 _ _ hZs).trans z5;have vf0:w4.frozen? ⟨w.heap.size+1,0,none⟩=_:=(hf4 _ _ hZs).trans y0;have vf1:w4.frozen? ⟨w.heap.size+1,1,none⟩=_:=(hf4 _ _ hZs).trans y1;have vf2:w4.frozen? ⟨w.heap.size+1,2,none⟩=_:=(hf4 _ _ hZs).trans y2;have vf3:w4.frozen? ⟨w.heap.size+1,3,none⟩=_:=(hf4 _ _ hZs).trans y3;have vf4:w4.frozen? ⟨w.heap.size+1,4,none⟩=_:=(hf4 _ _ hZs).trans y4;have vf5:w4.frozen? ⟨w.heap.size+1,5,none⟩=_:=(hf4 _ _ hZs).trans y5;clear hc4 hf4)
          have wV:=hid (Bd iC hb4);have jQ:=iV w4 hb4;refine bodyPost_ret (v:=.agg #[.int .i64 k1, .int .i64 o1, .slice a1 d1.length c1, .slice b1 n1.length e1, .slice f1 ln g1, .slice (some ⟨g,0,none⟩) 1 j1]) (by simp[results,Tryz.results37,go_sem,v0,v1,v2,v3,v4,v5]) rfl ⟨⟨k1,o1,d1,a1,c1,n1,b1,e1,s1,f1,g1,[(Aw.mk ⟨k2,o2,d2, .slice a2 d2.length c2, .slice b2 n2.length e2,n2⟩ (.slice f2 s2.length g2) s2 (.slice h2 aV.length j2) aV)],(some ⟨g,0,none⟩),j1,by rw[<-fG.out];rfl,?_,?_⟩,?_⟩
          ·exact Ic.le (Ic.setO6 (base:=w.heap.size+2) jQ (λx hx e=>by have:=((jQ).1.lt _ x hx _ e).1;omega)) omz
          ·exact zR
          ·exact zu0
         | true=>
          have HJ2:=hid (pG (.inr rfl));clear pG dZ HE HT2 z0 z1 z2 z3 z4 z5 y0 y1 y2 y3 y4 y5;go_upto_region 9 with(go_at_call 62;refine(oQ _ blA).mono ?_;rintro e w4 ⟨rfl,hb4⟩;obtain⟨hc4,hf4⟩:=Dq hb4;have vK:=A37 hBs hb4.size;have uT:=A37 hZs hb4.size;have zn:w4.cell? ⟨B,0,none⟩=_:=(hc4 _ _ hBs).trans x0;have zl:w4.cell? ⟨B,1,none⟩=_:=(hc4 _ _ hBs).trans x1;have zk:w4.cell? ⟨B,2,none⟩=_:=(hc4 _ _ hBs).trans x2;have zi:w4.cell? ⟨B,3,none⟩=_:=(hc4 _ _ hBs).trans x3;have zh:w4.cell? ⟨B,4,none⟩=_:=(hc4 _ _ hBs).trans x4;have zg:w4.cell? ⟨B,5,none⟩=_:=(hc4 _ _ hBs).trans x5;have Q0:w4.cell? ⟨g,0,none⟩=_:=(hc4 _ _ hgs).trans q0;have Q1:w4.cell? ⟨g,1,none⟩=_:=(hc4 _ _ hgs).trans q1;have Q2:w4.cell? ⟨g,2,none⟩=_:=(hc4 _ _ hgs).trans q2;have Q3:w4.cell? ⟨g,3,none⟩=_:=(hc4 _ _ hgs).trans q3;have Q4:w4.cell? ⟨g,4,none⟩=_:=(hc4 _ _ hgs).trans q4;have Q5:w4.cell? ⟨g,5,none⟩=_:=(hc4 _ _ hgs).trans q5;have xy:=A37 hgs hb4.size;clear hc4 hf4)
          have fH:=hid (cZ.at hb4);have kH:=hid (rE.at hb4);have iU:=hid (Bd iC hb4);have wY:=hid (iV w4 hb4);have oZ:=hid (λW h=>mG W (Bd hb4 h));have hsz4:=hb4.size;clear mG x0 x1 x2 x3 x4 x5 q0 q1 q2 q3 q4 q5 hb4 oQ iV;obtain⟨V1,hV1⟩:∃V1,V1=w4.alloc (.cells #[.int .i64 k2, .int .i64 o2, .slice a2 d2.length c2, .slice b2 n2.length e2, .slice f2 s2.length g2, .slice h2 aV.length j2] 55):=⟨_,rfl⟩
          have lU:Below w4.heap.size w4 V1:=by rw[hV1];exact Aa _ _
          have yR:V1.heap.size=w4.heap.size+1:=by rw[hV1];simp
          have di:=hid yR;have jd:Hid (B6 V1 w4.heap.size (.int .i64 k2) (.int .i64 o2) (.slice a2 d2.length c2) (.slice b2 n2.length e2) (.slice f2 s2.length g2) (.slice h2 aV.length j2)):=by rw[hV1];exact B6.new _ _ _ _ _ _ _ _
          have kR:=hid (fH.at lU);have vO:=hid (kH.at lU);have wW:=hid (Bd iU lU);have wZ:=hid (wY.below lU);have pF:=hid (oZ V1 lU);have y7:=Nat.ne_of_lt fH.1;have hl1:=kR.1;have hl2:w4.heap.size<V1.heap.size:=omz
          clear yR;go_upto_region 10 with fail
          rw[<-hV1];clear hV1 oZ;obtain⟨_,⟨k20,k21,k22,k23,k24,k25⟩,_⟩:=jd.out;obtain⟨_,⟨bx0,bx1,zx,zu,zq,zo⟩,hbf⟩:=kR.out;go_upto_region 11 with(go_at_call 64;refine pF.mono ?_;rintro e w5 ⟨⟨mk,aG,aF,x0,y0,x1,y1,aC,rfl,hmo,hmn,hvs⟩,hb5⟩;have aJ:=hid hmo;have aH:=hid hmn;have eF:=hid hvs;have fJ:=hid (kR.at hb5);have jc:=hid (jd.at hb5);obtain⟨gI,⟨t0,t1,t2,t3,_,_⟩,tf⟩:=fJ.out;have u0:=tf 0 omz;have u1:=tf 1 omz;have u2:=tf 2 omz;have u3:=tf 3 omz;clear hmo hmn hvs tf)
          obtain⟨W6,jI⟩:∃W6,W6=((((w5.setCell ⟨B,0,none⟩ (.int .i64 mk)).setCell ⟨B,1,none⟩ (.int .i64 aG)).setCell ⟨B,2,none⟩ (.slice x0 aF.length y0)).setCell ⟨B,3,none⟩ (.slice x1 aC.length y1)):=⟨_,rfl⟩
          rw[<-jI];have iT:Hid (B6 W6 B (.int .i64 mk) (.int .i64 aG) (.slice x0 aF.length y0) (.slice x1 aC.length y1) (.slice f1 ln g1) (.slice (some ⟨g,0,none⟩) 1 j1)):=by rw[jI];exact fJ.setN
          have wF:Hid (B6 W6 w4.heap.size (.int .i64 k2) (.int .i64 o2) (.slice a2 d2.length c2) (.slice b2 n2.length e2) (.slice f2 s2.length g2) (.slice h2 aV.length j2)):=by rw[jI];exact jc.set4O (Ne.symm y7)
          have vN:Hid (B6 W6 (w.heap.size+1) (.int .i64 0) (.int .i64 0) (.slice none 0 0) (.slice none 0 0) (.slice none 0 0) (.slice none 0 0)):=by rw[jI];exact(vO.at hb5).set4O hBne
          have hle:w.heap.size<=B:=by have:=HB2.out;omega
          have pM:Hid (Below w.heap.size w W6):=by rw[jI];exact Bz hle (Bz hle (Bz hle (Bz hle (Bd wW hb5) _) _) _) _
          have hmb:∀x∈(Ah.mk mk aG aF (.slice x0 aF.length y0) (.slice x1 aC.length y1) aC).vals,x.ownBlock≠some B:=by
           intro x hx e;rcases eF x hx with h | h
           ·exact dX x (eG x h) e
           ·have:=h _ e;omega
          have vZ:Hid (Ik W6 (w.heap.size+2) (Ah.mk mk aG aF (.slice x0 aF.length y0) (.slice x1 aC.length y1) aC)):=by rw[jI];exact Ik.setO4 aJ hmb
          have hb6:Below V1.heap.size ((((V1.setCell ⟨B,0,none⟩ (.int .i64 mk)).setCell ⟨B,1,none⟩ (.int .i64 aG)).setCell ⟨B,2,none⟩ (.slice x0 aF.length y0)).setCell ⟨B,3,none⟩ (.slice x1 aC.length y1)) W6:=by rw[jI];exact Aed hb5
          have qG:(((((V1.setCell ⟨B,0,none⟩ (.int .i64 mk)).setCell ⟨B,1,none⟩ (.int .i64 aG)).setCell ⟨B,2,none⟩ (.slice x0 aF.length y0)).setCell ⟨B,3,none⟩ (.slice x1 aC.length y1))).heap.size=V1.heap.size:=spz
          have hP:Parts ((((V1.setCell ⟨B,0,none⟩ (.int .i64 mk)).setCell ⟨B,1,none⟩ (.int .i64 aG)).setCell ⟨B,2,none⟩ (.slice x0 aF.length y0)).setCell ⟨B,3,none⟩ (.slice x1 aC.length y1)) (w.heap.size+2) (Ah.mk k1 o1 d1 (.slice a1 d1.length c1) (.slice b1 n1.length e1) n1) (Ah.mk k2 o2 d2 (.slice a2 d2.length c2) (.slice b2 n2.length e2) n2) (.slice f1 s1.length g1) s1 (.slice f2 s2.length g2) s2 (.slice h2 aV.length j2) aV:=(Ic.setN wZ dX.out).parts;have jY:Below (((((V1.setCell ⟨B,0,none⟩ (.int .i64 mk)).setCell ⟨B,1,none⟩ (.int .i64 aG)).setCell ⟨B,2,none⟩ (.slice x0 aF.length y0)).setCell ⟨B,3,none⟩ (.slice x1 aC.length y1))).heap.size ((((V1.setCell ⟨B,0,none⟩ (.int .i64 mk)).setCell ⟨B,1,none⟩ (.int .i64 aG)).setCell ⟨B,2,none⟩ (.slice x0 aF.length y0)).setCell ⟨B,3,none⟩ (.slice x1 aC.length y1)) W6:=by rw[qG];exact hb6
          have rO:=hid (hP.below jY);have HPJ:Hid (∀w7 a7 c7,Pg w7 (w.heap.size+2) (.slice a7 (ln+s2.length) c7) (s1++s2)->W6.grownBy w7 (Value.slice f1 ln g1).ownBlock->((Value.slice a7 (ln+s2.length) c7).ownBlock=(Value.slice f1 ln g1).ownBlock\/(Value.slice a7 (ln+s2.length) c7).ownBlock=some W6.heap.size)->Ic w7 (w.heap.size+2) ⟨(Ah.mk mk aG aF (.slice x0 aF.length y0) (.slice x1 aC.length y1) aC), .slice a7 (ln+s2.length) c7,s1++s2, .slice h2 aV.length j2,aV⟩/\∀x∈(Aw.mk (Ah.mk mk aG aF (.slice x0 aF.length y0) (.slice x1 aC.length y1) aC) (.slice a7 (ln+s2.length) c7) (s1++s2) (.slice h2 aV.length j2) aV).vals,x.ownBlock≠some B):=by
           intro w7 a7 c7 he hg hat;have hll:=fG.out;rw[hll] at hg hat he ⊢;have hj:=hP.join (lo:=V1.heap.size) jY vZ eF (by rw[qG];exact A4d _) (by rw[<-qG];exact hb6.size) he hg hat;refine⟨hj.1,λx hx e=>?_⟩;rcases hj.2 x hx _ e with⟨_,y,hy,e2⟩ | h1
           ·exact dX y (HIA y hy) e2
           ·omega
          have ja:Hid (0<s2.length->∃p,f2=some p/\∀j u,(Gh s2)[j]?=some u->W6.cell? (p.add j)=some u):=by
           intro hz;obtain⟨gg,cc,hv,_,_,_,hcell⟩:=Az rO.ckr hz;simp only[Value.slice.injEq] at hv;exact⟨⟨gg,0,none⟩,hv.1,λj u hu=>by rw[Addr.add_lit];simpa using hcell j u hu⟩
          have uQ:w.heap.size+2<=W6.heap.size:=by have:=iT.1;have:=HB2.out;omega
          have hK6:=wF.1;have y8:=iT.1;obtain⟨_,⟨_,_,_,_,v4,_⟩,_⟩:=iT.out;obtain⟨_,⟨_,_,_,_,kk4,_⟩,_⟩:=wF.out;clear jI hb6 jY hP qG hmb bx0 bx1 zx zu zq zo hbf k20 k21 k22 k23 k24 k25 t0 t1 t2 t3 u0 u1 u2 u3 pF
          go_wp2_with (at_builtin;refine Ve rfl _ _ rfl (w.heap.size+2) f1 g1 ln s1 s2 fG f2 g2 rfl rfl rO.hca ja rO.hck rO.coils hL2 uQ ?_;intro a7 c7 w7 nR eY nX;have HM7:=hid (HPJ w7 a7 c7 nR eY nX);have jg:=hid eY;have pI:=hid (iT.grown eY dI.out);have HK7:=hid (wF.grown eY (λe=>by have h0:=HCL _ e;omega));obtain⟨_,⟨_,_,_,_,w74,w75⟩,tX⟩:=pI.out;obtain⟨_,⟨_,_,_,_,_,k75⟩,_⟩:=HK7.out;have u74:=tX 4 omz;have u75:=tX 5 omz;clear nR eY nX tX)
          go_roundg (Hq (aV.map Aw.arm))
          rotate_left
          ·exact jb.out
          ·have pU:=HM7.out
           refine⟨⟨(Ah.mk mk aG aF (.slice x0 aF.length y0) (.slice x1 aC.length y1) aC), .slice a7 (ln+s2.length) c7,s1++s2, .slice h2 aV.length j2,aV⟩,⟨HB2.out,B6.set5 (B6.set4 pI _) _,Ic.setO (Ic.setO pU.1 (a:=⟨B,4,none⟩) pU.2 _) (a:=⟨B,5,none⟩) pU.2 _,pU.2,B6.setO (B6.setO (vN.grown jg wO.out) hBne _) hBne _,?_⟩,?_,?_,?_,?_⟩
           ·exact Bz hle (Bz hle (pM.grown jg pM.size pY.out) _) _
           ·rw[Aw.arm_eq];simp only;rw[aH.out,A4m];exact HJ2.out
           ·rw[Aw.arm_eq];simp only;rw[aH.out,A4m];exact dF.out
           ·rw[Aw.arm_eq];simp only;rw[aH.out,A4m];exact ji.out
           ·rw[Aw.arm_eq];exact A4d _
        ·obtain rfl:ln=0:=by omega
         have HJ2:=hid (pG (.inl (by rw[List.length_eq_zero_iff.1 fG.out.symm];rfl)));clear pG dZ HE HT2 z0 z1 z2 z3 z4 z5 y0 y1 y2 y3 y4 y5 oQ;go_upto_region 9 with fail
         have fH:=hid cZ.out;have kH:=hid rE.out;have iU:=hid iC.out;have wY:=hid (iV wr (Below.refl _ _));have oZ:=hid mG.out;clear mG iV;obtain⟨V1,hV1⟩:∃V1,V1=wr.alloc (.cells #[.int .i64 k2, .int .i64 o2, .slice a2 d2.length c2, .slice b2 n2.length e2, .slice f2 s2.length g2, .slice h2 aV.length j2] 55):=⟨_,rfl⟩
         have lU:Below wr.heap.size wr V1:=by rw[hV1];exact Aa _ _
         have yR:V1.heap.size=wr.heap.size+1:=by rw[hV1];simp
         have di:=hid yR;have jd:Hid (B6 V1 wr.heap.size (.int .i64 k2) (.int .i64 o2) (.slice a2 d2.length c2) (.slice b2 n2.length e2) (.slice f2 s2.length g2) (.slice h2 aV.length j2)):=by rw[hV1];exact B6.new _ _ _ _ _ _ _ _
         have kR:=hid (fH.at lU);have vO:=hid (kH.at lU);have wW:=hid (Bd iU lU);have wZ:=hid (wY.below lU);have pF:=hid (oZ V1 lU);have y7:=Nat.ne_of_lt fH.1;have hl1:=kR.1;have hl2:wr.heap.size<V1.heap.size:=omz
         clear yR;go_upto_region 10 with fail
         rw[<-hV1];clear hV1 oZ;obtain⟨_,⟨k20,k21,k22,k23,k24,k25⟩,_⟩:=jd.out;obtain⟨_,⟨bx0,bx1,zx,zu,zq,zo⟩,hbf⟩:=kR.out;go_upto_region 11 with(go_at_call 64;refine pF.mono ?_;rintro e w5 ⟨⟨mk,aG,aF,x0,y0,x1,y1,aC,rfl,hmo,hmn,hvs⟩,hb5⟩;have aJ:=hid hmo;have aH:=hid hmn;have eF:=hid hvs;have fJ:=hid (kR.at hb5);have jc:=hid (jd.at hb5);obtain⟨gI,⟨t0,t1,t2,t3,_,_⟩,tf⟩:=fJ.out;have u0:=tf 0 omz;have u1:=tf 1 omz;have u2:=tf 2 omz;have u3:=tf 3 omz;clear hmo hmn hvs tf)
         obtain⟨W6,jI⟩:∃W6,W6=((((w5.setCell ⟨B,0,none⟩ (.int .i64 mk)).setCell ⟨B,1,none⟩ (.int .i64 aG)).setCell ⟨B,2,none⟩ (.slice x0 aF.length y0)).setCell ⟨B,3,none⟩ (.slice x1 aC.length y1)):=⟨_,rfl⟩
         rw[<-jI];have iT:Hid (B6 W6 B (.int .i64 mk) (.int .i64 aG) (.slice x0 aF.length y0) (.slice x1 aC.length y1) (.slice f1 0 g1) (.slice (some ⟨g,0,none⟩) 1 j1)):=by rw[jI];exact fJ.setN
         have wF:Hid (B6 W6 wr.heap.size (.int .i64 k2) (.int .i64 o2) (.slice a2 d2.length c2) (.slice b2 n2.length e2) (.slice f2 s2.length g2) (.slice h2 aV.length j2)):=by rw[jI];exact jc.set4O (Ne.symm y7)
         have vN:Hid (B6 W6 (w.heap.size+1) (.int .i64 0) (.int .i64 0) (.slice none 0 0) (.slice none 0 0) (.slice none 0 0) (.slice none 0 0)):=by rw[jI];exact(vO.at hb5).set4O hBne
         have hle:w.heap.size<=B:=by have:=HB2.out;omega
         have pM:Hid (Below w.heap.size w W6):=by rw[jI];exact Bz hle (Bz hle (Bz hle (Bz hle (Bd wW hb5) _) _) _) _
         have hmb:∀x∈(Ah.mk mk aG aF (.slice x0 aF.length y0) (.slice x1 aC.length y1) aC).vals,x.ownBlock≠some B:=by
          intro x hx e;rcases eF x hx with h | h
          ·exact dX x (eG x h) e
          ·have:=h _ e;omega
         have vZ:Hid (Ik W6 (w.heap.size+2) (Ah.mk mk aG aF (.slice x0 aF.length y0) (.slice x1 aC.length y1) aC)):=by rw[jI];exact Ik.setO4 aJ hmb
         have hb6:Below V1.heap.size ((((V1.setCell ⟨B,0,none⟩ (.int .i64 mk)).setCell ⟨B,1,none⟩ (.int .i64 aG)).setCell ⟨B,2,none⟩ (.slice x0 aF.length y0)).setCell ⟨B,3,none⟩ (.slice x1 aC.length y1)) W6:=by rw[jI];exact Aed hb5
         have qG:(((((V1.setCell ⟨B,0,none⟩ (.int .i64 mk)).setCell ⟨B,1,none⟩ (.int .i64 aG)).setCell ⟨B,2,none⟩ (.slice x0 aF.length y0)).setCell ⟨B,3,none⟩ (.slice x1 aC.length y1))).heap.size=V1.heap.size:=spz
         have hP:Parts ((((V1.setCell ⟨B,0,none⟩ (.int .i64 mk)).setCell ⟨B,1,none⟩ (.int .i64 aG)).setCell ⟨B,2,none⟩ (.slice x0 aF.length y0)).setCell ⟨B,3,none⟩ (.slice x1 aC.length y1)) (w.heap.size+2) (Ah.mk k1 o1 d1 (.slice a1 d1.length c1) (.slice b1 n1.length e1) n1) (Ah.mk k2 o2 d2 (.slice a2 d2.length c2) (.slice b2 n2.length e2) n2) (.slice f1 s1.length g1) s1 (.slice f2 s2.length g2) s2 (.slice h2 aV.length j2) aV:=(Ic.setN wZ dX.out).parts;have jY:Below (((((V1.setCell ⟨B,0,none⟩ (.int .i64 mk)).setCell ⟨B,1,none⟩ (.int .i64 aG)).setCell ⟨B,2,none⟩ (.slice x0 aF.length y0)).setCell ⟨B,3,none⟩ (.slice x1 aC.length y1))).heap.size ((((V1.setCell ⟨B,0,none⟩ (.int .i64 mk)).setCell ⟨B,1,none⟩ (.int .i64 aG)).setCell ⟨B,2,none⟩ (.slice x0 aF.length y0)).setCell ⟨B,3,none⟩ (.slice x1 aC.length y1)) W6:=by rw[qG];exact hb6
         have rO:=hid (hP.below jY);have HPJ:Hid (∀w7 a7 c7,Pg w7 (w.heap.size+2) (.slice a7 (0+s2.length) c7) (s1++s2)->W6.grownBy w7 (Value.slice f1 0 g1).ownBlock->((Value.slice a7 (0+s2.length) c7).ownBlock=(Value.slice f1 0 g1).ownBlock\/(Value.slice a7 (0+s2.length) c7).ownBlock=some W6.heap.size)->Ic w7 (w.heap.size+2) ⟨(Ah.mk mk aG aF (.slice x0 aF.length y0) (.slice x1 aC.length y1) aC), .slice a7 (0+s2.length) c7,s1++s2, .slice h2 aV.length j2,aV⟩/\∀x∈(Aw.mk (Ah.mk mk aG aF (.slice x0 aF.length y0) (.slice x1 aC.length y1) aC) (.slice a7 (0+s2.length) c7) (s1++s2) (.slice h2 aV.length j2) aV).vals,x.ownBlock≠some B):=by
          intro w7 a7 c7 he hg hat;have hll:=fG.out;rw[hll] at hg hat he ⊢;have hj:=hP.join (lo:=V1.heap.size) jY vZ eF (by rw[qG];exact A4d _) (by rw[<-qG];exact hb6.size) he hg hat;refine⟨hj.1,λx hx e=>?_⟩;rcases hj.2 x hx _ e with⟨_,y,hy,e2⟩ | h1
          ·exact dX y (HIA y hy) e2
          ·omega
         have ja:Hid (0<s2.length->∃p,f2=some p/\∀j u,(Gh s2)[j]?=some u->W6.cell? (p.add j)=some u):=by
          intro hz;obtain⟨gg,cc,hv,_,_,_,hcell⟩:=Az rO.ckr hz;simp only[Value.slice.injEq] at hv;exact⟨⟨gg,0,none⟩,hv.1,λj u hu=>by rw[Addr.add_lit];simpa using hcell j u hu⟩
         have uQ:w.heap.size+2<=W6.heap.size:=by have:=iT.1;have:=HB2.out;omega
         have hK6:=wF.1;have y8:=iT.1;obtain⟨_,⟨_,_,_,_,v4,_⟩,_⟩:=iT.out;obtain⟨_,⟨_,_,_,_,kk4,_⟩,_⟩:=wF.out;clear jI hb6 jY hP qG hmb bx0 bx1 zx zu zq zo hbf k20 k21 k22 k23 k24 k25 t0 t1 t2 t3 u0 u1 u2 u3 pF
         go_wp2_with (at_builtin;refine Ve rfl _ _ rfl (w.heap.size+2) f1 g1 0 s1 s2 fG f2 g2 rfl rfl rO.hca ja rO.hck rO.coils hL2 uQ ?_;intro a7 c7 w7 nR eY nX;have HM7:=hid (HPJ w7 a7 c7 nR eY nX);have jg:=hid eY;have pI:=hid (iT.grown eY dI.out);have HK7:=hid (wF.grown eY (λe=>by have h0:=HCL _ e;omega));obtain⟨_,⟨_,_,_,_,w74,w75⟩,tX⟩:=pI.out;obtain⟨_,⟨_,_,_,_,_,k75⟩,_⟩:=HK7.out;have u74:=tX 4 omz;have u75:=tX 5 omz;clear nR eY nX tX)
         go_roundg (Hq (aV.map Aw.arm))
         rotate_left
         ·exact jb.out
         ·have pU:=HM7.out
          simp only[A4h] at pU;refine⟨⟨(Ah.mk mk aG aF (.slice x0 aF.length y0) (.slice x1 aC.length y1) aC), .slice a7 s2.length c7,s1++s2, .slice h2 aV.length j2,aV⟩,⟨HB2.out,B6.set5 (B6.set4 pI _) _,Ic.setO (Ic.setO pU.1 (a:=⟨B,4,none⟩) pU.2 _) (a:=⟨B,5,none⟩) pU.2 _,pU.2,B6.setO (B6.setO (vN.grown jg wO.out) hBne _) hBne _,?_⟩,?_,?_,?_,?_⟩
          ·exact Bz hle (Bz hle (pM.grown jg pM.size pY.out) _) _
          ·rw[Aw.arm_eq];simp only;rw[aH.out,A4m];exact HJ2.out
          ·rw[Aw.arm_eq];simp only;rw[aH.out,A4m];exact dF.out
          ·rw[Aw.arm_eq];simp only;rw[aH.out,A4m];exact ji.out
          ·rw[Aw.arm_eq];exact A4d _
       ·have hkb:((bG.length:Int)==1)=false:=by rw[A5a];omega
        have hkc:¬((bG.length:Int)=1):=omz
        have HST:=hid (λkid (e:(bG.map Aw.arm)=[kid])=>hk (by have:=congrArg List.length e;simpa using this));clear hk dZ
        go_wp2
        refine bodyPost_ret (v:=.agg #[.int .i64 k1, .int .i64 o1, .slice a1 d1.length c1, .slice b1 n1.length e1, .slice f1 s1.length g1, .slice h1 bG.length j1]) (by simp[results,Tryz.results37,go_sem,z0,z1,z2,z3,z4,z5]) rfl ⟨⟨k1,o1,d1,a1,c1,n1,b1,e1,s1,f1,g1,bG,h1,j1,rfl,?_,?_⟩,?_⟩
        ·exact Ic.le (Ic.setO6 (base:=w.heap.size+2) dY (λx hx e=>by have:=((dY.out).1.lt _ x hx _ e).1;omega)) omz
        ·rw[<-wG.out]
         refine(Qn _ ?_).symm;intro kid e _;rw[Aw.arm_eq] at e;exact HST kid e
        ·exact zv0
end Go.Proofs.YtbfljjcnbbmoaaaGreatDoor
