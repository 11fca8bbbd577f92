import Derived.Test.YtbfljjcnbbmoaaaGreatDoorZ9
import Derived.Test.YtbfljjcnbbmoaaaGreatDoorGu
import Derived.Deep.LoopGhost
import Derived.Deep.RegionHeld3
namespace Go.Proofs.YtbfljjcnbbmoaaaGreatDoor
open Stil
open Go.RowKit Go.Sort Go.BigFrame
theorem Afx {ops:Array Oper} {o:Oper} {a:Act} {w:World} {K:Act->World->Prop} {Q:Exit->Act->World->Prop} {E:Prop}
  (hg:o.guard=none) (s x:Operand) (hop:o.op=.call {callee:=.builtin .append,args:=#[s,x],argTypes:=#[26,26]})
  (base:Nat) (ra:Option Addr) (rc:Nat) (ms ks:List Au) (ad:Option Addr) (c:Nat) (hs:a.eval s=.slice ra ms.length rc) (hx:a.eval x=.slice ad ks.length c)
  (hrow:Na w base (.slice ra ms.length rc) ms) (hxs:0<ks.length->∃p,ad=some p/\∀j u,(Fj ks)[j]?=some u->w.cell? (p.add j)=some u)
  (hk:∀m∈ks,AOk w base m) (hp:(Value.slice ra ms.length rc::(Fp ms++Fp ks)).Pairwise Aside) (hl:ms.length+ks.length<=1000000) (hbase:base<=w.heap.size)
  (hK:∀a' c' w',Na w' base (.slice a' (ms.length+ks.length) c') (ms++ks)->w.grownBy w' (Value.slice ra ms.length rc).ownBlock->((Value.slice a' (ms.length+ks.length) c').ownBlock=(Value.slice ra ms.length rc).ownBlock\/(Value.slice a' (ms.length+ks.length) c').ownBlock=some w.heap.size)->K (a.put o.dst (.slice a' (ms.length+ks.length) c')) w'):
  if Region.wanted o (yielded ops a.tmps)=true then Oper.wp Tryz.prog o a w K Q else E:=by
 obtain⟨i0,hi,hz0,hz1,hz2⟩:=info_parts Agb;by_cases hd:ks.length=0
 ·have hn:=List.length_eq_zero_iff.1 hd
  subst hn;have hw:Region.wanted o (yielded ops a.tmps)=true:=by simp[Region.wanted,hg]
  rw[if_pos hw];have hcap:ms.length<=rc:=by
   rcases hrow.1.2 with⟨h0,h1⟩ | ⟨g,c',cur,h0,_,_,hnc,_⟩
   ·rw[h1];exact Nat.zero_le _
   ·simp only[Value.slice.injEq] at h0
    rw[h0.2.2];exact hnc
  have hk2:=hK ra rc w (by simpa using hrow) (Ac0 _ _) (.inl (by simp));simp only[A4f,Nat.add_zero] at hk2 hx;unfold Oper.wp execOp;cases ad
  ·have e:Sem.run Tryz.prog (Builtin.append_ #[26,26] o.type #[.slice ra ms.length rc, .slice none 0 c]) w=.ok (.slice ra ms.length rc) w:=by cases ra<;>simp[Builtin.append_,go_sem,hcap]
   simp only[hop,resolve,invoke,builtin,Sem.run_bind,Sem.run_pure,Result.andThen_ok,List.map_toArray,A4v,List.map_nil,hs,hx,e];exact hk2
  ·rename_i t1
   have e:Sem.run Tryz.prog (Builtin.append_ #[26,26] o.type #[.slice ra ms.length rc, .slice (some t1) 0 c]) w=.ok (.slice ra ms.length rc) w:=by cases ra<;>simp[Builtin.append_,go_sem,hcap]
   simp only[hop,resolve,invoke,builtin,Sem.run_bind,Sem.run_pure,Result.andThen_ok,List.map_toArray,A4v,List.map_nil,hs,hx,e];exact hk2
 ·obtain⟨p,rfl,hcs⟩:=hxs (by omega)
  refine Gu hg s x _ hop base 55 i0 _ 6 112 Tryz.underlying26 hi hz0 hz1 hz2 rfl (by decide) _ _ (Fj ms) hs hrow.1 _ _ _ (Fj ks) hx (W9 ks) hcs (Ado hk) (by unfold maxLen;omega) (by omega) hbase ?_;intro v' w' h1 h2 h3;obtain⟨a6,c6,hv6⟩:=Af h1;subst hv6;exact hK a6 c6 w' (hrow.add hk hp h1 h2 h3) h2 h3
theorem An9 {x y y':Value} {n:Nat} (h:Aside x y) (hx:∀q,x.ownBlock=some q->q<n) (hat:y'.ownBlock=y.ownBlock\/y'.ownBlock=some n):Aside x y':=by
 rcases hat with e | e
 ·rcases h with h0 | h0
  ·exact .inl h0
  ·exact .inr (by rw[e];exact h0)
 ·by_cases e0:x.ownBlock=none
  ·exact .inl e0
  ·refine .inr (λe2=>?_)
   rw[e] at e2;have:=hx _ e2
   omega
theorem Hy.addKid {w1 w6:World} {base:Nat} {m k:Au} {kv':Value} (h:Hy w1 base m) (hk:∀x∈k.vals,∀y∈m.vals,Aside x y) (hr:Na w6 base kv' (m.kids++[k])) (hg:w1.grownBy w6 m.kv.ownBlock) (hat:kv'.ownBlock=m.kv.ownBlock\/kv'.ownBlock=some w1.heap.size):
  Hy w6 base ⟨m.net,m.cv,m.coils,kv',m.kids++[k]⟩/\∀x∈(Au.mk m.net m.cv m.coils kv' (m.kids++[k])).vals,x∈m.vals\/x∈k.vals\/x=kv':=by
 obtain⟨h1,hp⟩:=h;have hlt:=λx hx q hq=>(h1.lt m x hx q hq).2
 obtain⟨g1,⟨g2,g3⟩,_,_⟩:=(G8 _ _ _).1 h1;have hv:(Au.mk m.net m.cv m.coils kv' (m.kids++[k])).vals=m.net.vals++((m.cv::Et m.coils)++(kv'::(Fp m.kids++k.vals))):=by rw[Au.vals_eq];simp only;rw[Rf,L8]
 have hm:m.vals=m.net.vals++((m.cv::Et m.coils)++(m.kv::Fp m.kids)):=Au.vals_eq _;have mN:∀x∈m.net.vals,x∈m.vals:=λx hx=>by rw[hm];exact A4o _ hx
 have mC:∀x∈m.cv::Et m.coils,x∈m.vals:=λx hx=>by rw[hm];exact A4l _ (A4o _ hx)
 have mK:∀x∈Fp m.kids,x∈m.vals:=λx hx=>by rw[hm];exact A4l _ (A4l _ (A4h _ hx))
 rw[hm] at hp;obtain⟨pN,pR,pNR⟩:=List.pairwise_append.1 hp;obtain⟨pC,_,pCK⟩:=List.pairwise_append.1 pR;have nk:=λx hx=>pNR x hx _ (A4l _ (List.mem_cons_self ..))
 have ck:=λx hx=>pCK x hx _ (List.mem_cons_self ..)
 refine⟨⟨(G8 _ _ _).2 ⟨g1.kept hg nk,⟨g2.kept hg (ck _ (List.mem_cons_self ..)),λx hx=>(g3 x hx).kept hg (ck _ (A4h _ (Iy.2 ⟨x,hx,rfl⟩)))⟩,hr.1,hr.2.1⟩,?_⟩,?_⟩
 ·rw[hv]
  have hr2:=hr.2.2;rw[Rf,L8] at hr2;refine List.pairwise_append.2 ⟨pN,List.pairwise_append.2 ⟨pC,hr2,λx hx y hy=>?_⟩,λx hx y hy=>?_⟩
  ·rcases List.mem_cons.1 hy with rfl | hy
   ·exact An9 (ck x hx) (hlt x (mC x hx)) hat
   rcases List.mem_append.1 hy with hy | hy
   ·exact pCK x hx y (A4h _ hy)
   ·exact(hk y hy x (mC x hx)).symm
  ·rcases List.mem_append.1 hy with hy | hy
   ·exact pNR x hx y (A4o _ hy)
   rcases List.mem_cons.1 hy with rfl | hy
   ·exact An9 (nk x hx) (hlt x (mN x hx)) hat
   rcases List.mem_append.1 hy with hy | hy
   ·exact pNR x hx y (A4l _ (A4h _ hy))
   ·exact(hk y hy x (mN x hx)).symm
 ·intro x hx
  rw[hv] at hx;rcases List.mem_append.1 hx with hx | hx
  ·exact .inl (mN x hx)
  rcases List.mem_append.1 hx with hx | hx
  ·exact .inl (mC x hx)
  rcases List.mem_cons.1 hx with rfl | hx
  ·exact .inr (.inr rfl)
  rcases List.mem_append.1 hx with hx | hx
  ·exact .inl (mK x hx)
  ·exact .inr (.inl hx)
theorem Hy.krow {w:World} {base:Nat} {m:Au} (h:Hy w base m):Na w base m.kv m.kids:=by
 obtain⟨h1,hp⟩:=h;obtain⟨_,_,h4,h5⟩:=(G8 _ _ _).1 h1;rw[Au.vals_eq] at hp;exact⟨h4,h5,(List.pairwise_append.1 (List.pairwise_append.1 hp).2.1).2.1⟩
theorem B6.al {w:World} {b:Nat} {v0 v1 v2 v3 v4 v5:Value} (h:B6 w b v0 v1 v2 v3 v4 v5) (o:Obj):B6 (w.alloc o) b v0 v1 v2 v3 v4 v5:=h.at (Aa _ _)
theorem Avu {W:World} {u0 u1 u2 u3 u4 u5:Value} {t:TypeId}:∀j u,[u0,u1,u2,u3,u4,u5][j]?=some u->(W.alloc (.cells #[u0,u1,u2,u3,u4,u5] t)).cell? ((⟨W.heap.size,0,none⟩:Addr).add j)=some u:=by
 intro j u h;rw[Addr.add_lit]
 match j,h with
 | 0,h=>simp at h;subst h;simp[go_sem]
 | 1,h=>simp at h;subst h;simp[go_sem]
 | 2,h=>simp at h;subst h;simp[go_sem]
 | 3,h=>simp at h;subst h;simp[go_sem]
 | 4,h=>simp at h;subst h;simp[go_sem]
 | 5,h=>simp at h;subst h;simp[go_sem]
 | j+6,h=>simp at h
theorem Us {ops:Array Oper} {rest:List Oper} {o:Oper} {a:Act} {w:World} {Q:Exit->Act->World->Prop}
  (hg:o.guard=none) (s x:Operand) (hop:o.op=.call {callee:=.builtin .append,args:=#[s,x],argTypes:=#[53,53]})
  (base:Nat) (ra:Option Addr) (rc n:Nat) (ms ks:List Cm) (hn:n=ms.length) (ad:Option Addr) (c:Nat) (hs:a.eval s=.slice ra n rc) (hx:a.eval x=.slice ad ks.length c)
  (hrow:Ou w base (.slice ra ms.length rc) ms) (hxs:0<ks.length->∃p,ad=some p/\∀j u,(Fq ks)[j]?=some u->w.cell? (p.add j)=some u)
  (hk:∀m∈ks,EOk w base m) (hp:(Value.slice ra ms.length rc::(Et ms++Et ks)).Pairwise Aside) (hl:ms.length+ks.length<=1000000) (hbase:base<=w.heap.size)
  (h:∀a' c' w',Ou w' base (.slice a' (n+ks.length) c') (ms++ks)->w.grownBy w' (Value.slice ra n rc).ownBlock->((Value.slice a' (n+ks.length) c').ownBlock=(Value.slice ra n rc).ownBlock\/(Value.slice a' (n+ks.length) c').ownBlock=some w.heap.size)->wpList Tryz.prog ops Q rest (a.put o.dst (.slice a' (n+ks.length) c')) w'):
  wpList Tryz.prog ops Q (o::rest) a w:=by
 subst hn;refine wpList_plain hg λK hK=>?_
 have hw:Region.wanted o (yielded #[] a.tmps)=true:=by simp[Region.wanted,hg]
 have:=Xf (ops:=#[]) (K:=K) (Q:=Q) (E:=True) hg s x hop base ra rc ms ks ad c hs hx hrow hxs hk hp hl hbase (λa' c' w' h1 h2 h3=>hK _ _ (h a' c' w' h1 h2 h3))
 rwa [if_pos hw] at this
theorem Wx {n:Nat} {a b:World} (h:Below n a b) (p:Addr) (v:Value):Below n (a.setCell p v) (b.setCell p v):=by
 refine⟨h.os,h.tape,h.output,by simpa using h.size,λk hk=>?_⟩;have:=h.block k hk
 simp only[World.setCell,Array.getElem?_modify];split
 ·rw[this]
 ·exact this
theorem Adj {n c:Nat} {a b:World} {u0 u1 u2 u3:Value} (h:Below n a b):Below n ((((a.setCell ⟨c,0,none⟩ u0).setCell ⟨c,1,none⟩ u1).setCell ⟨c,2,none⟩ u2).setCell ⟨c,3,none⟩ u3) ((((b.setCell ⟨c,0,none⟩ u0).setCell ⟨c,1,none⟩ u1).setCell ⟨c,2,none⟩ u2).setCell ⟨c,3,none⟩ u3):=
 Wx (Wx (Wx (Wx h _ _) _ _) _ _) _ _
set_option maxHeartbeats 4000000 in
set_option maxRecDepth 100000 in
theorem A0c (a:Stil.Arm):C9 a->A7 a<=900000->Jh a->∀(av nv cv kv:Value) (w:World),Bg w av a.net.one.args->Dq w nv a.net.kids->Ef w cv a.coils->Dv w kv a.kids->Calls Tryz.prog 37 #[.agg #[.int .i64 a.net.kind, .int .i64 a.net.one.op,av,nv,cv,kv]] w λe w'=>Adt w' w.heap.size (Dc a) e/\Below w.heap.size w w':=by
 induction a using Fz with
 | h n cs kids ih=>
  intro hft hsz hrt av nv cv kv w hav hnv hcv hkv;obtain⟨hnf,hcl,hcf,hkl,hkf⟩:=(Ee _ _ _).1 hft;obtain⟨hnr,hkr⟩:=(Nr _ _ _).1 hrt;simp only at hav hnv hcv hkv;have hks:∀x∈kids,A7 x<=900000:=by
   intro x hx;have:A7 x<=Hr kids:=Ew A7 kids x hx;rw[Dp] at hsz;omega
  have hkn:kids.length<=999999:=by
   have h1:=Rz kids;rw[Dp] at hsz;omega
  have hcn:cs.length<=999999:=by
   rw[Dp] at hsz;omega
  have hns:Aq n=false->Aj n<=999999:=by
   intro h;rw[Dp] at hsz;have e:Stil.nsz n=Aj n:=if_neg (by rw[h];exact Bool.false_ne_true);omega
  have H1:=hid (λW h=>A0d cs cv W (hcv.below h) hcn hcf);have H2:=hid (λx hx=>ih x hx (hkf x hx) (hks x hx) (hkr x hx));have H3:=hid (λW h=>V5 n av nv W (hav.below h) (hnv.below h) hnf);have H4:Hid (Aq n=false->∀W,Below w.heap.size w W->Calls Tryz.prog 63 #[.agg #[.int .i64 n.kind, .int .i64 n.one.op,av,nv]] W λe w'=>L9 w' W.heap.size (Az n) e/\Below W.heap.size W w'):=λhn W h=>Ako n hnf (hnr.resolve_left (by rw[hn];exact Bool.false_ne_true)) (by have:=hns hn;omega) av nv W (hav.below h) (hnv.below h)
  have HAK:=hid (λW (h:Below w.heap.size w W)=>hkv.below h);have HJ:=hid (Kz n cs kids);have HM:Hid (Xa 900000 ⟨Qq n,cs,kids.map Dc⟩):=by
   have:=Ag9 hft hsz (λx hx=>V9 x (hkf x hx) (hks x hx))
   exact⟨this.1,A4p this.2 hsz⟩
  have HFI:Hid (Gg ⟨Qq n,cs,kids.map Dc⟩):=(Gt _ _ _).2 ⟨Pm hnr,λx hx=>by obtain⟨y,hy,rfl⟩:=List.mem_map.1 hx;exact Qx y (hkr y hy)⟩;have HKN:=hid hkn;obtain⟨T,hT⟩:∃T,T=Dc ⟨n,cs,kids⟩:=⟨_,rfl⟩
  rw[<-hT] at HJ ⊢;obtain⟨p0,r0,rfl,hz0⟩:=hav;obtain⟨p1,r1,rfl,hz1⟩:=hnv;obtain⟨p2,r2,rfl,hz2⟩:=hcv;obtain⟨p3,r3,rfl,hz3⟩:=hkv;clear hz0 hz1 hz2 hz3 ih hft hsz hnf hcl hcf hkl hkf hks hcn hns hT hrt hnr hkr;go_enter Tryz.func37,Tryz.ntmps37;go_upto_region 1 with fail
  obtain⟨W,hW⟩:∃W,W=(w.alloc (.cells #[.int .i64 n.kind, .int .i64 n.one.op, .slice p0 n.one.args.length r0, .slice p1 n.kids.length r1, .slice p2 cs.length r2, .slice p3 kids.length r3] 55)).alloc (.cells #[.int .i64 0, .int .i64 0, .slice none 0 0, .slice none 0 0, .slice none 0 0, .slice none 0 0] 55):=⟨_,rfl⟩
  rw[<-hW];have hA:B6 W w.heap.size (.int .i64 n.kind) (.int .i64 n.one.op) (.slice p0 n.one.args.length r0) (.slice p1 n.kids.length r1) (.slice p2 cs.length r2) (.slice p3 kids.length r3):=by rw[hW];exact(B6.new w _ _ _ _ _ _ _).at (Aa _ _)
  have hZ:B6 W (w.heap.size+1) (.int .i64 0) (.int .i64 0) (.slice none 0 0) (.slice none 0 0) (.slice none 0 0) (.slice none 0 0):=by rw[hW];have:=B6.new (w.alloc (.cells #[.int .i64 n.kind, .int .i64 n.one.op, .slice p0 n.one.args.length r0, .slice p1 n.kids.length r1, .slice p2 cs.length r2, .slice p3 kids.length r3] 55)) (.int .i64 0) (.int .i64 0) (.slice none 0 0) (.slice none 0 0) (.slice none 0 0) (.slice none 0 0) 55;simpa using this
  have hsW:W.heap.size=w.heap.size+2:=by rw[hW];simp
  have hBW:Below w.heap.size w W:=by rw[hW];exact Bl (Aa _ _) _
  clear hW;have HA:=hid hA;have HZ:=hid hZ;have HSW:=hid hsW;have hl0:w.heap.size<W.heap.size:=by omega
  obtain⟨_,⟨_,_,_,_,p4,_⟩,_⟩:=hA;clear hZ hsW;go_cut [3] (λs3 wc=>∃(B:Nat) (m:Au),s3=.pointer (some ⟨B,0,none⟩)/\NSt w wc B m/\m.arm=⟨Stil.none0,cs,[]⟩/\B6 wc w.heap.size (.int .i64 n.kind) (.int .i64 n.one.op) (.slice p0 n.one.args.length r0) (.slice p1 n.kids.length r1) (.slice p2 cs.length r2) (.slice p3 kids.length r3))
  case first=>
   go_wp2_with (go_at_call 61;refine(H1.out _ (by exact hBW)).mono ?_;rintro e w1 ⟨ra,rc,ems,rfl,hmn,hmr,hb1⟩;have hC1:=hb1;have hB1:=hBW.trans (hC1.mono hBW.size);have hz1:=A4c hl0 hC1.size;have hS1:=(hC1.cell (p:=⟨w.heap.size,4,none⟩) hl0).trans p4;have HEN:=hid hmn;have HER:Hid (Ou w1 _ (.slice ra ems.length rc) ems):=hmr;have HB1:Hid (Below _ _ w1):=hb1;clear hmn hmr)
   go_meet;have hs0:=HSW.out;obtain⟨ho,hv⟩:=Zm (base:=w.heap.size+2) (lA:=w1.heap.size) HER.out (Na.nil w1 w1.heap.size) (Below.refl _ _) (by show _<=W.heap.size;omega) (A4i _) (by have:=hC1.size;omega);have hsz:=hC1.size;refine⟨w1.heap.size,⟨Oe, .slice ra ems.length rc,ems, .slice none 0 0,[]⟩,rfl,⟨by omega,B6.new _ _ _ _ _ _ _ _,ho.below (Aa _ _),λx hx e=>by(have h:=hv x hx _ e;omega),(HZ.out.at hC1).at (Aa _ _),Bl hB1 _⟩,?_,(HA.out.at hC1).at (Aa _ _)⟩;rw[Au.arm_eq];simp only;rw[HEN.out,We];rfl
  case rest=>
   clear p4 hBW hl0 HSW HA HZ;obtain⟨B,m,rfl,hst,hma,hA⟩:=hcut;have HST:=hid hst;have HMA:=hid hma;have HA:=hid hA;clear hst hma H1;obtain⟨hA0,⟨p0',p1',p2',p3',p4',p5'⟩,hAf⟩:=hA;clear hAf;obtain⟨hB2,hbx,hao,hno,hzb,hbw⟩:=HST.out;obtain⟨t,ht⟩:∃t,t=Aq n:=⟨_,rfl⟩
   have HT:=hid ht;have HN1:Hid (∀W,Below wc.heap.size wc W->Calls Tryz.prog 62 #[.agg #[.int .i64 n.kind, .int .i64 n.one.op, .slice p0 n.one.args.length r0, .slice p1 n.kids.length r1]] W λe w'=>e=.returned (.bool t)/\Below W.heap.size W w'):=by rw[ht];exact λW h=>H3.out W (hbw.trans (h.mono hbw.size))
   have HN2:Hid (t=false->∀W,Below wc.heap.size wc W->Calls Tryz.prog 63 #[.agg #[.int .i64 n.kind, .int .i64 n.one.op, .slice p0 n.one.args.length r0, .slice p1 n.kids.length r1]] W λe w'=>L9 w' W.heap.size (Az n) e/\Below W.heap.size W w'):=by rw[ht];exact λhn W h=>H4.out hn W (hbw.trans (h.mono hbw.size))
   clear ht H3 H4 hB2 hbx hao hno hzb hbw;go_upto_if 13 with(go_at_call 62;refine(HN1.out _ blA).mono ?_;rintro e w3 ⟨rfl,hb3⟩;obtain⟨hc3,hf3⟩:=Dl hb3;have hza3:=A4c hA0 hb3.size;have q0:w3.cell? ⟨w.heap.size,0,none⟩=_:=(hc3 _ _ hA0).trans p0';have q1:w3.cell? ⟨w.heap.size,1,none⟩=_:=(hc3 _ _ hA0).trans p1';have q2:w3.cell? ⟨w.heap.size,2,none⟩=_:=(hc3 _ _ hA0).trans p2';have q3:w3.cell? ⟨w.heap.size,3,none⟩=_:=(hc3 _ _ hA0).trans p3';clear hc3 hf3)
   clear HN1;have HST3:Hid (NSt w w3 B m):=by
    obtain⟨hB2,hbx,hao,hno,hzb,hbw⟩:=HST.out;exact⟨hB2,hbx.at hb3,hao.below hb3,hno,hzb.at hb3,Cj hbw hb3⟩
   have HN3:=hid (λh=>HN2.out h w3 hb3);have HA4:=HA.out.at hb3;clear HST HA hA0 p0' p1' p2' p3' p4' p5' hb3 HN2;have HA3:=hid HA4;clear HA4;go_cut [] (λwd=>∃m:Au,NSt w wd B m/\m.arm=⟨Qq n,cs,[]⟩/\B6 wd w.heap.size (.int .i64 n.kind) (.int .i64 n.one.op) (.slice p0 n.one.args.length r0) (.slice p1 n.kids.length r1) (.slice p2 cs.length r2) (.slice p3 kids.length r3))
   case first=>
    cases t with
    | true=>
     have HNO:Hid (Qq n=n/\n=Stil.none0):=⟨if_pos HT.out.symm,Z5 HT.out.symm⟩
     clear HN3
     go_wp2
     go_meet;exact⟨m,HST3.out,by rw[HMA.out,HNO.out.1,HNO.out.2],HA3.out⟩
    | false=>
     have HNO:Hid (Qq n=Az n):=if_neg (by rw[<-HT.out];exact Bool.false_ne_true);have HN4:=hid (HN3.out rfl);clear HN3
     go_wp2_with (go_at_call 63;refine HN4.out.mono ?_;rintro e w4 ⟨⟨mk,mop,mds,s0,t0,s1,t1,mks,rfl,hmo,hmn⟩,hb4⟩;have HMO:=hid hmo;have HMN:=hid hmn;clear hmo hmn;have HBX4:Hid (A31 w4 B m):=B6.at HST3.out.2.1 hb4;obtain⟨hB0,⟨y0,y1,y2,y3,_,_⟩,hBf⟩:=HBX4.out;have f0:=hBf 0 (by omega);have f1:=hBf 1 (by omega);have f2:=hBf 2 (by omega);have f3:=hBf 3 (by omega);clear hBf)
     go_meet;obtain⟨hB2,hbx,hao,hno,hzb,hbw⟩:=HST3.out;have hle4:=hb4.size;have hsz:=hbw.size;have hBl:=hbx.1;have hN:Ib w4 (w.heap.size+2) ⟨mk,mop,mds, .slice s0 mds.length t0, .slice s1 mks.length t1,mks⟩:=HMO.out.le (by omega);have ho4:=Hy.setNet (hao.below hb4) hN (λx hx q hq=>(HMO.out.1.lt _ x hx q hq).1) (λx hx q hq=>(hao.1.lt _ x hx q hq).2);have hno4:∀x∈(Au.mk ⟨mk,mop,mds, .slice s0 mds.length t0, .slice s1 mks.length t1,mks⟩ m.cv m.coils m.kv m.kids).vals,x.ownBlock≠some B:=by
      intro x hx e;rw[Au.vals_eq] at hx;rcases List.mem_append.1 hx with hx | hx
      ·have:=(HMO.out.1.lt _ x hx _ e).1;omega
      ·exact hno x (by rw[Au.vals_eq];exact A4l _ hx) e
     refine⟨⟨⟨mk,mop,mds, .slice s0 mds.length t0, .slice s1 mks.length t1,mks⟩,m.cv,m.coils,m.kv,m.kids⟩,⟨hB2,B6.setN HBX4.out,Hy.setN ho4 hno4,hno4,B6.set4O (hzb.at hb4) (by omega),?_⟩,?_,B6.set4O (HA3.out.at hb4) (by omega)⟩
     ·have hbw4:=Cj hbw hb4
      have hle:w.heap.size<=B:=by omega
      exact Bv hle (Bv hle (Bv hle (Bv hle hbw4 _) _) _) _
     ·have e:=HMA.out
      rw[Au.arm_eq] at e ⊢;simp only[Stil.Arm.mk.injEq] at e ⊢;exact⟨by rw[HMN.out,HNO.out],e.2.1,e.2.2⟩
   case rest=>
    obtain⟨m2,hst,hma,hA⟩:=hcut;clear HMA HST3 HN3 q0 q1 q2 q3 HA3 hza3;have HST:=hid hst;have HMA:=hid hma;clear hst hma
    go_wp2
    go_loopw [4] (λi wr=>∃(j:Nat) (m:Au),j<=kids.length/\i=.int .i64 j/\NSt w wr B m/\m.arm=⟨Qq n,cs,(kids.take j).map Dc⟩/\B6 wr w.heap.size (.int .i64 n.kind) (.int .i64 n.one.op) (.slice p0 n.one.args.length r0) (.slice p1 n.kids.length r1) (.slice p2 cs.length r2) (.slice p3 kids.length r3)) (λi _=>kids.length - (intOf i).toNat)
    case atStart=>exact⟨0,m2,by omega,rfl,HST.out,by rw[HMA.out];rfl,hA⟩
    case round=>
     clear HST HMA hA HT;obtain⟨j,m3,hj,rfl,hst,hma,hA⟩:=hrel;obtain⟨hB2,hbx,hao,hno,hzb,hbw⟩:=hst;obtain⟨k1,o1,d1,a1,c1,b1,e1,n1,f1,g1,s1,h1,j1,ks1,rfl⟩:=Vl m3 hao.1;have hkl:ks1.length=j:=by
      rw[Au.arm_eq] at hma;have h2:=congrArg (λa:Stil.Arm=>a.kids.length) hma;simp only[A4t,List.length_take] at h2;omega
     have hbx':B6 wr B (.int .i64 k1) (.int .i64 o1) (.slice a1 d1.length c1) (.slice b1 n1.length e1) (.slice f1 s1.length g1) (.slice h1 ks1.length j1):=hbx;have HBX:=hid hbx';have HAO:=hid hao;have HNO:=hid hno;have HZB:=hid hzb;have HBW:=hid hbw;have HMA:=hid hma;have HB2:=hid hB2;have HA:=hid hA;have HB3:Hid (w.heap.size+2<=wr.heap.size):=by have:=hbx'.1;show _<=_;omega
     by_cases hlt:j<kids.length
     ·have hat:=HAK.out wr hbw
      obtain⟨pa,pc,hpe,hpc⟩:=hat;simp only[Value.slice.injEq,true_and] at hpe;obtain⟨rfl,rfl⟩:=hpe;obtain⟨b,o,rfl,hbl,hn⟩:=hpc j hlt;obtain⟨hnn,cv',kk',x4,x5,hcv,hkv⟩:=hn.open;obtain⟨x0,x1,av',nv',x2,x3,hav,hnv⟩:=hnn.open;have HI:=hid (λW h=>H2.out kids[j] (A4k hlt) av' nv' cv' kk' W (hav.below h) (hnv.below h) (hcv.below h) (hkv.below h));have HTS:Hid ((kids.take (j+1)).map Dc=(kids.take j).map Dc++[Dc kids[j]]):=by show _=_;rw[A4w hlt,A4r];rfl
      obtain⟨x,hx⟩:∃x,x=kids[j]:=⟨_,rfl⟩
      rw[<-hx] at HI HTS x0 x1 hav hnv hcv hkv;obtain⟨q0,s0,rfl,_⟩:=hav;obtain⟨q1,s1',rfl,_⟩:=hnv;obtain⟨q2,s2',rfl,_⟩:=hcv;obtain⟨q3,s3',rfl,_⟩:=hkv;obtain⟨hBs,⟨_,_,_,_,_,y5⟩,hBf⟩:=hbx';obtain⟨hAs,⟨_,_,_,_,_,z5⟩,_⟩:=hA;have HF5:=hid (hBf 5 (by omega));have hl2:ks1.length+[(Au.mk ⟨k1,o1,d1, .slice a1 d1.length c1, .slice b1 n1.length e1,n1⟩ (.slice f1 s1.length g1) s1 (.slice h1 ks1.length j1) ks1)].length<=1000000:=by simp only[A5d];omega
      have hvm:Value.slice h1 ks1.length j1∈(Au.mk ⟨k1,o1,d1, .slice a1 d1.length c1, .slice b1 n1.length e1,n1⟩ (.slice f1 s1.length g1) s1 (.slice h1 ks1.length j1) ks1).vals:=by rw[Au.vals_eq];simp
      have HKB:=hid (hno _ hvm);have HKW:=hid (λq hq=>(hao.1.lt _ _ hvm q hq).1);have hj1:(0:Int)<=(j:Int):=by omega
      have hj2:(j:Int)<(kids.length:Int):=by omega
      clear hx hn hnn hpc hbx hao hno hzb hbw hma hB2 hBf hvm hkl;go_upto_region 7 with fail
      go_region_law (first | (refine Afx rfl _ _ rfl (w.heap.size+2) h1 j1 ks1 [(Au.mk ⟨mk,mop,mds, .slice xa mds.length ya, .slice xb mns.length yb,mns⟩ (.slice xc mcs.length yc) mcs (.slice xd mks.length yd) mks)] (some ⟨w5.heap.size,0,none⟩) 1 rfl rfl (((HAO.out.below hb5).below (Aa _ _)).krow) (λ_=>⟨_,rfl,by exact Avu⟩) (λm hm=>by rw[List.mem_singleton.1 hm];exact((HMO.out.1.le HB3.out).below (Aa _ _))) (HAO.out.krow.apart (w1:=w5) (b1:=wr.heap.size) (λm hm=>by rw[List.mem_singleton.1 hm];exact HMO.out.1) (A4i _) (by rw[L8];exact HMO.out.2)) hl2 (by have:=hb5.size;have:=HB3.out;simp;omega) ?_;intro a6 c6 w6 hmr6 hgr6 hat6;have HM6:Hid (Na w6 (w.heap.size+2) (.slice a6 (ks1.length+1) c6) (ks1++[(Au.mk ⟨mk,mop,mds, .slice xa mds.length ya, .slice xb mns.length yb,mns⟩ (.slice xc mcs.length yc) mcs (.slice xd mks.length yd) mks)])):=hmr6;have HG6:Hid ((w5.alloc (.cells #[.int .i64 mk, .int .i64 mop, .slice xa mds.length ya, .slice xb mns.length yb, .slice xc mcs.length yc, .slice xd mks.length yd] 55)).grownBy w6 (Value.slice h1 ks1.length j1).ownBlock):=hgr6;have HT6:Hid ((Value.slice a6 (ks1.length+1) c6).ownBlock=(Value.slice h1 ks1.length j1).ownBlock\/(Value.slice a6 (ks1.length+1) c6).ownBlock=some (w5.alloc (.cells #[.int .i64 mk, .int .i64 mop, .slice xa mds.length ya, .slice xb mns.length yb, .slice xc mcs.length yc, .slice xd mks.length yd] 55)).heap.size):=hat6;have hBa:B<(w5.alloc (.cells #[.int .i64 mk, .int .i64 mop, .slice xa mds.length ya, .slice xb mns.length yb, .slice xc mcs.length yc, .slice xd mks.length yd] 55)).heap.size:=(by simp;omega);have t5:=(Di hgr6 hBa HKB.out).trans ((Ed hBs5).trans y55);have u5:=(Gx hgr6 hBa HKB.out).trans (((Aa w5 (.cells #[.int .i64 mk, .int .i64 mop, .slice xa mds.length ya, .slice xb mns.length yb, .slice xc mcs.length yc, .slice xd mks.length yd] 55)).frozen (p:=⟨B,5,none⟩) hBs5).trans HU5.out);clear hmr6 hgr6 hat6 hBa) | (go_simp;go_at_call 37;refine(HI.out _ (by exact(Below.refl _ _).drew)).mono ?_;rintro e w5 ⟨⟨mk,mop,mds,xa,ya,mns,xb,yb,mcs,xc,yc,mks,xd,yd,rfl,hmo,hmn⟩,hb5'⟩;have hb5:=Cj (Below.refl _ _).drew hb5';have HMO:Hid (Hy w5 wr.heap.size (Au.mk ⟨mk,mop,mds, .slice xa mds.length ya, .slice xb mns.length yb,mns⟩ (.slice xc mcs.length yc) mcs (.slice xd mks.length yd) mks)):=hmo;have HMN:=hid hmn;have hBs5:=A4c hBs hb5.size;have y55:=(hb5.cell (p:=⟨B,5,none⟩) hBs).trans y5;have HU5:=hid ((hb5.frozen (p:=⟨B,5,none⟩) hBs).trans HF5.out);clear hmo hmn hb5'))
      all_goals
       go_wp2
       have hB0:=HB2.out;have hg:=HG6.out;have hadd:=Hy.addKid (m:=(Au.mk ⟨k1,o1,d1, .slice a1 d1.length c1, .slice b1 n1.length e1,n1⟩ (.slice f1 s1.length g1) s1 (.slice h1 ks1.length j1) ks1)) (k:=(Au.mk ⟨mk,mop,mds, .slice xa mds.length ya, .slice xb mns.length yb,mns⟩ (.slice xc mcs.length yc) mcs (.slice xd mks.length yd) mks)) (kv':=.slice a6 (ks1.length+1) c6) ((HAO.out.below hb5).below (Aa _ _)) (λx hx y hy=>(Eb (n:=wr.heap.size) (λq hq=>(HAO.out.1.lt _ y hy q hq).2) (λq hq=>(HMO.out.1.lt _ x hx q hq).1)).symm) HM6.out hg HT6.out;have hno6:∀x∈(Au.mk ⟨k1,o1,d1, .slice a1 d1.length c1, .slice b1 n1.length e1,n1⟩ (.slice f1 s1.length g1) s1 (.slice a6 (ks1.length+1) c6) (ks1++[(Au.mk ⟨mk,mop,mds, .slice xa mds.length ya, .slice xb mns.length yb,mns⟩ (.slice xc mcs.length yc) mcs (.slice xd mks.length yd) mks)])).vals,x.ownBlock≠some B:=by
        intro x hx e;rcases hadd.2 x hx with h | h | h
        ·exact HNO.out x h e
        ·have:=(HMO.out.1.lt _ x h _ e).1;omega
        ·rw[h] at e
         rcases HT6.out with h2 | h2
         ·rw[h2] at e;exact HKB.out e
         ·rw[h2] at e;cases e;simp at hBs5;omega
       refine⟨⟨j+1,(Au.mk ⟨k1,o1,d1, .slice a1 d1.length c1, .slice b1 n1.length e1,n1⟩ (.slice f1 s1.length g1) s1 (.slice a6 (ks1.length+1) c6) (ks1++[(Au.mk ⟨mk,mop,mds, .slice xa mds.length ya, .slice xb mns.length yb,mns⟩ (.slice xc mcs.length yc) mcs (.slice xd mks.length yd) mks)])),by omega,by go_num,⟨hB0,B6.set5 (B6.grown ((HBX.out.at hb5).al _) hg HKB.out) _,Hy.setO hadd.1 (a:=⟨B,5,none⟩) hno6 _,hno6,B6.setO (B6.grown ((HZB.out.at hb5).al _) hg (λe=>by have:=HKW.out _ e;omega)) (by omega) _,?_⟩,?_,B6.setO (B6.grown ((HA.out.at hb5).al _) hg (λe=>by have:=HKW.out _ e;omega)) (by omega) _⟩,by simp[intOf];omega⟩
       ·have hle:w.heap.size<=B:=by omega
        exact Bv hle ((Bl (Cj HBW.out hb5) _).grown hg (by have:=HBW.out.size;have:=hb5.size;simp;omega) (λk hk=>by have:=HKW.out k hk;omega)) _
       ·have e:=HMA.out
        rw[Au.arm_eq] at e ⊢;simp only[Stil.Arm.mk.injEq] at e ⊢;refine⟨e.1,e.2.1,?_⟩;rw[A4r,e.2.2,HTS.out,List.map_singleton,HMN.out]
     ·obtain rfl:j=kids.length:=by omega
      have hm4:=HMA.out;rw[List.take_length] at hm4;have HM4:=hid hm4;have HST4:Hid (NSt w wr B (Au.mk ⟨k1,o1,d1, .slice a1 d1.length c1, .slice b1 n1.length e1,n1⟩ (.slice f1 s1.length g1) s1 (.slice h1 ks1.length j1) ks1)):=⟨HB2.out,HBX.out,HAO.out,HNO.out,HZB.out,HBW.out⟩
      obtain⟨_,⟨_,_,_,_,_,z5⟩,_⟩:=hA;clear hm4 hbx hbx' hao hno hzb hbw hma HBX HAO HNO HZB HBW HMA HA HB3 H2 HAK hlt hkl hB2;obtain⟨wo,hwo⟩:∃wo:World,wo=wr:=⟨wr,rfl⟩
      subst hwo
      go_wp2
      go_loopg [] (Hr (kids.map Dc)) (λk wr=>∃m:Au,NSt w wr B m/\Stil.joined m.arm=T/\Xa 900000 m.arm/\Gg m.arm/\Hr m.arm.kids<=k)
      case atStart=>
       refine⟨(Au.mk ⟨k1,o1,d1, .slice a1 d1.length c1, .slice b1 n1.length e1,n1⟩ (.slice f1 s1.length g1) s1 (.slice h1 ks1.length j1) ks1),HST4.out,?_,?_,?_,?_⟩
       ·rw[HM4.out,HJ.out]
       ·rw[HM4.out];exact HM.out
       ·rw[HM4.out];exact HFI.out
       ·rw[HM4.out];exact A4i _
      case round=>
       clear HST4 HM4 HJ HM HFI HKN z5 k1 o1 d1 a1 c1 b1 e1 n1 f1 g1 s1 h1 j1 ks1 HB2;obtain⟨m3,hst,hjo,hmid,hfi,hgk⟩:=hrel;obtain⟨hB2,hbx,hao,hno,hzb,hbw⟩:=hst;obtain⟨k1,o1,d1,a1,c1,b1,e1,n1,f1,g1,s1,h1,j1,ks1,rfl⟩:=Vl m3 hao.1;have hbx':B6 wr B (.int .i64 k1) (.int .i64 o1) (.slice a1 d1.length c1) (.slice b1 n1.length e1) (.slice f1 s1.length g1) (.slice h1 ks1.length j1):=hbx;have HBX:=hid hbx';have HAO:=hid hao;have HNO:=hid hno;have HZB:=hid hzb;have HBW:=hid hbw;have HJO:=hid hjo;have HMI:=hid hmid;have HFN:=hid hfi;have HGK:=hid hgk;have HB2:=hid hB2;have hkl:ks1.length<=900000/\s1.length<=900000:=by
        have h0:=hmid.2;rw[Au.arm_eq,Dp] at h0;simp only[A4t] at h0;have h1:(ks1.map Au.arm).length<=Hr (ks1.map Au.arm):=Rz _;rw[A4t] at h1;omega
       obtain⟨hkl1,hkl2⟩:=hkl;obtain⟨hBs,⟨x0,x1,x2,x3,x4,x5⟩,hBf⟩:=hbx';obtain⟨hZs,⟨z0,z1,z2,z3,z4,z5⟩,hZf⟩:=hzb;have y0:=hZf 0 (by omega);have y1:=hZf 1 (by omega);have y2:=hZf 2 (by omega);have y3:=hZf 3 (by omega);have y4:=hZf 4 (by omega);have y5:=hZf 5 (by omega);have hBne:w.heap.size+1≠B:=by omega
       clear hbx hao hno hbw hjo hmid hgk hB2 hZf hfi;by_cases hk:ks1.length=1
       ·obtain⟨kid,rfl⟩:=List.length_eq_one_iff.1 hk
        obtain⟨_,_,hkr,hka⟩:=(G8 _ _ _).1 HAO.out.1;simp only at hkr hka;obtain⟨k2,o2,d2,a2,c2,b2,e2,n2,f2,g2,s2,h2,j2,ks2,rfl⟩:=Vl kid (hka kid (by simp));obtain⟨g,rfl,hgs,q0,q1,q2,q3,q4,q5⟩:=Aiq hkr;simp only[A5d] at*;have hkm:=(G8 _ _ _).1 (hka (Au.mk ⟨k2,o2,d2, .slice a2 d2.length c2, .slice b2 n2.length e2,n2⟩ (.slice f2 s2.length g2) s2 (.slice h2 ks2.length j2) ks2) (by simp));obtain⟨hf3,hf4⟩:=MOk.from _ hkm.1;have HE:Hid ((Au.mk ⟨k1,o1,d1, .slice a1 d1.length c1, .slice b1 n1.length e1,n1⟩ (.slice f1 s1.length g1) s1 (.slice (some ⟨g,0,none⟩) 1 j1) [(Au.mk ⟨k2,o2,d2, .slice a2 d2.length c2, .slice b2 n2.length e2,n2⟩ (.slice f2 s2.length g2) s2 (.slice h2 ks2.length j2) ks2)]).arm=⟨(Ah.mk k1 o1 d1 (.slice a1 d1.length c1) (.slice b1 n1.length e1) n1).net,s1.map Cm.elem,[⟨(Ah.mk k2 o2 d2 (.slice a2 d2.length c2) (.slice b2 n2.length e2) n2).net,s2.map Cm.elem,ks2.map Au.arm⟩]⟩):=by
         show _=_
         rw[Au.arm_eq];simp only[A4v,List.map_nil];rw[Au.arm_eq (Au.mk ⟨k2,o2,d2, .slice a2 d2.length c2, .slice b2 n2.length e2,n2⟩ (.slice f2 s2.length g2) s2 (.slice h2 ks2.length j2) ks2)]
        have hmi:=HMI.out;rw[HE.out] at hmi;have hok:=Alf hmi (A4i _);simp only at hok;obtain⟨hM2,hS2,hF1,hF2,hL2,hK2⟩:=hok;simp only[A4t] at hL2;have HN5:Hid (∀W,Below wr.heap.size wr W->Calls Tryz.prog 62 #[.agg #[.int .i64 k2, .int .i64 o2, .slice a2 d2.length c2, .slice b2 n2.length e2]] W λe w'=>e=.returned (.bool (Aq (Ah.mk k2 o2 d2 (.slice a2 d2.length c2) (.slice b2 n2.length e2) n2).net))/\Below W.heap.size W w'):=by
         intro W h;have:=V5 (Ah.mk k2 o2 d2 (.slice a2 d2.length c2) (.slice b2 n2.length e2) n2).net _ _ W (hf3.at.below h) (hf4.at.below h) hF2
         have e:=Ah.net_eq (Ah.mk k2 o2 d2 (.slice a2 d2.length c2) (.slice b2 n2.length e2) n2);have ee1:(Ah.mk k2 o2 d2 (.slice a2 d2.length c2) (.slice b2 n2.length e2) n2).net.kind=k2:=by rw[e]
         have ee2:(Ah.mk k2 o2 d2 (.slice a2 d2.length c2) (.slice b2 n2.length e2) n2).net.one.op=o2:=by rw[e]
         rw[ee1,ee2] at this;exact this
        have hfn:=HFN.out;rw[HE.out] at hfn;have hFI:=Y6 hfn;simp only at hFI;have hPP:=Hy.parts HAO.out;have HJ0:=hid (λW h=>A2d k1 o1 d1 a1 c1 b1 e1 n1 k2 o2 d2 a2 c2 b2 e2 n2 (w.heap.size+2) W (hPP.hna.below h) (hPP.hnk.below h) hPP.nets (A4p (by have:=HB2.out;omega) h.size) hS2 hFI.2.1 hFI.2.2 hF1 hF2);have HIA:Hid (∀y∈(Ah.mk k1 o1 d1 (.slice a1 d1.length c1) (.slice b1 n1.length e1) n1).vals++(Ah.mk k2 o2 d2 (.slice a2 d2.length c2) (.slice b2 n2.length e2) n2).vals++((.slice f1 s1.length g1::(Et s1++Et s2))++(.slice h2 ks2.length j2::Fp ks2)),y∈(Au.mk ⟨k1,o1,d1, .slice a1 d1.length c1, .slice b1 n1.length e1,n1⟩ (.slice f1 s1.length g1) s1 (.slice (some ⟨g,0,none⟩) 1 j1) [(Au.mk ⟨k2,o2,d2, .slice a2 d2.length c2, .slice b2 n2.length e2,n2⟩ (.slice f2 s2.length g2) s2 (.slice h2 ks2.length j2) ks2)]).vals):=by
         intro y hy;rw[Au.vals_eq];simp only[L8];rw[Au.vals_eq (Au.mk ⟨k2,o2,d2, .slice a2 d2.length c2, .slice b2 n2.length e2,n2⟩ (.slice f2 s2.length g2) s2 (.slice h2 ks2.length j2) ks2)];simp only[A4q,A4y] at hy ⊢;rcases hy with(hy | hy) | (hy | hy | hy) | hy | hy
         ·exact .inl hy
         ·exact .inr (.inr (.inr (.inl hy)))
         ·exact .inr (.inl (.inl hy))
         ·exact .inr (.inl (.inr hy))
         ·exact .inr (.inr (.inr (.inr (.inl (.inr hy)))))
         ·exact .inr (.inr (.inr (.inr (.inr (.inl hy)))))
         ·exact .inr (.inr (.inr (.inr (.inr (.inr hy)))))
        have HIN:=hid (λy hy=>HIA.out y (A4o _ hy));have hvm:Value.slice f1 s1.length g1∈(Au.mk ⟨k1,o1,d1, .slice a1 d1.length c1, .slice b1 n1.length e1,n1⟩ (.slice f1 s1.length g1) s1 (.slice (some ⟨g,0,none⟩) 1 j1) [(Au.mk ⟨k2,o2,d2, .slice a2 d2.length c2, .slice b2 n2.length e2,n2⟩ (.slice f2 s2.length g2) s2 (.slice h2 ks2.length j2) ks2)]).vals:=by rw[Au.vals_eq];simp
        have HCB:=hid (HNO.out _ hvm);have HCW:Hid (∀q,(Value.slice f1 s1.length g1).ownBlock=some q->w.heap.size<=q):=λq hq=>by have:=(HAO.out.1.lt _ _ hvm q hq).1;omega
        have HCL:=hid (λq hq=>(HAO.out.1.lt _ _ hvm q hq).2);have HCZ:Hid ((Value.slice f1 s1.length g1).ownBlock≠some (w.heap.size+1)):=λe=>by have:=(HAO.out.1.lt _ _ hvm _ e).1;omega
        have HKM:Hid (Hr (ks2.map Au.arm)<gk):=by
         have h1:=HGK.out;rw[HE.out] at h1;exact A4c hK2 h1
        have hjo2:=HJO.out;rw[HE.out] at hjo2;obtain⟨X1,hX1⟩:∃X,X=(Ah.mk k1 o1 d1 (.slice a1 d1.length c1) (.slice b1 n1.length e1) n1).net:=⟨_,rfl⟩
        obtain⟨X2,hX2⟩:∃X,X=(Ah.mk k2 o2 d2 (.slice a2 d2.length c2) (.slice b2 n2.length e2) n2).net:=⟨_,rfl⟩
        obtain⟨t2,ht2⟩:∃t,t=Aq (Ah.mk k2 o2 d2 (.slice a2 d2.length c2) (.slice b2 n2.length e2) n2).net:=⟨_,rfl⟩
        obtain⟨ln,hln⟩:∃ln,ln=s1.length:=⟨_,rfl⟩
        have HLN:=hid hln;have HT2:=hid ht2;rw[<-ht2] at HN5;have HJ1:Hid (s1.map Cm.elem=[]\/t2=true->Stil.joined ⟨Ji X1 X2,s1.map Cm.elem++s2.map Cm.elem,ks2.map Au.arm⟩=T):=by
         intro h;rw[hX1,hX2,<-hjo2];exact(Acu _ _ ⟨(Ah.mk k2 o2 d2 (.slice a2 d2.length c2) (.slice b2 n2.length e2) n2).net,s2.map Cm.elem,ks2.map Au.arm⟩ (by rw[<-ht2];exact h)).symm
        have HM2:Hid (Xa 900000 ⟨Ji X1 X2,s1.map Cm.elem++s2.map Cm.elem,ks2.map Au.arm⟩):=by rw[hX1,hX2];exact hM2
        have HFI2:Hid (Gg ⟨Ji X1 X2,s1.map Cm.elem++s2.map Cm.elem,ks2.map Au.arm⟩):=by rw[hX1,hX2];exact hFI.1
        rw[<-hX1,<-hX2] at HJ0;rw[<-hln] at x4 HBX hkl2 HCB HCW HCZ HCL;have HAO5:=hid (λW (h:Below wr.heap.size wr W)=>HAO.out.below h);clear hk hkr hka hkm hf3 hf4 hmi hM2 hS2 hF1 hF2 hK2 hjo2 hX1 hX2 ht2 hln hvm HAO hkl1 hfn hFI hPP;by_cases hc:0<ln
        ·have hcb:((ln:Int)==0)=false:=by rw[A5f];omega
         have hcc:¬((ln:Int)=0):=by omega
         cases t2 with
         | false=>
          clear HJ0 HJ1 hBf
          go_wp2_with (go_at_call 62;refine(HN5.out _ blA).mono ?_;rintro e w4 ⟨rfl,hb4⟩;obtain⟨hc4,hf4⟩:=Dl hb4;have hBs4:=A4c hBs hb4.size;have hZs4:=A4c hZs hb4.size;have cx0:w4.cell? ⟨B,0,none⟩=_:=(hc4 _ _ hBs).trans x0;have cx1:w4.cell? ⟨B,1,none⟩=_:=(hc4 _ _ hBs).trans x1;have cx2:w4.cell? ⟨B,2,none⟩=_:=(hc4 _ _ hBs).trans x2;have cx3:w4.cell? ⟨B,3,none⟩=_:=(hc4 _ _ hBs).trans x3;have cx4:w4.cell? ⟨B,4,none⟩=_:=(hc4 _ _ hBs).trans x4;have cx5:w4.cell? ⟨B,5,none⟩=_:=(hc4 _ _ hBs).trans x5;have v0:w4.cell? ⟨w.heap.size+1,0,none⟩=_:=(hc4 _ _ hZs).trans z0;have v1:w4.cell? ⟨w.heap.size+1,1,none⟩=_:=(hc4 _ _ hZs).trans z1;have v2:w4.cell? ⟨w.heap.size+1,2,none⟩=_:=(hc4 _ _ hZs).trans z2;have v3:w4.cell? ⟨w.heap.size+1,3,none⟩=_:=(hc4 _ _ hZs).trans z3;have v4:w4.cell? ⟨w.heap.size+1,4,none⟩=_:=(hc4 _ _ hZs).trans z4;have v5:w4.cell? ⟨w.heap.size+1,5,none⟩=_:=(hc4 _ _ hZs).trans z5;have vf0:w4.frozen? ⟨w.heap.size+1,0,none⟩=_:=(hf4 _ _ hZs).trans y0;have vf1:w4.frozen? ⟨w.heap.size+1,1,none⟩=_:=(hf4 _ _ hZs).trans y1;have vf2:w4.frozen? ⟨w.heap.size+1,2,none⟩=_:=(hf4 _ _ hZs).trans y2;have vf3:w4.frozen? ⟨w.heap.size+1,3,none⟩=_:=(hf4 _ _ hZs).trans y3;have vf4:w4.frozen? ⟨w.heap.size+1,4,none⟩=_:=(hf4 _ _ hZs).trans y4;have vf5:w4.frozen? ⟨w.heap.size+1,5,none⟩=_:=(hf4 _ _ hZs).trans y5;clear hc4 hf4)
          have HBW5:=hid (Cj HBW.out hb4);have HAO5':=HAO5.out w4 hb4;refine bodyPost_ret (v:=.agg #[.int .i64 k1, .int .i64 o1, .slice a1 d1.length c1, .slice b1 n1.length e1, .slice f1 ln g1, .slice (some ⟨g,0,none⟩) 1 j1]) (by simp[results,Tryz.results37,go_sem,v0,v1,v2,v3,v4,v5]) rfl ⟨⟨k1,o1,d1,a1,c1,n1,b1,e1,s1,f1,g1,[(Au.mk ⟨k2,o2,d2, .slice a2 d2.length c2, .slice b2 n2.length e2,n2⟩ (.slice f2 s2.length g2) s2 (.slice h2 ks2.length j2) ks2)],(some ⟨g,0,none⟩),j1,by rw[<-HLN.out];rfl,?_,?_⟩,?_⟩
          ·exact Hy.le (Hy.setO6 (base:=w.heap.size+2) HAO5' (λx hx e=>by have:=((HAO5').1.lt _ x hx _ e).1;omega)) (by omega)
          ·rw[<-HJO.out]
           refine(Qb _ ?_).symm;intro kid e h;have e':=(congrArg Stil.Arm.kids HE.out).symm.trans e;simp only[List.cons.injEq,and_true] at e';rcases h with h | h
           ·have h2:=congrArg List.length ((congrArg Stil.Arm.coils HE.out).symm.trans h)
            simp only[A4t,A4f] at h2;have:=HLN.out
            omega
           ·rw[<-e'] at h
            simp only at h;rw[<-HT2.out] at h;cases h
          ·exact Bv (Nat.le_succ _) (Bv (Nat.le_succ _) (Bv (Nat.le_succ _) (Bv (Nat.le_succ _) (Bv (Nat.le_succ _) (Bv (Nat.le_succ _) HBW5.out _) _) _) _) _) _
         | true=>
          have HJ2:=hid (HJ1.out (.inr rfl));clear HJ1 hBf HE HT2 z0 z1 z2 z3 z4 z5 y0 y1 y2 y3 y4 y5;go_upto_region 9 with(go_at_call 62;refine(HN5.out _ blA).mono ?_;rintro e w4 ⟨rfl,hb4⟩;obtain⟨hc4,hf4⟩:=Dl hb4;have hBs4:=A4c hBs hb4.size;have hZs4:=A4c hZs hb4.size;have cx0:w4.cell? ⟨B,0,none⟩=_:=(hc4 _ _ hBs).trans x0;have cx1:w4.cell? ⟨B,1,none⟩=_:=(hc4 _ _ hBs).trans x1;have cx2:w4.cell? ⟨B,2,none⟩=_:=(hc4 _ _ hBs).trans x2;have cx3:w4.cell? ⟨B,3,none⟩=_:=(hc4 _ _ hBs).trans x3;have cx4:w4.cell? ⟨B,4,none⟩=_:=(hc4 _ _ hBs).trans x4;have cx5:w4.cell? ⟨B,5,none⟩=_:=(hc4 _ _ hBs).trans x5;have Q0:w4.cell? ⟨g,0,none⟩=_:=(hc4 _ _ hgs).trans q0;have Q1:w4.cell? ⟨g,1,none⟩=_:=(hc4 _ _ hgs).trans q1;have Q2:w4.cell? ⟨g,2,none⟩=_:=(hc4 _ _ hgs).trans q2;have Q3:w4.cell? ⟨g,3,none⟩=_:=(hc4 _ _ hgs).trans q3;have Q4:w4.cell? ⟨g,4,none⟩=_:=(hc4 _ _ hgs).trans q4;have Q5:w4.cell? ⟨g,5,none⟩=_:=(hc4 _ _ hgs).trans q5;have hgs4:=A4c hgs hb4.size;clear hc4 hf4)
          have HBXV:=hid (HBX.out.at hb4);have HZBV:=hid (HZB.out.at hb4);have HBWV:=hid (Cj HBW.out hb4);have HAOV:=hid (HAO5.out w4 hb4);have HJNV:=hid (λW h=>HJ0.out W (Cj hb4 h));have hsz4:=hb4.size;clear HJ0 x0 x1 x2 x3 x4 x5 q0 q1 q2 q3 q4 q5 hb4 HN5 HAO5;obtain⟨V1,hV1⟩:∃V1,V1=w4.alloc (.cells #[.int .i64 k2, .int .i64 o2, .slice a2 d2.length c2, .slice b2 n2.length e2, .slice f2 s2.length g2, .slice h2 ks2.length j2] 55):=⟨_,rfl⟩
          have hbV:Below w4.heap.size w4 V1:=by rw[hV1];exact Aa _ _
          have hsV:V1.heap.size=w4.heap.size+1:=by rw[hV1];simp
          have HSV:=hid hsV;have HK1:Hid (B6 V1 w4.heap.size (.int .i64 k2) (.int .i64 o2) (.slice a2 d2.length c2) (.slice b2 n2.length e2) (.slice f2 s2.length g2) (.slice h2 ks2.length j2)):=by rw[hV1];exact B6.new _ _ _ _ _ _ _ _
          have HBX1:=hid (HBXV.out.at hbV);have HZB1:=hid (HZBV.out.at hbV);have HBW1:=hid (Cj HBWV.out hbV);have HAO1:=hid (HAOV.out.below hbV);have HJ1':=hid (HJNV.out V1 hbV);have hBK:=Nat.ne_of_lt HBXV.out.1;have hl1:=HBX1.out.1;have hl2:w4.heap.size<V1.heap.size:=by omega
          clear hsV;go_upto_region 10 with fail
          rw[<-hV1];clear hV1 HJNV;obtain⟨_,⟨k20,k21,k22,k23,k24,k25⟩,_⟩:=HK1.out;obtain⟨_,⟨bx0,bx1,bx2,bx3,bx4,bx5⟩,hbf⟩:=HBX1.out;go_upto_region 11 with(go_at_call 64;refine HJ1'.out.mono ?_;rintro e w5 ⟨⟨mk,mop,mds,x0,y0,x1,y1,mks,rfl,hmo,hmn,hvs⟩,hb5⟩;have HMO:=hid hmo;have HMN:=hid hmn;have HVS:=hid hvs;have HBX5:=hid (HBX1.out.at hb5);have HK5:=hid (HK1.out.at hb5);obtain⟨hB5,⟨t0,t1,t2,t3,_,_⟩,tf⟩:=HBX5.out;have u0:=tf 0 (by omega);have u1:=tf 1 (by omega);have u2:=tf 2 (by omega);have u3:=tf 3 (by omega);clear hmo hmn hvs tf)
          obtain⟨W6,hW6⟩:∃W6,W6=((((w5.setCell ⟨B,0,none⟩ (.int .i64 mk)).setCell ⟨B,1,none⟩ (.int .i64 mop)).setCell ⟨B,2,none⟩ (.slice x0 mds.length y0)).setCell ⟨B,3,none⟩ (.slice x1 mks.length y1)):=⟨_,rfl⟩
          rw[<-hW6];have HBX6:Hid (B6 W6 B (.int .i64 mk) (.int .i64 mop) (.slice x0 mds.length y0) (.slice x1 mks.length y1) (.slice f1 ln g1) (.slice (some ⟨g,0,none⟩) 1 j1)):=by rw[hW6];exact HBX5.out.setN
          have HK6:Hid (B6 W6 w4.heap.size (.int .i64 k2) (.int .i64 o2) (.slice a2 d2.length c2) (.slice b2 n2.length e2) (.slice f2 s2.length g2) (.slice h2 ks2.length j2)):=by rw[hW6];exact HK5.out.set4O (Ne.symm hBK)
          have HZB6:Hid (B6 W6 (w.heap.size+1) (.int .i64 0) (.int .i64 0) (.slice none 0 0) (.slice none 0 0) (.slice none 0 0) (.slice none 0 0)):=by rw[hW6];exact(HZB1.out.at hb5).set4O hBne
          have hle:w.heap.size<=B:=by have:=HB2.out;omega
          have HBW6:Hid (Below w.heap.size w W6):=by rw[hW6];exact Bv hle (Bv hle (Bv hle (Bv hle (Cj HBW1.out hb5) _) _) _) _
          have hmb:∀x∈(Ah.mk mk mop mds (.slice x0 mds.length y0) (.slice x1 mks.length y1) mks).vals,x.ownBlock≠some B:=by
           intro x hx e;rcases HVS.out x hx with h | h
           ·exact HNO.out x (HIN.out x h) e
           ·have:=h _ e;omega
          have HMO6:Hid (Ib W6 (w.heap.size+2) (Ah.mk mk mop mds (.slice x0 mds.length y0) (.slice x1 mks.length y1) mks)):=by rw[hW6];exact Ib.setO4 HMO.out hmb
          have hb6:Below V1.heap.size ((((V1.setCell ⟨B,0,none⟩ (.int .i64 mk)).setCell ⟨B,1,none⟩ (.int .i64 mop)).setCell ⟨B,2,none⟩ (.slice x0 mds.length y0)).setCell ⟨B,3,none⟩ (.slice x1 mks.length y1)) W6:=by rw[hW6];exact Adj hb5
          have hsU:(((((V1.setCell ⟨B,0,none⟩ (.int .i64 mk)).setCell ⟨B,1,none⟩ (.int .i64 mop)).setCell ⟨B,2,none⟩ (.slice x0 mds.length y0)).setCell ⟨B,3,none⟩ (.slice x1 mks.length y1))).heap.size=V1.heap.size:=by simp
          have hP:Parts ((((V1.setCell ⟨B,0,none⟩ (.int .i64 mk)).setCell ⟨B,1,none⟩ (.int .i64 mop)).setCell ⟨B,2,none⟩ (.slice x0 mds.length y0)).setCell ⟨B,3,none⟩ (.slice x1 mks.length y1)) (w.heap.size+2) (Ah.mk k1 o1 d1 (.slice a1 d1.length c1) (.slice b1 n1.length e1) n1) (Ah.mk k2 o2 d2 (.slice a2 d2.length c2) (.slice b2 n2.length e2) n2) (.slice f1 s1.length g1) s1 (.slice f2 s2.length g2) s2 (.slice h2 ks2.length j2) ks2:=(Hy.setN HAO1.out HNO.out).parts;have hb6':Below (((((V1.setCell ⟨B,0,none⟩ (.int .i64 mk)).setCell ⟨B,1,none⟩ (.int .i64 mop)).setCell ⟨B,2,none⟩ (.slice x0 mds.length y0)).setCell ⟨B,3,none⟩ (.slice x1 mks.length y1))).heap.size ((((V1.setCell ⟨B,0,none⟩ (.int .i64 mk)).setCell ⟨B,1,none⟩ (.int .i64 mop)).setCell ⟨B,2,none⟩ (.slice x0 mds.length y0)).setCell ⟨B,3,none⟩ (.slice x1 mks.length y1)) W6:=by rw[hsU];exact hb6
          have HP6:=hid (hP.below hb6');have HPJ:Hid (∀w7 a7 c7,Ou w7 (w.heap.size+2) (.slice a7 (ln+s2.length) c7) (s1++s2)->W6.grownBy w7 (Value.slice f1 ln g1).ownBlock->((Value.slice a7 (ln+s2.length) c7).ownBlock=(Value.slice f1 ln g1).ownBlock\/(Value.slice a7 (ln+s2.length) c7).ownBlock=some W6.heap.size)->Hy w7 (w.heap.size+2) ⟨(Ah.mk mk mop mds (.slice x0 mds.length y0) (.slice x1 mks.length y1) mks), .slice a7 (ln+s2.length) c7,s1++s2, .slice h2 ks2.length j2,ks2⟩/\∀x∈(Au.mk (Ah.mk mk mop mds (.slice x0 mds.length y0) (.slice x1 mks.length y1) mks) (.slice a7 (ln+s2.length) c7) (s1++s2) (.slice h2 ks2.length j2) ks2).vals,x.ownBlock≠some B):=by
           intro w7 a7 c7 he hg hat;have hll:=HLN.out;rw[hll] at hg hat he ⊢;have hj:=hP.join (lo:=V1.heap.size) hb6' HMO6.out HVS.out (by rw[hsU];exact A4i _) (by rw[<-hsU];exact hb6.size) he hg hat;refine⟨hj.1,λx hx e=>?_⟩;rcases hj.2 x hx _ e with⟨_,y,hy,e2⟩ | h1
           ·exact HNO.out y (HIA.out y hy) e2
           ·omega
          have HKX:Hid (0<s2.length->∃p,f2=some p/\∀j u,(Fq s2)[j]?=some u->W6.cell? (p.add j)=some u):=by
           intro hz;obtain⟨gg,cc,hv,_,_,_,hcell⟩:=Aw HP6.out.ckr hz;simp only[Value.slice.injEq] at hv;exact⟨⟨gg,0,none⟩,hv.1,λj u hu=>by rw[Addr.add_lit];simpa using hcell j u hu⟩
          have hbs6:w.heap.size+2<=W6.heap.size:=by have:=HBX6.out.1;have:=HB2.out;omega
          have hK6:=HK6.out.1;have hB6l:=HBX6.out.1;obtain⟨_,⟨_,_,_,_,v4,_⟩,_⟩:=HBX6.out;obtain⟨_,⟨_,_,_,_,kk4,_⟩,_⟩:=HK6.out;clear hW6 hb6 hb6' hP hsU hmb bx0 bx1 bx2 bx3 bx4 bx5 hbf k20 k21 k22 k23 k24 k25 t0 t1 t2 t3 u0 u1 u2 u3 HJ1'
          go_wp2_with (at_builtin;refine Us rfl _ _ rfl (w.heap.size+2) f1 g1 ln s1 s2 HLN.out f2 g2 rfl rfl HP6.out.hca HKX.out HP6.out.hck HP6.out.coils hL2 hbs6 ?_;intro a7 c7 w7 hmr7 hgr7 hat7;have HM7:=hid (HPJ.out w7 a7 c7 hmr7 hgr7 hat7);have HG7:=hid hgr7;have HBX7:=hid (HBX6.out.grown hgr7 HCB.out);have HK7:=hid (HK6.out.grown hgr7 (λe=>by have h0:=HCL.out _ e;omega));obtain⟨_,⟨_,_,_,_,w74,w75⟩,tf7⟩:=HBX7.out;obtain⟨_,⟨_,_,_,_,_,k75⟩,_⟩:=HK7.out;have u74:=tf7 4 (by omega);have u75:=tf7 5 (by omega);clear hmr7 hgr7 hat7 tf7)
          go_roundg (Hr (ks2.map Au.arm))
          rotate_left
          ·exact HKM.out
          ·have hm7:=HM7.out
           refine⟨⟨(Ah.mk mk mop mds (.slice x0 mds.length y0) (.slice x1 mks.length y1) mks), .slice a7 (ln+s2.length) c7,s1++s2, .slice h2 ks2.length j2,ks2⟩,⟨HB2.out,B6.set5 (B6.set4 HBX7.out _) _,Hy.setO (Hy.setO hm7.1 (a:=⟨B,4,none⟩) hm7.2 _) (a:=⟨B,5,none⟩) hm7.2 _,hm7.2,B6.setO (B6.setO (HZB6.out.grown HG7.out HCZ.out) hBne _) hBne _,?_⟩,?_,?_,?_,?_⟩
           ·exact Bv hle (Bv hle (HBW6.out.grown HG7.out HBW6.out.size HCW.out) _) _
           ·rw[Au.arm_eq];simp only;rw[HMN.out,A4r];exact HJ2.out
           ·rw[Au.arm_eq];simp only;rw[HMN.out,A4r];exact HM2.out
           ·rw[Au.arm_eq];simp only;rw[HMN.out,A4r];exact HFI2.out
           ·rw[Au.arm_eq];exact A4i _
        ·obtain rfl:ln=0:=by omega
         have HJ2:=hid (HJ1.out (.inl (by rw[List.length_eq_zero_iff.1 HLN.out.symm];rfl)));clear HJ1 hBf HE HT2 z0 z1 z2 z3 z4 z5 y0 y1 y2 y3 y4 y5 HN5;go_upto_region 9 with fail
         have HBXV:=hid HBX.out;have HZBV:=hid HZB.out;have HBWV:=hid HBW.out;have HAOV:=hid (HAO5.out wr (Below.refl _ _));have HJNV:=hid HJ0.out;clear HJ0 HAO5;obtain⟨V1,hV1⟩:∃V1,V1=wr.alloc (.cells #[.int .i64 k2, .int .i64 o2, .slice a2 d2.length c2, .slice b2 n2.length e2, .slice f2 s2.length g2, .slice h2 ks2.length j2] 55):=⟨_,rfl⟩
         have hbV:Below wr.heap.size wr V1:=by rw[hV1];exact Aa _ _
         have hsV:V1.heap.size=wr.heap.size+1:=by rw[hV1];simp
         have HSV:=hid hsV;have HK1:Hid (B6 V1 wr.heap.size (.int .i64 k2) (.int .i64 o2) (.slice a2 d2.length c2) (.slice b2 n2.length e2) (.slice f2 s2.length g2) (.slice h2 ks2.length j2)):=by rw[hV1];exact B6.new _ _ _ _ _ _ _ _
         have HBX1:=hid (HBXV.out.at hbV);have HZB1:=hid (HZBV.out.at hbV);have HBW1:=hid (Cj HBWV.out hbV);have HAO1:=hid (HAOV.out.below hbV);have HJ1':=hid (HJNV.out V1 hbV);have hBK:=Nat.ne_of_lt HBXV.out.1;have hl1:=HBX1.out.1;have hl2:wr.heap.size<V1.heap.size:=by omega
         clear hsV;go_upto_region 10 with fail
         rw[<-hV1];clear hV1 HJNV;obtain⟨_,⟨k20,k21,k22,k23,k24,k25⟩,_⟩:=HK1.out;obtain⟨_,⟨bx0,bx1,bx2,bx3,bx4,bx5⟩,hbf⟩:=HBX1.out;go_upto_region 11 with(go_at_call 64;refine HJ1'.out.mono ?_;rintro e w5 ⟨⟨mk,mop,mds,x0,y0,x1,y1,mks,rfl,hmo,hmn,hvs⟩,hb5⟩;have HMO:=hid hmo;have HMN:=hid hmn;have HVS:=hid hvs;have HBX5:=hid (HBX1.out.at hb5);have HK5:=hid (HK1.out.at hb5);obtain⟨hB5,⟨t0,t1,t2,t3,_,_⟩,tf⟩:=HBX5.out;have u0:=tf 0 (by omega);have u1:=tf 1 (by omega);have u2:=tf 2 (by omega);have u3:=tf 3 (by omega);clear hmo hmn hvs tf)
         obtain⟨W6,hW6⟩:∃W6,W6=((((w5.setCell ⟨B,0,none⟩ (.int .i64 mk)).setCell ⟨B,1,none⟩ (.int .i64 mop)).setCell ⟨B,2,none⟩ (.slice x0 mds.length y0)).setCell ⟨B,3,none⟩ (.slice x1 mks.length y1)):=⟨_,rfl⟩
         rw[<-hW6];have HBX6:Hid (B6 W6 B (.int .i64 mk) (.int .i64 mop) (.slice x0 mds.length y0) (.slice x1 mks.length y1) (.slice f1 0 g1) (.slice (some ⟨g,0,none⟩) 1 j1)):=by rw[hW6];exact HBX5.out.setN
         have HK6:Hid (B6 W6 wr.heap.size (.int .i64 k2) (.int .i64 o2) (.slice a2 d2.length c2) (.slice b2 n2.length e2) (.slice f2 s2.length g2) (.slice h2 ks2.length j2)):=by rw[hW6];exact HK5.out.set4O (Ne.symm hBK)
         have HZB6:Hid (B6 W6 (w.heap.size+1) (.int .i64 0) (.int .i64 0) (.slice none 0 0) (.slice none 0 0) (.slice none 0 0) (.slice none 0 0)):=by rw[hW6];exact(HZB1.out.at hb5).set4O hBne
         have hle:w.heap.size<=B:=by have:=HB2.out;omega
         have HBW6:Hid (Below w.heap.size w W6):=by rw[hW6];exact Bv hle (Bv hle (Bv hle (Bv hle (Cj HBW1.out hb5) _) _) _) _
         have hmb:∀x∈(Ah.mk mk mop mds (.slice x0 mds.length y0) (.slice x1 mks.length y1) mks).vals,x.ownBlock≠some B:=by
          intro x hx e;rcases HVS.out x hx with h | h
          ·exact HNO.out x (HIN.out x h) e
          ·have:=h _ e;omega
         have HMO6:Hid (Ib W6 (w.heap.size+2) (Ah.mk mk mop mds (.slice x0 mds.length y0) (.slice x1 mks.length y1) mks)):=by rw[hW6];exact Ib.setO4 HMO.out hmb
         have hb6:Below V1.heap.size ((((V1.setCell ⟨B,0,none⟩ (.int .i64 mk)).setCell ⟨B,1,none⟩ (.int .i64 mop)).setCell ⟨B,2,none⟩ (.slice x0 mds.length y0)).setCell ⟨B,3,none⟩ (.slice x1 mks.length y1)) W6:=by rw[hW6];exact Adj hb5
         have hsU:(((((V1.setCell ⟨B,0,none⟩ (.int .i64 mk)).setCell ⟨B,1,none⟩ (.int .i64 mop)).setCell ⟨B,2,none⟩ (.slice x0 mds.length y0)).setCell ⟨B,3,none⟩ (.slice x1 mks.length y1))).heap.size=V1.heap.size:=by simp
         have hP:Parts ((((V1.setCell ⟨B,0,none⟩ (.int .i64 mk)).setCell ⟨B,1,none⟩ (.int .i64 mop)).setCell ⟨B,2,none⟩ (.slice x0 mds.length y0)).setCell ⟨B,3,none⟩ (.slice x1 mks.length y1)) (w.heap.size+2) (Ah.mk k1 o1 d1 (.slice a1 d1.length c1) (.slice b1 n1.length e1) n1) (Ah.mk k2 o2 d2 (.slice a2 d2.length c2) (.slice b2 n2.length e2) n2) (.slice f1 s1.length g1) s1 (.slice f2 s2.length g2) s2 (.slice h2 ks2.length j2) ks2:=(Hy.setN HAO1.out HNO.out).parts;have hb6':Below (((((V1.setCell ⟨B,0,none⟩ (.int .i64 mk)).setCell ⟨B,1,none⟩ (.int .i64 mop)).setCell ⟨B,2,none⟩ (.slice x0 mds.length y0)).setCell ⟨B,3,none⟩ (.slice x1 mks.length y1))).heap.size ((((V1.setCell ⟨B,0,none⟩ (.int .i64 mk)).setCell ⟨B,1,none⟩ (.int .i64 mop)).setCell ⟨B,2,none⟩ (.slice x0 mds.length y0)).setCell ⟨B,3,none⟩ (.slice x1 mks.length y1)) W6:=by rw[hsU];exact hb6
         have HP6:=hid (hP.below hb6');have HPJ:Hid (∀w7 a7 c7,Ou w7 (w.heap.size+2) (.slice a7 (0+s2.length) c7) (s1++s2)->W6.grownBy w7 (Value.slice f1 0 g1).ownBlock->((Value.slice a7 (0+s2.length) c7).ownBlock=(Value.slice f1 0 g1).ownBlock\/(Value.slice a7 (0+s2.length) c7).ownBlock=some W6.heap.size)->Hy w7 (w.heap.size+2) ⟨(Ah.mk mk mop mds (.slice x0 mds.length y0) (.slice x1 mks.length y1) mks), .slice a7 (0+s2.length) c7,s1++s2, .slice h2 ks2.length j2,ks2⟩/\∀x∈(Au.mk (Ah.mk mk mop mds (.slice x0 mds.length y0) (.slice x1 mks.length y1) mks) (.slice a7 (0+s2.length) c7) (s1++s2) (.slice h2 ks2.length j2) ks2).vals,x.ownBlock≠some B):=by
          intro w7 a7 c7 he hg hat;have hll:=HLN.out;rw[hll] at hg hat he ⊢;have hj:=hP.join (lo:=V1.heap.size) hb6' HMO6.out HVS.out (by rw[hsU];exact A4i _) (by rw[<-hsU];exact hb6.size) he hg hat;refine⟨hj.1,λx hx e=>?_⟩;rcases hj.2 x hx _ e with⟨_,y,hy,e2⟩ | h1
          ·exact HNO.out y (HIA.out y hy) e2
          ·omega
         have HKX:Hid (0<s2.length->∃p,f2=some p/\∀j u,(Fq s2)[j]?=some u->W6.cell? (p.add j)=some u):=by
          intro hz;obtain⟨gg,cc,hv,_,_,_,hcell⟩:=Aw HP6.out.ckr hz;simp only[Value.slice.injEq] at hv;exact⟨⟨gg,0,none⟩,hv.1,λj u hu=>by rw[Addr.add_lit];simpa using hcell j u hu⟩
         have hbs6:w.heap.size+2<=W6.heap.size:=by have:=HBX6.out.1;have:=HB2.out;omega
         have hK6:=HK6.out.1;have hB6l:=HBX6.out.1;obtain⟨_,⟨_,_,_,_,v4,_⟩,_⟩:=HBX6.out;obtain⟨_,⟨_,_,_,_,kk4,_⟩,_⟩:=HK6.out;clear hW6 hb6 hb6' hP hsU hmb bx0 bx1 bx2 bx3 bx4 bx5 hbf k20 k21 k22 k23 k24 k25 t0 t1 t2 t3 u0 u1 u2 u3 HJ1'
         go_wp2_with (at_builtin;refine Us rfl _ _ rfl (w.heap.size+2) f1 g1 0 s1 s2 HLN.out f2 g2 rfl rfl HP6.out.hca HKX.out HP6.out.hck HP6.out.coils hL2 hbs6 ?_;intro a7 c7 w7 hmr7 hgr7 hat7;have HM7:=hid (HPJ.out w7 a7 c7 hmr7 hgr7 hat7);have HG7:=hid hgr7;have HBX7:=hid (HBX6.out.grown hgr7 HCB.out);have HK7:=hid (HK6.out.grown hgr7 (λe=>by have h0:=HCL.out _ e;omega));obtain⟨_,⟨_,_,_,_,w74,w75⟩,tf7⟩:=HBX7.out;obtain⟨_,⟨_,_,_,_,_,k75⟩,_⟩:=HK7.out;have u74:=tf7 4 (by omega);have u75:=tf7 5 (by omega);clear hmr7 hgr7 hat7 tf7)
         go_roundg (Hr (ks2.map Au.arm))
         rotate_left
         ·exact HKM.out
         ·have hm7:=HM7.out
          simp only[A4m] at hm7;refine⟨⟨(Ah.mk mk mop mds (.slice x0 mds.length y0) (.slice x1 mks.length y1) mks), .slice a7 s2.length c7,s1++s2, .slice h2 ks2.length j2,ks2⟩,⟨HB2.out,B6.set5 (B6.set4 HBX7.out _) _,Hy.setO (Hy.setO hm7.1 (a:=⟨B,4,none⟩) hm7.2 _) (a:=⟨B,5,none⟩) hm7.2 _,hm7.2,B6.setO (B6.setO (HZB6.out.grown HG7.out HCZ.out) hBne _) hBne _,?_⟩,?_,?_,?_,?_⟩
          ·exact Bv hle (Bv hle (HBW6.out.grown HG7.out HBW6.out.size HCW.out) _) _
          ·rw[Au.arm_eq];simp only;rw[HMN.out,A4r];exact HJ2.out
          ·rw[Au.arm_eq];simp only;rw[HMN.out,A4r];exact HM2.out
          ·rw[Au.arm_eq];simp only;rw[HMN.out,A4r];exact HFI2.out
          ·rw[Au.arm_eq];exact A4i _
       ·have hkb:((ks1.length:Int)==1)=false:=by rw[A5f];omega
        have hkc:¬((ks1.length:Int)=1):=by omega
        have HST:=hid (λkid (e:(ks1.map Au.arm)=[kid])=>hk (by have:=congrArg List.length e;simpa using this));clear hk hBf
        go_wp2
        refine bodyPost_ret (v:=.agg #[.int .i64 k1, .int .i64 o1, .slice a1 d1.length c1, .slice b1 n1.length e1, .slice f1 s1.length g1, .slice h1 ks1.length j1]) (by simp[results,Tryz.results37,go_sem,z0,z1,z2,z3,z4,z5]) rfl ⟨⟨k1,o1,d1,a1,c1,n1,b1,e1,s1,f1,g1,ks1,h1,j1,rfl,?_,?_⟩,?_⟩
        ·exact Hy.le (Hy.setO6 (base:=w.heap.size+2) HAO.out (λx hx e=>by have:=((HAO.out).1.lt _ x hx _ e).1;omega)) (by omega)
        ·rw[<-HJO.out]
         refine(Qb _ ?_).symm;intro kid e _;rw[Au.arm_eq] at e;exact HST.out kid e
        ·exact Bv (Nat.le_succ _) (Bv (Nat.le_succ _) (Bv (Nat.le_succ _) (Bv (Nat.le_succ _) (Bv (Nat.le_succ _) (Bv (Nat.le_succ _) HBW.out _) _) _) _) _) _
end Go.Proofs.YtbfljjcnbbmoaaaGreatDoor
