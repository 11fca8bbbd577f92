import Derived.Test.YtbfljjcnbbmoaaaGreatDoorGt
import Derived.Test.YtbfljjcnbbmoaaaGreatDoorY7g
import Derived.Deep.LoopGhost
import Derived.Deep.RegionHeld3
namespace Go.Proofs.YtbfljjcnbbmoaaaGreatDoor
open Stil
open Go.RowKit Go.Sort Go.BigFrame
variable {base:Nat}
def Oz:Ah:=⟨0,0,[], .slice none 0 0, .slice none 0 0,[]⟩
theorem Xi:Oz.net=Stil.none0:=by rw[Ah.net_eq];rfl
theorem Yn:Oz.vals=[.slice none 0 0, .slice none 0 0]:=by rw[Ah.vals_eq];rfl
theorem Ai6 (w:World)(base:Nat):MOk w base Oz:=(H5 _ _ _).2 ⟨World.ownsRow_nil _ _ _ _,World.ownsRow_nil _ _ _ _,λx hx=>by cases hx⟩
theorem Alv {x:Value}(hx:x∈Oz.vals):x.ownBlock=none:=by
 rw[Yn] at hx;simp only[A4t,List.mem_nil_iff,or_false,or_self] at hx;rw[hx];rfl
theorem Aac {w1 w2:World}{lE lA:Nat}{cv kv:Value}{fE:List Df}{iZ:List Aw}(hE:Pg w1 lE cv fE)(hA:Oi w2 lA kv iZ)(hb:Below w1.heap.size w1 w2)(h1:base<=lE)(h2:w1.heap.size<=lA)(h3:base<=lA):
  Ic w2 base ⟨Oz,cv,fE,kv,iZ⟩/\∀x∈(Aw.mk Oz cv fE kv iZ).vals,∀q,x.ownBlock=some q->(lE<=q/\q<w1.heap.size)\/(lA<=q/\q<w2.heap.size):=by
 have hv:(Aw.mk Oz cv fE kv iZ).vals=Oz.vals++((cv::Ff fE)++(kv::Gj iZ)):=Aw.vals_eq _;have hE2:=(hE.below hb).le h1;have hA2:=hA.le h3;refine⟨⟨(Hf _ _ _).2 ⟨Ai6 _ _,⟨hE2.1,hE2.2.1⟩,hA2.1,hA2.2.1⟩,?_⟩,?_⟩
 ·rw[hv,A4v]
  refine⟨?_,List.pairwise_append.2 ⟨hE.2.2,hA.2.2,λx hx y hy=>Ef (n:=w1.heap.size) (λk hk=>(hE.lt x hx k hk).2) (λk hk=>A4k h2 (hA.lt y hy k hk).1)⟩,λx hx y _=>.inl (Alv hx)⟩;rw[Yn];exact List.pairwise_cons.2 ⟨λy _=>Nl y,List.pairwise_singleton _ _⟩
 ·intro x hx q hq
  rw[hv] at hx;rcases List.mem_append.1 hx with hx | hx
  ·rw[Alv hx] at hq;cases hq
  rcases List.mem_append.1 hx with hx | hx
  ·exact .inl (hE.lt x hx q hq)
  ·exact .inr (hA.lt x hx q hq)
theorem Ic.setNet {w:World}{lo:Nat}{m:Aw}{mN:Ah}(h:Ic w base m)(hn:Ik w base mN)(hl:∀x∈mN.vals,∀q,x.ownBlock=some q->lo<=q)(hm:∀x∈m.vals,∀q,x.ownBlock=some q->q<lo):Ic w base ⟨mN,m.cv,m.coils,m.kv,m.kids⟩:=by
 obtain⟨h1,hp⟩:=h;obtain⟨_,h3,h4,h5⟩:=(Hf _ _ _).1 h1;have hv:(Aw.mk mN m.cv m.coils m.kv m.kids).vals=mN.vals++((m.cv::Ff m.coils)++(m.kv::Gj m.kids)):=Aw.vals_eq _;have hv2:m.vals=m.net.vals++((m.cv::Ff m.coils)++(m.kv::Gj m.kids)):=Aw.vals_eq _;rw[hv2] at hp hm;refine⟨(Hf _ _ _).2 ⟨hn.1,h3,h4,h5⟩,?_⟩;rw[hv];exact List.pairwise_append.2 ⟨hn.2,(List.pairwise_append.1 hp).2.1,λx hx y hy=>(Ef (n:=lo) (hm y (A4g _ hy)) (hl x hx)).symm⟩
theorem Ic.setN {w:World}{b:Nat}{m:Aw}{u0 u1 u2 u3:Value}(h:Ic w base m)(hb:∀x∈m.vals,x.ownBlock≠some b):Ic ((((w.setCell ⟨b,0,none⟩ u0).setCell ⟨b,1,none⟩ u1).setCell ⟨b,2,none⟩ u2).setCell ⟨b,3,none⟩ u3) base m:=
 Ic.setO (Ic.setO (Ic.setO (Ic.setO h (a:=⟨b,0,none⟩) hb u0) (a:=⟨b,1,none⟩) hb u1) (a:=⟨b,2,none⟩) hb u2) (a:=⟨b,3,none⟩) hb u3
theorem V9 {w:World}(m:Aw)(h:AOk w base m):∃k o d a1 c1 a2 c2 ns a3 c3 cs a4 c4 ks,m=⟨⟨k,o,d, .slice a1 d.length c1, .slice a2 ns.length c2,ns⟩, .slice a3 cs.length c3,cs, .slice a4 ks.length c4,ks⟩:=by
 obtain⟨⟨k,o,d,av,nv,ns⟩,cv,cs,kv,ks⟩:=m;obtain⟨h1,⟨h2,_⟩,h4,_⟩:=(Hf _ _ _).1 h;obtain⟨h5,h6,_⟩:=(H5 _ _ _).1 h1;simp only at h2 h4 h5 h6;obtain⟨a1,c1,rfl⟩:=Af h5;obtain⟨a2,c2,rfl⟩:=Af h6;obtain⟨a3,c3,rfl⟩:=Af h2;obtain⟨a4,c4,rfl⟩:=Af h4;exact⟨k,o,d,a1,c1,a2,c2,ns,a3,c3,cs,a4,c4,ks,rfl⟩
theorem Ajg {w:World}{a:Option Addr}{c:Nat}{m:Aw}(h:w.ownsRow base 55 6 (.slice a 1 c) 1 (Gg [m])):∃g,a=some ⟨g,0,none⟩/\g<w.heap.size/\w.cell? ⟨g,0,none⟩=some (.int .i64 m.net.kind)/\w.cell? ⟨g,1,none⟩=some (.int .i64 m.net.op)/\w.cell? ⟨g,2,none⟩=some m.net.av/\w.cell? ⟨g,3,none⟩=some m.net.kv/\w.cell? ⟨g,4,none⟩=some m.cv/\w.cell? ⟨g,5,none⟩=some m.kv:=by
 obtain⟨g,cap,hv,_,hlt,_,hcell⟩:=Az h omz;simp only[Value.slice.injEq] at hv;obtain⟨q1,q2,q3,q4,q5,q6⟩:=Na [m] 0 spz;exact⟨g,hv.1,hlt,by simpa using hcell _ _ q1,by simpa using hcell _ _ q2,by simpa using hcell _ _ q3,by simpa using hcell _ _ q4,by simpa using hcell _ _ q5,by simpa using hcell _ _ q6⟩
def NSt (w wc:World)(B:Nat)(m:Aw):Prop:=w.heap.size+2<=B/\A3x wc B m/\Ic wc (w.heap.size+2) m/\(∀x∈m.vals,x.ownBlock≠some B)/\B6 wc (w.heap.size+1) (.int .i64 0) (.int .i64 0) (.slice none 0 0) (.slice none 0 0) (.slice none 0 0) (.slice none 0 0)/\Below w.heap.size w wc
theorem zp {p:Prop}(h:p:=by
 have xq:=fH.1
 have nO:∀x∈(Aw.mk ⟨mk,aG,aF, .slice xa aF.length ya, .slice xb bT.length yb,bT⟩ (.slice xc bU.length yc) bU (.slice xd aC.length yd) aC).vals,x.ownBlock≠some B:=by
  intro x hx e;rcases eF x hx _ e with⟨y,hy,e2⟩ | h
  ·exact gy y hy e2
  ·omega
 have hb2:=HB2.out;refine⟨⟨⟨mk,aG,aF, .slice xa aF.length ya, .slice xb bT.length yb,bT⟩, .slice xc bU.length yc,bU, .slice xd aC.length yd,aC⟩,⟨hb2,fJ.set6,Ic.setO6 aJ nO,nO,((kH.drew).grown mQ wO.out).set6O hBne,?_⟩,?_,?_,?_⟩
 ·have gI:=(iU.drew).grown mQ iU.size pY.out
  have hle:w.heap.size<=B:=omz
  exact Bz hle (Bz hle (Bz hle (Bz hle (Bz hle (Bz hle gI _) _) _) _) _) _
 ·rw[aH.out,A4m]
  exact HJ2.out
 ·rw[aH.out,A4m]
  exact dF.out
 ·rw[aH.out]
  exact A4d _):p:=h
theorem zR {p:Prop}(h:p:=by
 rw[<-wG.out]
 refine(Qn _ ?_).symm;intro kid e h;have e':=(congrArg Stil.Arm.kids HE.out).symm.trans e;simp only[List.cons.injEq,and_true] at e';rcases h with h | h
 ·have h2:=congrArg List.length ((congrArg Stil.Arm.coils HE.out).symm.trans h)
  simp only[A4o,A4a] at h2;have:=fG.out
  omega
 ·rw[<-e'] at h
  simp only at h;rw[<-HT2.out] at h;cases h):p:=h
theorem zu0 {p:Prop}(h:p:=by
 exact Bz (Nat.le_succ _) (Bz (Nat.le_succ _) (Bz (Nat.le_succ _) (Bz (Nat.le_succ _) (Bz (Nat.le_succ _) (Bz (Nat.le_succ _) wV _) _) _) _) _) _):p:=h
theorem zv0 {p:Prop}(h:p:=by
 exact Bz (Nat.le_succ _) (Bz (Nat.le_succ _) (Bz (Nat.le_succ _) (Bz (Nat.le_succ _) (Bz (Nat.le_succ _) (Bz (Nat.le_succ _) iC _) _) _) _) _) _):p:=h
theorem zx0 {p:Prop}(h:p:=by
 have e:=fK.out
 rw[Aw.arm_eq] at e ⊢;simp only[Stil.Arm.mk.injEq] at e ⊢;exact⟨by rw[aH.out,dX.out],e.2.1,e.2.2⟩):p:=h
theorem zD0 {p:Prop}(h:p:=by
 have uP:=Bd hbw hb4
 have hle:w.heap.size<=B:=omz
 exact Bz hle (Bz hle (Bz hle (Bz hle uP _) _) _) _):p:=h
set_option maxHeartbeats 4000000 in
set_option maxRecDepth 100000 in
theorem Avq (a:Stil.Arm):Ci a->Ak a<=900000->∀(av nv cv kv:Value) (w:World),Bi w av a.net.one.args->Dx w nv a.net.kids->En w cv a.coils->Dj w kv a.kids->Calls Tryz.prog 45 #[.agg #[.int .i64 a.net.kind, .int .i64 a.net.one.op,av,nv,cv,kv]] w λe w'=>Aem w' w.heap.size (Dh a) e/\Below w.heap.size w w':=by
 induction a using Fg with
 | h n cs kids ih=>
  intro hft hsz av nv cv kv w hav hnv hcv hkv;obtain⟨hnf,hcl,hcf,hkl,bK⟩:=(Em _ _ _).1 hft;simp only at hav hnv hcv hkv;have hks:∀x∈kids,Ak x<=900000:=by
   intro x hx;have:Ak x<=Hq kids:=D9 Ak kids x hx;rw[Cc] at hsz;omega
  have hkn:kids.length<=999999:=by
   have h1:kids.length<=Hq kids:=by
    clear ih hft hsz hkv hkl bK hks;unfold Hq;induction kids with
    | nil=>simp
    | cons x r ihr=>
     have:=Stil.Jz x
     simp only[A39,A4q,List.sum_cons];omega
   rw[Cc] at hsz;omega
  have hcn:cs.length<=999999:=by
   rw[Cc] at hsz;omega
  have hns:Aq n=false->Aj n<=999999:=by
   intro h;rw[Cc] at hsz;have e:Stil.nsz n=Aj n:=if_neg (by rw[h];exact Bool.false_ne_true);omega
  have H1:=hid (λW h=>Amc cs (λx hx av w hav=>Af3 x.op av x.args w hav (hcf x hx).2.1) cv W (hcv.below h) hcn);have H2:=hid (λW h=>Ads kids (λx hx=>ih x hx (bK x hx) (hks x hx)) kv W (hkv.below h) hkn);have H3:=hid (λW h=>Si n av nv W (hav.below h) (hnv.below h) hnf);have H4:=hid (λhn W h=>Avp n hnf (hns hn) av nv W (hav.below h) (hnv.below h));have HJ:=hid (Lt n cs kids);have HM:Hid (Xw 900000 ⟨Rk n,cs,kids.map Dh⟩):=by
   have:=Ah2 hft hsz (λx hx=>Xh x (bK x hx) (hks x hx))
   exact⟨this.1,A4k this.2 hsz⟩
  obtain⟨T,hT⟩:∃T,T=Dh ⟨n,cs,kids⟩:=⟨_,rfl⟩
  rw[<-hT] at HJ ⊢;obtain⟨ks,zG⟩:∃ks,ks=kids.map Dh:=⟨_,rfl⟩
  rw[<-zG] at HJ HM H2;obtain⟨p0,r0,rfl,hz0⟩:=hav;obtain⟨p1,r1,rfl,hz1⟩:=hnv;obtain⟨p2,r2,rfl,hz2⟩:=hcv;obtain⟨p3,r3,rfl,hz3⟩:=hkv;clear hz0 hz1 hz2 hz3 ih hft hsz hnf hcl hcf hkl bK hks hkn hcn hns hT zG;go_enter Tryz.func45,Tryz.ntmps45;go_upto_region 1 with fail
  go_step3
  go_upto_region 1 with fail
  obtain⟨W,hW⟩:∃W,W=(w.alloc (.cells #[.int .i64 n.kind, .int .i64 n.one.op, .slice p0 n.one.args.length r0, .slice p1 n.kids.length r1, .slice p2 cs.length r2, .slice p3 kids.length r3] 55)).alloc (.cells #[.int .i64 0, .int .i64 0, .slice none 0 0, .slice none 0 0, .slice none 0 0, .slice none 0 0] 55):=⟨_,rfl⟩
  rw[<-hW];have hA:B6 W w.heap.size (.int .i64 n.kind) (.int .i64 n.one.op) (.slice p0 n.one.args.length r0) (.slice p1 n.kids.length r1) (.slice p2 cs.length r2) (.slice p3 kids.length r3):=by rw[hW];exact(B6.new w _ _ _ _ _ _ _).at (Aa _ _)
  have hZ:B6 W (w.heap.size+1) (.int .i64 0) (.int .i64 0) (.slice none 0 0) (.slice none 0 0) (.slice none 0 0) (.slice none 0 0):=by rw[hW];have:=B6.new (w.alloc (.cells #[.int .i64 n.kind, .int .i64 n.one.op, .slice p0 n.one.args.length r0, .slice p1 n.kids.length r1, .slice p2 cs.length r2, .slice p3 kids.length r3] 55)) (.int .i64 0) (.int .i64 0) (.slice none 0 0) (.slice none 0 0) (.slice none 0 0) (.slice none 0 0) 55;simpa using this
  have hsW:W.heap.size=w.heap.size+2:=by rw[hW];simp
  have hBW:Below w.heap.size w W:=by rw[hW];exact Bq (Aa _ _) _
  clear hW;have HA:=hid hA;have HZ:=hid hZ;have bD:=hid hsW;have hl0:w.heap.size<W.heap.size:=omz
  obtain⟨_,⟨_,_,_,_,p4,p5⟩,_⟩:=hA;clear hZ hsW;go_cut [3] (λs3 wc=>∃(B:Nat) (m:Aw),s3=.pointer (some ⟨B,0,none⟩)/\NSt w wc B m/\m.arm=⟨Stil.none0,cs,ks⟩/\B6 wc w.heap.size (.int .i64 n.kind) (.int .i64 n.one.op) (.slice p0 n.one.args.length r0) (.slice p1 n.kids.length r1) (.slice p2 cs.length r2) (.slice p3 kids.length r3))
  case first=>
   go_region_held3 (λW'=>(W'.cell? ⟨w.heap.size,4,none⟩=some (.slice p2 cs.length r2)/\W'.cell? ⟨w.heap.size,5,none⟩=some (.slice p3 kids.length r3))) (first | with_reducible assumption | with_reducible exact⟨Fz.trans p4,Fz.trans p5⟩ | with_reducible exact⟨Fz.trans ((Ej hl0).trans p4),Fz.trans ((Ej hl0).trans p5)⟩ | with_reducible exact⟨(Ej hz2).trans hS2.1,(Ej hz2).trans hS2.2⟩ | with_reducible exact⟨(Ej hz1).trans hS1.1,(Ej hz1).trans hS1.2⟩ | with_reducible exact⟨set6O hne hS2.1,set6O hne hS2.2⟩ | with_reducible exact⟨set6O (Nat.ne_of_lt hz2) ((Ej hz2).trans hS2.1),set6O (Nat.ne_of_lt hz2) ((Ej hz2).trans hS2.2)⟩ | skip) (first | (go_at_call 71;refine(H1.out _ (by first | exact hBW.drew | exact(Bq hBW _).drew)).mono ?_;rintro e w1 ⟨ra,rc,fE,rfl,hmn,hmr,hb1⟩;have dW:Below W.heap.size W w1:=(by first | exact Bd (Below.refl _ _).drew hb1 | exact Bd (Bq (Below.refl _ _) _).drew hb1);have hB1:=hBW.trans (dW.mono hBW.size);have hz1:=A37 hl0 dW.size;have hS1:(w1.cell? ⟨w.heap.size,4,none⟩=some (.slice p2 cs.length r2)/\w1.cell? ⟨w.heap.size,5,none⟩=some (.slice p3 kids.length r3)):=⟨(dW.cell (p:=⟨w.heap.size,4,none⟩) hl0).trans p4,(dW.cell (p:=⟨w.heap.size,5,none⟩) hl0).trans p5⟩;have jm:=hid hmn;have jl:Hid (Pg w1 _ (.slice ra fE.length rc) fE):=hmr;have HB1:Hid (Below _ _ w1):=hb1;(try have hBx1:=(B6.new W _ _ _ _ _ _ 55).drew.at hb1);clear hmn hmr) | (go_at_call 44;refine(H2.out _ (by first | exact hB1 | exact Bq hB1 _)).mono ?_;rintro e w2 ⟨sa,sc,iZ,rfl,hmn,hmr,hb2⟩;have hC2:Below w1.heap.size w1 w2:=(by first | exact hb2 | exact Bd (Bq (Below.refl _ _) _) hb2);have hB2:=hB1.trans (hC2.mono hB1.size);have hz2:=A37 hz1 hC2.size;have hS2:(w2.cell? ⟨w.heap.size,4,none⟩=some (.slice p2 cs.length r2)/\w2.cell? ⟨w.heap.size,5,none⟩=some (.slice p3 kids.length r3)):=⟨(hC2.cell (p:=⟨w.heap.size,4,none⟩) hz1).trans hS1.1,(hC2.cell (p:=⟨w.heap.size,5,none⟩) hz1).trans hS1.2⟩;have HAN:=hid hmn;have HAR:Hid (Oi w2 _ (.slice sa iZ.length sc) iZ):=hmr;have HB2:Hid (Below _ _ w2):=hb2;(first | (have hBx2:=hBx1.at hb2;have hne:=Nat.ne_of_lt hl0;have cZ:=hid hBx2;obtain⟨_,⟨t0,t1,t2,t3,t4,t5⟩,tf⟩:=hBx2;have f0:=tf 0 (by omega);have f1:=tf 1 (by omega);have f2:=tf 2 (by omega);have f3:=tf 3 (by omega);have f4:=tf 4 (by omega);have f5:=tf 5 (by omega);clear tf hBx1) | (have hBx2:=(B6.new w1 _ _ _ _ _ _ 55).at hb2;have hne:=Nat.ne_of_lt hz1;have cZ:=hid hBx2;obtain⟨_,⟨t0,t1,t2,t3,t4,t5⟩,tf⟩:=hBx2;have f0:=tf 0 (by omega);have f1:=tf 1 (by omega);have f2:=tf 2 (by omega);have f3:=tf 3 (by omega);have f4:=tf 4 (by omega);have f5:=tf 5 (by omega);clear tf) | skip);clear hmn hmr))
   ·go_wp2
    go_meet;have hs0:=bD.out;have hCW:=Bd dW hC2;obtain⟨ho,hv⟩:=Aac (base:=w.heap.size+2) jl HAR hC2 (by show _<=W.heap.size;omega) (A4d _) (by have:=dW.size;omega);have hsz:=hCW.size;refine⟨w2.heap.size,⟨Oz, .slice ra fE.length rc,fE, .slice sa iZ.length sc,iZ⟩,rfl,⟨omz,B6.new _ _ _ _ _ _ _ _,ho.below (Aa _ _),λx hx e=>by(have h:=hv x hx _ e;have:=hC2.size;omega),(HZ.at hCW).at (Aa _ _),Bq hB2 _⟩,?_,(HA.at hCW).at (Aa _ _)⟩;rw[Aw.arm_eq];simp only;rw[jm.out,HAN.out,Xi]
   ·go_wp2
    go_meet;have hs0:=bD.out;have hCW:=Bd dW hC2;obtain⟨ho,hv⟩:=Aac (base:=w.heap.size+2) jl HAR hC2 (by show _<=W.heap.size;omega) spz (by have:=dW.size;simp;omega);have hsz:=hCW.size;have hs1:=dW.size;have hno:∀x∈(Aw.mk Oz (.slice ra fE.length rc) fE (.slice sa iZ.length sc) iZ).vals,x.ownBlock≠some w1.heap.size:=λx hx e=>by(have h:=hv x hx _ e;simp at h;omega)
    refine⟨w1.heap.size,⟨Oz, .slice ra fE.length rc,fE, .slice sa iZ.length sc,iZ⟩,rfl,⟨by omega,cZ.out.set6,Ic.setO6 ho hno,hno,(HZ.out.at hCW).set6O (by omega),by clear hb1 hb2 dW hC2;exact blA⟩,?_,(HA.out.at hCW).set6O (by omega)⟩;rw[Aw.arm_eq];simp only;rw[jm.out,HAN.out,Xi]
   ·go_wp2
    go_meet;have hs0:=bD.out;have hCW:=Bd dW hC2;obtain⟨ho,hv⟩:=Aac (base:=w.heap.size+2) jl HAR hC2 (by show _<=(W.alloc _).heap.size;simp;omega) (A4d _) (by have:=dW.size;omega);have hsz:=hCW.size;have hs1:=A37 (by show W.heap.size<(W.alloc _).heap.size;simp) HB1.size;have hno:∀x∈(Aw.mk Oz (.slice ra fE.length rc) fE (.slice sa iZ.length sc) iZ).vals,x.ownBlock≠some W.heap.size:=λx hx e=>by(have h:=hv x hx _ e;have h2:W.heap.size<(W.alloc (.cells #[.int .i64 0, .int .i64 0, .slice none 0 0, .slice none 0 0, .slice none 0 0, .slice none 0 0] 55)).drew.heap.size:=(by show W.heap.size<(W.alloc _).heap.size;simp);omega)
    refine⟨W.heap.size,⟨Oz, .slice ra fE.length rc,fE, .slice sa iZ.length sc,iZ⟩,rfl,⟨by omega,cZ.out.set6,Ic.setO6 ho hno,hno,(HZ.out.at hCW).set6O (by omega),by clear hb1 hb2 dW hC2;exact blA⟩,?_,(HA.out.at hCW).set6O (by omega)⟩;rw[Aw.arm_eq];simp only;rw[jm.out,HAN.out,Xi]
  case rest=>
   clear p4 p5 hBW hl0 bD HA HZ;obtain⟨B,m,rfl,hst,hma,hA⟩:=hcut;have HST:=hid hst;have fK:=hid hma;have HA:=hid hA;clear hst hma H1 H2;obtain⟨hA0,⟨p0',p1',p2',xW,um,ul⟩,y9⟩:=hA;clear y9;obtain⟨hB2,hbx,hao,hno,hzb,hbw⟩:=HST.out;obtain⟨t,ht⟩:∃t,t=Aq n:=⟨_,rfl⟩
   have HT:=hid ht;have gY:Hid (∀W,Below wc.heap.size wc W->Calls Tryz.prog 73 #[.agg #[.int .i64 n.kind, .int .i64 n.one.op, .slice p0 n.one.args.length r0, .slice p1 n.kids.length r1]] W λe w'=>e=.returned (.bool t)/\Below W.heap.size W w'):=by rw[ht];exact λW h=>H3 W (hbw.trans (h.mono hbw.size))
   have fF:Hid (t=false->∀W,Below wc.heap.size wc W->Calls Tryz.prog 74 #[.agg #[.int .i64 n.kind, .int .i64 n.one.op, .slice p0 n.one.args.length r0, .slice p1 n.kids.length r1]] W λe w'=>Nr w' W.heap.size (A7 n) e/\Below W.heap.size W w'):=by rw[ht];exact λhn W h=>H4 hn W (hbw.trans (h.mono hbw.size))
   clear ht H3 H4 hB2 hbx hao hno hzb hbw;go_upto_if 14 with(go_at_call 73;refine(gY _ blA).mono ?_;rintro e w3 ⟨rfl,hb3⟩;obtain⟨hc3,hf3⟩:=Dq hb3;have uD:=A37 hA0 hb3.size;have q0:w3.cell? ⟨w.heap.size,0,none⟩=_:=(hc3 _ _ hA0).trans p0';have q1:w3.cell? ⟨w.heap.size,1,none⟩=_:=(hc3 _ _ hA0).trans p1';have q2:w3.cell? ⟨w.heap.size,2,none⟩=_:=(hc3 _ _ hA0).trans p2';have q3:w3.cell? ⟨w.heap.size,3,none⟩=_:=(hc3 _ _ hA0).trans xW;clear hc3 hf3)
   clear gY;have iL:Hid (NSt w w3 B m):=by
    obtain⟨hB2,hbx,hao,hno,hzb,hbw⟩:=HST.out;exact⟨hB2,hbx.at hb3,hao.below hb3,hno,hzb.at hb3,Bd hbw hb3⟩
   have oU:=hid (λh=>fF h w3 hb3);clear HST HA hA0 p0' p1' p2' xW um ul hb3 fF;go_cut [] (λwd=>∃m:Aw,NSt w wd B m/\m.arm=⟨Rk n,cs,ks⟩)
   case first=>
    cases t with
    | true=>
     have dX:Hid (Rk n=n/\n=Stil.none0):=⟨if_pos HT.symm,Ym HT.symm⟩
     clear oU
     go_wp2
     go_meet;exact⟨m,iL.out,by rw[fK.out,dX.out.1,dX.out.2]⟩
    | false=>
     have dX:Hid (Rk n=A7 n):=if_neg (by rw[<-HT.out];exact Bool.false_ne_true);have HN4:=hid (oU rfl);clear oU
     go_wp2_with (go_at_call 74;refine HN4.mono ?_;rintro e w4 ⟨⟨mk,aG,aF,s0,t0,s1,t1,aC,rfl,hmo,hmn⟩,hb4⟩;have aJ:=hid hmo;have aH:=hid hmn;clear hmo hmn;have pJ:Hid (A3x w4 B m):=B6.at iL.2.1 hb4;obtain⟨hB0,⟨y0,y1,y2,y3,_,_⟩,dZ⟩:=pJ.out;have f0:=dZ 0 omz;have f1:=dZ 1 omz;have f2:=dZ 2 omz;have f3:=dZ 3 omz;clear dZ)
     go_meet;obtain⟨hB2,hbx,hao,hno,hzb,hbw⟩:=iL.out;have xu:=hb4.size;have hsz:=hbw.size;have hBl:=hbx.1;have hN:Ik w4 (w.heap.size+2) ⟨mk,aG,aF, .slice s0 aF.length t0, .slice s1 aC.length t1,aC⟩:=aJ.le omz;have xg:=Ic.setNet (hao.below hb4) hN (λx hx q hq=>(aJ.1.lt _ x hx q hq).1) (λx hx q hq=>(hao.1.lt _ x hx q hq).2);have nP:∀x∈(Aw.mk ⟨mk,aG,aF, .slice s0 aF.length t0, .slice s1 aC.length t1,aC⟩ m.cv m.coils m.kv m.kids).vals,x.ownBlock≠some B:=by
      intro x hx e;rw[Aw.vals_eq] at hx;rcases List.mem_append.1 hx with hx | hx
      ·have:=(aJ.1.lt _ x hx _ e).1;omega
      ·exact hno x (by rw[Aw.vals_eq];exact A4g _ hx) e
     refine⟨⟨⟨mk,aG,aF, .slice s0 aF.length t0, .slice s1 aC.length t1,aC⟩,m.cv,m.coils,m.kv,m.kids⟩,⟨hB2,B6.setN pJ.out,Ic.setN xg nP,nP,B6.set4O (hzb.at hb4) omz,?_⟩,?_⟩
     ·exact zD0
     ·exact zx0
   case rest=>
    rename_i wd;obtain⟨m2,hst,hma⟩:=hcut;clear fK iL oU q0 q1 q2 q3;have HST:=hid hst;have fK:=hid hma;clear hst hma
    go_wp2
    go_step3
    go_wp2
    go_loopg [] (Hq m2.arm.kids) (λk wr=>∃m:Aw,NSt w wr B m/\Stil.joined m.arm=T/\Xw 900000 m.arm/\Hq m.arm.kids<=k)
    case atStart=>
     exact⟨m2,HST.out,by rw[fK.out,HJ.out],by rw[fK.out];exact HM.out,A4d _⟩
    case round=>
     clear HST fK HJ HM HT;obtain⟨m3,hst,hjo,hmid,hgk⟩:=hrel;obtain⟨hB2,hbx,hao,hno,hzb,hbw⟩:=hst;obtain⟨k1,o1,d1,a1,c1,b1,e1,n1,f1,g1,s1,h1,j1,bG,rfl⟩:=V9 m3 hao.1;have fZ:B6 wr B (.int .i64 k1) (.int .i64 o1) (.slice a1 d1.length c1) (.slice b1 n1.length e1) (.slice f1 s1.length g1) (.slice h1 bG.length j1):=hbx;have cZ:=hid fZ;have dY:=hid hao;have dX:=hid hno;have rE:=hid hzb;have iC:=hid hbw;have wG:=hid hjo;have xO:=hid hmid;have HGK:=hid hgk;have HB2:=hid hB2;have hkl:bG.length<=900000/\s1.length<=900000:=by
      have h0:=hmid.2;rw[Aw.arm_eq,Cc] at h0;simp only[A4o] at h0;have h1:(bG.map Aw.arm).length<=Hq (bG.map Aw.arm):=Lc _;rw[A4o] at h1;omega
     obtain⟨uK,hkl2⟩:=hkl;obtain⟨hBs,⟨x0,x1,x2,x3,x4,x5⟩,dZ⟩:=fZ;obtain⟨hZs,⟨z0,z1,z2,z3,z4,z5⟩,kC⟩:=hzb;have y0:=kC 0 omz;have y1:=kC 1 omz;have y2:=kC 2 omz;have y3:=kC 3 omz;have y4:=kC 4 omz;have y5:=kC 5 omz;have hBne:w.heap.size+1≠B:=omz
     clear hbx hao hno hbw hjo hmid hgk hB2 kC uD;by_cases hk:bG.length=1
     ·obtain⟨kid,rfl⟩:=List.length_eq_one_iff.1 hk
      obtain⟨_,_,hkr,hka⟩:=(Hf _ _ _).1 dY.1;simp only at hkr hka;obtain⟨k2,o2,d2,a2,c2,b2,e2,n2,f2,g2,s2,h2,j2,aV,rfl⟩:=V9 kid (hka kid spz);obtain⟨g,rfl,hgs,q0,q1,q2,q3,q4,q5⟩:=Ajg hkr;simp only[A48] at*;have hkm:=(Hf _ _ _).1 (hka (Aw.mk ⟨k2,o2,d2, .slice a2 d2.length c2, .slice b2 n2.length e2,n2⟩ (.slice f2 s2.length g2) s2 (.slice h2 aV.length j2) aV) spz);obtain⟨hf3,hf4⟩:=MOk.from _ hkm.1;have HE:Hid ((Aw.mk ⟨k1,o1,d1, .slice a1 d1.length c1, .slice b1 n1.length e1,n1⟩ (.slice f1 s1.length g1) s1 (.slice (some ⟨g,0,none⟩) 1 j1) [(Aw.mk ⟨k2,o2,d2, .slice a2 d2.length c2, .slice b2 n2.length e2,n2⟩ (.slice f2 s2.length g2) s2 (.slice h2 aV.length j2) aV)]).arm=⟨(Ah.mk k1 o1 d1 (.slice a1 d1.length c1) (.slice b1 n1.length e1) n1).net,s1.map Df.elem,[⟨(Ah.mk k2 o2 d2 (.slice a2 d2.length c2) (.slice b2 n2.length e2) n2).net,s2.map Df.elem,aV.map Aw.arm⟩]⟩):=by
       show _=_
       rw[Aw.arm_eq];simp only[A4q,List.map_nil];rw[Aw.arm_eq (Aw.mk ⟨k2,o2,d2, .slice a2 d2.length c2, .slice b2 n2.length e2,n2⟩ (.slice f2 s2.length g2) s2 (.slice h2 aV.length j2) aV)]
      have uI:=xO.out;rw[HE.out] at uI;have hok:=Al7 uI (A4d _);simp only at hok;obtain⟨hM2,hS2,hF1,hF2,hL2,hK2⟩:=hok;simp only[A4o] at hL2;have oQ:Hid (∀W,Below wr.heap.size wr W->Calls Tryz.prog 73 #[.agg #[.int .i64 k2, .int .i64 o2, .slice a2 d2.length c2, .slice b2 n2.length e2]] W λe w'=>e=.returned (.bool (Aq (Ah.mk k2 o2 d2 (.slice a2 d2.length c2) (.slice b2 n2.length e2) n2).net))/\Below W.heap.size W w'):=by
       intro W h;have:=Si (Ah.mk k2 o2 d2 (.slice a2 d2.length c2) (.slice b2 n2.length e2) n2).net _ _ W (hf3.at.below h) (hf4.at.below h) hF2
       have e:=Ah.net_eq (Ah.mk k2 o2 d2 (.slice a2 d2.length c2) (.slice b2 n2.length e2) n2);have oI:(Ah.mk k2 o2 d2 (.slice a2 d2.length c2) (.slice b2 n2.length e2) n2).net.kind=k2:=by rw[e]
       have oH:(Ah.mk k2 o2 d2 (.slice a2 d2.length c2) (.slice b2 n2.length e2) n2).net.one.op=o2:=by rw[e]
       rw[oI,oH] at this;exact this
      have mG:=hid (λW h=>Aqj k1 o1 d1 a1 c1 b1 e1 n1 f1 g1 s1 (some ⟨g,0,none⟩) j1 k2 o2 d2 a2 c2 b2 e2 n2 f2 g2 s2 h2 j2 aV (w.heap.size+2) W (dY.below h) (A4k (by have:=HB2.out;omega) h.size) hS2 hF1 hF2 hL2);have hvm:Value.slice f1 s1.length g1∈(Aw.mk ⟨k1,o1,d1, .slice a1 d1.length c1, .slice b1 n1.length e1,n1⟩ (.slice f1 s1.length g1) s1 (.slice (some ⟨g,0,none⟩) 1 j1) [(Aw.mk ⟨k2,o2,d2, .slice a2 d2.length c2, .slice b2 n2.length e2,n2⟩ (.slice f2 s2.length g2) s2 (.slice h2 aV.length j2) aV)]).vals:=by rw[Aw.vals_eq];simp
      have dI:=hid (dX _ hvm);have pY:Hid (∀q,(Value.slice f1 s1.length g1).ownBlock=some q->w.heap.size<=q):=λq hq=>by have:=(dY.1.lt _ _ hvm q hq).1;omega
      have wO:Hid ((Value.slice f1 s1.length g1).ownBlock≠some (w.heap.size+1)):=λe=>by have:=(dY.1.lt _ _ hvm _ e).1;omega
      have jb:Hid (Hq (aV.map Aw.arm)<gk):=by
       have h1:=HGK.out;rw[HE.out] at h1;exact A37 hK2 h1
      have jW:=wG.out;rw[HE.out] at jW;obtain⟨X1,hX1⟩:∃X,X=(Ah.mk k1 o1 d1 (.slice a1 d1.length c1) (.slice b1 n1.length e1) n1).net:=⟨_,rfl⟩
      obtain⟨X2,hX2⟩:∃X,X=(Ah.mk k2 o2 d2 (.slice a2 d2.length c2) (.slice b2 n2.length e2) n2).net:=⟨_,rfl⟩
      obtain⟨t2,ht2⟩:∃t,t=Aq (Ah.mk k2 o2 d2 (.slice a2 d2.length c2) (.slice b2 n2.length e2) n2).net:=⟨_,rfl⟩
      obtain⟨OV,xG⟩:∃OV,OV=(Aw.mk ⟨k1,o1,d1, .slice a1 d1.length c1, .slice b1 n1.length e1,n1⟩ (.slice f1 s1.length g1) s1 (.slice (some ⟨g,0,none⟩) 1 j1) [(Aw.mk ⟨k2,o2,d2, .slice a2 d2.length c2, .slice b2 n2.length e2,n2⟩ (.slice f2 s2.length g2) s2 (.slice h2 aV.length j2) aV)]).vals:=⟨_,rfl⟩
      obtain⟨ln,hln⟩:∃ln,ln=s1.length:=⟨_,rfl⟩
      have fG:=hid hln;have HT2:=hid ht2;rw[<-ht2] at oQ;have pG:Hid (s1.map Df.elem=[]\/t2=true->Stil.joined ⟨Jq X1 X2,s1.map Df.elem++s2.map Df.elem,aV.map Aw.arm⟩=T):=by
       intro h;rw[hX1,hX2,<-jW];exact(Adp _ _ ⟨(Ah.mk k2 o2 d2 (.slice a2 d2.length c2) (.slice b2 n2.length e2) n2).net,s2.map Df.elem,aV.map Aw.arm⟩ (by rw[<-ht2];exact h)).symm
      have dF:Hid (Xw 900000 ⟨Jq X1 X2,s1.map Df.elem++s2.map Df.elem,aV.map Aw.arm⟩):=by rw[hX1,hX2];exact hM2
      have gy:Hid (∀x∈OV,x.ownBlock≠some B):=by rw[xG];exact dX.out
      rw[<-hX1,<-hX2,<-xG,<-hln] at mG;rw[<-hln] at x4 cZ hkl2 dI pY wO;have iV:=hid (λW (h:Below wr.heap.size wr W)=>dY.below h);clear hk hkr hka hkm hf3 hf4 uI hM2 hS2 hF1 hF2 hL2 hK2 jW hX1 hX2 ht2 xG hln hvm dY dX uK;by_cases hc:0<ln
      ·cases t2 with
       | false=>
        clear mG pG dZ
        go_wp2_with (go_at_call 73;refine(oQ _ blA).mono ?_;rintro e w4 ⟨rfl,hb4⟩;obtain⟨hc4,hf4⟩:=Dq hb4;have vK:=A37 hBs hb4.size;have uT:=A37 hZs hb4.size;have zn:w4.cell? ⟨B,0,none⟩=_:=(hc4 _ _ hBs).trans x0;have zl:w4.cell? ⟨B,1,none⟩=_:=(hc4 _ _ hBs).trans x1;have zk:w4.cell? ⟨B,2,none⟩=_:=(hc4 _ _ hBs).trans x2;have zi:w4.cell? ⟨B,3,none⟩=_:=(hc4 _ _ hBs).trans x3;have zh:w4.cell? ⟨B,4,none⟩=_:=(hc4 _ _ hBs).trans x4;have zg:w4.cell? ⟨B,5,none⟩=_:=(hc4 _ _ hBs).trans x5;have v0:w4.cell? ⟨w.heap.size+1,0,none⟩=_:=(hc4 _ _ hZs).trans z0;have v1:w4.cell? ⟨w.heap.size+1,1,none⟩=_:=(hc4 _ _ hZs).trans z1;have v2:w4.cell? ⟨w.heap.size+1,2,none⟩=_:=(hc4 _ _ hZs).trans z2;have v3:w4.cell? ⟨w.heap.size+1,3,none⟩=_:=(hc4 _ _ hZs).trans z3;have v4:w4.cell? ⟨w.heap.size+1,4,none⟩=_:=(hc4 _ _ hZs).trans z4;have v5:w4.cell? ⟨w.heap.size+1,5,none⟩=_:=(hc4 _ _ hZs).trans z5;have vf0:w4.frozen? ⟨w.heap.size+1,0,none⟩=_:=(hf4 _ _ hZs).trans y0;have vf1:w4.frozen? ⟨w.heap.size+1,1,none⟩=_:=(hf4 _ _ hZs).trans y1;have vf2:w4.frozen? ⟨w.heap.size+1,2,none⟩=_:=(hf4 _ _ hZs).trans y2;have vf3:w4.frozen? ⟨w.heap.size+1,3,none⟩=_:=(hf4 _ _ hZs).trans y3;have vf4:w4.frozen? ⟨w.heap.size+1,4,none⟩=_:=(hf4 _ _ hZs).trans y4;have vf5:w4.frozen? ⟨w.heap.size+1,5,none⟩=_:=(hf4 _ _ hZs).trans y5;clear hc4 hf4)
        have wV:=hid (Bd iC hb4);have jQ:=iV w4 hb4;rw[Exit.noGoto_ret];refine bodyPost_ret (v:=.agg #[.int .i64 k1, .int .i64 o1, .slice a1 d1.length c1, .slice b1 n1.length e1, .slice f1 ln g1, .slice (some ⟨g,0,none⟩) 1 j1]) (by simp[results,Tryz.results45,go_sem,v0,v1,v2,v3,v4,v5]) rfl ⟨⟨k1,o1,d1,a1,c1,n1,b1,e1,s1,f1,g1,[(Aw.mk ⟨k2,o2,d2, .slice a2 d2.length c2, .slice b2 n2.length e2,n2⟩ (.slice f2 s2.length g2) s2 (.slice h2 aV.length j2) aV)],(some ⟨g,0,none⟩),j1,by rw[<-fG.out];rfl,?_,?_⟩,?_⟩
        ·exact Ic.le (Ic.setO6 (base:=w.heap.size+2) jQ (λx hx e=>by have:=(jQ.1.lt _ x hx _ e).1;omega)) omz
        ·exact zR
        ·exact zu0
       | true=>
        have HJ2:=hid (pG (.inr rfl));clear pG dZ iV HE HT2 z0 z1 z2 z3 z4 z5 y0 y1 y2 y3 y4 y5;go_upto_region 6 with(go_at_call 73;refine(oQ _ blA).mono ?_;rintro e w4 ⟨rfl,hb4⟩;obtain⟨hc4,hf4⟩:=Dq hb4;have vK:=A37 hBs hb4.size;have uT:=A37 hZs hb4.size;have zn:w4.cell? ⟨B,0,none⟩=_:=(hc4 _ _ hBs).trans x0;have zl:w4.cell? ⟨B,1,none⟩=_:=(hc4 _ _ hBs).trans x1;have zk:w4.cell? ⟨B,2,none⟩=_:=(hc4 _ _ hBs).trans x2;have zi:w4.cell? ⟨B,3,none⟩=_:=(hc4 _ _ hBs).trans x3;have zh:w4.cell? ⟨B,4,none⟩=_:=(hc4 _ _ hBs).trans x4;have zg:w4.cell? ⟨B,5,none⟩=_:=(hc4 _ _ hBs).trans x5;have Q0:w4.cell? ⟨g,0,none⟩=_:=(hc4 _ _ hgs).trans q0;have Q1:w4.cell? ⟨g,1,none⟩=_:=(hc4 _ _ hgs).trans q1;have Q2:w4.cell? ⟨g,2,none⟩=_:=(hc4 _ _ hgs).trans q2;have Q3:w4.cell? ⟨g,3,none⟩=_:=(hc4 _ _ hgs).trans q3;have Q4:w4.cell? ⟨g,4,none⟩=_:=(hc4 _ _ hgs).trans q4;have Q5:w4.cell? ⟨g,5,none⟩=_:=(hc4 _ _ hgs).trans q5;have xy:=A37 hgs hb4.size;clear hc4 hf4)
        have fH:=hid (cZ.at hb4);have kH:=hid (rE.at hb4);have iU:=hid (Bd iC hb4);have HJN:=hid (λW h=>mG W (Bd hb4 h));clear mG x0 x1 x2 x3 x4 x5 q0 q1 q2 q3 q4 q5 hb4 oQ
        go_region_with (first | (go_at_call 75;refine(HJN _ (by exact(Below.refl _ _).drew)).mono ?_;rintro e w5 ⟨⟨mk,aG,aF,xa,ya,bT,xb,yb,bU,xc,yc,aC,xd,yd,rfl,hmo,hmn,hvs⟩,hg5⟩;have aJ:=hid hmo;have aH:=hid hmn;have eF:Hid (∀x∈(Aw.mk ⟨mk,aG,aF, .slice xa aF.length ya, .slice xb bT.length yb,bT⟩ (.slice xc bU.length yc) bU (.slice xd aC.length yd) aC).vals,∀q,x.ownBlock=some q->(∃y∈OV,y.ownBlock=some q)\/w4.heap.size<=q):=hvs;have mQ:=hid hg5;have fJ:=hid ((fH.drew).grown hg5 dI.out);obtain⟨oG,⟨t0,t1,t2,t3,t4,t5⟩,tf⟩:=fJ.out;have u0:=tf 0 omz;have u1:=tf 1 omz;have u2:=tf 2 omz;have u3:=tf 3 omz;have u4:=tf 4 omz;have u5:=tf 5 omz;clear hmo hmn hvs tf))
        all_goals
         go_wp2
         go_roundg (Hq (aV.map Aw.arm))
         rotate_left
         ·exact jb.out
         ·exact zp
      ·obtain rfl:ln=0:=by omega
       have HJ2:=hid (pG (.inl (by rw[List.length_eq_zero_iff.1 fG.out.symm];rfl)));clear pG dZ iV HE HT2 z0 z1 z2 z3 z4 z5 y0 y1 y2 y3 y4 y5 oQ;go_upto_region 6 with fail
       have fH:=hid cZ.out;have kH:=hid rE.out;have iU:=hid iC.out;have HJN:=hid mG.out;clear mG
       go_region_with (first | (go_at_call 75;refine(HJN _ (by exact(Below.refl _ _).drew)).mono ?_;rintro e w5 ⟨⟨mk,aG,aF,xa,ya,bT,xb,yb,bU,xc,yc,aC,xd,yd,rfl,hmo,hmn,hvs⟩,hg5⟩;have aJ:=hid hmo;have aH:=hid hmn;have eF:Hid (∀x∈(Aw.mk ⟨mk,aG,aF, .slice xa aF.length ya, .slice xb bT.length yb,bT⟩ (.slice xc bU.length yc) bU (.slice xd aC.length yd) aC).vals,∀q,x.ownBlock=some q->(∃y∈OV,y.ownBlock=some q)\/wr.heap.size<=q):=hvs;have mQ:=hid hg5;have fJ:=hid ((fH.drew).grown hg5 dI.out);obtain⟨oG,⟨t0,t1,t2,t3,t4,t5⟩,tf⟩:=fJ.out;have u0:=tf 0 omz;have u1:=tf 1 omz;have u2:=tf 2 omz;have u3:=tf 3 omz;have u4:=tf 4 omz;have u5:=tf 5 omz;clear hmo hmn hvs tf))
       all_goals
        go_wp2
        go_roundg (Hq (aV.map Aw.arm))
        rotate_left
        ·exact jb.out
        ·exact zp
     ·have hkb:((bG.length:Int) !=1)=true:=by rw[bne_iff_ne];omega
      have HST:=hid (λkid (e:(bG.map Aw.arm)=[kid])=>hk (by have:=congrArg List.length e;simpa using this));clear hk dZ
      go_wp2
      rw[Exit.noGoto_ret];refine bodyPost_ret (v:=.agg #[.int .i64 k1, .int .i64 o1, .slice a1 d1.length c1, .slice b1 n1.length e1, .slice f1 s1.length g1, .slice h1 bG.length j1]) (by simp[results,Tryz.results45,go_sem,z0,z1,z2,z3,z4,z5]) rfl ⟨⟨k1,o1,d1,a1,c1,n1,b1,e1,s1,f1,g1,bG,h1,j1,rfl,?_,?_⟩,?_⟩
      ·exact Ic.le (Ic.setO6 (base:=w.heap.size+2) dY (λx hx e=>by have:=(dY.1.lt _ x hx _ e).1;omega)) omz
      ·rw[<-wG.out]
       refine(Qn _ ?_).symm;intro kid e _;rw[Aw.arm_eq] at e;exact HST kid e
      ·exact zv0
end Go.Proofs.YtbfljjcnbbmoaaaGreatDoor
