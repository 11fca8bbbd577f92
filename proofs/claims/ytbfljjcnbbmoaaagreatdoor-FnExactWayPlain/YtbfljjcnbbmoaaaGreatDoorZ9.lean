import Derived.Test.YtbfljjcnbbmoaaaGreatDoorGt
import Derived.Test.YtbfljjcnbbmoaaaGreatDoorY7g
import Derived.Deep.LoopGhost
import Derived.Deep.RegionHeld3
namespace Go.Proofs.YtbfljjcnbbmoaaaGreatDoor
open Stil
open Go.RowKit Go.Sort Go.BigFrame
def Oe:Ah:=⟨0,0,[], .slice none 0 0, .slice none 0 0,[]⟩
theorem We:Oe.net=Stil.none0:=by rw[Ah.net_eq];rfl
theorem X4:Oe.vals=[.slice none 0 0, .slice none 0 0]:=by rw[Ah.vals_eq];rfl
theorem Aic (w:World) (base:Nat):MOk w base Oe:=(Hq _ _ _).2 ⟨World.ownsRow_nil _ _ _ _,World.ownsRow_nil _ _ _ _,λx hx=>by cases hx⟩
theorem Ak6 {x:Value} (hx:x∈Oe.vals):x.ownBlock=none:=by
 rw[X4] at hx;simp only[A4y,List.mem_nil_iff,or_false,or_self] at hx;rw[hx];rfl
theorem Zm {w1 w2:World} {base lE lA:Nat} {cv kv:Value} {ems:List Cm} {ams:List Au} (hE:Ou w1 lE cv ems) (hA:Na w2 lA kv ams) (hb:Below w1.heap.size w1 w2) (h1:base<=lE) (h2:w1.heap.size<=lA) (h3:base<=lA):
  Hy w2 base ⟨Oe,cv,ems,kv,ams⟩/\∀x∈(Au.mk Oe cv ems kv ams).vals,∀q,x.ownBlock=some q->(lE<=q/\q<w1.heap.size)\/(lA<=q/\q<w2.heap.size):=by
 have hv:(Au.mk Oe cv ems kv ams).vals=Oe.vals++((cv::Et ems)++(kv::Fp ams)):=Au.vals_eq _;have hE2:=(hE.below hb).le h1;have hA2:=hA.le h3;refine⟨⟨(G8 _ _ _).2 ⟨Aic _ _,⟨hE2.1,hE2.2.1⟩,hA2.1,hA2.2.1⟩,?_⟩,?_⟩
 ·rw[hv,A40]
  refine⟨?_,List.pairwise_append.2 ⟨hE.2.2,hA.2.2,λx hx y hy=>Eb (n:=w1.heap.size) (λk hk=>(hE.lt x hx k hk).2) (λk hk=>A4p h2 (hA.lt y hy k hk).1)⟩,λx hx y _=>.inl (Ak6 hx)⟩;rw[X4];exact List.pairwise_cons.2 ⟨λy _=>Lu y,List.pairwise_singleton _ _⟩
 ·intro x hx q hq
  rw[hv] at hx;rcases List.mem_append.1 hx with hx | hx
  ·rw[Ak6 hx] at hq;cases hq
  rcases List.mem_append.1 hx with hx | hx
  ·exact .inl (hE.lt x hx q hq)
  ·exact .inr (hA.lt x hx q hq)
theorem Hy.setNet {w:World} {base lo:Nat} {m:Au} {mN:Ah} (h:Hy w base m) (hn:Ib w base mN) (hl:∀x∈mN.vals,∀q,x.ownBlock=some q->lo<=q) (hm:∀x∈m.vals,∀q,x.ownBlock=some q->q<lo):Hy w base ⟨mN,m.cv,m.coils,m.kv,m.kids⟩:=by
 obtain⟨h1,hp⟩:=h;obtain⟨_,h3,h4,h5⟩:=(G8 _ _ _).1 h1;have hv:(Au.mk mN m.cv m.coils m.kv m.kids).vals=mN.vals++((m.cv::Et m.coils)++(m.kv::Fp m.kids)):=Au.vals_eq _;have hv2:m.vals=m.net.vals++((m.cv::Et m.coils)++(m.kv::Fp m.kids)):=Au.vals_eq _;rw[hv2] at hp hm;refine⟨(G8 _ _ _).2 ⟨hn.1,h3,h4,h5⟩,?_⟩;rw[hv];exact List.pairwise_append.2 ⟨hn.2,(List.pairwise_append.1 hp).2.1,λx hx y hy=>(Eb (n:=lo) (hm y (A4l _ hy)) (hl x hx)).symm⟩
theorem Hy.setN {w:World} {base b:Nat} {m:Au} {u0 u1 u2 u3:Value} (h:Hy w base m) (hb:∀x∈m.vals,x.ownBlock≠some b):Hy ((((w.setCell ⟨b,0,none⟩ u0).setCell ⟨b,1,none⟩ u1).setCell ⟨b,2,none⟩ u2).setCell ⟨b,3,none⟩ u3) base m:=
 Hy.setO (Hy.setO (Hy.setO (Hy.setO h (a:=⟨b,0,none⟩) hb u0) (a:=⟨b,1,none⟩) hb u1) (a:=⟨b,2,none⟩) hb u2) (a:=⟨b,3,none⟩) hb u3
theorem Vl {w:World} {base:Nat} (m:Au) (h:AOk w base m):∃k o d a1 c1 a2 c2 ns a3 c3 cs a4 c4 ks,m=⟨⟨k,o,d, .slice a1 d.length c1, .slice a2 ns.length c2,ns⟩, .slice a3 cs.length c3,cs, .slice a4 ks.length c4,ks⟩:=by
 obtain⟨⟨k,o,d,av,nv,ns⟩,cv,cs,kv,ks⟩:=m;obtain⟨h1,⟨h2,_⟩,h4,_⟩:=(G8 _ _ _).1 h;obtain⟨h5,h6,_⟩:=(Hq _ _ _).1 h1;simp only at h2 h4 h5 h6;obtain⟨a1,c1,rfl⟩:=Af h5;obtain⟨a2,c2,rfl⟩:=Af h6;obtain⟨a3,c3,rfl⟩:=Af h2;obtain⟨a4,c4,rfl⟩:=Af h4;exact⟨k,o,d,a1,c1,a2,c2,ns,a3,c3,cs,a4,c4,ks,rfl⟩
theorem Aiq {w:World} {base:Nat} {a:Option Addr} {c:Nat} {m:Au} (h:w.ownsRow base 55 6 (.slice a 1 c) 1 (Fj [m])):∃g,a=some ⟨g,0,none⟩/\g<w.heap.size/\w.cell? ⟨g,0,none⟩=some (.int .i64 m.net.kind)/\w.cell? ⟨g,1,none⟩=some (.int .i64 m.net.op)/\w.cell? ⟨g,2,none⟩=some m.net.av/\w.cell? ⟨g,3,none⟩=some m.net.kv/\w.cell? ⟨g,4,none⟩=some m.cv/\w.cell? ⟨g,5,none⟩=some m.kv:=by
 obtain⟨g,cap,hv,_,hlt,_,hcell⟩:=Aw h (by omega);simp only[Value.slice.injEq] at hv;obtain⟨q1,q2,q3,q4,q5,q6⟩:=Ll [m] 0 (by simp);exact⟨g,hv.1,hlt,by simpa using hcell _ _ q1,by simpa using hcell _ _ q2,by simpa using hcell _ _ q3,by simpa using hcell _ _ q4,by simpa using hcell _ _ q5,by simpa using hcell _ _ q6⟩
def NSt (w wc:World) (B:Nat) (m:Au):Prop:=w.heap.size+2<=B/\A31 wc B m/\Hy wc (w.heap.size+2) m/\(∀x∈m.vals,x.ownBlock≠some B)/\B6 wc (w.heap.size+1) (.int .i64 0) (.int .i64 0) (.slice none 0 0) (.slice none 0 0) (.slice none 0 0) (.slice none 0 0)/\Below w.heap.size w wc
set_option maxHeartbeats 4000000 in
set_option maxRecDepth 100000 in
theorem Au5 (a:Stil.Arm):C9 a->A7 a<=900000->∀(av nv cv kv:Value) (w:World),Bg w av a.net.one.args->Dq w nv a.net.kids->Ef w cv a.coils->Dv w kv a.kids->Calls Tryz.prog 45 #[.agg #[.int .i64 a.net.kind, .int .i64 a.net.one.op,av,nv,cv,kv]] w λe w'=>Adt w' w.heap.size (Dc a) e/\Below w.heap.size w w':=by
 induction a using Fz with
 | h n cs kids ih=>
  intro hft hsz av nv cv kv w hav hnv hcv hkv;obtain⟨hnf,hcl,hcf,hkl,hkf⟩:=(Ee _ _ _).1 hft;simp only at hav hnv hcv hkv;have hks:∀x∈kids,A7 x<=900000:=by
   intro x hx;have:A7 x<=Hr kids:=Ew A7 kids x hx;rw[Dp] at hsz;omega
  have hkn:kids.length<=999999:=by
   have h1:kids.length<=Hr kids:=by
    clear ih hft hsz hkv hkl hkf hks;unfold Hr;induction kids with
    | nil=>simp
    | cons x r ihr=>
     have:=Stil.Jr x
     simp only[A4e,A4v,List.sum_cons];omega
   rw[Dp] at hsz;omega
  have hcn:cs.length<=999999:=by
   rw[Dp] at hsz;omega
  have hns:Aq n=false->Aj n<=999999:=by
   intro h;rw[Dp] at hsz;have e:Stil.nsz n=Aj n:=if_neg (by rw[h];exact Bool.false_ne_true);omega
  have H1:=hid (λW h=>Alk cs (λx hx av w hav=>Afa x.op av x.args w hav (hcf x hx).2.1) cv W (hcv.below h) hcn);have H2:=hid (λW h=>Acx kids (λx hx=>ih x hx (hkf x hx) (hks x hx)) kv W (hkv.below h) hkn);have H3:=hid (λW h=>Uc n av nv W (hav.below h) (hnv.below h) hnf);have H4:=hid (λhn W h=>Au4 n hnf (hns hn) av nv W (hav.below h) (hnv.below h));have HJ:=hid (Kz n cs kids);have HM:Hid (Xa 900000 ⟨Qq n,cs,kids.map Dc⟩):=by
   have:=Ag9 hft hsz (λx hx=>V9 x (hkf x hx) (hks x hx))
   exact⟨this.1,A4p this.2 hsz⟩
  obtain⟨T,hT⟩:∃T,T=Dc ⟨n,cs,kids⟩:=⟨_,rfl⟩
  rw[<-hT] at HJ ⊢;obtain⟨ks,hks'⟩:∃ks,ks=kids.map Dc:=⟨_,rfl⟩
  rw[<-hks'] at HJ HM H2;obtain⟨p0,r0,rfl,hz0⟩:=hav;obtain⟨p1,r1,rfl,hz1⟩:=hnv;obtain⟨p2,r2,rfl,hz2⟩:=hcv;obtain⟨p3,r3,rfl,hz3⟩:=hkv;clear hz0 hz1 hz2 hz3 ih hft hsz hnf hcl hcf hkl hkf hks hkn hcn hns hT hks';go_enter Tryz.func45,Tryz.ntmps45;go_upto_region 1 with fail
  go_step3
  go_upto_region 1 with fail
  obtain⟨W,hW⟩:∃W,W=(w.alloc (.cells #[.int .i64 n.kind, .int .i64 n.one.op, .slice p0 n.one.args.length r0, .slice p1 n.kids.length r1, .slice p2 cs.length r2, .slice p3 kids.length r3] 55)).alloc (.cells #[.int .i64 0, .int .i64 0, .slice none 0 0, .slice none 0 0, .slice none 0 0, .slice none 0 0] 55):=⟨_,rfl⟩
  rw[<-hW];have hA:B6 W w.heap.size (.int .i64 n.kind) (.int .i64 n.one.op) (.slice p0 n.one.args.length r0) (.slice p1 n.kids.length r1) (.slice p2 cs.length r2) (.slice p3 kids.length r3):=by rw[hW];exact(B6.new w _ _ _ _ _ _ _).at (Aa _ _)
  have hZ:B6 W (w.heap.size+1) (.int .i64 0) (.int .i64 0) (.slice none 0 0) (.slice none 0 0) (.slice none 0 0) (.slice none 0 0):=by rw[hW];have:=B6.new (w.alloc (.cells #[.int .i64 n.kind, .int .i64 n.one.op, .slice p0 n.one.args.length r0, .slice p1 n.kids.length r1, .slice p2 cs.length r2, .slice p3 kids.length r3] 55)) (.int .i64 0) (.int .i64 0) (.slice none 0 0) (.slice none 0 0) (.slice none 0 0) (.slice none 0 0) 55;simpa using this
  have hsW:W.heap.size=w.heap.size+2:=by rw[hW];simp
  have hBW:Below w.heap.size w W:=by rw[hW];exact Bl (Aa _ _) _
  clear hW;have HA:=hid hA;have HZ:=hid hZ;have HSW:=hid hsW;have hl0:w.heap.size<W.heap.size:=by omega
  obtain⟨_,⟨_,_,_,_,p4,p5⟩,_⟩:=hA;clear hZ hsW;go_cut [3] (λs3 wc=>∃(B:Nat) (m:Au),s3=.pointer (some ⟨B,0,none⟩)/\NSt w wc B m/\m.arm=⟨Stil.none0,cs,ks⟩/\B6 wc w.heap.size (.int .i64 n.kind) (.int .i64 n.one.op) (.slice p0 n.one.args.length r0) (.slice p1 n.kids.length r1) (.slice p2 cs.length r2) (.slice p3 kids.length r3))
  case first=>
   go_region_held3 (λW'=>(W'.cell? ⟨w.heap.size,4,none⟩=some (.slice p2 cs.length r2)/\W'.cell? ⟨w.heap.size,5,none⟩=some (.slice p3 kids.length r3))) (first | with_reducible assumption | with_reducible exact⟨Hg.trans p4,Hg.trans p5⟩ | with_reducible exact⟨Hg.trans ((Ed hl0).trans p4),Hg.trans ((Ed hl0).trans p5)⟩ | with_reducible exact⟨(Ed hz2).trans hS2.1,(Ed hz2).trans hS2.2⟩ | with_reducible exact⟨(Ed hz1).trans hS1.1,(Ed hz1).trans hS1.2⟩ | with_reducible exact⟨set6O hne hS2.1,set6O hne hS2.2⟩ | with_reducible exact⟨set6O (Nat.ne_of_lt hz2) ((Ed hz2).trans hS2.1),set6O (Nat.ne_of_lt hz2) ((Ed hz2).trans hS2.2)⟩ | skip) (first | (go_at_call 71;refine(H1.out _ (by first | exact hBW.drew | exact(Bl hBW _).drew)).mono ?_;rintro e w1 ⟨ra,rc,ems,rfl,hmn,hmr,hb1⟩;have hC1:Below W.heap.size W w1:=(by first | exact Cj (Below.refl _ _).drew hb1 | exact Cj (Bl (Below.refl _ _) _).drew hb1);have hB1:=hBW.trans (hC1.mono hBW.size);have hz1:=A4c hl0 hC1.size;have hS1:(w1.cell? ⟨w.heap.size,4,none⟩=some (.slice p2 cs.length r2)/\w1.cell? ⟨w.heap.size,5,none⟩=some (.slice p3 kids.length r3)):=⟨(hC1.cell (p:=⟨w.heap.size,4,none⟩) hl0).trans p4,(hC1.cell (p:=⟨w.heap.size,5,none⟩) hl0).trans p5⟩;have HEN:=hid hmn;have HER:Hid (Ou w1 _ (.slice ra ems.length rc) ems):=hmr;have HB1:Hid (Below _ _ w1):=hb1;(try have hBx1:=(B6.new W _ _ _ _ _ _ 55).drew.at hb1);clear hmn hmr) | (go_at_call 44;refine(H2.out _ (by first | exact hB1 | exact Bl hB1 _)).mono ?_;rintro e w2 ⟨sa,sc,ams,rfl,hmn,hmr,hb2⟩;have hC2:Below w1.heap.size w1 w2:=(by first | exact hb2 | exact Cj (Bl (Below.refl _ _) _) hb2);have hB2:=hB1.trans (hC2.mono hB1.size);have hz2:=A4c hz1 hC2.size;have hS2:(w2.cell? ⟨w.heap.size,4,none⟩=some (.slice p2 cs.length r2)/\w2.cell? ⟨w.heap.size,5,none⟩=some (.slice p3 kids.length r3)):=⟨(hC2.cell (p:=⟨w.heap.size,4,none⟩) hz1).trans hS1.1,(hC2.cell (p:=⟨w.heap.size,5,none⟩) hz1).trans hS1.2⟩;have HAN:=hid hmn;have HAR:Hid (Na w2 _ (.slice sa ams.length sc) ams):=hmr;have HB2:Hid (Below _ _ w2):=hb2;(first | (have hBx2:=hBx1.at hb2;have hne:=Nat.ne_of_lt hl0;have HBX:=hid hBx2;obtain⟨_,⟨t0,t1,t2,t3,t4,t5⟩,tf⟩:=hBx2;have f0:=tf 0 (by omega);have f1:=tf 1 (by omega);have f2:=tf 2 (by omega);have f3:=tf 3 (by omega);have f4:=tf 4 (by omega);have f5:=tf 5 (by omega);clear tf hBx1) | (have hBx2:=(B6.new w1 _ _ _ _ _ _ 55).at hb2;have hne:=Nat.ne_of_lt hz1;have HBX:=hid hBx2;obtain⟨_,⟨t0,t1,t2,t3,t4,t5⟩,tf⟩:=hBx2;have f0:=tf 0 (by omega);have f1:=tf 1 (by omega);have f2:=tf 2 (by omega);have f3:=tf 3 (by omega);have f4:=tf 4 (by omega);have f5:=tf 5 (by omega);clear tf) | skip);clear hmn hmr))
   ·go_wp2
    go_meet;have hs0:=HSW.out;have hCW:=Cj hC1 hC2;obtain⟨ho,hv⟩:=Zm (base:=w.heap.size+2) HER.out HAR.out hC2 (by show _<=W.heap.size;omega) (A4i _) (by have:=hC1.size;omega);have hsz:=hCW.size;refine⟨w2.heap.size,⟨Oe, .slice ra ems.length rc,ems, .slice sa ams.length sc,ams⟩,rfl,⟨by omega,B6.new _ _ _ _ _ _ _ _,ho.below (Aa _ _),λx hx e=>by(have h:=hv x hx _ e;have:=hC2.size;omega),(HZ.out.at hCW).at (Aa _ _),Bl hB2 _⟩,?_,(HA.out.at hCW).at (Aa _ _)⟩;rw[Au.arm_eq];simp only;rw[HEN.out,HAN.out,We]
   ·go_wp2
    go_meet;have hs0:=HSW.out;have hCW:=Cj hC1 hC2;obtain⟨ho,hv⟩:=Zm (base:=w.heap.size+2) HER.out HAR.out hC2 (by show _<=W.heap.size;omega) (by simp) (by have:=hC1.size;simp;omega);have hsz:=hCW.size;have hs1:=hC1.size;have hno:∀x∈(Au.mk Oe (.slice ra ems.length rc) ems (.slice sa ams.length sc) ams).vals,x.ownBlock≠some w1.heap.size:=λx hx e=>by(have h:=hv x hx _ e;simp at h;omega)
    refine⟨w1.heap.size,⟨Oe, .slice ra ems.length rc,ems, .slice sa ams.length sc,ams⟩,rfl,⟨by omega,HBX.out.set6,Hy.setO6 ho hno,hno,(HZ.out.at hCW).set6O (by omega),by clear hb1 hb2 hC1 hC2;(repeat (first | with_reducible exact Below.refl _ _ | with_reducible assumption | with_reducible refine Bv (by first | exact A4i _ | (simp;done) | (simp;omega) | omega) ?_ _ | with_reducible refine Bl ?_ _ | with_reducible refine G9 ?_ _ | with_reducible refine Ij ?_ | with_reducible refine G7 ?_ _ _ | with_reducible refine Cj ?_ (by assumption)))⟩,?_,(HA.out.at hCW).set6O (by omega)⟩;rw[Au.arm_eq];simp only;rw[HEN.out,HAN.out,We]
   ·go_wp2
    go_meet;have hs0:=HSW.out;have hCW:=Cj hC1 hC2;obtain⟨ho,hv⟩:=Zm (base:=w.heap.size+2) HER.out HAR.out hC2 (by show _<=(W.alloc _).heap.size;simp;omega) (A4i _) (by have:=hC1.size;omega);have hsz:=hCW.size;have hs1:=A4c (by show W.heap.size<(W.alloc _).heap.size;simp) HB1.out.size;have hno:∀x∈(Au.mk Oe (.slice ra ems.length rc) ems (.slice sa ams.length sc) ams).vals,x.ownBlock≠some W.heap.size:=λx hx e=>by(have h:=hv x hx _ e;have h2:W.heap.size<(W.alloc (.cells #[.int .i64 0, .int .i64 0, .slice none 0 0, .slice none 0 0, .slice none 0 0, .slice none 0 0] 55)).drew.heap.size:=(by show W.heap.size<(W.alloc _).heap.size;simp);omega)
    refine⟨W.heap.size,⟨Oe, .slice ra ems.length rc,ems, .slice sa ams.length sc,ams⟩,rfl,⟨by omega,HBX.out.set6,Hy.setO6 ho hno,hno,(HZ.out.at hCW).set6O (by omega),by clear hb1 hb2 hC1 hC2;(repeat (first | with_reducible exact Below.refl _ _ | with_reducible assumption | with_reducible refine Bv (by first | exact A4i _ | (simp;done) | (simp;omega) | omega) ?_ _ | with_reducible refine Bl ?_ _ | with_reducible refine G9 ?_ _ | with_reducible refine Ij ?_ | with_reducible refine G7 ?_ _ _ | with_reducible refine Cj ?_ (by assumption)))⟩,?_,(HA.out.at hCW).set6O (by omega)⟩;rw[Au.arm_eq];simp only;rw[HEN.out,HAN.out,We]
  case rest=>
   clear p4 p5 hBW hl0 HSW HA HZ;obtain⟨B,m,rfl,hst,hma,hA⟩:=hcut;have HST:=hid hst;have HMA:=hid hma;have HA:=hid hA;clear hst hma H1 H2;obtain⟨hA0,⟨p0',p1',p2',p3',p4',p5'⟩,hAf⟩:=hA;clear hAf;obtain⟨hB2,hbx,hao,hno,hzb,hbw⟩:=HST.out;obtain⟨t,ht⟩:∃t,t=Aq n:=⟨_,rfl⟩
   have HT:=hid ht;have HN1:Hid (∀W,Below wc.heap.size wc W->Calls Tryz.prog 73 #[.agg #[.int .i64 n.kind, .int .i64 n.one.op, .slice p0 n.one.args.length r0, .slice p1 n.kids.length r1]] W λe w'=>e=.returned (.bool t)/\Below W.heap.size W w'):=by rw[ht];exact λW h=>H3.out W (hbw.trans (h.mono hbw.size))
   have HN2:Hid (t=false->∀W,Below wc.heap.size wc W->Calls Tryz.prog 74 #[.agg #[.int .i64 n.kind, .int .i64 n.one.op, .slice p0 n.one.args.length r0, .slice p1 n.kids.length r1]] W λe w'=>L9 w' W.heap.size (Az n) e/\Below W.heap.size W w'):=by rw[ht];exact λhn W h=>H4.out hn W (hbw.trans (h.mono hbw.size))
   clear ht H3 H4 hB2 hbx hao hno hzb hbw;go_upto_if 14 with(go_at_call 73;refine(HN1.out _ blA).mono ?_;rintro e w3 ⟨rfl,hb3⟩;obtain⟨hc3,hf3⟩:=Dl hb3;have hza3:=A4c hA0 hb3.size;have q0:w3.cell? ⟨w.heap.size,0,none⟩=_:=(hc3 _ _ hA0).trans p0';have q1:w3.cell? ⟨w.heap.size,1,none⟩=_:=(hc3 _ _ hA0).trans p1';have q2:w3.cell? ⟨w.heap.size,2,none⟩=_:=(hc3 _ _ hA0).trans p2';have q3:w3.cell? ⟨w.heap.size,3,none⟩=_:=(hc3 _ _ hA0).trans p3';clear hc3 hf3)
   clear HN1;have HST3:Hid (NSt w w3 B m):=by
    obtain⟨hB2,hbx,hao,hno,hzb,hbw⟩:=HST.out;exact⟨hB2,hbx.at hb3,hao.below hb3,hno,hzb.at hb3,Cj hbw hb3⟩
   have HN3:=hid (λh=>HN2.out h w3 hb3);clear HST HA hA0 p0' p1' p2' p3' p4' p5' hb3 HN2;go_cut [] (λwd=>∃m:Au,NSt w wd B m/\m.arm=⟨Qq n,cs,ks⟩)
   case first=>
    cases t with
    | true=>
     have HNO:Hid (Qq n=n/\n=Stil.none0):=⟨if_pos HT.out.symm,Z5 HT.out.symm⟩
     clear HN3
     go_wp2
     go_meet;exact⟨m,HST3.out,by rw[HMA.out,HNO.out.1,HNO.out.2]⟩
    | false=>
     have HNO:Hid (Qq n=Az n):=if_neg (by rw[<-HT.out];exact Bool.false_ne_true);have HN4:=hid (HN3.out rfl);clear HN3
     go_wp2_with (go_at_call 74;refine HN4.out.mono ?_;rintro e w4 ⟨⟨mk,mop,mds,s0,t0,s1,t1,mks,rfl,hmo,hmn⟩,hb4⟩;have HMO:=hid hmo;have HMN:=hid hmn;clear hmo hmn;have HBX4:Hid (A31 w4 B m):=B6.at HST3.out.2.1 hb4;obtain⟨hB0,⟨y0,y1,y2,y3,_,_⟩,hBf⟩:=HBX4.out;have f0:=hBf 0 (by omega);have f1:=hBf 1 (by omega);have f2:=hBf 2 (by omega);have f3:=hBf 3 (by omega);clear hBf)
     go_meet;obtain⟨hB2,hbx,hao,hno,hzb,hbw⟩:=HST3.out;have hle4:=hb4.size;have hsz:=hbw.size;have hBl:=hbx.1;have hN:Ib w4 (w.heap.size+2) ⟨mk,mop,mds, .slice s0 mds.length t0, .slice s1 mks.length t1,mks⟩:=HMO.out.le (by omega);have ho4:=Hy.setNet (hao.below hb4) hN (λx hx q hq=>(HMO.out.1.lt _ x hx q hq).1) (λx hx q hq=>(hao.1.lt _ x hx q hq).2);have hno4:∀x∈(Au.mk ⟨mk,mop,mds, .slice s0 mds.length t0, .slice s1 mks.length t1,mks⟩ m.cv m.coils m.kv m.kids).vals,x.ownBlock≠some B:=by
      intro x hx e;rw[Au.vals_eq] at hx;rcases List.mem_append.1 hx with hx | hx
      ·have:=(HMO.out.1.lt _ x hx _ e).1;omega
      ·exact hno x (by rw[Au.vals_eq];exact A4l _ hx) e
     refine⟨⟨⟨mk,mop,mds, .slice s0 mds.length t0, .slice s1 mks.length t1,mks⟩,m.cv,m.coils,m.kv,m.kids⟩,⟨hB2,B6.setN HBX4.out,Hy.setN ho4 hno4,hno4,B6.set4O (hzb.at hb4) (by omega),?_⟩,?_⟩
     ·have hbw4:=Cj hbw hb4
      have hle:w.heap.size<=B:=by omega
      exact Bv hle (Bv hle (Bv hle (Bv hle hbw4 _) _) _) _
     ·have e:=HMA.out
      rw[Au.arm_eq] at e ⊢;simp only[Stil.Arm.mk.injEq] at e ⊢;exact⟨by rw[HMN.out,HNO.out],e.2.1,e.2.2⟩
   case rest=>
    rename_i wd;obtain⟨m2,hst,hma⟩:=hcut;clear HMA HST3 HN3 q0 q1 q2 q3;have HST:=hid hst;have HMA:=hid hma;clear hst hma
    go_wp2
    go_step3
    go_wp2
    go_loopg [] (Hr m2.arm.kids) (λk wr=>∃m:Au,NSt w wr B m/\Stil.joined m.arm=T/\Xa 900000 m.arm/\Hr m.arm.kids<=k)
    case atStart=>
     exact⟨m2,HST.out,by rw[HMA.out,HJ.out],by rw[HMA.out];exact HM.out,A4i _⟩
    case round=>
     clear HST HMA HJ HM HT;obtain⟨m3,hst,hjo,hmid,hgk⟩:=hrel;obtain⟨hB2,hbx,hao,hno,hzb,hbw⟩:=hst;obtain⟨k1,o1,d1,a1,c1,b1,e1,n1,f1,g1,s1,h1,j1,ks1,rfl⟩:=Vl m3 hao.1;have hbx':B6 wr B (.int .i64 k1) (.int .i64 o1) (.slice a1 d1.length c1) (.slice b1 n1.length e1) (.slice f1 s1.length g1) (.slice h1 ks1.length j1):=hbx;have HBX:=hid hbx';have HAO:=hid hao;have HNO:=hid hno;have HZB:=hid hzb;have HBW:=hid hbw;have HJO:=hid hjo;have HMI:=hid hmid;have HGK:=hid hgk;have HB2:=hid hB2;have hkl:ks1.length<=900000/\s1.length<=900000:=by
      have h0:=hmid.2;rw[Au.arm_eq,Dp] at h0;simp only[A4t] at h0;have h1:(ks1.map Au.arm).length<=Hr (ks1.map Au.arm):=Rz _;rw[A4t] at h1;omega
     obtain⟨hkl1,hkl2⟩:=hkl;obtain⟨hBs,⟨x0,x1,x2,x3,x4,x5⟩,hBf⟩:=hbx';obtain⟨hZs,⟨z0,z1,z2,z3,z4,z5⟩,hZf⟩:=hzb;have y0:=hZf 0 (by omega);have y1:=hZf 1 (by omega);have y2:=hZf 2 (by omega);have y3:=hZf 3 (by omega);have y4:=hZf 4 (by omega);have y5:=hZf 5 (by omega);have hBne:w.heap.size+1≠B:=by omega
     clear hbx hao hno hbw hjo hmid hgk hB2 hZf hza3;by_cases hk:ks1.length=1
     ·obtain⟨kid,rfl⟩:=List.length_eq_one_iff.1 hk
      obtain⟨_,_,hkr,hka⟩:=(G8 _ _ _).1 HAO.out.1;simp only at hkr hka;obtain⟨k2,o2,d2,a2,c2,b2,e2,n2,f2,g2,s2,h2,j2,ks2,rfl⟩:=Vl kid (hka kid (by simp));obtain⟨g,rfl,hgs,q0,q1,q2,q3,q4,q5⟩:=Aiq hkr;simp only[A5d] at*;have hkm:=(G8 _ _ _).1 (hka (Au.mk ⟨k2,o2,d2, .slice a2 d2.length c2, .slice b2 n2.length e2,n2⟩ (.slice f2 s2.length g2) s2 (.slice h2 ks2.length j2) ks2) (by simp));obtain⟨hf3,hf4⟩:=MOk.from _ hkm.1;have HE:Hid ((Au.mk ⟨k1,o1,d1, .slice a1 d1.length c1, .slice b1 n1.length e1,n1⟩ (.slice f1 s1.length g1) s1 (.slice (some ⟨g,0,none⟩) 1 j1) [(Au.mk ⟨k2,o2,d2, .slice a2 d2.length c2, .slice b2 n2.length e2,n2⟩ (.slice f2 s2.length g2) s2 (.slice h2 ks2.length j2) ks2)]).arm=⟨(Ah.mk k1 o1 d1 (.slice a1 d1.length c1) (.slice b1 n1.length e1) n1).net,s1.map Cm.elem,[⟨(Ah.mk k2 o2 d2 (.slice a2 d2.length c2) (.slice b2 n2.length e2) n2).net,s2.map Cm.elem,ks2.map Au.arm⟩]⟩):=by
       show _=_
       rw[Au.arm_eq];simp only[A4v,List.map_nil];rw[Au.arm_eq (Au.mk ⟨k2,o2,d2, .slice a2 d2.length c2, .slice b2 n2.length e2,n2⟩ (.slice f2 s2.length g2) s2 (.slice h2 ks2.length j2) ks2)]
      have hmi:=HMI.out;rw[HE.out] at hmi;have hok:=Alf hmi (A4i _);simp only at hok;obtain⟨hM2,hS2,hF1,hF2,hL2,hK2⟩:=hok;simp only[A4t] at hL2;have HN5:Hid (∀W,Below wr.heap.size wr W->Calls Tryz.prog 73 #[.agg #[.int .i64 k2, .int .i64 o2, .slice a2 d2.length c2, .slice b2 n2.length e2]] W λe w'=>e=.returned (.bool (Aq (Ah.mk k2 o2 d2 (.slice a2 d2.length c2) (.slice b2 n2.length e2) n2).net))/\Below W.heap.size W w'):=by
       intro W h;have:=Uc (Ah.mk k2 o2 d2 (.slice a2 d2.length c2) (.slice b2 n2.length e2) n2).net _ _ W (hf3.at.below h) (hf4.at.below h) hF2
       have e:=Ah.net_eq (Ah.mk k2 o2 d2 (.slice a2 d2.length c2) (.slice b2 n2.length e2) n2);have ee1:(Ah.mk k2 o2 d2 (.slice a2 d2.length c2) (.slice b2 n2.length e2) n2).net.kind=k2:=by rw[e]
       have ee2:(Ah.mk k2 o2 d2 (.slice a2 d2.length c2) (.slice b2 n2.length e2) n2).net.one.op=o2:=by rw[e]
       rw[ee1,ee2] at this;exact this
      have HJ0:=hid (λW h=>Apy k1 o1 d1 a1 c1 b1 e1 n1 f1 g1 s1 (some ⟨g,0,none⟩) j1 k2 o2 d2 a2 c2 b2 e2 n2 f2 g2 s2 h2 j2 ks2 (w.heap.size+2) W (HAO.out.below h) (A4p (by have:=HB2.out;omega) h.size) hS2 hF1 hF2 hL2);have hvm:Value.slice f1 s1.length g1∈(Au.mk ⟨k1,o1,d1, .slice a1 d1.length c1, .slice b1 n1.length e1,n1⟩ (.slice f1 s1.length g1) s1 (.slice (some ⟨g,0,none⟩) 1 j1) [(Au.mk ⟨k2,o2,d2, .slice a2 d2.length c2, .slice b2 n2.length e2,n2⟩ (.slice f2 s2.length g2) s2 (.slice h2 ks2.length j2) ks2)]).vals:=by rw[Au.vals_eq];simp
      have HCB:=hid (HNO.out _ hvm);have HCW:Hid (∀q,(Value.slice f1 s1.length g1).ownBlock=some q->w.heap.size<=q):=λq hq=>by have:=(HAO.out.1.lt _ _ hvm q hq).1;omega
      have HCZ:Hid ((Value.slice f1 s1.length g1).ownBlock≠some (w.heap.size+1)):=λe=>by have:=(HAO.out.1.lt _ _ hvm _ e).1;omega
      have HKM:Hid (Hr (ks2.map Au.arm)<gk):=by
       have h1:=HGK.out;rw[HE.out] at h1;exact A4c hK2 h1
      have hjo2:=HJO.out;rw[HE.out] at hjo2;obtain⟨X1,hX1⟩:∃X,X=(Ah.mk k1 o1 d1 (.slice a1 d1.length c1) (.slice b1 n1.length e1) n1).net:=⟨_,rfl⟩
      obtain⟨X2,hX2⟩:∃X,X=(Ah.mk k2 o2 d2 (.slice a2 d2.length c2) (.slice b2 n2.length e2) n2).net:=⟨_,rfl⟩
      obtain⟨t2,ht2⟩:∃t,t=Aq (Ah.mk k2 o2 d2 (.slice a2 d2.length c2) (.slice b2 n2.length e2) n2).net:=⟨_,rfl⟩
      obtain⟨OV,hOV⟩:∃OV,OV=(Au.mk ⟨k1,o1,d1, .slice a1 d1.length c1, .slice b1 n1.length e1,n1⟩ (.slice f1 s1.length g1) s1 (.slice (some ⟨g,0,none⟩) 1 j1) [(Au.mk ⟨k2,o2,d2, .slice a2 d2.length c2, .slice b2 n2.length e2,n2⟩ (.slice f2 s2.length g2) s2 (.slice h2 ks2.length j2) ks2)]).vals:=⟨_,rfl⟩
      obtain⟨ln,hln⟩:∃ln,ln=s1.length:=⟨_,rfl⟩
      have HLN:=hid hln;have HT2:=hid ht2;rw[<-ht2] at HN5;have HJ1:Hid (s1.map Cm.elem=[]\/t2=true->Stil.joined ⟨Ji X1 X2,s1.map Cm.elem++s2.map Cm.elem,ks2.map Au.arm⟩=T):=by
       intro h;rw[hX1,hX2,<-hjo2];exact(Acu _ _ ⟨(Ah.mk k2 o2 d2 (.slice a2 d2.length c2) (.slice b2 n2.length e2) n2).net,s2.map Cm.elem,ks2.map Au.arm⟩ (by rw[<-ht2];exact h)).symm
      have HM2:Hid (Xa 900000 ⟨Ji X1 X2,s1.map Cm.elem++s2.map Cm.elem,ks2.map Au.arm⟩):=by rw[hX1,hX2];exact hM2
      have HNO2:Hid (∀x∈OV,x.ownBlock≠some B):=by rw[hOV];exact HNO.out
      rw[<-hX1,<-hX2,<-hOV,<-hln] at HJ0;rw[<-hln] at x4 HBX hkl2 HCB HCW HCZ;have HAO5:=hid (λW (h:Below wr.heap.size wr W)=>HAO.out.below h);clear hk hkr hka hkm hf3 hf4 hmi hM2 hS2 hF1 hF2 hL2 hK2 hjo2 hX1 hX2 ht2 hOV hln hvm HAO HNO hkl1;by_cases hc:0<ln
      ·cases t2 with
       | false=>
        clear HJ0 HJ1 hBf
        go_wp2_with (go_at_call 73;refine(HN5.out _ blA).mono ?_;rintro e w4 ⟨rfl,hb4⟩;obtain⟨hc4,hf4⟩:=Dl hb4;have hBs4:=A4c hBs hb4.size;have hZs4:=A4c hZs hb4.size;have cx0:w4.cell? ⟨B,0,none⟩=_:=(hc4 _ _ hBs).trans x0;have cx1:w4.cell? ⟨B,1,none⟩=_:=(hc4 _ _ hBs).trans x1;have cx2:w4.cell? ⟨B,2,none⟩=_:=(hc4 _ _ hBs).trans x2;have cx3:w4.cell? ⟨B,3,none⟩=_:=(hc4 _ _ hBs).trans x3;have cx4:w4.cell? ⟨B,4,none⟩=_:=(hc4 _ _ hBs).trans x4;have cx5:w4.cell? ⟨B,5,none⟩=_:=(hc4 _ _ hBs).trans x5;have v0:w4.cell? ⟨w.heap.size+1,0,none⟩=_:=(hc4 _ _ hZs).trans z0;have v1:w4.cell? ⟨w.heap.size+1,1,none⟩=_:=(hc4 _ _ hZs).trans z1;have v2:w4.cell? ⟨w.heap.size+1,2,none⟩=_:=(hc4 _ _ hZs).trans z2;have v3:w4.cell? ⟨w.heap.size+1,3,none⟩=_:=(hc4 _ _ hZs).trans z3;have v4:w4.cell? ⟨w.heap.size+1,4,none⟩=_:=(hc4 _ _ hZs).trans z4;have v5:w4.cell? ⟨w.heap.size+1,5,none⟩=_:=(hc4 _ _ hZs).trans z5;have vf0:w4.frozen? ⟨w.heap.size+1,0,none⟩=_:=(hf4 _ _ hZs).trans y0;have vf1:w4.frozen? ⟨w.heap.size+1,1,none⟩=_:=(hf4 _ _ hZs).trans y1;have vf2:w4.frozen? ⟨w.heap.size+1,2,none⟩=_:=(hf4 _ _ hZs).trans y2;have vf3:w4.frozen? ⟨w.heap.size+1,3,none⟩=_:=(hf4 _ _ hZs).trans y3;have vf4:w4.frozen? ⟨w.heap.size+1,4,none⟩=_:=(hf4 _ _ hZs).trans y4;have vf5:w4.frozen? ⟨w.heap.size+1,5,none⟩=_:=(hf4 _ _ hZs).trans y5;clear hc4 hf4)
        have HBW5:=hid (Cj HBW.out hb4);have HAO5':=HAO5.out w4 hb4;rw[Exit.noGoto_ret];refine bodyPost_ret (v:=.agg #[.int .i64 k1, .int .i64 o1, .slice a1 d1.length c1, .slice b1 n1.length e1, .slice f1 ln g1, .slice (some ⟨g,0,none⟩) 1 j1]) (by simp[results,Tryz.results45,go_sem,v0,v1,v2,v3,v4,v5]) rfl ⟨⟨k1,o1,d1,a1,c1,n1,b1,e1,s1,f1,g1,[(Au.mk ⟨k2,o2,d2, .slice a2 d2.length c2, .slice b2 n2.length e2,n2⟩ (.slice f2 s2.length g2) s2 (.slice h2 ks2.length j2) ks2)],(some ⟨g,0,none⟩),j1,by rw[<-HLN.out];rfl,?_,?_⟩,?_⟩
        ·exact Hy.le (Hy.setO6 (base:=w.heap.size+2) HAO5' (λx hx e=>by have:=(HAO5'.1.lt _ x hx _ e).1;omega)) (by omega)
        ·rw[<-HJO.out]
         refine(Qb _ ?_).symm;intro kid e h;have e':=(congrArg Stil.Arm.kids HE.out).symm.trans e;simp only[List.cons.injEq,and_true] at e';rcases h with h | h
         ·have h2:=congrArg List.length ((congrArg Stil.Arm.coils HE.out).symm.trans h)
          simp only[A4t,A4f] at h2;have:=HLN.out
          omega
         ·rw[<-e'] at h
          simp only at h;rw[<-HT2.out] at h;cases h
        ·exact Bv (Nat.le_succ _) (Bv (Nat.le_succ _) (Bv (Nat.le_succ _) (Bv (Nat.le_succ _) (Bv (Nat.le_succ _) (Bv (Nat.le_succ _) HBW5.out _) _) _) _) _) _
       | true=>
        have HJ2:=hid (HJ1.out (.inr rfl));clear HJ1 hBf HAO5 HE HT2 z0 z1 z2 z3 z4 z5 y0 y1 y2 y3 y4 y5;go_upto_region 6 with(go_at_call 73;refine(HN5.out _ blA).mono ?_;rintro e w4 ⟨rfl,hb4⟩;obtain⟨hc4,hf4⟩:=Dl hb4;have hBs4:=A4c hBs hb4.size;have hZs4:=A4c hZs hb4.size;have cx0:w4.cell? ⟨B,0,none⟩=_:=(hc4 _ _ hBs).trans x0;have cx1:w4.cell? ⟨B,1,none⟩=_:=(hc4 _ _ hBs).trans x1;have cx2:w4.cell? ⟨B,2,none⟩=_:=(hc4 _ _ hBs).trans x2;have cx3:w4.cell? ⟨B,3,none⟩=_:=(hc4 _ _ hBs).trans x3;have cx4:w4.cell? ⟨B,4,none⟩=_:=(hc4 _ _ hBs).trans x4;have cx5:w4.cell? ⟨B,5,none⟩=_:=(hc4 _ _ hBs).trans x5;have Q0:w4.cell? ⟨g,0,none⟩=_:=(hc4 _ _ hgs).trans q0;have Q1:w4.cell? ⟨g,1,none⟩=_:=(hc4 _ _ hgs).trans q1;have Q2:w4.cell? ⟨g,2,none⟩=_:=(hc4 _ _ hgs).trans q2;have Q3:w4.cell? ⟨g,3,none⟩=_:=(hc4 _ _ hgs).trans q3;have Q4:w4.cell? ⟨g,4,none⟩=_:=(hc4 _ _ hgs).trans q4;have Q5:w4.cell? ⟨g,5,none⟩=_:=(hc4 _ _ hgs).trans q5;have hgs4:=A4c hgs hb4.size;clear hc4 hf4)
        have HBXV:=hid (HBX.out.at hb4);have HZBV:=hid (HZB.out.at hb4);have HBWV:=hid (Cj HBW.out hb4);have HJN:=hid (λW h=>HJ0.out W (Cj hb4 h));clear HJ0 x0 x1 x2 x3 x4 x5 q0 q1 q2 q3 q4 q5 hb4 HN5
        go_region_with (first | (go_at_call 75;refine(HJN.out _ (by exact(Below.refl _ _).drew)).mono ?_;rintro e w5 ⟨⟨mk,mop,mds,xa,ya,mns,xb,yb,mcs,xc,yc,mks,xd,yd,rfl,hmo,hmn,hvs⟩,hg5⟩;have HMO:=hid hmo;have HMN:=hid hmn;have HVS:Hid (∀x∈(Au.mk ⟨mk,mop,mds, .slice xa mds.length ya, .slice xb mns.length yb,mns⟩ (.slice xc mcs.length yc) mcs (.slice xd mks.length yd) mks).vals,∀q,x.ownBlock=some q->(∃y∈OV,y.ownBlock=some q)\/w4.heap.size<=q):=hvs;have HG5:=hid hg5;have HBX5:=hid ((HBXV.out.drew).grown hg5 HCB.out);obtain⟨hBs5,⟨t0,t1,t2,t3,t4,t5⟩,tf⟩:=HBX5.out;have u0:=tf 0 (by omega);have u1:=tf 1 (by omega);have u2:=tf 2 (by omega);have u3:=tf 3 (by omega);have u4:=tf 4 (by omega);have u5:=tf 5 (by omega);clear hmo hmn hvs tf))
        all_goals
         go_wp2
         go_roundg (Hr (ks2.map Au.arm))
         rotate_left
         ·exact HKM.out
         ·have hlt5:=HBXV.out.1
          have hno5:∀x∈(Au.mk ⟨mk,mop,mds, .slice xa mds.length ya, .slice xb mns.length yb,mns⟩ (.slice xc mcs.length yc) mcs (.slice xd mks.length yd) mks).vals,x.ownBlock≠some B:=by
           intro x hx e;rcases HVS.out x hx _ e with⟨y,hy,e2⟩ | h
           ·exact HNO2.out y hy e2
           ·omega
          have hb2:=HB2.out;refine⟨⟨⟨mk,mop,mds, .slice xa mds.length ya, .slice xb mns.length yb,mns⟩, .slice xc mcs.length yc,mcs, .slice xd mks.length yd,mks⟩,⟨hb2,HBX5.out.set6,Hy.setO6 HMO.out hno5,hno5,((HZBV.out.drew).grown HG5.out HCZ.out).set6O hBne,?_⟩,?_,?_,?_⟩
          ·have hB5:=(HBWV.out.drew).grown HG5.out HBWV.out.size HCW.out
           have hle:w.heap.size<=B:=by omega
           exact Bv hle (Bv hle (Bv hle (Bv hle (Bv hle (Bv hle hB5 _) _) _) _) _) _
          ·rw[HMN.out,A4r]
           exact HJ2.out
          ·rw[HMN.out,A4r]
           exact HM2.out
          ·rw[HMN.out]
           exact A4i _
      ·obtain rfl:ln=0:=by omega
       have HJ2:=hid (HJ1.out (.inl (by rw[List.length_eq_zero_iff.1 HLN.out.symm];rfl)));clear HJ1 hBf HAO5 HE HT2 z0 z1 z2 z3 z4 z5 y0 y1 y2 y3 y4 y5 HN5;go_upto_region 6 with fail
       have HBXV:=hid HBX.out;have HZBV:=hid HZB.out;have HBWV:=hid HBW.out;have HJN:=hid HJ0.out;clear HJ0
       go_region_with (first | (go_at_call 75;refine(HJN.out _ (by exact(Below.refl _ _).drew)).mono ?_;rintro e w5 ⟨⟨mk,mop,mds,xa,ya,mns,xb,yb,mcs,xc,yc,mks,xd,yd,rfl,hmo,hmn,hvs⟩,hg5⟩;have HMO:=hid hmo;have HMN:=hid hmn;have HVS:Hid (∀x∈(Au.mk ⟨mk,mop,mds, .slice xa mds.length ya, .slice xb mns.length yb,mns⟩ (.slice xc mcs.length yc) mcs (.slice xd mks.length yd) mks).vals,∀q,x.ownBlock=some q->(∃y∈OV,y.ownBlock=some q)\/wr.heap.size<=q):=hvs;have HG5:=hid hg5;have HBX5:=hid ((HBXV.out.drew).grown hg5 HCB.out);obtain⟨hBs5,⟨t0,t1,t2,t3,t4,t5⟩,tf⟩:=HBX5.out;have u0:=tf 0 (by omega);have u1:=tf 1 (by omega);have u2:=tf 2 (by omega);have u3:=tf 3 (by omega);have u4:=tf 4 (by omega);have u5:=tf 5 (by omega);clear hmo hmn hvs tf))
       all_goals
        go_wp2
        go_roundg (Hr (ks2.map Au.arm))
        rotate_left
        ·exact HKM.out
        ·have hlt5:=HBXV.out.1
         have hno5:∀x∈(Au.mk ⟨mk,mop,mds, .slice xa mds.length ya, .slice xb mns.length yb,mns⟩ (.slice xc mcs.length yc) mcs (.slice xd mks.length yd) mks).vals,x.ownBlock≠some B:=by
          intro x hx e;rcases HVS.out x hx _ e with⟨y,hy,e2⟩ | h
          ·exact HNO2.out y hy e2
          ·omega
         have hb2:=HB2.out;refine⟨⟨⟨mk,mop,mds, .slice xa mds.length ya, .slice xb mns.length yb,mns⟩, .slice xc mcs.length yc,mcs, .slice xd mks.length yd,mks⟩,⟨hb2,HBX5.out.set6,Hy.setO6 HMO.out hno5,hno5,((HZBV.out.drew).grown HG5.out HCZ.out).set6O hBne,?_⟩,?_,?_,?_⟩
         ·have hB5:=(HBWV.out.drew).grown HG5.out HBWV.out.size HCW.out
          have hle:w.heap.size<=B:=by omega
          exact Bv hle (Bv hle (Bv hle (Bv hle (Bv hle (Bv hle hB5 _) _) _) _) _) _
         ·rw[HMN.out,A4r]
          exact HJ2.out
         ·rw[HMN.out,A4r]
          exact HM2.out
         ·rw[HMN.out]
          exact A4i _
     ·have hkb:((ks1.length:Int) !=1)=true:=by rw[bne_iff_ne];omega
      have HST:=hid (λkid (e:(ks1.map Au.arm)=[kid])=>hk (by have:=congrArg List.length e;simpa using this));clear hk hBf
      go_wp2
      rw[Exit.noGoto_ret];refine bodyPost_ret (v:=.agg #[.int .i64 k1, .int .i64 o1, .slice a1 d1.length c1, .slice b1 n1.length e1, .slice f1 s1.length g1, .slice h1 ks1.length j1]) (by simp[results,Tryz.results45,go_sem,z0,z1,z2,z3,z4,z5]) rfl ⟨⟨k1,o1,d1,a1,c1,n1,b1,e1,s1,f1,g1,ks1,h1,j1,rfl,?_,?_⟩,?_⟩
      ·exact Hy.le (Hy.setO6 (base:=w.heap.size+2) HAO.out (λx hx e=>by have:=(HAO.out.1.lt _ x hx _ e).1;omega)) (by omega)
      ·rw[<-HJO.out]
       refine(Qb _ ?_).symm;intro kid e _;rw[Au.arm_eq] at e;exact HST.out kid e
      ·exact Bv (Nat.le_succ _) (Bv (Nat.le_succ _) (Bv (Nat.le_succ _) (Bv (Nat.le_succ _) (Bv (Nat.le_succ _) (Bv (Nat.le_succ _) HBW.out _) _) _) _) _) _
end Go.Proofs.YtbfljjcnbbmoaaaGreatDoor
