import Derived.Test.YtbfljjcnbbmoaaaGreatDoorGy
import Derived.Lib.QuietBelow
import Derived.Test.YtbfljjcnbbmoaaaGreatDoorG1
import Derived.Deep.RegionHeld3
set_option maxHeartbeats 4000000
set_option maxRecDepth 100000
namespace Go.Proofs.YtbfljjcnbbmoaaaGreatDoor
open Stil
open Go.RowKit Go.Sort Go.BigFrame
theorem Kt.tail {w:World}{b o c:Nat}{x:Stil.Net}{r:List Stil.Net}(h:Kt w (.slice (some ⟨b,o,none⟩) (r.length+1) c) (x::r)):Kt w (.slice (some ⟨b,o+4,none⟩) r.length (c - 1)) r:=by
 obtain⟨a',c2,e,hc,hx⟩:=h;simp only[A39,Value.slice.injEq,true_and] at e;obtain⟨rfl,rfl⟩:=e;have hc1:=hc.1;rw[A39] at hc1;refine⟨_,c - 1,rfl,⟨omz,λh=>by cases h⟩,λi hi=>?_⟩;obtain⟨b',o',h1,h2,h3,h4⟩:=hx (i+1) (by simp only[A39];omega);simp only[Option.some.injEq,Addr.mk.injEq,and_true] at h1;obtain⟨rfl,rfl⟩:=h1;refine⟨b,o+4,rfl,h2,h3,?_⟩;rw[List.getElem_cons_succ] at h4;have e2:o+(i+1)*4=o+4+i*4:=omz
 rw[<-e2];exact h4
theorem Af2 (x:Stil.Net)(hs:Aj x<=1000000)(ih:Ab1 86 x (Dv x)):Ab1 116 x (Eg x):=by
 intro av nv w hav hnv;have IH:Hid (∀W,Below w.heap.size w W->Calls Tryz.prog 86 #[.agg #[.int .i64 x.kind, .int .i64 x.one.op,av,nv]] W λe w'=>e=.returned (.int .i64 (Dv x))/\Below W.heap.size W w'):=λW h=>ih av nv W (hav.below h) (hnv.below h)
 have hle:=Abn x;have HT:Hid (Eg x=if x.kind=1 then 1 else 1+Dv x):=rfl;obtain⟨bx,hbx⟩:∃bx,bx=Dv x:=⟨_,rfl⟩
 obtain⟨T,hT⟩:∃T,T=Eg x:=⟨_,rfl⟩
 rw[<-hbx] at IH hle HT;rw[<-hT] at HT ⊢;obtain⟨k,hk⟩:∃k,k=x.kind:=⟨_,rfl⟩
 rw[<-hk] at IH HT ⊢;obtain⟨p0,r0,rfl,hz0⟩:=hav.shape;obtain⟨p1,r1,rfl,hz1,_⟩:=hnv.shape;clear ih hz0 hz1 hbx hT hk hav hnv;by_cases h1:k=1
 ·subst h1
  have HT2:Hid (T=1):=by show _=_;rw[HT.out];rfl
  clear HT;go_enter Tryz.func116,Tryz.ntmps116
  go_wp2
  go_ret;exact⟨C9 (by rw[HT2.out];rfl),blA⟩
 ·have HT2:Hid (T=1+bx):=by show _=_;rw[HT.out,if_neg h1]
  have hkb:(k==1)=false:=by rw[A5a];exact h1
  clear HT;go_enter Tryz.func116,Tryz.ntmps116
  go_wp2_with (go_at_call 86;refine(IH _ blA).mono ?_;rintro e w1 ⟨rfl,hb1⟩)
  go_ret;exact⟨C9 (by rw[HT2.out];go_num),blA⟩
theorem Adu (n:Stil.Net):Wh n->Aj n<=1000000->Ab1 86 n (Dv n):=by
 induction n using Fh with
 | h k e kids ih=>
  intro hfu hs av nv w hav hnv;simp only at hav hnv;obtain⟨hne,hfk⟩:=(Aav _ _ _).1 hfu;rw[D8] at hs;simp only at hs;have hks:∀x∈kids,Aj x<=1000000:=λx hx=>by have:Aj x<=Stil.sizes kids:=D9 Aj kids x hx;omega
  have hkl:kids.length<=999999:=by have:=Ig kids;omega
  obtain⟨p0,r0,rfl,hz0⟩:=hav.shape;by_cases h1:k=1
  ·subst h1
   rw[Aee];obtain⟨p1,r1,rfl,hz1,_⟩:=hnv.shape;clear hz0 hz1 ih hks hkl hfu hne hfk hs hav hnv;go_enter Tryz.func86,Tryz.ntmps86
   go_wp2
   go_ret;exact⟨rfl,blA⟩
  ·obtain⟨x,r,rfl⟩:=List.exists_cons_of_ne_nil (hne h1)
   rw[Aa3 e x r h1];have yY:=hnv;obtain⟨p1,r1,rfl,hcap,hpc⟩:=hnv.shape;obtain⟨b,o,rfl,hbl,hn⟩:=hpc 0 spz;simp only[List.getElem_cons_zero,Nat.zero_mul,Nat.add_zero] at hn;have hcp1:r.length+1<=r1:=by have:=hcap.1;simp only[A39] at this;exact this
   have hat:Kt w (.slice (if r1=1 then some ⟨b,o,none⟩ else some ⟨b,o+4,none⟩) r.length (r1 - 1)) r:=by
    by_cases h2:r1=1
    ·rw[if_pos h2]
     have hr0:r=[]:=List.length_eq_zero_iff.1 omz;subst hr0;exact⟨_,_,rfl,⟨Nat.zero_le _,λh=>by cases h⟩,λi hi=>by simp at hi⟩
    ·rw[if_neg h2]
     exact Kt.tail (by simpa only[A39] using yY)
   have hE:∀args w,(callFunc 116 args).run Tryz.prog w=.ok (.enter 116 args) w:=enters_of Tryz.func116 krz rfl;have hrl:r.length<=999999:=by simp only[A39] at hkl;omega
   have aJ:Hid (∀W,Below w.heap.size w W->Calls Tryz.prog 115 #[.slice (if r1=1 then some ⟨b,o,none⟩ else some ⟨b,o+4,none⟩) r.length (r1 - 1), .int .i64 (Dv x), .func (.func 116) #[] #[]] W λe w'=>e=.returned (.int .i64 (Dn (Dv x) (r.map Eg)))/\Below W.heap.size W w'):=by
    intro W h;refine Avr r Eg 116 hE (λy hy=>?_) _ _ W (hat.below h) hrl;have hy2:y∈x::r:=A4c _ hy;exact Af2 y (hks y hy2) (ih y hy2 (hfk y hy2) (hks y hy2))
   obtain⟨x0,x1,kG,kT,x2,x3,dL,dJ⟩:=hn.open;have HZ:Hid (∀W,Below w.heap.size w W->Calls Tryz.prog 86 #[.agg #[.int .i64 x.kind, .int .i64 x.one.op,kG,kT]] W λe w'=>e=.returned (.int .i64 (Dv x))/\Below W.heap.size W w'):=λW h=>ih x spz (hfk x spz) (hks x spz) kG kT W (dL.below h) (dJ.below h)
   obtain⟨bz,hbz⟩:∃bz,bz=Dv x:=⟨_,rfl⟩
   rw[<-hbz] at aJ HZ ⊢;obtain⟨R,hR⟩:∃R,R=Dn bz (r.map Eg):=⟨_,rfl⟩
   rw[<-hR] at aJ ⊢;simp only[A39];obtain⟨m,hm⟩:∃m,m=r.length:=⟨_,rfl⟩
   have hcp:m+1<=r1:=by have:=hcap.1;simp only[A39] at this;omega
   rw[<-hm] at aJ hrl ⊢;obtain⟨q0,s0,rfl,hz0'⟩:=dL.shape;obtain⟨q1,s1,rfl,hz1',_⟩:=dJ.shape;have hkb:(k==1)=false:=by rw[A5a];exact h1
   clear hz0 hz0' hz1' hat yY hpc hn hE hbz hR ih hks hkl hm hcap hav hnv dL dJ hfu hne hfk hs hcp1;go_enter Tryz.func86,Tryz.ntmps86
   go_wp2
   obtain⟨W,hW⟩:∃W,W=w.alloc (.cells #[.int .i64 k, .int .i64 e.op, .slice p0 e.args.length r0, .slice (some ⟨b,o,none⟩) (m+1) r1] 52):=⟨_,rfl⟩
   rw[<-hW];have hbW:Below w.heap.size w W:=by rw[hW];exact Aa _ _
   have y3:W.cell? ⟨w.heap.size,3,none⟩=some (.slice (some ⟨b,o,none⟩) (m+1) r1):=by rw[hW];simp[go_sem]
   have k0:=cell_regrown ((hbW.cell (p:=⟨b,o,none⟩) hbl).trans x0);have k1:=cell_regrown ((hbW.cell (p:=⟨b,o+1,none⟩) hbl).trans x1);have k2:=cell_regrown ((hbW.cell (p:=⟨b,o+2,none⟩) hbl).trans x2);have k3:=cell_regrown ((hbW.cell (p:=⟨b,o+3,none⟩) hbl).trans x3);have k6:=cell_regrown y3;have hj1:(1:Int)<=(m:Int)+1:=omz
   have hj2:(m:Int)+1<=(r1:Int):=omz
   have hj3:(0:Int)<(m:Int)+1:=omz
   clear hW y3 x0 x1 x2 x3;refine wp_region_quiet_below krz krz ?_;repeat (go_big_quiet_step ((first | exact Calls.regrown_of (HZ _ (Ep hbW _ _)) | exact Calls.regrown_of (aJ _ (Ep hbW _ _)))))
   refine wpQuiet_nil ?_;intro _ hw';obtain⟨⟨dq,osq⟩,hw''⟩:=hw';subst hw''
   go_wp2
   all_goals go_ret
   all_goals exact⟨rfl,Ep hbW _ _⟩
theorem Auv (w:World):Kt w (.slice none 0 0) []:=⟨none,0,rfl,⟨A4d _,λ_=>rfl⟩,λi hi=>by simp at hi⟩
theorem Auu {W:World}{n:Stil.Net}{av nv:Value}(hav:Rh W av n.one.args)(hnv:Kt W nv n.kids):Kt (W.alloc (.cells #[.int .i64 n.kind, .int .i64 n.one.op,av,nv] 52)) (.slice (some ⟨W.heap.size,0,none⟩) 1 1) [n]:=by
 have hb:=Aa W (.cells #[.int .i64 n.kind, .int .i64 n.one.op,av,nv] 52);refine⟨_,1,rfl,⟨A4d _,λh=>by cases h⟩,λi hi=>?_⟩;have hi0:i=0:=by simp at hi;exact hi
 subst hi0;refine⟨W.heap.size,0,rfl,trivial,spz,?_⟩;rw[List.getElem_cons_zero,Aaf];exact⟨by simp[go_sem],by simp[go_sem],⟨av,by simp[go_sem],hav.below hb⟩,⟨nv,by simp[go_sem],hnv.below hb⟩⟩
theorem Ays (n:Stil.Net)(av nv:Value)(w:World)(hav:Rh w av n.one.args)(hnv:Kt w nv n.kids)(hf:Dc n):
  Calls Tryz.prog 94 #[.agg #[.int .i64 n.kind, .int .i64 n.one.op,av,nv]] w λe w'=>∃a c,e=.returned (.slice a (Di n).length c)/\Kt w' (.slice a (Di n).length c) (Di n)/\Below w.heap.size w w':=by
 have HN:=hid (λW h=>Si n av nv W (hav.below h).at (hnv.below h).at hf);have dS:Hid (∀W,Below w.heap.size w W->Rh W av n.one.args/\Kt W nv n.kids):=λW h=>⟨hav.below h,hnv.below h⟩
 obtain⟨p0,r0,rfl,_⟩:=hav.shape;obtain⟨p1,r1,rfl,_,_⟩:=hnv.shape;have HB:Hid (Di n=if Aq n then [] else if n.kind=2 then n.kids else [n]):=rfl;obtain⟨t,ht⟩:∃t,t=Aq n:=⟨_,rfl⟩
 rw[<-ht] at HN HB;clear hav hnv ht;cases t with
 | true=>
  have e:Di n=[]:=HB.out;rw[e];clear e HB;go_enter Tryz.func94,Tryz.ntmps94
  go_wp2_with (go_at_call 73;refine(HN _ blA).mono ?_;rintro e w1 ⟨rfl,hb1⟩)
  go_ret;exact⟨none,0,rfl,Auv _,blA⟩
 | false=>
  by_cases h2:n.kind=2
  ·have e:Di n=n.kids:=by rw[HB.out];simp[h2]
   rw[e];rw[h2] at HN ⊢;clear e HB;go_enter Tryz.func94,Tryz.ntmps94
   go_wp2_with (go_at_call 73;refine(HN _ blA).mono ?_;rintro e w1 ⟨rfl,hb1⟩;obtain⟨hc1,hf1⟩:=Dq hb1;have hz1:w.heap.size<w1.heap.size:=A37 spz hb1.size;have y0:w1.cell? ⟨w.heap.size,0,none⟩=some (.int .i64 2):=(by rw[hc1 _ _ spz];simp[go_sem]);have y3:w1.cell? ⟨w.heap.size,3,none⟩=some (.slice p1 n.kids.length r1):=(by rw[hc1 _ _ spz];simp[go_sem]);clear hc1 hf1)
   go_ret;have hbw:Below w.heap.size w w1:=blA;exact⟨p1,r1,rfl,(dS _ hbw).2,hbw⟩
  ·have e:Di n=[n]:=by rw[HB.out];simp[h2]
   rw[e];have hkb:(n.kind==2)=false:=by rw[A5a];exact h2
   clear e HB;go_enter Tryz.func94,Tryz.ntmps94
   go_wp2_with (go_at_call 73;refine(HN _ blA).mono ?_;rintro e w1 ⟨rfl,hb1⟩;obtain⟨hc1,hf1⟩:=Dq hb1;have hz1:w.heap.size<w1.heap.size:=A37 spz hb1.size;have y0:w1.cell? ⟨w.heap.size,0,none⟩=some (.int .i64 n.kind):=(by rw[hc1 _ _ spz];simp[go_sem]);have y1:w1.cell? ⟨w.heap.size,1,none⟩=some (.int .i64 n.one.op):=(by rw[hc1 _ _ spz];simp[go_sem]);have y2:w1.cell? ⟨w.heap.size,2,none⟩=some (.slice p0 n.one.args.length r0):=(by rw[hc1 _ _ spz];simp[go_sem]);have y3:w1.cell? ⟨w.heap.size,3,none⟩=some (.slice p1 n.kids.length r1):=(by rw[hc1 _ _ spz];simp[go_sem]);clear hc1 hf1)
   go_ret;have hbw:Below w.heap.size w w1:=blA;exact⟨_,_,rfl,Auu (dS _ hbw).1 (dS _ hbw).2,blA⟩
theorem A02 (x:Stil.Arm)(hs:Ak x<=1000000)(hf:Ci x)(hfi:Fq x)(ih:Aa5 87 x (Eh x)):Aa5 117 x (H9 x.net (Eh x)):=by
 intro av nv cv kv w hav hnv hcv hkv;have hfn:Dc x.net/\Ir x.net/\Stil.nsz x.net<=999999:=by
  obtain⟨n,c,k⟩:=x;rw[Cc] at hs;exact⟨((Em _ _ _).1 hf).1,((Eu _ _ _).1 hfi).1,by simp only;omega⟩
 have hE:∀args w,(callFunc 116 args).run Tryz.prog w=.ok (.enter 116 args) w:=enters_of Tryz.func116 krz rfl;have HT:Hid (∀W,Below w.heap.size w W->Calls Tryz.prog 87 #[.agg #[.int .i64 x.net.kind, .int .i64 x.net.one.op,av,nv,cv,kv]] W λe w'=>e=.returned (.int .i64 (Eh x))/\Below W.heap.size W w'):=λW h=>ih av nv cv kv W (hav.below h) (hnv.below h) (hcv.below h) (hkv.below h)
 have HB:=hid (λW h=>Ays x.net av nv W (hav.below h) (hnv.below h) hfn.1);have hbl:(Di x.net).length<=999999:=by
  unfold Di;split
  ·simp
  ·rename_i h0
   have e:Stil.nsz x.net=Aj x.net:=if_neg h0;split
   ·have h1:=Ig x.net.kids
    have h2:=D8 x.net;have h3:=hfn.2.2;omega
   ·simp
 have HM:Hid (∀W v,Kt W v (Di x.net)->Calls Tryz.prog 115 #[v, .int .i64 (Eh x), .func (.func 116) #[] #[]] W λe w'=>e=.returned (.int .i64 (H9 x.net (Eh x)))/\Below W.heap.size W w'):=by
  intro W v h;refine Avr (Di x.net) Eg 116 hE (λy hy=>?_) _ v W h hbl;have hsy:Aj y<=1000000:=by have:=Aab x.net y hy;have:=hfn.2.2;omega
  exact Af2 y hsy (Adu y (Am3 hfn.2.1 y hy) hsy)
 obtain⟨B,hB⟩:∃B,B=Di x.net:=⟨_,rfl⟩
 obtain⟨tb,htb⟩:∃tb,tb=Eh x:=⟨_,rfl⟩
 obtain⟨R,hR⟩:∃R,R=H9 x.net (Eh x):=⟨_,rfl⟩
 rw[<-hR] at HM ⊢;rw[<-hB] at HB HM;rw[<-htb] at HT HM;obtain⟨p0,r0,rfl,_⟩:=hav.shape;obtain⟨p1,r1,rfl,_,_⟩:=hnv.shape;obtain⟨p2,r2,rfl,_⟩:=hcv.shape;obtain⟨p3,r3,rfl,_,_⟩:=hkv.shape;clear ih hB htb hR hE hfn hbl hav hnv hcv hkv hf hfi;go_enter Tryz.func117,Tryz.ntmps117;go_upto_region 1 with fail
 obtain⟨W,hW⟩:∃W,W=w.alloc (.cells #[.int .i64 x.net.kind, .int .i64 x.net.one.op, .slice p0 x.net.one.args.length r0, .slice p1 x.net.kids.length r1, .slice p2 x.coils.length r2, .slice p3 x.kids.length r3] 55):=⟨_,rfl⟩
 rw[<-hW];have hbW:Below w.heap.size w W:=by rw[hW];exact Aa _ _
 have kZ:w.heap.size<W.heap.size:=by rw[hW];simp
 obtain⟨_,⟨y0,y1,y2,y3,y4,y5⟩,_⟩:B6 W w.heap.size (.int .i64 x.net.kind) (.int .i64 x.net.one.op) (.slice p0 x.net.one.args.length r0) (.slice p1 x.net.kids.length r1) (.slice p2 x.coils.length r2) (.slice p3 x.kids.length r3):=by rw[hW];exact B6.new _ _ _ _ _ _ _ _
 have bD:Hid (∀V,Below W.heap.size W V->(V.cell? ⟨w.heap.size,0,none⟩=some (.int .i64 x.net.kind)/\V.cell? ⟨w.heap.size,1,none⟩=some (.int .i64 x.net.one.op)/\V.cell? ⟨w.heap.size,2,none⟩=some (.slice p0 x.net.one.args.length r0)/\V.cell? ⟨w.heap.size,3,none⟩=some (.slice p1 x.net.kids.length r1)/\V.cell? ⟨w.heap.size,4,none⟩=some (.slice p2 x.coils.length r2)/\V.cell? ⟨w.heap.size,5,none⟩=some (.slice p3 x.kids.length r3))):=λV h=>⟨(h.cell (p:=⟨w.heap.size,0,none⟩) kZ).trans y0,(h.cell (p:=⟨w.heap.size,1,none⟩) kZ).trans y1,(h.cell (p:=⟨w.heap.size,2,none⟩) kZ).trans y2,(h.cell (p:=⟨w.heap.size,3,none⟩) kZ).trans y3,(h.cell (p:=⟨w.heap.size,4,none⟩) kZ).trans y4,(h.cell (p:=⟨w.heap.size,5,none⟩) kZ).trans y5⟩
 clear hW
 go_region_held3 (λW'=>(W'.cell? ⟨w.heap.size,0,none⟩=some (.int .i64 x.net.kind)/\W'.cell? ⟨w.heap.size,1,none⟩=some (.int .i64 x.net.one.op)/\W'.cell? ⟨w.heap.size,2,none⟩=some (.slice p0 x.net.one.args.length r0)/\W'.cell? ⟨w.heap.size,3,none⟩=some (.slice p1 x.net.kids.length r1)/\W'.cell? ⟨w.heap.size,4,none⟩=some (.slice p2 x.coils.length r2)/\W'.cell? ⟨w.heap.size,5,none⟩=some (.slice p3 x.kids.length r3))) (first | with_reducible assumption | with_reducible exact⟨Fz.trans y0,Fz.trans y1,Fz.trans y2,Fz.trans y3,Fz.trans y4,Fz.trans y5⟩ | skip) (first | (go_at_call 94;refine(HB.out _ (by exact hbW.drew)).mono ?_;rintro e w1 ⟨a1,c1,rfl,hn1,hb1⟩;have dW:=Bd (Below.refl _ _).drew hb1;have gY:Hid (∀V,Below w1.heap.size w1 V->Kt V (.slice a1 B.length c1) B):=(λV h=>hn1.below h);have hS1:=bD.out w1 dW;clear hn1) | (go_at_call 87;refine(HT.out _ (by exact Bd hbW dW)).mono ?_;rintro e w2 ⟨rfl,hb2⟩;have hC2:=Bd dW hb2;have hS2:=bD.out w2 hC2) | (go_at_call 115;refine(HM.out _ _ (gY.out _ (by first | exact hb2 | exact Below.refl _ _))).mono ?_;rintro e w3 ⟨rfl,hb3⟩;have hC3:=Bd hC2 hb3;have hS3:=bD.out w3 hC3))
 all_goals
  go_wp2
  go_ret;exact⟨rfl,Bd hbW hC3⟩
theorem Aqh (a:Stil.Arm):Ak a<=1000000->Ci a->Fq a->Aa5 87 a (Eh a):=by
 induction a using Fg with
 | h n cs kids ih=>
  intro hs hf hfi av nv cv kv w hav hnv hcv hkv;simp only at hav hnv hcv hkv;rw[Cc] at hs;obtain⟨_,_,_,_,bK⟩:=(Em _ _ _).1 hf;obtain⟨_,eU⟩:=(Eu _ _ _).1 hfi;have hks:∀x∈kids,Ak x<=1000000:=λx hx=>by have:Ak x<=Hq kids:=D9 Ak kids x hx;omega
  have hkl:kids.length<=999999:=by have:=Lc kids;omega
  have hE:∀args w,(callFunc 117 args).run Tryz.prog w=.ok (.enter 117 args) w:=enters_of Tryz.func117 krz rfl;have HM:Hid (∀W,Below w.heap.size w W->Calls Tryz.prog 56 #[kv, .int .i64 1, .func (.func 117) #[] #[]] W λe w'=>e=.returned (.int .i64 (Dn 1 (kids.map (λk=>H9 k.net (Eh k)))))/\Below W.heap.size W w'):=λW h=>Ag6 kids (λk=>H9 k.net (Eh k)) 117 hE (λx hx=>A02 x (hks x hx) (bK x hx) (eU x hx) (ih x hx (hks x hx) (bK x hx) (eU x hx))) 1 kv W (hkv.below h) hkl
  rw[Acr];obtain⟨R,hR⟩:∃R,R=Dn 1 (kids.map (λk=>H9 k.net (Eh k))):=⟨_,rfl⟩
  rw[<-hR] at HM ⊢;obtain⟨p0,r0,rfl,_⟩:=hav.shape;obtain⟨p1,r1,rfl,_,_⟩:=hnv.shape;obtain⟨p2,r2,rfl,_⟩:=hcv.shape;obtain⟨p3,r3,rfl,_,_⟩:=hkv.shape;clear ih hR hE hs hf hfi bK eU hks hkl hav hnv hcv hkv;go_enter Tryz.func87,Tryz.ntmps87
  go_wp2_with (go_at_call 56;refine(HM _ blA).mono ?_;rintro e w1 ⟨rfl,hb1⟩)
  go_ret;exact⟨rfl,blA⟩
theorem Aqi (x:Stil.Arm)(hs:Ak x<=1000000)(hf:Ci x)(hfi:Fq x)(hnn:Aq x.net=false):Aa5 57 x (Nc x):=by
 intro av nv cv kv w hav hnv hcv hkv;have hfn:Ir x.net/\Aj x.net<=1000000:=by
  obtain⟨n,c,k⟩:=x;rw[Cc] at hs;have e:Stil.nsz n=Aj n:=if_neg (by rw[show Aq n=false from hnn];exact Bool.false_ne_true);exact⟨((Eu _ _ _).1 hfi).1,by simp only;omega⟩
 have hfu:=Stil.full_of _ (hfn.1.resolve_left (by rw[hnn];exact Bool.false_ne_true)).2.2;have HT:Hid (∀W,Below w.heap.size w W->Calls Tryz.prog 87 #[.agg #[.int .i64 x.net.kind, .int .i64 x.net.one.op,av,nv,cv,kv]] W λe w'=>e=.returned (.int .i64 (Eh x))/\Below W.heap.size W w'):=λW h=>Aqh x hs hf hfi av nv cv kv W (hav.below h) (hnv.below h) (hcv.below h) (hkv.below h)
 have HB:Hid (∀W,Below w.heap.size w W->Calls Tryz.prog 86 #[.agg #[.int .i64 x.net.kind, .int .i64 x.net.one.op,av,nv]] W λe w'=>e=.returned (.int .i64 (Dv x.net))/\Below W.heap.size W w'):=λW h=>Adu x.net hfu hfn.2 av nv W (hav.below h) (hnv.below h)
 have HR:Hid (Nc x=max (Dv x.net) (Eh x)):=rfl;rw[HR.out];obtain⟨tb,htb⟩:∃tb,tb=Eh x:=⟨_,rfl⟩
 obtain⟨bb,hbb⟩:∃bb,bb=Dv x.net:=⟨_,rfl⟩
 rw[<-htb] at HT ⊢;rw[<-hbb] at HB ⊢;obtain⟨p0,r0,rfl,_⟩:=hav.shape;obtain⟨p1,r1,rfl,_,_⟩:=hnv.shape;obtain⟨p2,r2,rfl,_⟩:=hcv.shape;obtain⟨p3,r3,rfl,_,_⟩:=hkv.shape;clear htb hbb hfn hfu hnn hav hnv hcv hkv hf hfi HR;have hdec:bb<tb\/¬bb<tb:=omz
 rcases hdec with hlt | hlt
 all_goals
  go_enter Tryz.func57,Tryz.ntmps57
  go_wp2_with fail
  obtain⟨W,hW⟩:∃W,W=w.alloc (.cells #[.int .i64 x.net.kind, .int .i64 x.net.one.op, .slice p0 x.net.one.args.length r0, .slice p1 x.net.kids.length r1, .slice p2 x.coils.length r2, .slice p3 x.kids.length r3] 55):=⟨_,rfl⟩
  rw[<-hW];have hbW:Below w.heap.size w W:=by rw[hW];exact Aa _ _
  obtain⟨_,⟨y0,y1,y2,y3,y4,y5⟩,_⟩:B6 W w.heap.size (.int .i64 x.net.kind) (.int .i64 x.net.one.op) (.slice p0 x.net.one.args.length r0) (.slice p1 x.net.kids.length r1) (.slice p2 x.coils.length r2) (.slice p3 x.kids.length r3):=by rw[hW];exact B6.new _ _ _ _ _ _ _ _
  have k0:=cell_regrown y0;have k1:=cell_regrown y1;have k2:=cell_regrown y2;have k3:=cell_regrown y3;have k4:=cell_regrown y4;have k5:=cell_regrown y5;clear hW y0 y1 y2 y3 y4 y5;refine wp_region_quiet_below krz krz ?_;repeat (go_big_quiet_step ((first | exact Calls.regrown_of (HB _ (Ep hbW _ _)) | exact Calls.regrown_of (HT _ (Ep hbW _ _)))))
  refine wpQuiet_nil ?_;intro _ hw';obtain⟨⟨dq,osq⟩,hw''⟩:=hw';subst hw''
  go_wp2
  go_ret;exact⟨C9 (by congr 1;omega),Ep hbW _ _⟩
theorem Ajq (l:List Stil.Arm)(kv:Value)(w:World)(hr:Es w)(hg:Et w)(hkv:Dj w kv l)(hl:l.length<=1048576)(hsz:Ce l<=1000000000)(hft:∀x∈l,Ci x):
  Calls Tryz.prog 33 #[kv] w λe w'=>e=.returned (.int .i64 (Ll l))/\Below w.heap.size w w':=by
 have HC:=hid (λW h=>Aau l kv W (hr.below h) (hg.below h) (hkv.below h) hl hsz hft);obtain⟨kD,lH,oD⟩:=I9 hft;have qX:=Tc l;have hR:Hid (Ll l=Dn 0 ((Bc l).map Nc)):=rfl;obtain⟨L,hL⟩:∃L,L=Bc l:=⟨_,rfl⟩
 rw[<-hL] at HC kD lH oD hR qX;have hE:∀args w,(callFunc 57 args).run Tryz.prog w=.ok (.enter 57 args) w:=enters_of Tryz.func57 krz rfl;have HM:Hid (∀W v,Ri W v L->Calls Tryz.prog 56 #[v, .int .i64 0, .func (.func 57) #[] #[]] W λe w'=>e=.returned (.int .i64 (Dn 0 (L.map Nc)))/\Below W.heap.size W w'):=λW v h=>Ag6 L Nc 57 hE (λx hx=>Aqi x (by have:=Qy hx;omega) (kD x hx) (qX x hx).1 (qX x hx).2) 0 v W h omz
 rw[hR.out];obtain⟨R,hRR⟩:∃R,R=Dn 0 (L.map Nc):=⟨_,rfl⟩
 rw[<-hRR] at HM ⊢;obtain⟨p0,r0,rfl,hz⟩:=hkv;clear hz hr hg hft kD lH oD hR hL hE hRR qX;go_enter Tryz.func33,Tryz.ntmps33
 go_wp2_with (first | (go_at_call 22;refine(HC _ blA).mono ?_;rintro e w1 ⟨⟨a,c,ms,rfl,hm,hrw⟩,hb1⟩;have hat:Ri w1 (.slice a ms.length c) L:=(by have h:=(AOk.T _ (P7 hrw).1).2.2.2;rw[Aw.arm_eq] at h;rw[<-hm];exact h);have HAT:=hid hat;clear hat hrw hm) | (go_at_call 56;refine(HM _ _ HAT.out).mono ?_;rintro e w2 ⟨rfl,hb2⟩))
 go_ret;exact⟨rfl,blA⟩
end Go.Proofs.YtbfljjcnbbmoaaaGreatDoor
