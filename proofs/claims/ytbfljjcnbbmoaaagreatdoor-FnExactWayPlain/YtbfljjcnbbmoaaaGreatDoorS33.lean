import Derived.Test.YtbfljjcnbbmoaaaGreatDoorS30
import Derived.Deep.RegionHeld3
namespace Go.Proofs.YtbfljjcnbbmoaaaGreatDoor
open Stil
open Go.RowKit Go.Sort Go.BigFrame
set_option maxHeartbeats 2000000 in
set_option maxRecDepth 100000 in
theorem Azj (k:Int) (hk:k=2\/k=3) (x:Stil.Net) (hla:x.one.args.length<=1048576) (hln:(Dy x).length<=900000) (ih:x.kind≠1->Awc 18 x (Dy x)):A3c k x (D8 k x):=by
 intro av nv w hav hnv;have HAV:=hid (λW (h:Below w.heap.size w W)=>(hav.below h).at);have IH:=hid (λh1 W h=>ih h1 av nv W (hav.below h) (hnv.below h));obtain⟨p0,r0,rfl,hz0⟩:=hav.shape;obtain⟨p1,r1,rfl,hz1,_⟩:=hnv.shape;clear ih hz0 hz1 hav hnv;by_cases h1:x.kind=1
 ·have HML:=hid (Vk k x h1)
  rw[HML.out];have HC:=hid (λW h=>Atc x.one _ W (HAV.out W h) hla);rw[h1];clear HML IH HAV h1;have hfin:∀(W:World) (a:Option Addr) (c:Nat),W.ownsRow w.heap.size 86 3 (.slice a x.one.args.length c) x.one.args.length (Bz x.one.args)->w.heap.size<=W.heap.size->Below w.heap.size w W->∃(a':Option Addr) (c':Nat) (ms:List MI),Ending.returned (.slice (some ⟨W.heap.size,0,none⟩) 1 1)=.returned (.slice a' ms.length c')/\ms.map MI.inst=[⟨k,x.one⟩]/\Lm (W.alloc (.cells #[.int .i64 k, .int .i64 x.one.op, .slice a x.one.args.length c] 58)) w.heap.size (.slice a' ms.length c') ms/\Below w.heap.size w (W.alloc (.cells #[.int .i64 k, .int .i64 x.one.op, .slice a x.one.args.length c] 58)):=by
   intro W a c ho hb hB;exact⟨_,1,[⟨k,⟨x.one.op,x.one.args, .slice a x.one.args.length c⟩⟩],rfl,rfl,Lm.single (m:=⟨k,⟨x.one.op,x.one.args, .slice a x.one.args.length c⟩⟩) ho hb,Bl hB _⟩
  have HFIN:=hfin;clear hfin;rcases hk with rfl | rfl
  ·go_enter Tryz.func39,Tryz.ntmps39
   go_wp2_with (go_at_call 38;refine(HC.out _ blA).mono ?_;rintro e w1 ⟨a1,c1,rfl,ho1,hb1⟩)
   go_ret;exact HFIN _ _ _ (Joins.ownsRow_le ho1 (by simp)) (by have:=hb1.size;simp at this;omega) blA
  ·go_enter Tryz.func39,Tryz.ntmps39
   go_wp2_with (go_at_call 38;refine(HC.out _ blA).mono ?_;rintro e w1 ⟨a1,c1,rfl,ho1,hb1⟩)
   go_ret;exact HFIN _ _ _ (Joins.ownsRow_le ho1 (by simp)) (by have:=hb1.size;simp at this;omega) blA
 ·have HML:=hid (Rl k x h1)
  rw[HML.out];have hkb:(x.kind==1)=false:=by rw[A5f];exact h1
  have IH2:=IH.out h1;have IH3:=hid IH2;have hlen:∀ms:List MI,ms.map MI.inst=Dy x->ms.length<=900000:=λms h=>by rw[<-A4t (f:=MI.inst),h];exact hln
  have HLE:=hid hlen;clear HML IH IH2 HAV h1 hlen;rcases hk with rfl | rfl
  ·go_enter Tryz.func39,Tryz.ntmps39
   go_wp2_with (first | (go_at_call 18;refine(IH3.out _ blA).mono ?_;rintro e w1 ⟨a1,c1,ms,rfl,hms,hr1,hb1⟩;have HMS:=hid hms;clear hms;have hml:=HLE.out ms HMS.out;have HR1:Hid (Lm w1 w.heap.size (.slice a1 ms.length c1) ms):=hr1.le (by simp);clear hr1;have hbw1:Below w.heap.size w w1:=blA) | (at_builtin;refine E8 (m:=mi0 4) rfl _ _ rfl w.heap.size a1 c1 ms rfl rfl HR1.out (Xw _ _ _ _) (by omega) hbw1.size ?_;intro a2 c2 w2 hr2 hb2;have HR2:=hid hr2;clear hr2;have hbw2:=hbw1.trans hb2))
   go_ret;exact⟨a2,c2,ms++[mi0 4],by rw[A4d];rfl,by rw[A4r,HMS.out];rfl,by rw[A4d];exact HR2.out,hbw2⟩
  ·go_enter Tryz.func39,Tryz.ntmps39
   go_wp2_with (first | (go_at_call 18;refine(IH3.out _ blA).mono ?_;rintro e w1 ⟨a1,c1,ms,rfl,hms,hr1,hb1⟩;have HMS:=hid hms;clear hms;have hml:=HLE.out ms HMS.out;have HR1:Hid (Lm w1 w.heap.size (.slice a1 ms.length c1) ms):=hr1.le (by simp);clear hr1;have hbw1:Below w.heap.size w w1:=blA) | (at_builtin;refine E8 (m:=mi0 5) rfl _ _ rfl w.heap.size a1 c1 ms rfl rfl HR1.out (Xw _ _ _ _) (by omega) hbw1.size ?_;intro a2 c2 w2 hr2 hb2;have HR2:=hid hr2;clear hr2;have hbw2:=hbw1.trans hb2))
   go_ret;exact⟨a2,c2,ms++[mi0 5],by rw[A4d];rfl,by rw[A4r,HMS.out];rfl,by rw[A4d];exact HR2.out,hbw2⟩
end Go.Proofs.YtbfljjcnbbmoaaaGreatDoor
namespace Go.Proofs.YtbfljjcnbbmoaaaGreatDoor
open Stil
open Go.RowKit Go.Sort Go.BigFrame
set_option maxHeartbeats 4000000 in
set_option maxRecDepth 100000 in
theorem A2c (n:Stil.Net):Ar n=0->Cc n->Aj n<=400->Awc 18 n (Dy n):=by
 induction n using Fg with
 | h k e kids ih=>
  intro hw hft hs av nv w hav hnv;simp only at hav hnv;have hkw:=Qa hw;simp only at hkw;have hpt:=H8 hw;have hlen:=Acm _ hw;have hkf:=(Fa _ _ _).1 hft;rw[Dz] at hs;simp only at hs;have hks:∀x∈kids,Aj x<=400:=λx hx=>by have:Aj x<=Stil.sizes kids:=Ew Aj kids x hx;omega
  have hkl:kids.length<=400:=by have:=Jl kids;omega
  by_cases h1:k=1
  ·subst h1
   rw[Tz];have HC:=hid (λW h=>Atc e _ W ((hav.below h).at) hkf.2.1.2.1);obtain⟨p0,r0,rfl,hz0⟩:=hav.shape;obtain⟨p1,r1,rfl,hz1,_⟩:=hnv.shape;have HFIN:Hid (∀(W:World) (a:Option Addr) (c:Nat),W.ownsRow w.heap.size 86 3 (.slice a e.args.length c) e.args.length (Bz e.args)->w.heap.size<=W.heap.size->Below w.heap.size w W->∃(a':Option Addr) (c':Nat) (ms:List MI),Ending.returned (.slice (some ⟨W.heap.size,0,none⟩) 1 1)=.returned (.slice a' ms.length c')/\ms.map MI.inst=[⟨1,e⟩]/\Lm (W.alloc (.cells #[.int .i64 1, .int .i64 e.op, .slice a e.args.length c] 58)) w.heap.size (.slice a' ms.length c') ms/\Below w.heap.size w (W.alloc (.cells #[.int .i64 1, .int .i64 e.op, .slice a e.args.length c] 58))):=by
    intro W a c ho hb hB;exact⟨_,1,[⟨1,⟨e.op,e.args, .slice a e.args.length c⟩⟩],rfl,rfl,Lm.single (m:=⟨1,⟨e.op,e.args, .slice a e.args.length c⟩⟩) ho hb,Bl hB _⟩
   clear hz0 hz1 ih hks hkl hw hkw hpt hs hav hnv hft hkf hlen;go_enter Tryz.func18,Tryz.ntmps18
   go_wp2_with (go_at_call 38;refine(HC.out _ blA).mono ?_;rintro e w1 ⟨a1,c1,rfl,ho1,hb1⟩)
   go_ret;exact HFIN.out _ _ _ (Joins.ownsRow_le ho1 (by simp)) (by have:=hb1.size;simp at this;omega) blA
  ·have hne:kids≠[]:=by
    rcases hpt with⟨h,_⟩ | ⟨_,h,_⟩ | ⟨_,_,x,h,_⟩
    ·exact absurd h h1
    ·intro h0;rw[h0] at h;simp at h
    ·intro h0;rw[h0] at h;cases h
   obtain⟨x,r,rfl⟩:=List.exists_cons_of_ne_nil hne;have HAK:=hid (λW (h:Below w.heap.size w W)=>hnv.below h);obtain⟨p0,r0,rfl,hz0⟩:=hav.shape;obtain⟨p1,r1,rfl,hcap,hpc⟩:=hnv.shape;obtain⟨b,o,rfl,hbl,hn⟩:=hpc 0 (by simp);simp only[List.getElem_cons_zero,Nat.zero_mul,Nat.add_zero] at hn;obtain⟨x0,x1,av',nv',x2,x3,hav',hnv'⟩:=hn.open;have HZ:=hid (λW h=>ih x (by simp) (hkw x (by simp)) (hkf.2.2.2 x (by simp)) (hks x (by simp)) av' nv' W (hav'.below h) (hnv'.below h));have hyl:∀y∈x::r,(Dy y).length<=900000:=λy hy=>by have:=Acm y (hkw y hy);have:=hks y hy;omega
   have hrl:r.length<=399:=by simp only[A4e] at hkl;omega
   have hk4:k=4->r=[]:=by
    intro h4;rcases hpt with⟨h,_⟩ | ⟨h,_,_⟩ | ⟨_,_,z,h,_⟩
    ·omega
    ·omega
    ·simp only[List.cons.injEq] at h;exact h.2
   obtain⟨q0,s0,rfl,hz0'⟩:=hav'.shape;obtain⟨q1,s1,rfl,hz1',_⟩:=hnv'.shape;have HXL:Hid (∀ms:List MI,ms.map MI.inst=Dy x->ms.length<=900000):=λms h=>by rw[<-A4t (f:=MI.inst),h];exact hyl x (by simp)
   by_cases h4:k=4
   ·subst h4
    have hr0:=hk4 rfl;subst hr0;rw[Ua];simp only[A4e,A4f,A4m];clear hz0 hz0' hz1' hpc hn ih hks hkl hcap hav hnv hav' hnv' hw hkw hpt hs hk4 HAK hft hkf hlen hyl hrl;go_enter Tryz.func18,Tryz.ntmps18
    go_wp2_with (first | (go_at_call 18;refine(HZ.out _ blA).mono ?_;rintro e w1 ⟨a1,c1,ms,rfl,hms,hr1,hb1⟩;have HMS:=hid hms;clear hms;have hml:=HXL.out ms HMS.out;have HR1:Hid (Lm w1 w.heap.size (.slice a1 ms.length c1) ms):=hr1.le (by simp);clear hr1;have hbw1:Below w.heap.size w w1:=blA) | (at_builtin;refine E8 (m:=mi0 6) rfl _ _ rfl w.heap.size a1 c1 ms rfl rfl HR1.out (Xw _ _ _ _) (by omega) hbw1.size ?_;intro a2 c2 w2 hr2 hb2;have HR2:=hid hr2;clear hr2;have hbw2:=hbw1.trans hb2))
    go_ret;exact⟨a2,c2,ms++[mi0 6],by rw[A4d];rfl,by rw[A4r,HMS.out];rfl,by rw[A4d];exact HR2.out,hbw2⟩
   ·have hk23:k=2\/k=3:=by
     rcases hpt with⟨h,_⟩ | ⟨h,_,_⟩ | ⟨h,_⟩<;>omega
    have HY:=hid (λy hy=>Azj k hk23 y ((Df (hkf.2.2.2 y (A4h _ hy))).2.1.2.1) (hyl y (A4h _ hy)) λ_=>ih y (A4h _ hy) (hkw y (A4h _ hy)) (hkf.2.2.2 y (A4h _ hy)) (hks y (A4h _ hy)));have hkb:(k==1)=false:=by rw[A5f];exact h1
    have hkb4:(k==4)=false:=by rw[A5f];exact h4
    have hnl:=Qz (k:=k) e x r h1 h4;have HTOT:Hid (∀(j:Nat) (ms:List MI),ms.map MI.inst=Dy x++((r.take j).map (D8 k)).flatten->ms.length<=900000):=by
     intro j ms h;rw[<-A4t (f:=MI.inst),h];rw[hnl] at hlen;have h2:((r.take j).map (D8 k)).flatten.length<=(r.map (D8 k)).flatten.length:=by
      conv=>rhs;rw[<-List.take_append_drop j r,A4r,List.flatten_append,A4d]
      omega
     rw[A4d] at hlen ⊢;rw[Dz] at hlen;simp only at hlen;omega
    rw[hnl];simp only[A4e];obtain⟨m,hm⟩:∃m,m=r.length:=⟨_,rfl⟩
    have HMR:=hid hm;rw[<-hm] at hrl ⊢;clear hz0 hz0' hz1' hpc hn ih hks hkl hm hcap hav hnv hav' hnv' hw hkw hpt hs hk4 hft hkf hlen hyl hnl HXL;have hj0:(0:Int)<(m:Int)+1:=by omega
    go_enter Tryz.func18,Tryz.ntmps18
    go_wp2_with (go_at_call 18;refine(HZ.out _ blA).mono ?_;rintro e w1 ⟨a1,c1,ms,rfl,hms,hr1,hb1⟩;have HMS:=hid hms;clear hms;have HR1:Hid (Lm w1 (w.heap.size+1) (.slice a1 ms.length c1) ms):=hr1.le (by simp);clear hr1;have y0:w1.cell? ⟨w.heap.size,0,none⟩=some (.int .i64 k):=(clA hb1);have y3:w1.cell? ⟨w.heap.size,3,none⟩=some (.slice (some ⟨b,o,none⟩) (m+1) r1):=(clA hb1);have hz1:w.heap.size<w1.heap.size:=A4c (by simp) hb1.size)
    have hbw1:Below w.heap.size w w1:=blA;clear hb1 x0 x1 x2 x3 HZ;have HBL:=hid hbl;clear hbl;go_loopw [3,4] (λd i wr=>∃(j:Nat) (ra:Option Addr) (rc:Nat) (ls:List MI),j<=m/\i=.int .i64 ((j:Int)+1)/\d=.slice ra ls.length rc/\ls.map MI.inst=Dy x++((r.take j).map (D8 k)).flatten/\Lm wr (w.heap.size+1) (.slice ra ls.length rc) ls/\Below (w.heap.size+1) w1 wr) (λ_ i _=>m+1 - (intOf i).toNat)
    case atStart=>exact⟨0,a1,c1,ms,by omega,rfl,rfl,by rw[HMS.out];simp,HR1.out,Below.refl _ _⟩
    case round=>
     obtain⟨j,ra,rc,ls,hj,rfl,rfl,hls,hlr,hb⟩:=hrel;have HLS:=hid hls;have HLR:=hid hlr;clear hls hlr HMS HR1;have hbw:=hbw1.trans (hb.mono (by omega));have hzr:=A4c hz1 hb.size;have y0r:=(World.cell?_of_block (a:=⟨w.heap.size,0,none⟩) (hb.block _ (by simp))).trans y0;have y3r:=(World.cell?_of_block (a:=⟨w.heap.size,3,none⟩) (hb.block _ (by simp))).trans y3;by_cases hlt:j<m
     ·have hlr:j<r.length:=by have:=HMR.out;omega
      obtain⟨pa,pc,hpe,_,hpc⟩:=(HAK.out wr hbw).shape;simp only[A4e,Value.slice.injEq,true_and] at hpe;obtain⟨rfl,rfl⟩:=hpe;obtain⟨b2,o2,hbo,hbl,hn⟩:=hpc (j+1) (by simp only[A4e];omega);simp only[Option.some.injEq,Addr.mk.injEq,and_true] at hbo;obtain⟨rfl,rfl⟩:=hbo;simp only[List.getElem_cons_succ] at hn;obtain⟨x0,x1,av,nv,x2,x3,hav,hnv⟩:=hn.open;have HI:=hid (λV h=>HY.out r[j] (A4k hlr) av nv V (hav.below h) (hnv.below h));have HTS:Hid (((r.take (j+1)).map (D8 k)).flatten=((r.take j).map (D8 k)).flatten++D8 k r[j]):=by
       show _=_
       rw[A4w hlr,A4r,List.flatten_append];simp
      obtain⟨y,hy⟩:∃y,y=r[j]:=⟨_,rfl⟩
      rw[<-hy] at HI HTS x0 x1 hav hnv;obtain⟨q0',s0',rfl,hz0⟩:=hav.shape;obtain⟨q1',s1',rfl,hz1'',_⟩:=hnv.shape;have hj1:(0:Int)<=(j:Int)+1:=by omega
      have hj2:(j:Int)+1<(m:Int)+1:=by omega
      have htn:((j:Int)+1).toNat=j+1:=by omega
      have HLL:Hid (∀ks:List MI,ks.map MI.inst=D8 k y->ls.length+ks.length<=1000000/\(ls++ks).map MI.inst=Dy x++((r.take (j+1)).map (D8 k)).flatten):=by
       intro ks hks;have h1:(ls++ks).map MI.inst=Dy x++((r.take (j+1)).map (D8 k)).flatten:=by rw[A4r,HLS.out,hks,HTS.out,A41]
       have h2:=HTOT.out _ _ h1;rw[A4d] at h2;exact⟨by omega,h1⟩
      have HSB:Hid (∀V,Below (w.heap.size+1) wr V->(V.cell? ⟨w.heap.size,0,none⟩=some (.int .i64 k)/\V.cell? ⟨w.heap.size,3,none⟩=some (.slice (some ⟨b,o,none⟩) (m+1) r1)/\V.cell? ⟨b,o+(j+1)*4,none⟩=some (.int .i64 y.kind)/\V.cell? ⟨b,o+(j+1)*4+1,none⟩=some (.int .i64 y.one.op)/\V.cell? ⟨b,o+(j+1)*4+2,none⟩=some (.slice q0' y.one.args.length s0')/\V.cell? ⟨b,o+(j+1)*4+3,none⟩=some (.slice q1' y.kids.length s1'))):=λV hV=>by
       have hb0:=HBL.out;have e0:V.heap[w.heap.size]?=wr.heap[w.heap.size]?:=hV.block _ (by omega);have e1:V.heap[b]?=wr.heap[b]?:=hV.block _ (by omega);exact⟨(World.cell?_of_block (a:=⟨w.heap.size,0,none⟩) e0).trans y0r,(World.cell?_of_block (a:=⟨w.heap.size,3,none⟩) e0).trans y3r,(World.cell?_of_block (a:=⟨b,_,none⟩) e1).trans x0,(World.cell?_of_block (a:=⟨b,_,none⟩) e1).trans x1,(World.cell?_of_block (a:=⟨b,_,none⟩) e1).trans x2,(World.cell?_of_block (a:=⟨b,_,none⟩) e1).trans x3⟩
      clear hz0 hz1'' hy hn hpc hav hnv hbl HTS HAK HY;go_upto_region 10 with fail
      go_region_held3 (λW'=>(W'.cell? ⟨w.heap.size,0,none⟩=some (.int .i64 k)/\W'.cell? ⟨w.heap.size,3,none⟩=some (.slice (some ⟨b,o,none⟩) (m+1) r1)/\W'.cell? ⟨b,o+(j+1)*4,none⟩=some (.int .i64 y.kind)/\W'.cell? ⟨b,o+(j+1)*4+1,none⟩=some (.int .i64 y.one.op)/\W'.cell? ⟨b,o+(j+1)*4+2,none⟩=some (.slice q0' y.one.args.length s0')/\W'.cell? ⟨b,o+(j+1)*4+3,none⟩=some (.slice q1' y.kids.length s1'))) (first | with_reducible assumption | with_reducible exact⟨Aq0.trans y0r,Aq0.trans y3r,Aq0.trans x0,Aq0.trans x1,Aq0.trans x2,Aq0.trans x3⟩ | skip) (first | (refine Aa3 rfl _ _ rfl (w.heap.size+1) wr.heap.size wr ra rc ls ks a2 c2 rfl rfl HLR.out HR2.out hb2 (A4i _) (HLL.out ks HKS.out).1 (by omega) ?_;intro a3 c3 w3 hr3 hb3;have HR3:=hid hr3;clear hr3;have hbw3:=hb.trans ((hb2.mono (by omega)).trans hb3);have hS3:=HSB.out w3 ((hb2.mono (by omega)).trans hb3)) | (go_simp;go_at_call 39;refine(HI.out _ (by exact(Below.refl _ _).drew)).mono ?_;rintro e w2 ⟨a2,c2,ks,rfl,hks,hr2,hb2'⟩;have HKS:=hid hks;have HR2:Hid (Lm w2 wr.heap.size (.slice a2 ks.length c2) ks):=hr2;have hb2:=((Below.refl wr.heap.size wr).drew).trans hb2';have hS2:=HSB.out w2 (hb2.mono (by omega));clear hks hr2 hb2'))
      all_goals
       have h11:=HLL.out ks HKS.out;have HLA:=hid h11.2;have hll:=h11.1;clear h11 HLL HSB hS3 hS2 HI
       go_wp2
       exact⟨⟨j+1,a3,c3,ls++ks,by omega,by go_num,by rw[A4d],HLA.out,by rw[A4d];exact HR3.out,hbw3⟩,by simp[intOf];omega⟩
     ·obtain rfl:j=m:=by omega
      have hmn:=HLS.out;rw[A48 (by rw[<-HMR.out];exact A4i _)] at hmn;have HM2:=hid hmn;clear hmn
      go_wp2
      go_ret;exact⟨ra,rc,ls,rfl,HM2.out,HLR.out.le (by omega),hbw⟩
end Go.Proofs.YtbfljjcnbbmoaaaGreatDoor
namespace Go.Proofs.YtbfljjcnbbmoaaaGreatDoor
open Stil
open Go.RowKit Go.Sort Go.BigFrame
set_option maxHeartbeats 4000000 in
set_option maxRecDepth 100000 in
theorem Aww (n:Stil.Net) (hf:Jn n) (hft:Cc n) (hs:Stil.nsz n<=400):Awc 40 n (En n):=by
 intro av nv w hav hnv;have hbl0:=Afr hf;have HMO:Hid (∀y∈Fv n,A3c 2 y (D8 2 y)):=by
  intro y hy;have hyw:Ar y=0/\Cc y/\Aj y<=400:=by
   have h3:=Aj0 n y hy;unfold Fv at hy;split at hy
   ·cases hy
   ·rename_i hn
    have hfn:=hf.resolve_left hn;split at hy
    ·exact⟨Qa hfn.2.2 y hy,(Df hft).2.2.2 y hy,by omega⟩
    ·rw[List.mem_singleton.1 hy] at h3 ⊢;exact⟨hfn.2.2,hft,by omega⟩
  exact Azj 2 (.inl rfl) y (Df hyw.2.1).2.1.2.1 (by have:=Acm y hyw.1;omega) λ_=>A2c y hyw.1 hyw.2.1 hyw.2.2
 have HN:Hid (∀W,Below w.heap.size w W->Calls Tryz.prog 62 #[.agg #[.int .i64 n.kind, .int .i64 n.one.op,av,nv]] W λe w'=>e=.returned (.bool (Aq n))/\Below W.heap.size W w'):=by
  intro W h;exact Yu n av nv W ((hav.below h).at) ((hnv.below h).at) (by have:=(Df hft).2.1.2.1;omega) (by have:=(Df hft).2.2.1;omega)
 have HAV:=hid (λW (h:Below w.heap.size w W)=>hav.below h);have HNV:=hid (λW (h:Below w.heap.size w W)=>hnv.below h);have HBO:Hid (Fv n=if Aq n then [] else if n.kind=2 then n.kids else [n]):=rfl;have HBL:Hid (En n=((Fv n).map (D8 2)).flatten):=rfl;obtain⟨p0,r0,rfl,hz0⟩:=hav.shape;obtain⟨p1,r1,rfl,hz1,hpc⟩:=hnv.shape;have hkl:=(Df hft).2.2.1;clear hz0 hz1 hav hnv hf hft;obtain⟨bb,hbb⟩:∃bb,bb=Aq n:=⟨_,rfl⟩
 rw[<-hbb] at HN HBO;clear hbb;cases bb with
 | true=>
  have HB0:Hid (En n=[]):=by show _=_;rw[HBL.out,HBO.out];rfl
  rw[HB0.out];clear HBO HBL HMO HAV HNV hbl0 hpc;go_enter Tryz.func40,Tryz.ntmps40
  go_wp2_with (go_at_call 62;refine(HN.out _ blA).mono ?_;rintro e w1 ⟨rfl,hb1⟩)
  go_ret;exact⟨none,0,[],rfl,rfl,⟨World.ownsRow_nil _ _ _ _,λx hx=>by cases hx⟩,blA⟩
 | false=>
  by_cases h2:n.kind=2
  ·have HB2:Hid (Fv n=n.kids):=by show _=_;rw[HBO.out,if_neg (by decide),if_pos h2]
   rw[HB2.out] at HBL HMO;rw[HBL.out];rw[h2] at HN ⊢;have hpc2:=hpc;have HTOT:Hid (∀(j:Nat) (ms:List MI),ms.map MI.inst=((n.kids.take j).map (D8 2)).flatten->ms.length<=800):=by
    intro j ms h;rw[<-A4t (f:=MI.inst),h];rw[HBL.out] at hbl0;have h2:((n.kids.take j).map (D8 2)).flatten.length<=(n.kids.map (D8 2)).flatten.length:=by
     conv=>rhs;rw[<-List.take_append_drop j n.kids,A4r,List.flatten_append,A4d]
     omega
    omega
   obtain⟨m,hm⟩:∃m,m=n.kids.length:=⟨_,rfl⟩
   have HMR:=hid hm;rw[<-hm] at HN hkl ⊢;clear HBO HBL HB2 hbl0 hpc hpc2 h2 hm HAV;go_enter Tryz.func40,Tryz.ntmps40
   go_wp2_with (go_at_call 62;refine(HN.out _ blA).mono ?_;rintro e w1 ⟨rfl,hb1⟩;have y0:w1.cell? ⟨w.heap.size,0,none⟩=some (.int .i64 2):=(clA hb1);have y3:w1.cell? ⟨w.heap.size,3,none⟩=some (.slice p1 m r1):=(clA hb1);have hz1:w.heap.size<w1.heap.size:=A4c (by simp) hb1.size;have hbw1:Below w.heap.size w w1:=blA;clear hb1)
   go_loopw [3,4] (λd i wr=>∃(j:Nat) (ra:Option Addr) (rc:Nat) (ls:List MI),j<=m/\i=.int .i64 (j:Int)/\d=.slice ra ls.length rc/\ls.map MI.inst=((n.kids.take j).map (D8 2)).flatten/\Lm wr (w.heap.size+1) (.slice ra ls.length rc) ls/\Below (w.heap.size+1) w1 wr) (λ_ i _=>m - (intOf i).toNat)
   case atStart=>
    refine⟨0,some ⟨w1.heap.size,0,none⟩,0,[],by omega,rfl,rfl,by simp,⟨?_,λx hx=>by cases hx⟩,((Aa w1 _).mono (by omega))⟩;exact World.ownsRow_lit w1 #[] 0 (by omega) (by unfold maxLen;omega) rfl
   case round=>
    obtain⟨j,ra,rc,ls,hj,rfl,rfl,hls,hlr,hb⟩:=hrel;have HLS:=hid hls;have HLR:=hid hlr;clear hls hlr;have hbw:=hbw1.trans (hb.mono (by omega));have hzr:=A4c hz1 hb.size;have y3r:=(World.cell?_of_block (a:=⟨w.heap.size,3,none⟩) (hb.block _ (by simp))).trans y3;by_cases hlt:j<m
    ·have hlr:j<n.kids.length:=by have:=HMR.out;omega
     obtain⟨pa,pc,hpe,_,hpc⟩:=(HNV.out wr hbw).shape;simp only[Value.slice.injEq,true_and] at hpe;obtain⟨rfl,rfl⟩:=hpe;obtain⟨b2,o2,hbo,hbl,hn⟩:=hpc j hlr;subst hbo;obtain⟨x0,x1,av,nv,x2,x3,hav,hnv⟩:=hn.open;have HI:=hid (λV h=>HMO.out n.kids[j] (A4k hlr) av nv V (hav.below h) (hnv.below h));have HTS:Hid (((n.kids.take (j+1)).map (D8 2)).flatten=((n.kids.take j).map (D8 2)).flatten++D8 2 n.kids[j]):=by
      show _=_
      rw[A4w hlr,A4r,List.flatten_append];simp
     obtain⟨y,hy⟩:∃y,y=n.kids[j]:=⟨_,rfl⟩
     rw[<-hy] at HI HTS x0 x1 hav hnv;obtain⟨q0',s0',rfl,hz0⟩:=hav.shape;obtain⟨q1',s1',rfl,hz1'',_⟩:=hnv.shape;have HLL:Hid (∀ks:List MI,ks.map MI.inst=D8 2 y->ls.length+ks.length<=1000000/\(ls++ks).map MI.inst=((n.kids.take (j+1)).map (D8 2)).flatten):=by
      intro ks hks;have h1:(ls++ks).map MI.inst=((n.kids.take (j+1)).map (D8 2)).flatten:=by rw[A4r,HLS.out,hks,HTS.out]
      have h2:=HTOT.out _ _ h1;rw[A4d] at h2;exact⟨by omega,h1⟩
     clear hz0 hz1'' hy hn hpc hav hnv HTS HNV HMO;have hj2:(j:Int)<(m:Int):=by omega
     go_wp2_with (first | (go_at_call 39;refine(HI.out _ (Below.refl _ _)).mono ?_;rintro e w2 ⟨a2,c2,ks,rfl,hks,hr2,hb2⟩;have HKS:=hid hks;have HR2:=hid hr2;clear hks hr2) | (at_builtin;refine D6 rfl _ _ rfl (w.heap.size+1) wr.heap.size wr ra rc ls ks a2 c2 rfl rfl HLR.out HR2.out hb2 (A4i _) (HLL.out ks HKS.out).1 (by omega) ?_;intro a3 c3 w3 hr3 hb3;have HR3:=hid hr3;clear hr3;have hbw3:=hb.trans ((hb2.mono (by omega)).trans hb3)))
     exact⟨⟨j+1,a3,c3,ls++ks,by omega,by go_num,by rw[A4d],(HLL.out ks HKS.out).2,by rw[A4d];exact HR3.out,hbw3⟩,by simp[intOf];omega⟩
    ·obtain rfl:j=m:=by omega
     have hmn:=HLS.out;rw[A48 (by rw[<-HMR.out];exact A4i _)] at hmn;have HM2:=hid hmn;clear hmn
     go_wp2
     go_ret;exact⟨ra,rc,ls,rfl,HM2.out,HLR.out.le (by omega),hbw⟩
  ·have HB2:Hid (En n=D8 2 n):=by
    show _=_
    rw[HBL.out,HBO.out,if_neg (by decide),if_neg h2];simp
   have HM1:=hid (λW h=>HMO.out n (by rw[HBO.out,if_neg (by decide),if_neg h2];simp) _ _ W (HAV.out W h) (HNV.out W h));rw[HB2.out];have hkb:(n.kind==2)=false:=by rw[A5f];exact h2
   clear HBO HBL HB2 HMO HAV HNV hbl0 hpc h2;go_enter Tryz.func40,Tryz.ntmps40
   go_wp2_with (first | (go_at_call 62;refine(HN.out _ blA).mono ?_;rintro e w1 ⟨rfl,hb1⟩;have y0:w1.cell? ⟨w.heap.size,0,none⟩=some (.int .i64 n.kind):=(clA hb1);have y1:w1.cell? ⟨w.heap.size,1,none⟩=some (.int .i64 n.one.op):=(clA hb1);have y2:w1.cell? ⟨w.heap.size,2,none⟩=some (.slice p0 n.one.args.length r0):=(clA hb1);have y3:w1.cell? ⟨w.heap.size,3,none⟩=some (.slice p1 n.kids.length r1):=(clA hb1)) | (go_at_call 39;refine(HM1.out _ blA).mono ?_;rintro e w2 ⟨a2,c2,ms,rfl,hms,hr2,hb2⟩;have hsz:=hb1.size;simp only[World.alloc,Array.size_push] at hsz))
   go_ret;exact⟨a2,c2,ms,rfl,hms,hr2.le (by omega),blA⟩
end Go.Proofs.YtbfljjcnbbmoaaaGreatDoor
