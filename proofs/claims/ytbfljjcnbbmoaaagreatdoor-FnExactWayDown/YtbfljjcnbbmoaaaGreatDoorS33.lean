import Derived.Test.YtbfljjcnbbmoaaaGreatDoorS30
import Derived.Deep.RegionHeld3
import Derived.Test.YtbfljjcnbbmoaaaGreatDoorM56
namespace Go.Proofs.YtbfljjcnbbmoaaaGreatDoor
open Stil
open Go.RowKit Go.Sort Go.BigFrame
theorem zk0 {p:Prop}(h:p:=by
 go_enter Tryz.func39,Tryz.ntmps39
 go_wp2_with (go_at_call 38;refine(HC _ blA).mono ?_;rintro e w1 ⟨a1,c1,rfl,ho1,hb1⟩)
 go_ret;exact rW _ _ _ (Joins.ownsRow_le ho1 spz) (by have:=hb1.size;simp at this;omega) blA):p:=h
set_option maxHeartbeats 2000000 in
set_option maxRecDepth 100000 in
theorem Azq (k:Int)(hk:k=2\/k=3)(x:Stil.Net)(hla:x.one.args.length<=1048576)(hln:(D7 x).length<=900000)(ih:x.kind≠1->Aw1 18 x (D7 x)):A3b k x (Ec k x):=by
 intro av nv w hav hnv;have dS:=hid (λW (h:Below w.heap.size w W)=>(hav.below h).at);have IH:=hid (λh1 W h=>ih h1 av nv W (hav.below h) (hnv.below h));obtain⟨p0,r0,rfl,hz0⟩:=hav.shape;obtain⟨p1,r1,rfl,hz1,_⟩:=hnv.shape;clear ih hz0 hz1 hav hnv;by_cases h1:x.kind=1
 ·have iw:=hid (V8 k x h1)
  rw[iw.out];have HC:=hid (λW h=>Atv x.one _ W (dS W h) hla);rw[h1];clear iw IH dS h1;have hfin:∀(W:World) (a:Option Addr) (c:Nat),W.ownsRow w.heap.size 86 3 (.slice a x.one.args.length c) x.one.args.length (Cb x.one.args)->w.heap.size<=W.heap.size->Below w.heap.size w W->∃(a':Option Addr) (c':Nat) (ms:List MI),Ending.returned (.slice (some ⟨W.heap.size,0,none⟩) 1 1)=.returned (.slice a' ms.length c')/\ms.map MI.inst=[⟨k,x.one⟩]/\Ku (W.alloc (.cells #[.int .i64 k, .int .i64 x.one.op, .slice a x.one.args.length c] 58)) w.heap.size (.slice a' ms.length c') ms/\Below w.heap.size w (W.alloc (.cells #[.int .i64 k, .int .i64 x.one.op, .slice a x.one.args.length c] 58)):=by
   intro W a c ho hb hB;exact⟨_,1,[⟨k,⟨x.one.op,x.one.args, .slice a x.one.args.length c⟩⟩],rfl,rfl,Ku.single (m:=⟨k,⟨x.one.op,x.one.args, .slice a x.one.args.length c⟩⟩) ho hb,Bq hB _⟩
  have rW:=hfin;clear hfin;rcases hk with rfl | rfl
  ·exact zk0
  ·exact zk0
 ·have iw:=hid (Td k x h1)
  rw[iw.out];have hkb:(x.kind==1)=false:=by rw[A5a];exact h1
  have IH2:=IH h1;have IH3:=hid IH2;have hlen:∀ms:List MI,ms.map MI.inst=D7 x->ms.length<=900000:=λms h=>by rw[<-A4o (f:=MI.inst),h];exact hln
  have pW:=hid hlen;clear iw IH IH2 dS h1 hlen;rcases hk with rfl | rfl
  ·go_enter Tryz.func39,Tryz.ntmps39
   go_wp2_with (first | (go_at_call 18;refine(IH3 _ blA).mono ?_;rintro e w1 ⟨a1,c1,ms,rfl,hms,hr1,hb1⟩;have dP:=hid hms;clear hms;have hml:=pW ms dP.out;have HR1:Hid (Ku w1 w.heap.size (.slice a1 ms.length c1) ms):=hr1.le spz;clear hr1;have aS:Below w.heap.size w w1:=blA) | (at_builtin;refine F6 (m:=mi0 4) rfl _ _ rfl w.heap.size a1 c1 ms rfl rfl HR1 (Yg _ _ _ _) omz aS.size ?_;intro a2 c2 w2 hr2 hb2;have HR2:=hid hr2;clear hr2;have hbw2:=aS.trans hb2))
   go_ret;exact⟨a2,c2,ms++[mi0 4],by rw[A38];rfl,by rw[A4m,dP.out];rfl,by rw[A38];exact HR2.out,hbw2⟩
  ·go_enter Tryz.func39,Tryz.ntmps39
   go_wp2_with (first | (go_at_call 18;refine(IH3 _ blA).mono ?_;rintro e w1 ⟨a1,c1,ms,rfl,hms,hr1,hb1⟩;have dP:=hid hms;clear hms;have hml:=pW ms dP.out;have HR1:Hid (Ku w1 w.heap.size (.slice a1 ms.length c1) ms):=hr1.le spz;clear hr1;have aS:Below w.heap.size w w1:=blA) | (at_builtin;refine F6 (m:=mi0 5) rfl _ _ rfl w.heap.size a1 c1 ms rfl rfl HR1 (Yg _ _ _ _) omz aS.size ?_;intro a2 c2 w2 hr2 hb2;have HR2:=hid hr2;clear hr2;have hbw2:=aS.trans hb2))
   go_ret;exact⟨a2,c2,ms++[mi0 5],by rw[A38];rfl,by rw[A4m,dP.out];rfl,by rw[A38];exact HR2.out,hbw2⟩
end Go.Proofs.YtbfljjcnbbmoaaaGreatDoor
namespace Go.Proofs.YtbfljjcnbbmoaaaGreatDoor
open Stil
open Go.RowKit Go.Sort Go.BigFrame
theorem zr0 {p:Prop}(h:p:=by
 obtain rfl:j=m:=by omega
 have hmn:=iP.out;rw[A43 (by rw[<-aP.out];exact A4d _)] at hmn;have dF:=hid hmn;clear hmn
 go_wp2
 go_ret;exact⟨ra,rc,ls,rfl,dF.out,iQ.le omz,hbw⟩):p:=h
set_option maxHeartbeats 4000000 in
set_option maxRecDepth 100000 in
theorem A2g (n:Stil.Net):Au n=0->Dc n->Aj n<=400->Aw1 18 n (D7 n):=by
 induction n using Fh with
 | h k e kids ih=>
  intro hw hft hs av nv w hav hnv;simp only at hav hnv;have hkw:=Ky hw;simp only at hkw;have hpt:=Ho hw;have hlen:=Adh _ hw;have bK:=(Hu _ _ _).1 hft;rw[D8] at hs;simp only at hs;have hks:∀x∈kids,Aj x<=400:=λx hx=>by have:Aj x<=Stil.sizes kids:=D9 Aj kids x hx;omega
  have hkl:kids.length<=400:=by have:=Ig kids;omega
  by_cases h1:k=1
  ·subst h1
   rw[Uw];have HC:=hid (λW h=>Atv e _ W ((hav.below h).at) bK.2.1.2.1);obtain⟨p0,r0,rfl,hz0⟩:=hav.shape;obtain⟨p1,r1,rfl,hz1,_⟩:=hnv.shape;have rW:Hid (∀(W:World) (a:Option Addr) (c:Nat),W.ownsRow w.heap.size 86 3 (.slice a e.args.length c) e.args.length (Cb e.args)->w.heap.size<=W.heap.size->Below w.heap.size w W->∃(a':Option Addr) (c':Nat) (ms:List MI),Ending.returned (.slice (some ⟨W.heap.size,0,none⟩) 1 1)=.returned (.slice a' ms.length c')/\ms.map MI.inst=[⟨1,e⟩]/\Ku (W.alloc (.cells #[.int .i64 1, .int .i64 e.op, .slice a e.args.length c] 58)) w.heap.size (.slice a' ms.length c') ms/\Below w.heap.size w (W.alloc (.cells #[.int .i64 1, .int .i64 e.op, .slice a e.args.length c] 58))):=by
    intro W a c ho hb hB;exact⟨_,1,[⟨1,⟨e.op,e.args, .slice a e.args.length c⟩⟩],rfl,rfl,Ku.single (m:=⟨1,⟨e.op,e.args, .slice a e.args.length c⟩⟩) ho hb,Bq hB _⟩
   clear hz0 hz1 ih hks hkl hw hkw hpt hs hav hnv hft bK hlen;go_enter Tryz.func18,Tryz.ntmps18
   go_wp2_with (go_at_call 38;refine(HC _ blA).mono ?_;rintro e w1 ⟨a1,c1,rfl,ho1,hb1⟩)
   go_ret;exact rW _ _ _ (Joins.ownsRow_le ho1 spz) (by have:=hb1.size;simp at this;omega) blA
  ·have hne:kids≠[]:=by
    rcases hpt with⟨h,_⟩ | ⟨_,h,_⟩ | ⟨_,_,x,h,_⟩
    ·exact absurd h h1
    ·intro h0;rw[h0] at h;simp at h
    ·intro h0;rw[h0] at h;cases h
   obtain⟨x,r,rfl⟩:=List.exists_cons_of_ne_nil hne;have iD:=hid (λW (h:Below w.heap.size w W)=>hnv.below h);obtain⟨p0,r0,rfl,hz0⟩:=hav.shape;obtain⟨p1,r1,rfl,hcap,hpc⟩:=hnv.shape;obtain⟨b,o,rfl,hbl,hn⟩:=hpc 0 spz;simp only[List.getElem_cons_zero,Nat.zero_mul,Nat.add_zero] at hn;obtain⟨x0,x1,kG,kT,x2,x3,dL,dJ⟩:=hn.open;have HZ:=hid (λW h=>ih x spz (hkw x spz) (bK.2.2.2 x spz) (hks x spz) kG kT W (dL.below h) (dJ.below h));have hyl:∀y∈x::r,(D7 y).length<=900000:=λy hy=>by have:=Adh y (hkw y hy);have:=hks y hy;omega
   have hrl:r.length<=399:=by simp only[A39] at hkl;omega
   have hk4:k=4->r=[]:=by
    intro h4;rcases hpt with⟨h,_⟩ | ⟨h,_,_⟩ | ⟨_,_,z,h,_⟩
    ·omega
    ·omega
    ·simp only[List.cons.injEq] at h;exact h.2
   obtain⟨q0,s0,rfl,hz0'⟩:=dL.shape;obtain⟨q1,s1,rfl,hz1',_⟩:=dJ.shape;have HXL:Hid (∀ms:List MI,ms.map MI.inst=D7 x->ms.length<=900000):=λms h=>by rw[<-A4o (f:=MI.inst),h];exact hyl x spz
   by_cases h4:k=4
   ·subst h4
    have hr0:=hk4 rfl;subst hr0;rw[Ux];simp only[A39,A4a,A4h];clear hz0 hz0' hz1' hpc hn ih hks hkl hcap hav hnv dL dJ hw hkw hpt hs hk4 iD hft bK hlen hyl hrl;go_enter Tryz.func18,Tryz.ntmps18
    go_wp2_with (first | (go_at_call 18;refine(HZ _ blA).mono ?_;rintro e w1 ⟨a1,c1,ms,rfl,hms,hr1,hb1⟩;have dP:=hid hms;clear hms;have hml:=HXL ms dP.out;have HR1:Hid (Ku w1 w.heap.size (.slice a1 ms.length c1) ms):=hr1.le spz;clear hr1;have aS:Below w.heap.size w w1:=blA) | (at_builtin;refine F6 (m:=mi0 6) rfl _ _ rfl w.heap.size a1 c1 ms rfl rfl HR1 (Yg _ _ _ _) omz aS.size ?_;intro a2 c2 w2 hr2 hb2;have HR2:=hid hr2;clear hr2;have hbw2:=aS.trans hb2))
    go_ret;exact⟨a2,c2,ms++[mi0 6],by rw[A38];rfl,by rw[A4m,dP.out];rfl,by rw[A38];exact HR2.out,hbw2⟩
   ·have eX:k=2\/k=3:=by
     rcases hpt with⟨h,_⟩ | ⟨h,_,_⟩ | ⟨h,_⟩<;>omega
    have HY:=hid (λy hy=>Azq k eX y ((Dp (bK.2.2.2 y (A4c _ hy))).2.1.2.1) (hyl y (A4c _ hy)) λ_=>ih y (A4c _ hy) (hkw y (A4c _ hy)) (bK.2.2.2 y (A4c _ hy)) (hks y (A4c _ hy)));have hkb:(k==1)=false:=by rw[A5a];exact h1
    have zI:(k==4)=false:=by rw[A5a];exact h4
    have hnl:=Rz (k:=k) e x r h1 h4;have dD:Hid (∀(j:Nat) (ms:List MI),ms.map MI.inst=D7 x++((r.take j).map (Ec k)).flatten->ms.length<=900000):=by
     intro j ms h;rw[<-A4o (f:=MI.inst),h];rw[hnl] at hlen;have h2:((r.take j).map (Ec k)).flatten.length<=(r.map (Ec k)).flatten.length:=by
      conv=>rhs;rw[<-List.take_append_drop j r,A4m,List.flatten_append,A38]
      omega
     rw[A38] at hlen ⊢;rw[D8] at hlen;simp only at hlen;omega
    rw[hnl];simp only[A39];obtain⟨m,hm⟩:∃m,m=r.length:=⟨_,rfl⟩
    have aP:=hid hm;rw[<-hm] at hrl ⊢;clear hz0 hz0' hz1' hpc hn ih hks hkl hm hcap hav hnv dL dJ hw hkw hpt hs hk4 hft bK hlen hyl hnl HXL;have hj0:(0:Int)<(m:Int)+1:=omz
    go_enter Tryz.func18,Tryz.ntmps18
    go_wp2_with (go_at_call 18;refine(HZ _ blA).mono ?_;rintro e w1 ⟨a1,c1,ms,rfl,hms,hr1,hb1⟩;have dP:=hid hms;clear hms;have HR1:Hid (Ku w1 (w.heap.size+1) (.slice a1 ms.length c1) ms):=hr1.le spz;clear hr1;have y0:w1.cell? ⟨w.heap.size,0,none⟩=some (.int .i64 k):=(clA hb1);have y3:w1.cell? ⟨w.heap.size,3,none⟩=some (.slice (some ⟨b,o,none⟩) (m+1) r1):=(clA hb1);have hz1:w.heap.size<w1.heap.size:=A37 spz hb1.size)
    have aS:Below w.heap.size w w1:=blA;clear hb1 x0 x1 x2 x3 HZ;have fM:=hid hbl;clear hbl;go_loopw [3,4] (λd i wr=>∃(j:Nat) (ra:Option Addr) (rc:Nat) (ls:List MI),j<=m/\i=.int .i64 ((j:Int)+1)/\d=.slice ra ls.length rc/\ls.map MI.inst=D7 x++((r.take j).map (Ec k)).flatten/\Ku wr (w.heap.size+1) (.slice ra ls.length rc) ls/\Below (w.heap.size+1) w1 wr) (λ_ i _=>m+1 - (intOf i).toNat)
    case atStart=>exact⟨0,a1,c1,ms,omz,rfl,rfl,by rw[dP.out];simp,HR1.out,Below.refl _ _⟩
    case round=>
     obtain⟨j,ra,rc,ls,hj,rfl,rfl,hls,hlr,hb⟩:=hrel;have iP:=hid hls;have iQ:=hid hlr;clear hls hlr dP HR1;have hbw:=aS.trans (hb.mono omz);have jR:=A37 hz1 hb.size;have y0r:=(World.cell?_of_block (a:=⟨w.heap.size,0,none⟩) (hb.block _ spz)).trans y0;have jw:=(World.cell?_of_block (a:=⟨w.heap.size,3,none⟩) (hb.block _ spz)).trans y3;by_cases hlt:j<m
     ·have hlr:j<r.length:=by have:=aP.out;omega
      obtain⟨pa,pc,hpe,_,hpc⟩:=(iD wr hbw).shape;simp only[A39,Value.slice.injEq,true_and] at hpe;obtain⟨rfl,rfl⟩:=hpe;obtain⟨b2,o2,gQ,hbl,hn⟩:=hpc (j+1) (by simp only[A39];omega);simp only[Option.some.injEq,Addr.mk.injEq,and_true] at gQ;obtain⟨rfl,rfl⟩:=gQ;simp only[List.getElem_cons_succ] at hn;obtain⟨x0,x1,av,nv,x2,x3,hav,hnv⟩:=hn.open;have HI:=hid (λV h=>HY r[j] (A4f hlr) av nv V (hav.below h) (hnv.below h));have aT:Hid (((r.take (j+1)).map (Ec k)).flatten=((r.take j).map (Ec k)).flatten++Ec k r[j]):=by
       show _=_
       rw[A4r hlr,A4m,List.flatten_append];simp
      obtain⟨y,hy⟩:∃y,y=r[j]:=⟨_,rfl⟩
      rw[<-hy] at HI aT x0 x1 hav hnv;obtain⟨q0',s0',rfl,hz0⟩:=hav.shape;obtain⟨q1',s1',rfl,jB,_⟩:=hnv.shape;have hj1:(0:Int)<=(j:Int)+1:=omz
      have hj2:(j:Int)+1<(m:Int)+1:=omz
      have htn:((j:Int)+1).toNat=j+1:=omz
      have dH:Hid (∀ks:List MI,ks.map MI.inst=Ec k y->ls.length+ks.length<=1000000/\(ls++ks).map MI.inst=D7 x++((r.take (j+1)).map (Ec k)).flatten):=by
       intro ks hks;have h1:(ls++ks).map MI.inst=D7 x++((r.take (j+1)).map (Ec k)).flatten:=by rw[A4m,iP.out,hks,aT.out,A4w]
       have h2:=dD _ _ h1;rw[A38] at h2;exact⟨omz,h1⟩
      have kJ:Hid (∀V,Below (w.heap.size+1) wr V->(V.cell? ⟨w.heap.size,0,none⟩=some (.int .i64 k)/\V.cell? ⟨w.heap.size,3,none⟩=some (.slice (some ⟨b,o,none⟩) (m+1) r1)/\V.cell? ⟨b,o+(j+1)*4,none⟩=some (.int .i64 y.kind)/\V.cell? ⟨b,o+(j+1)*4+1,none⟩=some (.int .i64 y.one.op)/\V.cell? ⟨b,o+(j+1)*4+2,none⟩=some (.slice q0' y.one.args.length s0')/\V.cell? ⟨b,o+(j+1)*4+3,none⟩=some (.slice q1' y.kids.length s1'))):=λV hV=>by
       have hb0:=fM.out;have e0:V.heap[w.heap.size]?=wr.heap[w.heap.size]?:=hV.block _ omz;have e1:V.heap[b]?=wr.heap[b]?:=hV.block _ omz;exact⟨(World.cell?_of_block (a:=⟨w.heap.size,0,none⟩) e0).trans y0r,(World.cell?_of_block (a:=⟨w.heap.size,3,none⟩) e0).trans jw,(World.cell?_of_block (a:=⟨b,_,none⟩) e1).trans x0,(World.cell?_of_block (a:=⟨b,_,none⟩) e1).trans x1,(World.cell?_of_block (a:=⟨b,_,none⟩) e1).trans x2,(World.cell?_of_block (a:=⟨b,_,none⟩) e1).trans x3⟩
      clear hz0 jB hy hn hpc hav hnv hbl aT iD HY;go_upto_region 10 with fail
      go_region_held3 (λW'=>(W'.cell? ⟨w.heap.size,0,none⟩=some (.int .i64 k)/\W'.cell? ⟨w.heap.size,3,none⟩=some (.slice (some ⟨b,o,none⟩) (m+1) r1)/\W'.cell? ⟨b,o+(j+1)*4,none⟩=some (.int .i64 y.kind)/\W'.cell? ⟨b,o+(j+1)*4+1,none⟩=some (.int .i64 y.one.op)/\W'.cell? ⟨b,o+(j+1)*4+2,none⟩=some (.slice q0' y.one.args.length s0')/\W'.cell? ⟨b,o+(j+1)*4+3,none⟩=some (.slice q1' y.kids.length s1'))) (first | with_reducible assumption | with_reducible exact⟨Aro.trans y0r,Aro.trans jw,Aro.trans x0,Aro.trans x1,Aro.trans x2,Aro.trans x3⟩ | skip) (first | (refine Abs rfl _ _ rfl (w.heap.size+1) wr.heap.size wr ra rc ls ks a2 c2 rfl rfl iQ.out HR2.out hb2 (A4d _) (dH.out ks oW.out).1 (by omega) ?_;intro a3 c3 w3 hr3 hb3;have HR3:=hid hr3;clear hr3;have hbw3:=hb.trans ((hb2.mono (by omega)).trans hb3);have hS3:=kJ.out w3 ((hb2.mono (by omega)).trans hb3)) | (go_simp;go_at_call 39;refine(HI.out _ (by exact(Below.refl _ _).drew)).mono ?_;rintro e w2 ⟨a2,c2,ks,rfl,hks,hr2,hb2'⟩;have oW:=hid hks;have HR2:Hid (Ku w2 wr.heap.size (.slice a2 ks.length c2) ks):=hr2;have hb2:=((Below.refl wr.heap.size wr).drew).trans hb2';have hS2:=kJ.out w2 (hb2.mono (by omega));clear hks hr2 hb2'))
      all_goals
       have h11:=dH ks oW.out;have tH:=hid h11.2;have hll:=h11.1;clear h11 dH kJ hS3 hS2 HI
       go_wp2
       exact⟨⟨j+1,a3,c3,ls++ks,omz,by go_num,by rw[A38],tH.out,by rw[A38];exact HR3.out,hbw3⟩,by simp[intOf];omega⟩
     ·exact zr0
end Go.Proofs.YtbfljjcnbbmoaaaGreatDoor
namespace Go.Proofs.YtbfljjcnbbmoaaaGreatDoor
open Stil
open Go.RowKit Go.Sort Go.BigFrame
set_option maxHeartbeats 4000000 in
set_option maxRecDepth 100000 in
theorem Axi (n:Stil.Net)(hf:Ir n)(hft:Dc n)(hs:Stil.nsz n<=400):Aw1 40 n (E5 n):=by
 intro av nv w hav hnv;have qJ:=Agj hf;have aJ:Hid (∀y∈Di n,A3b 2 y (Ec 2 y)):=by
  intro y hy;have qF:Au y=0/\Dc y/\Aj y<=400:=by
   have h3:=Aab n y hy;unfold Di at hy;split at hy
   ·cases hy
   ·rename_i hn
    have hfn:=hf.resolve_left hn;split at hy
    ·exact⟨Ky hfn.2.2 y hy,(Dp hft).2.2.2 y hy,omz⟩
    ·rw[List.mem_singleton.1 hy] at h3 ⊢;exact⟨hfn.2.2,hft,omz⟩
  exact Azq 2 (.inl rfl) y (Dp qF.2.1).2.1.2.1 (by have:=Adh y qF.1;omega) λ_=>A2g y qF.1 qF.2.1 qF.2.2
 have HN:Hid (∀W,Below w.heap.size w W->Calls Tryz.prog 62 #[.agg #[.int .i64 n.kind, .int .i64 n.one.op,av,nv]] W λe w'=>e=.returned (.bool (Aq n))/\Below W.heap.size W w'):=by
  intro W h;exact Zf n av nv W ((hav.below h).at) ((hnv.below h).at) (by have:=(Dp hft).2.1.2.1;omega) (by have:=(Dp hft).2.2.1;omega)
 have dS:=hid (λW (h:Below w.heap.size w W)=>hav.below h);have gu:=hid (λW (h:Below w.heap.size w W)=>hnv.below h);have kS:Hid (Di n=if Aq n then [] else if n.kind=2 then n.kids else [n]):=rfl;have fM:Hid (E5 n=((Di n).map (Ec 2)).flatten):=rfl;obtain⟨p0,r0,rfl,hz0⟩:=hav.shape;obtain⟨p1,r1,rfl,hz1,hpc⟩:=hnv.shape;have hkl:=(Dp hft).2.2.1;clear hz0 hz1 hav hnv hf hft;obtain⟨bb,hbb⟩:∃bb,bb=Aq n:=⟨_,rfl⟩
 rw[<-hbb] at HN kS;clear hbb;cases bb with
 | true=>
  have HB0:Hid (E5 n=[]):=by show _=_;rw[fM.out,kS.out];rfl
  rw[HB0.out];clear kS fM aJ dS gu qJ hpc;go_enter Tryz.func40,Tryz.ntmps40
  go_wp2_with (go_at_call 62;refine(HN _ blA).mono ?_;rintro e w1 ⟨rfl,hb1⟩)
  go_ret;exact⟨none,0,[],rfl,rfl,⟨World.ownsRow_nil _ _ _ _,λx hx=>by cases hx⟩,blA⟩
 | false=>
  by_cases h2:n.kind=2
  ·have HB2:Hid (Di n=n.kids):=by show _=_;rw[kS.out,if_neg dcz,if_pos h2]
   rw[HB2.out] at fM aJ;rw[fM.out];rw[h2] at HN ⊢;have xe:=hpc;have dD:Hid (∀(j:Nat) (ms:List MI),ms.map MI.inst=((n.kids.take j).map (Ec 2)).flatten->ms.length<=800):=by
    intro j ms h;rw[<-A4o (f:=MI.inst),h];rw[fM.out] at qJ;have h2:((n.kids.take j).map (Ec 2)).flatten.length<=(n.kids.map (Ec 2)).flatten.length:=by
     conv=>rhs;rw[<-List.take_append_drop j n.kids,A4m,List.flatten_append,A38]
     omega
    omega
   obtain⟨m,hm⟩:∃m,m=n.kids.length:=⟨_,rfl⟩
   have aP:=hid hm;rw[<-hm] at HN hkl ⊢;clear kS fM HB2 qJ hpc xe h2 hm dS;go_enter Tryz.func40,Tryz.ntmps40
   go_wp2_with (go_at_call 62;refine(HN _ blA).mono ?_;rintro e w1 ⟨rfl,hb1⟩;have y0:w1.cell? ⟨w.heap.size,0,none⟩=some (.int .i64 2):=(clA hb1);have y3:w1.cell? ⟨w.heap.size,3,none⟩=some (.slice p1 m r1):=(clA hb1);have hz1:w.heap.size<w1.heap.size:=A37 spz hb1.size;have aS:Below w.heap.size w w1:=blA;clear hb1)
   go_loopw [3,4] (λd i wr=>∃(j:Nat) (ra:Option Addr) (rc:Nat) (ls:List MI),j<=m/\i=.int .i64 (j:Int)/\d=.slice ra ls.length rc/\ls.map MI.inst=((n.kids.take j).map (Ec 2)).flatten/\Ku wr (w.heap.size+1) (.slice ra ls.length rc) ls/\Below (w.heap.size+1) w1 wr) (λ_ i _=>m - (intOf i).toNat)
   case atStart=>
    refine⟨0,some ⟨w1.heap.size,0,none⟩,0,[],omz,rfl,rfl,spz,⟨?_,λx hx=>by cases hx⟩,((Aa w1 _).mono omz)⟩;exact World.ownsRow_lit w1 #[] 0 omz (by unfold maxLen;omega) rfl
   case round=>
    obtain⟨j,ra,rc,ls,hj,rfl,rfl,hls,hlr,hb⟩:=hrel;have iP:=hid hls;have iQ:=hid hlr;clear hls hlr;have hbw:=aS.trans (hb.mono omz);have jR:=A37 hz1 hb.size;have jw:=(World.cell?_of_block (a:=⟨w.heap.size,3,none⟩) (hb.block _ spz)).trans y3;by_cases hlt:j<m
    ·have hlr:j<n.kids.length:=by have:=aP.out;omega
     obtain⟨pa,pc,hpe,_,hpc⟩:=(gu wr hbw).shape;simp only[Value.slice.injEq,true_and] at hpe;obtain⟨rfl,rfl⟩:=hpe;obtain⟨b2,o2,gQ,hbl,hn⟩:=hpc j hlr;subst gQ;obtain⟨x0,x1,av,nv,x2,x3,hav,hnv⟩:=hn.open;have HI:=hid (λV h=>aJ n.kids[j] (A4f hlr) av nv V (hav.below h) (hnv.below h));have aT:Hid (((n.kids.take (j+1)).map (Ec 2)).flatten=((n.kids.take j).map (Ec 2)).flatten++Ec 2 n.kids[j]):=by
      show _=_
      rw[A4r hlr,A4m,List.flatten_append];simp
     obtain⟨y,hy⟩:∃y,y=n.kids[j]:=⟨_,rfl⟩
     rw[<-hy] at HI aT x0 x1 hav hnv;obtain⟨q0',s0',rfl,hz0⟩:=hav.shape;obtain⟨q1',s1',rfl,jB,_⟩:=hnv.shape;have dH:Hid (∀ks:List MI,ks.map MI.inst=Ec 2 y->ls.length+ks.length<=1000000/\(ls++ks).map MI.inst=((n.kids.take (j+1)).map (Ec 2)).flatten):=by
      intro ks hks;have h1:(ls++ks).map MI.inst=((n.kids.take (j+1)).map (Ec 2)).flatten:=by rw[A4m,iP.out,hks,aT.out]
      have h2:=dD _ _ h1;rw[A38] at h2;exact⟨omz,h1⟩
     clear hz0 jB hy hn hpc hav hnv aT gu aJ;have hj2:(j:Int)<(m:Int):=omz
     go_wp2_with (first | (go_at_call 39;refine(HI _ (Below.refl _ _)).mono ?_;rintro e w2 ⟨a2,c2,ks,rfl,hks,hr2,hb2⟩;have oW:=hid hks;have HR2:=hid hr2;clear hks hr2) | (at_builtin;refine Eb rfl _ _ rfl (w.heap.size+1) wr.heap.size wr ra rc ls ks a2 c2 rfl rfl iQ HR2 hb2 (A4d _) (dH ks oW.out).1 omz ?_;intro a3 c3 w3 hr3 hb3;have HR3:=hid hr3;clear hr3;have hbw3:=hb.trans ((hb2.mono omz).trans hb3)))
     exact⟨⟨j+1,a3,c3,ls++ks,omz,by go_num,by rw[A38],(dH ks oW.out).2,by rw[A38];exact HR3.out,hbw3⟩,by simp[intOf];omega⟩
    ·exact zr0
  ·have HB2:Hid (E5 n=Ec 2 n):=by
    show _=_
    rw[fM.out,kS.out,if_neg dcz,if_neg h2];simp
   have qi:=hid (λW h=>aJ n (by rw[kS.out,if_neg dcz,if_neg h2];simp) _ _ W (dS W h) (gu W h));rw[HB2.out];have hkb:(n.kind==2)=false:=by rw[A5a];exact h2
   clear kS fM HB2 aJ dS gu qJ hpc h2;go_enter Tryz.func40,Tryz.ntmps40
   go_wp2_with (first | (go_at_call 62;refine(HN _ blA).mono ?_;rintro e w1 ⟨rfl,hb1⟩;have y0:w1.cell? ⟨w.heap.size,0,none⟩=some (.int .i64 n.kind):=(clA hb1);have y1:w1.cell? ⟨w.heap.size,1,none⟩=some (.int .i64 n.one.op):=(clA hb1);have y2:w1.cell? ⟨w.heap.size,2,none⟩=some (.slice p0 n.one.args.length r0):=(clA hb1);have y3:w1.cell? ⟨w.heap.size,3,none⟩=some (.slice p1 n.kids.length r1):=(clA hb1)) | (go_at_call 39;refine(qi _ blA).mono ?_;rintro e w2 ⟨a2,c2,ms,rfl,hms,hr2,hb2⟩;have hsz:=hb1.size;simp only[World.alloc,Array.size_push] at hsz))
   go_ret;exact⟨a2,c2,ms,rfl,hms,hr2.le omz,blA⟩
end Go.Proofs.YtbfljjcnbbmoaaaGreatDoor
