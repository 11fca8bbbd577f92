import Derived.Test.YtbfljjcnbbmoaaaGreatDoorG1
set_option maxHeartbeats 4000000
set_option maxRecDepth 100000
namespace Go.Proofs.YtbfljjcnbbmoaaaGreatDoor
open Stil
open Go.RowKit Go.Sort Go.BigFrame
theorem Afj (x:Stil.Net)(hs:Aj x<=1000000)(ih:Ab1 52 x (Dv x)):Ab1 81 x (Eg x):=by
 intro av nv w hav hnv;have IH:Hid (∀W,Below w.heap.size w W->Calls Tryz.prog 52 #[.agg #[.int .i64 x.kind, .int .i64 x.one.op,av,nv]] W λe w'=>e=.returned (.int .i64 (Dv x))/\Below W.heap.size W w'):=λW h=>ih av nv W (hav.below h) (hnv.below h)
 have hle:=Abn x;have HT:Hid (Eg x=if x.kind=1 then 1 else 1+Dv x):=rfl;obtain⟨bx,hbx⟩:∃bx,bx=Dv x:=⟨_,rfl⟩
 obtain⟨T,hT⟩:∃T,T=Eg x:=⟨_,rfl⟩
 rw[<-hbx] at IH hle HT;rw[<-hT] at HT ⊢;obtain⟨k,hk⟩:∃k,k=x.kind:=⟨_,rfl⟩
 rw[<-hk] at IH HT ⊢;obtain⟨p0,r0,rfl,hz0⟩:=hav.shape;obtain⟨p1,r1,rfl,hz1,_⟩:=hnv.shape;clear ih hz0 hz1 hbx hT hk hav hnv;by_cases h1:k=1
 ·subst h1
  have HT2:Hid (T=1):=by show _=_;rw[HT.out];rfl
  clear HT;go_enter Tryz.func81,Tryz.ntmps81
  go_wp2
  go_ret;exact⟨C9 (by rw[HT2.out];rfl),blA⟩
 ·have HT2:Hid (T=1+bx):=by show _=_;rw[HT.out,if_neg h1]
  have hkb:(k==1)=false:=by rw[A5a];exact h1
  clear HT;go_enter Tryz.func81,Tryz.ntmps81
  go_wp2_with (go_at_call 52;refine(IH _ blA).mono ?_;rintro e w1 ⟨rfl,hb1⟩)
  go_ret;exact⟨C9 (by rw[HT2.out];go_num),blA⟩
theorem Aij (n:Stil.Net):Au n=0->Aj n<=1000000->Ab1 52 n (Dv n):=by
 induction n using Fh with
 | h k e kids ih=>
  intro hw hs av nv w hav hnv;simp only at hav hnv;have hkw:=Ky hw;simp only at hkw;have hpt:=Ho hw;rw[D8] at hs;simp only at hs;have hks:∀x∈kids,Aj x<=1000000:=λx hx=>by have:Aj x<=Stil.sizes kids:=D9 Aj kids x hx;omega
  have hkl:kids.length<=999999:=by have:=Ig kids;omega
  obtain⟨p0,r0,rfl,hz0⟩:=hav.shape;by_cases h1:k=1
  ·subst h1
   rw[Aee];obtain⟨p1,r1,rfl,hz1,_⟩:=hnv.shape;clear hz0 hz1 ih hks hkl hw hkw hpt hs hav hnv;go_enter Tryz.func52,Tryz.ntmps52
   go_wp2
   go_ret;exact⟨rfl,blA⟩
  ·have hne:kids≠[]:=by
    rcases hpt with⟨h,_⟩ | ⟨_,h,_⟩ | ⟨_,_,x,h,_⟩
    ·exact absurd h h1
    ·intro h0;rw[h0] at h;simp at h
    ·intro h0;rw[h0] at h;cases h
   obtain⟨x,r,rfl⟩:=List.exists_cons_of_ne_nil hne;rw[Aa3 e x r h1];have iD:=hid (λW (h:Below w.heap.size w W)=>hnv.below h);obtain⟨p1,r1,rfl,hcap,hpc⟩:=hnv.shape;obtain⟨b,o,rfl,hbl,hn⟩:=hpc 0 spz;simp only[List.getElem_cons_zero,Nat.zero_mul,Nat.add_zero] at hn;obtain⟨x0,x1,kG,kT,x2,x3,dL,dJ⟩:=hn.open;have HZ:Hid (∀W,Below w.heap.size w W->Calls Tryz.prog 52 #[.agg #[.int .i64 x.kind, .int .i64 x.one.op,kG,kT]] W λe w'=>e=.returned (.int .i64 (Dv x))/\Below W.heap.size W w'):=λW h=>ih x spz (hkw x spz) (hks x spz) kG kT W (dL.below h) (dJ.below h)
   have HY:=hid (λy hy=>Afj y (hks y (A4c _ hy)) (ih y (A4c _ hy) (hkw y (A4c _ hy)) (hks y (A4c _ hy))));have HG:=hid Tt;obtain⟨bz,hbz⟩:∃bz,bz=Dv x:=⟨_,rfl⟩
   rw[<-hbz] at HZ ⊢;obtain⟨q0,s0,rfl,hz0'⟩:=dL.shape;obtain⟨q1,s1,rfl,hz1',_⟩:=dJ.shape;have hrl:r.length<=999998:=by simp only[A39] at hkl;omega
   have hk4:k=4->r=[]:=by
    intro h4;rcases hpt with⟨h,_⟩ | ⟨h,_,_⟩ | ⟨_,_,z,h,_⟩
    ·omega
    ·omega
    ·simp only[List.cons.injEq] at h;exact h.2
   simp only[A39];obtain⟨m,hm⟩:∃m,m=r.length:=⟨_,rfl⟩
   have aP:=hid hm;rw[<-hm] at hrl ⊢;by_cases h4:k=4
   ·subst h4
    have hr0:=hk4 rfl;have HR:Hid (Dn bz (r.map Eg)=bz):=by show _=_;rw[hr0];rfl
    rw[HR.out];have hm0:m=0:=by rw[hm,hr0];rfl
    subst hm0;clear hz0 hz0' hz1' hpc hn hbz ih hks hkl hm hcap hav hnv dL dJ hw hkw hpt hs hr0 hk4 HY HG iD aP;go_enter Tryz.func52,Tryz.ntmps52
    go_wp2_with (go_at_call 52;refine(HZ _ blA).mono ?_;rintro e w1 ⟨rfl,hb1⟩)
    go_ret;exact⟨rfl,blA⟩
   ·have hkb:(k==1)=false:=by rw[A5a];exact h1
    have zI:(k==4)=false:=by rw[A5a];exact h4
    clear hz0 hz0' hz1' hpc hn hbz ih hks hkl hm hcap hav hnv dL dJ hw hkw hpt hs hk4;have hj0:(0:Int)<(m:Int)+1:=omz
    go_enter Tryz.func52,Tryz.ntmps52
    go_wp2_with (go_at_call 52;refine(HZ _ blA).mono ?_;rintro e w1 ⟨rfl,hb1⟩;have y3:w1.cell? ⟨w.heap.size,3,none⟩=some (.slice (some ⟨b,o,none⟩) (m+1) r1):=(clA hb1);have hz1:w.heap.size<w1.heap.size:=A37 spz hb1.size)
    have aS:Below w.heap.size w w1:=blA;clear hb1 x0 x1 x2 x3 hbl HZ;go_loopw [3,4] (λd i wr=>∃(j mm:Nat),j<=m/\i=.int .i64 ((j:Int)+1)/\d=.int .i64 mm/\mm=Dn bz ((r.map Eg).take j)/\Below w1.heap.size w1 wr) (λ_ i _=>m+1 - (intOf i).toNat)
    case atStart=>exact⟨0,bz,omz,rfl,rfl,rfl,Below.refl _ _⟩
    case round=>
     obtain⟨j,mm,hj,rfl,rfl,hmm,hb⟩:=hrel;have HM:=hid hmm;clear hmm;have hbw:=Bd aS hb;have jw:=(hb.cell (p:=⟨w.heap.size,3,none⟩) hz1).trans y3;by_cases hlt:j<m
     ·have hlr:j<r.length:=by have:=aP.out;omega
      obtain⟨pa,pc,hpe,_,hpc⟩:=(iD wr hbw).shape;simp only[A39,Value.slice.injEq,true_and] at hpe;obtain⟨rfl,rfl⟩:=hpe;obtain⟨b2,o2,gQ,hbl,hn⟩:=hpc (j+1) (by simp only[A39];omega);simp only[Option.some.injEq,Addr.mk.injEq,and_true] at gQ;obtain⟨rfl,rfl⟩:=gQ;simp only[List.getElem_cons_succ] at hn;obtain⟨x0,x1,av,nv,x2,x3,hav,hnv⟩:=hn.open;have HI:Hid (∀V,Below wr.heap.size wr V->Calls Tryz.prog 81 #[.agg #[.int .i64 r[j].kind, .int .i64 r[j].one.op,av,nv]] V λe w'=>e=.returned (.int .i64 (Eg r[j]))/\Below V.heap.size V w'):=λV h=>HY r[j] (A4f hlr) av nv V (hav.below h) (hnv.below h)
      have aT:Hid (Dn bz ((r.map Eg).take (j+1))=max (Dn bz ((r.map Eg).take j)) (Eg r[j])):=by
       show _=_
       rw[Jt (by rw[A4o];exact hlr),List.getElem_map]
      obtain⟨y,hy⟩:∃y,y=r[j]:=⟨_,rfl⟩
      rw[<-hy] at HI aT x0 x1 hav hnv;obtain⟨fx,hfx⟩:∃fx,fx=Eg y:=⟨_,rfl⟩
      rw[<-hfx] at HI aT;obtain⟨q0',s0',rfl,hz0⟩:=hav.shape;obtain⟨q1',s1',rfl,jB,_⟩:=hnv.shape;have hj1:(0:Int)<=(j:Int)+1:=omz
      have hj2:(j:Int)+1<(m:Int)+1:=omz
      have htn:((j:Int)+1).toNat=j+1:=omz
      clear hz0 jB hy hfx hn hpc hav hnv hbl
      go_wp2_with (first | (go_at_call 81;refine(HI _ blA).mono ?_;rintro e w2 ⟨rfl,hb2⟩) | (go_at_call 51;refine(HG _ _ _).mono ?_;rintro e w3 ⟨rfl,rfl⟩))
      refine⟨⟨j+1,max mm fx,omz,by go_num,rfl,?_,Bd hb hb2⟩,by simp[intOf];omega⟩;rw[aT.out,<-HM.out]
     ·obtain rfl:j=m:=by omega
      have hmn:=HM.out;rw[A43 (by rw[A4o,<-aP.out];exact A4d _)] at hmn;have dF:=hid hmn;clear hmn
      go_wp2
      go_ret;exact⟨C9 (by rw[dF.out]),hbw⟩
theorem Ao5 (a:Stil.Arm):Ak a<=1000000->Fq a->Aa5 53 a (Eh a):=by
 induction a using Fg with
 | h n cs kids ih=>
  intro hs hfi av nv cv kv w hav hnv hcv hkv;simp only at hav hnv hcv hkv;rw[Cc] at hs;obtain⟨_,eU⟩:=(Eu _ _ _).1 hfi;have hks:∀x∈kids,Ak x<=1000000:=λx hx=>by have:Ak x<=Hq kids:=D9 Ak kids x hx;omega
  have hkl:kids.length<=999999:=by have:=Lc kids;omega
  have IH:=hid (λx hx=>ih x hx (hks x hx) (eU x hx));have HFN:Hid (∀x∈kids,Ir x.net/\Stil.nsz x.net<=999999):=by
   intro x hx;have h1:=eU x hx;have h2:=hks x hx;obtain⟨xn,xc,xk⟩:=x;rw[Cc] at h2;exact⟨((Eu _ _ _).1 h1).1,by simp only;omega⟩
  have iD:=hid (λW (h:Below w.heap.size w W)=>hkv.below h);have HG:=hid Tt;rw[Acr];obtain⟨p0,r0,rfl,hz0⟩:=hav.shape;obtain⟨p1,r1,rfl,hz1,_⟩:=hnv.shape;obtain⟨p2,r2,rfl,hz2⟩:=hcv.shape;obtain⟨p3,r3,rfl,hz3,_⟩:=hkv.shape;clear hz0 hz1 hz2 hz3 hs ih hks hav hnv hcv hkv eU hfi;go_enter Tryz.func53,Tryz.ntmps53
  go_wp2
  obtain⟨W,hW⟩:∃W,W=w.alloc (.cells #[.int .i64 n.kind, .int .i64 n.one.op, .slice p0 n.one.args.length r0, .slice p1 n.kids.length r1, .slice p2 cs.length r2, .slice p3 kids.length r3] 55):=⟨_,rfl⟩
  rw[<-hW];have hbW:Below w.heap.size w W:=by rw[hW];exact Aa _ _
  have kZ:w.heap.size<W.heap.size:=by rw[hW];simp
  have y5:W.cell? ⟨w.heap.size,5,none⟩=some (.slice p3 kids.length r3):=by rw[hW];simp[go_sem]
  clear hW;go_loopw [3,4] (λd i wr=>∃(j m:Nat),j<=kids.length/\i=.int .i64 j/\d=.int .i64 m/\m=Dn 1 ((kids.map (λk=>H9 k.net (Eh k))).take j)/\Below W.heap.size W wr) (λ_ i _=>kids.length - (intOf i).toNat)
  case atStart=>exact⟨0,1,omz,rfl,rfl,rfl,Below.refl _ _⟩
  case round=>
   obtain⟨j,m,hj,rfl,rfl,hm,hb⟩:=hrel;have HM:=hid hm;clear hm;by_cases hlt:j<kids.length
   ·have hbw:=Bd hbW hb
    obtain⟨pa,pc,hpe,_,hpc⟩:=(iD wr hbw).shape;simp only[Value.slice.injEq,true_and] at hpe;obtain⟨rfl,rfl⟩:=hpe;obtain⟨b,o,rfl,hbl,hn⟩:=hpc j hlt;obtain⟨hna,cv,kv,x4,x5,hcv,hkv⟩:=hn.open;obtain⟨x0,x1,av,nv,x2,x3,hav,hnv⟩:=hna.open;have HI:Hid (∀V,Below wr.heap.size wr V->Calls Tryz.prog 53 #[.agg #[.int .i64 kids[j].net.kind, .int .i64 kids[j].net.one.op,av,nv,cv,kv]] V λe w'=>e=.returned (.int .i64 (Eh kids[j]))/\Below V.heap.size V w'):=λV h=>IH kids[j] (A4f hlt) av nv cv kv V (hav.below h) (hnv.below h) (hcv.below h) (hkv.below h)
    obtain⟨hfo,hns⟩:=HFN kids[j] (A4f hlt);have aT:Hid (Dn 1 ((kids.map (λk=>H9 k.net (Eh k))).take (j+1))=max (Dn 1 ((kids.map (λk=>H9 k.net (Eh k))).take j)) (H9 kids[j].net (Eh kids[j]))):=by
     show _=_
     rw[Jt (by rw[A4o];exact hlt),List.getElem_map]
    obtain⟨x,hx⟩:∃x,x=kids[j]:=⟨_,rfl⟩
    rw[<-hx] at HI aT x0 x1 hav hnv hcv hkv hfo hns;have gq:=hid (λV (h:Below wr.heap.size wr V)=>hnv.below h);have xP:Hid (∀y,y∈Di x.net->Ab1 81 y (Eg y)):=by
     intro y hy;have h1:=Aab x.net y hy;have h2:Au y=0:=by
      unfold Di at hy;split at hy
      ·cases hy
      ·rename_i h3
       have h4:=hfo.resolve_left h3;split at hy
       ·exact Ky h4.2.2 y hy
       ·rw[List.mem_singleton.1 hy];exact h4.2.2
     exact Afj y omz (Aij y h2 omz)
    have aH:Hid (∀V,Below wr.heap.size wr V->x.net∈Di x.net->Calls Tryz.prog 81 #[.agg #[.int .i64 x.net.kind, .int .i64 x.net.one.op,av,nv]] V λe w'=>e=.returned (.int .i64 (Eg x.net))/\Below V.heap.size V w'):=λV h hm=>xP x.net hm av nv V (hav.below h) (hnv.below h)
    obtain⟨tb,htb⟩:∃tb,tb=Eh x:=⟨_,rfl⟩
    rw[<-htb] at HI aT;obtain⟨q0,s0,rfl,hz0⟩:=hav.shape;obtain⟨q1,s1,rfl,hz1,_⟩:=hnv.shape;obtain⟨q2,s2,rfl,hz2⟩:=hcv.shape;obtain⟨q3,s3,rfl,hz3,_⟩:=hkv.shape;have tV:=(hb.cell (p:=⟨w.heap.size,5,none⟩) kZ).trans y5;have hlr:=A37 kZ hb.size;have hj1:(0:Int)<=(j:Int):=omz
    have hj2:(j:Int)<(kids.length:Int):=omz
    have je:Hid (∀bs:List Nat,max m (Dn tb bs)=max (Dn m bs) tb):=by
     intro bs;rw[Yp bs tb,Yp bs m];omega
    clear hz0 hz1 hz2 hz3 hx htb hn hna hpc hav hnv hcv hkv;by_cases hnone:Aq x.net=true
    ·have hk0:x.net.kind=0:=by rw[Ym hnone];rfl
     have tJ:Hid (max (Dn 1 ((kids.map (λk=>H9 k.net (Eh k))).take j)) (H9 x.net tb)=max (Dn 1 ((kids.map (λk=>H9 k.net (Eh k))).take j)) tb):=by
      show _=_
      have e:Di x.net=[]:=if_pos hnone;unfold H9;rw[e];rfl
     rw[hk0] at HI x0;clear hnone hfo hns xP aH je gq
     go_wp2_with (first | (go_at_call 53;refine(HI _ blA).mono ?_;rintro e w7 ⟨rfl,hb7⟩;have nV:Below wr.heap.size wr w7:=Bd blA hb7) | (go_at_call 51;refine(HG _ _ _).mono ?_;rintro e w8 ⟨rfl,rfl⟩))
     refine⟨⟨j+1,max m tb,omz,by go_num,rfl,?_,Bd hb nV⟩,by simp[intOf];omega⟩;rw[aT.out,tJ.out,<-HM.out]
    ·have lD:=hfo.resolve_left hnone
     have hkk:=Av6 lD;by_cases hk2:x.net.kind=2
     ·have hbe:Di x.net=x.net.kids:=by unfold Di;rw[if_neg hnone,if_pos hk2]
      have tJ:Hid (max (Dn 1 ((kids.map (λk=>H9 k.net (Eh k))).take j)) (H9 x.net tb)=max (Dn m (x.net.kids.map Eg)) tb):=by
       show _=_
       rw[<-HM.out];unfold H9;rw[hbe];exact je _
      have HMB2:Hid (∀y,y∈x.net.kids->Ab1 81 y (Eg y)):=by rw[hbe] at xP;exact xP.out
      have hnl:x.net.kids.length<=999999:=by
       have e:Stil.nsz x.net=Aj x.net:=if_neg hnone;have h1:=Ig x.net.kids;have h2:=D8 x.net;omega
      rw[hk2] at HI x0;clear hnone hfo hns xP aH je lD hkk hbe;obtain⟨wo,hwo⟩:∃wo:World,wo=wr:=⟨wr,rfl⟩
      subst hwo
      go_wp2
      obtain⟨V5,zX⟩:∃V5,V5=wo.alloc (.cells #[.int .i64 2, .int .i64 x.net.one.op, .slice q0 x.net.one.args.length s0, .slice q1 x.net.kids.length s1] 52):=⟨_,rfl⟩
      rw[<-zX];have lU:Below wo.heap.size wo V5:=by rw[zX];exact Aa _ _
      have hlV:wo.heap.size<V5.heap.size:=by rw[zX];simp
      have v3:V5.cell? ⟨wo.heap.size,3,none⟩=some (.slice q1 x.net.kids.length s1):=by rw[zX];simp[go_sem]
      clear zX;go_loopw [3,6] (λd i wr=>∃(u m2:Nat),u<=x.net.kids.length/\i=.int .i64 u/\d=.int .i64 m2/\m2=Dn m ((x.net.kids.map Eg).take u)/\Below V5.heap.size V5 wr) (λ_ i _=>x.net.kids.length - (intOf i).toNat)
      case atStart=>exact⟨0,m,omz,rfl,rfl,rfl,Below.refl _ _⟩
      case round=>
       obtain⟨u,m2,hu,rfl,rfl,hm2,hbq⟩:=hrel;have dF:=hid hm2;clear hm2;have hbi:=Bd lU hbq;have v3r:=(hbq.cell (p:=⟨wo.heap.size,3,none⟩) hlV).trans v3;by_cases vz:u<x.net.kids.length
       ·obtain⟨pa,pc,hpe,_,hpc⟩:=(gq wr hbi).shape
        simp only[Value.slice.injEq,true_and] at hpe;obtain⟨rfl,rfl⟩:=hpe;obtain⟨bb,oo,rfl,hbbl,hnn⟩:=hpc u vz;obtain⟨e0,e1,av2,nv2,e2,e3,jZ,qH⟩:=hnn.open;have HY:Hid (∀V,Below wr.heap.size wr V->Calls Tryz.prog 81 #[.agg #[.int .i64 x.net.kids[u].kind, .int .i64 x.net.kids[u].one.op,av2,nv2]] V λe w'=>e=.returned (.int .i64 (Eg x.net.kids[u]))/\Below V.heap.size V w'):=λV h=>HMB2 _ (A4f vz) av2 nv2 V (jZ.below h) (qH.below h)
        have HT3:Hid (Dn m ((x.net.kids.map Eg).take (u+1))=max (Dn m ((x.net.kids.map Eg).take u)) (Eg x.net.kids[u])):=by
         show _=_
         rw[Jt (by rw[A4o];exact vz),List.getElem_map]
        obtain⟨y,hy⟩:∃y,y=x.net.kids[u]:=⟨_,rfl⟩
        rw[<-hy] at HY HT3 e0 e1 jZ qH;obtain⟨fy,hfy⟩:∃fy,fy=Eg y:=⟨_,rfl⟩
        rw[<-hfy] at HY HT3;obtain⟨g0,f0,rfl,hz0⟩:=jZ.shape;obtain⟨g1,f1,rfl,hz1,_⟩:=qH.shape;have hu1:(0:Int)<=(u:Int):=omz
        have hu2:(u:Int)<(x.net.kids.length:Int):=omz
        clear hz0 hz1 hy hfy hnn hpc jZ qH
        go_wp2_with (first | (go_at_call 81;refine(HY _ (by exact Below.refl _ _)).mono ?_;rintro e w6 ⟨rfl,hb6⟩) | (go_at_call 51;refine(HG _ _ _).mono ?_;rintro e w8 ⟨rfl,rfl⟩))
        refine⟨⟨u+1,max m2 fy,omz,by go_num,rfl,?_,Bd hbq hb6⟩,by simp[intOf];omega⟩;rw[HT3.out,<-dF.out]
       ·obtain rfl:u=x.net.kids.length:=by omega
        have hmn:=dF.out;rw[A43 (by rw[A4o];exact A4d _)] at hmn;have wC:=hid hmn;have z5:wr.cell? ⟨w.heap.size,5,none⟩=_:=(hbi.cell (p:=⟨w.heap.size,5,none⟩) hlr).trans tV;have z0:wr.cell? ⟨b,o+j*6,none⟩=_:=(hbi.cell (p:=⟨b,o+j*6,none⟩) hbl).trans x0;have z1:wr.cell? ⟨b,o+j*6+1,none⟩=_:=(hbi.cell (p:=⟨b,o+j*6+1,none⟩) hbl).trans x1;have z2:wr.cell? ⟨b,o+j*6+2,none⟩=_:=(hbi.cell (p:=⟨b,o+j*6+2,none⟩) hbl).trans x2;have z3:wr.cell? ⟨b,o+j*6+3,none⟩=_:=(hbi.cell (p:=⟨b,o+j*6+3,none⟩) hbl).trans x3;have z4:wr.cell? ⟨b,o+j*6+4,none⟩=_:=(hbi.cell (p:=⟨b,o+j*6+4,none⟩) hbl).trans x4;have z6:wr.cell? ⟨b,o+j*6+5,none⟩=_:=(hbi.cell (p:=⟨b,o+j*6+5,none⟩) hbl).trans x5;clear hmn
        go_wp2_with (first | (go_at_call 53;refine(HI _ (by exact hbi)).mono ?_;rintro e w7 ⟨rfl,hb7⟩;have nV:=Bd hbi hb7) | (go_at_call 51;refine(HG _ _ _).mono ?_;rintro e w8 ⟨rfl,rfl⟩))
        refine⟨⟨j+1,max m2 tb,omz,by go_num,rfl,?_,Bd hb nV⟩,by simp[intOf];omega⟩;rw[aT.out,tJ.out,<-wC.out]
     ·have hbe:Di x.net=[x.net]:=by unfold Di;rw[if_neg hnone,if_neg hk2]
      have tJ:Hid (max (Dn 1 ((kids.map (λk=>H9 k.net (Eh k))).take j)) (H9 x.net tb)=max (max m (Eg x.net)) tb):=by
       show _=_
       rw[<-HM.out];unfold H9;rw[hbe];exact je _
      have qi:=hid (λV h=>aH V h (by rw[hbe];simp));obtain⟨tk,htk⟩:∃tk,tk=Eg x.net:=⟨_,rfl⟩
      rw[<-htk] at qi tJ;have hkb0:(x.net.kind==0)=false:=by rw[A5a];omega
      have hkb2:(x.net.kind==2)=false:=by rw[A5a];exact hk2
      clear hnone hfo hns xP aH je lD hkk hbe htk gq;go_upto_region 14 with(first | (go_at_call 81;refine(qi _ (by exact Aa _ _)).mono ?_;rintro e w6 ⟨rfl,hb6⟩;have iJ:=Bd (Aa _ _) hb6) | (go_at_call 51;refine(HG _ _ _).mono ?_;rintro e w8 ⟨rfl,rfl⟩))
      have z5:w8.cell? ⟨w.heap.size,5,none⟩=_:=(iJ.cell (p:=⟨w.heap.size,5,none⟩) hlr).trans tV;have z0:w8.cell? ⟨b,o+j*6,none⟩=_:=(iJ.cell (p:=⟨b,o+j*6,none⟩) hbl).trans x0;have z1:w8.cell? ⟨b,o+j*6+1,none⟩=_:=(iJ.cell (p:=⟨b,o+j*6+1,none⟩) hbl).trans x1;have z2:w8.cell? ⟨b,o+j*6+2,none⟩=_:=(iJ.cell (p:=⟨b,o+j*6+2,none⟩) hbl).trans x2;have z3:w8.cell? ⟨b,o+j*6+3,none⟩=_:=(iJ.cell (p:=⟨b,o+j*6+3,none⟩) hbl).trans x3;have z4:w8.cell? ⟨b,o+j*6+4,none⟩=_:=(iJ.cell (p:=⟨b,o+j*6+4,none⟩) hbl).trans x4;have z6:w8.cell? ⟨b,o+j*6+5,none⟩=_:=(iJ.cell (p:=⟨b,o+j*6+5,none⟩) hbl).trans x5;clear hb6
      go_wp2_with (first | (go_at_call 53;refine(HI _ (by exact iJ)).mono ?_;rintro e w7 ⟨rfl,hb7⟩;have nV:=Bd (by exact iJ) hb7) | (go_at_call 51;refine(HG _ _ _).mono ?_;rintro e w8 ⟨rfl,rfl⟩))
      refine⟨⟨j+1,max m (max tk tb),omz,by go_num,rfl,?_,Bd hb nV⟩,by simp[intOf];omega⟩;rw[aT.out,tJ.out,Nat.max_assoc]
   ·obtain rfl:j=kids.length:=by omega
    have hmn:=HM.out;rw[A43 (by rw[A4o];exact A4d _)] at hmn;have dF:=hid hmn;clear hmn;have tV:=(hb.cell (p:=⟨w.heap.size,5,none⟩) kZ).trans y5
    go_wp2
    go_ret;exact⟨C9 (by rw[dF.out]),Bd hbW hb⟩
theorem Aty (l:List Stil.Arm)(kv:Value)(w:World)(hkv:Dj w kv l)(hl:l.length<=1048576)(hsz:Ce l<=1000000000)(hft:∀x∈l,Ci x):
  Calls Tryz.prog 30 #[kv] w λe w'=>e=.returned (.int .i64 (Ll l))/\Below w.heap.size w w':=by
 have HC:=hid (λW h=>Aao l kv W (hkv.below h) hl hsz hft);obtain⟨kD,lH,oD⟩:=I9 hft;have qX:=Tc l;have hR:Hid (Ll l=Dn 0 ((Bc l).map Nc)):=rfl;obtain⟨L,hL⟩:∃L,L=Bc l:=⟨_,rfl⟩
 rw[<-hL] at HC kD lH oD hR qX;have hsx:∀x∈L,Ak x<=400:=λx hx=>A4k (Qy hx) lH
 have IK:=hid (λx hx=>Ao5 x (by have:=hsx x hx;omega) (qX x hx).1);have IB:Hid (∀x∈L,Ab1 52 x.net (Dv x.net)):=by
  intro x hx;have h1:=hsx x hx;obtain⟨h2,h3⟩:=qX x hx;obtain⟨xn,xc,xk⟩:=x;rw[Cc] at h1;simp only at h3 ⊢;have e:Stil.nsz xn=Aj xn:=if_neg (by rw[h3];exact Bool.false_ne_true);exact Aij xn (((Eu _ _ _).1 h2).1.resolve_left (by rw[h3];exact Bool.false_ne_true)).2.2 omz
 have HG:=hid Tt;rw[hR.out];obtain⟨p0,r0,rfl,hz⟩:=hkv;clear hz hft kD lH hR hL qX hsx;go_enter Tryz.func30,Tryz.ntmps30
 go_wp2_with (go_at_call 17;refine(HC _ blA).mono ?_;rintro e w1 ⟨⟨a,c,ms,rfl,hm,hrw⟩,hb1⟩;have hat:Ri w1 (.slice a ms.length c) L:=(by have h:=(AOk.T _ (P7 hrw).1).2.2.2;rw[Aw.arm_eq] at h;rw[<-hm];exact h);have HAT:=hid hat;have hml:ms.length=L.length:=(by rw[<-hm,A4o]);rw[hml] at HAT;rw[hml];clear hat hrw hm hml)
 go_loopw [4,5] (λd i wr=>∃(j m:Nat),j<=L.length/\i=.int .i64 j/\d=.int .i64 m/\m=Dn 0 ((L.map Nc).take j)/\Below w1.heap.size w1 wr) (λ_ i _=>L.length - (intOf i).toNat)
 case atStart=>exact⟨0,0,omz,rfl,rfl,rfl,Below.refl _ _⟩
 case round=>
  obtain⟨j,m,hj,rfl,rfl,hm,hb⟩:=hrel;have HM:=hid hm;clear hm;by_cases hlt:j<L.length
  ·obtain⟨pa,pc,hpe,_,hpc⟩:=(HAT.below hb).shape
   simp only[Value.slice.injEq,true_and] at hpe;obtain⟨rfl,rfl⟩:=hpe;obtain⟨b,o,rfl,hbl,hn⟩:=hpc j hlt;obtain⟨hna,cv,kv,x4,x5,hcv,hkv⟩:=hn.open;obtain⟨x0,x1,av,nv,x2,x3,hav,hnv⟩:=hna.open;have HI:Hid (∀V,Below wr.heap.size wr V->Calls Tryz.prog 53 #[.agg #[.int .i64 L[j].net.kind, .int .i64 L[j].net.one.op,av,nv,cv,kv]] V λe w'=>e=.returned (.int .i64 (Eh L[j]))/\Below V.heap.size V w'):=λV h=>IK L[j] (A4f hlt) av nv cv kv V (hav.below h) (hnv.below h) (hcv.below h) (hkv.below h)
   have HB:Hid (∀V,Below wr.heap.size wr V->Calls Tryz.prog 52 #[.agg #[.int .i64 L[j].net.kind, .int .i64 L[j].net.one.op,av,nv]] V λe w'=>e=.returned (.int .i64 (Dv L[j].net))/\Below V.heap.size V w'):=λV h=>IB L[j] (A4f hlt) av nv V (hav.below h) (hnv.below h)
   have aT:Hid (Dn 0 ((L.map Nc).take (j+1))=max (Dn 0 ((L.map Nc).take j)) (max (Dv L[j].net) (Eh L[j]))):=by
    show _=_
    rw[Jt (by rw[A4o];exact hlt),List.getElem_map];rfl
   obtain⟨x,hx⟩:∃x,x=L[j]:=⟨_,rfl⟩
   rw[<-hx] at HI HB aT x0 x1 hav hnv hcv hkv;obtain⟨tb,htb⟩:∃tb,tb=Eh x:=⟨_,rfl⟩
   obtain⟨bb,hbb⟩:∃bb,bb=Dv x.net:=⟨_,rfl⟩
   rw[<-htb] at HI aT;rw[<-hbb] at HB aT;obtain⟨q0,s0,rfl,hz0⟩:=hav.shape;obtain⟨q1,s1,rfl,hz1,_⟩:=hnv.shape;obtain⟨q2,s2,rfl,hz2⟩:=hcv.shape;obtain⟨q3,s3,rfl,hz3,_⟩:=hkv.shape;have hj1:(0:Int)<=(j:Int):=omz
   have hj2:(j:Int)<(L.length:Int):=omz
   clear hz0 hz1 hz2 hz3 hx htb hbb hn hna hpc hav hnv hcv hkv;go_upto_region 6 with fail
   have k0:=cell_regrown x0;have k1:=cell_regrown x1;have k2:=cell_regrown x2;have k3:=cell_regrown x3;have k4:=cell_regrown x4;have k5:=cell_regrown x5;have qp:=hid (λV=>Tq (HG bb tb V));have HG2:Hid (∀V,Calls Tryz.prog 51 #[.int .i64 m, .int .i64 (max bb tb:Nat)] V λe w'=>e=.returned (.int .i64 (max m (max bb tb):Nat))/\Below V.heap.size V w'):=λV=>Tq (HG m _ V)
   obtain⟨g1,hg1⟩:∃g1,g1=max bb tb:=⟨_,rfl⟩
   rw[<-hg1] at qp HG2 aT;obtain⟨g2,hg2⟩:∃g2,g2=max m g1:=⟨_,rfl⟩
   rw[<-hg2] at HG2;have xQ:=hid hg2;clear x0 x1 x2 x3 x4 x5 hg1 hg2;refine wp_region_quiet_below krz krz ?_;repeat (go_big_quiet_step ((first | exact Calls.regrown_of (HB _ (Ep (Below.refl _ _) _ _)) | exact Calls.regrown_of (HI _ (Ep (Below.refl _ _) _ _)) | exact Calls.regrown_of (qp _) | exact Calls.regrown_of (HG2 _))))
   refine wpQuiet_nil ?_;intro _ hw';obtain⟨⟨dq,osq⟩,hw''⟩:=hw';subst hw''
   go_wp2
   refine⟨⟨j+1,g2,omz,by go_num,rfl,?_,Ep hb _ _⟩,by simp[intOf];omega⟩;rw[aT.out,<-HM.out,xQ.out]
  ·exact zs0
end Go.Proofs.YtbfljjcnbbmoaaaGreatDoor
