import Derived.Test.YtbfljjcnbbmoaaaGreatDoorGm
import Derived.Test.YtbfljjcnbbmoaaaGreatDoorHg
namespace Go.Proofs.YtbfljjcnbbmoaaaGreatDoor
open Stil
open Go.RowKit Go.Sort Go.BigFrame
set_option maxHeartbeats 2000000 in
set_option maxRecDepth 100000 in
theorem Azr (k:Int)(kids:List Stil.Net)(ih:∀x∈kids,∀(av kv:Value) (w:World),Bi w av x.one.args->Dx w kv x.kids->Calls Tryz.prog 63 #[.agg #[.int .i64 x.kind, .int .i64 x.one.op,av,kv]] w λe w'=>Nr w' w.heap.size (A7 x) e/\Below w.heap.size w w')
  (v:Value) (w:World) (hat:Dx w v kids) (hl:kids.length<=1048576) (hs:Stil.sizes (kids.map A7)<=1000000):
  Calls Tryz.prog 90 #[.int .i64 k,v] w λe w'=>Nr w' w.heap.size (Fb k (Cf k (kids.map A7))) e/\Below w.heap.size w w':=by
 obtain⟨i0,hi,hz0,hz1,hz2⟩:=info_parts Ab6;obtain⟨a,cap,rfl,hc⟩:=hat;have HA:=hid hc;have IH:=hid ih;have HS:=hid hs;clear hc ih hs;go_enter Tryz.func90,Tryz.ntmps90
 go_wp2
 go_loopw [6] (λi wr=>∃(j:Nat) (ms:List Ah) (ra:Option Addr) (rc:Nat),j<=kids.length/\i=.int .i64 j/\B4 wr w.heap.size (.int .i64 0) (.int .i64 0) (.slice none 0 0) (.slice none 0 0)/\B4 wr (w.heap.size+1) (.int .i64 k) (.int .i64 0) (.slice none 0 0) (.slice ra ms.length rc)/\
   J4 wr (w.heap.size+2) (.slice ra ms.length rc) ms/\ms.map Ah.net=Cf k ((kids.take j).map A7)/\Below w.heap.size w wr) (λi _=>kids.length - (intOf i).toNat)
 case atStart=>
  refine⟨0,[],none,0,omz,rfl,?_,?_,J4.nil _ _,rfl,blA⟩
  ·refine⟨by simp;omega,⟨by simp[go_sem],by simp[go_sem],by simp[go_sem],by simp[go_sem]⟩,by simp[go_sem],by simp[go_sem],by simp[go_sem],by simp[go_sem]⟩
  ·refine⟨spz,⟨by simp[go_sem],by simp[go_sem],by simp[go_sem],by simp[go_sem]⟩,by simp[go_sem],by simp[go_sem],by simp[go_sem],by simp[go_sem]⟩
 case round=>
  obtain⟨j,ms,ra,rc,hj,rfl,hbn,gQ,hmr,zB,hB⟩:=hrel;have lJ:=hid hbn;have kS:=hid gQ;have aP:=hid hmr;have iq:=hid zB;clear hbn gQ hmr zB;by_cases hlt:j<kids.length
  ·obtain⟨b,o,rfl,hbl,hn⟩:=HA j hlt
   obtain⟨x0,x1,av,kv,x2,x3,hav,hkv⟩:=(Nw.below hB _ _ _ hn hbl).open;have HI:=hid (λW hW=>IH kids[j] (A4f hlt) av kv W (hav.below hW) (hkv.below hW));obtain⟨x,hx⟩:∃x,x=kids[j]:=⟨_,rfl⟩
   rw[<-hx] at HI x0 x1 hav hkv;have HX:=hid hx;obtain⟨p0,r0,rfl,_⟩:=hav;obtain⟨p1,r1,rfl,_⟩:=hkv;clear hx hn;go_upto_region 6 with(go_at_call 63;refine(HI _ blB).mono ?_;rintro e w2 ⟨⟨mk,aG,aF,s0,t0,s1,t1,aC,rfl,hmo,hmn⟩,hb2⟩;have aJ:Hid (Ik w2 _ ⟨mk,aG,aF, .slice s0 aF.length t0, .slice s1 aC.length t1,aC⟩):=hmo;have aH:=hid hmn;clear hmo hmn)
   obtain⟨W,hW⟩:∃W,W=w2.alloc (.cells #[.int .i64 mk, .int .i64 aG, .slice s0 aF.length t0, .slice s1 aC.length t1] 52):=⟨_,rfl⟩
   rw[<-hW];have hsW:W.heap.size=w2.heap.size+1:=by rw[hW];simp
   have qM:Below w2.heap.size w2 W:=by rw[hW];exact Aa _ _
   have n0:W.cell? ⟨w2.heap.size,0,none⟩=some (.int .i64 mk):=by rw[hW];simp[go_sem]
   have n1:W.cell? ⟨w2.heap.size,1,none⟩=some (.int .i64 aG):=by rw[hW];simp[go_sem]
   have n2:W.cell? ⟨w2.heap.size,2,none⟩=some (.slice s0 aF.length t0):=by rw[hW];simp[go_sem]
   have n3:W.cell? ⟨w2.heap.size,3,none⟩=some (.slice s1 aC.length t1):=by rw[hW];simp[go_sem]
   have hbW:=hb2.trans (qM.mono hb2.size);have hBW:=hB.trans (hbW.mono hB.size);have gQ:=kS.below hbW kS.1;have hwW:w.heap.size+2<=W.heap.size:=by have:=gQ.1;omega
   have mJ:=hid gQ;have wX:=hid (lJ.below hbW lJ.1);have ig:=hid (aP.below hbW);have oV:Hid (Ik W (w.heap.size+2) ⟨mk,aG,aF, .slice s0 aF.length t0, .slice s1 aC.length t1,aC⟩):=((aJ.below qM).le (by have:=kS.1;omega))
   have hap:∀ks:List Ah,(∀m∈ks,MOk w2 wr.heap.size m)->(Ew ks).Pairwise Aside->(Value.slice ra ms.length rc::(Ew ms++Ew ks)).Pairwise Aside:=λks h1 h2=>aP.apart h1 (A4d _) h2
   have hsn:=Av4 k kids j hlt;rw[<-HX.out,<-aH.out,<-iq.out,Ah.net_eq] at hsn;simp only at hsn;have hft:=Av3 k kids (j+1);rw[hsn] at hft;have hS:=HS.out;obtain⟨_,⟨o0,o1,o2,o3⟩,g0,g1,g2,g3⟩:=gQ;by_cases hkk:mk=k
   ·rw[if_pos hkk] at hsn hft
    have hl2:ms.length+aC.length<=1000000:=by
     simp only[A38,A4o] at hft;omega
    have nG:(ms++aC).map Ah.net=Cf k ((kids.take (j+1)).map A7):=by rw[hsn,A4m]
    have hpw:=hap aC aJ.kids.1 aJ.kids.2;have HP:=hid hpw;have HK:Hid (∀m∈aC,MOk W (w.heap.size+2) m):=oV.kids.1;have aU:=hid nG;have HXS:Hid (0<aC.length->∃p,s1=some p/\∀j u,(Gm aC)[j]?=some u->W.cell? (p.add j)=some u):=by
     intro hz;have hr:=((H5 _ _ _).1 oV.1).2.1;simp only at hr;obtain⟨g,c,hv,_,_,_,hcell⟩:=Az hr hz;simp only[Value.slice.injEq] at hv;exact⟨⟨g,0,none⟩,hv.1,λj u hu=>by rw[Addr.add_lit];simpa using hcell j u hu⟩
    clear hW hft hsn nG hpw hap hS qM aJ aH HI aP kS lJ oV hsW hb2;rw[hkk] at n0
    go_wp2_with (at_builtin;refine Rn rfl _ _ rfl (w.heap.size+2) ra rc ms aC s1 t1 rfl rfl ig HXS HK HP hl2 hwW ?_;intro a6 c6 w6 aW hb6;obtain⟨_,⟨_,_,_,y3⟩,_,_,_,f3⟩:=mJ.below hb6 (Nat.lt_succ_self _);have gJ:=hid aW;clear aW)
    all_goals
     try go_wp2
     refine⟨⟨j+1,ms++aC,a6,c6,omz,by go_num,?_,?_,?_,aU.out,?_⟩,by simp[intOf];omega⟩
     ·exact(wX.below hb6 omz).setO omz _
     ·rw[A38]
      exact(mJ.below hb6 (Nat.lt_succ_self _)).set3 _
     ·rw[A38]
      exact gJ.set (a:=⟨w.heap.size+1,3,none⟩) (Nat.lt_succ_self _) _
     ·exact(hBW.trans (hb6.mono omz)).setCell spz _
   ·rw[if_neg hkk] at hsn hft
    have hl2:ms.length+[(Ah.mk mk aG aF (.slice s0 aF.length t0) (.slice s1 aC.length t1) aC)].length<=1000000:=by
     simp only[A38,A4o,A48] at hft ⊢;omega
    have nG:(ms++[Ah.mk mk aG aF (.slice s0 aF.length t0) (.slice s1 aC.length t1) aC]).map Ah.net=Cf k ((kids.take (j+1)).map A7):=by
     rw[hsn,A4m,List.map_singleton,Ah.net_eq]
    have hpw:=hap [Ah.mk mk aG aF (.slice s0 aF.length t0) (.slice s1 aC.length t1) aC] (λm hm=>by rw[List.mem_singleton.1 hm];exact aJ.1) (by rw[Je];exact aJ.2);have HP:=hid hpw;have HK:Hid (∀m∈[Ah.mk mk aG aF (.slice s0 aF.length t0) (.slice s1 aC.length t1) aC],MOk W (w.heap.size+2) m):=λm hm=>by rw[List.mem_singleton.1 hm];exact oV.1
    have aU:=hid nG;have ekk:(mk==k)=false:=by rw[A5a];exact hkk
    clear hW hft hsn nG hpw hap hS qM aJ aH HI aP kS lJ oV hsW hb2 hkk
    go_wp2_with (at_builtin;refine Rn rfl _ _ rfl (w.heap.size+2) ra rc ms [Ah.mk mk aG aF (.slice s0 aF.length t0) (.slice s1 aC.length t1) aC] (some ⟨W.heap.size,0,none⟩) 1 rfl rfl (ig.below (Aa _ _)) (λ_=>⟨_,rfl,by exact cells4⟩) (λm hm=>(HK m hm).below (Aa _ _)) HP hl2 (by simp only[World.size_alloc];omega) ?_;intro a6 c6 w6 aW hb6;obtain⟨_,⟨_,_,_,y3⟩,_,_,_,f3⟩:=(mJ.below (Aa _ _) mJ.1).below hb6 (Nat.lt_succ_self _);have gJ:Hid (J4 w6 (w.heap.size+2) (.slice a6 (ms.length+1) c6) (ms++[Ah.mk mk aG aF (.slice s0 aF.length t0) (.slice s1 aC.length t1) aC])):=aW;clear aW)
    all_goals
     try go_wp2
     refine⟨⟨j+1,ms++[Ah.mk mk aG aF (.slice s0 aF.length t0) (.slice s1 aC.length t1) aC],a6,c6,omz,by go_num,?_,?_,?_,aU.out,?_⟩,by simp[intOf];omega⟩
     ·exact((wX.below (Aa _ _) wX.1).below hb6 omz).setO omz _
     ·rw[A38]
      exact((mJ.below (Aa _ _) mJ.1).below hb6 (Nat.lt_succ_self _)).set3 _
     ·rw[A38]
      exact gJ.set (a:=⟨w.heap.size+1,3,none⟩) (Nat.lt_succ_self _) _
     ·exact((Bq hBW _).trans (hb6.mono omz)).setCell spz _
  ·obtain rfl:j=kids.length:=by omega
   have hmn:=iq.out;rw[List.take_length] at hmn;obtain⟨_,⟨z0,z1,z2,z3⟩,e0,e1,e2,e3⟩:=lJ.out;obtain⟨_,⟨o0,o1,o2,o3⟩,_⟩:=kS.out;by_cases h1:ms.length=1
   ·obtain⟨m,rfl⟩:=List.length_eq_one_iff.1 h1
    have hmo:=aP.one 0 spz;simp only[List.getElem_cons_zero] at hmo;obtain⟨g,c,hv,_,hlt2,_,hcell⟩:=Az aP.1 spz;obtain⟨a1,a2,a3,a4⟩:=Jj [m] 0 spz;have y0:=hcell _ _ a1;have y1:=hcell _ _ a2;have y2:=hcell _ _ a3;have y3:=hcell _ _ a4;simp only[List.getElem_cons_zero,Nat.zero_mul,A4h] at y0 y1 y2 y3;have hok:=(H5 _ _ _).1 hmo.1;obtain⟨d1,d2,hd⟩:=Af hok.1;obtain⟨d3,d4,hd2⟩:=Af hok.2.1;simp only[Value.slice.injEq] at hv;obtain⟨rfl,_,rfl⟩:=hv;have hbl:Fb k (Cf k (kids.map A7))=m.net:=by rw[<-hmn];rfl
    have fM:=hid hbl;obtain⟨mk,aG,aF,uq,uo,aC⟩:=m;simp only at hd hd2 y0 y1 y2 y3;subst hd;subst hd2;have aJ:=hid hmo;clear hmo hok hmn hbl hcell aP;simp only[A48] at o3
    go_wp2
    refine bodyPost_ret (v:=.agg #[.int .i64 mk, .int .i64 aG, .slice d1 aF.length d2, .slice d3 aC.length d4]) (by simp[results,Tryz.results90,go_sem,z0,z1,z2,z3]) rfl ⟨⟨mk,aG,aF,d1,d2,d3,d4,aC,rfl,?_,fM.symm⟩,blA⟩;refine Ik.le (base:=w.heap.size+2) ?_ omz;repeat (refine Ik.set ?_ (by first | (simp;done) | (simp;omega)) _)
    exact aJ.out
   ·have hbl:Fb k (Cf k (kids.map A7))=⟨k,⟨0,[]⟩,ms.map Ah.net⟩:=by
     rw[<-hmn];unfold Fb;rw[dif_neg (by simpa using h1)]
    have fM:=hid hbl;have hmo:=aP.net k 0 [] (World.ownsRow_nil _ _ _ _) (λx _=>Nl x);have aJ:=hid hmo;have e1':((ms.length:Int)==1)=false:=by rw[A5a];omega
    have bf:¬((ms.length:Int)=1):=omz
    clear hmo hmn hbl aP
    go_wp2
    refine bodyPost_ret (v:=.agg #[.int .i64 k, .int .i64 0, .slice none 0 0, .slice ra ms.length rc]) (by simp[results,Tryz.results90,go_sem,z0,z1,z2,z3]) rfl ⟨⟨k,0,[],none,0,ra,rc,ms,rfl,?_,by rw[Ah.net_eq,fM.out]⟩,blA⟩;refine Ik.le (base:=w.heap.size+2) ?_ omz;repeat (refine Ik.set ?_ (by first | (simp;done) | (simp;omega)) _)
    exact aJ.out
end Go.Proofs.YtbfljjcnbbmoaaaGreatDoor
namespace Go.Proofs.YtbfljjcnbbmoaaaGreatDoor
open Stil
open Go.RowKit Go.Sort Go.BigFrame
variable {base:Nat}{u1 u2 u3 u4:Value}
theorem Ik.set4 {w:World}{b o1 o2 o3 o4:Nat}{m:Ah}(h:Ik w base m)(hb:b<base):Ik ((((w.setCell ⟨b,o1,none⟩ u1).setCell ⟨b,o2,none⟩ u2).setCell ⟨b,o3,none⟩ u3).setCell ⟨b,o4,none⟩ u4) base m:=⟨h.1.set4 hb,h.2⟩
theorem J4.single4 {w:World}{b:Nat}{m:Ah}(h:Ik w base m)(hb:b<base)(hw:base<=w.heap.size):J4 (((((w.setCell ⟨b,0,none⟩ u1).setCell ⟨b,1,none⟩ u2).setCell ⟨b,2,none⟩ u3).setCell ⟨b,3,none⟩ u4).alloc (.cells #[.int .i64 m.kind, .int .i64 m.op,m.av,m.kv] 52)) base (.slice (some ⟨w.heap.size,0,none⟩) 1 1) [m]:=by
 have hm:=J4.single (w:=(((w.setCell ⟨b,0,none⟩ u1).setCell ⟨b,1,none⟩ u2).setCell ⟨b,2,none⟩ u3).setCell ⟨b,3,none⟩ u4) (base:=base) (m:=m) (h.set4 hb) (by simp only[World.size_setCell];exact hw);simpa only[World.size_setCell] using hm
set_option maxHeartbeats 4000000 in
set_option maxRecDepth 100000 in
theorem A0h (x:Stil.Net)(av kv:Value)(w:World)(hav:Bi w av [])(hkv:Dx w kv [x])(hxw:∀(av kv:Value) (w:World),Bi w av x.one.args->Dx w kv x.kids->Calls Tryz.prog 63 #[.agg #[.int .i64 x.kind, .int .i64 x.one.op,av,kv]] w λe w'=>Nr w' w.heap.size (A7 x) e/\Below w.heap.size w w'):
  Calls Tryz.prog 63 #[.agg #[.int .i64 4, .int .i64 0,av,kv]] w λe' w'=>Nr w' w.heap.size (A7 ⟨4,⟨0,[]⟩,[x]⟩) e'/\Below w.heap.size w w':=by
 have HN:Hid (A7 ⟨4,⟨0,[]⟩,[x]⟩=⟨4,⟨0,[]⟩,[A7 x]⟩):=by show _=_;rw[Ib,if_neg omz];rfl
 obtain⟨p1,r1,rfl,hx0⟩:=hkv;obtain⟨b,o,rfl,hbl,hn⟩:=hx0 0 spz;simp only[List.getElem_cons_zero,Nat.zero_mul,Nat.add_zero] at hn;obtain⟨x0,x1,jy,xR,x2,x3,hxa,hxk⟩:=hn.open;have HI:=hid (λW hW=>hxw jy xR W (hxa.below hW) (hxk.below hW));obtain⟨p0,r0,rfl,bP⟩:=hav;obtain⟨p2,r2,rfl,kU⟩:=hxa;obtain⟨p3,r3,rfl,iG⟩:=hxk;clear bP kU iG;obtain⟨N,hN⟩:∃N,N=A7 x:=⟨_,rfl⟩
 rw[<-hN] at HI HN;clear hxw hN hn hx0;go_enter Tryz.func63,Tryz.ntmps63;go_upto_region 6 with fail
 obtain⟨W,hW⟩:∃W,W=(w.alloc (.cells #[.int .i64 4, .int .i64 0, .slice p0 0 r0, .slice (some ⟨b,o,none⟩) 1 r1] 52)).alloc (.cells #[.int .i64 0, .int .i64 0, .slice none 0 0, .slice none 0 0] 52):=⟨_,rfl⟩
 rw[<-hW];have q0:W.cell? ⟨w.heap.size,0,none⟩=some (.int .i64 4):=by rw[hW];simp[go_sem]
 have q1:W.cell? ⟨w.heap.size,1,none⟩=some (.int .i64 0):=by rw[hW];simp[go_sem]
 have q2:W.cell? ⟨w.heap.size,2,none⟩=some (.slice p0 0 r0):=by rw[hW];simp[go_sem]
 have q3:W.cell? ⟨w.heap.size,3,none⟩=some (.slice (some ⟨b,o,none⟩) 1 r1):=by rw[hW];simp[go_sem]
 have su:W.cell? ⟨w.heap.size+1,0,none⟩=some (.int .i64 0):=by rw[hW];simp[go_sem]
 have ry:W.cell? ⟨w.heap.size+1,1,none⟩=some (.int .i64 0):=by rw[hW];simp[go_sem]
 have ru:W.cell? ⟨w.heap.size+1,2,none⟩=some (.slice none 0 0):=by rw[hW];simp[go_sem]
 have rq:W.cell? ⟨w.heap.size+1,3,none⟩=some (.slice none 0 0):=by rw[hW];simp[go_sem]
 have v0:W.frozen? ⟨w.heap.size+1,0,none⟩=false:=by rw[hW];simp[go_sem]
 have v1:W.frozen? ⟨w.heap.size+1,1,none⟩=false:=by rw[hW];simp[go_sem]
 have v2:W.frozen? ⟨w.heap.size+1,2,none⟩=false:=by rw[hW];simp[go_sem]
 have v3:W.frozen? ⟨w.heap.size+1,3,none⟩=false:=by rw[hW];simp[go_sem]
 have hsW:W.heap.size=w.heap.size+2:=by rw[hW];simp
 have hBW:Below w.heap.size w W:=by rw[hW];exact Bq (Aa _ _) _
 have bD:=hid hsW;have hl0:w.heap.size<W.heap.size:=omz
 have hl1:w.heap.size+1<W.heap.size:=omz
 have x0:=(hBW.cell (p:=⟨b,o,none⟩) hbl).trans x0;have x1:=(hBW.cell (p:=⟨b,o+1,none⟩) hbl).trans x1;have x2:=(hBW.cell (p:=⟨b,o+2,none⟩) hbl).trans x2;have x3:=(hBW.cell (p:=⟨b,o+3,none⟩) hbl).trans x3;clear hW hsW
 go_region_law (go_simp;go_at_call 63;refine(HI _ (by exact hBW.drew)).mono ?_;rintro e w1 ⟨⟨mk,aG,aF,s0,t0,s1,t1,aC,rfl,hmo,hmn⟩,hb1⟩;have hb5:=((Below.refl W.heap.size W).drew).trans hb1;have vw:w.heap.size+2<=w1.heap.size:=(by have:=bD.out;have:=hb5.size;omega);have kX:w.heap.size+1<w1.heap.size:=omz;have kU:w.heap.size<w1.heap.size:=omz;have aJ:Hid (Ik w1 W.heap.size ⟨mk,aG,aF, .slice s0 aF.length t0, .slice s1 aC.length t1,aC⟩):=hmo;have aH:=hid hmn;clear hmo hmn;have y0:=(hb5.cell (p:=⟨w.heap.size,0,none⟩) hl0).trans q0;have y1:=(hb5.cell (p:=⟨w.heap.size,1,none⟩) hl0).trans q1;have y2:=(hb5.cell (p:=⟨w.heap.size,2,none⟩) hl0).trans q2;have y3:=(hb5.cell (p:=⟨w.heap.size,3,none⟩) hl0).trans q3;have z0:=(hb5.cell (p:=⟨w.heap.size+1,0,none⟩) hl1).trans su;have z1:=(hb5.cell (p:=⟨w.heap.size+1,1,none⟩) hl1).trans ry;have z2:=(hb5.cell (p:=⟨w.heap.size+1,2,none⟩) hl1).trans ru;have z3:=(hb5.cell (p:=⟨w.heap.size+1,3,none⟩) hl1).trans rq;have f0:=(hb5.frozen (p:=⟨w.heap.size+1,0,none⟩) hl1).trans v0;have f1:=(hb5.frozen (p:=⟨w.heap.size+1,1,none⟩) hl1).trans v1;have f2:=(hb5.frozen (p:=⟨w.heap.size+1,2,none⟩) hl1).trans v2;have f3:=(hb5.frozen (p:=⟨w.heap.size+1,3,none⟩) hl1).trans v3)
 all_goals
  try go_wp2
  refine bodyPost_ret (v:=.agg #[.int .i64 4, .int .i64 0, .slice none 0 0, .slice (some ⟨w1.heap.size,0,none⟩) 1 1]) (by simp[results,Tryz.results63,go_sem,z0,z1,z2,z3,kX]) rfl ⟨⟨4,0,[],none,0,some ⟨w1.heap.size,0,none⟩,1,[⟨mk,aG,aF, .slice s0 aF.length t0, .slice s1 aC.length t1,aC⟩],rfl,?_,by rw[Ah.net_eq,HN.out,<-aH.out];rfl⟩,?_⟩
  ·refine Ik.le (base:=w.heap.size+2) ?_ omz
   exact(J4.single4 (aJ.le (by have:=bD.out;omega)) (Nat.lt_succ_self _) vw).net 4 0 [] (World.ownsRow_nil _ _ _ _) (λx _=>Nl x)
  ·have gI:=hBW.trans (hb5.mono hBW.size)
   exact blA
end Go.Proofs.YtbfljjcnbbmoaaaGreatDoor
namespace Go.Proofs.YtbfljjcnbbmoaaaGreatDoor
open Stil
open Go.RowKit Go.Sort Go.BigFrame
theorem Ar5 (av x:Value)(hx:x∈Value.slice none 0 0::Ew []):Aside av x:=by
 rcases List.mem_cons.1 hx with rfl | hx
 ·exact(Nl _).symm
 ·cases hx
set_option maxHeartbeats 4000000 in
set_option maxRecDepth 100000 in
theorem A0g (e:Stil.Elem)(av kv:Value)(w:World)(hav:Bi w av e.args)(hkv:Dx w kv [])(hla:e.args.length<=1048576):
  Calls Tryz.prog 63 #[.agg #[.int .i64 1, .int .i64 e.op,av,kv]] w λe' w'=>Nr w' w.heap.size (A7 ⟨1,e,[]⟩) e'/\Below w.heap.size w w':=by
 have HN:Hid (A7 ⟨1,e,[]⟩=⟨1,e,[]⟩):=by show _=_;rw[Ib,if_neg omz];rfl
 have mV:=hid (λW (h:Below w.heap.size w W)=>hav.below h);obtain⟨p0,r0,rfl,bP⟩:=hav;obtain⟨p1,r1,rfl,iG⟩:=hkv;clear bP iG;go_enter Tryz.func63,Tryz.ntmps63;go_upto_region 7 with fail
 obtain⟨W,hW⟩:∃W,W=(w.alloc (.cells #[.int .i64 1, .int .i64 e.op, .slice p0 e.args.length r0, .slice p1 0 r1] 52)).alloc (.cells #[.int .i64 0, .int .i64 0, .slice none 0 0, .slice none 0 0] 52):=⟨_,rfl⟩
 rw[<-hW];have q0:W.cell? ⟨w.heap.size,0,none⟩=some (.int .i64 1):=by rw[hW];simp[go_sem]
 have q1:W.cell? ⟨w.heap.size,1,none⟩=some (.int .i64 e.op):=by rw[hW];simp[go_sem]
 have q2:W.cell? ⟨w.heap.size,2,none⟩=some (.slice p0 e.args.length r0):=by rw[hW];simp[go_sem]
 have q3:W.cell? ⟨w.heap.size,3,none⟩=some (.slice p1 0 r1):=by rw[hW];simp[go_sem]
 have t0:W.cell? ⟨w.heap.size+1,0,none⟩=some (.int .i64 0):=by rw[hW];simp[go_sem]
 have t1:W.cell? ⟨w.heap.size+1,1,none⟩=some (.int .i64 0):=by rw[hW];simp[go_sem]
 have t2:W.cell? ⟨w.heap.size+1,2,none⟩=some (.slice none 0 0):=by rw[hW];simp[go_sem]
 have t3:W.cell? ⟨w.heap.size+1,3,none⟩=some (.slice none 0 0):=by rw[hW];simp[go_sem]
 have v0:W.frozen? ⟨w.heap.size+1,0,none⟩=false:=by rw[hW];simp[go_sem]
 have v1:W.frozen? ⟨w.heap.size+1,1,none⟩=false:=by rw[hW];simp[go_sem]
 have v2:W.frozen? ⟨w.heap.size+1,2,none⟩=false:=by rw[hW];simp[go_sem]
 have v3:W.frozen? ⟨w.heap.size+1,3,none⟩=false:=by rw[hW];simp[go_sem]
 have hsW:W.heap.size=w.heap.size+2:=by rw[hW];simp
 have hBW:Below w.heap.size w W:=by rw[hW];exact Bq (Aa _ _) _
 have bD:=hid hsW;have hl0:w.heap.size<W.heap.size:=omz
 have hl1:w.heap.size+1<W.heap.size:=omz
 clear hW hsW
 go_region_law (refine Pi rfl _ _ rfl (w.heap.size+2) _ e.args rfl (by exact(World.ownsRow_lit W #[] 0 (by have:=bD.out;omega) (by unfold maxLen;omega) rfl).drew) _ _ rfl (mV _ (by exact(Bq hBW _).drew)) hla (by have:=bD.out;simp;omega) ?_;intro v5 w5 hown5 hgr5;obtain⟨a5,c5,hv5⟩:=Af hown5;subst hv5;have hb5:=(Aa W _).drew.grown hgr5 spz (λk hk=>by cases hk;exact A4d _);have vw:w.heap.size+2<=w5.heap.size:=(by have:=bD.out;have:=hb5.size;omega);have y0:=(hb5.cell (p:=⟨w.heap.size,0,none⟩) (by have:=bD.out;show w.heap.size<W.heap.size;omega)).trans q0;have y1:=(hb5.cell (p:=⟨w.heap.size,1,none⟩) (by have:=bD.out;show w.heap.size<W.heap.size;omega)).trans q1;have y2:=(hb5.cell (p:=⟨w.heap.size,2,none⟩) (by have:=bD.out;show w.heap.size<W.heap.size;omega)).trans q2;have y3:=(hb5.cell (p:=⟨w.heap.size,3,none⟩) (by have:=bD.out;show w.heap.size<W.heap.size;omega)).trans q3;have z0:=(hb5.cell (p:=⟨w.heap.size+1,0,none⟩) (by have:=bD.out;show w.heap.size+1<W.heap.size;omega)).trans t0;have z1:=(hb5.cell (p:=⟨w.heap.size+1,1,none⟩) (by have:=bD.out;show w.heap.size+1<W.heap.size;omega)).trans t1;have z2:=(hb5.cell (p:=⟨w.heap.size+1,2,none⟩) (by have:=bD.out;show w.heap.size+1<W.heap.size;omega)).trans t2;have z3:=(hb5.cell (p:=⟨w.heap.size+1,3,none⟩) (by have:=bD.out;show w.heap.size+1<W.heap.size;omega)).trans t3;have f0:=(hb5.frozen (p:=⟨w.heap.size+1,0,none⟩) (by have:=bD.out;show w.heap.size+1<W.heap.size;omega)).trans v0;have f1:=(hb5.frozen (p:=⟨w.heap.size+1,1,none⟩) (by have:=bD.out;show w.heap.size+1<W.heap.size;omega)).trans v1;have f2:=(hb5.frozen (p:=⟨w.heap.size+1,2,none⟩) (by have:=bD.out;show w.heap.size+1<W.heap.size;omega)).trans v2;have f3:=(hb5.frozen (p:=⟨w.heap.size+1,3,none⟩) (by have:=bD.out;show w.heap.size+1<W.heap.size;omega)).trans v3)
 all_goals
  try go_wp2
  refine bodyPost_ret (v:=.agg #[.int .i64 1, .int .i64 e.op, .slice a5 e.args.length c5, .slice none 0 0]) (by simp[results,Tryz.results63,go_sem,z0,z1,z2,z3]) rfl ⟨⟨1,e.op,e.args,a5,c5,none,0,[],rfl,?_,by rw[Ah.net_eq,HN.out];rfl⟩,?_⟩
  ·refine Ik.le (base:=w.heap.size+2) ?_ omz
   repeat (refine Ik.set ?_ (by first | (simp;done) | (simp;omega)) _)
   exact(J4.nil w5 (w.heap.size+2)).net 1 e.op e.args hown5 (λx hx=>Ar5 _ x hx)
  ·have gI:=hBW.trans (hb5.mono hBW.size)
   exact blA
end Go.Proofs.YtbfljjcnbbmoaaaGreatDoor
namespace Go.Proofs.YtbfljjcnbbmoaaaGreatDoor
open Stil
open Go.RowKit Go.Sort Go.BigFrame
set_option maxHeartbeats 2000000 in
set_option maxRecDepth 100000 in
theorem Alc (n:Stil.Net):Dc n->Au n=0->Aj n<=1000000->∀(av kv:Value) (w:World),Bi w av n.one.args->Dx w kv n.kids->Calls Tryz.prog 63 #[.agg #[.int .i64 n.kind, .int .i64 n.one.op,av,kv]] w λe w'=>Nr w' w.heap.size (A7 n) e/\Below w.heap.size w w':=by
 induction n using Fh with
 | h k e kids ih=>
  intro hft hwr hsz av kv w hav hkv;obtain⟨_,he,hl,hk⟩:=(Hu _ _ _).1 hft;obtain⟨hs1,hs2⟩:=Afw hsz;simp only at hav hkv;rcases Ho hwr with⟨rfl,rfl⟩ | ⟨eX,hpos,hkw⟩ | ⟨rfl,rfl,x,rfl,hxw⟩
  ·exact A0g e av kv w hav hkv he.2.1
  ·have HI:Hid (∀W,Below w.heap.size w W->Calls Tryz.prog 90 #[.int .i64 k,kv] W λe' w'=>Nr w' W.heap.size (A7 ⟨k,e,kids⟩) e'/\Below W.heap.size W w'):=by
    intro W hW;have:=Azr k kids (λx hx=>ih x hx (hk x hx) (hkw x hx) (hs2 x hx)) kv W (hkv.below hW) hl hs1
    rw[Ib,if_pos eX];exact this
   obtain⟨p0,r0,rfl,_⟩:=hav;obtain⟨p1,r1,rfl,_⟩:=hkv;obtain⟨N,hN⟩:∃N,N=A7 ⟨k,e,kids⟩:=⟨_,rfl⟩
   rw[<-hN] at HI ⊢;clear ih hft he hl hk hwr hsz hs1 hs2 hkw hpos hN;rcases eX with rfl | rfl
   all_goals
    go_enter Tryz.func63,Tryz.ntmps63
    go_wp2_with (go_at_call 90;refine(HI _ blA).mono ?_;rintro e w1 ⟨⟨mk,aG,aF,s0,t0,s1,t1,aC,rfl,hmo,hmn⟩,hb1⟩;obtain⟨hc,hf⟩:=Dq hb1;have aJ:Hid (Ik w1 _ ⟨mk,aG,aF, .slice s0 aF.length t0, .slice s1 aC.length t1,aC⟩):=hmo;have aH:=hid hmn;clear hmo hmn;have hza:w.heap.size<w1.heap.size:=A37 (by simp;omega) hb1.size;have hzb:w.heap.size+1<w1.heap.size:=A37 spz hb1.size)
    have b0:w1.cell? ⟨w.heap.size+1,0,none⟩=some (.int .i64 0):=by rw[hc _ _ spz];simp[go_sem]
    have b1:w1.cell? ⟨w.heap.size+1,1,none⟩=some (.int .i64 0):=by rw[hc _ _ spz];simp[go_sem]
    have b2:w1.cell? ⟨w.heap.size+1,2,none⟩=some (.slice none 0 0):=by rw[hc _ _ spz];simp[go_sem]
    have b3:w1.cell? ⟨w.heap.size+1,3,none⟩=some (.slice none 0 0):=by rw[hc _ _ spz];simp[go_sem]
    refine bodyPost_ret (v:=.agg #[.int .i64 mk, .int .i64 aG, .slice s0 aF.length t0, .slice s1 aC.length t1]) (by simp[results,Tryz.results63,go_sem,b0,b1,b2,b3]) rfl ⟨⟨mk,aG,aF,s0,t0,s1,t1,aC,rfl,?_,aH.out⟩,blA⟩;refine Ik.le (base:=w.heap.size+2) ?_ omz;repeat (refine Ik.set ?_ (by first | (simp;done) | (simp;omega)) _)
    exact aJ.le spz
  ·exact A0h x av kv w hav hkv (ih x spz (hk x spz) hxw (hs2 x spz))
end Go.Proofs.YtbfljjcnbbmoaaaGreatDoor
