import Derived.Test.YtbfljjcnbbmoaaaGreatDoorGm
import Derived.Test.YtbfljjcnbbmoaaaGreatDoorHg
namespace Go.Proofs.YtbfljjcnbbmoaaaGreatDoor
open Stil
open Go.RowKit Go.Sort Go.BigFrame
set_option maxHeartbeats 2000000 in
set_option maxRecDepth 100000 in
theorem Azk (k:Int) (kids:List Stil.Net) (ih:∀x∈kids,∀(av kv:Value) (w:World),Bg w av x.one.args->Dq w kv x.kids->Calls Tryz.prog 63 #[.agg #[.int .i64 x.kind, .int .i64 x.one.op,av,kv]] w λe w'=>L9 w' w.heap.size (Az x) e/\Below w.heap.size w w')
  (v:Value) (w:World) (hat:Dq w v kids) (hl:kids.length<=1048576) (hs:Stil.sizes (kids.map Az)<=1000000):
  Calls Tryz.prog 90 #[.int .i64 k,v] w λe w'=>L9 w' w.heap.size (Ei k (Cb k (kids.map Az))) e/\Below w.heap.size w w':=by
 obtain⟨i0,hi,hz0,hz1,hz2⟩:=info_parts Abf;obtain⟨a,cap,rfl,hc⟩:=hat;have HA:=hid hc;have IH:=hid ih;have HS:=hid hs;clear hc ih hs;go_enter Tryz.func90,Tryz.ntmps90
 go_wp2
 go_loopw [6] (λi wr=>∃(j:Nat) (ms:List Ah) (ra:Option Addr) (rc:Nat),j<=kids.length/\i=.int .i64 j/\B4 wr w.heap.size (.int .i64 0) (.int .i64 0) (.slice none 0 0) (.slice none 0 0)/\B4 wr (w.heap.size+1) (.int .i64 k) (.int .i64 0) (.slice none 0 0) (.slice ra ms.length rc)/\
   Jt wr (w.heap.size+2) (.slice ra ms.length rc) ms/\ms.map Ah.net=Cb k ((kids.take j).map Az)/\Below w.heap.size w wr) (λi _=>kids.length - (intOf i).toNat)
 case atStart=>
  refine⟨0,[],none,0,by omega,rfl,?_,?_,Jt.nil _ _,rfl,blA⟩
  ·refine⟨by simp;omega,⟨by simp[go_sem],by simp[go_sem],by simp[go_sem],by simp[go_sem]⟩,by simp[go_sem],by simp[go_sem],by simp[go_sem],by simp[go_sem]⟩
  ·refine⟨by simp,⟨by simp[go_sem],by simp[go_sem],by simp[go_sem],by simp[go_sem]⟩,by simp[go_sem],by simp[go_sem],by simp[go_sem],by simp[go_sem]⟩
 case round=>
  obtain⟨j,ms,ra,rc,hj,rfl,hbn,hbo,hmr,hmn0,hB⟩:=hrel;have HBN:=hid hbn;have HBO:=hid hbo;have HMR:=hid hmr;have HMN0:=hid hmn0;clear hbn hbo hmr hmn0;by_cases hlt:j<kids.length
  ·obtain⟨b,o,rfl,hbl,hn⟩:=HA.out j hlt
   obtain⟨x0,x1,av,kv,x2,x3,hav,hkv⟩:=(Me.below hB _ _ _ hn hbl).open;have HI:=hid (λW hW=>IH.out kids[j] (A4k hlt) av kv W (hav.below hW) (hkv.below hW));obtain⟨x,hx⟩:∃x,x=kids[j]:=⟨_,rfl⟩
   rw[<-hx] at HI x0 x1 hav hkv;have HX:=hid hx;obtain⟨p0,r0,rfl,_⟩:=hav;obtain⟨p1,r1,rfl,_⟩:=hkv;clear hx hn;go_upto_region 6 with(go_at_call 63;refine(HI.out _ blB).mono ?_;rintro e w2 ⟨⟨mk,mop,mds,s0,t0,s1,t1,mks,rfl,hmo,hmn⟩,hb2⟩;have HMO:Hid (Ib w2 _ ⟨mk,mop,mds, .slice s0 mds.length t0, .slice s1 mks.length t1,mks⟩):=hmo;have HMN:=hid hmn;clear hmo hmn)
   obtain⟨W,hW⟩:∃W,W=w2.alloc (.cells #[.int .i64 mk, .int .i64 mop, .slice s0 mds.length t0, .slice s1 mks.length t1] 52):=⟨_,rfl⟩
   rw[<-hW];have hsW:W.heap.size=w2.heap.size+1:=by rw[hW];simp
   have hb2W:Below w2.heap.size w2 W:=by rw[hW];exact Aa _ _
   have n0:W.cell? ⟨w2.heap.size,0,none⟩=some (.int .i64 mk):=by rw[hW];simp[go_sem]
   have n1:W.cell? ⟨w2.heap.size,1,none⟩=some (.int .i64 mop):=by rw[hW];simp[go_sem]
   have n2:W.cell? ⟨w2.heap.size,2,none⟩=some (.slice s0 mds.length t0):=by rw[hW];simp[go_sem]
   have n3:W.cell? ⟨w2.heap.size,3,none⟩=some (.slice s1 mks.length t1):=by rw[hW];simp[go_sem]
   have hbW:=hb2.trans (hb2W.mono hb2.size);have hBW:=hB.trans (hbW.mono hB.size);have hbo:=HBO.out.below hbW HBO.out.1;have hwW:w.heap.size+2<=W.heap.size:=by have:=hbo.1;omega
   have HBOW:=hid hbo;have HBNW:=hid (HBN.out.below hbW HBN.out.1);have HMRW:=hid (HMR.out.below hbW);have HMOW:Hid (Ib W (w.heap.size+2) ⟨mk,mop,mds, .slice s0 mds.length t0, .slice s1 mks.length t1,mks⟩):=((HMO.out.below hb2W).le (by have:=HBO.out.1;omega))
   have hap:∀ks:List Ah,(∀m∈ks,MOk w2 wr.heap.size m)->(Eh ks).Pairwise Aside->(Value.slice ra ms.length rc::(Eh ms++Eh ks)).Pairwise Aside:=λks h1 h2=>HMR.out.apart h1 (A4i _) h2
   have hsn:=Avf k kids j hlt;rw[<-HX.out,<-HMN.out,<-HMN0.out,Ah.net_eq] at hsn;simp only at hsn;have hft:=Ave k kids (j+1);rw[hsn] at hft;have hS:=HS.out;obtain⟨_,⟨o0,o1,o2,o3⟩,g0,g1,g2,g3⟩:=hbo;by_cases hkk:mk=k
   ·rw[if_pos hkk] at hsn hft
    have hl2:ms.length+mks.length<=1000000:=by
     simp only[A4d,A4t] at hft;omega
    have hsn2:(ms++mks).map Ah.net=Cb k ((kids.take (j+1)).map Az):=by rw[hsn,A4r]
    have hpw:=hap mks HMO.out.kids.1 HMO.out.kids.2;have HP:=hid hpw;have HK:Hid (∀m∈mks,MOk W (w.heap.size+2) m):=HMOW.out.kids.1;have HSN:=hid hsn2;have HXS:Hid (0<mks.length->∃p,s1=some p/\∀j u,(F9 mks)[j]?=some u->W.cell? (p.add j)=some u):=by
     intro hz;have hr:=((Hq _ _ _).1 HMOW.out.1).2.1;simp only at hr;obtain⟨g,c,hv,_,_,_,hcell⟩:=Aw hr hz;simp only[Value.slice.injEq] at hv;exact⟨⟨g,0,none⟩,hv.1,λj u hu=>by rw[Addr.add_lit];simpa using hcell j u hu⟩
    clear hW hft hsn hsn2 hpw hap hS hb2W HMO HMN HI HMR HBO HBN HMOW hsW hb2;rw[hkk] at n0
    go_wp2_with (at_builtin;refine Qr rfl _ _ rfl (w.heap.size+2) ra rc ms mks s1 t1 rfl rfl HMRW.out HXS.out HK.out HP.out hl2 hwW ?_;intro a6 c6 w6 hmr6 hb6;obtain⟨_,⟨_,_,_,y3⟩,_,_,_,f3⟩:=HBOW.out.below hb6 (Nat.lt_succ_self _);have HM6:=hid hmr6;clear hmr6)
    all_goals
     try go_wp2
     refine⟨⟨j+1,ms++mks,a6,c6,by omega,by go_num,?_,?_,?_,HSN.out,?_⟩,by simp[intOf];omega⟩
     ·exact(HBNW.out.below hb6 (by omega)).setO (by omega) _
     ·rw[A4d]
      exact(HBOW.out.below hb6 (Nat.lt_succ_self _)).set3 _
     ·rw[A4d]
      exact HM6.out.set (a:=⟨w.heap.size+1,3,none⟩) (Nat.lt_succ_self _) _
     ·exact(hBW.trans (hb6.mono (by omega))).setCell (by simp) _
   ·rw[if_neg hkk] at hsn hft
    have hl2:ms.length+[(Ah.mk mk mop mds (.slice s0 mds.length t0) (.slice s1 mks.length t1) mks)].length<=1000000:=by
     simp only[A4d,A4t,A5d] at hft ⊢;omega
    have hsn2:(ms++[Ah.mk mk mop mds (.slice s0 mds.length t0) (.slice s1 mks.length t1) mks]).map Ah.net=Cb k ((kids.take (j+1)).map Az):=by
     rw[hsn,A4r,List.map_singleton,Ah.net_eq]
    have hpw:=hap [Ah.mk mk mop mds (.slice s0 mds.length t0) (.slice s1 mks.length t1) mks] (λm hm=>by rw[List.mem_singleton.1 hm];exact HMO.out.1) (by rw[Iz];exact HMO.out.2);have HP:=hid hpw;have HK:Hid (∀m∈[Ah.mk mk mop mds (.slice s0 mds.length t0) (.slice s1 mks.length t1) mks],MOk W (w.heap.size+2) m):=λm hm=>by rw[List.mem_singleton.1 hm];exact HMOW.out.1
    have HSN:=hid hsn2;have ekk:(mk==k)=false:=by rw[A5f];exact hkk
    clear hW hft hsn hsn2 hpw hap hS hb2W HMO HMN HI HMR HBO HBN HMOW hsW hb2 hkk
    go_wp2_with (at_builtin;refine Qr rfl _ _ rfl (w.heap.size+2) ra rc ms [Ah.mk mk mop mds (.slice s0 mds.length t0) (.slice s1 mks.length t1) mks] (some ⟨W.heap.size,0,none⟩) 1 rfl rfl (HMRW.out.below (Aa _ _)) (λ_=>⟨_,rfl,by exact cells4⟩) (λm hm=>(HK.out m hm).below (Aa _ _)) HP.out hl2 (by simp only[World.size_alloc];omega) ?_;intro a6 c6 w6 hmr6 hb6;obtain⟨_,⟨_,_,_,y3⟩,_,_,_,f3⟩:=(HBOW.out.below (Aa _ _) HBOW.out.1).below hb6 (Nat.lt_succ_self _);have HM6:Hid (Jt w6 (w.heap.size+2) (.slice a6 (ms.length+1) c6) (ms++[Ah.mk mk mop mds (.slice s0 mds.length t0) (.slice s1 mks.length t1) mks])):=hmr6;clear hmr6)
    all_goals
     try go_wp2
     refine⟨⟨j+1,ms++[Ah.mk mk mop mds (.slice s0 mds.length t0) (.slice s1 mks.length t1) mks],a6,c6,by omega,by go_num,?_,?_,?_,HSN.out,?_⟩,by simp[intOf];omega⟩
     ·exact((HBNW.out.below (Aa _ _) HBNW.out.1).below hb6 (by omega)).setO (by omega) _
     ·rw[A4d]
      exact((HBOW.out.below (Aa _ _) HBOW.out.1).below hb6 (Nat.lt_succ_self _)).set3 _
     ·rw[A4d]
      exact HM6.out.set (a:=⟨w.heap.size+1,3,none⟩) (Nat.lt_succ_self _) _
     ·exact((Bl hBW _).trans (hb6.mono (by omega))).setCell (by simp) _
  ·obtain rfl:j=kids.length:=by omega
   have hmn:=HMN0.out;rw[List.take_length] at hmn;obtain⟨_,⟨z0,z1,z2,z3⟩,e0,e1,e2,e3⟩:=HBN.out;obtain⟨_,⟨o0,o1,o2,o3⟩,_⟩:=HBO.out;by_cases h1:ms.length=1
   ·obtain⟨m,rfl⟩:=List.length_eq_one_iff.1 h1
    have hmo:=HMR.out.one 0 (by simp);simp only[List.getElem_cons_zero] at hmo;obtain⟨g,c,hv,_,hlt2,_,hcell⟩:=Aw HMR.out.1 (by simp);obtain⟨a1,a2,a3,a4⟩:=I9 [m] 0 (by simp);have y0:=hcell _ _ a1;have y1:=hcell _ _ a2;have y2:=hcell _ _ a3;have y3:=hcell _ _ a4;simp only[List.getElem_cons_zero,Nat.zero_mul,A4m] at y0 y1 y2 y3;have hok:=(Hq _ _ _).1 hmo.1;obtain⟨d1,d2,hd⟩:=Af hok.1;obtain⟨d3,d4,hd2⟩:=Af hok.2.1;simp only[Value.slice.injEq] at hv;obtain⟨rfl,_,rfl⟩:=hv;have hbl:Ei k (Cb k (kids.map Az))=m.net:=by rw[<-hmn];rfl
    have HBL:=hid hbl;obtain⟨mk,mop,mds,mav,mkv,mks⟩:=m;simp only at hd hd2 y0 y1 y2 y3;subst hd;subst hd2;have HMO:=hid hmo;clear hmo hok hmn hbl hcell HMR;simp only[A5d] at o3
    go_wp2
    refine bodyPost_ret (v:=.agg #[.int .i64 mk, .int .i64 mop, .slice d1 mds.length d2, .slice d3 mks.length d4]) (by simp[results,Tryz.results90,go_sem,z0,z1,z2,z3]) rfl ⟨⟨mk,mop,mds,d1,d2,d3,d4,mks,rfl,?_,HBL.out.symm⟩,blA⟩;refine Ib.le (base:=w.heap.size+2) ?_ (by omega);repeat (refine Ib.set ?_ (by first | (simp;done) | (simp;omega)) _)
    exact HMO.out
   ·have hbl:Ei k (Cb k (kids.map Az))=⟨k,⟨0,[]⟩,ms.map Ah.net⟩:=by
     rw[<-hmn];unfold Ei;rw[dif_neg (by simpa using h1)]
    have HBL:=hid hbl;have hmo:=HMR.out.net k 0 [] (World.ownsRow_nil _ _ _ _) (λx _=>Lu x);have HMO:=hid hmo;have e1':((ms.length:Int)==1)=false:=by rw[A5f];omega
    have e1'':¬((ms.length:Int)=1):=by omega
    clear hmo hmn hbl HMR
    go_wp2
    refine bodyPost_ret (v:=.agg #[.int .i64 k, .int .i64 0, .slice none 0 0, .slice ra ms.length rc]) (by simp[results,Tryz.results90,go_sem,z0,z1,z2,z3]) rfl ⟨⟨k,0,[],none,0,ra,rc,ms,rfl,?_,by rw[Ah.net_eq,HBL.out]⟩,blA⟩;refine Ib.le (base:=w.heap.size+2) ?_ (by omega);repeat (refine Ib.set ?_ (by first | (simp;done) | (simp;omega)) _)
    exact HMO.out
end Go.Proofs.YtbfljjcnbbmoaaaGreatDoor
namespace Go.Proofs.YtbfljjcnbbmoaaaGreatDoor
open Stil
open Go.RowKit Go.Sort Go.BigFrame
theorem Ib.set4 {w:World} {base b o1 o2 o3 o4:Nat} {m:Ah} {u1 u2 u3 u4:Value} (h:Ib w base m) (hb:b<base):Ib ((((w.setCell ⟨b,o1,none⟩ u1).setCell ⟨b,o2,none⟩ u2).setCell ⟨b,o3,none⟩ u3).setCell ⟨b,o4,none⟩ u4) base m:=⟨h.1.set4 hb,h.2⟩
theorem Jt.single4 {w:World} {base b:Nat} {m:Ah} {u1 u2 u3 u4:Value} (h:Ib w base m) (hb:b<base) (hw:base<=w.heap.size):Jt (((((w.setCell ⟨b,0,none⟩ u1).setCell ⟨b,1,none⟩ u2).setCell ⟨b,2,none⟩ u3).setCell ⟨b,3,none⟩ u4).alloc (.cells #[.int .i64 m.kind, .int .i64 m.op,m.av,m.kv] 52)) base (.slice (some ⟨w.heap.size,0,none⟩) 1 1) [m]:=by
 have hm:=Jt.single (w:=(((w.setCell ⟨b,0,none⟩ u1).setCell ⟨b,1,none⟩ u2).setCell ⟨b,2,none⟩ u3).setCell ⟨b,3,none⟩ u4) (base:=base) (m:=m) (h.set4 hb) (by simp only[World.size_setCell];exact hw);simpa only[World.size_setCell] using hm
set_option maxHeartbeats 4000000 in
set_option maxRecDepth 100000 in
theorem A0b (x:Stil.Net) (av kv:Value) (w:World) (hav:Bg w av []) (hkv:Dq w kv [x]) (hxw:∀(av kv:Value) (w:World),Bg w av x.one.args->Dq w kv x.kids->Calls Tryz.prog 63 #[.agg #[.int .i64 x.kind, .int .i64 x.one.op,av,kv]] w λe w'=>L9 w' w.heap.size (Az x) e/\Below w.heap.size w w'):
  Calls Tryz.prog 63 #[.agg #[.int .i64 4, .int .i64 0,av,kv]] w λe' w'=>L9 w' w.heap.size (Az ⟨4,⟨0,[]⟩,[x]⟩) e'/\Below w.heap.size w w':=by
 have HN:Hid (Az ⟨4,⟨0,[]⟩,[x]⟩=⟨4,⟨0,[]⟩,[Az x]⟩):=by show _=_;rw[Hz,if_neg (by omega)];rfl
 obtain⟨p1,r1,rfl,hx0⟩:=hkv;obtain⟨b,o,rfl,hbl,hn⟩:=hx0 0 (by simp);simp only[List.getElem_cons_zero,Nat.zero_mul,Nat.add_zero] at hn;obtain⟨x0,x1,xav,xkv,x2,x3,hxa,hxk⟩:=hn.open;have HI:=hid (λW hW=>hxw xav xkv W (hxa.below hW) (hxk.below hW));obtain⟨p0,r0,rfl,hz8⟩:=hav;obtain⟨p2,r2,rfl,hz7⟩:=hxa;obtain⟨p3,r3,rfl,hz9⟩:=hxk;clear hz8 hz7 hz9;obtain⟨N,hN⟩:∃N,N=Az x:=⟨_,rfl⟩
 rw[<-hN] at HI HN;clear hxw hN hn hx0;go_enter Tryz.func63,Tryz.ntmps63;go_upto_region 6 with fail
 obtain⟨W,hW⟩:∃W,W=(w.alloc (.cells #[.int .i64 4, .int .i64 0, .slice p0 0 r0, .slice (some ⟨b,o,none⟩) 1 r1] 52)).alloc (.cells #[.int .i64 0, .int .i64 0, .slice none 0 0, .slice none 0 0] 52):=⟨_,rfl⟩
 rw[<-hW];have q0:W.cell? ⟨w.heap.size,0,none⟩=some (.int .i64 4):=by rw[hW];simp[go_sem]
 have q1:W.cell? ⟨w.heap.size,1,none⟩=some (.int .i64 0):=by rw[hW];simp[go_sem]
 have q2:W.cell? ⟨w.heap.size,2,none⟩=some (.slice p0 0 r0):=by rw[hW];simp[go_sem]
 have q3:W.cell? ⟨w.heap.size,3,none⟩=some (.slice (some ⟨b,o,none⟩) 1 r1):=by rw[hW];simp[go_sem]
 have tt0:W.cell? ⟨w.heap.size+1,0,none⟩=some (.int .i64 0):=by rw[hW];simp[go_sem]
 have tt1:W.cell? ⟨w.heap.size+1,1,none⟩=some (.int .i64 0):=by rw[hW];simp[go_sem]
 have tt2:W.cell? ⟨w.heap.size+1,2,none⟩=some (.slice none 0 0):=by rw[hW];simp[go_sem]
 have tt3:W.cell? ⟨w.heap.size+1,3,none⟩=some (.slice none 0 0):=by rw[hW];simp[go_sem]
 have v0:W.frozen? ⟨w.heap.size+1,0,none⟩=false:=by rw[hW];simp[go_sem]
 have v1:W.frozen? ⟨w.heap.size+1,1,none⟩=false:=by rw[hW];simp[go_sem]
 have v2:W.frozen? ⟨w.heap.size+1,2,none⟩=false:=by rw[hW];simp[go_sem]
 have v3:W.frozen? ⟨w.heap.size+1,3,none⟩=false:=by rw[hW];simp[go_sem]
 have hsW:W.heap.size=w.heap.size+2:=by rw[hW];simp
 have hBW:Below w.heap.size w W:=by rw[hW];exact Bl (Aa _ _) _
 have HSW:=hid hsW;have hl0:w.heap.size<W.heap.size:=by omega
 have hl1:w.heap.size+1<W.heap.size:=by omega
 have x0:=(hBW.cell (p:=⟨b,o,none⟩) hbl).trans x0;have x1:=(hBW.cell (p:=⟨b,o+1,none⟩) hbl).trans x1;have x2:=(hBW.cell (p:=⟨b,o+2,none⟩) hbl).trans x2;have x3:=(hBW.cell (p:=⟨b,o+3,none⟩) hbl).trans x3;clear hW hsW
 go_region_law (go_simp;go_at_call 63;refine(HI.out _ (by exact hBW.drew)).mono ?_;rintro e w1 ⟨⟨mk,mop,mds,s0,t0,s1,t1,mks,rfl,hmo,hmn⟩,hb1⟩;have hb5:=((Below.refl W.heap.size W).drew).trans hb1;have hz5:w.heap.size+2<=w1.heap.size:=(by have:=HSW.out;have:=hb5.size;omega);have hz6:w.heap.size+1<w1.heap.size:=(by omega);have hz7:w.heap.size<w1.heap.size:=(by omega);have HMO:Hid (Ib w1 W.heap.size ⟨mk,mop,mds, .slice s0 mds.length t0, .slice s1 mks.length t1,mks⟩):=hmo;have HMN:=hid hmn;clear hmo hmn;have y0:=(hb5.cell (p:=⟨w.heap.size,0,none⟩) hl0).trans q0;have y1:=(hb5.cell (p:=⟨w.heap.size,1,none⟩) hl0).trans q1;have y2:=(hb5.cell (p:=⟨w.heap.size,2,none⟩) hl0).trans q2;have y3:=(hb5.cell (p:=⟨w.heap.size,3,none⟩) hl0).trans q3;have z0:=(hb5.cell (p:=⟨w.heap.size+1,0,none⟩) hl1).trans tt0;have z1:=(hb5.cell (p:=⟨w.heap.size+1,1,none⟩) hl1).trans tt1;have z2:=(hb5.cell (p:=⟨w.heap.size+1,2,none⟩) hl1).trans tt2;have z3:=(hb5.cell (p:=⟨w.heap.size+1,3,none⟩) hl1).trans tt3;have f0:=(hb5.frozen (p:=⟨w.heap.size+1,0,none⟩) hl1).trans v0;have f1:=(hb5.frozen (p:=⟨w.heap.size+1,1,none⟩) hl1).trans v1;have f2:=(hb5.frozen (p:=⟨w.heap.size+1,2,none⟩) hl1).trans v2;have f3:=(hb5.frozen (p:=⟨w.heap.size+1,3,none⟩) hl1).trans v3)
 all_goals
  try go_wp2
  refine bodyPost_ret (v:=.agg #[.int .i64 4, .int .i64 0, .slice none 0 0, .slice (some ⟨w1.heap.size,0,none⟩) 1 1]) (by simp[results,Tryz.results63,go_sem,z0,z1,z2,z3,hz6]) rfl ⟨⟨4,0,[],none,0,some ⟨w1.heap.size,0,none⟩,1,[⟨mk,mop,mds, .slice s0 mds.length t0, .slice s1 mks.length t1,mks⟩],rfl,?_,by rw[Ah.net_eq,HN.out,<-HMN.out];rfl⟩,?_⟩
  ·refine Ib.le (base:=w.heap.size+2) ?_ (by omega)
   exact(Jt.single4 (HMO.out.le (by have:=HSW.out;omega)) (Nat.lt_succ_self _) hz5).net 4 0 [] (World.ownsRow_nil _ _ _ _) (λx _=>Lu x)
  ·have hB5:=hBW.trans (hb5.mono hBW.size)
   (repeat (first | with_reducible exact Below.refl _ _ | with_reducible assumption | with_reducible refine Bv (by first | exact A4i _ | (simp;done) | (simp;omega) | omega) ?_ _ | with_reducible refine Bl ?_ _ | with_reducible refine G9 ?_ _ | with_reducible refine Ij ?_ | with_reducible refine G7 ?_ _ _ | with_reducible refine Cj ?_ (by assumption)))
end Go.Proofs.YtbfljjcnbbmoaaaGreatDoor
namespace Go.Proofs.YtbfljjcnbbmoaaaGreatDoor
open Stil
open Go.RowKit Go.Sort Go.BigFrame
theorem Arj (av x:Value) (hx:x∈Value.slice none 0 0::Eh []):Aside av x:=by
 rcases List.mem_cons.1 hx with rfl | hx
 ·exact(Lu _).symm
 ·cases hx
set_option maxHeartbeats 4000000 in
set_option maxRecDepth 100000 in
theorem A0a (e:Stil.Elem) (av kv:Value) (w:World) (hav:Bg w av e.args) (hkv:Dq w kv []) (hla:e.args.length<=1048576):
  Calls Tryz.prog 63 #[.agg #[.int .i64 1, .int .i64 e.op,av,kv]] w λe' w'=>L9 w' w.heap.size (Az ⟨1,e,[]⟩) e'/\Below w.heap.size w w':=by
 have HN:Hid (Az ⟨1,e,[]⟩=⟨1,e,[]⟩):=by show _=_;rw[Hz,if_neg (by omega)];rfl
 have HDA:=hid (λW (h:Below w.heap.size w W)=>hav.below h);obtain⟨p0,r0,rfl,hz8⟩:=hav;obtain⟨p1,r1,rfl,hz9⟩:=hkv;clear hz8 hz9;go_enter Tryz.func63,Tryz.ntmps63;go_upto_region 7 with fail
 obtain⟨W,hW⟩:∃W,W=(w.alloc (.cells #[.int .i64 1, .int .i64 e.op, .slice p0 e.args.length r0, .slice p1 0 r1] 52)).alloc (.cells #[.int .i64 0, .int .i64 0, .slice none 0 0, .slice none 0 0] 52):=⟨_,rfl⟩
 rw[<-hW];have q0:W.cell? ⟨w.heap.size,0,none⟩=some (.int .i64 1):=by rw[hW];simp[go_sem]
 have q1:W.cell? ⟨w.heap.size,1,none⟩=some (.int .i64 e.op):=by rw[hW];simp[go_sem]
 have q2:W.cell? ⟨w.heap.size,2,none⟩=some (.slice p0 e.args.length r0):=by rw[hW];simp[go_sem]
 have q3:W.cell? ⟨w.heap.size,3,none⟩=some (.slice p1 0 r1):=by rw[hW];simp[go_sem]
 have t0:W.cell? ⟨w.heap.size+1,0,none⟩=some (.int .i64 0):=by rw[hW];simp[go_sem]
 have t1:W.cell? ⟨w.heap.size+1,1,none⟩=some (.int .i64 0):=by rw[hW];simp[go_sem]
 have t2:W.cell? ⟨w.heap.size+1,2,none⟩=some (.slice none 0 0):=by rw[hW];simp[go_sem]
 have t3:W.cell? ⟨w.heap.size+1,3,none⟩=some (.slice none 0 0):=by rw[hW];simp[go_sem]
 have v0:W.frozen? ⟨w.heap.size+1,0,none⟩=false:=by rw[hW];simp[go_sem]
 have v1:W.frozen? ⟨w.heap.size+1,1,none⟩=false:=by rw[hW];simp[go_sem]
 have v2:W.frozen? ⟨w.heap.size+1,2,none⟩=false:=by rw[hW];simp[go_sem]
 have v3:W.frozen? ⟨w.heap.size+1,3,none⟩=false:=by rw[hW];simp[go_sem]
 have hsW:W.heap.size=w.heap.size+2:=by rw[hW];simp
 have hBW:Below w.heap.size w W:=by rw[hW];exact Bl (Aa _ _) _
 have HSW:=hid hsW;have hl0:w.heap.size<W.heap.size:=by omega
 have hl1:w.heap.size+1<W.heap.size:=by omega
 clear hW hsW
 go_region_law (refine Ox rfl _ _ rfl (w.heap.size+2) _ e.args rfl (by exact(World.ownsRow_lit W #[] 0 (by have:=HSW.out;omega) (by unfold maxLen;omega) rfl).drew) _ _ rfl (HDA.out _ (by exact(Bl hBW _).drew)) hla (by have:=HSW.out;simp;omega) ?_;intro v5 w5 hown5 hgr5;obtain⟨a5,c5,hv5⟩:=Af hown5;subst hv5;have hb5:=(Aa W _).drew.grown hgr5 (by simp) (λk hk=>by cases hk;exact A4i _);have hz5:w.heap.size+2<=w5.heap.size:=(by have:=HSW.out;have:=hb5.size;omega);have y0:=(hb5.cell (p:=⟨w.heap.size,0,none⟩) (by have:=HSW.out;show w.heap.size<W.heap.size;omega)).trans q0;have y1:=(hb5.cell (p:=⟨w.heap.size,1,none⟩) (by have:=HSW.out;show w.heap.size<W.heap.size;omega)).trans q1;have y2:=(hb5.cell (p:=⟨w.heap.size,2,none⟩) (by have:=HSW.out;show w.heap.size<W.heap.size;omega)).trans q2;have y3:=(hb5.cell (p:=⟨w.heap.size,3,none⟩) (by have:=HSW.out;show w.heap.size<W.heap.size;omega)).trans q3;have z0:=(hb5.cell (p:=⟨w.heap.size+1,0,none⟩) (by have:=HSW.out;show w.heap.size+1<W.heap.size;omega)).trans t0;have z1:=(hb5.cell (p:=⟨w.heap.size+1,1,none⟩) (by have:=HSW.out;show w.heap.size+1<W.heap.size;omega)).trans t1;have z2:=(hb5.cell (p:=⟨w.heap.size+1,2,none⟩) (by have:=HSW.out;show w.heap.size+1<W.heap.size;omega)).trans t2;have z3:=(hb5.cell (p:=⟨w.heap.size+1,3,none⟩) (by have:=HSW.out;show w.heap.size+1<W.heap.size;omega)).trans t3;have f0:=(hb5.frozen (p:=⟨w.heap.size+1,0,none⟩) (by have:=HSW.out;show w.heap.size+1<W.heap.size;omega)).trans v0;have f1:=(hb5.frozen (p:=⟨w.heap.size+1,1,none⟩) (by have:=HSW.out;show w.heap.size+1<W.heap.size;omega)).trans v1;have f2:=(hb5.frozen (p:=⟨w.heap.size+1,2,none⟩) (by have:=HSW.out;show w.heap.size+1<W.heap.size;omega)).trans v2;have f3:=(hb5.frozen (p:=⟨w.heap.size+1,3,none⟩) (by have:=HSW.out;show w.heap.size+1<W.heap.size;omega)).trans v3)
 all_goals
  try go_wp2
  refine bodyPost_ret (v:=.agg #[.int .i64 1, .int .i64 e.op, .slice a5 e.args.length c5, .slice none 0 0]) (by simp[results,Tryz.results63,go_sem,z0,z1,z2,z3]) rfl ⟨⟨1,e.op,e.args,a5,c5,none,0,[],rfl,?_,by rw[Ah.net_eq,HN.out];rfl⟩,?_⟩
  ·refine Ib.le (base:=w.heap.size+2) ?_ (by omega)
   repeat (refine Ib.set ?_ (by first | (simp;done) | (simp;omega)) _)
   exact(Jt.nil w5 (w.heap.size+2)).net 1 e.op e.args hown5 (λx hx=>Arj _ x hx)
  ·have hB5:=hBW.trans (hb5.mono hBW.size)
   (repeat (first | with_reducible exact Below.refl _ _ | with_reducible assumption | with_reducible refine Bv (by first | exact A4i _ | (simp;done) | (simp;omega) | omega) ?_ _ | with_reducible refine Bl ?_ _ | with_reducible refine G9 ?_ _ | with_reducible refine Ij ?_ | with_reducible refine G7 ?_ _ _ | with_reducible refine Cj ?_ (by assumption)))
end Go.Proofs.YtbfljjcnbbmoaaaGreatDoor
namespace Go.Proofs.YtbfljjcnbbmoaaaGreatDoor
open Stil
open Go.RowKit Go.Sort Go.BigFrame
set_option maxHeartbeats 2000000 in
set_option maxRecDepth 100000 in
theorem Ako (n:Stil.Net):Cc n->Ar n=0->Aj n<=1000000->∀(av kv:Value) (w:World),Bg w av n.one.args->Dq w kv n.kids->Calls Tryz.prog 63 #[.agg #[.int .i64 n.kind, .int .i64 n.one.op,av,kv]] w λe w'=>L9 w' w.heap.size (Az n) e/\Below w.heap.size w w':=by
 induction n using Fg with
 | h k e kids ih=>
  intro hft hwr hsz av kv w hav hkv;obtain⟨_,he,hl,hk⟩:=(Fa _ _ _).1 hft;obtain⟨hs1,hs2⟩:=Ae4 hsz;simp only at hav hkv;rcases H8 hwr with⟨rfl,rfl⟩ | ⟨hk23,hpos,hkw⟩ | ⟨rfl,rfl,x,rfl,hxw⟩
  ·exact A0a e av kv w hav hkv he.2.1
  ·have HI:Hid (∀W,Below w.heap.size w W->Calls Tryz.prog 90 #[.int .i64 k,kv] W λe' w'=>L9 w' W.heap.size (Az ⟨k,e,kids⟩) e'/\Below W.heap.size W w'):=by
    intro W hW;have:=Azk k kids (λx hx=>ih x hx (hk x hx) (hkw x hx) (hs2 x hx)) kv W (hkv.below hW) hl hs1
    rw[Hz,if_pos hk23];exact this
   obtain⟨p0,r0,rfl,_⟩:=hav;obtain⟨p1,r1,rfl,_⟩:=hkv;obtain⟨N,hN⟩:∃N,N=Az ⟨k,e,kids⟩:=⟨_,rfl⟩
   rw[<-hN] at HI ⊢;clear ih hft he hl hk hwr hsz hs1 hs2 hkw hpos hN;rcases hk23 with rfl | rfl
   all_goals
    go_enter Tryz.func63,Tryz.ntmps63
    go_wp2_with (go_at_call 90;refine(HI.out _ blA).mono ?_;rintro e w1 ⟨⟨mk,mop,mds,s0,t0,s1,t1,mks,rfl,hmo,hmn⟩,hb1⟩;obtain⟨hc,hf⟩:=Dl hb1;have HMO:Hid (Ib w1 _ ⟨mk,mop,mds, .slice s0 mds.length t0, .slice s1 mks.length t1,mks⟩):=hmo;have HMN:=hid hmn;clear hmo hmn;have hza:w.heap.size<w1.heap.size:=A4c (by simp;omega) hb1.size;have hzb:w.heap.size+1<w1.heap.size:=A4c (by simp) hb1.size)
    have b0:w1.cell? ⟨w.heap.size+1,0,none⟩=some (.int .i64 0):=by rw[hc _ _ (by simp)];simp[go_sem]
    have b1:w1.cell? ⟨w.heap.size+1,1,none⟩=some (.int .i64 0):=by rw[hc _ _ (by simp)];simp[go_sem]
    have b2:w1.cell? ⟨w.heap.size+1,2,none⟩=some (.slice none 0 0):=by rw[hc _ _ (by simp)];simp[go_sem]
    have b3:w1.cell? ⟨w.heap.size+1,3,none⟩=some (.slice none 0 0):=by rw[hc _ _ (by simp)];simp[go_sem]
    refine bodyPost_ret (v:=.agg #[.int .i64 mk, .int .i64 mop, .slice s0 mds.length t0, .slice s1 mks.length t1]) (by simp[results,Tryz.results63,go_sem,b0,b1,b2,b3]) rfl ⟨⟨mk,mop,mds,s0,t0,s1,t1,mks,rfl,?_,HMN.out⟩,blA⟩;refine Ib.le (base:=w.heap.size+2) ?_ (by omega);repeat (refine Ib.set ?_ (by first | (simp;done) | (simp;omega)) _)
    exact HMO.out.le (by simp)
  ·exact A0b x av kv w hav hkv (ih x (by simp) (hk x (by simp)) hxw (hs2 x (by simp)))
end Go.Proofs.YtbfljjcnbbmoaaaGreatDoor
