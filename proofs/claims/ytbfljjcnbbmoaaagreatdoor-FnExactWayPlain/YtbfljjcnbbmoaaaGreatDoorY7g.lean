import Derived.Test.YtbfljjcnbbmoaaaGreatDoorGm
set_option maxHeartbeats 4000000
set_option maxRecDepth 100000
namespace Go.Proofs.YtbfljjcnbbmoaaaGreatDoor
open Stil
open Go.RowKit Go.Sort Go.BigFrame
theorem Ao8 (k:Int) (m:Ah):(Oc k m).map Ah.net=Cb k [m.net]:=by
 rw[Le,Ah.net_eq];unfold Oc;simp only;split
 ·rfl
 ·rw[List.map_singleton,Ah.net_eq]
theorem Ak3 (k:Int) (m:Ah):(Eh (Oc k m)).Sublist m.vals:=by
 unfold Oc;split
 ·rw[Ah.vals_eq]
  exact List.Sublist.cons _ (List.Sublist.cons _ (List.Sublist.refl _))
 ·rw[Iz];exact List.Sublist.refl _
theorem Afc (k:Int) (B base:Nat) (ms0:List Ah) (a:Option Addr) (cap:Nat) (w:World) (hbx:w.cell? ⟨B,0,none⟩=some (.int .i64 k)) (hB:B<w.heap.size) (hrow:Jt w base (.slice a ms0.length cap) ms0) (hl:Stil.sizes (ms0.map Ah.net)<=999999) (hbase:base<=w.heap.size):
  Calls Tryz.prog 119 #[.slice a ms0.length cap, .slice none 0 0, .func (.func 121) #[] #[.pointer (some ⟨B,0,none⟩)]] w λe w'=>∃(a:Option Addr) (c:Nat) (ms:List Ah),e=.returned (.slice a ms.length c)/\ms.map Ah.net=Cb k (ms0.map Ah.net)/\Jt w' base (.slice a ms.length c) ms/\Below w.heap.size w w'/\(Eh ms).Sublist (Eh ms0)/\∀q,(Value.slice a ms.length c).ownBlock=some q->w.heap.size<=q:=by
 have HROW:=hid hrow;have HSZ:=hid hl;have hml:ms0.length<=1000000:=by
  have h1:=Jl (ms0.map Ah.net);rw[A4t] at h1;omega
 clear hrow hl;go_enter Tryz.func119,Tryz.ntmps119
 go_wp2
 go_loopw [1,11] (λd i wr=>∃(j:Nat) (ms:List Ah) (ra:Option Addr) (rc:Nat),j<=ms0.length/\i=.int .i64 j/\d=.slice ra ms.length rc/\ms.map Ah.net=Cb k ((ms0.take j).map Ah.net)/\Jt wr base (.slice ra ms.length rc) ms/\(Eh ms).Sublist (Eh (ms0.take j))/\(∀q,(Value.slice ra ms.length rc).ownBlock=some q->w.heap.size<=q)/\Below w.heap.size w wr) (λ_ i _=>ms0.length - (intOf i).toNat)
 case atStart=>exact⟨0,[],none,0,by omega,rfl,rfl,rfl,Jt.nil _ _,List.Sublist.refl _,(λq hq=>by cases hq),Below.refl _ _⟩
 case round=>
  obtain⟨j,ms,ra,rc,hj,rfl,rfl,hmn,hmr,hsub,hvl,hb⟩:=hrel;have HMN:=hid hmn;have HMR:=hid hmr;have HSUB:=hid hsub;have HVL:=hid hvl;clear hmn hmr hsub hvl;by_cases hlt:j<ms0.length
  ·obtain⟨g,c,hv,_,hlt2,_,hcell⟩:=Aw HROW.out.1 (by omega)
   obtain⟨a1,a2,a3,a4⟩:=I9 ms0 j hlt;have x0:=(hb.cell (p:=⟨g,j*4,none⟩) hlt2).trans (hcell _ _ a1);have x1:=(hb.cell (p:=⟨g,j*4+1,none⟩) hlt2).trans (hcell _ _ a2);have x2:=(hb.cell (p:=⟨g,j*4+2,none⟩) hlt2).trans (hcell _ _ a3);have x3:=(hb.cell (p:=⟨g,j*4+3,none⟩) hlt2).trans (hcell _ _ a4);have hmo:=HROW.out.one j hlt;have HTS:=hid (A4w hlt);have hok:=(Hq _ _ _).1 hmo.1;obtain⟨s0,t0,hd⟩:=Af hok.1;obtain⟨s1,t1,hd2⟩:=Af hok.2.1;have hsz:ms.length+ms0[j].kids.length+1<=1000000:=by
    have h1:=congrArg List.length HMN.out;rw[A4t] at h1;have h2:=Jl (Cb k ((ms0.take j).map Ah.net));have h3:=Ja k ((ms0.take j).map Ah.net);have h4:=Aeo (ms0.map Ah.net) (j+1);rw[<-List.map_take,HTS.out,A4r,Kv] at h4;have h5:Stil.sizes ([ms0[j]].map Ah.net)=Aj ms0[j].net:=by simp[Stil.sizes]
    have h6:=Dz ms0[j].net;have h7:=Jl ms0[j].net.kids;have h8:ms0[j].net.kids.length=ms0[j].kids.length:=by rw[Ah.net_eq];simp
    have:=HSZ.out
    omega
   have hpw:(Value.slice ra ms.length rc::(Eh ms++ms0[j].vals)).Pairwise Aside:=by
    have hs1:(Eh ms++ms0[j].vals).Sublist (Eh ms0):=by
     have h1:(Eh ms++ms0[j].vals).Sublist (Eh (ms0.take (j+1))):=by
      rw[HTS.out,Lc,Iz];exact List.Sublist.append HSUB.out (List.Sublist.refl _)
     refine h1.trans ?_;have h2:=Lc (ms0.take (j+1)) (ms0.drop (j+1));rw[List.take_append_drop] at h2;rw[h2];exact List.sublist_append_left _ _
    rw[A4z];refine⟨λy hy=>(Eb (n:=w.heap.size) (λq hq=>(HROW.out.lt y (A4h _ (hs1.subset hy)) q hq).2) HVL.out).symm,List.Pairwise.sublist hs1 (List.pairwise_cons.1 HROW.out.2.2).2⟩
   have HSUB2:Hid ((Eh (ms++Oc k ms0[j])).Sublist (Eh (ms0.take (j+1)))):=by
    show List.Sublist _ _
    rw[HTS.out,Lc,Lc,Iz];exact List.Sublist.append HSUB.out (Ak3 k _)
   have HMN2:Hid ((ms++Oc k ms0[j]).map Ah.net=Cb k ((ms0.take (j+1)).map Ah.net)):=by
    show _=_
    rw[HTS.out,A4r,A4r,Jm,HMN.out,Ao8];rfl
   obtain⟨m,hm⟩:∃m,m=ms0[j]:=⟨_,rfl⟩
   rw[<-hm] at x0 x1 x2 x3 hmo hd hd2 hsz hpw HSUB2 HMN2;clear hm hok HTS a1 a2 a3 a4 hcell;obtain⟨mk,mop,mds,mav,mkv,mks⟩:=m;simp only at x0 x1 x2 x3 hd hd2 hsz;subst hd;subst hd2;simp only[Value.slice.injEq] at hv;obtain⟨rfl,_,rfl⟩:=hv;have HI:Hid (∀W,Below wr.heap.size wr W->Calls Tryz.prog 121 #[.slice ra ms.length rc, .agg #[.int .i64 mk, .int .i64 mop, .slice s0 mds.length t0, .slice s1 mks.length t1], .pointer (some ⟨B,0,none⟩)] W λe w'=>∃(a:Option Addr) (c:Nat),e=.returned (.slice a (ms.length+(Oc k ⟨mk,mop,mds, .slice s0 mds.length t0, .slice s1 mks.length t1,mks⟩).length) c)/\Jt w' base (.slice a (ms.length+(Oc k ⟨mk,mop,mds, .slice s0 mds.length t0, .slice s1 mks.length t1,mks⟩).length) c) (ms++Oc k ⟨mk,mop,mds, .slice s0 mds.length t0, .slice s1 mks.length t1,mks⟩)/\Below w.heap.size W w'/\∀j,(Value.slice a (ms.length+(Oc k ⟨mk,mop,mds, .slice s0 mds.length t0, .slice s1 mks.length t1,mks⟩).length) c).ownBlock=some j->w.heap.size<=j):=by
    intro W hW;have hbW:=hb.trans (hW.mono hb.size);exact A0y k B base w.heap.size ra rc ms mk mop mds s0 t0 s1 t1 mks W ((hbW.cell (p:=⟨B,0,none⟩) hB).trans hbx) (A4c hB hbW.size) (HMR.out.below hW) ((hmo.below hb).below hW) hpw hsz (A4p hbase hbW.size) hbW.size HVL.out
   obtain⟨O,hO⟩:∃O,O=Oc k ⟨mk,mop,mds, .slice s0 mds.length t0, .slice s1 mks.length t1,mks⟩:=⟨_,rfl⟩
   rw[<-hO] at HI HSUB2 HMN2;have hg2:=A4c hlt2 hb.size;clear hO hmo hpw hsz hlt2
   go_wp2_with (go_at_call 121;refine(HI.out _ blA).mono ?_;rintro e w2 ⟨a2,c2,rfl,hmr2,hb2,hv2⟩;have hb3:=(show Below w.heap.size w _ from hb.trans ((show Below wr.heap.size wr _ from blA).mono hb.size)).trans hb2)
   refine⟨⟨j+1,ms++O,a2,c2,by omega,by go_num,by rw[A4d],HMN2.out,by rw[A4d];exact hmr2,HSUB2.out,by rw[A4d];exact hv2,hb3⟩,by simp[intOf];omega⟩
  ·obtain rfl:j=ms0.length:=by omega
   have hmn:=HMN.out;rw[List.take_length] at hmn;have HMN2:=hid hmn;have hsub:=HSUB.out;rw[List.take_length] at hsub;have HSUB2:=hid hsub;clear hmn hsub
   go_wp2
   go_ret;exact⟨ra,rc,ms,rfl,HMN2.out,HMR.out,hb,HSUB2.out,HVL.out⟩
theorem Ib.setO {w:World} {base:Nat} {m:Ah} (h:Ib w base m) {a:Addr} (ha:∀x∈m.vals,x.ownBlock≠some a.block) (u:Value):Ib (w.setCell a u) base m:=⟨MOk.map m h.1 (λ_ _ _ _ _ hx ho=>ownsRow_setCell_other ho (ha _ hx) u),h.2⟩
theorem Ib.setO4 {w:World} {base b o1 o2 o3 o4:Nat} {m:Ah} {u1 u2 u3 u4:Value} (h:Ib w base m) (hb:∀x∈m.vals,x.ownBlock≠some b):Ib ((((w.setCell ⟨b,o1,none⟩ u1).setCell ⟨b,o2,none⟩ u2).setCell ⟨b,o3,none⟩ u3).setCell ⟨b,o4,none⟩ u4) base m:=
 Ib.setO (Ib.setO (Ib.setO (Ib.setO h (a:=⟨b,o1,none⟩) hb u1) (a:=⟨b,o2,none⟩) hb u2) (a:=⟨b,o3,none⟩) hb u3) (a:=⟨b,o4,none⟩) hb u4
theorem Alm (k:Int) (base:Nat) (ms0:List Ah) (a:Option Addr) (cap:Nat) (w:World) (hrow:Jt w base (.slice a ms0.length cap) ms0) (hl:Stil.sizes (ms0.map Ah.net)<=999999) (hbase:base<=w.heap.size):
  Calls Tryz.prog 99 #[.int .i64 k, .slice a ms0.length cap] w λe w'=>L9 w' base (Ei k (Cb k (ms0.map Ah.net))) e/\Below w.heap.size w w':=by
 have HF:=hid (λW B h h1 h2=>Afc k B base ms0 a cap W h1 h2 (hrow.below h) hl (A4p hbase h.size));obtain⟨F,hF⟩:∃F,F=Cb k (ms0.map Ah.net):=⟨_,rfl⟩
 rw[<-hF] at HF ⊢;have HLT:=hid (λx hx q hq=>(hrow.lt x (A4h _ hx) q hq).2);clear hrow hl hF;go_enter Tryz.func99,Tryz.ntmps99;go_upto_region 2 with(go_at_call 119;refine(HF.out _ _ blA (by simp[go_sem]) (by simp;omega)).mono ?_;rintro e w1 ⟨ra,rc,ms,rfl,hmn,hmr,hb1,hsub,hvl⟩;have HMN:=hid hmn;have HMR:=hid hmr;have HNE:Hid (∀x∈(Value.slice ra ms.length rc)::Eh ms,x.ownBlock≠some (w.heap.size+1)):=(by intro x hx e;rcases List.mem_cons.1 hx with rfl | hx;(have:=hvl _ e;simp at this;omega);(have:=HLT.out x (hsub.subset hx) _ e;omega));clear hmn hmr hsub hvl)
 obtain⟨hc,hf⟩:=Dl hb1;have hzb:w.heap.size+1<w1.heap.size:=A4c (by simp) hb1.size;have kd:w1.cell? ⟨w.heap.size,0,none⟩=some (.int .i64 k):=by rw[hc _ _ (by simp;omega)];simp[go_sem]
 have z0:w1.cell? ⟨w.heap.size+1,0,none⟩=some (.int .i64 0):=by rw[hc _ _ (by simp)];simp[go_sem]
 have z1:w1.cell? ⟨w.heap.size+1,1,none⟩=some (.int .i64 0):=by rw[hc _ _ (by simp)];simp[go_sem]
 have z2:w1.cell? ⟨w.heap.size+1,2,none⟩=some (.slice none 0 0):=by rw[hc _ _ (by simp)];simp[go_sem]
 have z3:w1.cell? ⟨w.heap.size+1,3,none⟩=some (.slice none 0 0):=by rw[hc _ _ (by simp)];simp[go_sem]
 have f0:w1.frozen? ⟨w.heap.size+1,0,none⟩=false:=by rw[hf _ _ (by simp)];simp[go_sem]
 have f1:w1.frozen? ⟨w.heap.size+1,1,none⟩=false:=by rw[hf _ _ (by simp)];simp[go_sem]
 have f2:w1.frozen? ⟨w.heap.size+1,2,none⟩=false:=by rw[hf _ _ (by simp)];simp[go_sem]
 have f3:w1.frozen? ⟨w.heap.size+1,3,none⟩=false:=by rw[hf _ _ (by simp)];simp[go_sem]
 have hB1:Below w.heap.size w w1:=blA;clear hc hf hb1 HF HLT;by_cases h1:ms.length=1
 ·obtain⟨m,rfl⟩:=List.length_eq_one_iff.1 h1
  have hmo:=HMR.out.one 0 (by simp);simp only[List.getElem_cons_zero] at hmo;obtain⟨g,c,hv,_,hlt2,_,hcell⟩:=Aw HMR.out.1 (by simp);obtain⟨a1,a2,a3,a4⟩:=I9 [m] 0 (by simp);have y0:=hcell _ _ a1;have y1:=hcell _ _ a2;have y2:=hcell _ _ a3;have y3:=hcell _ _ a4;simp only[List.getElem_cons_zero,Nat.zero_mul,A4m] at y0 y1 y2 y3;have hok:=(Hq _ _ _).1 hmo.1;obtain⟨d1,d2,hd⟩:=Af hok.1;obtain⟨d3,d4,hd2⟩:=Af hok.2.1;simp only[Value.slice.injEq] at hv;obtain⟨rfl,_,rfl⟩:=hv;have HBL:Hid (Ei k F=m.net):=by show _=_;rw[<-HMN.out];rfl
  have HNE2:=hid (λx hx=>HNE.out x (A4h _ (by rw[Iz];exact hx)));clear HNE HMN;obtain⟨mk,mop,mds,mav,mkv,mks⟩:=m;simp only at hd hd2 y0 y1 y2 y3;subst hd;subst hd2;have HMO:=hid hmo;clear hmo hok hcell HMR;simp only[A5d]
  go_wp2
  refine bodyPost_ret (v:=.agg #[.int .i64 mk, .int .i64 mop, .slice d1 mds.length d2, .slice d3 mks.length d4]) (by simp[results,Tryz.results99,go_sem,z0,z1,z2,z3]) rfl ⟨⟨mk,mop,mds,d1,d2,d3,d4,mks,rfl,?_,HBL.out.symm⟩,blA⟩;exact Ib.setO4 HMO.out HNE2.out
 ·have HBL:Hid (Ei k F=⟨k,⟨0,[]⟩,ms.map Ah.net⟩):=by
   show _=_
   rw[<-HMN.out];unfold Ei;rw[dif_neg (by simpa using h1)]
  have hmo:=HMR.out.net k 0 [] (World.ownsRow_nil _ _ _ _) (λx _=>Lu x);have HMO:=hid hmo;have HNE2:Hid (∀x∈(Ah.mk k 0 [] (.slice none 0 0) (.slice ra ms.length rc) ms).vals,x.ownBlock≠some (w.heap.size+1)):=by
   intro x hx;rw[Ah.vals_eq] at hx;rcases List.mem_cons.1 hx with rfl | hx
   ·intro e;cases e
   ·exact HNE.out x hx
  have e1':((ms.length:Int)==1)=false:=by rw[A5f];omega
  have e1'':¬((ms.length:Int)=1):=by omega
  clear hmo HMR HNE HMN
  go_wp2
  refine bodyPost_ret (v:=.agg #[.int .i64 k, .int .i64 0, .slice none 0 0, .slice ra ms.length rc]) (by simp[results,Tryz.results99,go_sem,z0,z1,z2,z3]) rfl ⟨⟨k,0,[],none,0,ra,rc,ms,rfl,?_,by rw[Ah.net_eq,HBL.out]⟩,blA⟩;exact Ib.setO4 HMO.out HNE2.out
end Go.Proofs.YtbfljjcnbbmoaaaGreatDoor
set_option maxHeartbeats 4000000
set_option maxRecDepth 100000
namespace Go.Proofs.YtbfljjcnbbmoaaaGreatDoor
open Stil
open Go.RowKit Go.Sort Go.BigFrame
theorem A02 (x:Stil.Net) (B base lo:Nat) (ra:Option Addr) (rc:Nat) (ms:List Ah) (av kv:Value) (w:World) (ih:∀W,Below w.heap.size w W->Calls Tryz.prog 74 #[.agg #[.int .i64 x.kind, .int .i64 x.one.op,av,kv]] W λe w'=>L9 w' W.heap.size (Az x) e/\Below W.heap.size W w')
  (hav:Bg w av x.one.args) (hkv:Dq w kv x.kids) (hbx:w.cell? ⟨B,0,none⟩=some (.func (.func 74) #[] #[])) (hB:B<w.heap.size) (hrow:Jt w base (.slice ra ms.length rc) ms) (hl:ms.length+1<=1000000) (hbase:base<=w.heap.size) (hlo:lo<=w.heap.size) (hvl:∀k,(Value.slice ra ms.length rc).ownBlock=some k->lo<=k):
  Calls Tryz.prog 120 #[.slice ra ms.length rc, .agg #[.int .i64 x.kind, .int .i64 x.one.op,av,kv], .pointer (some ⟨B,0,none⟩)] w λe w'=>∃(a:Option Addr) (c:Nat) (m:Ah),e=.returned (.slice a (ms.length+1) c)/\m.net=Az x/\Jt w' base (.slice a (ms.length+1) c) (ms++[m])/\Below lo w w'/\∀k,(Value.slice a (ms.length+1) c).ownBlock=some k->lo<=k:=by
 have IH:=hid ih;have HMR:=hid hrow;have HVL:=hid hvl;obtain⟨p0,r0,rfl,hz8⟩:=hav;obtain⟨p1,r1,rfl,hz9⟩:=hkv;clear hz8 hz9 ih hrow hvl;obtain⟨N,hN⟩:∃N,N=Az x:=⟨_,rfl⟩
 rw[<-hN] at IH ⊢;clear hN;go_enter Tryz.func120,Tryz.ntmps120
 go_wp2_with (first | (go_at_call 74;refine(IH.out _ blA).mono ?_;rintro e w1 ⟨⟨mk,mop,mds,s0,t0,s1,t1,mks,rfl,hmo,hmn⟩,hb1⟩;have hbw1:Below w.heap.size w w1:=blA;have hle1:=hbw1.size;have HMO:Hid (Ib w1 w.heap.size ⟨mk,mop,mds, .slice s0 mds.length t0, .slice s1 mks.length t1,mks⟩):=hmo.le (by simp);have HMN:=hid hmn;clear hmo hmn) | (at_builtin;refine Ov rfl _ _ rfl base lo ra rc ms [Ah.mk mk mop mds (.slice s0 mds.length t0) (.slice s1 mks.length t1) mks] _ 1 rfl rfl ((HMR.out.below hbw1).below (Aa _ _)) (λ_=>⟨_,rfl,by exact Avv (by simp)⟩) (λm hm=>by rw[List.mem_singleton.1 hm];exact(HMO.out.1.le hbase).below (Aa _ _)) (HMR.out.apart (w1:=w1) (b1:=w.heap.size) (λm hm=>by rw[List.mem_singleton.1 hm];exact HMO.out.1) (A4i _) (by rw[Iz];exact HMO.out.2)) (by simp only[A5d];exact hl) (by simp only[World.size_alloc];omega) (by simp only[World.size_alloc];omega) HVL.out ?_;intro a6 c6 w6 hmr6 hb6 hv6;have HM6:Hid (Jt w6 base (.slice a6 (ms.length+1) c6) (ms++[Ah.mk mk mop mds (.slice s0 mds.length t0) (.slice s1 mks.length t1) mks])):=hmr6;have HV6:Hid (∀k,(Value.slice a6 (ms.length+1) c6).ownBlock=some k->lo<=k):=hv6;clear hmr6 hv6;have hb7:=(((Bl hbw1 _).mono hlo)).trans hb6))
 go_ret;exact⟨a6,c6,_,rfl,HMN.out,HM6.out,hb7,HV6.out⟩
theorem Ap2 (es:List Stil.Net) (ih:∀x∈es,∀(av kv:Value) (w:World),Bg w av x.one.args->Dq w kv x.kids->Calls Tryz.prog 74 #[.agg #[.int .i64 x.kind, .int .i64 x.one.op,av,kv]] w λe w'=>L9 w' w.heap.size (Az x) e/\Below w.heap.size w w')
  (B:Nat) (v:Value) (w:World) (hat:Dq w v es) (hl:es.length<=999999) (hbx:w.cell? ⟨B,0,none⟩=some (.func (.func 74) #[] #[])) (hB:B<w.heap.size):
  Calls Tryz.prog 119 #[v, .slice none 0 0, .func (.func 120) #[] #[.pointer (some ⟨B,0,none⟩)]] w λe w'=>∃(a:Option Addr) (c:Nat) (ms:List Ah),e=.returned (.slice a ms.length c)/\ms.map Ah.net=es.map Az/\Jt w' w.heap.size (.slice a ms.length c) ms/\Below w.heap.size w w':=by
 obtain⟨a,cap,rfl,hc⟩:=hat;have HA:=hid hc;have IH:=hid ih;have HBX:=hid hbx;clear hc ih hbx;go_enter Tryz.func119,Tryz.ntmps119
 go_wp2
 go_loopw [1,11] (λd i wr=>∃(j:Nat) (ms:List Ah) (ra:Option Addr) (rc:Nat),j<=es.length/\i=.int .i64 j/\d=.slice ra ms.length rc/\ms.map Ah.net=(es.take j).map Az/\Jt wr w.heap.size (.slice ra ms.length rc) ms/\Below w.heap.size w wr) (λ_ i _=>es.length - (intOf i).toNat)
 case atStart=>exact⟨0,[],none,0,by omega,rfl,rfl,rfl,Jt.nil _ _,Below.refl _ _⟩
 case round=>
  obtain⟨j,ms,ra,rc,hj,rfl,rfl,hmn,hmr,hb⟩:=hrel;have HMN:=hid hmn;have HMR:=hid hmr;clear hmn hmr;by_cases hlt:j<es.length
  ·have hml:ms.length=j:=by
    have h1:=congrArg List.length HMN.out;rw[A4t,A4t,List.length_take] at h1;omega
   obtain⟨b,o,rfl,hbl,hn⟩:=HA.out j hlt;obtain⟨x0,x1,av,kv,x2,x3,hav,hkv⟩:=(Me.below hb _ _ _ hn hbl).open;have HTS:=hid (A4w hlt);have HI:Hid (∀W,Below wr.heap.size wr W->Calls Tryz.prog 120 #[.slice ra ms.length rc, .agg #[.int .i64 es[j].kind, .int .i64 es[j].one.op,av,kv], .pointer (some ⟨B,0,none⟩)] W λe w'=>∃(a:Option Addr) (c:Nat) (m:Ah),e=.returned (.slice a (ms.length+1) c)/\m.net=Az es[j]/\Jt w' w.heap.size (.slice a (ms.length+1) c) (ms++[m])/\Below w.heap.size W w'/\∀k,(Value.slice a (ms.length+1) c).ownBlock=some k->w.heap.size<=k):=by
    intro W hW;have hbW:=hb.trans (hW.mono hb.size);exact A02 es[j] B w.heap.size w.heap.size ra rc ms av kv W (λV hV=>IH.out es[j] (A4k hlt) av kv V ((hav.below hW).below hV) ((hkv.below hW).below hV)) (hav.below hW) (hkv.below hW) ((hbW.cell (p:=⟨B,0,none⟩) hB).trans HBX.out) (A4c hB hbW.size) (HMR.out.below hW) (by omega) hbW.size hbW.size (λk hk=>(HMR.out.1.lt k hk).1)
   obtain⟨x,hx⟩:∃x,x=es[j]:=⟨_,rfl⟩
   rw[<-hx] at HI x0 x1 hav hkv HTS;obtain⟨p0,r0,rfl,hz8⟩:=hav;obtain⟨p1,r1,rfl,hz9⟩:=hkv;have hb0:=A4c hbl hb.size;clear hx hn hz8 hz9 hml hbl
   go_wp2_with (go_at_call 120;refine(HI.out _ blA).mono ?_;rintro e w2 ⟨a2,c2,m,rfl,hmn2,hmr2,hb2,hv2⟩;have hb3:=(show Below w.heap.size w _ from hb.trans ((show Below wr.heap.size wr _ from blA).mono hb.size)).trans hb2;have HN2:=hid hmn2;have HR2:=hid hmr2;clear hmn2 hmr2 hv2)
   refine⟨⟨j+1,ms++[m],a2,c2,by omega,by go_num,by simp,?_,by rw[A4d];exact HR2.out,hb3⟩,by simp[intOf];omega⟩;rw[HTS.out,A4r,A4r,HMN.out,List.map_singleton,List.map_singleton,HN2.out]
  ·obtain rfl:j=es.length:=by omega
   have hmn:=HMN.out;rw[List.take_length] at hmn;have HMN2:=hid hmn;clear hmn
   go_wp2
   go_ret;exact⟨ra,rc,ms,rfl,HMN2.out,HMR.out,hb⟩
theorem Apz (es:List Stil.Net) (ih:∀x∈es,∀(av kv:Value) (w:World),Bg w av x.one.args->Dq w kv x.kids->Calls Tryz.prog 74 #[.agg #[.int .i64 x.kind, .int .i64 x.one.op,av,kv]] w λe w'=>L9 w' w.heap.size (Az x) e/\Below w.heap.size w w')
  (v:Value) (w:World) (hat:Dq w v es) (hl:es.length<=999999):
  Calls Tryz.prog 98 #[v, .func (.func 74) #[] #[]] w λe w'=>∃(a:Option Addr) (c:Nat) (ms:List Ah),e=.returned (.slice a ms.length c)/\ms.map Ah.net=es.map Az/\Jt w' w.heap.size (.slice a ms.length c) ms/\Below w.heap.size w w':=by
 have HF:=hid (λW B h h1 h2=>Ap2 es ih B v W (hat.below h) hl h1 h2);obtain⟨p0,r0,rfl,hz8⟩:=hat;clear hz8 ih;go_enter Tryz.func98,Tryz.ntmps98
 go_wp2_with (go_at_call 119;refine(HF.out _ _ blA (by simp[go_sem]) (by simp)).mono ?_;rintro e w1 ⟨ra,rc,ms,rfl,hmn,hmr,hb1⟩;have HMN:=hid hmn;have HMR:Hid (Jt w1 _ (.slice ra ms.length rc) ms):=hmr;clear hmn hmr)
 go_ret;exact⟨ra,rc,ms,rfl,HMN.out,HMR.out.le (by simp),blA⟩
end Go.Proofs.YtbfljjcnbbmoaaaGreatDoor
namespace Go.Proofs.YtbfljjcnbbmoaaaGreatDoor
open Stil
open Go.RowKit Go.Sort Go.BigFrame
set_option maxHeartbeats 2000000 in
set_option maxRecDepth 100000 in
theorem Au4 (n:Stil.Net):Cc n->Aj n<=999999->∀(av kv:Value) (w:World),Bg w av n.one.args->Dq w kv n.kids->Calls Tryz.prog 74 #[.agg #[.int .i64 n.kind, .int .i64 n.one.op,av,kv]] w λe w'=>L9 w' w.heap.size (Az n) e/\Below w.heap.size w w':=by
 induction n using Fg with
 | h k e kids ih=>
  intro hft hsz av kv w hav hkv;obtain⟨_,he,hl,hk⟩:=(Fa _ _ _).1 hft;obtain⟨hs1,hs2⟩:=Ae4 hsz;simp only at hav hkv;have hkl:kids.length<=999999:=by
   have h1:=Jl (kids.map Az);rw[A4t] at h1;omega
  have H1:=hid (λW h=>Apz kids (λx hx=>ih x hx (hk x hx) (hs2 x hx)) kv W (hkv.below h) hkl);have H2:=hid (λW h=>Afa e.op av e.args W (hav.below h) he.2.1);have HSZ:=hid hs1;obtain⟨p0,r0,rfl,hz8⟩:=hav;obtain⟨p1,r1,rfl,hz9⟩:=hkv;clear ih hft he hl hk hsz hs1 hs2 hz8 hz9 hkl;by_cases hk23:k=2\/k=3
  ·have HN:Hid (Az ⟨k,e,kids⟩=Ei k (Cb k (kids.map Az))):=by show _=_;rw[Hz,if_pos hk23]
   rw[HN.out];have HB:Hid (∀W base ms0 a cap,Jt W base (.slice a ms0.length cap) ms0->ms0.map Ah.net=kids.map Az->base<=W.heap.size->Calls Tryz.prog 99 #[.int .i64 k, .slice a ms0.length cap] W λe w'=>L9 w' base (Ei k (Cb k (kids.map Az))) e/\Below W.heap.size W w'):=by
    intro W base ms0 a cap h1 h2 h3;have:=Alm k base ms0 a cap W h1 (by rw[h2];exact HSZ.out) h3
    rwa [h2] at this
   obtain⟨N,hN⟩:∃N,N=Ei k (Cb k (kids.map Az)):=⟨_,rfl⟩
   rw[<-hN] at HB ⊢;clear HN hN HSZ H2;rcases hk23 with rfl | rfl
   all_goals
    go_enter Tryz.func74,Tryz.ntmps74
    go_wp2_with (first | (go_at_call 98;refine(H1.out _ blA).mono ?_;rintro e w1 ⟨ra,rc,ms,rfl,hmn,hmr,hb1⟩;obtain⟨hc,hf⟩:=Dl hb1;have HMN:=hid hmn;have HMR:Hid (Jt w1 _ (.slice ra ms.length rc) ms):=hmr;clear hmn hmr;have hza:w.heap.size<w1.heap.size:=A4c (by simp;omega) hb1.size;have hzb:w.heap.size+1<w1.heap.size:=A4c (by simp) hb1.size) | (go_at_call 99;refine(HB.out _ _ _ _ _ HMR.out HMN.out (hb1.size)).mono ?_;rintro e w3 ⟨⟨mk,mop,mds,s0,t0,s1,t1,mks,rfl,hmo,hmn⟩,hb3⟩;obtain⟨hc3,hf3⟩:=Dl hb3;have hze:=A4c hzb hb3.size;have HMO:Hid (Ib w3 (w.heap.size+2) ⟨mk,mop,mds, .slice s0 mds.length t0, .slice s1 mks.length t1,mks⟩):=hmo.le (by simp);have HMN2:=hid hmn;clear hmo hmn))
    have b0:w3.cell? ⟨w.heap.size+1,0,none⟩=some (.int .i64 0):=by rw[hc3 _ _ hzb,hc _ _ (by simp)];simp[go_sem]
    have b1:w3.cell? ⟨w.heap.size+1,1,none⟩=some (.int .i64 0):=by rw[hc3 _ _ hzb,hc _ _ (by simp)];simp[go_sem]
    have b2:w3.cell? ⟨w.heap.size+1,2,none⟩=some (.slice none 0 0):=by rw[hc3 _ _ hzb,hc _ _ (by simp)];simp[go_sem]
    have b3:w3.cell? ⟨w.heap.size+1,3,none⟩=some (.slice none 0 0):=by rw[hc3 _ _ hzb,hc _ _ (by simp)];simp[go_sem]
    refine bodyPost_ret (v:=.agg #[.int .i64 mk, .int .i64 mop, .slice s0 mds.length t0, .slice s1 mks.length t1]) (by simp[results,Tryz.results74,go_sem,b0,b1,b2,b3]) rfl ⟨⟨mk,mop,mds,s0,t0,s1,t1,mks,rfl,?_,HMN2.out⟩,blA⟩;refine Ib.le (base:=w.heap.size+2) ?_ (by omega);exact Ib.setO4 HMO.out (λx hx e=>by have:=(HMO.out.1.lt _ x hx _ e).1;omega)
  ·have HN:Hid (Az ⟨k,e,kids⟩=⟨k,e,kids.map Az⟩):=by show _=_;rw[Hz,if_neg hk23]
   rw[HN.out];have hk2:(k==2)=false:=by rw[A5f];omega
   have hk3:(k==3)=false:=by rw[A5f];omega
   obtain⟨ks,hks⟩:∃ks,ks=kids.map Az:=⟨_,rfl⟩
   rw[<-hks] at H1 ⊢;clear HN HSZ hks hk23;go_enter Tryz.func74,Tryz.ntmps74
   go_wp2_with (first | (go_at_call 98;refine(H1.out _ blA).mono ?_;rintro e w1 ⟨ra,rc,ms,rfl,hmn,hmr,hb1⟩;obtain⟨hc,hf⟩:=Dl hb1;have HMN:=hid hmn;have HMR:Hid (Jt w1 _ (.slice ra ms.length rc) ms):=hmr;clear hmn hmr;have hza:w.heap.size<w1.heap.size:=A4c (by simp;omega) hb1.size;have hzb:w.heap.size+1<w1.heap.size:=A4c (by simp) hb1.size))
   have q0:w1.cell? ⟨w.heap.size,0,none⟩=some (.int .i64 k):=by rw[hc _ _ (by simp;omega)];simp[go_sem]
   have q1:w1.cell? ⟨w.heap.size,1,none⟩=some (.int .i64 e.op):=by rw[hc _ _ (by simp;omega)];simp[go_sem]
   have q2:w1.cell? ⟨w.heap.size,2,none⟩=some (.slice p0 e.args.length r0):=by rw[hc _ _ (by simp;omega)];simp[go_sem]
   have q3:w1.cell? ⟨w.heap.size,3,none⟩=some (.slice p1 kids.length r1):=by rw[hc _ _ (by simp;omega)];simp[go_sem]
   have tt0:w1.cell? ⟨w.heap.size+1,0,none⟩=some (.int .i64 0):=by rw[hc _ _ (by simp)];simp[go_sem]
   have tt1:w1.cell? ⟨w.heap.size+1,1,none⟩=some (.int .i64 0):=by rw[hc _ _ (by simp)];simp[go_sem]
   have tt2:w1.cell? ⟨w.heap.size+1,2,none⟩=some (.slice none 0 0):=by rw[hc _ _ (by simp)];simp[go_sem]
   have tt3:w1.cell? ⟨w.heap.size+1,3,none⟩=some (.slice none 0 0):=by rw[hc _ _ (by simp)];simp[go_sem]
   have v0:w1.frozen? ⟨w.heap.size+1,0,none⟩=false:=by rw[hf _ _ (by simp)];simp[go_sem]
   have v1:w1.frozen? ⟨w.heap.size+1,1,none⟩=false:=by rw[hf _ _ (by simp)];simp[go_sem]
   have v2:w1.frozen? ⟨w.heap.size+1,2,none⟩=false:=by rw[hf _ _ (by simp)];simp[go_sem]
   have v3:w1.frozen? ⟨w.heap.size+1,3,none⟩=false:=by rw[hf _ _ (by simp)];simp[go_sem]
   have hB1:Below w.heap.size w w1:=blA;have HMR2:Hid (Jt w1 (w.heap.size+2) (.slice ra ms.length rc) ms):=HMR.out.le (by simp);have hz2:w.heap.size+2<=w1.heap.size:=by omega
   clear hc hf HMR hb1
   go_region_law (go_simp;go_at_call 72;refine(H2.out _ (by exact hB1.drew)).mono ?_;rintro e w2 ⟨u,rfl,g5,hb2⟩;obtain⟨a5,c5,hu5⟩:=Af g5;subst hu5;have hb5:=((Below.refl w1.heap.size w1).drew).trans hb2;have HG5:Hid (w2.ownsRow w1.heap.size 86 3 (.slice a5 e.args.length c5) e.args.length (Bz e.args)):=g5;clear g5 hb2;have hzc:=A4c hza hb5.size;have hzd:=A4c hzb hb5.size;have y0:=(hb5.cell (p:=⟨w.heap.size,0,none⟩) hza).trans q0;have y1:=(hb5.cell (p:=⟨w.heap.size,1,none⟩) hza).trans q1;have y2:=(hb5.cell (p:=⟨w.heap.size,2,none⟩) hza).trans q2;have y3:=(hb5.cell (p:=⟨w.heap.size,3,none⟩) hza).trans q3;have z0:=(hb5.cell (p:=⟨w.heap.size+1,0,none⟩) hzb).trans tt0;have z1:=(hb5.cell (p:=⟨w.heap.size+1,1,none⟩) hzb).trans tt1;have z2:=(hb5.cell (p:=⟨w.heap.size+1,2,none⟩) hzb).trans tt2;have z3:=(hb5.cell (p:=⟨w.heap.size+1,3,none⟩) hzb).trans tt3;have f0:=(hb5.frozen (p:=⟨w.heap.size+1,0,none⟩) hzb).trans v0;have f1:=(hb5.frozen (p:=⟨w.heap.size+1,1,none⟩) hzb).trans v1;have f2:=(hb5.frozen (p:=⟨w.heap.size+1,2,none⟩) hzb).trans v2;have f3:=(hb5.frozen (p:=⟨w.heap.size+1,3,none⟩) hzb).trans v3)
   all_goals
    try go_wp2
    refine bodyPost_ret (v:=.agg #[.int .i64 k, .int .i64 e.op, .slice a5 e.args.length c5, .slice ra ms.length rc]) (by simp[results,Tryz.results74,go_sem,z0,z1,z2,z3]) rfl ⟨⟨k,e.op,e.args,a5,c5,ra,rc,ms,rfl,?_,by rw[Ah.net_eq,HMN.out]⟩,?_⟩
    ·refine Ib.le (base:=w.heap.size+2) ?_ (by omega)
     have hmo:=(HMR2.out.below hb5).net k e.op e.args (Joins.ownsRow_le HG5.out hz2) (λx hx=>(Eb (n:=w1.heap.size) (λj hj=>(HMR2.out.lt x hx j hj).2) (λj hj=>(HG5.out.lt j hj).1)).symm);exact Ib.setO4 hmo (λx hx e=>by have:=(hmo.1.lt _ x hx _ e).1;omega)
    ·have hB2:=hB1.trans (hb5.mono hB1.size)
     (repeat (first | with_reducible exact Below.refl _ _ | with_reducible assumption | with_reducible refine Bv (by first | exact A4i _ | (simp;done) | (simp;omega) | omega) ?_ _ | with_reducible refine Bl ?_ _ | with_reducible refine G9 ?_ _ | with_reducible refine Ij ?_ | with_reducible refine G7 ?_ _ _ | with_reducible refine Cj ?_ (by assumption)))
end Go.Proofs.YtbfljjcnbbmoaaaGreatDoor
