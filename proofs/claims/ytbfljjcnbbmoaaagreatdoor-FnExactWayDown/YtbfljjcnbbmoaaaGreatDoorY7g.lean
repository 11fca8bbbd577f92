import Derived.Test.YtbfljjcnbbmoaaaGreatDoorGm
set_option maxHeartbeats 4000000
set_option maxRecDepth 100000
namespace Go.Proofs.YtbfljjcnbbmoaaaGreatDoor
open Stil
open Go.RowKit Go.Sort Go.BigFrame
theorem Apt (k:Int)(m:Ah):(Oy k m).map Ah.net=Cf k [m.net]:=by
 rw[L9,Ah.net_eq];unfold Oy;simp only;split
 ·rfl
 ·rw[List.map_singleton,Ah.net_eq]
theorem Als (k:Int)(m:Ah):(Ew (Oy k m)).Sublist m.vals:=by
 unfold Oy;split
 ·rw[Ah.vals_eq]
  exact List.Sublist.cons _ (List.Sublist.cons _ (List.Sublist.refl _))
 ·rw[Je];exact List.Sublist.refl _
theorem Af5 (k:Int)(B base:Nat)(ms0:List Ah)(a:Option Addr)(cap:Nat)(w:World)(hbx:w.cell? ⟨B,0,none⟩=some (.int .i64 k))(hB:B<w.heap.size)(hrow:J4 w base (.slice a ms0.length cap) ms0)(hl:Stil.sizes (ms0.map Ah.net)<=999999)(hbase:base<=w.heap.size):
  Calls Tryz.prog 119 #[.slice a ms0.length cap, .slice none 0 0, .func (.func 121) #[] #[.pointer (some ⟨B,0,none⟩)]] w λe w'=>∃(a:Option Addr) (c:Nat) (ms:List Ah),e=.returned (.slice a ms.length c)/\ms.map Ah.net=Cf k (ms0.map Ah.net)/\J4 w' base (.slice a ms.length c) ms/\Below w.heap.size w w'/\(Ew ms).Sublist (Ew ms0)/\∀q,(Value.slice a ms.length c).ownBlock=some q->w.heap.size<=q:=by
 have rJ:=hid hrow;have dh:=hid hl;have hml:ms0.length<=1000000:=by
  have h1:=Ig (ms0.map Ah.net);rw[A4o] at h1;omega
 clear hrow hl;go_enter Tryz.func119,Tryz.ntmps119
 go_wp2
 go_loopw [1,11] (λd i wr=>∃(j:Nat) (ms:List Ah) (ra:Option Addr) (rc:Nat),j<=ms0.length/\i=.int .i64 j/\d=.slice ra ms.length rc/\ms.map Ah.net=Cf k ((ms0.take j).map Ah.net)/\J4 wr base (.slice ra ms.length rc) ms/\(Ew ms).Sublist (Ew (ms0.take j))/\(∀q,(Value.slice ra ms.length rc).ownBlock=some q->w.heap.size<=q)/\Below w.heap.size w wr) (λ_ i _=>ms0.length - (intOf i).toNat)
 case atStart=>exact⟨0,[],none,0,omz,rfl,rfl,rfl,J4.nil _ _,List.Sublist.refl _,(λq hq=>by cases hq),Below.refl _ _⟩
 case round=>
  obtain⟨j,ms,ra,rc,hj,rfl,rfl,hmn,hmr,hsub,hvl,hb⟩:=hrel;have aH:=hid hmn;have aP:=hid hmr;have vU:=hid hsub;have jL:=hid hvl;clear hmn hmr hsub hvl;by_cases hlt:j<ms0.length
  ·obtain⟨g,c,hv,_,hlt2,_,hcell⟩:=Az rJ.1 omz
   obtain⟨a1,a2,a3,a4⟩:=Jj ms0 j hlt;have x0:=(hb.cell (p:=⟨g,j*4,none⟩) hlt2).trans (hcell _ _ a1);have x1:=(hb.cell (p:=⟨g,j*4+1,none⟩) hlt2).trans (hcell _ _ a2);have x2:=(hb.cell (p:=⟨g,j*4+2,none⟩) hlt2).trans (hcell _ _ a3);have x3:=(hb.cell (p:=⟨g,j*4+3,none⟩) hlt2).trans (hcell _ _ a4);have hmo:=rJ.one j hlt;have aT:=hid (A4r hlt);have hok:=(H5 _ _ _).1 hmo.1;obtain⟨s0,t0,hd⟩:=Af hok.1;obtain⟨s1,t1,hd2⟩:=Af hok.2.1;have hsz:ms.length+ms0[j].kids.length+1<=1000000:=by
    have h1:=congrArg List.length aH.out;rw[A4o] at h1;have h2:=Ig (Cf k ((ms0.take j).map Ah.net));have h3:=Jk k ((ms0.take j).map Ah.net);have h4:=Aff (ms0.map Ah.net) (j+1);rw[<-List.map_take,aT.out,A4m,Rq] at h4;have h5:Stil.sizes ([ms0[j]].map Ah.net)=Aj ms0[j].net:=by simp[Stil.sizes]
    have h6:=D8 ms0[j].net;have h7:=Ig ms0[j].net.kids;have h8:ms0[j].net.kids.length=ms0[j].kids.length:=by rw[Ah.net_eq];simp
    have:=dh.out
    omega
   have hpw:(Value.slice ra ms.length rc::(Ew ms++ms0[j].vals)).Pairwise Aside:=by
    have hs1:(Ew ms++ms0[j].vals).Sublist (Ew ms0):=by
     have h1:(Ew ms++ms0[j].vals).Sublist (Ew (ms0.take (j+1))):=by
      rw[aT.out,L6,Je];exact List.Sublist.append vU (List.Sublist.refl _)
     refine h1.trans ?_;have h2:=L6 (ms0.take (j+1)) (ms0.drop (j+1));rw[List.take_append_drop] at h2;rw[h2];exact List.sublist_append_left _ _
    rw[A4u];refine⟨λy hy=>(Ef (n:=w.heap.size) (λq hq=>(rJ.lt y (A4c _ (hs1.subset hy)) q hq).2) jL.out).symm,List.Pairwise.sublist hs1 (List.pairwise_cons.1 rJ.2.2).2⟩
   have jM:Hid ((Ew (ms++Oy k ms0[j])).Sublist (Ew (ms0.take (j+1)))):=by
    show List.Sublist _ _
    rw[aT.out,L6,L6,Je];exact List.Sublist.append vU (Als k _)
   have bV:Hid ((ms++Oy k ms0[j]).map Ah.net=Cf k ((ms0.take (j+1)).map Ah.net)):=by
    show _=_
    rw[aT.out,A4m,A4m,Ju,aH.out,Apt];rfl
   obtain⟨m,hm⟩:∃m,m=ms0[j]:=⟨_,rfl⟩
   rw[<-hm] at x0 x1 x2 x3 hmo hd hd2 hsz hpw jM bV;clear hm hok aT a1 a2 a3 a4 hcell;obtain⟨mk,aG,aF,uq,uo,aC⟩:=m;simp only at x0 x1 x2 x3 hd hd2 hsz;subst hd;subst hd2;simp only[Value.slice.injEq] at hv;obtain⟨rfl,_,rfl⟩:=hv;have HI:Hid (∀W,Below wr.heap.size wr W->Calls Tryz.prog 121 #[.slice ra ms.length rc, .agg #[.int .i64 mk, .int .i64 aG, .slice s0 aF.length t0, .slice s1 aC.length t1], .pointer (some ⟨B,0,none⟩)] W λe w'=>∃(a:Option Addr) (c:Nat),e=.returned (.slice a (ms.length+(Oy k ⟨mk,aG,aF, .slice s0 aF.length t0, .slice s1 aC.length t1,aC⟩).length) c)/\J4 w' base (.slice a (ms.length+(Oy k ⟨mk,aG,aF, .slice s0 aF.length t0, .slice s1 aC.length t1,aC⟩).length) c) (ms++Oy k ⟨mk,aG,aF, .slice s0 aF.length t0, .slice s1 aC.length t1,aC⟩)/\Below w.heap.size W w'/\∀j,(Value.slice a (ms.length+(Oy k ⟨mk,aG,aF, .slice s0 aF.length t0, .slice s1 aC.length t1,aC⟩).length) c).ownBlock=some j->w.heap.size<=j):=by
    intro W hW;have hbW:=hb.trans (hW.mono hb.size);exact A04 k B base w.heap.size ra rc ms mk aG aF s0 t0 s1 t1 aC W ((hbW.cell (p:=⟨B,0,none⟩) hB).trans hbx) (A37 hB hbW.size) (aP.below hW) ((hmo.below hb).below hW) hpw hsz (A4k hbase hbW.size) hbW.size jL.out
   obtain⟨O,hO⟩:∃O,O=Oy k ⟨mk,aG,aF, .slice s0 aF.length t0, .slice s1 aC.length t1,aC⟩:=⟨_,rfl⟩
   rw[<-hO] at HI jM bV;have hg2:=A37 hlt2 hb.size;clear hO hmo hpw hsz hlt2
   go_wp2_with (go_at_call 121;refine(HI _ blA).mono ?_;rintro e w2 ⟨a2,c2,rfl,fQ,hb2,hv2⟩;have hb3:=(show Below w.heap.size w _ from hb.trans ((show Below wr.heap.size wr _ from blA).mono hb.size)).trans hb2)
   refine⟨⟨j+1,ms++O,a2,c2,omz,by go_num,by rw[A38],bV.out,by rw[A38];exact fQ,jM.out,by rw[A38];exact hv2,hb3⟩,by simp[intOf];omega⟩
  ·obtain rfl:j=ms0.length:=by omega
   have hmn:=aH.out;rw[List.take_length] at hmn;have bV:=hid hmn;have hsub:=vU.out;rw[List.take_length] at hsub;have jM:=hid hsub;clear hmn hsub
   go_wp2
   go_ret;exact⟨ra,rc,ms,rfl,bV.out,aP.out,hb,jM.out,jL.out⟩
theorem Ik.setO {w:World}{base:Nat}{m:Ah}(h:Ik w base m){a:Addr}(ha:∀x∈m.vals,x.ownBlock≠some a.block)(u:Value):Ik (w.setCell a u) base m:=⟨MOk.map m h.1 (λ_ _ _ _ _ hx ho=>ownsRow_setCell_other ho (ha _ hx) u),h.2⟩
theorem Ik.setO4 {w:World}{base b o1 o2 o3 o4:Nat}{m:Ah}{u1 u2 u3 u4:Value}(h:Ik w base m)(hb:∀x∈m.vals,x.ownBlock≠some b):Ik ((((w.setCell ⟨b,o1,none⟩ u1).setCell ⟨b,o2,none⟩ u2).setCell ⟨b,o3,none⟩ u3).setCell ⟨b,o4,none⟩ u4) base m:=
 Ik.setO (Ik.setO (Ik.setO (Ik.setO h (a:=⟨b,o1,none⟩) hb u1) (a:=⟨b,o2,none⟩) hb u2) (a:=⟨b,o3,none⟩) hb u3) (a:=⟨b,o4,none⟩) hb u4
theorem Amd (k:Int)(base:Nat)(ms0:List Ah)(a:Option Addr)(cap:Nat)(w:World)(hrow:J4 w base (.slice a ms0.length cap) ms0)(hl:Stil.sizes (ms0.map Ah.net)<=999999)(hbase:base<=w.heap.size):
  Calls Tryz.prog 99 #[.int .i64 k, .slice a ms0.length cap] w λe w'=>Nr w' base (Fb k (Cf k (ms0.map Ah.net))) e/\Below w.heap.size w w':=by
 have HF:=hid (λW B h h1 h2=>Af5 k B base ms0 a cap W h1 h2 (hrow.below h) hl (A4k hbase h.size));obtain⟨F,hF⟩:∃F,F=Cf k (ms0.map Ah.net):=⟨_,rfl⟩
 rw[<-hF] at HF ⊢;have jO:=hid (λx hx q hq=>(hrow.lt x (A4c _ hx) q hq).2);clear hrow hl hF;go_enter Tryz.func99,Tryz.ntmps99;go_upto_region 2 with(go_at_call 119;refine(HF _ _ blA (by simp[go_sem]) (by simp;omega)).mono ?_;rintro e w1 ⟨ra,rc,ms,rfl,hmn,hmr,hb1,hsub,hvl⟩;have aH:=hid hmn;have aP:=hid hmr;have rQ:Hid (∀x∈(Value.slice ra ms.length rc)::Ew ms,x.ownBlock≠some (w.heap.size+1)):=(by intro x hx e;rcases List.mem_cons.1 hx with rfl | hx;(have:=hvl _ e;simp at this;omega);(have:=jO x (hsub.subset hx) _ e;omega));clear hmn hmr hsub hvl)
 obtain⟨hc,hf⟩:=Dq hb1;have hzb:w.heap.size+1<w1.heap.size:=A37 spz hb1.size;have kd:w1.cell? ⟨w.heap.size,0,none⟩=some (.int .i64 k):=by rw[hc _ _ (by simp;omega)];simp[go_sem]
 have z0:w1.cell? ⟨w.heap.size+1,0,none⟩=some (.int .i64 0):=by rw[hc _ _ spz];simp[go_sem]
 have z1:w1.cell? ⟨w.heap.size+1,1,none⟩=some (.int .i64 0):=by rw[hc _ _ spz];simp[go_sem]
 have z2:w1.cell? ⟨w.heap.size+1,2,none⟩=some (.slice none 0 0):=by rw[hc _ _ spz];simp[go_sem]
 have z3:w1.cell? ⟨w.heap.size+1,3,none⟩=some (.slice none 0 0):=by rw[hc _ _ spz];simp[go_sem]
 have f0:w1.frozen? ⟨w.heap.size+1,0,none⟩=false:=by rw[hf _ _ spz];simp[go_sem]
 have f1:w1.frozen? ⟨w.heap.size+1,1,none⟩=false:=by rw[hf _ _ spz];simp[go_sem]
 have f2:w1.frozen? ⟨w.heap.size+1,2,none⟩=false:=by rw[hf _ _ spz];simp[go_sem]
 have f3:w1.frozen? ⟨w.heap.size+1,3,none⟩=false:=by rw[hf _ _ spz];simp[go_sem]
 have hB1:Below w.heap.size w w1:=blA;clear hc hf hb1 HF jO;by_cases h1:ms.length=1
 ·obtain⟨m,rfl⟩:=List.length_eq_one_iff.1 h1
  have hmo:=aP.one 0 spz;simp only[List.getElem_cons_zero] at hmo;obtain⟨g,c,hv,_,hlt2,_,hcell⟩:=Az aP.1 spz;obtain⟨a1,a2,a3,a4⟩:=Jj [m] 0 spz;have y0:=hcell _ _ a1;have y1:=hcell _ _ a2;have y2:=hcell _ _ a3;have y3:=hcell _ _ a4;simp only[List.getElem_cons_zero,Nat.zero_mul,A4h] at y0 y1 y2 y3;have hok:=(H5 _ _ _).1 hmo.1;obtain⟨d1,d2,hd⟩:=Af hok.1;obtain⟨d3,d4,hd2⟩:=Af hok.2.1;simp only[Value.slice.injEq] at hv;obtain⟨rfl,_,rfl⟩:=hv;have fM:Hid (Fb k F=m.net):=by show _=_;rw[<-aH.out];rfl
  have kM:=hid (λx hx=>rQ x (A4c _ (by rw[Je];exact hx)));clear rQ aH;obtain⟨mk,aG,aF,uq,uo,aC⟩:=m;simp only at hd hd2 y0 y1 y2 y3;subst hd;subst hd2;have aJ:=hid hmo;clear hmo hok hcell aP;simp only[A48]
  go_wp2
  refine bodyPost_ret (v:=.agg #[.int .i64 mk, .int .i64 aG, .slice d1 aF.length d2, .slice d3 aC.length d4]) (by simp[results,Tryz.results99,go_sem,z0,z1,z2,z3]) rfl ⟨⟨mk,aG,aF,d1,d2,d3,d4,aC,rfl,?_,fM.symm⟩,blA⟩;exact Ik.setO4 aJ kM.out
 ·have fM:Hid (Fb k F=⟨k,⟨0,[]⟩,ms.map Ah.net⟩):=by
   show _=_
   rw[<-aH.out];unfold Fb;rw[dif_neg (by simpa using h1)]
  have hmo:=aP.net k 0 [] (World.ownsRow_nil _ _ _ _) (λx _=>Nl x);have aJ:=hid hmo;have kM:Hid (∀x∈(Ah.mk k 0 [] (.slice none 0 0) (.slice ra ms.length rc) ms).vals,x.ownBlock≠some (w.heap.size+1)):=by
   intro x hx;rw[Ah.vals_eq] at hx;rcases List.mem_cons.1 hx with rfl | hx
   ·intro e;cases e
   ·exact rQ x hx
  have e1':((ms.length:Int)==1)=false:=by rw[A5a];omega
  have bf:¬((ms.length:Int)=1):=omz
  clear hmo aP rQ aH
  go_wp2
  refine bodyPost_ret (v:=.agg #[.int .i64 k, .int .i64 0, .slice none 0 0, .slice ra ms.length rc]) (by simp[results,Tryz.results99,go_sem,z0,z1,z2,z3]) rfl ⟨⟨k,0,[],none,0,ra,rc,ms,rfl,?_,by rw[Ah.net_eq,fM.out]⟩,blA⟩;exact Ik.setO4 aJ kM.out
end Go.Proofs.YtbfljjcnbbmoaaaGreatDoor
set_option maxHeartbeats 4000000
set_option maxRecDepth 100000
namespace Go.Proofs.YtbfljjcnbbmoaaaGreatDoor
open Stil
open Go.RowKit Go.Sort Go.BigFrame
theorem A08 (x:Stil.Net)(B base lo:Nat)(ra:Option Addr)(rc:Nat)(ms:List Ah)(av kv:Value)(w:World)(ih:∀W,Below w.heap.size w W->Calls Tryz.prog 74 #[.agg #[.int .i64 x.kind, .int .i64 x.one.op,av,kv]] W λe w'=>Nr w' W.heap.size (A7 x) e/\Below W.heap.size W w')
  (hav:Bi w av x.one.args) (hkv:Dx w kv x.kids) (hbx:w.cell? ⟨B,0,none⟩=some (.func (.func 74) #[] #[])) (hB:B<w.heap.size) (hrow:J4 w base (.slice ra ms.length rc) ms) (hl:ms.length+1<=1000000) (hbase:base<=w.heap.size) (hlo:lo<=w.heap.size) (hvl:∀k,(Value.slice ra ms.length rc).ownBlock=some k->lo<=k):
  Calls Tryz.prog 120 #[.slice ra ms.length rc, .agg #[.int .i64 x.kind, .int .i64 x.one.op,av,kv], .pointer (some ⟨B,0,none⟩)] w λe w'=>∃(a:Option Addr) (c:Nat) (m:Ah),e=.returned (.slice a (ms.length+1) c)/\m.net=A7 x/\J4 w' base (.slice a (ms.length+1) c) (ms++[m])/\Below lo w w'/\∀k,(Value.slice a (ms.length+1) c).ownBlock=some k->lo<=k:=by
 have IH:=hid ih;have aP:=hid hrow;have jL:=hid hvl;obtain⟨p0,r0,rfl,bP⟩:=hav;obtain⟨p1,r1,rfl,iG⟩:=hkv;clear bP iG ih hrow hvl;obtain⟨N,hN⟩:∃N,N=A7 x:=⟨_,rfl⟩
 rw[<-hN] at IH ⊢;clear hN;go_enter Tryz.func120,Tryz.ntmps120
 go_wp2_with (first | (go_at_call 74;refine(IH _ blA).mono ?_;rintro e w1 ⟨⟨mk,aG,aF,s0,t0,s1,t1,aC,rfl,hmo,hmn⟩,hb1⟩;have aS:Below w.heap.size w w1:=blA;have hle1:=aS.size;have aJ:Hid (Ik w1 w.heap.size ⟨mk,aG,aF, .slice s0 aF.length t0, .slice s1 aC.length t1,aC⟩):=hmo.le spz;have aH:=hid hmn;clear hmo hmn) | (at_builtin;refine Ph rfl _ _ rfl base lo ra rc ms [Ah.mk mk aG aF (.slice s0 aF.length t0) (.slice s1 aC.length t1) aC] _ 1 rfl rfl ((aP.below aS).below (Aa _ _)) (λ_=>⟨_,rfl,by exact Awk spz⟩) (λm hm=>by rw[List.mem_singleton.1 hm];exact(aJ.1.le hbase).below (Aa _ _)) (aP.apart (w1:=w1) (b1:=w.heap.size) (λm hm=>by rw[List.mem_singleton.1 hm];exact aJ.1) (A4d _) (by rw[Je];exact aJ.2)) (by simp only[A48];exact hl) (by simp only[World.size_alloc];omega) (by simp only[World.size_alloc];omega) jL.out ?_;intro a6 c6 w6 aW hb6 hv6;have gJ:Hid (J4 w6 base (.slice a6 (ms.length+1) c6) (ms++[Ah.mk mk aG aF (.slice s0 aF.length t0) (.slice s1 aC.length t1) aC])):=aW;have rG:Hid (∀k,(Value.slice a6 (ms.length+1) c6).ownBlock=some k->lo<=k):=hv6;clear aW hv6;have hb7:=(((Bq aS _).mono hlo)).trans hb6))
 go_ret;exact⟨a6,c6,_,rfl,aH.out,gJ.out,hb7,rG.out⟩
theorem Aqn (es:List Stil.Net)(ih:∀x∈es,∀(av kv:Value) (w:World),Bi w av x.one.args->Dx w kv x.kids->Calls Tryz.prog 74 #[.agg #[.int .i64 x.kind, .int .i64 x.one.op,av,kv]] w λe w'=>Nr w' w.heap.size (A7 x) e/\Below w.heap.size w w')
  (B:Nat) (v:Value) (w:World) (hat:Dx w v es) (hl:es.length<=999999) (hbx:w.cell? ⟨B,0,none⟩=some (.func (.func 74) #[] #[])) (hB:B<w.heap.size):
  Calls Tryz.prog 119 #[v, .slice none 0 0, .func (.func 120) #[] #[.pointer (some ⟨B,0,none⟩)]] w λe w'=>∃(a:Option Addr) (c:Nat) (ms:List Ah),e=.returned (.slice a ms.length c)/\ms.map Ah.net=es.map A7/\J4 w' w.heap.size (.slice a ms.length c) ms/\Below w.heap.size w w':=by
 obtain⟨a,cap,rfl,hc⟩:=hat;have HA:=hid hc;have IH:=hid ih;have cZ:=hid hbx;clear hc ih hbx;go_enter Tryz.func119,Tryz.ntmps119
 go_wp2
 go_loopw [1,11] (λd i wr=>∃(j:Nat) (ms:List Ah) (ra:Option Addr) (rc:Nat),j<=es.length/\i=.int .i64 j/\d=.slice ra ms.length rc/\ms.map Ah.net=(es.take j).map A7/\J4 wr w.heap.size (.slice ra ms.length rc) ms/\Below w.heap.size w wr) (λ_ i _=>es.length - (intOf i).toNat)
 case atStart=>exact⟨0,[],none,0,omz,rfl,rfl,rfl,J4.nil _ _,Below.refl _ _⟩
 case round=>
  obtain⟨j,ms,ra,rc,hj,rfl,rfl,hmn,hmr,hb⟩:=hrel;have aH:=hid hmn;have aP:=hid hmr;clear hmn hmr;by_cases hlt:j<es.length
  ·have hml:ms.length=j:=by
    have h1:=congrArg List.length aH.out;rw[A4o,A4o,List.length_take] at h1;omega
   obtain⟨b,o,rfl,hbl,hn⟩:=HA j hlt;obtain⟨x0,x1,av,kv,x2,x3,hav,hkv⟩:=(Nw.below hb _ _ _ hn hbl).open;have aT:=hid (A4r hlt);have HI:Hid (∀W,Below wr.heap.size wr W->Calls Tryz.prog 120 #[.slice ra ms.length rc, .agg #[.int .i64 es[j].kind, .int .i64 es[j].one.op,av,kv], .pointer (some ⟨B,0,none⟩)] W λe w'=>∃(a:Option Addr) (c:Nat) (m:Ah),e=.returned (.slice a (ms.length+1) c)/\m.net=A7 es[j]/\J4 w' w.heap.size (.slice a (ms.length+1) c) (ms++[m])/\Below w.heap.size W w'/\∀k,(Value.slice a (ms.length+1) c).ownBlock=some k->w.heap.size<=k):=by
    intro W hW;have hbW:=hb.trans (hW.mono hb.size);exact A08 es[j] B w.heap.size w.heap.size ra rc ms av kv W (λV hV=>IH es[j] (A4f hlt) av kv V ((hav.below hW).below hV) ((hkv.below hW).below hV)) (hav.below hW) (hkv.below hW) ((hbW.cell (p:=⟨B,0,none⟩) hB).trans cZ.out) (A37 hB hbW.size) (aP.below hW) omz hbW.size hbW.size (λk hk=>(aP.1.lt k hk).1)
   obtain⟨x,hx⟩:∃x,x=es[j]:=⟨_,rfl⟩
   rw[<-hx] at HI x0 x1 hav hkv aT;obtain⟨p0,r0,rfl,bP⟩:=hav;obtain⟨p1,r1,rfl,iG⟩:=hkv;have hb0:=A37 hbl hb.size;clear hx hn bP iG hml hbl
   go_wp2_with (go_at_call 120;refine(HI _ blA).mono ?_;rintro e w2 ⟨a2,c2,m,rfl,jF,fQ,hb2,hv2⟩;have hb3:=(show Below w.heap.size w _ from hb.trans ((show Below wr.heap.size wr _ from blA).mono hb.size)).trans hb2;have fF:=hid jF;have HR2:=hid fQ;clear jF fQ hv2)
   refine⟨⟨j+1,ms++[m],a2,c2,omz,by go_num,spz,?_,by rw[A38];exact HR2.out,hb3⟩,by simp[intOf];omega⟩;rw[aT.out,A4m,A4m,aH.out,List.map_singleton,List.map_singleton,fF.out]
  ·obtain rfl:j=es.length:=by omega
   have hmn:=aH.out;rw[List.take_length] at hmn;have bV:=hid hmn;clear hmn
   go_wp2
   go_ret;exact⟨ra,rc,ms,rfl,bV.out,aP.out,hb⟩
theorem Aqk (es:List Stil.Net)(ih:∀x∈es,∀(av kv:Value) (w:World),Bi w av x.one.args->Dx w kv x.kids->Calls Tryz.prog 74 #[.agg #[.int .i64 x.kind, .int .i64 x.one.op,av,kv]] w λe w'=>Nr w' w.heap.size (A7 x) e/\Below w.heap.size w w')
  (v:Value) (w:World) (hat:Dx w v es) (hl:es.length<=999999):
  Calls Tryz.prog 98 #[v, .func (.func 74) #[] #[]] w λe w'=>∃(a:Option Addr) (c:Nat) (ms:List Ah),e=.returned (.slice a ms.length c)/\ms.map Ah.net=es.map A7/\J4 w' w.heap.size (.slice a ms.length c) ms/\Below w.heap.size w w':=by
 have HF:=hid (λW B h h1 h2=>Aqn es ih B v W (hat.below h) hl h1 h2);obtain⟨p0,r0,rfl,bP⟩:=hat;clear bP ih;go_enter Tryz.func98,Tryz.ntmps98
 go_wp2_with (go_at_call 119;refine(HF _ _ blA (by simp[go_sem]) spz).mono ?_;rintro e w1 ⟨ra,rc,ms,rfl,hmn,hmr,hb1⟩;have aH:=hid hmn;have aP:Hid (J4 w1 _ (.slice ra ms.length rc) ms):=hmr;clear hmn hmr)
 go_ret;exact⟨ra,rc,ms,rfl,aH.out,aP.le spz,blA⟩
end Go.Proofs.YtbfljjcnbbmoaaaGreatDoor
namespace Go.Proofs.YtbfljjcnbbmoaaaGreatDoor
open Stil
open Go.RowKit Go.Sort Go.BigFrame
set_option maxHeartbeats 2000000 in
set_option maxRecDepth 100000 in
theorem Avp (n:Stil.Net):Dc n->Aj n<=999999->∀(av kv:Value) (w:World),Bi w av n.one.args->Dx w kv n.kids->Calls Tryz.prog 74 #[.agg #[.int .i64 n.kind, .int .i64 n.one.op,av,kv]] w λe w'=>Nr w' w.heap.size (A7 n) e/\Below w.heap.size w w':=by
 induction n using Fh with
 | h k e kids ih=>
  intro hft hsz av kv w hav hkv;obtain⟨_,he,hl,hk⟩:=(Hu _ _ _).1 hft;obtain⟨hs1,hs2⟩:=Afw hsz;simp only at hav hkv;have hkl:kids.length<=999999:=by
   have h1:=Ig (kids.map A7);rw[A4o] at h1;omega
  have H1:=hid (λW h=>Aqk kids (λx hx=>ih x hx (hk x hx) (hs2 x hx)) kv W (hkv.below h) hkl);have H2:=hid (λW h=>Af3 e.op av e.args W (hav.below h) he.2.1);have dh:=hid hs1;obtain⟨p0,r0,rfl,bP⟩:=hav;obtain⟨p1,r1,rfl,iG⟩:=hkv;clear ih hft he hl hk hsz hs1 hs2 bP iG hkl;by_cases eX:k=2\/k=3
  ·have HN:Hid (A7 ⟨k,e,kids⟩=Fb k (Cf k (kids.map A7))):=by show _=_;rw[Ib,if_pos eX]
   rw[HN.out];have HB:Hid (∀W base ms0 a cap,J4 W base (.slice a ms0.length cap) ms0->ms0.map Ah.net=kids.map A7->base<=W.heap.size->Calls Tryz.prog 99 #[.int .i64 k, .slice a ms0.length cap] W λe w'=>Nr w' base (Fb k (Cf k (kids.map A7))) e/\Below W.heap.size W w'):=by
    intro W base ms0 a cap h1 h2 h3;have:=Amd k base ms0 a cap W h1 (by rw[h2];exact dh.out) h3
    rwa [h2] at this
   obtain⟨N,hN⟩:∃N,N=Fb k (Cf k (kids.map A7)):=⟨_,rfl⟩
   rw[<-hN] at HB ⊢;clear HN hN dh H2;rcases eX with rfl | rfl
   all_goals
    go_enter Tryz.func74,Tryz.ntmps74
    go_wp2_with (first | (go_at_call 98;refine(H1 _ blA).mono ?_;rintro e w1 ⟨ra,rc,ms,rfl,hmn,hmr,hb1⟩;obtain⟨hc,hf⟩:=Dq hb1;have aH:=hid hmn;have aP:Hid (J4 w1 _ (.slice ra ms.length rc) ms):=hmr;clear hmn hmr;have hza:w.heap.size<w1.heap.size:=A37 (by simp;omega) hb1.size;have hzb:w.heap.size+1<w1.heap.size:=A37 spz hb1.size) | (go_at_call 99;refine(HB _ _ _ _ _ aP aH (hb1.size)).mono ?_;rintro e w3 ⟨⟨mk,aG,aF,s0,t0,s1,t1,aC,rfl,hmo,hmn⟩,hb3⟩;obtain⟨hc3,hf3⟩:=Dq hb3;have hze:=A37 hzb hb3.size;have aJ:Hid (Ik w3 (w.heap.size+2) ⟨mk,aG,aF, .slice s0 aF.length t0, .slice s1 aC.length t1,aC⟩):=hmo.le spz;have bV:=hid hmn;clear hmo hmn))
    have b0:w3.cell? ⟨w.heap.size+1,0,none⟩=some (.int .i64 0):=by rw[hc3 _ _ hzb,hc _ _ spz];simp[go_sem]
    have b1:w3.cell? ⟨w.heap.size+1,1,none⟩=some (.int .i64 0):=by rw[hc3 _ _ hzb,hc _ _ spz];simp[go_sem]
    have b2:w3.cell? ⟨w.heap.size+1,2,none⟩=some (.slice none 0 0):=by rw[hc3 _ _ hzb,hc _ _ spz];simp[go_sem]
    have b3:w3.cell? ⟨w.heap.size+1,3,none⟩=some (.slice none 0 0):=by rw[hc3 _ _ hzb,hc _ _ spz];simp[go_sem]
    refine bodyPost_ret (v:=.agg #[.int .i64 mk, .int .i64 aG, .slice s0 aF.length t0, .slice s1 aC.length t1]) (by simp[results,Tryz.results74,go_sem,b0,b1,b2,b3]) rfl ⟨⟨mk,aG,aF,s0,t0,s1,t1,aC,rfl,?_,bV.out⟩,blA⟩;refine Ik.le (base:=w.heap.size+2) ?_ omz;exact Ik.setO4 aJ (λx hx e=>by have:=(aJ.1.lt _ x hx _ e).1;omega)
  ·have HN:Hid (A7 ⟨k,e,kids⟩=⟨k,e,kids.map A7⟩):=by show _=_;rw[Ib,if_neg eX]
   rw[HN.out];have hk2:(k==2)=false:=by rw[A5a];omega
   have hk3:(k==3)=false:=by rw[A5a];omega
   obtain⟨ks,hks⟩:∃ks,ks=kids.map A7:=⟨_,rfl⟩
   rw[<-hks] at H1 ⊢;clear HN dh hks eX;go_enter Tryz.func74,Tryz.ntmps74
   go_wp2_with (first | (go_at_call 98;refine(H1 _ blA).mono ?_;rintro e w1 ⟨ra,rc,ms,rfl,hmn,hmr,hb1⟩;obtain⟨hc,hf⟩:=Dq hb1;have aH:=hid hmn;have aP:Hid (J4 w1 _ (.slice ra ms.length rc) ms):=hmr;clear hmn hmr;have hza:w.heap.size<w1.heap.size:=A37 (by simp;omega) hb1.size;have hzb:w.heap.size+1<w1.heap.size:=A37 spz hb1.size))
   have q0:w1.cell? ⟨w.heap.size,0,none⟩=some (.int .i64 k):=by rw[hc _ _ (by simp;omega)];simp[go_sem]
   have q1:w1.cell? ⟨w.heap.size,1,none⟩=some (.int .i64 e.op):=by rw[hc _ _ (by simp;omega)];simp[go_sem]
   have q2:w1.cell? ⟨w.heap.size,2,none⟩=some (.slice p0 e.args.length r0):=by rw[hc _ _ (by simp;omega)];simp[go_sem]
   have q3:w1.cell? ⟨w.heap.size,3,none⟩=some (.slice p1 kids.length r1):=by rw[hc _ _ (by simp;omega)];simp[go_sem]
   have su:w1.cell? ⟨w.heap.size+1,0,none⟩=some (.int .i64 0):=by rw[hc _ _ spz];simp[go_sem]
   have ry:w1.cell? ⟨w.heap.size+1,1,none⟩=some (.int .i64 0):=by rw[hc _ _ spz];simp[go_sem]
   have ru:w1.cell? ⟨w.heap.size+1,2,none⟩=some (.slice none 0 0):=by rw[hc _ _ spz];simp[go_sem]
   have rq:w1.cell? ⟨w.heap.size+1,3,none⟩=some (.slice none 0 0):=by rw[hc _ _ spz];simp[go_sem]
   have v0:w1.frozen? ⟨w.heap.size+1,0,none⟩=false:=by rw[hf _ _ spz];simp[go_sem]
   have v1:w1.frozen? ⟨w.heap.size+1,1,none⟩=false:=by rw[hf _ _ spz];simp[go_sem]
   have v2:w1.frozen? ⟨w.heap.size+1,2,none⟩=false:=by rw[hf _ _ spz];simp[go_sem]
   have v3:w1.frozen? ⟨w.heap.size+1,3,none⟩=false:=by rw[hf _ _ spz];simp[go_sem]
   have hB1:Below w.heap.size w w1:=blA;have ik:Hid (J4 w1 (w.heap.size+2) (.slice ra ms.length rc) ms):=aP.le spz;have hz2:w.heap.size+2<=w1.heap.size:=omz
   clear hc hf aP hb1
   go_region_law (go_simp;go_at_call 72;refine(H2 _ (by exact hB1.drew)).mono ?_;rintro e w2 ⟨u,rfl,g5,hb2⟩;obtain⟨a5,c5,hu5⟩:=Af g5;subst hu5;have hb5:=((Below.refl w1.heap.size w1).drew).trans hb2;have mQ:Hid (w2.ownsRow w1.heap.size 86 3 (.slice a5 e.args.length c5) e.args.length (Cb e.args)):=g5;clear g5 hb2;have hzc:=A37 hza hb5.size;have hzd:=A37 hzb hb5.size;have y0:=(hb5.cell (p:=⟨w.heap.size,0,none⟩) hza).trans q0;have y1:=(hb5.cell (p:=⟨w.heap.size,1,none⟩) hza).trans q1;have y2:=(hb5.cell (p:=⟨w.heap.size,2,none⟩) hza).trans q2;have y3:=(hb5.cell (p:=⟨w.heap.size,3,none⟩) hza).trans q3;have z0:=(hb5.cell (p:=⟨w.heap.size+1,0,none⟩) hzb).trans su;have z1:=(hb5.cell (p:=⟨w.heap.size+1,1,none⟩) hzb).trans ry;have z2:=(hb5.cell (p:=⟨w.heap.size+1,2,none⟩) hzb).trans ru;have z3:=(hb5.cell (p:=⟨w.heap.size+1,3,none⟩) hzb).trans rq;have f0:=(hb5.frozen (p:=⟨w.heap.size+1,0,none⟩) hzb).trans v0;have f1:=(hb5.frozen (p:=⟨w.heap.size+1,1,none⟩) hzb).trans v1;have f2:=(hb5.frozen (p:=⟨w.heap.size+1,2,none⟩) hzb).trans v2;have f3:=(hb5.frozen (p:=⟨w.heap.size+1,3,none⟩) hzb).trans v3)
   all_goals
    try go_wp2
    refine bodyPost_ret (v:=.agg #[.int .i64 k, .int .i64 e.op, .slice a5 e.args.length c5, .slice ra ms.length rc]) (by simp[results,Tryz.results74,go_sem,z0,z1,z2,z3]) rfl ⟨⟨k,e.op,e.args,a5,c5,ra,rc,ms,rfl,?_,by rw[Ah.net_eq,aH.out]⟩,?_⟩
    ·refine Ik.le (base:=w.heap.size+2) ?_ omz
     have hmo:=(ik.below hb5).net k e.op e.args (Joins.ownsRow_le mQ hz2) (λx hx=>(Ef (n:=w1.heap.size) (λj hj=>(ik.lt x hx j hj).2) (λj hj=>(mQ.lt j hj).1)).symm);exact Ik.setO4 hmo (λx hx e=>by have:=(hmo.1.lt _ x hx _ e).1;omega)
    ·have hB2:=hB1.trans (hb5.mono hB1.size)
     exact blA
end Go.Proofs.YtbfljjcnbbmoaaaGreatDoor
