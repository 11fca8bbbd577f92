import Derived.Test.YtbfljjcnbbmoaaaGreatDoorS33
namespace Stil
theorem As6 (kids:List Arm) (j:Nat) (h:j<kids.length):((kids.mapIdx (λi a=>Ig kids.length i a)).take (j+1)).flatten=((kids.mapIdx (λi a=>Ig kids.length i a)).take j).flatten++(Em kids.length j++(En kids[j].net++Ej kids[j])):=by
 rw[A4w (by simpa using h),List.flatten_append];simp[Ig,Aus]
end Stil
namespace Go.Proofs.YtbfljjcnbbmoaaaGreatDoor
open Stil
open Go.RowKit Go.Sort Go.BigFrame
def A3d (f:FuncId) (x:Stil.Arm) (is:List Stil.Ht):Prop:=∀(av nv cv kv:Value) (w:World),Xe w av x.net.one.args->Yh w nv x.net.kids->U5 w cv x.coils->Aaj w kv x.kids->
 Calls Tryz.prog f #[.agg #[.int .i64 x.net.kind, .int .i64 x.net.one.op,av,nv,cv,kv]] w λe w'=>∃(a:Option Addr) (c:Nat) (ms:List MI),e=.returned (.slice a ms.length c)/\ms.map MI.inst=is/\Lm w' w.heap.size (.slice a ms.length c) ms/\Below w.heap.size w w'
theorem A06 {w w1:World} {base b1:Nat} {v:Value} {ms:List MI} {m:MI} (h:Lm w base v ms) (hm:EOk w1 b1 m.e) (h1:w.heap.size<=b1) (hb:base<=w.heap.size):EOk w1 base m.e/\Aside v m.e.av:=
 ⟨Joins.ownsRow_le hm (by omega),Eb (n:=w.heap.size) (λk hk=>(h.1.lt k hk).2) (λk hk=>A4p h1 (hm.lt k hk).1)⟩
set_option maxHeartbeats 8000000 in
set_option maxRecDepth 100000 in
theorem s_tail (a:Stil.Arm):Gg a->C9 a->A7 a<=400->A3d 19 a (Ej a):=by
 induction a using Fz with
 | h n cs kids ih=>
  intro hfi hft hs av nv cv kv w hav hnv hcv hkv;simp only at hav hnv hcv hkv;have hlen:=Amu _ hfi;rw[Dp] at hs hlen;obtain⟨_,hkfi⟩:=(Gt _ _ _).1 hfi;obtain⟨_,_,hcf,_,hkft⟩:=(Ee _ _ _).1 hft;have hks:∀x∈kids,A7 x<=400:=λx hx=>by have:A7 x<=Hr kids:=Ew A7 kids x hx;omega
  have hkl:kids.length<=400:=by have:=Rz kids;omega
  have hcl:cs.length<=400:=by omega
  have IH:=hid (λx hx=>ih x hx (hkfi x hx) (hkft x hx) (hks x hx));have HBE:Hid (∀x∈kids,Awc 40 x.net (En x.net)):=by
   intro x hx;have h1:=hkfi x hx;have h2:=hks x hx;have h3:=hkft x hx;obtain⟨xn,xc,xk⟩:=x;rw[Dp] at h2;exact Aww xn ((Gt _ _ _).1 h1).1 ((Ee _ _ _).1 h3).1 (by omega)
  have HAK:=hid (λW (h:Below w.heap.size w W)=>hkv.below h);have HCE:=hid (λW (h:Below w.heap.size w W)=>(hcv.below h).at);have HCF:=hid (λx hx=>(hcf x hx).2.1);have HCO:=hid (λe he av W h=>Atc e av W h (hcf e he).2.1);rw[Tn] at hlen ⊢;have HTOT:Hid (∀(j:Nat) (ms:List MI),ms.map MI.inst=Ic cs++((kids.mapIdx (λi a=>Ig kids.length i a)).take j).flatten->ms.length<=800):=by
   intro j ms h;rw[<-A4t (f:=MI.inst),h];have h2:((kids.mapIdx (λi a=>Ig kids.length i a)).take j).flatten.length<=(kids.mapIdx (λi a=>Ig kids.length i a)).flatten.length:=by
    conv=>rhs;rw[<-List.take_append_drop j (kids.mapIdx (λi a=>Ig kids.length i a)),List.flatten_append,A4d]
    omega
   rw[A4d] at hlen ⊢;omega
  obtain⟨p0,r0,rfl,hz0⟩:=hav.shape;obtain⟨p1,r1,rfl,hz1,_⟩:=hnv.shape;obtain⟨p2,r2,rfl,hz2⟩:=hcv.shape;obtain⟨p3,r3,rfl,hz3,_⟩:=hkv.shape;clear hz0 hz1 hz2 hz3 ih hks hav hnv hcv hkv hkfi hfi hft hcf hkft hlen;go_enter Tryz.func19,Tryz.ntmps19
  go_wp2
  obtain⟨W0,hW0⟩:∃W,W=w.alloc (.cells #[.int .i64 n.kind, .int .i64 n.one.op, .slice p0 n.one.args.length r0, .slice p1 n.kids.length r1, .slice p2 cs.length r2, .slice p3 kids.length r3] 55):=⟨_,rfl⟩
  rw[<-hW0];have hsz0:W0.heap.size=w.heap.size+1:=by rw[hW0];simp
  have hbW0:Below w.heap.size w W0:=by rw[hW0];exact Aa _ _
  have y40:W0.cell? ⟨w.heap.size,4,none⟩=some (.slice p2 cs.length r2):=by rw[hW0];simp[go_sem]
  have y50:W0.cell? ⟨w.heap.size,5,none⟩=some (.slice p3 kids.length r3):=by rw[hW0];simp[go_sem]
  clear hW0;have HS0:=hid hsz0;obtain⟨W,hW⟩:∃W,W=W0.alloc (.cells #[] 58):=⟨_,rfl⟩
  rw[<-hW];have HRW:Hid (Lm W (w.heap.size+1) (.slice (some ⟨w.heap.size+1,0,none⟩) 0 0) []):=by
   rw[hW,<-hsz0];exact⟨World.ownsRow_lit W0 #[] 0 (A4i _) (by unfold maxLen;omega) rfl,λx hx=>by cases hx⟩
  have hbW1:Below (w.heap.size+1) W0 W:=by rw[hW];exact(Aa W0 _).mono (by omega)
  have hbW:=hbW0.trans (hbW1.mono (by omega));have hlW:w.heap.size<W.heap.size:=by have:=hbW1.size;omega
  have y4:=(World.cell?_of_block (a:=⟨w.heap.size,4,none⟩) (hbW1.block _ (by simp))).trans y40;have y5:=(World.cell?_of_block (a:=⟨w.heap.size,5,none⟩) (hbW1.block _ (by simp))).trans y50;clear hW y40 y50 hbW0 hbW1 hsz0 HS0;go_loopw [3,4] (λd i wr=>∃(j:Nat) (ra:Option Addr) (rc:Nat) (ls:List MI),j<=cs.length/\i=.int .i64 (j:Int)/\d=.slice ra ls.length rc/\ls.map MI.inst=Ic (cs.take j)/\Lm wr (w.heap.size+1) (.slice ra ls.length rc) ls/\Below (w.heap.size+1) W wr) (λ_ i _=>cs.length - (intOf i).toNat)
  case atStart=>exact⟨0,_,_,[],by omega,rfl,rfl,by simp[Ic],HRW.out,Below.refl _ _⟩
  case round=>
   obtain⟨j,ra,rc,ls,hj,rfl,rfl,hls,hlr,hb⟩:=hrel;have HLS:=hid hls;have HLR:=hid hlr;have hll:ls.length=j:=by
    have:=congrArg List.length hls
    rw[A4t,Ic,A4t,List.length_take] at this;omega
   have HLN:=hid hll;have hln:ls.length<=400:=by omega
   clear hls hlr HRW hll;have hbw:=hbW.trans (hb.mono (by omega));have hzr:=A4c hlW hb.size;have y4r:=(World.cell?_of_block (a:=⟨w.heap.size,4,none⟩) (hb.block _ (by simp))).trans y4;by_cases hlt:j<cs.length
   ·obtain⟨pa,pc,hpe,hpc⟩:=HCE.out wr hbw
    simp only[Value.slice.injEq,true_and] at hpe;obtain⟨rfl,rfl⟩:=hpe;obtain⟨b2,o2,hbo,hbl,hn⟩:=hpc j hlt;subst hbo;obtain⟨x0,av,x1,hav⟩:=hn;have HI:=hid (λV h=>HCO.out cs[j] (A4k hlt) av V (hav.below h));have HTS:Hid (Ic (cs.take (j+1))=Ic (cs.take j)++[⟨10,cs[j]⟩]):=by
     show _=_
     unfold Ic;rw[A4w hlt,A4r];rfl
    obtain⟨y,hy⟩:∃y,y=cs[j]:=⟨_,rfl⟩
    rw[<-hy] at HI HTS x0 hav;obtain⟨q0',s0',rfl,_⟩:=hav;have hj2:(j:Int)<(cs.length:Int):=by omega
    clear hy hpc HCO HCE IH HBE HAK HTOT HCF
    go_wp2_with (first | (go_at_call 38;refine(HI.out _ (Below.refl _ _)).mono ?_;rintro e w2 ⟨a2,c2,rfl,ho2,hb2⟩;have HO2:=hid ho2;clear ho2) | (at_builtin;refine E8 (m:=⟨10,⟨y.op,y.args, .slice a2 y.args.length c2⟩⟩) rfl _ _ rfl (w.heap.size+1) ra rc ls rfl rfl (HLR.out.below hb2) (A06 (m:=⟨10,⟨y.op,y.args, .slice a2 y.args.length c2⟩⟩) HLR.out HO2.out (A4i _) (by omega)) (by omega) (by have:=hb2.size;omega) ?_;intro a3 c3 w3 hr3 hb3;have HR3:=hid hr3;clear hr3;have hbw3:=hb.trans ((hb2.mono (by omega)).trans hb3)))
    exact⟨⟨j+1,a3,c3,ls++[⟨10,⟨y.op,y.args, .slice a2 y.args.length c2⟩⟩],by omega,by go_num,by rw[A4d];rfl,by rw[A4r,HLS.out,HTS.out];rfl,by rw[A4d];exact HR3.out,hbw3⟩,by simp[intOf];omega⟩
   ·obtain rfl:j=cs.length:=by omega
    have hmn:=HLS.out;rw[List.take_length] at hmn;have HM2:=hid hmn;have y5r:=(World.cell?_of_block (a:=⟨w.heap.size,5,none⟩) (hb.block _ (by simp))).trans y5;clear hmn HLS y5 HCE HCO HCF HLN;obtain⟨wk,hwk⟩:∃wk:World,wk=wr:=⟨wr,rfl⟩
    subst hwk
    go_wp2
    go_loopw [3,6] (λd i wr=>∃(j:Nat) (ra:Option Addr) (rc:Nat) (ls:List MI),j<=kids.length/\i=.int .i64 (j:Int)/\d=.slice ra ls.length rc/\ls.map MI.inst=Ic cs++((kids.mapIdx (λi a=>Ig kids.length i a)).take j).flatten/\Lm wr (w.heap.size+1) (.slice ra ls.length rc) ls/\Below (w.heap.size+1) wk wr) (λ_ i _=>kids.length - (intOf i).toNat)
    case atStart=>exact⟨0,ra,rc,ls,by omega,rfl,rfl,by rw[HM2.out];simp,HLR.out,Below.refl _ _⟩
    case round=>
     clear HLR HM2;obtain⟨wo,hwo⟩:∃wo:World,wo=wk:=⟨_,rfl⟩
     clear hwo wo;have hbk:=hbw;have hzk:=hzr;have hbkk:=hb;clear hbw hzr hb;obtain⟨j,ra,rc,ls,hj,rfl,rfl,hls,hlr,hb⟩:=hrel;have HLS:=hid hls;have HLR:=hid hlr;have hln:=HTOT.out j ls hls;clear hls hlr;have hbw:=hbk.trans (hb.mono (by omega));have hzr:=A4c hzk hb.size;have y5w:=(World.cell?_of_block (a:=⟨w.heap.size,5,none⟩) (hb.block _ (by simp))).trans y5r;by_cases hlt:j<kids.length
     ·obtain⟨pa,pc,hpe,_,hpc⟩:=(HAK.out w (Below.refl _ _)).shape
      simp only[Value.slice.injEq,true_and] at hpe;obtain⟨rfl,rfl⟩:=hpe;obtain⟨b,o,hbo,hbl,hn⟩:=hpc j hlt;subst hbo;obtain⟨hna,cv,kv,x4,x5,hcv,hkv⟩:=hn.open;obtain⟨x0,x1,av,nv,x2,x3,hav,hnv⟩:=hna.open;have HI:Hid (∀V0,Below w.heap.size w V0->∀{V},Below V0.heap.size V0 V->Calls Tryz.prog 19 #[.agg #[.int .i64 kids[j].net.kind, .int .i64 kids[j].net.one.op,av,nv,cv,kv]] V λe w'=>∃(a:Option Addr) (c:Nat) (ms:List MI),e=.returned (.slice a ms.length c)/\ms.map MI.inst=Ej kids[j]/\Lm w' V.heap.size (.slice a ms.length c) ms/\Below V.heap.size V w'):=λV0 h0 V h=>IH.out kids[j] (A4k hlt) av nv cv kv V ((hav.below h0).below h) ((hnv.below h0).below h) ((hcv.below h0).below h) ((hkv.below h0).below h)
      have HBJ:Hid (∀V0,Below w.heap.size w V0->∀{V},Below V0.heap.size V0 V->Calls Tryz.prog 40 #[.agg #[.int .i64 kids[j].net.kind, .int .i64 kids[j].net.one.op,av,nv]] V λe w'=>∃(a:Option Addr) (c:Nat) (ms:List MI),e=.returned (.slice a ms.length c)/\ms.map MI.inst=En kids[j].net/\Lm w' V.heap.size (.slice a ms.length c) ms/\Below V.heap.size V w'):=λV0 h0 V h=>HBE.out kids[j] (A4k hlt) av nv V ((hav.below h0).below h) ((hnv.below h0).below h)
      have HTS:=As6 kids j hlt;have HLLX:Hid (∀L:List MI,L.map MI.inst=ls.map MI.inst++Em kids.length j->∀kb kt:List MI,kb.map MI.inst=En kids[j].net->(L.length+kb.length<=1000000)/\(kt.map MI.inst=Ej kids[j]->((L++kb).length+kt.length<=1000000)/\((L++kb)++kt).map MI.inst=Ic cs++((kids.mapIdx (λi a=>Ig kids.length i a)).take (j+1)).flatten)):=by
       intro L hL kb kt hkb;have e0:∀kt:List MI,kt.map MI.inst=Ej kids[j]->((L++kb)++kt).map MI.inst=Ic cs++((kids.mapIdx (λi a=>Ig kids.length i a)).take (j+1)).flatten:=λkt hkt=>by rw[A4r,A4r,hL,HLS.out,hkb,hkt,HTS];simp only[A41]
       refine⟨?_,λhkt=>⟨?_,e0 kt hkt⟩⟩
       ·obtain⟨kt',hkt'⟩:∃kt':List MI,kt'.map MI.inst=Ej kids[j]:=⟨(Ej kids[j]).map λi=>⟨i.code,⟨i.one.op,i.one.args, .slice none 0 0⟩⟩,by rw[List.map_map];exact(List.map_congr_left λi _=>rfl).trans (List.map_id _)⟩
        have:=HTOT.out _ _ (e0 kt' hkt')
        rw[A4d,A4d] at this;omega
       ·have:=HTOT.out _ _ (e0 kt hkt)
        rw[A4d] at this;omega
      clear HTS;obtain⟨x,hx⟩:∃x,x=kids[j]:=⟨_,rfl⟩
      rw[<-hx] at HI HBJ HLLX x0 x1 hav hnv hcv hkv;obtain⟨q0,s0,rfl,_⟩:=hav.shape;obtain⟨q1,s1,rfl,_,_⟩:=hnv.shape;obtain⟨q2,s2,rfl,_⟩:=hcv.shape;obtain⟨q3,s3,rfl,_,_⟩:=hkv.shape;have HSB:Hid (∀V,Below (w.heap.size+1) wr V->V.cell? ⟨w.heap.size,5,none⟩=some (.slice (some ⟨b,o,none⟩) kids.length r3)/\V.cell? ⟨b,o+j*6,none⟩=some (.int .i64 x.net.kind)/\V.cell? ⟨b,o+j*6+1,none⟩=some (.int .i64 x.net.one.op)/\V.cell? ⟨b,o+j*6+2,none⟩=some (.slice q0 x.net.one.args.length s0)/\V.cell? ⟨b,o+j*6+3,none⟩=some (.slice q1 x.net.kids.length s1)/\V.cell? ⟨b,o+j*6+4,none⟩=some (.slice q2 x.coils.length s2)/\V.cell? ⟨b,o+j*6+5,none⟩=some (.slice q3 x.kids.length s3)):=λV hV=>by
       have e0:V.heap[w.heap.size]?=wr.heap[w.heap.size]?:=hV.block _ (by omega);have e1:=(hV.block _ (by omega)).trans (hbw.block b hbl);exact⟨(World.cell?_of_block (a:=⟨w.heap.size,5,none⟩) e0).trans y5w,(World.cell?_of_block (a:=⟨b,_,none⟩) e1).trans x0,(World.cell?_of_block (a:=⟨b,_,none⟩) e1).trans x1,(World.cell?_of_block (a:=⟨b,_,none⟩) e1).trans x2,(World.cell?_of_block (a:=⟨b,_,none⟩) e1).trans x3,(World.cell?_of_block (a:=⟨b,_,none⟩) e1).trans x4,(World.cell?_of_block (a:=⟨b,_,none⟩) e1).trans x5⟩
      obtain⟨y5x,x0w,x1w,x2w,x3w,x4w,x5w⟩:=HSB.out wr (Below.refl _ _);have hj2:(j:Int)<(kids.length:Int):=by omega
      clear hx hn hna hpc hav hnv hcv hkv x0 x1 x2 x3 x4 x5 HTOT IH HBE HAK y5w y5r hbl;have HWJ:Hid (IntKind.i64.wrap ((kids.length:Int) - 1)=(kids.length:Int) - 1):=by show _=_;rw[IntKind.wrap_i64];omega
      by_cases hn1:kids.length=1
      ·have e1:((kids.length:Int)==1)=true:=by simp[hn1]
       have HFO:Hid (Em kids.length j=[]):=by show _=_;simp[Em,hn1]
       have HLL:=hid (HLLX.out ls (by rw[HFO.out];simp[HLS.out]));clear HLLX;clear hn1 HWJ
       go_wp2_with (first | (at_builtin;refine D6 rfl _ _ rfl (w.heap.size+1) w3.heap.size w3 a3 c3 (ls++kb) kt a4 c4 (by first | rfl | (simp[Act.eval];done) | (simp[Act.eval,A4d];omega)) rfl HR3.out HRT.out hb4 (A4i _) ((HLL.out kb kt HKB.out).2 HKT.out).1 (by omega) ?_;intro a5 c5 w5 hr5 hb5;have HR5:=hid hr5;clear hr5;have hbw5:=hb.trans (hbw3.trans ((hb4.mono (by omega)).trans hb5))) | (go_at_call 19;refine(HI.out w3 hbw3w (Below.refl _ _)).mono ?_;rintro e w4 ⟨a4,c4,kt,rfl,hkt,hr4,hb4⟩;have HKT:=hid hkt;have HRT:=hid hr4;clear hkt hr4) | (at_builtin;refine D6 rfl _ _ rfl (w.heap.size+1) wr.heap.size wr ra rc ls kb a2 c2 (by first | rfl | (simp[Act.eval];done) | (simp[Act.eval,A4d];omega)) rfl HLR.out HRB.out hb2 (A4i _) (HLL.out kb [] HKB.out).1 (by omega) ?_;intro a3 c3 w3 hr3 hb3;have HR3:Hid (Lm w3 (w.heap.size+1) (.slice a3 (ls++kb).length c3) (ls++kb)):=(by rw[A4d];exact hr3);clear hr3;have hbw3:=((Below.refl (w.heap.size+1) wr)).trans ((hb2.mono (by omega)).trans hb3);have hz3:=A4c hzr hbw3.size;have hbw3w:=hbw.trans (hbw3.mono (by omega));obtain⟨y53,x03,x13,x23,x33,x43,x53⟩:=HSB.out w3 hbw3) | (go_at_call 40;refine(HBJ.out wr (hbw.trans (((Below.refl (w.heap.size+1) wr)).mono (by omega))) (Below.refl _ _)).mono ?_;rintro e w2 ⟨a2,c2,kb,rfl,hkb,hr2,hb2⟩;have HKB:=hid hkb;have HRB:=hid hr2;clear hkb hr2))
       exact⟨⟨j+1,a5,c5,(ls++kb)++kt,by omega,by go_num,by rw[Value.slice.injEq];refine⟨rfl,?_,rfl⟩;simp only[A4d];try omega,((HLL.out kb kt HKB.out).2 HKT.out).2,by rw[A4d];exact HR5.out,hbw5⟩,by simp[intOf];omega⟩
      have e1:((kids.length:Int)==1)=false:=by rw[A5f];omega
      by_cases hj0:j=0
      ·have e2:((j:Int)==0)=true:=by simp[hj0]
       have HFO:Hid (Em kids.length j=[Md 7]):=by show _=_;simp[Em,hn1,hj0]
       have HLL:=hid (HLLX.out (ls++[mi0 7]) (by rw[HFO.out];simp[HLS.out,MI.inst,mi0,Cm.elem,Md]));clear HLLX;clear hn1 hj0 HWJ
       go_wp2_with (first | (at_builtin;refine D6 rfl _ _ rfl (w.heap.size+1) w3.heap.size w3 a3 c3 ((ls++[mi0 7])++kb) kt a4 c4 (by first | rfl | (simp[Act.eval];done) | (simp[Act.eval];omega)) rfl HR3.out HRT.out hb4 (A4i _) ((HLL.out kb kt HKB.out).2 HKT.out).1 (by omega) ?_;intro a5 c5 w5 hr5 hb5;have HR5:=hid hr5;clear hr5;have hbw5:=hb.trans (hbw3.trans ((hb4.mono (by omega)).trans hb5))) | (go_at_call 19;refine(HI.out w3 hbw3w (Below.refl _ _)).mono ?_;rintro e w4 ⟨a4,c4,kt,rfl,hkt,hr4,hb4⟩;have HKT:=hid hkt;have HRT:=hid hr4;clear hkt hr4) | (at_builtin;refine D6 rfl _ _ rfl (w.heap.size+1) wf.heap.size wf af cf (ls++[mi0 7]) kb a2 c2 (by first | rfl | (simp[Act.eval];done) | (simp[Act.eval,A4d];omega)) rfl HRF.out HRB.out hb2 (A4i _) (HLL.out kb [] HKB.out).1 (by omega) ?_;intro a3 c3 w3 hr3 hb3;have HR3:Hid (Lm w3 (w.heap.size+1) (.slice a3 ((ls++[mi0 7])++kb).length c3) ((ls++[mi0 7])++kb)):=(by rw[A4d];exact hr3);clear hr3;have hbw3:=(hbf2).trans ((hb2.mono (by omega)).trans hb3);have hz3:=A4c hzr hbw3.size;have hbw3w:=hbw.trans (hbw3.mono (by omega));obtain⟨y53,x03,x13,x23,x33,x43,x53⟩:=HSB.out w3 hbw3) | (go_at_call 40;refine(HBJ.out wf (hbw.trans ((hbf2).mono (by omega))) (Below.refl _ _)).mono ?_;rintro e w2 ⟨a2,c2,kb,rfl,hkb,hr2,hb2⟩;have HKB:=hid hkb;have HRB:=hid hr2;clear hkb hr2) | (at_builtin;refine E8 (m:=mi0 7) rfl _ _ rfl (w.heap.size+1) ra rc ls rfl rfl HLR.out (Xw _ _ _ _) (by omega) (by omega) ?_;intro af cf wf hrf hbf;have HRF:Hid (Lm wf (w.heap.size+1) (.slice af (ls++[mi0 7]).length cf) (ls++[mi0 7])):=(by rw[A4d];exact hrf);clear hrf;have hbf2:=hbf;have hzf:=A4c hzr hbf2.size;obtain⟨y5f,x0f,x1f,x2f,x3f,x4f,x5f⟩:=HSB.out wf hbf2))
       exact⟨⟨j+1,a5,c5,((ls++[mi0 7])++kb)++kt,by omega,by go_num,by rw[Value.slice.injEq];refine⟨rfl,?_,rfl⟩;simp only[A4d,A4e,A4f];try omega,((HLL.out kb kt HKB.out).2 HKT.out).2,by rw[A4d];exact HR5.out,hbw5⟩,by simp[intOf];omega⟩
      have e2:((j:Int)==0)=false:=by rw[A5f];omega
      have hwj:=HWJ.out;by_cases hjl:j+1=kids.length
      ·have e3:((j:Int)==(kids.length:Int) - 1)=true:=by rw[beq_iff_eq];omega
       have HFO:Hid (Em kids.length j=[Md 9]):=by show _=_;simp[Em,hn1,hj0,hjl]
       have HLL:=hid (HLLX.out (ls++[mi0 9]) (by rw[HFO.out];simp[HLS.out,MI.inst,mi0,Cm.elem,Md]));clear HLLX;clear hn1 hj0 hjl HWJ
       go_wp2_with (first | (at_builtin;refine D6 rfl _ _ rfl (w.heap.size+1) w3.heap.size w3 a3 c3 ((ls++[mi0 9])++kb) kt a4 c4 (by first | rfl | (simp[Act.eval];done) | (simp[Act.eval];omega)) rfl HR3.out HRT.out hb4 (A4i _) ((HLL.out kb kt HKB.out).2 HKT.out).1 (by omega) ?_;intro a5 c5 w5 hr5 hb5;have HR5:=hid hr5;clear hr5;have hbw5:=hb.trans (hbw3.trans ((hb4.mono (by omega)).trans hb5))) | (go_at_call 19;refine(HI.out w3 hbw3w (Below.refl _ _)).mono ?_;rintro e w4 ⟨a4,c4,kt,rfl,hkt,hr4,hb4⟩;have HKT:=hid hkt;have HRT:=hid hr4;clear hkt hr4) | (at_builtin;refine D6 rfl _ _ rfl (w.heap.size+1) wf.heap.size wf af cf (ls++[mi0 9]) kb a2 c2 (by first | rfl | (simp[Act.eval];done) | (simp[Act.eval,A4d];omega)) rfl HRF.out HRB.out hb2 (A4i _) (HLL.out kb [] HKB.out).1 (by omega) ?_;intro a3 c3 w3 hr3 hb3;have HR3:Hid (Lm w3 (w.heap.size+1) (.slice a3 ((ls++[mi0 9])++kb).length c3) ((ls++[mi0 9])++kb)):=(by rw[A4d];exact hr3);clear hr3;have hbw3:=(hbf2).trans ((hb2.mono (by omega)).trans hb3);have hz3:=A4c hzr hbw3.size;have hbw3w:=hbw.trans (hbw3.mono (by omega));obtain⟨y53,x03,x13,x23,x33,x43,x53⟩:=HSB.out w3 hbw3) | (go_at_call 40;refine(HBJ.out wf (hbw.trans ((hbf2).mono (by omega))) (Below.refl _ _)).mono ?_;rintro e w2 ⟨a2,c2,kb,rfl,hkb,hr2,hb2⟩;have HKB:=hid hkb;have HRB:=hid hr2;clear hkb hr2) | (at_builtin;refine E8 (m:=mi0 9) rfl _ _ rfl (w.heap.size+1) ra rc ls rfl rfl HLR.out (Xw _ _ _ _) (by omega) (by omega) ?_;intro af cf wf hrf hbf;have HRF:Hid (Lm wf (w.heap.size+1) (.slice af (ls++[mi0 9]).length cf) (ls++[mi0 9])):=(by rw[A4d];exact hrf);clear hrf;have hbf2:=hbf;have hzf:=A4c hzr hbf2.size;obtain⟨y5f,x0f,x1f,x2f,x3f,x4f,x5f⟩:=HSB.out wf hbf2))
       exact⟨⟨j+1,a5,c5,((ls++[mi0 9])++kb)++kt,by omega,by go_num,by rw[Value.slice.injEq];refine⟨rfl,?_,rfl⟩;simp only[A4d,A4e,A4f];try omega,((HLL.out kb kt HKB.out).2 HKT.out).2,by rw[A4d];exact HR5.out,hbw5⟩,by simp[intOf];omega⟩
      have e3:((j:Int)==(kids.length:Int) - 1)=false:=by rw[A5f];omega
      have HFO:Hid (Em kids.length j=[Md 8]):=by show _=_;simp[Em,hn1,hj0,hjl]
      have HLL:=hid (HLLX.out (ls++[mi0 8]) (by rw[HFO.out];simp[HLS.out,MI.inst,mi0,Cm.elem,Md]));clear HLLX;clear hn1 hj0 hjl HWJ
      go_wp2_with (first | (at_builtin;refine D6 rfl _ _ rfl (w.heap.size+1) w3.heap.size w3 a3 c3 ((ls++[mi0 8])++kb) kt a4 c4 (by first | rfl | (simp[Act.eval];done) | (simp[Act.eval];omega)) rfl HR3.out HRT.out hb4 (A4i _) ((HLL.out kb kt HKB.out).2 HKT.out).1 (by omega) ?_;intro a5 c5 w5 hr5 hb5;have HR5:=hid hr5;clear hr5;have hbw5:=hb.trans (hbw3.trans ((hb4.mono (by omega)).trans hb5))) | (go_at_call 19;refine(HI.out w3 hbw3w (Below.refl _ _)).mono ?_;rintro e w4 ⟨a4,c4,kt,rfl,hkt,hr4,hb4⟩;have HKT:=hid hkt;have HRT:=hid hr4;clear hkt hr4) | (at_builtin;refine D6 rfl _ _ rfl (w.heap.size+1) wf.heap.size wf af cf (ls++[mi0 8]) kb a2 c2 (by first | rfl | (simp[Act.eval];done) | (simp[Act.eval,A4d];omega)) rfl HRF.out HRB.out hb2 (A4i _) (HLL.out kb [] HKB.out).1 (by omega) ?_;intro a3 c3 w3 hr3 hb3;have HR3:Hid (Lm w3 (w.heap.size+1) (.slice a3 ((ls++[mi0 8])++kb).length c3) ((ls++[mi0 8])++kb)):=(by rw[A4d];exact hr3);clear hr3;have hbw3:=(hbf2).trans ((hb2.mono (by omega)).trans hb3);have hz3:=A4c hzr hbw3.size;have hbw3w:=hbw.trans (hbw3.mono (by omega));obtain⟨y53,x03,x13,x23,x33,x43,x53⟩:=HSB.out w3 hbw3) | (go_at_call 40;refine(HBJ.out wf (hbw.trans ((hbf2).mono (by omega))) (Below.refl _ _)).mono ?_;rintro e w2 ⟨a2,c2,kb,rfl,hkb,hr2,hb2⟩;have HKB:=hid hkb;have HRB:=hid hr2;clear hkb hr2) | (at_builtin;refine E8 (m:=mi0 8) rfl _ _ rfl (w.heap.size+1) ra rc ls rfl rfl HLR.out (Xw _ _ _ _) (by omega) (by omega) ?_;intro af cf wf hrf hbf;have HRF:Hid (Lm wf (w.heap.size+1) (.slice af (ls++[mi0 8]).length cf) (ls++[mi0 8])):=(by rw[A4d];exact hrf);clear hrf;have hbf2:=hbf;have hzf:=A4c hzr hbf2.size;obtain⟨y5f,x0f,x1f,x2f,x3f,x4f,x5f⟩:=HSB.out wf hbf2))
      exact⟨⟨j+1,a5,c5,((ls++[mi0 8])++kb)++kt,by omega,by go_num,by rw[Value.slice.injEq];refine⟨rfl,?_,rfl⟩;simp only[A4d,A4e,A4f];try omega,((HLL.out kb kt HKB.out).2 HKT.out).2,by rw[A4d];exact HR5.out,hbw5⟩,by simp[intOf];omega⟩
     ·obtain rfl:j=kids.length:=by omega
      have hmn:=HLS.out;rw[A48 (by simp)] at hmn;have HM3:=hid hmn;clear hmn
      go_wp2
      go_ret;exact⟨ra,rc,ls,rfl,HM3.out,HLR.out.le (by omega),hbw⟩
end Go.Proofs.YtbfljjcnbbmoaaaGreatDoor
