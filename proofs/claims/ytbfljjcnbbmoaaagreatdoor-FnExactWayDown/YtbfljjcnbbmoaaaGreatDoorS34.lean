import Derived.Test.YtbfljjcnbbmoaaaGreatDoorS33
namespace Stil
theorem Atp (kids:List Arm)(j:Nat)(h:j<kids.length):((kids.mapIdx (λi a=>Ip kids.length i a)).take (j+1)).flatten=((kids.mapIdx (λi a=>Ip kids.length i a)).take j).flatten++(Ez kids.length j++(E5 kids[j].net++Ey kids[j])):=by
 rw[A4r (by simpa using h),List.flatten_append];simp[Ip,Avd]
end Stil
namespace Go.Proofs.YtbfljjcnbbmoaaaGreatDoor
open Stil
open Go.RowKit Go.Sort Go.BigFrame
def A3c (f:FuncId)(x:Stil.Arm)(is:List Stil.Rl):Prop:=∀(av nv cv kv:Value) (w:World),Rh w av x.net.one.args->Kt w nv x.net.kids->Su w cv x.coils->Ri w kv x.kids->
 Calls Tryz.prog f #[.agg #[.int .i64 x.net.kind, .int .i64 x.net.one.op,av,nv,cv,kv]] w λe w'=>∃(a:Option Addr) (c:Nat) (ms:List MI),e=.returned (.slice a ms.length c)/\ms.map MI.inst=is/\Ku w' w.heap.size (.slice a ms.length c) ms/\Below w.heap.size w w'
theorem A1b {w w1:World}{base b1:Nat}{v:Value}{ms:List MI}{m:MI}(h:Ku w base v ms)(hm:EOk w1 b1 m.e)(h1:w.heap.size<=b1)(hb:base<=w.heap.size):EOk w1 base m.e/\Aside v m.e.av:=
 ⟨Joins.ownsRow_le hm omz,Ef (n:=w.heap.size) (λk hk=>(h.1.lt k hk).2) (λk hk=>A4k h1 (hm.lt k hk).1)⟩
set_option maxHeartbeats 8000000 in
set_option maxRecDepth 100000 in
theorem s_tail (a:Stil.Arm):Fq a->Ci a->Ak a<=400->A3c 19 a (Ey a):=by
 induction a using Fg with
 | h n cs kids ih=>
  intro hfi hft hs av nv cv kv w hav hnv hcv hkv;simp only at hav hnv hcv hkv;have hlen:=Ang _ hfi;rw[Cc] at hs hlen;obtain⟨_,eU⟩:=(Eu _ _ _).1 hfi;obtain⟨_,_,hcf,_,uM⟩:=(Em _ _ _).1 hft;have hks:∀x∈kids,Ak x<=400:=λx hx=>by have:Ak x<=Hq kids:=D9 Ak kids x hx;omega
  have hkl:kids.length<=400:=by have:=Lc kids;omega
  have hcl:cs.length<=400:=omz
  have IH:=hid (λx hx=>ih x hx (eU x hx) (uM x hx) (hks x hx));have HBE:Hid (∀x∈kids,Aw1 40 x.net (E5 x.net)):=by
   intro x hx;have h1:=eU x hx;have h2:=hks x hx;have h3:=uM x hx;obtain⟨xn,xc,xk⟩:=x;rw[Cc] at h2;exact Axi xn ((Eu _ _ _).1 h1).1 ((Em _ _ _).1 h3).1 omz
  have iD:=hid (λW (h:Below w.heap.size w W)=>hkv.below h);have jv:=hid (λW (h:Below w.heap.size w W)=>(hcv.below h).at);have wR:=hid (λx hx=>(hcf x hx).2.1);have jr:=hid (λe he av W h=>Atv e av W h (hcf e he).2.1);rw[Ur] at hlen ⊢;have dD:Hid (∀(j:Nat) (ms:List MI),ms.map MI.inst=Il cs++((kids.mapIdx (λi a=>Ip kids.length i a)).take j).flatten->ms.length<=800):=by
   intro j ms h;rw[<-A4o (f:=MI.inst),h];have h2:((kids.mapIdx (λi a=>Ip kids.length i a)).take j).flatten.length<=(kids.mapIdx (λi a=>Ip kids.length i a)).flatten.length:=by
    conv=>rhs;rw[<-List.take_append_drop j (kids.mapIdx (λi a=>Ip kids.length i a)),List.flatten_append,A38]
    omega
   rw[A38] at hlen ⊢;omega
  obtain⟨p0,r0,rfl,hz0⟩:=hav.shape;obtain⟨p1,r1,rfl,hz1,_⟩:=hnv.shape;obtain⟨p2,r2,rfl,hz2⟩:=hcv.shape;obtain⟨p3,r3,rfl,hz3,_⟩:=hkv.shape;clear hz0 hz1 hz2 hz3 ih hks hav hnv hcv hkv eU hfi hft hcf uM hlen;go_enter Tryz.func19,Tryz.ntmps19
  go_wp2
  obtain⟨W0,hW0⟩:∃W,W=w.alloc (.cells #[.int .i64 n.kind, .int .i64 n.one.op, .slice p0 n.one.args.length r0, .slice p1 n.kids.length r1, .slice p2 cs.length r2, .slice p3 kids.length r3] 55):=⟨_,rfl⟩
  rw[<-hW0];have hsz0:W0.heap.size=w.heap.size+1:=by rw[hW0];simp
  have hbW0:Below w.heap.size w W0:=by rw[hW0];exact Aa _ _
  have y40:W0.cell? ⟨w.heap.size,4,none⟩=some (.slice p2 cs.length r2):=by rw[hW0];simp[go_sem]
  have y50:W0.cell? ⟨w.heap.size,5,none⟩=some (.slice p3 kids.length r3):=by rw[hW0];simp[go_sem]
  clear hW0;have HS0:=hid hsz0;obtain⟨W,hW⟩:∃W,W=W0.alloc (.cells #[] 58):=⟨_,rfl⟩
  rw[<-hW];have HRW:Hid (Ku W (w.heap.size+1) (.slice (some ⟨w.heap.size+1,0,none⟩) 0 0) []):=by
   rw[hW,<-hsz0];exact⟨World.ownsRow_lit W0 #[] 0 (A4d _) (by unfold maxLen;omega) rfl,λx hx=>by cases hx⟩
  have hbW1:Below (w.heap.size+1) W0 W:=by rw[hW];exact(Aa W0 _).mono omz
  have hbW:=hbW0.trans (hbW1.mono omz);have kZ:w.heap.size<W.heap.size:=by have:=hbW1.size;omega
  have y4:=(World.cell?_of_block (a:=⟨w.heap.size,4,none⟩) (hbW1.block _ spz)).trans y40;have y5:=(World.cell?_of_block (a:=⟨w.heap.size,5,none⟩) (hbW1.block _ spz)).trans y50;clear hW y40 y50 hbW0 hbW1 hsz0 HS0;go_loopw [3,4] (λd i wr=>∃(j:Nat) (ra:Option Addr) (rc:Nat) (ls:List MI),j<=cs.length/\i=.int .i64 (j:Int)/\d=.slice ra ls.length rc/\ls.map MI.inst=Il (cs.take j)/\Ku wr (w.heap.size+1) (.slice ra ls.length rc) ls/\Below (w.heap.size+1) W wr) (λ_ i _=>cs.length - (intOf i).toNat)
  case atStart=>exact⟨0,_,_,[],omz,rfl,rfl,by simp[Il],HRW.out,Below.refl _ _⟩
  case round=>
   obtain⟨j,ra,rc,ls,hj,rfl,rfl,hls,hlr,hb⟩:=hrel;have iP:=hid hls;have iQ:=hid hlr;have hll:ls.length=j:=by
    have:=congrArg List.length hls
    rw[A4o,Il,A4o,List.length_take] at this;omega
   have fG:=hid hll;have hln:ls.length<=400:=omz
   clear hls hlr HRW hll;have hbw:=hbW.trans (hb.mono omz);have jR:=A37 kZ hb.size;have y4r:=(World.cell?_of_block (a:=⟨w.heap.size,4,none⟩) (hb.block _ spz)).trans y4;by_cases hlt:j<cs.length
   ·obtain⟨pa,pc,hpe,hpc⟩:=jv wr hbw
    simp only[Value.slice.injEq,true_and] at hpe;obtain⟨rfl,rfl⟩:=hpe;obtain⟨b2,o2,gQ,hbl,hn⟩:=hpc j hlt;subst gQ;obtain⟨x0,av,x1,hav⟩:=hn;have HI:=hid (λV h=>jr cs[j] (A4f hlt) av V (hav.below h));have aT:Hid (Il (cs.take (j+1))=Il (cs.take j)++[⟨10,cs[j]⟩]):=by
     show _=_
     unfold Il;rw[A4r hlt,A4m];rfl
    obtain⟨y,hy⟩:∃y,y=cs[j]:=⟨_,rfl⟩
    rw[<-hy] at HI aT x0 hav;obtain⟨q0',s0',rfl,_⟩:=hav;have hj2:(j:Int)<(cs.length:Int):=omz
    clear hy hpc jr jv IH HBE iD dD wR
    go_wp2_with (first | (go_at_call 38;refine(HI _ (Below.refl _ _)).mono ?_;rintro e w2 ⟨a2,c2,rfl,ho2,hb2⟩;have rP:=hid ho2;clear ho2) | (at_builtin;refine F6 (m:=⟨10,⟨y.op,y.args, .slice a2 y.args.length c2⟩⟩) rfl _ _ rfl (w.heap.size+1) ra rc ls rfl rfl (iQ.below hb2) (A1b (m:=⟨10,⟨y.op,y.args, .slice a2 y.args.length c2⟩⟩) iQ rP (A4d _) omz) omz (by have:=hb2.size;omega) ?_;intro a3 c3 w3 hr3 hb3;have HR3:=hid hr3;clear hr3;have hbw3:=hb.trans ((hb2.mono omz).trans hb3)))
    exact⟨⟨j+1,a3,c3,ls++[⟨10,⟨y.op,y.args, .slice a2 y.args.length c2⟩⟩],omz,by go_num,by rw[A38];rfl,by rw[A4m,iP.out,aT.out];rfl,by rw[A38];exact HR3.out,hbw3⟩,by simp[intOf];omega⟩
   ·obtain rfl:j=cs.length:=by omega
    have hmn:=iP.out;rw[List.take_length] at hmn;have dF:=hid hmn;have tV:=(World.cell?_of_block (a:=⟨w.heap.size,5,none⟩) (hb.block _ spz)).trans y5;clear hmn iP y5 jv jr wR fG;obtain⟨wk,hwk⟩:∃wk:World,wk=wr:=⟨wr,rfl⟩
    subst hwk
    go_wp2
    go_loopw [3,6] (λd i wr=>∃(j:Nat) (ra:Option Addr) (rc:Nat) (ls:List MI),j<=kids.length/\i=.int .i64 (j:Int)/\d=.slice ra ls.length rc/\ls.map MI.inst=Il cs++((kids.mapIdx (λi a=>Ip kids.length i a)).take j).flatten/\Ku wr (w.heap.size+1) (.slice ra ls.length rc) ls/\Below (w.heap.size+1) wk wr) (λ_ i _=>kids.length - (intOf i).toNat)
    case atStart=>exact⟨0,ra,rc,ls,omz,rfl,rfl,by rw[dF.out];simp,iQ.out,Below.refl _ _⟩
    case round=>
     clear iQ dF;obtain⟨wo,hwo⟩:∃wo:World,wo=wk:=⟨_,rfl⟩
     clear hwo wo;have hbk:=hbw;have yM:=jR;have hbkk:=hb;clear hbw jR hb;obtain⟨j,ra,rc,ls,hj,rfl,rfl,hls,hlr,hb⟩:=hrel;have iP:=hid hls;have iQ:=hid hlr;have hln:=dD j ls hls;clear hls hlr;have hbw:=hbk.trans (hb.mono omz);have jR:=A37 yM hb.size;have y5w:=(World.cell?_of_block (a:=⟨w.heap.size,5,none⟩) (hb.block _ spz)).trans tV;by_cases hlt:j<kids.length
     ·obtain⟨pa,pc,hpe,_,hpc⟩:=(iD w (Below.refl _ _)).shape
      simp only[Value.slice.injEq,true_and] at hpe;obtain⟨rfl,rfl⟩:=hpe;obtain⟨b,o,gQ,hbl,hn⟩:=hpc j hlt;subst gQ;obtain⟨hna,cv,kv,x4,x5,hcv,hkv⟩:=hn.open;obtain⟨x0,x1,av,nv,x2,x3,hav,hnv⟩:=hna.open;have HI:Hid (∀V0,Below w.heap.size w V0->∀{V},Below V0.heap.size V0 V->Calls Tryz.prog 19 #[.agg #[.int .i64 kids[j].net.kind, .int .i64 kids[j].net.one.op,av,nv,cv,kv]] V λe w'=>∃(a:Option Addr) (c:Nat) (ms:List MI),e=.returned (.slice a ms.length c)/\ms.map MI.inst=Ey kids[j]/\Ku w' V.heap.size (.slice a ms.length c) ms/\Below V.heap.size V w'):=λV0 h0 V h=>IH kids[j] (A4f hlt) av nv cv kv V ((hav.below h0).below h) ((hnv.below h0).below h) ((hcv.below h0).below h) ((hkv.below h0).below h)
      have qA:Hid (∀V0,Below w.heap.size w V0->∀{V},Below V0.heap.size V0 V->Calls Tryz.prog 40 #[.agg #[.int .i64 kids[j].net.kind, .int .i64 kids[j].net.one.op,av,nv]] V λe w'=>∃(a:Option Addr) (c:Nat) (ms:List MI),e=.returned (.slice a ms.length c)/\ms.map MI.inst=E5 kids[j].net/\Ku w' V.heap.size (.slice a ms.length c) ms/\Below V.heap.size V w'):=λV0 h0 V h=>HBE kids[j] (A4f hlt) av nv V ((hav.below h0).below h) ((hnv.below h0).below h)
      have aT:=Atp kids j hlt;have iR:Hid (∀L:List MI,L.map MI.inst=ls.map MI.inst++Ez kids.length j->∀kb kt:List MI,kb.map MI.inst=E5 kids[j].net->(L.length+kb.length<=1000000)/\(kt.map MI.inst=Ey kids[j]->((L++kb).length+kt.length<=1000000)/\((L++kb)++kt).map MI.inst=Il cs++((kids.mapIdx (λi a=>Ip kids.length i a)).take (j+1)).flatten)):=by
       intro L hL kb kt hkb;have e0:∀kt:List MI,kt.map MI.inst=Ey kids[j]->((L++kb)++kt).map MI.inst=Il cs++((kids.mapIdx (λi a=>Ip kids.length i a)).take (j+1)).flatten:=λkt hkt=>by rw[A4m,A4m,hL,iP.out,hkb,hkt,aT];simp only[A4w]
       refine⟨?_,λhkt=>⟨?_,e0 kt hkt⟩⟩
       ·obtain⟨uC,uJ⟩:∃uC:List MI,uC.map MI.inst=Ey kids[j]:=⟨(Ey kids[j]).map λi=>⟨i.code,⟨i.one.op,i.one.args, .slice none 0 0⟩⟩,by rw[List.map_map];exact(List.map_congr_left λi _=>rfl).trans (List.map_id _)⟩
        have:=dD _ _ (e0 uC uJ)
        rw[A38,A38] at this;omega
       ·have:=dD _ _ (e0 kt hkt)
        rw[A38] at this;omega
      clear aT;obtain⟨x,hx⟩:∃x,x=kids[j]:=⟨_,rfl⟩
      rw[<-hx] at HI qA iR x0 x1 hav hnv hcv hkv;obtain⟨q0,s0,rfl,_⟩:=hav.shape;obtain⟨q1,s1,rfl,_,_⟩:=hnv.shape;obtain⟨q2,s2,rfl,_⟩:=hcv.shape;obtain⟨q3,s3,rfl,_,_⟩:=hkv.shape;have kJ:Hid (∀V,Below (w.heap.size+1) wr V->V.cell? ⟨w.heap.size,5,none⟩=some (.slice (some ⟨b,o,none⟩) kids.length r3)/\V.cell? ⟨b,o+j*6,none⟩=some (.int .i64 x.net.kind)/\V.cell? ⟨b,o+j*6+1,none⟩=some (.int .i64 x.net.one.op)/\V.cell? ⟨b,o+j*6+2,none⟩=some (.slice q0 x.net.one.args.length s0)/\V.cell? ⟨b,o+j*6+3,none⟩=some (.slice q1 x.net.kids.length s1)/\V.cell? ⟨b,o+j*6+4,none⟩=some (.slice q2 x.coils.length s2)/\V.cell? ⟨b,o+j*6+5,none⟩=some (.slice q3 x.kids.length s3)):=λV hV=>by
       have e0:V.heap[w.heap.size]?=wr.heap[w.heap.size]?:=hV.block _ omz;have e1:=(hV.block _ omz).trans (hbw.block b hbl);exact⟨(World.cell?_of_block (a:=⟨w.heap.size,5,none⟩) e0).trans y5w,(World.cell?_of_block (a:=⟨b,_,none⟩) e1).trans x0,(World.cell?_of_block (a:=⟨b,_,none⟩) e1).trans x1,(World.cell?_of_block (a:=⟨b,_,none⟩) e1).trans x2,(World.cell?_of_block (a:=⟨b,_,none⟩) e1).trans x3,(World.cell?_of_block (a:=⟨b,_,none⟩) e1).trans x4,(World.cell?_of_block (a:=⟨b,_,none⟩) e1).trans x5⟩
      obtain⟨y5x,x0w,x1w,x2w,x3w,x4w,x5w⟩:=kJ wr (Below.refl _ _);have hj2:(j:Int)<(kids.length:Int):=omz
      clear hx hn hna hpc hav hnv hcv hkv x0 x1 x2 x3 x4 x5 dD IH HBE iD y5w tV hbl;have df:Hid (IntKind.i64.wrap ((kids.length:Int) - 1)=(kids.length:Int) - 1):=by show _=_;rw[IntKind.wrap_i64];omega
      by_cases hn1:kids.length=1
      ·have e1:((kids.length:Int)==1)=true:=by simp[hn1]
       have wM:Hid (Ez kids.length j=[]):=by show _=_;simp[Ez,hn1]
       have dH:=hid (iR ls (by rw[wM.out];simp[iP.out]));clear iR;clear hn1 df
       go_wp2_with (first | (at_builtin;refine Eb rfl _ _ rfl (w.heap.size+1) w3.heap.size w3 a3 c3 (ls++kb) kt a4 c4 (by first | rfl | (simp[Act.eval];done) | (simp[Act.eval,A38];omega)) rfl HR3 rH hb4 (A4d _) ((dH kb kt HKB.out).2 kN.out).1 omz ?_;intro a5 c5 w5 kY hb5;have rM:=hid kY;clear kY;have gB:=hb.trans (hbw3.trans ((hb4.mono omz).trans hb5))) | (go_at_call 19;refine(HI w3 fC (Below.refl _ _)).mono ?_;rintro e w4 ⟨a4,c4,kt,rfl,hkt,hr4,hb4⟩;have kN:=hid hkt;have rH:=hid hr4;clear hkt hr4) | (at_builtin;refine Eb rfl _ _ rfl (w.heap.size+1) wr.heap.size wr ra rc ls kb a2 c2 (by first | rfl | (simp[Act.eval];done) | (simp[Act.eval,A38];omega)) rfl iQ mF hb2 (A4d _) (dH kb [] HKB.out).1 omz ?_;intro a3 c3 w3 hr3 hb3;have HR3:Hid (Ku w3 (w.heap.size+1) (.slice a3 (ls++kb).length c3) (ls++kb)):=(by rw[A38];exact hr3);clear hr3;have hbw3:=((Below.refl (w.heap.size+1) wr)).trans ((hb2.mono omz).trans hb3);have hz3:=A37 jR hbw3.size;have fC:=hbw.trans (hbw3.mono omz);obtain⟨rf,lm,lg,x23,kz,x43,ku⟩:=kJ w3 hbw3) | (go_at_call 40;refine(qA wr (hbw.trans (((Below.refl (w.heap.size+1) wr)).mono omz)) (Below.refl _ _)).mono ?_;rintro e w2 ⟨a2,c2,kb,rfl,hkb,hr2,hb2⟩;have HKB:=hid hkb;have mF:=hid hr2;clear hkb hr2))
       exact⟨⟨j+1,a5,c5,(ls++kb)++kt,omz,by go_num,by rw[Value.slice.injEq];refine⟨rfl,?_,rfl⟩;simp only[A38];try omega,((dH kb kt HKB.out).2 kN.out).2,by rw[A38];exact rM.out,gB⟩,by simp[intOf];omega⟩
      have e1:((kids.length:Int)==1)=false:=by rw[A5a];omega
      by_cases hj0:j=0
      ·have e2:((j:Int)==0)=true:=by simp[hj0]
       have wM:Hid (Ez kids.length j=[Nv 7]):=by show _=_;simp[Ez,hn1,hj0]
       have dH:=hid (iR (ls++[mi0 7]) (by rw[wM.out];simp[iP.out,MI.inst,mi0,Df.elem,Nv]));clear iR;clear hn1 hj0 df
       go_wp2_with (first | (at_builtin;refine Eb rfl _ _ rfl (w.heap.size+1) w3.heap.size w3 a3 c3 ((ls++[mi0 7])++kb) kt a4 c4 (by first | rfl | (simp[Act.eval];done) | (simp[Act.eval];omega)) rfl HR3 rH hb4 (A4d _) ((dH kb kt HKB.out).2 kN.out).1 omz ?_;intro a5 c5 w5 kY hb5;have rM:=hid kY;clear kY;have gB:=hb.trans (hbw3.trans ((hb4.mono omz).trans hb5))) | (go_at_call 19;refine(HI w3 fC (Below.refl _ _)).mono ?_;rintro e w4 ⟨a4,c4,kt,rfl,hkt,hr4,hb4⟩;have kN:=hid hkt;have rH:=hid hr4;clear hkt hr4) | (at_builtin;refine Eb rfl _ _ rfl (w.heap.size+1) wf.heap.size wf af cf (ls++[mi0 7]) kb a2 c2 (by first | rfl | (simp[Act.eval];done) | (simp[Act.eval,A38];omega)) rfl eu mF hb2 (A4d _) (dH kb [] HKB.out).1 omz ?_;intro a3 c3 w3 hr3 hb3;have HR3:Hid (Ku w3 (w.heap.size+1) (.slice a3 ((ls++[mi0 7])++kb).length c3) ((ls++[mi0 7])++kb)):=(by rw[A38];exact hr3);clear hr3;have hbw3:=(dB).trans ((hb2.mono omz).trans hb3);have hz3:=A37 jR hbw3.size;have fC:=hbw.trans (hbw3.mono omz);obtain⟨rf,lm,lg,x23,kz,x43,ku⟩:=kJ w3 hbw3) | (go_at_call 40;refine(qA wf (hbw.trans ((dB).mono omz)) (Below.refl _ _)).mono ?_;rintro e w2 ⟨a2,c2,kb,rfl,hkb,hr2,hb2⟩;have HKB:=hid hkb;have mF:=hid hr2;clear hkb hr2) | (at_builtin;refine F6 (m:=mi0 7) rfl _ _ rfl (w.heap.size+1) ra rc ls rfl rfl iQ (Yg _ _ _ _) omz omz ?_;intro af cf wf hrf hbf;have eu:Hid (Ku wf (w.heap.size+1) (.slice af (ls++[mi0 7]).length cf) (ls++[mi0 7])):=(by rw[A38];exact hrf);clear hrf;have dB:=hbf;have dU:=A37 jR dB.size;obtain⟨y5f,x0f,x1f,x2f,x3f,x4f,x5f⟩:=kJ wf dB))
       exact⟨⟨j+1,a5,c5,((ls++[mi0 7])++kb)++kt,omz,by go_num,by rw[Value.slice.injEq];refine⟨rfl,?_,rfl⟩;simp only[A38,A39,A4a];try omega,((dH kb kt HKB.out).2 kN.out).2,by rw[A38];exact rM.out,gB⟩,by simp[intOf];omega⟩
      have e2:((j:Int)==0)=false:=by rw[A5a];omega
      have ni:=df.out;by_cases hjl:j+1=kids.length
      ·have e3:((j:Int)==(kids.length:Int) - 1)=true:=by rw[beq_iff_eq];omega
       have wM:Hid (Ez kids.length j=[Nv 9]):=by show _=_;simp[Ez,hn1,hj0,hjl]
       have dH:=hid (iR (ls++[mi0 9]) (by rw[wM.out];simp[iP.out,MI.inst,mi0,Df.elem,Nv]));clear iR;clear hn1 hj0 hjl df
       go_wp2_with (first | (at_builtin;refine Eb rfl _ _ rfl (w.heap.size+1) w3.heap.size w3 a3 c3 ((ls++[mi0 9])++kb) kt a4 c4 (by first | rfl | (simp[Act.eval];done) | (simp[Act.eval];omega)) rfl HR3 rH hb4 (A4d _) ((dH kb kt HKB.out).2 kN.out).1 omz ?_;intro a5 c5 w5 kY hb5;have rM:=hid kY;clear kY;have gB:=hb.trans (hbw3.trans ((hb4.mono omz).trans hb5))) | (go_at_call 19;refine(HI w3 fC (Below.refl _ _)).mono ?_;rintro e w4 ⟨a4,c4,kt,rfl,hkt,hr4,hb4⟩;have kN:=hid hkt;have rH:=hid hr4;clear hkt hr4) | (at_builtin;refine Eb rfl _ _ rfl (w.heap.size+1) wf.heap.size wf af cf (ls++[mi0 9]) kb a2 c2 (by first | rfl | (simp[Act.eval];done) | (simp[Act.eval,A38];omega)) rfl eu mF hb2 (A4d _) (dH kb [] HKB.out).1 omz ?_;intro a3 c3 w3 hr3 hb3;have HR3:Hid (Ku w3 (w.heap.size+1) (.slice a3 ((ls++[mi0 9])++kb).length c3) ((ls++[mi0 9])++kb)):=(by rw[A38];exact hr3);clear hr3;have hbw3:=(dB).trans ((hb2.mono omz).trans hb3);have hz3:=A37 jR hbw3.size;have fC:=hbw.trans (hbw3.mono omz);obtain⟨rf,lm,lg,x23,kz,x43,ku⟩:=kJ w3 hbw3) | (go_at_call 40;refine(qA wf (hbw.trans ((dB).mono omz)) (Below.refl _ _)).mono ?_;rintro e w2 ⟨a2,c2,kb,rfl,hkb,hr2,hb2⟩;have HKB:=hid hkb;have mF:=hid hr2;clear hkb hr2) | (at_builtin;refine F6 (m:=mi0 9) rfl _ _ rfl (w.heap.size+1) ra rc ls rfl rfl iQ (Yg _ _ _ _) omz omz ?_;intro af cf wf hrf hbf;have eu:Hid (Ku wf (w.heap.size+1) (.slice af (ls++[mi0 9]).length cf) (ls++[mi0 9])):=(by rw[A38];exact hrf);clear hrf;have dB:=hbf;have dU:=A37 jR dB.size;obtain⟨y5f,x0f,x1f,x2f,x3f,x4f,x5f⟩:=kJ wf dB))
       exact⟨⟨j+1,a5,c5,((ls++[mi0 9])++kb)++kt,omz,by go_num,by rw[Value.slice.injEq];refine⟨rfl,?_,rfl⟩;simp only[A38,A39,A4a];try omega,((dH kb kt HKB.out).2 kN.out).2,by rw[A38];exact rM.out,gB⟩,by simp[intOf];omega⟩
      have e3:((j:Int)==(kids.length:Int) - 1)=false:=by rw[A5a];omega
      have wM:Hid (Ez kids.length j=[Nv 8]):=by show _=_;simp[Ez,hn1,hj0,hjl]
      have dH:=hid (iR (ls++[mi0 8]) (by rw[wM.out];simp[iP.out,MI.inst,mi0,Df.elem,Nv]));clear iR;clear hn1 hj0 hjl df
      go_wp2_with (first | (at_builtin;refine Eb rfl _ _ rfl (w.heap.size+1) w3.heap.size w3 a3 c3 ((ls++[mi0 8])++kb) kt a4 c4 (by first | rfl | (simp[Act.eval];done) | (simp[Act.eval];omega)) rfl HR3 rH hb4 (A4d _) ((dH kb kt HKB.out).2 kN.out).1 omz ?_;intro a5 c5 w5 kY hb5;have rM:=hid kY;clear kY;have gB:=hb.trans (hbw3.trans ((hb4.mono omz).trans hb5))) | (go_at_call 19;refine(HI w3 fC (Below.refl _ _)).mono ?_;rintro e w4 ⟨a4,c4,kt,rfl,hkt,hr4,hb4⟩;have kN:=hid hkt;have rH:=hid hr4;clear hkt hr4) | (at_builtin;refine Eb rfl _ _ rfl (w.heap.size+1) wf.heap.size wf af cf (ls++[mi0 8]) kb a2 c2 (by first | rfl | (simp[Act.eval];done) | (simp[Act.eval,A38];omega)) rfl eu mF hb2 (A4d _) (dH kb [] HKB.out).1 omz ?_;intro a3 c3 w3 hr3 hb3;have HR3:Hid (Ku w3 (w.heap.size+1) (.slice a3 ((ls++[mi0 8])++kb).length c3) ((ls++[mi0 8])++kb)):=(by rw[A38];exact hr3);clear hr3;have hbw3:=(dB).trans ((hb2.mono omz).trans hb3);have hz3:=A37 jR hbw3.size;have fC:=hbw.trans (hbw3.mono omz);obtain⟨rf,lm,lg,x23,kz,x43,ku⟩:=kJ w3 hbw3) | (go_at_call 40;refine(qA wf (hbw.trans ((dB).mono omz)) (Below.refl _ _)).mono ?_;rintro e w2 ⟨a2,c2,kb,rfl,hkb,hr2,hb2⟩;have HKB:=hid hkb;have mF:=hid hr2;clear hkb hr2) | (at_builtin;refine F6 (m:=mi0 8) rfl _ _ rfl (w.heap.size+1) ra rc ls rfl rfl iQ (Yg _ _ _ _) omz omz ?_;intro af cf wf hrf hbf;have eu:Hid (Ku wf (w.heap.size+1) (.slice af (ls++[mi0 8]).length cf) (ls++[mi0 8])):=(by rw[A38];exact hrf);clear hrf;have dB:=hbf;have dU:=A37 jR dB.size;obtain⟨y5f,x0f,x1f,x2f,x3f,x4f,x5f⟩:=kJ wf dB))
      exact⟨⟨j+1,a5,c5,((ls++[mi0 8])++kb)++kt,omz,by go_num,by rw[Value.slice.injEq];refine⟨rfl,?_,rfl⟩;simp only[A38,A39,A4a];try omega,((dH kb kt HKB.out).2 kN.out).2,by rw[A38];exact rM.out,gB⟩,by simp[intOf];omega⟩
     ·obtain rfl:j=kids.length:=by omega
      have hmn:=iP.out;rw[A43 spz] at hmn;have wC:=hid hmn;clear hmn
      go_wp2
      go_ret;exact⟨ra,rc,ls,rfl,wC.out,iQ.le omz,hbw⟩
end Go.Proofs.YtbfljjcnbbmoaaaGreatDoor
