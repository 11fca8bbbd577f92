import Derived.Test.YtbfljjcnbbmoaaaGreatDoorGU
set_option maxHeartbeats 4000000
set_option maxRecDepth 100000
namespace Go.Proofs.YtbfljjcnbbmoaaaGreatDoor
open Stil
open Go.RowKit Go.Sort Go.BigFrame
theorem Ao4 (n:Stil.Net):∀(av kv:Value) (w:World),Bi w av n.one.args->Dx w kv n.kids->Dc n->
  Calls Tryz.prog 79 #[.agg #[.int .i64 n.kind, .int .i64 n.one.op,av,kv]] w λe w'=>e=.returned (.int .i64 (Au n))/\Below w.heap.size w w':=by
 induction n using Fh with
 | h k e kids ih=>
  intro av kv w hav hkv hft;simp only at hav hkv;obtain⟨_,he,hf3,hf4⟩:=(Hu _ _ _).1 hft;obtain⟨_,hal,hdf⟩:=he;have HF:=hid hf4;have IH:=hid ih;have HK:=hid (λW hW=>Ald e.op av e.args W (hav.below hW) hdf omz);clear ih hf4 hft;obtain⟨a,cap,rfl,hc⟩:=hkv;have HC:=hid hc;obtain⟨aa,cO,rfl,_⟩:=hav;have HZ:=hid (N8 k e kids);clear hc hdf;obtain⟨la,hla⟩:∃la,la=e.args.length:=⟨_,rfl⟩
  obtain⟨lk,hlk⟩:∃lk,lk=kids.length:=⟨_,rfl⟩
  have tC:=hid hlk;rw[<-hla] at hal HZ HK ⊢;rw[<-hlk] at hf3 HZ ⊢;clear hla hlk;by_cases hk1:k=1
  ·subst hk1
   by_cases hkl:0<lk
   ·have HX:Hid (Au ⟨1,e,kids⟩=2):=by show _=_;rw[HZ.out,if_pos rfl,if_pos hkl]
    go_enter Tryz.func79,Tryz.ntmps79
    go_wp2
    go_ret;exact⟨C9 (by rw[HX.out]),blB⟩
   ·have hkz:decide (0<(lk:Int))=false:=by rw[decide_eq_false_iff_not];omega
    cases hct:Ad e.op e.args
    ·have HX:Hid (Au ⟨1,e,kids⟩=3):=by show _=_;rw[HZ.out,if_pos rfl,if_neg hkl,hct];rfl
     go_enter Tryz.func79,Tryz.ntmps79
     go_wp2_with (go_at_call 103;refine(HK _ blB).mono ?_;rw[hct];rintro e' w1 ⟨rfl,hb1⟩)
     go_ret;exact⟨C9 (by rw[HX.out]),blB⟩
    ·have HX:Hid (Au ⟨1,e,kids⟩=0):=by show _=_;rw[HZ.out,if_pos rfl,if_neg hkl,hct];rfl
     go_enter Tryz.func79,Tryz.ntmps79
     go_wp2_with (go_at_call 103;refine(HK _ blB).mono ?_;rw[hct];rintro e' w1 ⟨rfl,hb1⟩)
     go_ret;exact⟨C9 (by rw[HX.out]),blB⟩
  ·have hkb:(k==1)=false:=by rw[A5a];exact hk1
   have HZ2:Hid (Au ⟨k,e,kids⟩=if Vq k e.op la lk then 2 else A8 (kids.map Au)):=by show _=_;rw[HZ.out,if_neg hk1]
   clear HZ hk1;go_enter Tryz.func79,Tryz.ntmps79;go_upto_region 7 with fail
   go_cut [0,53] (λs0 s53 wc=>s0=.agg #[.int .i64 k, .int .i64 e.op, .slice aa la cO, .slice a lk cap]/\s53=.bool (Vq k e.op la lk)/\wc=w.alloc (.cells #[.int .i64 k, .int .i64 e.op, .slice aa la cO, .slice a lk cap] 52))
   case first=>
    have lJ:Hid (Vq k e.op la lk=(decide (k<2) || decide (4<k) || e.op !=0 || decide ((0:Int)<(la:Int)) || (lk:Int)==0 || (k==4 && (lk:Int) !=1))):=rfl;cases t1:decide (k<2)
    ·cases t2:decide (4<k)
     ·cases t3:(e.op !=0)
      ·have HE:Hid (e.op=0):=(by simpa using t3:e.op=0)
       cases t4:decide ((0:Int)<(la:Int))
       ·have tN:Hid (la=0):=(by have:=of_decide_eq_false t4;omega:la=0)
        cases t5:((lk:Int)==0)
        ·cases t6:(k==4)
         ·(go_wp2_with fail;go_meet;exact⟨by first | rfl | simp[HE.out,tN.out],by rw[lJ.out,t1,t2,t3,t4,t5,t6];rfl,by first | rfl | simp[HE.out,tN.out]⟩)
         ·have H4:Hid (k=4):=(by simpa using t6:k=4)
          cases t7:((lk:Int) !=1)
          ·have H1:Hid (lk=1):=(by have:=bne_eq_false_iff_eq.1 t7;omega:lk=1)
           (go_wp2_with fail;go_meet;exact⟨by first | rfl | simp[HE.out,tN.out,H4.out,H1.out],by rw[lJ.out,t1,t2,t3,t4,t5,t6,t7];rfl,by first | rfl | simp[HE.out,tN.out,H4.out,H1.out]⟩)
          ·(go_wp2_with fail;go_meet;exact⟨by first | rfl | simp[HE.out,tN.out,H4.out],by rw[lJ.out,t1,t2,t3,t4,t5,t6,t7];rfl,by first | rfl | simp[HE.out,tN.out,H4.out]⟩)
        ·have HL:Hid (lk=0):=(by have:=beq_iff_eq.1 t5;omega:lk=0)
         (go_wp2_with fail;go_meet;exact⟨by first | rfl | simp[HE.out,tN.out,HL.out],by rw[lJ.out,t1,t2,t3,t4,t5];rfl,by first | rfl | simp[HE.out,tN.out,HL.out]⟩)
       ·have p4:0<la:=(by have:=of_decide_eq_true t4;omega:0<la)
        have p5:(0:Int)<(la:Int):=(by omega:(0:Int)<(la:Int))
        (go_wp2_with fail;go_meet;exact⟨by first | rfl | simp[HE.out],by rw[lJ.out,t1,t2,t3,t4];rfl,by first | rfl | simp[HE.out]⟩)
      ·(go_wp2_with fail;go_meet;exact⟨rrz,by rw[lJ.out,t1,t2,t3];rfl,rrz⟩)
     ·(go_wp2_with fail;go_meet;exact⟨rrz,by rw[lJ.out,t1,t2];rfl,rrz⟩)
    ·(go_wp2_with fail;go_meet;exact⟨rrz,by rw[lJ.out,t1];rfl,rrz⟩)
   case rest=>
    obtain⟨rfl,rfl,rfl⟩:=hcut;cases hbn:Vq k e.op la lk
    ·rw[hbn] at HZ2
     have HZ3:Hid (Au ⟨k,e,kids⟩=A8 (kids.map Au)):=HZ2.out;clear HZ2
     go_wp2
     go_loopw [3,4] (λi _ wr=>∃j:Nat,j<=lk/\i=.int .i64 j/\A8 (kids.map Au)=A8 ((kids.drop j).map Au)/\Below (w.heap.size+1) (w.alloc (.cells #[.int .i64 k, .int .i64 e.op, .slice aa la cO, .slice a lk cap] 52)) wr) (λi _ _=>lk - (intOf i).toNat)
     case atStart=>exact⟨0,omz,rfl,rfl,Below.refl _ _⟩
     case round=>
      obtain⟨j,hj,rfl,hfp,hB⟩:=hrel;have HP:=hid hfp;clear hfp;have hz:w.heap.size<wr.heap.size:=by have:=hB.size;simp at this;omega
      have c0:wr.cell? ⟨w.heap.size,0,none⟩=some (.int .i64 k):=clA hB;have f0:wr.frozen? ⟨w.heap.size,0,none⟩=false:=frA hB;have c1:wr.cell? ⟨w.heap.size,1,none⟩=some (.int .i64 e.op):=clA hB;have f1:wr.frozen? ⟨w.heap.size,1,none⟩=false:=frA hB;have c2:wr.cell? ⟨w.heap.size,2,none⟩=some (.slice aa la cO):=clA hB;have f2:wr.frozen? ⟨w.heap.size,2,none⟩=false:=frA hB;have c3:wr.cell? ⟨w.heap.size,3,none⟩=some (.slice a lk cap):=clA hB;have f3:wr.frozen? ⟨w.heap.size,3,none⟩=false:=frA hB;have hbw:=(Aa _ _).trans (hB.mono omz);by_cases hlt:j<lk
      ·have hlt':j<kids.length:=by have:=tC.out;omega
       obtain⟨b,o,rfl,hbl,hn⟩:=HC j hlt';obtain⟨x0,x1,av,kv,x2,x3,hav,hkv⟩:=(Nw.below hbw _ _ _ hn hbl).open;have HI:=hid (λW hW=>IH kids[j] (A4f hlt') av kv W (hav.below hW) (hkv.below hW) (HF _ (A4f hlt')));have HS:Hid (A8 ((kids.drop j).map Au)=if 0<Au kids[j] then Au kids[j] else A8 ((kids.drop (j+1)).map Au)):=by
        show _=_
        rw[List.drop_eq_getElem_cons hlt',A4q];rfl
       obtain⟨s,hs⟩:∃s,s=Au kids[j]:=⟨_,rfl⟩
       obtain⟨x,hx⟩:∃x,x=kids[j]:=⟨_,rfl⟩
       rw[<-hs] at HI HS;rw[<-hx] at HI x0 x1;obtain⟨aa',bn,rfl,_⟩:=hav;obtain⟨a',cap',rfl,_⟩:=hkv;clear hs hx hn;by_cases hpos:0<s
       ·go_wp2_with (go_at_call 79;refine(HI _ blB).mono ?_;rintro e w2 ⟨rfl,hb2⟩)
        go_ret;exact⟨C9 (by rw[HZ3.out,HP.out,HS.out,if_pos hpos]),blB⟩
       ·go_wp2_with (go_at_call 79;refine(HI _ blB).mono ?_;rintro e w2 ⟨rfl,hb2⟩)
        refine⟨⟨j+1,omz,by go_num,?_,hB.trans (hb2.mono hz)⟩,by simp[intOf];omega⟩;rw[HP.out,HS.out,if_neg omz]
      ·go_wp2
       go_ret;refine⟨C9 ?_,hbw⟩;rw[HZ3.out,HP.out,List.drop_of_length_le (by have:=tC.out;omega)];rfl
    ·rw[hbn] at HZ2
     go_wp2
     go_ret;exact⟨C9 (by rw[HZ2.out];rfl),blB⟩
theorem Ao6 (n:Stil.Arm):∀(root:Bool) (av nv cv kv:Value) (w:World),Bi w av n.net.one.args->Dx w nv n.net.kids->En w cv n.coils->Dj w kv n.kids->Ci n->
  Calls Tryz.prog 50 #[.agg #[.int .i64 n.net.kind, .int .i64 n.net.one.op,av,nv,cv,kv], .bool root] w λe w'=>e=.returned (.int .i64 (if root=true/\Aq n.net=true then 4 else Cj n))/\Below w.heap.size w w':=by
 induction n using Fg with
 | h n coils kids ih=>
  intro root av nv cv kv w hav hnv hcv hkv hft;simp only at hav hnv hcv hkv;obtain⟨hnf,hcl,hcf,hkl,bK⟩:=G8 hft;simp only at hnf hcl hcf hkl bK;have hnp:=Dp hnf
  have IH:Hid (∀x∈kids,∀(av nv cv kv:Value) (w:World),Bi w av x.net.one.args->Dx w nv x.net.kids->En w cv x.coils->Dj w kv x.kids->
   Calls Tryz.prog 50 #[.agg #[.int .i64 x.net.kind, .int .i64 x.net.one.op,av,nv,cv,kv], .bool false] w λe w'=>e=.returned (.int .i64 (Cj x))/\Below w.heap.size w w'):=λx hx av nv cv kv w h1 h2 h3 h4=>(ih x hx false av nv cv kv w h1 h2 h3 h4 (bK x hx)).mono λe w' ⟨he,hb⟩=>⟨by rw[he];simp,hb⟩
  have aY:=hid (λW hW=>Zf n av nv W (hav.below hW) (hnv.below hW) (by have:=hnp.2.1.2.1;omega) (by have:=hnp.2.2.1;omega));have mP:=hid (λW hW=>Ao4 n av nv W (hav.below hW) (hnv.below hW) hnf);have wR:=hid hcf;have HCV:Hid (∀i (h:i<coils.length),∃b o,True/\b<w.heap.size/\Agl w b (o+i*2) coils[i]/\∃cap,cv=.slice (some ⟨b,o,none⟩) coils.length cap):=by
   intro i hi;obtain⟨a,cap,hv,hc⟩:=hcv;obtain⟨b,o,ha,hb,hx⟩:=hc i hi;exact⟨b,o,trivial,hb,hx,cap,by rw[hv,ha]⟩
  obtain⟨p0,r0,rfl,_⟩:=hav;obtain⟨p1,r1,rfl,_⟩:=hnv;obtain⟨p2,r2,rfl,hcc⟩:=hcv;obtain⟨p3,r3,rfl,hkk⟩:=hkv;have wS:=hid hcc;have HKK:=hid hkk;have HW:Hid (Cj ⟨n,coils,kids⟩=if 0<Cm ⟨n,coils,kids⟩ then Cm ⟨n,coils,kids⟩ else A8 (kids.map Cj)):=U8 _;have HOW:Hid (Cm ⟨n,coils,kids⟩=if Aq n=false/\0<Au n then Au n else if Dy coils then 3 else if coils.length=0/\kids.length=0 then 5 else 0):=rfl;have HKB:Hid (∀x∈kids,0<=Cj x/\Cj x<=5):=λx _=>Ot x
  have hnb:=Ji n;simp only;obtain⟨nn,hnn⟩:∃nn,nn=Aq n:=⟨_,rfl⟩
  obtain⟨nw,hnw⟩:∃nw,nw=Au n:=⟨_,rfl⟩
  rw[<-hnn] at aY HOW ⊢;rw[<-hnw] at mP HOW hnb;obtain⟨lc,hlc⟩:∃lc,lc=coils.length:=⟨_,rfl⟩
  obtain⟨lk,hlk⟩:∃lk,lk=kids.length:=⟨_,rfl⟩
  have wE:=hid hlc;have tC:=hid hlk;rw[<-hlc] at hcl HOW ⊢;rw[<-hlk] at hkl HOW ⊢;clear ih hft hnf hcf bK hcc hkk hnp hnn hnw hlc hlk HCV;obtain⟨R,hR⟩:∃R,R=(if root=true/\nn=true then 4 else Cj ⟨n,coils,kids⟩):=⟨_,rfl⟩
  rw[<-hR];have hcases:(root=true/\nn=true)\/(root=true/\nn=false/\0<nw)\/(root=false/\nn=false/\0<nw)\/(root=false/\nn=false/\¬0<nw)\/(root=false/\nn=true)\/(root=true/\nn=false/\¬0<nw):=by
   cases root<;>cases nn<;>by_cases h:0<nw<;>simp[h]
  rcases hcases with⟨rfl,rfl⟩ | ⟨rfl,rfl,hpos⟩ | ⟨rfl,rfl,hpos⟩ | ⟨hr,hn,hpos⟩ | ⟨hr,hn⟩ | ⟨hr,hn,hpos⟩
  ·have HX:Hid (R=4):=by show _=_;rw[hR];simp
   clear hR;go_enter Tryz.func50,Tryz.ntmps50
   go_wp2_with (go_at_call 62;refine(aY _ blA).mono ?_;rintro e w1 ⟨rfl,hb1⟩)
   go_ret;exact⟨C9 (by rw[HX.out]),blA⟩
  ·have hR1:R=Cj ⟨n,coils,kids⟩:=by rw[hR];simp
   clear hR;have kL:=aY;have HX:Hid (R=nw):=by show _=_;rw[hR1,HW.out,HOW.out];simp[hpos]
   clear hR1;go_enter Tryz.func50,Tryz.ntmps50
   go_wp2_with (first | (go_at_call 62;refine(aY _ blA).mono ?_;clear aY;rintro e w0 ⟨rfl,hb0⟩;obtain⟨hc0,hf0⟩:=Dq hb0;have hz0:w.heap.size<w0.heap.size:=A37 spz hb0.size) | (go_at_call 62;refine(kL _ blA).mono ?_;rintro e w1 ⟨rfl,hb1⟩;obtain⟨hc1,hf1⟩:=Dq hb1) | (go_at_call 79;refine(mP _ blA).mono ?_;rintro e w2 ⟨rfl,hb2⟩))
   go_ret;exact⟨C9 (by rw[HX.out]),blA⟩
  ·have hR1:R=Cj ⟨n,coils,kids⟩:=by rw[hR];simp
   clear hR;have HX:Hid (R=nw):=by show _=_;rw[hR1,HW.out,HOW.out];simp[hpos]
   clear hR1;go_enter Tryz.func50,Tryz.ntmps50
   go_wp2_with (first | (go_at_call 62;refine(aY _ blA).mono ?_;rintro e w1 ⟨rfl,hb1⟩;obtain⟨hc1,hf1⟩:=Dq hb1) | (go_at_call 79;refine(mP _ blA).mono ?_;rintro e w2 ⟨rfl,hb2⟩))
   go_ret;exact⟨C9 (by rw[HX.out]),blA⟩
  all_goals first
   | (
     obtain rfl:root=false:=hr;obtain rfl:nn=false:=hn;have hR1:R=Cj ⟨n,coils,kids⟩:=by rw[hR];simp
     clear hR;have HR2:Hid (R=if Dy coils then 3 else if lc=0/\lk=0 then 5 else A8 (kids.map Cj)):=by
      show _=_
      rw[hR1,HW.out,HOW.out];simp only[hpos,and_false,if_false];cases Dy coils
      ·simp only[A4e,if_false]
       split<;>simp
      ·simp
     clear hR1;go_enter Tryz.func50,Tryz.ntmps50
     go_wp2_with (first | (go_at_call 62;refine(aY _ blA).mono ?_;rintro e w1 ⟨rfl,hb1⟩;obtain⟨hc1,hf1⟩:=Dq hb1) | (go_at_call 79;refine(mP _ blA).mono ?_;rintro e w2 ⟨rfl,hb2⟩))
     have hbs:Below (w.heap.size+1) (w.alloc (.cells #[.int .i64 n.kind, .int .i64 n.one.op, .slice p0 n.one.args.length r0, .slice p1 n.kids.length r1, .slice p2 lc r2, .slice p3 lk r3] 55)) w2:=by
      have h1:=hb1.size;simp only[World.size_alloc] at hb1 h1;exact hb1.trans (hb2.mono h1)
     clear hb1 hb2 hc1 hf1)
   | (
     obtain rfl:root=false:=hr;obtain rfl:nn=true:=hn;have hR1:R=Cj ⟨n,coils,kids⟩:=by rw[hR];simp
     clear hR;have HR2:Hid (R=if Dy coils then 3 else if lc=0/\lk=0 then 5 else A8 (kids.map Cj)):=by
      show _=_
      rw[hR1,HW.out,HOW.out];simp only[Bool.true_eq_false,false_and,if_false];cases Dy coils
      ·simp only[A4e,if_false]
       split<;>simp
      ·simp
     clear hR1;go_enter Tryz.func50,Tryz.ntmps50
     go_wp2_with (go_at_call 62;refine(aY _ blA).mono ?_;rintro e w1 ⟨rfl,hb1⟩;obtain⟨hc1,hf1⟩:=Dq hb1)
     have hbs:Below (w.heap.size+1) (w.alloc (.cells #[.int .i64 n.kind, .int .i64 n.one.op, .slice p0 n.one.args.length r0, .slice p1 n.kids.length r1, .slice p2 lc r2, .slice p3 lk r3] 55)) w1:=by simpa using hb1
     clear hb1 hc1 hf1)
   | (
     obtain rfl:root=true:=hr;obtain rfl:nn=false:=hn;have hR1:R=Cj ⟨n,coils,kids⟩:=by rw[hR];simp
     clear hR;have kL:=aY;have HR2:Hid (R=if Dy coils then 3 else if lc=0/\lk=0 then 5 else A8 (kids.map Cj)):=by
      show _=_
      rw[hR1,HW.out,HOW.out];simp only[hpos,and_false,if_false];cases Dy coils
      ·simp only[A4e,if_false]
       split<;>simp
      ·simp
     clear hR1;go_enter Tryz.func50,Tryz.ntmps50
     go_wp2_with (first | (go_at_call 62;refine(aY _ blA).mono ?_;clear aY;rintro e w0 ⟨rfl,hb0⟩;obtain⟨hc0,hf0⟩:=Dq hb0;have hz0:w.heap.size<w0.heap.size:=A37 spz hb0.size) | (go_at_call 62;refine(kL _ blA).mono ?_;rintro e w1 ⟨rfl,hb1⟩;obtain⟨hc1,hf1⟩:=Dq hb1) | (go_at_call 79;refine(mP _ blA).mono ?_;rintro e w2 ⟨rfl,hb2⟩))
     have hbs:Below (w.heap.size+1) (w.alloc (.cells #[.int .i64 n.kind, .int .i64 n.one.op, .slice p0 n.one.args.length r0, .slice p1 n.kids.length r1, .slice p2 lc r2, .slice p3 lk r3] 55)) w2:=by
      have h0:=hb0.size;have h1:=hb1.size;simp only[World.size_alloc] at hb0 h0;exact(hb0.trans (hb1.mono h0)).trans (hb2.mono (A4k h0 h1))
     clear hb0 hc0 hf0 hb1 hb2 hc1 hf1 hz0)
  all_goals
   go_loopw [6] (λi wr=>∃m:Nat,m<=lc/\i=.int .i64 m/\Dy coils=Dy (coils.drop m)/\Below (w.heap.size+1) (w.alloc (.cells #[.int .i64 n.kind, .int .i64 n.one.op, .slice p0 n.one.args.length r0, .slice p1 n.kids.length r1, .slice p2 lc r2, .slice p3 lk r3] 55)) wr) (λi _=>lc - (intOf i).toNat)
   case atStart=>exact⟨0,omz,rfl,rfl,hbs⟩
   case round=>
    clear hbs;obtain⟨m,hm,rfl,hcb,hB⟩:=hrel;have dI:=hid hcb;clear hcb;have hz:w.heap.size<wr.heap.size:=by have:=hB.size;simp at this;omega
    have c0:wr.cell? ⟨w.heap.size,0,none⟩=some (.int .i64 n.kind):=clA hB;have f0:wr.frozen? ⟨w.heap.size,0,none⟩=false:=frA hB;have c1:wr.cell? ⟨w.heap.size,1,none⟩=some (.int .i64 n.one.op):=clA hB;have f1:wr.frozen? ⟨w.heap.size,1,none⟩=false:=frA hB;have c2:wr.cell? ⟨w.heap.size,2,none⟩=some (.slice p0 n.one.args.length r0):=clA hB;have f2:wr.frozen? ⟨w.heap.size,2,none⟩=false:=frA hB;have c3:wr.cell? ⟨w.heap.size,3,none⟩=some (.slice p1 n.kids.length r1):=clA hB;have f3:wr.frozen? ⟨w.heap.size,3,none⟩=false:=frA hB;have c4:wr.cell? ⟨w.heap.size,4,none⟩=some (.slice p2 lc r2):=clA hB;have f4:wr.frozen? ⟨w.heap.size,4,none⟩=false:=frA hB;have c5:wr.cell? ⟨w.heap.size,5,none⟩=some (.slice p3 lk r3):=clA hB;have f5:wr.frozen? ⟨w.heap.size,5,none⟩=false:=frA hB;have hbw:=(Aa _ _).trans (hB.mono omz);by_cases hlt:m<lc
    ·have hlt':m<coils.length:=by have:=wE.out;omega
     obtain⟨b,o,rfl,hbl,hce⟩:=wS m hlt';obtain⟨x0,bg,x1,jH⟩:=hce.below hbw hbl;have fB:=wR _ (A4f hlt');have HI:=hid (λW hW=>Axh coils[m].op bg coils[m].args W (jH.below hW) fB.2.2 (by have:=fB.2.1;omega));have HD:Hid (Dy coils=(!Ap coils[m].op coils[m].args || Dy (coils.drop (m+1)))):=by show _=_;rw[dI.out,U2 _ _ hlt']
     obtain⟨ic,hic⟩:∃ic,ic=Ap coils[m].op coils[m].args:=⟨_,rfl⟩
     rw[<-hic] at HI HD;obtain⟨y,hy⟩:∃y,y=coils[m]:=⟨_,rfl⟩
     rw[<-hy] at HI x0;obtain⟨t1,t2,f1,_⟩:=jH;rw[<-hy] at f1;subst f1;clear hic hy hce fB dI;cases ic
     ·have HX:Hid (R=3):=by show _=_;rw[HR2.out,HD.out];rfl
      go_wp2_with (go_at_call 80;refine(HI _ blA).mono ?_;rintro e w3 ⟨rfl,hb3⟩)
      go_ret;exact⟨C9 (by rw[HX.out]),blA⟩
     ·have HX:Hid (Dy coils=Dy (coils.drop (m+1))):=by show _=_;rw[HD.out];rfl
      go_wp2_with (go_at_call 80;refine(HI _ blA).mono ?_;rintro e w3 ⟨rfl,hb3⟩)
      exact⟨⟨m+1,omz,by go_num,HX.out,hB.trans (hb3.mono hz)⟩,by simp[intOf];omega⟩
    ·have hcb0:Dy coils=false:=by rw[dI.out,List.drop_of_length_le (by have:=wE.out;omega)];rfl
     have HR3:Hid (R=if lc=0/\lk=0 then 5 else A8 (kids.map Cj)):=by show _=_;rw[HR2.out,hcb0];rfl
     clear hcb0 dI HR2;obtain⟨hb0,hb1⟩:True/\True:=⟨trivial,trivial⟩
     by_cases hl0:lc=0/\lk=0
     ·have HX:Hid (R=5):=by show _=_;rw[HR3.out,if_pos hl0]
      obtain⟨rfl,rfl⟩:=hl0;clear HR3
      go_wp2
      go_ret;exact⟨C9 (by rw[HX.out]),blA⟩
     ·have HX:Hid (R=A8 (kids.map Cj)):=by show _=_;rw[HR3.out,if_neg hl0]
      clear HR3;have hcase:((lc:Int)==0)=false\/((lk:Int)==0)=false:=by
       by_cases h:lc=0
       ·right;rw[A5a];omega
       ·left;rw[A5a];omega
      clear hl0;rcases hcase with hq | hq<;>go_wp2
      all_goals (
       go_loopw [7] (λi wq=>∃j:Nat,j<=lk/\i=.int .i64 j/\A8 (kids.map Cj)=A8 ((kids.drop j).map Cj)/\Below (w.heap.size+1) (w.alloc (.cells #[.int .i64 n.kind, .int .i64 n.one.op, .slice p0 n.one.args.length r0, .slice p1 n.kids.length r1, .slice p2 lc r2, .slice p3 lk r3] 55)) wq) (λi _=>lk - (intOf i).toNat)
       case atStart=>exact⟨0,omz,rfl,rfl,hB⟩
       case round=>
        clear c0 c1 c2 c3 c4 c5 f0 f1 f2 f3 f4 f5 hz hB hbw;obtain⟨j,hj,rfl,hfp,hB⟩:=hrel;have HP:=hid hfp;clear hfp;have hz:w.heap.size<wr.heap.size:=by have:=hB.size;simp at this;omega
        have c0:wr.cell? ⟨w.heap.size,0,none⟩=some (.int .i64 n.kind):=clA hB;have f0:wr.frozen? ⟨w.heap.size,0,none⟩=false:=frA hB;have c1:wr.cell? ⟨w.heap.size,1,none⟩=some (.int .i64 n.one.op):=clA hB;have f1:wr.frozen? ⟨w.heap.size,1,none⟩=false:=frA hB;have c2:wr.cell? ⟨w.heap.size,2,none⟩=some (.slice p0 n.one.args.length r0):=clA hB;have f2:wr.frozen? ⟨w.heap.size,2,none⟩=false:=frA hB;have c3:wr.cell? ⟨w.heap.size,3,none⟩=some (.slice p1 n.kids.length r1):=clA hB;have f3:wr.frozen? ⟨w.heap.size,3,none⟩=false:=frA hB;have c4:wr.cell? ⟨w.heap.size,4,none⟩=some (.slice p2 lc r2):=clA hB;have f4:wr.frozen? ⟨w.heap.size,4,none⟩=false:=frA hB;have c5:wr.cell? ⟨w.heap.size,5,none⟩=some (.slice p3 lk r3):=clA hB;have f5:wr.frozen? ⟨w.heap.size,5,none⟩=false:=frA hB;have hbw:=(Aa _ _).trans (hB.mono omz);by_cases hlt:j<lk
        ·have hlt':j<kids.length:=by have:=tC.out;omega
         obtain⟨b,o,rfl,hbl,hn⟩:=HKK j hlt';obtain⟨hna,yK,yJ,x4,x5,hcv,hkv⟩:=(Pz.below hbw _ _ _ hn hbl).open;obtain⟨x0,x1,yL,yI,x2,x3,hav,hnv⟩:=hna.open;have HI:=hid (λW hW=>IH kids[j] (A4f hlt') yL yI yK yJ W (hav.below hW) (hnv.below hW) (hcv.below hW) (hkv.below hW));have HS:Hid (A8 ((kids.drop j).map Cj)=if 0<Cj kids[j] then Cj kids[j] else A8 ((kids.drop (j+1)).map Cj)):=by
          show _=_
          rw[List.drop_eq_getElem_cons hlt',A4q];rfl
         obtain⟨s,hs⟩:∃s,s=Cj kids[j]:=⟨_,rfl⟩
         obtain⟨x,hx⟩:∃x,x=kids[j]:=⟨_,rfl⟩
         rw[<-hs] at HI HS;rw[<-hx] at HI x0 x1 hav hnv hcv hkv;obtain⟨t0,u0,rfl,_⟩:=hav;obtain⟨t1,u1,rfl,_⟩:=hnv;obtain⟨t2,u2,rfl,_⟩:=hcv;obtain⟨t3,u3,rfl,_⟩:=hkv;clear hs hx hn hna;by_cases hpos:0<s
         ·go_wp2_with (go_at_call 50;refine(HI _ blA).mono ?_;rintro e w4 ⟨rfl,hb4⟩)
          go_ret;exact⟨C9 (by rw[HX.out,HP.out,HS.out,if_pos hpos]),blA⟩
         ·go_wp2_with (go_at_call 50;refine(HI _ blA).mono ?_;rintro e w4 ⟨rfl,hb4⟩)
          refine⟨⟨j+1,omz,by go_num,?_,hB.trans (hb4.mono hz)⟩,by simp[intOf];omega⟩;rw[HP.out,HS.out,if_neg omz]
        ·go_wp2
         go_ret;refine⟨C9 ?_,hbw⟩
         rw[HX.out,HP.out,List.drop_of_length_le (by have:=tC.out;omega)];rfl)
theorem Alb (n:Stil.Arm)(av nv cv kv:Value)(w:World)(hav:Bi w av n.net.one.args)(hnv:Dx w nv n.net.kids)(hcv:En w cv n.coils)(hkv:Dj w kv n.kids)(hf:Ci n):
  Calls Tryz.prog 50 #[.agg #[.int .i64 n.net.kind, .int .i64 n.net.one.op,av,nv,cv,kv], .bool true] w λe w'=>e=.returned (.int .i64 (Eo n))/\Below w.heap.size w w':=
 (Ao6 n true av nv cv kv w hav hnv hcv hkv hf).mono λe w' ⟨he,hb⟩=>⟨by rw[he];simp[Eo],hb⟩
theorem Acy (l:List Stil.Arm)(kv:Value)(w:World)(hkv:Dj w kv l)(hl:l.length<=1048576)(hsz:Ce l<=1000000000)(hft:∀x∈l,Ci x):
  Calls Tryz.prog 29 #[kv] w λe w'=>e=.returned (.agg #[.int .i64 (Bo l).1, .int .i64 (Bo l).2])/\Below w.heap.size w w':=by
 have HT:=hid (λW hW=>Ao3 l kv W (hkv.below hW) hsz hft);have HF:=hid hft;obtain⟨a,cap,rfl,hc⟩:=hkv;have HC:=hid hc;obtain⟨ln,hln⟩:∃ln,ln=l.length:=⟨_,rfl⟩
 obtain⟨z,hz⟩:∃z,z=Ce l:=⟨_,rfl⟩
 have fG:=hid hln;have HR:Hid (Bo l=if 40<ln\/400<z then(1,0) else Ed l 0):=by show _=_;rw[hln,hz];rfl
 rw[<-hln] at hl HT ⊢;rw[<-hz] at HT hsz;obtain⟨R,hR⟩:∃R,R=Bo l:=⟨_,rfl⟩
 rw[<-hR] at HR ⊢;clear hc hft hln hz hR;by_cases h1:40<ln
 ·have HX:Hid (R=(1,0)):=by show _=_;rw[HR.out,if_pos (.inl h1)]
  go_enter Tryz.func29,Tryz.ntmps29
  go_wp2
  refine bodyPost_ret (v:=.agg #[.int .i64 1, .int .i64 0]) (by simp[results,Tryz.results29,go_sem]) rfl ⟨by rw[HX.out];rfl,blA⟩
 ·by_cases h2:400<z
  ·have HX:Hid (R=(1,0)):=by show _=_;rw[HR.out,if_pos (.inr h2)]
   go_enter Tryz.func29,Tryz.ntmps29
   go_wp2_with (go_at_call 49;refine(HT _ blA).mono ?_;rintro e w1 ⟨rfl,hb1⟩;have g0:w1.cell? ⟨w.heap.size,0,none⟩=some (.int .i64 0):=(clA hb1);have g1:w1.cell? ⟨w.heap.size,1,none⟩=some (.int .i64 0):=(clA hb1);have k0:w1.frozen? ⟨w.heap.size,0,none⟩=false:=(frA hb1);have k1:w1.frozen? ⟨w.heap.size,1,none⟩=false:=(frA hb1))
   refine bodyPost_ret (v:=.agg #[.int .i64 1, .int .i64 0]) (by simp[results,Tryz.results29,go_sem,g0,g1]) rfl ⟨by rw[HX.out];rfl,blA⟩
  ·have HX:Hid (R=Ed l 0):=by show _=_;rw[HR.out,if_neg omz]
   clear HR;go_enter Tryz.func29,Tryz.ntmps29
   go_wp2_with (go_at_call 49;refine(HT _ blA).mono ?_;rintro e w1 ⟨rfl,hb1⟩)
   have hbs:Below (w.heap.size+1) (w.alloc (.cells #[.int .i64 0, .int .i64 0] 69)) w1:=by simpa using hb1
   clear hb1;go_loopw [3] (λi wr=>∃j:Nat,j<=ln/\i=.int .i64 j/\R=Ed (l.drop j) j/\Below (w.heap.size+1) (w.alloc (.cells #[.int .i64 0, .int .i64 0] 69)) wr) (λi _=>ln - (intOf i).toNat)
   case atStart=>exact⟨0,omz,rfl,by rw[HX.out];rfl,hbs⟩
   case round=>
    clear hbs HX;obtain⟨j,hj,rfl,hfr,hB⟩:=hrel;have HP:=hid hfr;clear hfr;have hz:w.heap.size<wr.heap.size:=by have:=hB.size;simp at this;omega
    have c0:wr.cell? ⟨w.heap.size,0,none⟩=some (.int .i64 0):=clA hB;have f0:wr.frozen? ⟨w.heap.size,0,none⟩=false:=frA hB;have c1:wr.cell? ⟨w.heap.size,1,none⟩=some (.int .i64 0):=clA hB;have f1:wr.frozen? ⟨w.heap.size,1,none⟩=false:=frA hB;have hbw:=(Aa _ _).trans (hB.mono omz);by_cases hlt:j<ln
    ·have hlt':j<l.length:=by have:=fG.out;omega
     obtain⟨b,o,rfl,hbl,hn⟩:=HC j hlt';obtain⟨hna,yK,yJ,x4,x5,hcv,hkv⟩:=(Pz.below hbw _ _ _ hn hbl).open;obtain⟨x0,x1,yL,yI,x2,x3,hav,hnv⟩:=hna.open;have HI:=hid (λW hW=>Alb l[j] yL yI yK yJ W (hav.below hW) (hnv.below hW) (hcv.below hW) (hkv.below hW) (HF _ (A4f hlt')));have HS:Hid (R=if 0<Eo l[j] then(Eo l[j],j) else Ed (l.drop (j+1)) (j+1)):=by show _=_;rw[HP.out,X9 l j hlt']
     have hbd:=Qm l[j];obtain⟨s,hs⟩:∃s,s=Eo l[j]:=⟨_,rfl⟩
     obtain⟨x,hx⟩:∃x,x=l[j]:=⟨_,rfl⟩
     rw[<-hs] at HI HS hbd;rw[<-hx] at HI x0 x1 hav hnv hcv hkv;obtain⟨t0,u0,rfl,_⟩:=hav;obtain⟨t1,u1,rfl,_⟩:=hnv;obtain⟨t2,u2,rfl,_⟩:=hcv;obtain⟨t3,u3,rfl,_⟩:=hkv;clear hs hx hn hna HP;by_cases hpos:0<s
     ·have HX:Hid (R=(s,j)):=by show _=_;rw[HS.out,if_pos hpos]
      go_wp2_with (go_at_call 50;refine(HI _ blA).mono ?_;rintro e w4 ⟨rfl,hb4⟩;have g0:=(hb4.cell (p:=⟨w.heap.size,0,none⟩) hz).trans c0;have g1:=(hb4.cell (p:=⟨w.heap.size,1,none⟩) hz).trans c1;have k0:=(hb4.frozen (p:=⟨w.heap.size,0,none⟩) hz).trans f0;have k1:=(hb4.frozen (p:=⟨w.heap.size,1,none⟩) hz).trans f1)
      refine bodyPost_ret (v:=.agg #[.int .i64 s, .int .i64 j]) (by simp[results,Tryz.results29,go_sem,g0,g1]) rfl ⟨by rw[HX.out],blA⟩
     ·have HX:Hid (R=Ed (l.drop (j+1)) (j+1)):=by show _=_;rw[HS.out,if_neg hpos]
      go_wp2_with (go_at_call 50;refine(HI _ blA).mono ?_;rintro e w4 ⟨rfl,hb4⟩)
      exact⟨⟨j+1,omz,by go_num,HX.out,hB.trans (hb4.mono hz)⟩,by simp[intOf];omega⟩
    ·have HX:Hid (R=(0,0)):=by show _=_;rw[HP.out,List.drop_of_length_le (by have:=fG.out;omega)];rfl
     go_wp2
     refine bodyPost_ret (v:=.agg #[.int .i64 0, .int .i64 0]) (by simp[results,Tryz.results29,go_sem,c0,c1]) rfl ⟨by rw[HX.out];rfl,blA⟩
end Go.Proofs.YtbfljjcnbbmoaaaGreatDoor
