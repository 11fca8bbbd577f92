import Derived.Test.YtbfljjcnbbmoaaaGreatDoorGU
set_option maxHeartbeats 4000000
set_option maxRecDepth 100000
namespace Go.Proofs.YtbfljjcnbbmoaaaGreatDoor
open Stil
open Go.RowKit Go.Sort Go.BigFrame
theorem A3j {w:World} {base g cap n:Nat} {e:TypeId} {xs:List Value} (h:w.ownsRow base e 2 (.slice (some ⟨g,0,none⟩) n cap) n xs) (k:Nat) (hk:k<n):
  (∃u,w.cell? ⟨g,k*2,none⟩=some u)/\(∃u,w.cell? ⟨g,k*2+1,none⟩=some u):=by
 have hl:=h.1;refine⟨?_,?_⟩
 ·rw[h.cellAt (k*2) (by omega),A4u (by omega)];exact⟨_,rfl⟩
 ·rw[h.cellAt (k*2+1) (by omega),A4u (by omega)];exact⟨_,rfl⟩
theorem A2y {w:World} {base g cap n:Nat} {e:TypeId} {xs:List Value} (h:w.ownsRow base e 2 (.slice (some ⟨g,0,none⟩) n cap) n xs) (k:Nat):
  w.frozen? ⟨g,k*2,none⟩=false/\w.frozen? ⟨g,k*2+1,none⟩=false:=⟨h.frozenAt _,h.frozenAt _⟩
theorem A3i {w:World} {base g cap n:Nat} {e:TypeId} {xs:List Value} (h:w.ownsRow base e 4 (.slice (some ⟨g,0,none⟩) n cap) n xs) (k:Nat) (hk:k<n):
  (∃u,w.cell? ⟨g,k*4,none⟩=some u)/\(∃u,w.cell? ⟨g,k*4+1,none⟩=some u)/\(∃u,w.cell? ⟨g,k*4+2,none⟩=some u)/\(∃u,w.cell? ⟨g,k*4+3,none⟩=some u):=by
 have hl:=h.1;refine⟨?_,?_,?_,?_⟩
 ·rw[h.cellAt (k*4) (by omega),A4u (by omega)];exact⟨_,rfl⟩
 ·rw[h.cellAt (k*4+1) (by omega),A4u (by omega)];exact⟨_,rfl⟩
 ·rw[h.cellAt (k*4+2) (by omega),A4u (by omega)];exact⟨_,rfl⟩
 ·rw[h.cellAt (k*4+3) (by omega),A4u (by omega)];exact⟨_,rfl⟩
theorem A2x {w:World} {base g cap n:Nat} {e:TypeId} {xs:List Value} (h:w.ownsRow base e 4 (.slice (some ⟨g,0,none⟩) n cap) n xs) (k:Nat):
  w.frozen? ⟨g,k*4,none⟩=false/\w.frozen? ⟨g,k*4+1,none⟩=false/\w.frozen? ⟨g,k*4+2,none⟩=false/\w.frozen? ⟨g,k*4+3,none⟩=false:=⟨h.frozenAt _,h.frozenAt _,h.frozenAt _,h.frozenAt _⟩
theorem A3h {w:World} {base g cap n:Nat} {e:TypeId} {xs:List Value} (h:w.ownsRow base e 6 (.slice (some ⟨g,0,none⟩) n cap) n xs) (k:Nat) (hk:k<n):
  (∃u,w.cell? ⟨g,k*6,none⟩=some u)/\(∃u,w.cell? ⟨g,k*6+1,none⟩=some u)/\(∃u,w.cell? ⟨g,k*6+2,none⟩=some u)/\(∃u,w.cell? ⟨g,k*6+3,none⟩=some u)/\(∃u,w.cell? ⟨g,k*6+4,none⟩=some u)/\(∃u,w.cell? ⟨g,k*6+5,none⟩=some u):=by
 have hl:=h.1;refine⟨?_,?_,?_,?_,?_,?_⟩
 ·rw[h.cellAt (k*6) (by omega),A4u (by omega)];exact⟨_,rfl⟩
 ·rw[h.cellAt (k*6+1) (by omega),A4u (by omega)];exact⟨_,rfl⟩
 ·rw[h.cellAt (k*6+2) (by omega),A4u (by omega)];exact⟨_,rfl⟩
 ·rw[h.cellAt (k*6+3) (by omega),A4u (by omega)];exact⟨_,rfl⟩
 ·rw[h.cellAt (k*6+4) (by omega),A4u (by omega)];exact⟨_,rfl⟩
 ·rw[h.cellAt (k*6+5) (by omega),A4u (by omega)];exact⟨_,rfl⟩
theorem A2w {w:World} {base g cap n:Nat} {e:TypeId} {xs:List Value} (h:w.ownsRow base e 6 (.slice (some ⟨g,0,none⟩) n cap) n xs) (k:Nat):
  w.frozen? ⟨g,k*6,none⟩=false/\w.frozen? ⟨g,k*6+1,none⟩=false/\w.frozen? ⟨g,k*6+2,none⟩=false/\w.frozen? ⟨g,k*6+3,none⟩=false/\w.frozen? ⟨g,k*6+4,none⟩=false/\w.frozen? ⟨g,k*6+5,none⟩=false:=⟨h.frozenAt _,h.frozenAt _,h.frozenAt _,h.frozenAt _,h.frozenAt _,h.frozenAt _⟩
theorem Acw:(Tryz.prog.info? 49).map (λi=>(i.zero,i.size,i.bytes))=some (some (.agg #[.int .i64 0, .slice none 0 0]),2,32):=by kernel_rfl
theorem Abf:(Tryz.prog.info? 52).map (λi=>(i.zero,i.size,i.bytes))=some (some (.agg #[.int .i64 0, .int .i64 0, .slice none 0 0, .slice none 0 0]),4,64):=by kernel_rfl
theorem Agb:(Tryz.prog.info? 55).map (λi=>(i.zero,i.size,i.bytes))=some (some (.agg #[.int .i64 0, .int .i64 0, .slice none 0 0, .slice none 0 0, .slice none 0 0, .slice none 0 0]),6,112):=by kernel_rfl
theorem Pz {left:Int} {n:Nat} (h:left - n<0):szL left n=-1:=by unfold szL;rw[if_pos h]
theorem Aam {left:Int} {n:Nat} (h:¬left - n<0):szL left n=left - n:=by unfold szL;rw[if_neg h]
theorem Aim (x:Stil.Elem) (hx:x.wf):∀(av:Value) (q:Int) (w:World),Bg w av x.args->0<=q->q<=1048576->Calls Tryz.prog 59 #[.agg #[.int .i64 x.op,av], .int .i64 q] w λe w'=>e=.returned (.int .i64 (szL q (O9 x)))/\Below w.heap.size w w':=by
 intro av q w hav h1 h2;obtain⟨a,cap,rfl,_⟩:=hav;exact Ax1 x.op a _ cap q w h1 h2 hx.2.1
theorem Aul (es:List Stil.Elem) (ih:∀x∈es,∀(av:Value) (q:Int) (w:World),Bg w av x.args->0<=q->q<=1048576->Calls Tryz.prog 59 #[.agg #[.int .i64 x.op,av], .int .i64 q] w λe w'=>e=.returned (.int .i64 (szL q (O9 x)))/\Below w.heap.size w w') (v:Value) (left:Int) (w:World) (hat:Ef w v es) (h1:0<=left) (h2:left<=1048576) (hl:es.length<=9223372036854775807):
  Calls Tryz.prog 36 #[v, .int .i64 left] w λe w'=>e=.returned (.int .i64 (szL left (Qg es)))/\Below w.heap.size w w':=by
 obtain⟨a,cap,rfl,hc⟩:=hat;have HC:=hid hc;have IH:=hid ih;obtain⟨T,hT⟩:∃T,T=(es.map O9).sum:=⟨_,rfl⟩
 have HS:Hid (Qg es=es.length+T):=by show _=_;rw[hT];rfl
 clear hc ih;by_cases h:left - es.length<0
 ·have HQ:Hid (szL left (Qg es)=-1):=by show _=_;unfold szL;rw[if_pos (by have:=HS.out;omega)]
  clear hT;go_enter Tryz.func36,Tryz.ntmps36
  go_wp2
  go_ret;exact⟨D7 (by rw[HQ.out]),Below.refl _ _⟩
 have hl2:es.length<=1048576:=by omega
 go_enter Tryz.func36,Tryz.ntmps36
 go_wp2
 go_loopw [1,5] (λlf i wr=>∃j A:Nat,j<=es.length/\i=.int .i64 j/\A=((es.map O9).take j).sum/\0<=left - es.length - A/\lf=.int .i64 (left - es.length - A)/\Below w.heap.size w wr) (λ_ i _=>es.length - (intOf i).toNat)
 case atStart=>exact⟨0,0,by omega,rfl,by simp,by omega,by simp,Below.refl _ _⟩
 case round=>
  obtain⟨j,A,hj,rfl,hA,hge,rfl,hB⟩:=hrel;by_cases hlt:j<es.length
  ·obtain⟨b,o,rfl,hbl,hn⟩:=HC.out j hlt
   have hn2:=(hn.below hB hbl)
   obtain⟨x0,av,x1,hav⟩:=id hn2;have hsucc:=Ip (es.map O9) j (by simpa using hlt);have hle2:=He (es.map O9) (j+1);rw[List.getElem_map] at hsucc;have HI:=hid (λW hW q=>IH.out es[j] (A4k hlt) _ q W (hav.below hW));obtain⟨s,hs⟩:∃s,s=O9 es[j]:=⟨_,rfl⟩
   obtain⟨x,hx⟩:∃x,x=es[j]:=⟨_,rfl⟩
   rw[<-hs] at HI hsucc;rw[<-hx] at HI x0;obtain⟨p0,r0,rfl,_⟩:=hav;obtain⟨q,hq⟩:∃q,q=left - es.length - A:=⟨_,rfl⟩
   have hq0:0<=q:=by omega
   have hq1:q<=1048576:=by omega
   rw[<-hA] at hsucc;have HN:=hid hsucc;have HT:Hid (A+s<=T):=by show _<=_;rw[hT];omega
   have hq2:=hq.symm;rw[hq2];have HQ2:=hid hq;clear hs hx hn hn2 hsucc hle2 hT hA hq hq2 hge;by_cases hneg:q - s<0
   ·have HZ:Hid (szL q s=-1):=by show _=_;unfold szL;rw[if_pos hneg]
    have HE:Hid (szL left (Qg es)=-1):=by show _=_;unfold szL;rw[if_pos (by have:=HS.out;have:=HT.out;have:=HQ2.out;omega)]
    clear hneg
    go_wp2_with (go_at_call 59;refine(HI.out _ blB _ hq0 hq1).mono ?_;rw[HZ.out];rintro e w2 ⟨rfl,hb2⟩)
    go_ret;exact⟨D7 (by rw[HE.out]),Cj hB (by first | exact hb2 | exact Ik hb2)⟩
   ·obtain⟨q',hq'⟩:∃q':Int,q'=q - s:=⟨_,rfl⟩
    have hq'0:0<=q':=by omega
    have HZ:Hid (szL q s=q'):=by show _=_;unfold szL;rw[if_neg hneg,hq']
    have HQ3:=hid hq';clear hneg hq'
    go_wp2_with (go_at_call 59;refine(HI.out _ blB _ hq0 hq1).mono ?_;rw[HZ.out];rintro e w2 ⟨rfl,hb2⟩)
    refine⟨⟨j+1,A+s,by omega,by go_num,HN.out.symm,?_,?_,Cj hB (by first | exact hb2 | exact Ik hb2)⟩,by simp[intOf];omega⟩
    ·have:=HQ2.out;have:=HQ3.out;omega
    ·have:=HQ2.out;have:=HQ3.out;congr 1;omega
  ·go_wp2
   go_ret;refine⟨D7 ?_,hB⟩;have hA2:A=T:=by rw[hA,A48 (by simp;omega),hT]
   rw[HS.out];unfold szL;rw[if_neg (by omega)];omega
theorem Ax0 (es:List Stil.Net) (ih:∀x∈es,∀(av kv:Value) (q:Int) (w:World),Bg w av x.one.args->Dq w kv x.kids->0<=q->q<=1048576->Calls Tryz.prog 35 #[.agg #[.int .i64 x.kind, .int .i64 x.one.op,av,kv], .int .i64 q] w λe w'=>e=.returned (.int .i64 (szL q (Nk x)))/\Below w.heap.size w w') (v:Value) (left:Int) (w:World) (hat:Dq w v es) (h1:0<=left) (h2:left<=1048576) (hl:es.length<=9223372036854775807):
  Calls Tryz.prog 60 #[v, .int .i64 left] w λe w'=>e=.returned (.int .i64 (szL left (Ack es)))/\Below w.heap.size w w':=by
 obtain⟨a,cap,rfl,hc⟩:=hat;have HC:=hid hc;have IH:=hid ih;obtain⟨T,hT⟩:∃T,T=(es.map Nk).sum:=⟨_,rfl⟩
 have HS:Hid (Ack es=es.length+T):=by show _=_;rw[hT];rfl
 clear hc ih;by_cases h:left - es.length<0
 ·have HQ:Hid (szL left (Ack es)=-1):=by show _=_;unfold szL;rw[if_pos (by have:=HS.out;omega)]
  clear hT;go_enter Tryz.func60,Tryz.ntmps60
  go_wp2
  go_ret;exact⟨D7 (by rw[HQ.out]),Below.refl _ _⟩
 have hl2:es.length<=1048576:=by omega
 go_enter Tryz.func60,Tryz.ntmps60
 go_wp2
 go_loopw [1,5] (λlf i wr=>∃j A:Nat,j<=es.length/\i=.int .i64 j/\A=((es.map Nk).take j).sum/\0<=left - es.length - A/\lf=.int .i64 (left - es.length - A)/\Below w.heap.size w wr) (λ_ i _=>es.length - (intOf i).toNat)
 case atStart=>exact⟨0,0,by omega,rfl,by simp,by omega,by simp,Below.refl _ _⟩
 case round=>
  obtain⟨j,A,hj,rfl,hA,hge,rfl,hB⟩:=hrel;by_cases hlt:j<es.length
  ·obtain⟨b,o,rfl,hbl,hn⟩:=HC.out j hlt
   have hn2:=(Me.below hB _ _ _ hn hbl)
   obtain⟨x0,x1,av,kv,x2,x3,hav,hkv⟩:=(hn2).open;have hsucc:=Ip (es.map Nk) j (by simpa using hlt);have hle2:=He (es.map Nk) (j+1);rw[List.getElem_map] at hsucc;have HI:=hid (λW hW q=>IH.out es[j] (A4k hlt) _ _ q W (hav.below hW) (hkv.below hW));obtain⟨s,hs⟩:∃s,s=Nk es[j]:=⟨_,rfl⟩
   obtain⟨x,hx⟩:∃x,x=es[j]:=⟨_,rfl⟩
   rw[<-hs] at HI hsucc;rw[<-hx] at HI x0 x1;obtain⟨p0,r0,rfl,_⟩:=hav;obtain⟨p1,r1,rfl,_⟩:=hkv;obtain⟨q,hq⟩:∃q,q=left - es.length - A:=⟨_,rfl⟩
   have hq0:0<=q:=by omega
   have hq1:q<=1048576:=by omega
   rw[<-hA] at hsucc;have HN:=hid hsucc;have HT:Hid (A+s<=T):=by show _<=_;rw[hT];omega
   have hq2:=hq.symm;rw[hq2];have HQ2:=hid hq;clear hs hx hn hn2 hsucc hle2 hT hA hq hq2 hge;by_cases hneg:q - s<0
   ·have HZ:Hid (szL q s=-1):=by show _=_;unfold szL;rw[if_pos hneg]
    have HE:Hid (szL left (Ack es)=-1):=by show _=_;unfold szL;rw[if_pos (by have:=HS.out;have:=HT.out;have:=HQ2.out;omega)]
    clear hneg
    go_wp2_with (go_at_call 35;refine(HI.out _ blB _ hq0 hq1).mono ?_;rw[HZ.out];rintro e w2 ⟨rfl,hb2⟩)
    go_ret;exact⟨D7 (by rw[HE.out]),Cj hB (by first | exact hb2 | exact Ik hb2)⟩
   ·obtain⟨q',hq'⟩:∃q':Int,q'=q - s:=⟨_,rfl⟩
    have hq'0:0<=q':=by omega
    have HZ:Hid (szL q s=q'):=by show _=_;unfold szL;rw[if_neg hneg,hq']
    have HQ3:=hid hq';clear hneg hq'
    go_wp2_with (go_at_call 35;refine(HI.out _ blB _ hq0 hq1).mono ?_;rw[HZ.out];rintro e w2 ⟨rfl,hb2⟩)
    refine⟨⟨j+1,A+s,by omega,by go_num,HN.out.symm,?_,?_,Cj hB (by first | exact hb2 | exact Ik hb2)⟩,by simp[intOf];omega⟩
    ·have:=HQ2.out;have:=HQ3.out;omega
    ·have:=HQ2.out;have:=HQ3.out;congr 1;omega
  ·go_wp2
   go_ret;refine⟨D7 ?_,hB⟩;have hA2:A=T:=by rw[hA,A48 (by simp;omega),hT]
   rw[HS.out];unfold szL;rw[if_neg (by omega)];omega
theorem Anh (es:List Stil.Arm) (ih:∀x∈es,∀(av nv cv kv:Value) (q:Int) (w:World),Bg w av x.net.one.args->Dq w nv x.net.kids->Ef w cv x.coils->Dv w kv x.kids->0<=q->q<=1048576->Calls Tryz.prog 16 #[.agg #[.int .i64 x.net.kind, .int .i64 x.net.one.op,av,nv,cv,kv], .int .i64 q] w λe w'=>e=.returned (.int .i64 (szL q (O6 x)))/\Below w.heap.size w w') (v:Value) (left:Int) (w:World) (hat:Dv w v es) (h1:0<=left) (h2:left<=1048576) (hl:es.length<=9223372036854775807):
  Calls Tryz.prog 5 #[v, .int .i64 left] w λe w'=>e=.returned (.int .i64 (szL left (Qj es)))/\Below w.heap.size w w':=by
 obtain⟨a,cap,rfl,hc⟩:=hat;have HC:=hid hc;have IH:=hid ih;obtain⟨T,hT⟩:∃T,T=(es.map O6).sum:=⟨_,rfl⟩
 have HS:Hid (Qj es=es.length+T):=by show _=_;rw[hT];rfl
 clear hc ih;by_cases h:left - es.length<0
 ·have HQ:Hid (szL left (Qj es)=-1):=by show _=_;unfold szL;rw[if_pos (by have:=HS.out;omega)]
  clear hT;go_enter Tryz.func5,Tryz.ntmps5
  go_wp2
  go_ret;exact⟨D7 (by rw[HQ.out]),Below.refl _ _⟩
 have hl2:es.length<=1048576:=by omega
 go_enter Tryz.func5,Tryz.ntmps5
 go_wp2
 go_loopw [1,5] (λlf i wr=>∃j A:Nat,j<=es.length/\i=.int .i64 j/\A=((es.map O6).take j).sum/\0<=left - es.length - A/\lf=.int .i64 (left - es.length - A)/\Below w.heap.size w wr) (λ_ i _=>es.length - (intOf i).toNat)
 case atStart=>exact⟨0,0,by omega,rfl,by simp,by omega,by simp,Below.refl _ _⟩
 case round=>
  obtain⟨j,A,hj,rfl,hA,hge,rfl,hB⟩:=hrel;by_cases hlt:j<es.length
  ·obtain⟨b,o,rfl,hbl,hn⟩:=HC.out j hlt
   have hn2:=(Pg.below hB _ _ _ hn hbl)
   obtain⟨hna,cv,kv,x4,x5,hcv,hkv⟩:=(hn2).open;obtain⟨x0,x1,av,nv,x2,x3,hav,hnv⟩:=hna.open;have hsucc:=Ip (es.map O6) j (by simpa using hlt);have hle2:=He (es.map O6) (j+1);rw[List.getElem_map] at hsucc;have HI:=hid (λW hW q=>IH.out es[j] (A4k hlt) _ _ _ _ q W (hav.below hW) (hnv.below hW) (hcv.below hW) (hkv.below hW));obtain⟨s,hs⟩:∃s,s=O6 es[j]:=⟨_,rfl⟩
   obtain⟨x,hx⟩:∃x,x=es[j]:=⟨_,rfl⟩
   rw[<-hs] at HI hsucc;rw[<-hx] at HI x0 x1;obtain⟨p0,r0,rfl,_⟩:=hav;obtain⟨p1,r1,rfl,_⟩:=hnv;obtain⟨p2,r2,rfl,_⟩:=hcv;obtain⟨p3,r3,rfl,_⟩:=hkv;obtain⟨q,hq⟩:∃q,q=left - es.length - A:=⟨_,rfl⟩
   have hq0:0<=q:=by omega
   have hq1:q<=1048576:=by omega
   rw[<-hA] at hsucc;have HN:=hid hsucc;have HT:Hid (A+s<=T):=by show _<=_;rw[hT];omega
   have hq2:=hq.symm;rw[hq2];have HQ2:=hid hq;clear hs hx hn hn2 hsucc hle2 hT hA hq hq2 hge;by_cases hneg:q - s<0
   ·have HZ:Hid (szL q s=-1):=by show _=_;unfold szL;rw[if_pos hneg]
    have HE:Hid (szL left (Qj es)=-1):=by show _=_;unfold szL;rw[if_pos (by have:=HS.out;have:=HT.out;have:=HQ2.out;omega)]
    clear hneg
    go_wp2_with (go_at_call 16;refine(HI.out _ blB _ hq0 hq1).mono ?_;rw[HZ.out];rintro e w2 ⟨rfl,hb2⟩)
    go_ret;exact⟨D7 (by rw[HE.out]),Cj hB (by first | exact hb2 | exact Ik hb2)⟩
   ·obtain⟨q',hq'⟩:∃q':Int,q'=q - s:=⟨_,rfl⟩
    have hq'0:0<=q':=by omega
    have HZ:Hid (szL q s=q'):=by show _=_;unfold szL;rw[if_neg hneg,hq']
    have HQ3:=hid hq';clear hneg hq'
    go_wp2_with (go_at_call 16;refine(HI.out _ blB _ hq0 hq1).mono ?_;rw[HZ.out];rintro e w2 ⟨rfl,hb2⟩)
    refine⟨⟨j+1,A+s,by omega,by go_num,HN.out.symm,?_,?_,Cj hB (by first | exact hb2 | exact Ik hb2)⟩,by simp[intOf];omega⟩
    ·have:=HQ2.out;have:=HQ3.out;omega
    ·have:=HQ2.out;have:=HQ3.out;congr 1;omega
  ·go_wp2
   go_ret;refine⟨D7 ?_,hB⟩;have hA2:A=T:=by rw[hA,A48 (by simp;omega),hT]
   rw[HS.out];unfold szL;rw[if_neg (by omega)];omega
theorem A0s (n:Stil.Net):Acn n->∀(av kv:Value) (q:Int) (w:World),Bg w av n.one.args->Dq w kv n.kids->0<=q->q<=1048576->Calls Tryz.prog 35 #[.agg #[.int .i64 n.kind, .int .i64 n.one.op,av,kv], .int .i64 q] w λe w'=>e=.returned (.int .i64 (szL q (Nk n)))/\Below w.heap.size w w':=by
 induction n using Fg with
 | h k e kids ih=>
  intro hwf av kv q w hav hkv h1 h2;obtain⟨_,he,hl,hk⟩:=(Abd _ _ _).1 hwf;simp only at hav hkv;have H1:=hid (λW hW=>Aim e he av q W (hav.below hW) h1 h2);have H2:=hid (λW hW q' hq hq2=>Ax0 kids (λx hx=>ih x hx (hk x hx)) kv q' W (hkv.below hW) hq hq2 hl);have HS:Hid (Nk ⟨k,e,kids⟩=O9 e+Ack kids):=Ak8 _;obtain⟨s1,hs1⟩:∃s1,s1=O9 e:=⟨_,rfl⟩
  obtain⟨s2,hs2⟩:∃s2,s2=Ack kids:=⟨_,rfl⟩
  rw[<-hs1] at H1 HS;rw[<-hs2] at H2 HS;obtain⟨p0,r0,rfl,_⟩:=hav;obtain⟨p1,r1,rfl,_⟩:=hkv;clear ih hwf he hl hk hs1 hs2;by_cases hn1:q - s1<0
  ·have HZ:=hid (Pz hn1)
   have HE:Hid (szL q (Nk ⟨k,e,kids⟩)=-1):=Pz (by have:=HS.out;omega);clear hn1;go_enter Tryz.func35,Tryz.ntmps35
   go_wp2_with (go_at_call 59;refine(H1.out _ blB).mono ?_;rw[HZ.out];rintro e w1 ⟨rfl,hb⟩)
   go_ret;exact⟨D7 (by rw[HE.out]),blB⟩
  ·obtain⟨q1,hq1⟩:∃q1:Int,q1=q - s1:=⟨_,rfl⟩
   have hq10:0<=q1:=by omega
   have hq11:q1<=1048576:=by omega
   have HZ:Hid (szL q s1=q1):=by show _=_;rw[Aam hn1,hq1]
   by_cases hn2:q1 - s2<0
   ·have HZ2:=hid (Pz hn2)
    have HE:Hid (szL q (Nk ⟨k,e,kids⟩)=-1):=Pz (by have:=HS.out;omega);clear hn1 hn2 hq1;go_enter Tryz.func35,Tryz.ntmps35
    go_wp2_with (first | (go_at_call 59;refine(H1.out _ blB).mono ?_;rw[HZ.out];rintro e w1 ⟨rfl,hb⟩;obtain⟨hc,hf⟩:=Dl hb) | (go_at_call 60;refine(H2.out _ blB _ hq10 hq11).mono ?_;rw[HZ2.out];rintro e w2 ⟨rfl,hb2⟩))
    go_ret;exact⟨D7 (by rw[HE.out]),blB⟩
   ·obtain⟨q2,hq2⟩:∃q2:Int,q2=q1 - s2:=⟨_,rfl⟩
    have hq20:0<=q2:=by omega
    have HZ2:Hid (szL q1 s2=q2):=by show _=_;rw[Aam hn2,hq2]
    have HE:Hid (szL q (Nk ⟨k,e,kids⟩)=q2):=by show _=_;rw[Aam (by have:=HS.out;omega)];have:=HS.out;omega
    clear hn1 hn2 hq1 hq2;go_enter Tryz.func35,Tryz.ntmps35
    go_wp2_with (first | (go_at_call 59;refine(H1.out _ blB).mono ?_;rw[HZ.out];rintro e w1 ⟨rfl,hb⟩;obtain⟨hc,hf⟩:=Dl hb) | (go_at_call 60;refine(H2.out _ blB _ hq10 hq11).mono ?_;rw[HZ2.out];rintro e w2 ⟨rfl,hb2⟩))
    go_ret;exact⟨D7 (by rw[HE.out]),blB⟩
theorem A0t (n:Stil.Arm):Adl n->∀(av nv cv kv:Value) (q:Int) (w:World),Bg w av n.net.one.args->Dq w nv n.net.kids->Ef w cv n.coils->Dv w kv n.kids->0<=q->q<=1048576->Calls Tryz.prog 16 #[.agg #[.int .i64 n.net.kind, .int .i64 n.net.one.op,av,nv,cv,kv], .int .i64 q] w λe w'=>e=.returned (.int .i64 (szL q (O6 n)))/\Below w.heap.size w w':=by
 induction n using Fz with
 | h n coils kids ih=>
  intro hwf av nv cv kv q w hav hnv hcv hkv h1 h2;obtain⟨hn,hl1,hcw,hl,hk⟩:=(Aha _ _ _).1 hwf;simp only at hav hnv hcv hkv;have H1:=hid (λW hW=>A0s n hn av nv q W (hav.below hW) (hnv.below hW) h1 h2);have H2:=hid (λW hW q' hq hq2=>Aul coils (λx hx=>Aim x (hcw x hx)) cv q' W (hcv.below hW) hq hq2 hl1);have H3:=hid (λW hW q' hq hq2=>Anh kids (λx hx=>ih x hx (hk x hx)) kv q' W (hkv.below hW) hq hq2 hl);have HS:Hid (O6 ⟨n,coils,kids⟩=Nk n+(Qg coils+Qj kids)):=Amh _;obtain⟨s1,hs1⟩:∃s1,s1=Nk n:=⟨_,rfl⟩
  obtain⟨s2,hs2⟩:∃s2,s2=Qg coils:=⟨_,rfl⟩
  obtain⟨s3,hs3⟩:∃s3,s3=Qj kids:=⟨_,rfl⟩
  rw[<-hs1] at H1 HS;rw[<-hs2] at H2 HS;rw[<-hs3] at H3 HS;obtain⟨p0,r0,rfl,_⟩:=hav;obtain⟨p1,r1,rfl,_⟩:=hnv;obtain⟨p2,r2,rfl,_⟩:=hcv;obtain⟨p3,r3,rfl,_⟩:=hkv;clear ih hwf hn hl1 hcw hl hk hs1 hs2 hs3;by_cases hn1:q - s1<0
  ·have HZ1:=hid (Pz hn1)
   have HE:Hid (szL q (O6 ⟨n,coils,kids⟩)=-1):=Pz (by have:=HS.out;omega);clear hn1;go_enter Tryz.func16,Tryz.ntmps16
   go_wp2_with (go_at_call 35;refine(H1.out _ blB).mono ?_;rw[HZ1.out];rintro e w1 ⟨rfl,hb⟩;obtain⟨hc,hf⟩:=Dl hb;have hz1:w.heap.size<w1.heap.size:=A4c (by simp) hb.size)
   go_ret;exact⟨D7 (by rw[HE.out]),blB⟩
  ·obtain⟨q1,hq1⟩:∃q1:Int,q1=q - s1:=⟨_,rfl⟩
   have hq10:0<=q1:=by omega
   have hq11:q1<=1048576:=by omega
   have HZ1:Hid (szL q s1=q1):=by show _=_;rw[Aam hn1,hq1]
   by_cases hn2:q1 - s2<0
   ·have HZ2:=hid (Pz hn2)
    have HE:Hid (szL q (O6 ⟨n,coils,kids⟩)=-1):=Pz (by have:=HS.out;omega);clear hn1 hn2 hq1;go_enter Tryz.func16,Tryz.ntmps16
    go_wp2_with (first | (go_at_call 35;refine(H1.out _ blB).mono ?_;rw[HZ1.out];rintro e w1 ⟨rfl,hb⟩;obtain⟨hc,hf⟩:=Dl hb;have hz1:w.heap.size<w1.heap.size:=A4c (by simp) hb.size) | (go_at_call 36;refine(H2.out _ blB _ hq10 hq11).mono ?_;rw[HZ2.out];rintro e w2 ⟨rfl,hb2⟩;obtain⟨hc2,hf2⟩:=Dl hb2))
    go_ret;exact⟨D7 (by rw[HE.out]),blB⟩
   ·obtain⟨q2,hq2⟩:∃q2:Int,q2=q1 - s2:=⟨_,rfl⟩
    have hq20:0<=q2:=by omega
    have hq21:q2<=1048576:=by omega
    have HZ2:Hid (szL q1 s2=q2):=by show _=_;rw[Aam hn2,hq2]
    by_cases hn3:q2 - s3<0
    ·have HZ3:=hid (Pz hn3)
     have HE:Hid (szL q (O6 ⟨n,coils,kids⟩)=-1):=Pz (by have:=HS.out;omega);clear hn1 hn2 hn3 hq1 hq2;go_enter Tryz.func16,Tryz.ntmps16
     go_wp2_with (first | (go_at_call 35;refine(H1.out _ blB).mono ?_;rw[HZ1.out];rintro e w1 ⟨rfl,hb⟩;obtain⟨hc,hf⟩:=Dl hb;have hz1:w.heap.size<w1.heap.size:=A4c (by simp) hb.size) | (go_at_call 36;refine(H2.out _ blB _ hq10 hq11).mono ?_;rw[HZ2.out];rintro e w2 ⟨rfl,hb2⟩;obtain⟨hc2,hf2⟩:=Dl hb2) | (go_at_call 5;refine(H3.out _ blB _ hq20 hq21).mono ?_;rw[HZ3.out];rintro e w3 ⟨rfl,hb3⟩))
     go_ret;exact⟨D7 (by rw[HE.out]),blB⟩
    ·obtain⟨q3,hq3⟩:∃q3:Int,q3=q2 - s3:=⟨_,rfl⟩
     have hq30:0<=q3:=by omega
     have HZ3:Hid (szL q2 s3=q3):=by show _=_;rw[Aam hn3,hq3]
     have HE:Hid (szL q (O6 ⟨n,coils,kids⟩)=q3):=by show _=_;rw[Aam (by have:=HS.out;omega)];have:=HS.out;omega
     clear hn1 hn2 hn3 hq1 hq2 hq3;go_enter Tryz.func16,Tryz.ntmps16
     go_wp2_with (first | (go_at_call 35;refine(H1.out _ blB).mono ?_;rw[HZ1.out];rintro e w1 ⟨rfl,hb⟩;obtain⟨hc,hf⟩:=Dl hb;have hz1:w.heap.size<w1.heap.size:=A4c (by simp) hb.size) | (go_at_call 36;refine(H2.out _ blB _ hq10 hq11).mono ?_;rw[HZ2.out];rintro e w2 ⟨rfl,hb2⟩;obtain⟨hc2,hf2⟩:=Dl hb2) | (go_at_call 5;refine(H3.out _ blB _ hq20 hq21).mono ?_;rw[HZ3.out];rintro e w3 ⟨rfl,hb3⟩))
     go_ret;exact⟨D7 (by rw[HE.out]),blB⟩
theorem Aun (es:List Stil.Elem) (ih:∀x∈es,∀(av avq:Value) (w:World),Bg w av x.args->Bg w avq x.args->Calls Tryz.prog 46 #[.agg #[.int .i64 x.op,av], .agg #[.int .i64 x.op,avq]] w λe w'=>e=.returned (.bool true)/\Below w.heap.size w w') (v u:Value) (w:World) (hat:Ef w v es) (hau:Ef w u es) (hl:es.length<=1048576):
  Calls Tryz.prog 48 #[v,u] w λe w'=>e=.returned (.bool true)/\Below w.heap.size w w':=by
 obtain⟨a,cap,rfl,hc⟩:=hat;obtain⟨a2,cap2,rfl,hc2⟩:=hau;have HA:=hid hc;have HB:=hid hc2;have IH:=hid ih;clear hc hc2 ih;go_enter Tryz.func48,Tryz.ntmps48
 go_wp2
 go_loopw [5] (λi wr=>∃k:Nat,k<=es.length/\i=.int .i64 k/\Below w.heap.size w wr) (λi _=>es.length - (intOf i).toNat)
 case atStart=>exact⟨0,by omega,rfl,Below.refl _ _⟩
 case round=>
  obtain⟨k,hk,rfl,hb⟩:=hrel;by_cases hlt:k<es.length
  ·obtain⟨b,o,rfl,hbl,hn⟩:=HA.out k hlt
   have hn2:=(hn.below hb hbl)
   obtain⟨b2,o2,rfl,hbl2,hm⟩:=HB.out k hlt;have hm2:=(hm.below hb hbl2)
   obtain⟨x0,av,x1,hav⟩:=id hn2;obtain⟨y0,avq,y1,havq⟩:=id hm2;have HI:=hid (λW hW=>IH.out es[k] (A4k hlt) _ _ W (hav.below hW) (havq.below hW));obtain⟨x,hx⟩:∃x,x=es[k]:=⟨_,rfl⟩
   rw[<-hx] at HI x0 y0;obtain⟨p0,r0,rfl,_⟩:=hav;obtain⟨pq0,rq0,rfl,_⟩:=havq;clear hx hn hn2 hm hm2;have rx0:=cell_regrown x0;have ry0:=cell_regrown y0;have rx1:=cell_regrown x1;have ry1:=cell_regrown y1
   go_wp2
   refine wp_region_quiet_below (by kernel_rfl) (by kernel_rfl) ?_;repeat (go_big_quiet_step ((exact Calls.regrown_of (HI.out _ blB))))
   refine wpQuiet_nil ?_;intro _ hw';obtain⟨⟨dq,osq⟩,hw''⟩:=hw';subst hw''
   go_wp2
   exact⟨⟨k+1,by omega,by go_num,G7 hb _ _⟩,by simp[intOf];omega⟩
  ·go_wp2
   go_ret;exact⟨rfl,hb⟩
theorem Ax2 (es:List Stil.Net) (ih:∀x∈es,∀(av kv avq kvq:Value) (w:World),Bg w av x.one.args->Dq w kv x.kids->Bg w avq x.one.args->Dq w kvq x.kids->Calls Tryz.prog 47 #[.agg #[.int .i64 x.kind, .int .i64 x.one.op,av,kv], .agg #[.int .i64 x.kind, .int .i64 x.one.op,avq,kvq]] w λe w'=>e=.returned (.bool true)/\Below w.heap.size w w') (v u:Value) (w:World) (hat:Dq w v es) (hau:Dq w u es) (hl:es.length<=1048576):
  Calls Tryz.prog 77 #[v,u] w λe w'=>e=.returned (.bool true)/\Below w.heap.size w w':=by
 obtain⟨a,cap,rfl,hc⟩:=hat;obtain⟨a2,cap2,rfl,hc2⟩:=hau;have HA:=hid hc;have HB:=hid hc2;have IH:=hid ih;clear hc hc2 ih;go_enter Tryz.func77,Tryz.ntmps77
 go_wp2
 go_loopw [5] (λi wr=>∃k:Nat,k<=es.length/\i=.int .i64 k/\Below w.heap.size w wr) (λi _=>es.length - (intOf i).toNat)
 case atStart=>exact⟨0,by omega,rfl,Below.refl _ _⟩
 case round=>
  obtain⟨k,hk,rfl,hb⟩:=hrel;by_cases hlt:k<es.length
  ·obtain⟨b,o,rfl,hbl,hn⟩:=HA.out k hlt
   have hn2:=(Me.below hb _ _ _ hn hbl)
   obtain⟨b2,o2,rfl,hbl2,hm⟩:=HB.out k hlt;have hm2:=(Me.below hb _ _ _ hm hbl2)
   obtain⟨x0,x1,av,kv,x2,x3,hav,hkv⟩:=(hn2).open;obtain⟨y0,y1,avq,kvq,y2,y3,havq,hkvq⟩:=(hm2).open;have HI:=hid (λW hW=>IH.out es[k] (A4k hlt) _ _ _ _ W (hav.below hW) (hkv.below hW) (havq.below hW) (hkvq.below hW));obtain⟨x,hx⟩:∃x,x=es[k]:=⟨_,rfl⟩
   rw[<-hx] at HI x0 x1 y0 y1;obtain⟨p0,r0,rfl,_⟩:=hav;obtain⟨pq0,rq0,rfl,_⟩:=havq;obtain⟨p1,r1,rfl,_⟩:=hkv;obtain⟨pq1,rq1,rfl,_⟩:=hkvq;clear hx hn hn2 hm hm2;have rx0:=cell_regrown x0;have ry0:=cell_regrown y0;have rx1:=cell_regrown x1;have ry1:=cell_regrown y1;have rx2:=cell_regrown x2;have ry2:=cell_regrown y2;have rx3:=cell_regrown x3;have ry3:=cell_regrown y3
   go_wp2
   refine wp_region_quiet_below (by kernel_rfl) (by kernel_rfl) ?_;repeat (go_big_quiet_step ((exact Calls.regrown_of (HI.out _ blB))))
   refine wpQuiet_nil ?_;intro _ hw';obtain⟨⟨dq,osq⟩,hw''⟩:=hw';subst hw''
   go_wp2
   exact⟨⟨k+1,by omega,by go_num,G7 hb _ _⟩,by simp[intOf];omega⟩
  ·go_wp2
   go_ret;exact⟨rfl,hb⟩
theorem Anj (es:List Stil.Arm) (ih:∀x∈es,∀(av nv cv kv avq nvq cvq kvq:Value) (w:World),Bg w av x.net.one.args->Dq w nv x.net.kids->Ef w cv x.coils->Dv w kv x.kids->Bg w avq x.net.one.args->Dq w nvq x.net.kids->Ef w cvq x.coils->Dv w kvq x.kids->Calls Tryz.prog 24 #[.agg #[.int .i64 x.net.kind, .int .i64 x.net.one.op,av,nv,cv,kv], .agg #[.int .i64 x.net.kind, .int .i64 x.net.one.op,avq,nvq,cvq,kvq]] w λe w'=>e=.returned (.bool true)/\Below w.heap.size w w') (v u:Value) (w:World) (hat:Dv w v es) (hau:Dv w u es) (hl:es.length<=1048576):
  Calls Tryz.prog 10 #[v,u] w λe w'=>e=.returned (.bool true)/\Below w.heap.size w w':=by
 obtain⟨a,cap,rfl,hc⟩:=hat;obtain⟨a2,cap2,rfl,hc2⟩:=hau;have HA:=hid hc;have HB:=hid hc2;have IH:=hid ih;clear hc hc2 ih;go_enter Tryz.func10,Tryz.ntmps10
 go_wp2
 go_loopw [5] (λi wr=>∃k:Nat,k<=es.length/\i=.int .i64 k/\Below w.heap.size w wr) (λi _=>es.length - (intOf i).toNat)
 case atStart=>exact⟨0,by omega,rfl,Below.refl _ _⟩
 case round=>
  obtain⟨k,hk,rfl,hb⟩:=hrel;by_cases hlt:k<es.length
  ·obtain⟨b,o,rfl,hbl,hn⟩:=HA.out k hlt
   have hn2:=(Pg.below hb _ _ _ hn hbl)
   obtain⟨b2,o2,rfl,hbl2,hm⟩:=HB.out k hlt;have hm2:=(Pg.below hb _ _ _ hm hbl2)
   obtain⟨hna,cv,kv,x4,x5,hcv,hkv⟩:=(hn2).open;obtain⟨x0,x1,av,nv,x2,x3,hav,hnv⟩:=hna.open;obtain⟨hnaq,cvq,kvq,y4,y5,hcvq,hkvq⟩:=(hm2).open;obtain⟨y0,y1,avq,nvq,y2,y3,havq,hnvq⟩:=hnaq.open;have HI:=hid (λW hW=>IH.out es[k] (A4k hlt) _ _ _ _ _ _ _ _ W (hav.below hW) (hnv.below hW) (hcv.below hW) (hkv.below hW) (havq.below hW) (hnvq.below hW) (hcvq.below hW) (hkvq.below hW));obtain⟨x,hx⟩:∃x,x=es[k]:=⟨_,rfl⟩
   rw[<-hx] at HI x0 x1 y0 y1;obtain⟨p0,r0,rfl,_⟩:=hav;obtain⟨pq0,rq0,rfl,_⟩:=havq;obtain⟨p1,r1,rfl,_⟩:=hnv;obtain⟨pq1,rq1,rfl,_⟩:=hnvq;obtain⟨p2,r2,rfl,_⟩:=hcv;obtain⟨pq2,rq2,rfl,_⟩:=hcvq;obtain⟨p3,r3,rfl,_⟩:=hkv;obtain⟨pq3,rq3,rfl,_⟩:=hkvq;clear hx hn hn2 hm hm2;have rx0:=cell_regrown x0;have ry0:=cell_regrown y0;have rx1:=cell_regrown x1;have ry1:=cell_regrown y1;have rx2:=cell_regrown x2;have ry2:=cell_regrown y2;have rx3:=cell_regrown x3;have ry3:=cell_regrown y3;have rx4:=cell_regrown x4;have ry4:=cell_regrown y4;have rx5:=cell_regrown x5;have ry5:=cell_regrown y5
   go_wp2
   refine wp_region_quiet_below (by kernel_rfl) (by kernel_rfl) ?_;repeat (go_big_quiet_step ((exact Calls.regrown_of (HI.out _ blB))))
   refine wpQuiet_nil ?_;intro _ hw';obtain⟨⟨dq,osq⟩,hw''⟩:=hw';subst hw''
   go_wp2
   exact⟨⟨k+1,by omega,by go_num,G7 hb _ _⟩,by simp[intOf];omega⟩
  ·go_wp2
   go_ret;exact⟨rfl,hb⟩
theorem Aio (x:Stil.Elem) (hx:x.fits):∀(av avq:Value) (w:World),Bg w av x.args->Bg w avq x.args->Calls Tryz.prog 46 #[.agg #[.int .i64 x.op,av], .agg #[.int .i64 x.op,avq]] w λe w'=>e=.returned (.bool true)/\Below w.heap.size w w':=by
 intro av avq w hav havq;refine(Ani x.op x.op av avq x.args x.args w hav havq hx.2.1 hx.2.1).mono ?_;rintro e w1 ⟨rfl,hb⟩;exact⟨Ap (by simp),hb⟩
theorem A0u (n:Stil.Net):Cc n->∀(av kv avq kvq:Value) (w:World),Bg w av n.one.args->Dq w kv n.kids->Bg w avq n.one.args->Dq w kvq n.kids->Calls Tryz.prog 47 #[.agg #[.int .i64 n.kind, .int .i64 n.one.op,av,kv], .agg #[.int .i64 n.kind, .int .i64 n.one.op,avq,kvq]] w λe w'=>e=.returned (.bool true)/\Below w.heap.size w w':=by
 induction n using Fg with
 | h k e kids ih=>
  intro hft av kv avq kvq w hav hkv havq hkvq;obtain⟨_,he,hl,hk⟩:=(Fa _ _ _).1 hft;simp only at hav hkv havq hkvq;have H1:=hid (λW hW=>Aio e he av avq W (hav.below hW) (havq.below hW));have H2:=hid (λW hW=>Ax2 kids (λx hx=>ih x hx (hk x hx)) kv kvq W (hkv.below hW) (hkvq.below hW) hl);obtain⟨p0,r0,rfl,_⟩:=hav;obtain⟨p1,r1,rfl,_⟩:=hkv;obtain⟨p2,r2,rfl,_⟩:=havq;obtain⟨p3,r3,rfl,_⟩:=hkvq;clear ih hft he hl hk;go_enter Tryz.func47,Tryz.ntmps47
  go_wp2_with (first | (go_at_call 46;refine(H1.out _ blA).mono ?_;rintro e w1 ⟨rfl,hb⟩;obtain⟨hc,hf⟩:=Dl hb) | (go_at_call 77;refine(H2.out _ blA).mono ?_;rintro e w2 ⟨rfl,hb2⟩))
  go_ret;exact⟨rfl,blA⟩
theorem A0v (n:Stil.Arm):C9 n->∀(av nv cv kv avq nvq cvq kvq:Value) (w:World),Bg w av n.net.one.args->Dq w nv n.net.kids->Ef w cv n.coils->Dv w kv n.kids->Bg w avq n.net.one.args->Dq w nvq n.net.kids->Ef w cvq n.coils->Dv w kvq n.kids->Calls Tryz.prog 24 #[.agg #[.int .i64 n.net.kind, .int .i64 n.net.one.op,av,nv,cv,kv], .agg #[.int .i64 n.net.kind, .int .i64 n.net.one.op,avq,nvq,cvq,kvq]] w λe w'=>e=.returned (.bool true)/\Below w.heap.size w w':=by
 induction n using Fz with
 | h n coils kids ih=>
  intro hft av nv cv kv avq nvq cvq kvq w hav hnv hcv hkv havq hnvq hcvq hkvq;obtain⟨hn,hl1,hcw,hl,hk⟩:=(Ee _ _ _).1 hft;simp only at hav hnv hcv hkv havq hnvq hcvq hkvq;have H1:=hid (λW hW=>A0u n hn av nv avq nvq W (hav.below hW) (hnv.below hW) (havq.below hW) (hnvq.below hW));have H2:=hid (λW hW=>Aun coils (λx hx=>Aio x (hcw x hx)) cv cvq W (hcv.below hW) (hcvq.below hW) hl1);have H3:=hid (λW hW=>Anj kids (λx hx=>ih x hx (hk x hx)) kv kvq W (hkv.below hW) (hkvq.below hW) hl);obtain⟨p0,r0,rfl,_⟩:=hav;obtain⟨p1,r1,rfl,_⟩:=hnv;obtain⟨p2,r2,rfl,_⟩:=hcv;obtain⟨p3,r3,rfl,_⟩:=hkv;obtain⟨p4,r4,rfl,_⟩:=havq;obtain⟨p5,r5,rfl,_⟩:=hnvq;obtain⟨p6,r6,rfl,_⟩:=hcvq;obtain⟨p7,r7,rfl,_⟩:=hkvq;clear ih hft hn hl1 hcw hl hk;go_enter Tryz.func24,Tryz.ntmps24
  go_wp2_with (first | (go_at_call 47;refine(H1.out _ blA).mono ?_;rintro e w1 ⟨rfl,hb⟩;obtain⟨hc,hf⟩:=Dl hb;have hz0:w.heap.size<w1.heap.size:=A4c (by simp;omega) hb.size;have hz1:w.heap.size+1<w1.heap.size:=A4c (by simp) hb.size) | (go_at_call 48;refine(H2.out _ blA).mono ?_;rintro e w2 ⟨rfl,hb2⟩;obtain⟨hc2,hf2⟩:=Dl hb2) | (go_at_call 10;refine(H3.out _ blA).mono ?_;rintro e w3 ⟨rfl,hb3⟩))
  go_ret;exact⟨rfl,blA⟩
theorem Ayz {l:List Stil.Arm} (h:∀x∈l,Adl x) (hs:Qj l<=1048576):(∀x∈l,C9 x)/\l.length<=1048576:=by
 have e:Qj l=l.length+(l.map O6).sum:=rfl;refine⟨λx hx=>Arn x (h x hx) ?_,by omega⟩;have:=Ew O6 l x hx
 omega
theorem Ae3 (l:List Stil.Arm) (hw:∀x∈l,Adl x) (hl:l.length<=9223372036854775807) (v:Value) (q:Int) (W:World) (hat:Dv W v l) (h1:0<=q) (h2:q<=1048576):
  Calls Tryz.prog 5 #[v, .int .i64 q] W λe w'=>e=.returned (.int .i64 (szL q (Qj l)))/\Below W.heap.size W w':=
 Anh l (λx hx=>A0t x (hw x hx)) v q W hat h1 h2 hl
theorem Aps (l:List Stil.Arm) (hf:∀x∈l,C9 x) (hl:l.length<=1048576) (v u:Value) (W:World) (hat:Dv W v l) (hau:Dv W u l):
  Calls Tryz.prog 10 #[v,u] W λe w'=>e=.returned (.bool true)/\Below W.heap.size W w':=
 Anj l (λx hx=>A0v x (hf x hx)) v u W hat hau hl
end Go.Proofs.YtbfljjcnbbmoaaaGreatDoor
