import Derived.Test.YtbfljjcnbbmoaaaGreatDoorGU
set_option maxHeartbeats 4000000
set_option maxRecDepth 100000
namespace Go.Proofs.YtbfljjcnbbmoaaaGreatDoor
open Stil
open Go.RowKit Go.Sort Go.BigFrame
variable {base cap g n:Nat}{e:TypeId}{xs:List Value}
theorem A3g {w:World}(h:w.ownsRow base e 2 (.slice (some ⟨g,0,none⟩) n cap) n xs)(k:Nat)(hk:k<n):
  (∃u,w.cell? ⟨g,k*2,none⟩=some u)/\(∃u,w.cell? ⟨g,k*2+1,none⟩=some u):=by
 have hl:=h.1;refine⟨?_,?_⟩
 ·rw[h.cellAt (k*2) omz,A4p omz];exact⟨_,rfl⟩
 ·rw[h.cellAt (k*2+1) omz,A4p omz];exact⟨_,rfl⟩
theorem A2y {w:World}(h:w.ownsRow base e 2 (.slice (some ⟨g,0,none⟩) n cap) n xs)(k:Nat):
  w.frozen? ⟨g,k*2,none⟩=false/\w.frozen? ⟨g,k*2+1,none⟩=false:=⟨h.frozenAt _,h.frozenAt _⟩
theorem A3f {w:World}(h:w.ownsRow base e 4 (.slice (some ⟨g,0,none⟩) n cap) n xs)(k:Nat)(hk:k<n):
  (∃u,w.cell? ⟨g,k*4,none⟩=some u)/\(∃u,w.cell? ⟨g,k*4+1,none⟩=some u)/\(∃u,w.cell? ⟨g,k*4+2,none⟩=some u)/\(∃u,w.cell? ⟨g,k*4+3,none⟩=some u):=by
 have hl:=h.1;refine⟨?_,?_,?_,?_⟩
 ·rw[h.cellAt (k*4) omz,A4p omz];exact⟨_,rfl⟩
 ·rw[h.cellAt (k*4+1) omz,A4p omz];exact⟨_,rfl⟩
 ·rw[h.cellAt (k*4+2) omz,A4p omz];exact⟨_,rfl⟩
 ·rw[h.cellAt (k*4+3) omz,A4p omz];exact⟨_,rfl⟩
theorem A2x {w:World}(h:w.ownsRow base e 4 (.slice (some ⟨g,0,none⟩) n cap) n xs)(k:Nat):
  w.frozen? ⟨g,k*4,none⟩=false/\w.frozen? ⟨g,k*4+1,none⟩=false/\w.frozen? ⟨g,k*4+2,none⟩=false/\w.frozen? ⟨g,k*4+3,none⟩=false:=⟨h.frozenAt _,h.frozenAt _,h.frozenAt _,h.frozenAt _⟩
theorem A3e {w:World}(h:w.ownsRow base e 6 (.slice (some ⟨g,0,none⟩) n cap) n xs)(k:Nat)(hk:k<n):
  (∃u,w.cell? ⟨g,k*6,none⟩=some u)/\(∃u,w.cell? ⟨g,k*6+1,none⟩=some u)/\(∃u,w.cell? ⟨g,k*6+2,none⟩=some u)/\(∃u,w.cell? ⟨g,k*6+3,none⟩=some u)/\(∃u,w.cell? ⟨g,k*6+4,none⟩=some u)/\(∃u,w.cell? ⟨g,k*6+5,none⟩=some u):=by
 have hl:=h.1;refine⟨?_,?_,?_,?_,?_,?_⟩
 ·rw[h.cellAt (k*6) omz,A4p omz];exact⟨_,rfl⟩
 ·rw[h.cellAt (k*6+1) omz,A4p omz];exact⟨_,rfl⟩
 ·rw[h.cellAt (k*6+2) omz,A4p omz];exact⟨_,rfl⟩
 ·rw[h.cellAt (k*6+3) omz,A4p omz];exact⟨_,rfl⟩
 ·rw[h.cellAt (k*6+4) omz,A4p omz];exact⟨_,rfl⟩
 ·rw[h.cellAt (k*6+5) omz,A4p omz];exact⟨_,rfl⟩
theorem A2w {w:World}(h:w.ownsRow base e 6 (.slice (some ⟨g,0,none⟩) n cap) n xs)(k:Nat):
  w.frozen? ⟨g,k*6,none⟩=false/\w.frozen? ⟨g,k*6+1,none⟩=false/\w.frozen? ⟨g,k*6+2,none⟩=false/\w.frozen? ⟨g,k*6+3,none⟩=false/\w.frozen? ⟨g,k*6+4,none⟩=false/\w.frozen? ⟨g,k*6+5,none⟩=false:=⟨h.frozenAt _,h.frozenAt _,h.frozenAt _,h.frozenAt _,h.frozenAt _,h.frozenAt _⟩
theorem Adr:(Tryz.prog.info? 49).map (λi=>(i.zero,i.size,i.bytes))=some (some (.agg #[.int .i64 0, .slice none 0 0]),2,32):=krz
theorem Ab6:(Tryz.prog.info? 52).map (λi=>(i.zero,i.size,i.bytes))=some (some (.agg #[.int .i64 0, .int .i64 0, .slice none 0 0, .slice none 0 0]),4,64):=krz
theorem Ag3:(Tryz.prog.info? 55).map (λi=>(i.zero,i.size,i.bytes))=some (some (.agg #[.int .i64 0, .int .i64 0, .slice none 0 0, .slice none 0 0, .slice none 0 0, .slice none 0 0]),6,112):=krz
theorem Qk {left:Int}(h:left - n<0):szL left n=-1:=by unfold szL;rw[if_pos h]
theorem Aa9 {left:Int}(h:¬left - n<0):szL left n=left - n:=by unfold szL;rw[if_neg h]
theorem Ajd (x:Stil.Elem)(hx:x.wf):∀(av:Value) (q:Int) (w:World),Bi w av x.args->0<=q->q<=1048576->Calls Tryz.prog 59 #[.agg #[.int .i64 x.op,av], .int .i64 q] w λe w'=>e=.returned (.int .i64 (szL q (Px x)))/\Below w.heap.size w w':=by
 intro av q w hav h1 h2;obtain⟨a,cap,rfl,_⟩:=hav;exact Aye x.op a _ cap q w h1 h2 hx.2.1
theorem zj0 {p:Prop}(h:p:=by
 go_wp2
 go_ret;refine⟨C9 ?_,hB⟩;have hA2:A=T:=by rw[hA,A43 (by simp;omega),hT]
 rw[HS.out];unfold szL;rw[if_neg omz];omega):p:=h
theorem Au6 (es:List Stil.Elem)(ih:∀x∈es,∀(av:Value) (q:Int) (w:World),Bi w av x.args->0<=q->q<=1048576->Calls Tryz.prog 59 #[.agg #[.int .i64 x.op,av], .int .i64 q] w λe w'=>e=.returned (.int .i64 (szL q (Px x)))/\Below w.heap.size w w')(v:Value)(left:Int)(w:World)(hat:En w v es)(h1:0<=left)(h2:left<=1048576)(hl:es.length<=9223372036854775807):
  Calls Tryz.prog 36 #[v, .int .i64 left] w λe w'=>e=.returned (.int .i64 (szL left (Qr es)))/\Below w.heap.size w w':=by
 obtain⟨a,cap,rfl,hc⟩:=hat;have HC:=hid hc;have IH:=hid ih;obtain⟨T,hT⟩:∃T,T=(es.map Px).sum:=⟨_,rfl⟩
 have HS:Hid (Qr es=es.length+T):=by show _=_;rw[hT];rfl
 clear hc ih;by_cases h:left - es.length<0
 ·have HQ:Hid (szL left (Qr es)=-1):=by show _=_;unfold szL;rw[if_pos (by have:=HS.out;omega)]
  clear hT;go_enter Tryz.func36,Tryz.ntmps36
  go_wp2
  go_ret;exact⟨C9 (by rw[HQ.out]),Below.refl _ _⟩
 have hl2:es.length<=1048576:=omz
 go_enter Tryz.func36,Tryz.ntmps36
 go_wp2
 go_loopw [1,5] (λlf i wr=>∃j A:Nat,j<=es.length/\i=.int .i64 j/\A=((es.map Px).take j).sum/\0<=left - es.length - A/\lf=.int .i64 (left - es.length - A)/\Below w.heap.size w wr) (λ_ i _=>es.length - (intOf i).toNat)
 case atStart=>exact⟨0,0,omz,rfl,spz,omz,spz,Below.refl _ _⟩
 case round=>
  obtain⟨j,A,hj,rfl,hA,hge,rfl,hB⟩:=hrel;by_cases hlt:j<es.length
  ·obtain⟨b,o,rfl,hbl,hn⟩:=HC j hlt
   have hn2:=(hn.below hB hbl)
   obtain⟨x0,av,x1,hav⟩:=id hn2;have hsucc:=I7 (es.map Px) j (by simpa using hlt);have hle2:=Hm (es.map Px) (j+1);rw[List.getElem_map] at hsucc;have HI:=hid (λW hW q=>IH es[j] (A4f hlt) _ q W (hav.below hW));obtain⟨s,hs⟩:∃s,s=Px es[j]:=⟨_,rfl⟩
   obtain⟨x,hx⟩:∃x,x=es[j]:=⟨_,rfl⟩
   rw[<-hs] at HI hsucc;rw[<-hx] at HI x0;obtain⟨p0,r0,rfl,_⟩:=hav;obtain⟨q,hq⟩:∃q,q=left - es.length - A:=⟨_,rfl⟩
   have hq0:0<=q:=omz
   have hq1:q<=1048576:=omz
   rw[<-hA] at hsucc;have HN:=hid hsucc;have HT:Hid (A+s<=T):=by show _<=_;rw[hT];omega
   have hq2:=hq.symm;rw[hq2];have oO:=hid hq;clear hs hx hn hn2 hsucc hle2 hT hA hq hq2 hge;by_cases hneg:q - s<0
   ·have HZ:Hid (szL q s=-1):=by show _=_;unfold szL;rw[if_pos hneg]
    have HE:Hid (szL left (Qr es)=-1):=by show _=_;unfold szL;rw[if_pos (by have:=HS.out;have:=HT.out;have:=oO.out;omega)]
    clear hneg
    go_wp2_with (go_at_call 59;refine(HI _ blB _ hq0 hq1).mono ?_;rw[HZ.out];rintro e w2 ⟨rfl,hb2⟩)
    go_ret;exact⟨C9 (by rw[HE.out]),Bd hB (by first | exact hb2 | exact Iy hb2)⟩
   ·obtain⟨q',hq'⟩:∃q':Int,q'=q - s:=⟨_,rfl⟩
    have yU:0<=q':=omz
    have HZ:Hid (szL q s=q'):=by show _=_;unfold szL;rw[if_neg hneg,hq']
    have pV:=hid hq';clear hneg hq'
    go_wp2_with (go_at_call 59;refine(HI _ blB _ hq0 hq1).mono ?_;rw[HZ.out];rintro e w2 ⟨rfl,hb2⟩)
    refine⟨⟨j+1,A+s,omz,by go_num,HN.symm,?_,?_,Bd hB (by first | exact hb2 | exact Iy hb2)⟩,by simp[intOf];omega⟩
    ·have:=oO.out;have:=pV.out;omega
    ·have:=oO.out;have:=pV.out;congr 1;omega
  ·exact zj0
theorem Ayd (es:List Stil.Net)(ih:∀x∈es,∀(av kv:Value) (q:Int) (w:World),Bi w av x.one.args->Dx w kv x.kids->0<=q->q<=1048576->Calls Tryz.prog 35 #[.agg #[.int .i64 x.kind, .int .i64 x.one.op,av,kv], .int .i64 q] w λe w'=>e=.returned (.int .i64 (szL q (N9 x)))/\Below w.heap.size w w')(v:Value)(left:Int)(w:World)(hat:Dx w v es)(h1:0<=left)(h2:left<=1048576)(hl:es.length<=9223372036854775807):
  Calls Tryz.prog 60 #[v, .int .i64 left] w λe w'=>e=.returned (.int .i64 (szL left (Adf es)))/\Below w.heap.size w w':=by
 obtain⟨a,cap,rfl,hc⟩:=hat;have HC:=hid hc;have IH:=hid ih;obtain⟨T,hT⟩:∃T,T=(es.map N9).sum:=⟨_,rfl⟩
 have HS:Hid (Adf es=es.length+T):=by show _=_;rw[hT];rfl
 clear hc ih;by_cases h:left - es.length<0
 ·have HQ:Hid (szL left (Adf es)=-1):=by show _=_;unfold szL;rw[if_pos (by have:=HS.out;omega)]
  clear hT;go_enter Tryz.func60,Tryz.ntmps60
  go_wp2
  go_ret;exact⟨C9 (by rw[HQ.out]),Below.refl _ _⟩
 have hl2:es.length<=1048576:=omz
 go_enter Tryz.func60,Tryz.ntmps60
 go_wp2
 go_loopw [1,5] (λlf i wr=>∃j A:Nat,j<=es.length/\i=.int .i64 j/\A=((es.map N9).take j).sum/\0<=left - es.length - A/\lf=.int .i64 (left - es.length - A)/\Below w.heap.size w wr) (λ_ i _=>es.length - (intOf i).toNat)
 case atStart=>exact⟨0,0,omz,rfl,spz,omz,spz,Below.refl _ _⟩
 case round=>
  obtain⟨j,A,hj,rfl,hA,hge,rfl,hB⟩:=hrel;by_cases hlt:j<es.length
  ·obtain⟨b,o,rfl,hbl,hn⟩:=HC j hlt
   have hn2:=(Nw.below hB _ _ _ hn hbl)
   obtain⟨x0,x1,av,kv,x2,x3,hav,hkv⟩:=(hn2).open;have hsucc:=I7 (es.map N9) j (by simpa using hlt);have hle2:=Hm (es.map N9) (j+1);rw[List.getElem_map] at hsucc;have HI:=hid (λW hW q=>IH es[j] (A4f hlt) _ _ q W (hav.below hW) (hkv.below hW));obtain⟨s,hs⟩:∃s,s=N9 es[j]:=⟨_,rfl⟩
   obtain⟨x,hx⟩:∃x,x=es[j]:=⟨_,rfl⟩
   rw[<-hs] at HI hsucc;rw[<-hx] at HI x0 x1;obtain⟨p0,r0,rfl,_⟩:=hav;obtain⟨p1,r1,rfl,_⟩:=hkv;obtain⟨q,hq⟩:∃q,q=left - es.length - A:=⟨_,rfl⟩
   have hq0:0<=q:=omz
   have hq1:q<=1048576:=omz
   rw[<-hA] at hsucc;have HN:=hid hsucc;have HT:Hid (A+s<=T):=by show _<=_;rw[hT];omega
   have hq2:=hq.symm;rw[hq2];have oO:=hid hq;clear hs hx hn hn2 hsucc hle2 hT hA hq hq2 hge;by_cases hneg:q - s<0
   ·have HZ:Hid (szL q s=-1):=by show _=_;unfold szL;rw[if_pos hneg]
    have HE:Hid (szL left (Adf es)=-1):=by show _=_;unfold szL;rw[if_pos (by have:=HS.out;have:=HT.out;have:=oO.out;omega)]
    clear hneg
    go_wp2_with (go_at_call 35;refine(HI _ blB _ hq0 hq1).mono ?_;rw[HZ.out];rintro e w2 ⟨rfl,hb2⟩)
    go_ret;exact⟨C9 (by rw[HE.out]),Bd hB (by first | exact hb2 | exact Iy hb2)⟩
   ·obtain⟨q',hq'⟩:∃q':Int,q'=q - s:=⟨_,rfl⟩
    have yU:0<=q':=omz
    have HZ:Hid (szL q s=q'):=by show _=_;unfold szL;rw[if_neg hneg,hq']
    have pV:=hid hq';clear hneg hq'
    go_wp2_with (go_at_call 35;refine(HI _ blB _ hq0 hq1).mono ?_;rw[HZ.out];rintro e w2 ⟨rfl,hb2⟩)
    refine⟨⟨j+1,A+s,omz,by go_num,HN.symm,?_,?_,Bd hB (by first | exact hb2 | exact Iy hb2)⟩,by simp[intOf];omega⟩
    ·have:=oO.out;have:=pV.out;omega
    ·have:=oO.out;have:=pV.out;congr 1;omega
  ·exact zj0
theorem An0 (es:List Stil.Arm)(ih:∀x∈es,∀(av nv cv kv:Value) (q:Int) (w:World),Bi w av x.net.one.args->Dx w nv x.net.kids->En w cv x.coils->Dj w kv x.kids->0<=q->q<=1048576->Calls Tryz.prog 16 #[.agg #[.int .i64 x.net.kind, .int .i64 x.net.one.op,av,nv,cv,kv], .int .i64 q] w λe w'=>e=.returned (.int .i64 (szL q (Po x)))/\Below w.heap.size w w')(v:Value)(left:Int)(w:World)(hat:Dj w v es)(h1:0<=left)(h2:left<=1048576)(hl:es.length<=9223372036854775807):
  Calls Tryz.prog 5 #[v, .int .i64 left] w λe w'=>e=.returned (.int .i64 (szL left (Qx es)))/\Below w.heap.size w w':=by
 obtain⟨a,cap,rfl,hc⟩:=hat;have HC:=hid hc;have IH:=hid ih;obtain⟨T,hT⟩:∃T,T=(es.map Po).sum:=⟨_,rfl⟩
 have HS:Hid (Qx es=es.length+T):=by show _=_;rw[hT];rfl
 clear hc ih;by_cases h:left - es.length<0
 ·have HQ:Hid (szL left (Qx es)=-1):=by show _=_;unfold szL;rw[if_pos (by have:=HS.out;omega)]
  clear hT;go_enter Tryz.func5,Tryz.ntmps5
  go_wp2
  go_ret;exact⟨C9 (by rw[HQ.out]),Below.refl _ _⟩
 have hl2:es.length<=1048576:=omz
 go_enter Tryz.func5,Tryz.ntmps5
 go_wp2
 go_loopw [1,5] (λlf i wr=>∃j A:Nat,j<=es.length/\i=.int .i64 j/\A=((es.map Po).take j).sum/\0<=left - es.length - A/\lf=.int .i64 (left - es.length - A)/\Below w.heap.size w wr) (λ_ i _=>es.length - (intOf i).toNat)
 case atStart=>exact⟨0,0,omz,rfl,spz,omz,spz,Below.refl _ _⟩
 case round=>
  obtain⟨j,A,hj,rfl,hA,hge,rfl,hB⟩:=hrel;by_cases hlt:j<es.length
  ·obtain⟨b,o,rfl,hbl,hn⟩:=HC j hlt
   have hn2:=(Pz.below hB _ _ _ hn hbl)
   obtain⟨hna,cv,kv,x4,x5,hcv,hkv⟩:=(hn2).open;obtain⟨x0,x1,av,nv,x2,x3,hav,hnv⟩:=hna.open;have hsucc:=I7 (es.map Po) j (by simpa using hlt);have hle2:=Hm (es.map Po) (j+1);rw[List.getElem_map] at hsucc;have HI:=hid (λW hW q=>IH es[j] (A4f hlt) _ _ _ _ q W (hav.below hW) (hnv.below hW) (hcv.below hW) (hkv.below hW));obtain⟨s,hs⟩:∃s,s=Po es[j]:=⟨_,rfl⟩
   obtain⟨x,hx⟩:∃x,x=es[j]:=⟨_,rfl⟩
   rw[<-hs] at HI hsucc;rw[<-hx] at HI x0 x1;obtain⟨p0,r0,rfl,_⟩:=hav;obtain⟨p1,r1,rfl,_⟩:=hnv;obtain⟨p2,r2,rfl,_⟩:=hcv;obtain⟨p3,r3,rfl,_⟩:=hkv;obtain⟨q,hq⟩:∃q,q=left - es.length - A:=⟨_,rfl⟩
   have hq0:0<=q:=omz
   have hq1:q<=1048576:=omz
   rw[<-hA] at hsucc;have HN:=hid hsucc;have HT:Hid (A+s<=T):=by show _<=_;rw[hT];omega
   have hq2:=hq.symm;rw[hq2];have oO:=hid hq;clear hs hx hn hn2 hsucc hle2 hT hA hq hq2 hge;by_cases hneg:q - s<0
   ·have HZ:Hid (szL q s=-1):=by show _=_;unfold szL;rw[if_pos hneg]
    have HE:Hid (szL left (Qx es)=-1):=by show _=_;unfold szL;rw[if_pos (by have:=HS.out;have:=HT.out;have:=oO.out;omega)]
    clear hneg
    go_wp2_with (go_at_call 16;refine(HI _ blB _ hq0 hq1).mono ?_;rw[HZ.out];rintro e w2 ⟨rfl,hb2⟩)
    go_ret;exact⟨C9 (by rw[HE.out]),Bd hB (by first | exact hb2 | exact Iy hb2)⟩
   ·obtain⟨q',hq'⟩:∃q':Int,q'=q - s:=⟨_,rfl⟩
    have yU:0<=q':=omz
    have HZ:Hid (szL q s=q'):=by show _=_;unfold szL;rw[if_neg hneg,hq']
    have pV:=hid hq';clear hneg hq'
    go_wp2_with (go_at_call 16;refine(HI _ blB _ hq0 hq1).mono ?_;rw[HZ.out];rintro e w2 ⟨rfl,hb2⟩)
    refine⟨⟨j+1,A+s,omz,by go_num,HN.symm,?_,?_,Bd hB (by first | exact hb2 | exact Iy hb2)⟩,by simp[intOf];omega⟩
    ·have:=oO.out;have:=pV.out;omega
    ·have:=oO.out;have:=pV.out;congr 1;omega
  ·exact zj0
theorem A0y (n:Stil.Net):Adi n->∀(av kv:Value) (q:Int) (w:World),Bi w av n.one.args->Dx w kv n.kids->0<=q->q<=1048576->Calls Tryz.prog 35 #[.agg #[.int .i64 n.kind, .int .i64 n.one.op,av,kv], .int .i64 q] w λe w'=>e=.returned (.int .i64 (szL q (N9 n)))/\Below w.heap.size w w':=by
 induction n using Fh with
 | h k e kids ih=>
  intro hwf av kv q w hav hkv h1 h2;obtain⟨_,he,hl,hk⟩:=(Ab4 _ _ _).1 hwf;simp only at hav hkv;have H1:=hid (λW hW=>Ajd e he av q W (hav.below hW) h1 h2);have H2:=hid (λW hW q' hq hq2=>Ayd kids (λx hx=>ih x hx (hk x hx)) kv q' W (hkv.below hW) hq hq2 hl);have HS:Hid (N9 ⟨k,e,kids⟩=Px e+Adf kids):=Alz _;obtain⟨s1,hs1⟩:∃s1,s1=Px e:=⟨_,rfl⟩
  obtain⟨s2,hs2⟩:∃s2,s2=Adf kids:=⟨_,rfl⟩
  rw[<-hs1] at H1 HS;rw[<-hs2] at H2 HS;obtain⟨p0,r0,rfl,_⟩:=hav;obtain⟨p1,r1,rfl,_⟩:=hkv;clear ih hwf he hl hk hs1 hs2;by_cases hn1:q - s1<0
  ·have HZ:=hid (Qk hn1)
   have HE:Hid (szL q (N9 ⟨k,e,kids⟩)=-1):=Qk (by have:=HS.out;omega);clear hn1;go_enter Tryz.func35,Tryz.ntmps35
   go_wp2_with (go_at_call 59;refine(H1 _ blB).mono ?_;rw[HZ.out];rintro e w1 ⟨rfl,hb⟩)
   go_ret;exact⟨C9 (by rw[HE.out]),blB⟩
  ·obtain⟨q1,hq1⟩:∃q1:Int,q1=q - s1:=⟨_,rfl⟩
   have hq10:0<=q1:=omz
   have hq11:q1<=1048576:=omz
   have HZ:Hid (szL q s1=q1):=by show _=_;rw[Aa9 hn1,hq1]
   by_cases hn2:q1 - s2<0
   ·have HZ2:=hid (Qk hn2)
    have HE:Hid (szL q (N9 ⟨k,e,kids⟩)=-1):=Qk (by have:=HS.out;omega);clear hn1 hn2 hq1;go_enter Tryz.func35,Tryz.ntmps35
    go_wp2_with (first | (go_at_call 59;refine(H1 _ blB).mono ?_;rw[HZ.out];rintro e w1 ⟨rfl,hb⟩;obtain⟨hc,hf⟩:=Dq hb) | (go_at_call 60;refine(H2 _ blB _ hq10 hq11).mono ?_;rw[HZ2.out];rintro e w2 ⟨rfl,hb2⟩))
    go_ret;exact⟨C9 (by rw[HE.out]),blB⟩
   ·obtain⟨q2,hq2⟩:∃q2:Int,q2=q1 - s2:=⟨_,rfl⟩
    have uH:0<=q2:=omz
    have HZ2:Hid (szL q1 s2=q2):=by show _=_;rw[Aa9 hn2,hq2]
    have HE:Hid (szL q (N9 ⟨k,e,kids⟩)=q2):=by show _=_;rw[Aa9 (by have:=HS.out;omega)];have:=HS.out;omega
    clear hn1 hn2 hq1 hq2;go_enter Tryz.func35,Tryz.ntmps35
    go_wp2_with (first | (go_at_call 59;refine(H1 _ blB).mono ?_;rw[HZ.out];rintro e w1 ⟨rfl,hb⟩;obtain⟨hc,hf⟩:=Dq hb) | (go_at_call 60;refine(H2 _ blB _ hq10 hq11).mono ?_;rw[HZ2.out];rintro e w2 ⟨rfl,hb2⟩))
    go_ret;exact⟨C9 (by rw[HE.out]),blB⟩
theorem A0z (n:Stil.Arm):Aef n->∀(av nv cv kv:Value) (q:Int) (w:World),Bi w av n.net.one.args->Dx w nv n.net.kids->En w cv n.coils->Dj w kv n.kids->0<=q->q<=1048576->Calls Tryz.prog 16 #[.agg #[.int .i64 n.net.kind, .int .i64 n.net.one.op,av,nv,cv,kv], .int .i64 q] w λe w'=>e=.returned (.int .i64 (szL q (Po n)))/\Below w.heap.size w w':=by
 induction n using Fg with
 | h n coils kids ih=>
  intro hwf av nv cv kv q w hav hnv hcv hkv h1 h2;obtain⟨hn,hl1,hcw,hl,hk⟩:=(Ah4 _ _ _).1 hwf;simp only at hav hnv hcv hkv;have H1:=hid (λW hW=>A0y n hn av nv q W (hav.below hW) (hnv.below hW) h1 h2);have H2:=hid (λW hW q' hq hq2=>Au6 coils (λx hx=>Ajd x (hcw x hx)) cv q' W (hcv.below hW) hq hq2 hl1);have H3:=hid (λW hW q' hq hq2=>An0 kids (λx hx=>ih x hx (hk x hx)) kv q' W (hkv.below hW) hq hq2 hl);have HS:Hid (Po ⟨n,coils,kids⟩=N9 n+(Qr coils+Qx kids)):=Am6 _;obtain⟨s1,hs1⟩:∃s1,s1=N9 n:=⟨_,rfl⟩
  obtain⟨s2,hs2⟩:∃s2,s2=Qr coils:=⟨_,rfl⟩
  obtain⟨s3,hs3⟩:∃s3,s3=Qx kids:=⟨_,rfl⟩
  rw[<-hs1] at H1 HS;rw[<-hs2] at H2 HS;rw[<-hs3] at H3 HS;obtain⟨p0,r0,rfl,_⟩:=hav;obtain⟨p1,r1,rfl,_⟩:=hnv;obtain⟨p2,r2,rfl,_⟩:=hcv;obtain⟨p3,r3,rfl,_⟩:=hkv;clear ih hwf hn hl1 hcw hl hk hs1 hs2 hs3;by_cases hn1:q - s1<0
  ·have HZ1:=hid (Qk hn1)
   have HE:Hid (szL q (Po ⟨n,coils,kids⟩)=-1):=Qk (by have:=HS.out;omega);clear hn1;go_enter Tryz.func16,Tryz.ntmps16
   go_wp2_with (go_at_call 35;refine(H1 _ blB).mono ?_;rw[HZ1.out];rintro e w1 ⟨rfl,hb⟩;obtain⟨hc,hf⟩:=Dq hb;have hz1:w.heap.size<w1.heap.size:=A37 spz hb.size)
   go_ret;exact⟨C9 (by rw[HE.out]),blB⟩
  ·obtain⟨q1,hq1⟩:∃q1:Int,q1=q - s1:=⟨_,rfl⟩
   have hq10:0<=q1:=omz
   have hq11:q1<=1048576:=omz
   have HZ1:Hid (szL q s1=q1):=by show _=_;rw[Aa9 hn1,hq1]
   by_cases hn2:q1 - s2<0
   ·have HZ2:=hid (Qk hn2)
    have HE:Hid (szL q (Po ⟨n,coils,kids⟩)=-1):=Qk (by have:=HS.out;omega);clear hn1 hn2 hq1;go_enter Tryz.func16,Tryz.ntmps16
    go_wp2_with (first | (go_at_call 35;refine(H1 _ blB).mono ?_;rw[HZ1.out];rintro e w1 ⟨rfl,hb⟩;obtain⟨hc,hf⟩:=Dq hb;have hz1:w.heap.size<w1.heap.size:=A37 spz hb.size) | (go_at_call 36;refine(H2 _ blB _ hq10 hq11).mono ?_;rw[HZ2.out];rintro e w2 ⟨rfl,hb2⟩;obtain⟨hc2,hf2⟩:=Dq hb2))
    go_ret;exact⟨C9 (by rw[HE.out]),blB⟩
   ·obtain⟨q2,hq2⟩:∃q2:Int,q2=q1 - s2:=⟨_,rfl⟩
    have uH:0<=q2:=omz
    have yT:q2<=1048576:=omz
    have HZ2:Hid (szL q1 s2=q2):=by show _=_;rw[Aa9 hn2,hq2]
    by_cases hn3:q2 - s3<0
    ·have HZ3:=hid (Qk hn3)
     have HE:Hid (szL q (Po ⟨n,coils,kids⟩)=-1):=Qk (by have:=HS.out;omega);clear hn1 hn2 hn3 hq1 hq2;go_enter Tryz.func16,Tryz.ntmps16
     go_wp2_with (first | (go_at_call 35;refine(H1 _ blB).mono ?_;rw[HZ1.out];rintro e w1 ⟨rfl,hb⟩;obtain⟨hc,hf⟩:=Dq hb;have hz1:w.heap.size<w1.heap.size:=A37 spz hb.size) | (go_at_call 36;refine(H2 _ blB _ hq10 hq11).mono ?_;rw[HZ2.out];rintro e w2 ⟨rfl,hb2⟩;obtain⟨hc2,hf2⟩:=Dq hb2) | (go_at_call 5;refine(H3 _ blB _ uH yT).mono ?_;rw[HZ3.out];rintro e w3 ⟨rfl,hb3⟩))
     go_ret;exact⟨C9 (by rw[HE.out]),blB⟩
    ·obtain⟨q3,hq3⟩:∃q3:Int,q3=q2 - s3:=⟨_,rfl⟩
     have hq30:0<=q3:=omz
     have HZ3:Hid (szL q2 s3=q3):=by show _=_;rw[Aa9 hn3,hq3]
     have HE:Hid (szL q (Po ⟨n,coils,kids⟩)=q3):=by show _=_;rw[Aa9 (by have:=HS.out;omega)];have:=HS.out;omega
     clear hn1 hn2 hn3 hq1 hq2 hq3;go_enter Tryz.func16,Tryz.ntmps16
     go_wp2_with (first | (go_at_call 35;refine(H1 _ blB).mono ?_;rw[HZ1.out];rintro e w1 ⟨rfl,hb⟩;obtain⟨hc,hf⟩:=Dq hb;have hz1:w.heap.size<w1.heap.size:=A37 spz hb.size) | (go_at_call 36;refine(H2 _ blB _ hq10 hq11).mono ?_;rw[HZ2.out];rintro e w2 ⟨rfl,hb2⟩;obtain⟨hc2,hf2⟩:=Dq hb2) | (go_at_call 5;refine(H3 _ blB _ uH yT).mono ?_;rw[HZ3.out];rintro e w3 ⟨rfl,hb3⟩))
     go_ret;exact⟨C9 (by rw[HE.out]),blB⟩
theorem Au8 (es:List Stil.Elem)(ih:∀x∈es,∀(av bM:Value) (w:World),Bi w av x.args->Bi w bM x.args->Calls Tryz.prog 46 #[.agg #[.int .i64 x.op,av], .agg #[.int .i64 x.op,bM]] w λe w'=>e=.returned (.bool true)/\Below w.heap.size w w')(v u:Value)(w:World)(hat:En w v es)(jS:En w u es)(hl:es.length<=1048576):
  Calls Tryz.prog 48 #[v,u] w λe w'=>e=.returned (.bool true)/\Below w.heap.size w w':=by
 obtain⟨a,cap,rfl,hc⟩:=hat;obtain⟨a2,cap2,rfl,hc2⟩:=jS;have HA:=hid hc;have HB:=hid hc2;have IH:=hid ih;clear hc hc2 ih;go_enter Tryz.func48,Tryz.ntmps48
 go_wp2
 go_loopw [5] (λi wr=>∃k:Nat,k<=es.length/\i=.int .i64 k/\Below w.heap.size w wr) (λi _=>es.length - (intOf i).toNat)
 case atStart=>exact⟨0,omz,rfl,Below.refl _ _⟩
 case round=>
  obtain⟨k,hk,rfl,hb⟩:=hrel;by_cases hlt:k<es.length
  ·obtain⟨b,o,rfl,hbl,hn⟩:=HA k hlt
   have hn2:=(hn.below hb hbl)
   obtain⟨b2,o2,rfl,iH,hm⟩:=HB k hlt;have hm2:=(hm.below hb iH)
   obtain⟨x0,av,x1,hav⟩:=id hn2;obtain⟨y0,bM,y1,bC⟩:=id hm2;have HI:=hid (λW hW=>IH es[k] (A4f hlt) _ _ W (hav.below hW) (bC.below hW));obtain⟨x,hx⟩:∃x,x=es[k]:=⟨_,rfl⟩
   rw[<-hx] at HI x0 y0;obtain⟨p0,r0,rfl,_⟩:=hav;obtain⟨uj,uh,rfl,_⟩:=bC;clear hx hn hn2 hm hm2;have ug:=cell_regrown x0;have tu:=cell_regrown y0;have uf:=cell_regrown x1;have tq:=cell_regrown y1
   go_wp2
   refine wp_region_quiet_below krz krz ?_;repeat (go_big_quiet_step ((exact Calls.regrown_of (HI _ blB))))
   refine wpQuiet_nil ?_;intro _ hw';obtain⟨⟨dq,osq⟩,hw''⟩:=hw';subst hw''
   go_wp2
   exact⟨⟨k+1,omz,by go_num,Ep hb _ _⟩,by simp[intOf];omega⟩
  ·go_wp2
   go_ret;exact⟨rfl,hb⟩
theorem Ayf (es:List Stil.Net)(ih:∀x∈es,∀(av kv bM jA:Value) (w:World),Bi w av x.one.args->Dx w kv x.kids->Bi w bM x.one.args->Dx w jA x.kids->Calls Tryz.prog 47 #[.agg #[.int .i64 x.kind, .int .i64 x.one.op,av,kv], .agg #[.int .i64 x.kind, .int .i64 x.one.op,bM,jA]] w λe w'=>e=.returned (.bool true)/\Below w.heap.size w w')(v u:Value)(w:World)(hat:Dx w v es)(jS:Dx w u es)(hl:es.length<=1048576):
  Calls Tryz.prog 77 #[v,u] w λe w'=>e=.returned (.bool true)/\Below w.heap.size w w':=by
 obtain⟨a,cap,rfl,hc⟩:=hat;obtain⟨a2,cap2,rfl,hc2⟩:=jS;have HA:=hid hc;have HB:=hid hc2;have IH:=hid ih;clear hc hc2 ih;go_enter Tryz.func77,Tryz.ntmps77
 go_wp2
 go_loopw [5] (λi wr=>∃k:Nat,k<=es.length/\i=.int .i64 k/\Below w.heap.size w wr) (λi _=>es.length - (intOf i).toNat)
 case atStart=>exact⟨0,omz,rfl,Below.refl _ _⟩
 case round=>
  obtain⟨k,hk,rfl,hb⟩:=hrel;by_cases hlt:k<es.length
  ·obtain⟨b,o,rfl,hbl,hn⟩:=HA k hlt
   have hn2:=(Nw.below hb _ _ _ hn hbl)
   obtain⟨b2,o2,rfl,iH,hm⟩:=HB k hlt;have hm2:=(Nw.below hb _ _ _ hm iH)
   obtain⟨x0,x1,av,kv,x2,x3,hav,hkv⟩:=(hn2).open;obtain⟨y0,y1,bM,jA,y2,y3,bC,dK⟩:=(hm2).open;have HI:=hid (λW hW=>IH es[k] (A4f hlt) _ _ _ _ W (hav.below hW) (hkv.below hW) (bC.below hW) (dK.below hW));obtain⟨x,hx⟩:∃x,x=es[k]:=⟨_,rfl⟩
   rw[<-hx] at HI x0 x1 y0 y1;obtain⟨p0,r0,rfl,_⟩:=hav;obtain⟨uj,uh,rfl,_⟩:=bC;obtain⟨p1,r1,rfl,_⟩:=hkv;obtain⟨pq1,rq1,rfl,_⟩:=dK;clear hx hn hn2 hm hm2;have ug:=cell_regrown x0;have tu:=cell_regrown y0;have uf:=cell_regrown x1;have tq:=cell_regrown y1;have rx2:=cell_regrown x2;have ry2:=cell_regrown y2;have rx3:=cell_regrown x3;have ry3:=cell_regrown y3
   go_wp2
   refine wp_region_quiet_below krz krz ?_;repeat (go_big_quiet_step ((exact Calls.regrown_of (HI _ blB))))
   refine wpQuiet_nil ?_;intro _ hw';obtain⟨⟨dq,osq⟩,hw''⟩:=hw';subst hw''
   go_wp2
   exact⟨⟨k+1,omz,by go_num,Ep hb _ _⟩,by simp[intOf];omega⟩
  ·go_wp2
   go_ret;exact⟨rfl,hb⟩
theorem An2 (es:List Stil.Arm)(ih:∀x∈es,∀(av nv cv kv bM rY sQ jA:Value) (w:World),Bi w av x.net.one.args->Dx w nv x.net.kids->En w cv x.coils->Dj w kv x.kids->Bi w bM x.net.one.args->Dx w rY x.net.kids->En w sQ x.coils->Dj w jA x.kids->Calls Tryz.prog 24 #[.agg #[.int .i64 x.net.kind, .int .i64 x.net.one.op,av,nv,cv,kv], .agg #[.int .i64 x.net.kind, .int .i64 x.net.one.op,bM,rY,sQ,jA]] w λe w'=>e=.returned (.bool true)/\Below w.heap.size w w')(v u:Value)(w:World)(hat:Dj w v es)(jS:Dj w u es)(hl:es.length<=1048576):
  Calls Tryz.prog 10 #[v,u] w λe w'=>e=.returned (.bool true)/\Below w.heap.size w w':=by
 obtain⟨a,cap,rfl,hc⟩:=hat;obtain⟨a2,cap2,rfl,hc2⟩:=jS;have HA:=hid hc;have HB:=hid hc2;have IH:=hid ih;clear hc hc2 ih;go_enter Tryz.func10,Tryz.ntmps10
 go_wp2
 go_loopw [5] (λi wr=>∃k:Nat,k<=es.length/\i=.int .i64 k/\Below w.heap.size w wr) (λi _=>es.length - (intOf i).toNat)
 case atStart=>exact⟨0,omz,rfl,Below.refl _ _⟩
 case round=>
  obtain⟨k,hk,rfl,hb⟩:=hrel;by_cases hlt:k<es.length
  ·obtain⟨b,o,rfl,hbl,hn⟩:=HA k hlt
   have hn2:=(Pz.below hb _ _ _ hn hbl)
   obtain⟨b2,o2,rfl,iH,hm⟩:=HB k hlt;have hm2:=(Pz.below hb _ _ _ hm iH)
   obtain⟨hna,cv,kv,x4,x5,hcv,hkv⟩:=(hn2).open;obtain⟨x0,x1,av,nv,x2,x3,hav,hnv⟩:=hna.open;obtain⟨xm,sQ,jA,y4,y5,lT,dK⟩:=(hm2).open;obtain⟨y0,y1,bM,rY,y2,y3,bC,lQ⟩:=xm.open;have HI:=hid (λW hW=>IH es[k] (A4f hlt) _ _ _ _ _ _ _ _ W (hav.below hW) (hnv.below hW) (hcv.below hW) (hkv.below hW) (bC.below hW) (lQ.below hW) (lT.below hW) (dK.below hW));obtain⟨x,hx⟩:∃x,x=es[k]:=⟨_,rfl⟩
   rw[<-hx] at HI x0 x1 y0 y1;obtain⟨p0,r0,rfl,_⟩:=hav;obtain⟨uj,uh,rfl,_⟩:=bC;obtain⟨p1,r1,rfl,_⟩:=hnv;obtain⟨pq1,rq1,rfl,_⟩:=lQ;obtain⟨p2,r2,rfl,_⟩:=hcv;obtain⟨pq2,rq2,rfl,_⟩:=lT;obtain⟨p3,r3,rfl,_⟩:=hkv;obtain⟨pq3,rq3,rfl,_⟩:=dK;clear hx hn hn2 hm hm2;have ug:=cell_regrown x0;have tu:=cell_regrown y0;have uf:=cell_regrown x1;have tq:=cell_regrown y1;have rx2:=cell_regrown x2;have ry2:=cell_regrown y2;have rx3:=cell_regrown x3;have ry3:=cell_regrown y3;have rx4:=cell_regrown x4;have ry4:=cell_regrown y4;have rx5:=cell_regrown x5;have ry5:=cell_regrown y5
   go_wp2
   refine wp_region_quiet_below krz krz ?_;repeat (go_big_quiet_step ((exact Calls.regrown_of (HI _ blB))))
   refine wpQuiet_nil ?_;intro _ hw';obtain⟨⟨dq,osq⟩,hw''⟩:=hw';subst hw''
   go_wp2
   exact⟨⟨k+1,omz,by go_num,Ep hb _ _⟩,by simp[intOf];omega⟩
  ·go_wp2
   go_ret;exact⟨rfl,hb⟩
theorem Aje (x:Stil.Elem)(hx:x.fits):∀(av bM:Value) (w:World),Bi w av x.args->Bi w bM x.args->Calls Tryz.prog 46 #[.agg #[.int .i64 x.op,av], .agg #[.int .i64 x.op,bM]] w λe w'=>e=.returned (.bool true)/\Below w.heap.size w w':=by
 intro av bM w hav bC;refine(An1 x.op x.op av bM x.args x.args w hav bC hx.2.1 hx.2.1).mono ?_;rintro e w1 ⟨rfl,hb⟩;exact⟨Ar spz,hb⟩
theorem A00 (n:Stil.Net):Dc n->∀(av kv bM jA:Value) (w:World),Bi w av n.one.args->Dx w kv n.kids->Bi w bM n.one.args->Dx w jA n.kids->Calls Tryz.prog 47 #[.agg #[.int .i64 n.kind, .int .i64 n.one.op,av,kv], .agg #[.int .i64 n.kind, .int .i64 n.one.op,bM,jA]] w λe w'=>e=.returned (.bool true)/\Below w.heap.size w w':=by
 induction n using Fh with
 | h k e kids ih=>
  intro hft av kv bM jA w hav hkv bC dK;obtain⟨_,he,hl,hk⟩:=(Hu _ _ _).1 hft;simp only at hav hkv bC dK;have H1:=hid (λW hW=>Aje e he av bM W (hav.below hW) (bC.below hW));have H2:=hid (λW hW=>Ayf kids (λx hx=>ih x hx (hk x hx)) kv jA W (hkv.below hW) (dK.below hW) hl);obtain⟨p0,r0,rfl,_⟩:=hav;obtain⟨p1,r1,rfl,_⟩:=hkv;obtain⟨p2,r2,rfl,_⟩:=bC;obtain⟨p3,r3,rfl,_⟩:=dK;clear ih hft he hl hk;go_enter Tryz.func47,Tryz.ntmps47
  go_wp2_with (first | (go_at_call 46;refine(H1 _ blA).mono ?_;rintro e w1 ⟨rfl,hb⟩;obtain⟨hc,hf⟩:=Dq hb) | (go_at_call 77;refine(H2 _ blA).mono ?_;rintro e w2 ⟨rfl,hb2⟩))
  go_ret;exact⟨rfl,blA⟩
theorem A01 (n:Stil.Arm):Ci n->∀(av nv cv kv bM rY sQ jA:Value) (w:World),Bi w av n.net.one.args->Dx w nv n.net.kids->En w cv n.coils->Dj w kv n.kids->Bi w bM n.net.one.args->Dx w rY n.net.kids->En w sQ n.coils->Dj w jA n.kids->Calls Tryz.prog 24 #[.agg #[.int .i64 n.net.kind, .int .i64 n.net.one.op,av,nv,cv,kv], .agg #[.int .i64 n.net.kind, .int .i64 n.net.one.op,bM,rY,sQ,jA]] w λe w'=>e=.returned (.bool true)/\Below w.heap.size w w':=by
 induction n using Fg with
 | h n coils kids ih=>
  intro hft av nv cv kv bM rY sQ jA w hav hnv hcv hkv bC lQ lT dK;obtain⟨hn,hl1,hcw,hl,hk⟩:=(Em _ _ _).1 hft;simp only at hav hnv hcv hkv bC lQ lT dK;have H1:=hid (λW hW=>A00 n hn av nv bM rY W (hav.below hW) (hnv.below hW) (bC.below hW) (lQ.below hW));have H2:=hid (λW hW=>Au8 coils (λx hx=>Aje x (hcw x hx)) cv sQ W (hcv.below hW) (lT.below hW) hl1);have H3:=hid (λW hW=>An2 kids (λx hx=>ih x hx (hk x hx)) kv jA W (hkv.below hW) (dK.below hW) hl);obtain⟨p0,r0,rfl,_⟩:=hav;obtain⟨p1,r1,rfl,_⟩:=hnv;obtain⟨p2,r2,rfl,_⟩:=hcv;obtain⟨p3,r3,rfl,_⟩:=hkv;obtain⟨p4,r4,rfl,_⟩:=bC;obtain⟨p5,r5,rfl,_⟩:=lQ;obtain⟨p6,r6,rfl,_⟩:=lT;obtain⟨p7,r7,rfl,_⟩:=dK;clear ih hft hn hl1 hcw hl hk;go_enter Tryz.func24,Tryz.ntmps24
  go_wp2_with (first | (go_at_call 47;refine(H1 _ blA).mono ?_;rintro e w1 ⟨rfl,hb⟩;obtain⟨hc,hf⟩:=Dq hb;have hz0:w.heap.size<w1.heap.size:=A37 (by simp;omega) hb.size;have hz1:w.heap.size+1<w1.heap.size:=A37 spz hb.size) | (go_at_call 48;refine(H2 _ blA).mono ?_;rintro e w2 ⟨rfl,hb2⟩;obtain⟨hc2,hf2⟩:=Dq hb2) | (go_at_call 10;refine(H3 _ blA).mono ?_;rintro e w3 ⟨rfl,hb3⟩))
  go_ret;exact⟨rfl,blA⟩
theorem Azc {l:List Stil.Arm}(h:∀x∈l,Aef x)(hs:Qx l<=1048576):(∀x∈l,Ci x)/\l.length<=1048576:=by
 have e:Qx l=l.length+(l.map Po).sum:=rfl;refine⟨λx hx=>Ar8 x (h x hx) ?_,omz⟩;have:=D9 Po l x hx
 omega
theorem Afv (l:List Stil.Arm)(hw:∀x∈l,Aef x)(hl:l.length<=9223372036854775807)(v:Value)(q:Int)(W:World)(hat:Dj W v l)(h1:0<=q)(h2:q<=1048576):
  Calls Tryz.prog 5 #[v, .int .i64 q] W λe w'=>e=.returned (.int .i64 (szL q (Qx l)))/\Below W.heap.size W w':=
 An0 l (λx hx=>A0z x (hw x hx)) v q W hat h1 h2 hl
theorem Aqb (l:List Stil.Arm)(hf:∀x∈l,Ci x)(hl:l.length<=1048576)(v u:Value)(W:World)(hat:Dj W v l)(jS:Dj W u l):
  Calls Tryz.prog 10 #[v,u] W λe w'=>e=.returned (.bool true)/\Below W.heap.size W w':=
 An2 l (λx hx=>A01 x (hf x hx)) v u W hat jS hl
end Go.Proofs.YtbfljjcnbbmoaaaGreatDoor
