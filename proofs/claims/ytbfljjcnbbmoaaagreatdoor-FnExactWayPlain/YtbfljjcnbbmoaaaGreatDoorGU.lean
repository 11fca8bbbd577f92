import Derived.Test.YtbfljjcnbbmoaaaGreatDoorGT
import Derived.Deep.DeepCutAuto
set_option maxHeartbeats 4000000
set_option maxRecDepth 100000
namespace Go.Proofs.YtbfljjcnbbmoaaaGreatDoor
open Stil
open Go.RowKit Go.Sort Go.BigFrame
theorem Ip (l:List Nat) (i:Nat) (h:i<l.length):(l.take (i+1)).sum=(l.take i).sum+l[i]:=by
 rw[A4w h,List.sum_append,List.sum_cons,List.sum_nil,Nat.add_zero]
theorem He:∀(l:List Nat) (i:Nat),(l.take i).sum<=l.sum
 | [],i=>by simp
 | x::r,0=>by simp
 | x::r,i+1=>by have:=He r i;simp;omega
theorem Atb (n:Stil.Net):∀(av kv:Value) (w:World),Bg w av n.one.args->Dq w kv n.kids->Aj n<=1000000000->
  Calls Tryz.prog 102 #[.agg #[.int .i64 n.kind, .int .i64 n.one.op,av,kv]] w λe w'=>e=.returned (.int .i64 (Aj n))/\Below w.heap.size w w':=by
 induction n using Fg with
 | h k e kids ih=>
  intro av kv w hav hkv hsz;have IH:=hid ih;clear ih;have HZ:=hid (La k e kids);have hsum:(kids.map Aj).sum<=1000000000:=by have:=HZ.out;omega
  obtain⟨a,cap,rfl,hc⟩:=hkv;have HC:Hid (∀i (h:i<kids.length),∃b o,a=some ⟨b,o,none⟩/\b<w.heap.size/\Me w b (o+i*4) kids[i]):=hc;obtain⟨aa,acap,rfl,_⟩:=hav;have hlen:kids.length<=1000000000:=by
   have:∀l:List Stil.Net,l.length<=(l.map Aj).sum:=by
    intro l;induction l with
    | nil=>simp
    | cons x r ih=>simp only[A4v,List.sum_cons,A4e];have:1<=Aj x:=(by(obtain⟨_,_,_⟩:=x;rw[La];omega));omega
   have:=this kids;omega
  clear hc hsz;go_enter Tryz.func102,Tryz.ntmps102
  go_wp2
  go_loopw [3,4] (λacc i wr=>∃j:Nat,j<=kids.length/\i=.int .i64 j/\acc=.int .i64 (1+((kids.map Aj).take j).sum:Nat)/\Below (w.heap.size+1) (w.alloc (.cells #[.int .i64 k, .int .i64 e.op, .slice aa e.args.length acap, .slice a kids.length cap] 52)) wr) (λ_ i _=>kids.length - (intOf i).toNat)
  case atStart=>exact⟨0,by omega,rfl,by simp,Below.refl _ _⟩
  case round=>
   obtain⟨j,hj,rfl,rfl,hB⟩:=hrel;have hz:w.heap.size<wr.heap.size:=by have:=hB.size;simp at this;omega
   have c0:wr.cell? ⟨w.heap.size,0,none⟩=some (.int .i64 k):=clA hB;have f0:wr.frozen? ⟨w.heap.size,0,none⟩=false:=frA hB;have c1:wr.cell? ⟨w.heap.size,1,none⟩=some (.int .i64 e.op):=clA hB;have f1:wr.frozen? ⟨w.heap.size,1,none⟩=false:=frA hB;have c2:wr.cell? ⟨w.heap.size,2,none⟩=some (.slice aa e.args.length acap):=clA hB;have f2:wr.frozen? ⟨w.heap.size,2,none⟩=false:=frA hB;have c3:wr.cell? ⟨w.heap.size,3,none⟩=some (.slice a kids.length cap):=clA hB;have f3:wr.frozen? ⟨w.heap.size,3,none⟩=false:=frA hB;have hbw:=(Aa _ _).trans (hB.mono (by omega));have hle:=He (kids.map Aj) j;by_cases hlt:j<kids.length
   ·obtain⟨b,o,rfl,hbl,hn⟩:=HC.out j hlt
    obtain⟨x0,x1,av,kv,x2,x3,hav,hkv⟩:=(Me.below hbw _ _ _ hn hbl).open;have hsucc:=Ip (kids.map Aj) j (by simpa using hlt);have hle2:=He (kids.map Aj) (j+1);rw[List.getElem_map] at hsucc;have HI:=hid (λW hW=>IH.out kids[j] (A4k hlt) av kv W (hav.below hW) (hkv.below hW) (by omega));obtain⟨s,hs⟩:∃s,s=Aj kids[j]:=⟨_,rfl⟩
    obtain⟨x,hx⟩:∃x,x=kids[j]:=⟨_,rfl⟩
    rw[<-hs] at HI hsucc;rw[<-hx] at HI x0 x1;obtain⟨aa',acap',rfl,_⟩:=hav;obtain⟨a',cap',rfl,_⟩:=hkv;generalize hA1:((kids.map Aj).take j).sum=A1 at hsucc hle ⊢;have HS:=hid hsucc;have hsb:A1+s<=1000000000:=by omega
    clear hs hx hn hA1 hsucc hle2 hle hsum
    go_wp2_with (go_at_call 102;refine(HI.out _ blB).mono ?_;rintro e w2 ⟨rfl,hb2⟩)
    refine⟨⟨j+1,by omega,by go_num,?_,hB.trans (hb2.mono hz)⟩,by simp[intOf];omega⟩;rw[HS.out];congr 1;omega
   ·go_wp2
    go_ret;refine⟨D7 ?_,hbw⟩;rw[HZ.out,A48 (by simp;omega)]
theorem Yu (n:Stil.Net) (av kv:Value) (w:World) (hav:Bg w av n.one.args) (hkv:Dq w kv n.kids) (_h1:n.one.args.length<=9223372036854775807) (_h2:n.kids.length<=9223372036854775807):
  Calls Tryz.prog 62 #[.agg #[.int .i64 n.kind, .int .i64 n.one.op,av,kv]] w λe w'=>e=.returned (.bool (Aq n))/\Below w.heap.size w w':=by
 obtain⟨aa,acap,rfl,_⟩:=hav;obtain⟨a,cap,rfl,_⟩:=hkv;obtain⟨la,hla⟩:∃la,la=n.one.args.length:=⟨_,rfl⟩
 obtain⟨lk,hlk⟩:∃lk,lk=n.kids.length:=⟨_,rfl⟩
 have HN:Hid (Aq n=(n.kind==0 && n.one.op==0 && la==0 && lk==0)):=by
  show _=_
  unfold Aq;rw[hla,hlk]
 rw[<-hla,<-hlk];rw[<-hla] at _h1;rw[<-hlk] at _h2;clear hla hlk;go_enter Tryz.func62,Tryz.ntmps62
 go_wp2
 all_goals go_ret
 all_goals (refine⟨Ap ?_,blB⟩)
 all_goals rw[HN.out]
 all_goals go_light
 all_goals (rw[Bool.eq_iff_iff];simp[*];try omega)
theorem Jr (x:Stil.Arm):1<=A7 x:=by obtain⟨_,_,_⟩:=x;rw[Pq];omega
theorem Z9 {α:Type} (f:α->Nat) (hf:∀x,1<=f x):∀l:List α,l.length<=(l.map f).sum
 | []=>by simp
 | x::r=>by have:=Z9 f hf r;have:=hf x;simp only[A4v,List.sum_cons,A4e];omega
theorem Atd (n:Stil.Arm):∀(av nv cv kv:Value) (w:World),Bg w av n.net.one.args->Dq w nv n.net.kids->Ef w cv n.coils->Dv w kv n.kids->A7 n<=1000000000->C9 n->
  Calls Tryz.prog 78 #[.agg #[.int .i64 n.net.kind, .int .i64 n.net.one.op,av,nv,cv,kv]] w λe w'=>e=.returned (.int .i64 (A7 n))/\Below w.heap.size w w':=by
 induction n using Fz with
 | h n coils kids ih=>
  intro av nv cv kv w hav hnv hcv hkv hsz hft;simp only at hav hnv hcv hkv;obtain⟨hf1,hf2,_,hf4,hf5⟩:=(Ee _ _ _).1 hft;obtain⟨_,he,hf6,_⟩:=Df hf1;have hf7:=he.2.1;have IH:=hid ih;have HF:=hid hf5;clear ih hf5 hft he hf1;obtain⟨ns,hns⟩:∃ns,ns=if Aq n then 0 else Aj n:=⟨_,rfl⟩
  have HZ:Hid (A7 ⟨n,coils,kids⟩=1+coils.length+ns+(kids.map A7).sum):=by show _=_;rw[Pq,hns]
  have hsum:1+coils.length+ns+(kids.map A7).sum<=1000000000:=by have:=HZ.out;omega
  have HN1:=hid (λW hW=>Yu n av nv W (hav.below hW) (hnv.below hW) (by omega) (by omega));have HN2:Hid (Aq n=false->∀W,Below w.heap.size w W->Calls Tryz.prog 102 #[.agg #[.int .i64 n.kind, .int .i64 n.one.op,av,nv]] W λe w'=>e=.returned (.int .i64 ns)/\Below W.heap.size W w'):=λh0 W hW=>by
   have e0:ns=Aj n:=by rw[hns,h0];rfl
   rw[e0];exact Atb n av nv W (hav.below hW) (hnv.below hW) (by omega)
  have HN3:Hid (Aq n=true->ns=0):=λh0=>by rw[hns,h0];rfl
  obtain⟨a,cap,rfl,hc⟩:=hkv;have HC:=hid hc;obtain⟨aa,acap,rfl,_⟩:=hav;obtain⟨na,ncap,rfl,_⟩:=hnv;obtain⟨ca,ccap,rfl,_⟩:=hcv;clear hc hsz hns;cases hnn:Aq n
  ·go_enter Tryz.func78,Tryz.ntmps78
   go_wp2_with (first | (go_at_call 62;refine(HN1.out _ blB).mono ?_;rw[hnn];rintro e w1 ⟨rfl,hb1⟩;obtain⟨hc,hf⟩:=Dl hb1) | (go_at_call 102;refine(HN2.out hnn _ blB).mono ?_;rintro e w2 ⟨rfl,hb2⟩))
   go_loopw [3,4] (λacc i wr=>∃j:Nat,j<=kids.length/\i=.int .i64 j/\acc=.int .i64 (1+coils.length+ns+((kids.map A7).take j).sum:Nat)/\Below (w.heap.size+1) (w.alloc (.cells #[.int .i64 n.kind, .int .i64 n.one.op, .slice aa n.one.args.length acap, .slice na n.kids.length ncap, .slice ca coils.length ccap, .slice a kids.length cap] 55)) wr) (λ_ i _=>kids.length - (intOf i).toNat)
   case atStart=>exact⟨0,by omega,rfl,by simp,(hb1.mono (by simp)).trans (hb2.mono (by have:=hb1.size;simpa using this))⟩
   case round=>
    clear hc hf hb1 hb2;obtain⟨j,hj,rfl,rfl,hB⟩:=hrel;have hz:w.heap.size<wr.heap.size:=by have:=hB.size;simp at this;omega
    have c0:wr.cell? ⟨w.heap.size,0,none⟩=some (.int .i64 n.kind):=clA hB;have f0:wr.frozen? ⟨w.heap.size,0,none⟩=false:=frA hB;have c1:wr.cell? ⟨w.heap.size,1,none⟩=some (.int .i64 n.one.op):=clA hB;have f1:wr.frozen? ⟨w.heap.size,1,none⟩=false:=frA hB;have c2:wr.cell? ⟨w.heap.size,2,none⟩=some (.slice aa n.one.args.length acap):=clA hB;have f2:wr.frozen? ⟨w.heap.size,2,none⟩=false:=frA hB;have c3:wr.cell? ⟨w.heap.size,3,none⟩=some (.slice na n.kids.length ncap):=clA hB;have f3:wr.frozen? ⟨w.heap.size,3,none⟩=false:=frA hB;have c4:wr.cell? ⟨w.heap.size,4,none⟩=some (.slice ca coils.length ccap):=clA hB;have f4:wr.frozen? ⟨w.heap.size,4,none⟩=false:=frA hB;have c5:wr.cell? ⟨w.heap.size,5,none⟩=some (.slice a kids.length cap):=clA hB;have f5:wr.frozen? ⟨w.heap.size,5,none⟩=false:=frA hB;have hbw:=(Aa _ _).trans (hB.mono (by omega));have hle:=He (kids.map A7) j;by_cases hlt:j<kids.length
    ·obtain⟨b,o,rfl,hbl,hn⟩:=HC.out j hlt
     obtain⟨hna,cv,kv,x4,x5,hcv,hkv⟩:=(Pg.below hbw _ _ _ hn hbl).open;obtain⟨x0,x1,av,nv,x2,x3,hav,hnv⟩:=hna.open;have hsucc:=Ip (kids.map A7) j (by simpa using hlt);have hle2:=He (kids.map A7) (j+1);rw[List.getElem_map] at hsucc;have HI:=hid (λW hW=>IH.out kids[j] (A4k hlt) av nv cv kv W (hav.below hW) (hnv.below hW) (hcv.below hW) (hkv.below hW) (by omega) (HF.out _ (A4k hlt)));obtain⟨s,hs⟩:∃s,s=A7 kids[j]:=⟨_,rfl⟩
     obtain⟨x,hx⟩:∃x,x=kids[j]:=⟨_,rfl⟩
     rw[<-hs] at HI hsucc;rw[<-hx] at HI x0 x1;obtain⟨q1,q2,rfl,_⟩:=hav;obtain⟨q3,q4,rfl,_⟩:=hnv;obtain⟨q5,q6,rfl,_⟩:=hcv;obtain⟨q7,q8,rfl,_⟩:=hkv;generalize hA1:((kids.map A7).take j).sum=A1 at hsucc hle ⊢;have HS:=hid hsucc;have hsb:1+coils.length+ns+A1+s<=1000000000:=by omega
     clear hs hx hn hna hA1 hsucc hle2 hle hsum
     go_wp2_with (go_at_call 78;refine(HI.out _ blB).mono ?_;rintro e w2 ⟨rfl,hb2⟩)
     refine⟨⟨j+1,by omega,by go_num,?_,hB.trans (hb2.mono hz)⟩,by simp[intOf];omega⟩;rw[HS.out];congr 1;omega
    ·go_wp2
     go_ret;refine⟨D7 ?_,hbw⟩;rw[HZ.out,A48 (by simp;omega)]
  ·have hns0:=HN3.out hnn
   subst hns0;go_enter Tryz.func78,Tryz.ntmps78
   go_wp2_with (first | (go_at_call 62;refine(HN1.out _ blB).mono ?_;rw[hnn];rintro e w1 ⟨rfl,hb1⟩;obtain⟨hc,hf⟩:=Dl hb1))
   go_loopw [3,4] (λacc i wr=>∃j:Nat,j<=kids.length/\i=.int .i64 j/\acc=.int .i64 (1+coils.length+0+((kids.map A7).take j).sum:Nat)/\Below (w.heap.size+1) (w.alloc (.cells #[.int .i64 n.kind, .int .i64 n.one.op, .slice aa n.one.args.length acap, .slice na n.kids.length ncap, .slice ca coils.length ccap, .slice a kids.length cap] 55)) wr) (λ_ i _=>kids.length - (intOf i).toNat)
   case atStart=>exact⟨0,by omega,rfl,by simp,hb1.mono (by simp)⟩
   case round=>
    clear hc hf hb1;obtain⟨j,hj,rfl,rfl,hB⟩:=hrel;have hz:w.heap.size<wr.heap.size:=by have:=hB.size;simp at this;omega
    have c0:wr.cell? ⟨w.heap.size,0,none⟩=some (.int .i64 n.kind):=clA hB;have f0:wr.frozen? ⟨w.heap.size,0,none⟩=false:=frA hB;have c1:wr.cell? ⟨w.heap.size,1,none⟩=some (.int .i64 n.one.op):=clA hB;have f1:wr.frozen? ⟨w.heap.size,1,none⟩=false:=frA hB;have c2:wr.cell? ⟨w.heap.size,2,none⟩=some (.slice aa n.one.args.length acap):=clA hB;have f2:wr.frozen? ⟨w.heap.size,2,none⟩=false:=frA hB;have c3:wr.cell? ⟨w.heap.size,3,none⟩=some (.slice na n.kids.length ncap):=clA hB;have f3:wr.frozen? ⟨w.heap.size,3,none⟩=false:=frA hB;have c4:wr.cell? ⟨w.heap.size,4,none⟩=some (.slice ca coils.length ccap):=clA hB;have f4:wr.frozen? ⟨w.heap.size,4,none⟩=false:=frA hB;have c5:wr.cell? ⟨w.heap.size,5,none⟩=some (.slice a kids.length cap):=clA hB;have f5:wr.frozen? ⟨w.heap.size,5,none⟩=false:=frA hB;have hbw:=(Aa _ _).trans (hB.mono (by omega));have hle:=He (kids.map A7) j;by_cases hlt:j<kids.length
    ·obtain⟨b,o,rfl,hbl,hn⟩:=HC.out j hlt
     obtain⟨hna,cv,kv,x4,x5,hcv,hkv⟩:=(Pg.below hbw _ _ _ hn hbl).open;obtain⟨x0,x1,av,nv,x2,x3,hav,hnv⟩:=hna.open;have hsucc:=Ip (kids.map A7) j (by simpa using hlt);have hle2:=He (kids.map A7) (j+1);rw[List.getElem_map] at hsucc;have HI:=hid (λW hW=>IH.out kids[j] (A4k hlt) av nv cv kv W (hav.below hW) (hnv.below hW) (hcv.below hW) (hkv.below hW) (by omega) (HF.out _ (A4k hlt)));obtain⟨s,hs⟩:∃s,s=A7 kids[j]:=⟨_,rfl⟩
     obtain⟨x,hx⟩:∃x,x=kids[j]:=⟨_,rfl⟩
     rw[<-hs] at HI hsucc;rw[<-hx] at HI x0 x1;obtain⟨q1,q2,rfl,_⟩:=hav;obtain⟨q3,q4,rfl,_⟩:=hnv;obtain⟨q5,q6,rfl,_⟩:=hcv;obtain⟨q7,q8,rfl,_⟩:=hkv;generalize hA1:((kids.map A7).take j).sum=A1 at hsucc hle ⊢;have HS:=hid hsucc;have hsb:1+coils.length+0+A1+s<=1000000000:=by omega
     clear hs hx hn hna hA1 hsucc hle2 hle hsum
     go_wp2_with (go_at_call 78;refine(HI.out _ blB).mono ?_;rintro e w2 ⟨rfl,hb2⟩)
     refine⟨⟨j+1,by omega,by go_num,?_,hB.trans (hb2.mono hz)⟩,by simp[intOf];omega⟩;rw[HS.out];congr 1;omega
    ·go_wp2
     go_ret;refine⟨D7 ?_,hbw⟩;rw[HZ.out,A48 (by simp;omega)]
theorem Aol (l:List Stil.Arm) (kv:Value) (w:World) (hkv:Dv w kv l) (hsz:Bh l<=1000000000) (hft:∀x∈l,C9 x):
  Calls Tryz.prog 49 #[kv] w λe w'=>e=.returned (.int .i64 (Bh l))/\Below w.heap.size w w':=by
 obtain⟨a,cap,rfl,hc⟩:=hkv;have HC:=hid hc;have HF:=hid hft;have HZ:Hid (Bh l=(l.map A7).sum):=rfl;have hsum:(l.map A7).sum<=1000000000:=hsz;have hll:=Z9 A7 Jr l;have hlen:l.length<=1000000000:=by omega
 clear hc hft hsz hll;go_enter Tryz.func49,Tryz.ntmps49
 go_wp2
 go_loopw [3,4] (λacc i wr=>∃j:Nat,j<=l.length/\i=.int .i64 j/\acc=.int .i64 (((l.map A7).take j).sum:Nat)/\Below w.heap.size w wr) (λ_ i _=>l.length - (intOf i).toNat)
 case atStart=>exact⟨0,by omega,rfl,by simp,Below.refl _ _⟩
 case round=>
  obtain⟨j,hj,rfl,rfl,hbw⟩:=hrel;have hle:=He (l.map A7) j;by_cases hlt:j<l.length
  ·obtain⟨b,o,rfl,hbl,hn⟩:=HC.out j hlt
   obtain⟨hna,cv,kv,x4,x5,hcv,hkv⟩:=(Pg.below hbw _ _ _ hn hbl).open;obtain⟨x0,x1,av,nv,x2,x3,hav,hnv⟩:=hna.open;have hsucc:=Ip (l.map A7) j (by simpa using hlt);have hle2:=He (l.map A7) (j+1);rw[List.getElem_map] at hsucc;have HI:=hid (λW hW=>Atd l[j] av nv cv kv W (hav.below hW) (hnv.below hW) (hcv.below hW) (hkv.below hW) (by omega) (HF.out _ (A4k hlt)));obtain⟨s,hs⟩:∃s,s=A7 l[j]:=⟨_,rfl⟩
   obtain⟨x,hx⟩:∃x,x=l[j]:=⟨_,rfl⟩
   rw[<-hs] at HI hsucc;rw[<-hx] at HI x0 x1;obtain⟨q1,q2,rfl,_⟩:=hav;obtain⟨q3,q4,rfl,_⟩:=hnv;obtain⟨q5,q6,rfl,_⟩:=hcv;obtain⟨q7,q8,rfl,_⟩:=hkv;generalize hA1:((l.map A7).take j).sum=A1 at hsucc hle ⊢;have HS:=hid hsucc;have hsb:A1+s<=1000000000:=by omega
   clear hs hx hn hna hA1 hsucc hle2 hle hsum
   go_wp2_with (go_at_call 78;refine(HI.out _ blB).mono ?_;rintro e w2 ⟨rfl,hb2⟩)
   refine⟨⟨j+1,by omega,by go_num,?_,blB⟩,by simp[intOf];omega⟩;rw[HS.out];rfl
  ·go_wp2
   go_ret;refine⟨D7 ?_,hbw⟩;rw[HZ.out,A48 (by simp;omega)]
end Go.Proofs.YtbfljjcnbbmoaaaGreatDoor
