import Derived.Test.YtbfljjcnbbmoaaaGreatDoorGb
set_option maxHeartbeats 4000000
set_option maxRecDepth 100000
namespace Go.Proofs.YtbfljjcnbbmoaaaGreatDoor
open Go.RowKit Go.Sort Go.BigFrame
abbrev Pl:=Nat × Nat
def ad (p:Pl):Addr:=⟨p.1,p.2,none⟩
def Gf (w:World) (ps:List Pl):Prop:=∀p∈ps,p.1<w.heap.size/\(∃n,w.cell? (ad p)=some (.int .i64 n))/\w.frozen? (ad p)=false
def Dh (w w':World) (ps:List Pl) (k:Int):Prop:=
 w.heap.size<=w'.heap.size/\(∀p:Pl,p.1<w.heap.size->p∉ps->w'.cell? (ad p)=w.cell? (ad p))/\(∀i (h:i<ps.length),w'.cell? (ad ps[i])=some (.int .i64 (k+i)))/\
 (∀p:Pl,p.1<w.heap.size->w'.frozen? (ad p)=w.frozen? (ad p))/\∀base,base<=w.heap.size->(∀p∈ps,base<=p.1)->Below base w w'
def Qn (w:World) (ps:List Pl) (k:Int):Prop:=∀i (h:i<ps.length),w.cell? (ad ps[i])=some (.int .i64 (k+i))
theorem Dh.held {w w':World} {ps:List Pl} {k:Int} (h:Dh w w' ps k):Qn w' ps k:=h.2.2.1
theorem Gf.left {w:World} {ps qs:List Pl} (h:Gf w (ps++qs)):Gf w ps:=λp hp=>h p (A4o _ hp)
theorem Gf.right {w:World} {ps qs:List Pl} (h:Gf w (ps++qs)):Gf w qs:=λp hp=>h p (A4l _ hp)
theorem Qn.left {w:World} {ps qs:List Pl} {k:Int} (h:Qn w (ps++qs) k):Qn w ps k:=λi hi=>by
 have:=h i (by simp;omega)
 rwa [List.getElem_append_left hi] at this
theorem Qn.right {w:World} {ps qs:List Pl} {k:Int} (h:Qn w (ps++qs) k):Qn w qs (k+ps.length):=λi hi=>by
 have:=h (ps.length+i) (by simp;omega)
 rw[List.getElem_append_right (by omega)] at this;simp only[Nat.add_sub_cancel_left] at this;rw[this];congr 2;omega
theorem Qn.below {w w':World} {ps:List Pl} {k:Int} (h:Qn w ps k) (hb:Below w.heap.size w w') (hl:∀p∈ps,p.1<w.heap.size):Qn w' ps k:=λi hi=>by
 rw[hb.cell (p:=ad ps[i]) (hl _ (A4k hi))];exact h i hi
theorem Gf.below {w w':World} {ps:List Pl} (h:Gf w ps) (hb:Below w.heap.size w w'):Gf w' ps:=λp hp=>by
 obtain⟨h1,⟨n,h2⟩,h3⟩:=h p hp;exact⟨A4c h1 hb.size,⟨n,(hb.cell (p:=ad p) h1).trans h2⟩,(hb.frozen (p:=ad p) h1).trans h3⟩
theorem Gf.marked {w w':World} {ps qs:List Pl} {k:Int} (h:Gf w qs) (hm:Dh w w' ps k) (hd:∀p∈qs,p∉ps):Gf w' qs:=λp hp=>by
 obtain⟨h1,⟨n,h2⟩,h3⟩:=h p hp;exact⟨A4c h1 hm.1,⟨n,(hm.2.1 p h1 (hd p hp)).trans h2⟩,(hm.2.2.2.1 p h1).trans h3⟩
theorem Dh.of_below {w w':World} {k:Int} (h:Below w.heap.size w w'):Dh w w' [] k:=
 ⟨h.size,λp hp _=>h.cell (p:=ad p) hp,λi hi=>absurd hi (by simp),λp hp=>h.frozen (p:=ad p) hp,λbase hb _=>h.mono hb⟩
theorem Dh.append {w w1 w2:World} {ps qs:List Pl} {k:Int} (h1:Dh w w1 ps k) (h2:Dh w1 w2 qs (k+ps.length)) (hl:∀p∈ps,p.1<w.heap.size) (hd:∀p∈ps,p∉qs):Dh w w2 (ps++qs) k:=by
 obtain⟨a1,a2,a3,a4,a5⟩:=h1;obtain⟨b1,b2,b3,b4,b5⟩:=h2;refine⟨A4p a1 b1,λp hp hn=>?_,λi hi=>?_,λp hp=>?_,λbase hb hq=>?_⟩
 ·simp only[A4q,not_or] at hn
  exact(b2 p (A4c hp a1) hn.2).trans (a2 p hp hn.1)
 ·by_cases hlt:i<ps.length
  ·rw[List.getElem_append_left hlt]
   have hm:=A4k hlt;exact(b2 _ (A4c (hl _ hm) a1) (hd _ hm)).trans (a3 i hlt)
  ·rw[List.getElem_append_right (by omega)]
   rw[b3 (i - ps.length) (by simp at hi;omega)];congr 2;omega
 ·exact(b4 p (A4c hp a1)).trans (a4 p hp)
 ·have e1:=a5 base hb (λp hp=>hq p (A4o _ hp))
  exact e1.trans (b5 base (A4p hb a1) (λp hp=>hq p (A4l _ hp)))
theorem Dh.one {w:World} {b o:Nat} {u:Value} (k:Int) (hc:w.cell? ⟨b,o,none⟩=some u):Dh w (w.setCell ⟨b,o,none⟩ (.int .i64 k)) [(b,o)] k:=by
 refine⟨Ff _ _ _,λp hp hn=>?_,λi hi=>?_,λp hp=>by simp[ad,go_sem],λbase hb hq=>(Below.refl base w).setCell (hq (b,o) (by simp)) _⟩
 ·obtain⟨c,q⟩:=p
  by_cases e:c=b
  ·subst e
   exact Bf (λh=>hn (by have e:q=o:=h;simp[e]))
  ·exact Ba e
 ·obtain rfl:i=0:=by simp at hi;omega
  simpa[ad] using Ey hc
def Ri (v:Value) (ps:List Pl):Prop:=∃a n cap,v=.slice a n cap/\ps.length=3*n/\∀j (h:j<ps.length),∃b o,a=some ⟨b,o,none⟩/\ps[j]=(b,o+j)
theorem take3 {ps:List Pl} {j:Nat} {b o:Nat} (hl:3*j+3<=ps.length) (e0:ps[3*j]'(by omega)=(b,o+3*j)) (e1:ps[3*j+1]'(by omega)=(b,o+(3*j+1))) (e2:ps[3*j+2]'(by omega)=(b,o+(3*j+2))):
  ps.take (3*(j+1))=ps.take (3*j)++[(b,o+3*j),(b,o+3*j+1),(b,o+3*j+2)]:=by
 have h1:ps.take (3*j+1)=ps.take (3*j)++[ps[3*j]'(by omega)]:=A4w (by omega);have h2:ps.take (3*j+1+1)=ps.take (3*j+1)++[ps[3*j+1]'(by omega)]:=A4w (by omega);have h3:ps.take (3*j+2+1)=ps.take (3*j+2)++[ps[3*j+2]'(by omega)]:=A4w (by omega);have e:3*(j+1)=3*j+2+1:=by omega
 rw[e,h3,h2,h1,e0,e1,e2];simp[Nat.add_assoc]
theorem Dh.three {w:World} {b o:Nat} {u0 u1 u2:Value} (k:Int) (hb:b<w.heap.size) (c0:w.cell? ⟨b,o,none⟩=some u0) (c1:w.cell? ⟨b,o+1,none⟩=some u1) (c2:w.cell? ⟨b,o+2,none⟩=some u2):
  Dh w (((w.setCell ⟨b,o,none⟩ (.int .i64 k)).setCell ⟨b,o+1,none⟩ (.int .i64 (k+1))).setCell ⟨b,o+2,none⟩ (.int .i64 (k+2))) [(b,o),(b,o+1),(b,o+2)] k:=by
 have m1:=Dh.one k c0;have m2:=Dh.one (k+1) ((Bf (W:=w) (b:=b) (o:=o) (p:=o+1) (v:=.int .i64 k) (by omega)).trans c1);have m12:=Dh.append m1 (by simpa using m2) (by simpa using hb) (by simp);have m3:=Dh.one (k+2) ((Bf (W:=w.setCell ⟨b,o,none⟩ (.int .i64 k)) (b:=b) (o:=o+1) (p:=o+2) (v:=.int .i64 (k+1)) (by omega)).trans ((Bf (W:=w) (b:=b) (o:=o) (p:=o+2) (v:=.int .i64 k) (by omega)).trans c2));have m:=Dh.append m12 (by simpa using m3) (by simp;exact hb) (by simp);simpa using m
theorem V7 (v:Value) (ps:List Pl) (k:Int) (w:World) (hsh:Ri v ps) (hi:Gf w ps) (hnd:ps.Nodup) (hk0:0<=k) (hk1:k<=4611686018427387904) (hl:ps.length<=4611686018427387904):
  Calls Tryz.prog 25 #[v, .int .i64 k] w λe w'=>e=.returned (.int .i64 (k+ps.length))/\Dh w w' ps k:=by
 obtain⟨a,n,cap,rfl,hlen,hpl⟩:=hsh;have HPL:=hid hpl;have HI:=hid hi;have HND:=hid hnd;have HLE:=hid hlen;have hn:(n:Int)<=1537228672809129302:=by omega
 have hkn:k+3*n<=9223372036854775807:=by omega
 clear hpl hi hnd hlen hl;go_enter Tryz.func25,Tryz.ntmps25
 go_wp2
 go_loopw [1,5] (λkv iv wr=>∃j:Nat,j<=n/\kv=.int .i64 (k+3*j)/\iv=.int .i64 j/\Dh w wr (ps.take (3*j)) k) (λ_ iv _=>n - (intOf iv).toNat)
 case atStart=>exact⟨0,by omega,by simp,rfl,by simpa using Dh.of_below (Below.refl _ _)⟩
 case round=>
  obtain⟨j,hj,rfl,rfl,hm⟩:=hrel;have HM:=hid hm;clear hm;by_cases hlt:j<n
  ·have hl0:3*j+3<=ps.length:=by have:=HLE.out;omega
   obtain⟨b,o,rfl,e0⟩:=HPL.out (3*j) (by omega);obtain⟨b1,o1,ha1,e1⟩:=HPL.out (3*j+1) (by omega);obtain⟨b2,o2,ha2,e2⟩:=HPL.out (3*j+2) (by omega);simp only[Option.some.injEq,Addr.mk.injEq,and_true] at ha1 ha2;obtain⟨rfl,rfl⟩:=ha1;obtain⟨rfl,rfl⟩:=ha2;have hnot:∀i (h:i<ps.length),3*j<=i->ps[i]∉ps.take (3*j):=by
    intro i h hge hmem;obtain⟨i',hi',he⟩:=List.getElem_of_mem hmem;rw[List.getElem_take] at he;simp at hi';exact absurd he ((List.pairwise_iff_getElem.1 HND.out) i' i (by omega) h (by omega))
   have hrest:Gf wr (ps.drop (3*j)):=Gf.marked (λp hp=>HI.out p (List.mem_of_mem_drop hp)) HM.out (by
    intro p hp;obtain⟨i,hi,rfl⟩:=List.getElem_of_mem hp;rw[List.getElem_drop];exact hnot _ _ (by omega))
   have hcell:∀i (h:i<ps.length),3*j<=i->ps[i].1<wr.heap.size/\(∃n,wr.cell? (ad ps[i])=some (.int .i64 n))/\wr.frozen? (ad ps[i])=false:=by
    intro i h hge;apply hrest;have:ps[i]=(ps.drop (3*j))[i - 3*j]'(by simp;omega):=by rw[List.getElem_drop];congr 1;omega
    rw[this];exact A4k _
   obtain⟨hb0,⟨n0,c0⟩,f0⟩:=hcell (3*j) (by omega) (by omega);obtain⟨_,⟨n1,c1⟩,f1⟩:=hcell (3*j+1) (by omega) (by omega);obtain⟨_,⟨n2,c2⟩,f2⟩:=hcell (3*j+2) (by omega) (by omega);have HT:=hid (take3 hl0 e0 e1 e2);have HDJ:Hid (∀p∈ps.take (3*j),p∉[(b,o+3*j),(b,o+3*j+1),(b,o+3*j+2)]):=by
    intro p hp hq;simp only[A4y,List.not_mem_nil,or_false] at hq;rcases hq with rfl | rfl | rfl
    ·exact hnot (3*j) (by omega) (by omega) (by rw[e0];exact hp)
    ·exact hnot (3*j+1) (by omega) (by omega) (by rw[e1];exact hp)
    ·exact hnot (3*j+2) (by omega) (by omega) (by rw[e2];exact hp)
   rw[e0] at hb0 c0 f0;rw[e1] at c1 f1;rw[e2] at c2 f2;have HLT:Hid (∀p∈ps.take (3*j),p.1<w.heap.size):=λp hp=>(HI.out p (List.mem_of_mem_take hp)).1
   have HTL:Hid ((ps.take (3*j)).length=3*j):=by show _=_;simp;omega
   simp only[ad] at c0 c1 c2 f0 f1 f2;rw[show o+(3*j+1)=o+j*3+1 by omega] at c1 f1;rw[show o+(3*j+2)=o+j*3+2 by omega] at c2 f2;rw[show o+3*j=o+j*3 by omega] at c0 f0;clear hnot hrest hcell e0 e1 e2;have w1:IntKind.i64.wrap (k+3*(j:Int)+1)=k+3*j+1:=by rw[IntKind.wrap_i64];omega
   have w2:IntKind.i64.wrap (k+3*(j:Int)+1+1)=k+3*j+2:=by rw[IntKind.wrap_i64];omega
   have w3:IntKind.i64.wrap (k+3*(j:Int)+2+1)=k+3*j+3:=by rw[IntKind.wrap_i64];omega
   go_wp2
   refine⟨⟨j+1,by omega,by rw[show k+3*((j+1:Nat):Int)=k+3*j+3 from by omega],by go_num,?_⟩,by simp[intOf];omega⟩;rw[HT.out];refine Dh.append HM.out ?_ HLT.out HDJ.out;rw[HTL.out];have:=Dh.three (k+((3*j:Nat):Int)) hb0 c0 c1 c2
   have e3:o+j*3=o+3*j:=by omega
   have e4:k+((3*j:Nat):Int)=k+3*(j:Int):=by omega
   rw[e3,e4] at this;rw[e3,e4];exact this
  ·obtain rfl:j=n:=by omega
   go_wp2
   go_ret;have hT:ps.take (3*j)=ps:=A48 (by have:=HLE.out;omega);refine⟨D7 (by rw[HLE.out];omega),?_⟩;have:=HM.out
   rwa [hT] at this
theorem Ao6 (v:Value) (ps:List Pl) (k:Int) (w:World) (hsh:Ri v ps) (hh:Qn w ps k) (hk0:0<=k) (hk1:k<=4611686018427387904) (hl:ps.length<=4611686018427387904):
  Calls Tryz.prog 28 #[v, .int .i64 k] w λe w'=>e=.returned (.int .i64 (k+ps.length))/\w'=w:=by
 obtain⟨a,n,cap,rfl,hlen,hpl⟩:=hsh;have HO:Hid (∀j,j<n->∃b o,a=some ⟨b,o,none⟩/\w.cell? ⟨b,o+j*3,none⟩=some (.int .i64 (k+3*j))/\w.cell? ⟨b,o+j*3+1,none⟩=some (.int .i64 (k+3*j+1))/\w.cell? ⟨b,o+j*3+2,none⟩=some (.int .i64 (k+3*j+2))):=by
  intro j hj;obtain⟨b,o,rfl,e0⟩:=hpl (3*j) (by omega);obtain⟨b1,o1,ha1,e1⟩:=hpl (3*j+1) (by omega);obtain⟨b2,o2,ha2,e2⟩:=hpl (3*j+2) (by omega);simp only[Option.some.injEq,Addr.mk.injEq,and_true] at ha1 ha2;obtain⟨rfl,rfl⟩:=ha1;obtain⟨rfl,rfl⟩:=ha2;have c0:=hh (3*j) (by omega);have c1:=hh (3*j+1) (by omega);have c2:=hh (3*j+2) (by omega);rw[e0] at c0;rw[e1] at c1;rw[e2] at c2;simp only[ad] at c0 c1 c2;refine⟨b,o,rfl,?_,?_,?_⟩
  ·rw[show o+j*3=o+3*j by omega,c0];congr 2
  ·rw[show o+j*3+1=o+(3*j+1) by omega,c1];congr 2;omega
  ·rw[show o+j*3+2=o+(3*j+2) by omega,c2];congr 2;omega
 have HLE:=hid hlen;have hkn:k+3*n<=9223372036854775807:=by omega
 clear hpl hh hlen hl;go_enter Tryz.func28,Tryz.ntmps28
 go_wp2
 go_loopw [1,5] (λkv iv wr=>∃j:Nat,j<=n/\kv=.int .i64 (k+3*j)/\iv=.int .i64 j/\wr=w) (λ_ iv _=>n - (intOf iv).toNat)
 case atStart=>exact⟨0,by omega,by simp,rfl,rfl⟩
 case round=>
  obtain⟨j,hj,rfl,rfl,rfl⟩:=hrel;by_cases hlt:j<n
  ·obtain⟨b,o,rfl,c0,c1,c2⟩:=HO.out j hlt
   have w1:IntKind.i64.wrap (k+3*(j:Int)+1)=k+3*j+1:=by rw[IntKind.wrap_i64];omega
   have w2:IntKind.i64.wrap (k+3*(j:Int)+1+1)=k+3*j+2:=by rw[IntKind.wrap_i64];omega
   have w3:IntKind.i64.wrap (k+3*(j:Int)+2+1)=k+3*j+3:=by rw[IntKind.wrap_i64];omega
   go_wp2
   exact⟨⟨j+1,by omega,by rw[show k+3*((j+1:Nat):Int)=k+3*j+3 from by omega],by go_num,trivial⟩,by simp[intOf];omega⟩
  ·obtain rfl:j=n:=by omega
   go_wp2
   go_ret;exact⟨D7 (by rw[HLE.out];omega),rfl⟩
def Du (b:Nat):Nat->List (List Pl)->List Pl
 | _,[]=>[]
 | o,q::r=>(b,o)::(b,o+1)::(q++Du b (o+3) r)
theorem Qc (b:Nat):∀(qs:List (List Pl)) (o i:Nat) (h:i<qs.length),Du b o (qs.take (i+1))=Du b o (qs.take i)++((b,o+i*3)::(b,o+i*3+1)::qs[i])
 | [],_,_,h=>by simp at h
 | q::r,o,0,_=>by simp[Du]
 | q::r,o,i+1,h=>by
  have ih:=Qc b r (o+3) i (by simpa using h);rw[List.take_succ_cons,List.take_succ_cons,Du,Du,ih];have e:o+3+i*3=o+(i+1)*3:=by omega
  simp[e]
theorem Vm (b:Nat):∀(qs:List (List Pl)) (o i:Nat),i<=qs.length->Du b o qs=Du b o (qs.take i)++Du b (o+i*3) (qs.drop i)
 | qs,o,0,_=>by simp[Du]
 | [],_,i+1,h=>by simp at h
 | q::r,o,i+1,h=>by
  have ih:=Vm b r (o+3) i (by simpa using h);rw[List.take_succ_cons,List.drop_succ_cons,Du,Du,ih];have e:o+3+i*3=o+(i+1)*3:=by omega
  simp[e]
def Qm (w:World) (v:Value) (b o:Nat) (qs:List (List Pl)):Prop:=(∃a cap,v=.slice a qs.length cap/\(0<qs.length->a=some ⟨b,o,none⟩))/\
 ∀i (h:i<qs.length),b<w.heap.size/\(b,o+i*3+2)∉Du b o qs/\∃av,w.cell? ⟨b,o+i*3+2,none⟩=some av/\Ri av qs[i]
theorem Qm.below {w w':World} {v:Value} {b o:Nat} {qs:List (List Pl)} (h:Qm w v b o qs) (hb:Below w.heap.size w w'):Qm w' v b o qs:=by
 refine⟨h.1,λi hi=>?_⟩;obtain⟨h1,h2,av,h3,h4⟩:=h.2 i hi;exact⟨A4c h1 hb.size,h2,av,(hb.cell (p:=⟨b,o+i*3+2,none⟩) h1).trans h3,h4⟩
theorem Qm.marked {w w':World} {v:Value} {b o:Nat} {qs:List (List Pl)} {ps:List Pl} {k:Int} (h:Qm w v b o qs) (hm:Dh w w' ps k) (hd:∀i,i<qs.length->(b,o+i*3+2)∉ps):Qm w' v b o qs:=by
 refine⟨h.1,λi hi=>?_⟩;obtain⟨h1,h2,av,h3,h4⟩:=h.2 i hi;exact⟨A4c h1 hm.1,h2,av,(hm.2.1 (b,o+i*3+2) h1 (hd i hi)).trans h3,h4⟩
theorem Dh.two {w:World} {b o:Nat} {u0 u1:Value} (k:Int) (hb:b<w.heap.size) (c0:w.cell? ⟨b,o,none⟩=some u0) (c1:w.cell? ⟨b,o+1,none⟩=some u1):
  Dh w ((w.setCell ⟨b,o,none⟩ (.int .i64 k)).setCell ⟨b,o+1,none⟩ (.int .i64 (k+1))) [(b,o),(b,o+1)] k:=by
 have m1:=Dh.one k c0;have m2:=Dh.one (k+1) ((Bf (W:=w) (b:=b) (o:=o) (p:=o+1) (v:=.int .i64 k) (by omega)).trans c1);simpa using Dh.append m1 (by simpa using m2) (by simpa using hb) (by simp)
theorem Akx (v:Value) (b o:Nat) (qs:List (List Pl)) (k:Int) (w:World) (hsh:Qm w v b o qs) (hi:Gf w (Du b o qs)) (hnd:(Du b o qs).Nodup) (hk0:0<=k) (hkl:k+(Du b o qs).length<=4611686018427387904):
  Calls Tryz.prog 12 #[v, .int .i64 k] w λe w'=>e=.returned (.int .i64 (k+(Du b o qs).length))/\Dh w w' (Du b o qs) k:=by
 have HSH:=hid hsh;have HI:=hid hi;have HND:=hid hnd;have HKL:=hid hkl;obtain⟨⟨a,cap,rfl,ha⟩,_⟩:=hsh;obtain⟨n,hn⟩:∃n,n=qs.length:=⟨_,rfl⟩
 have HN:=hid hn;have HA:Hid (0<n->a=some ⟨b,o,none⟩):=by rw[hn];exact ha
 rw[<-hn];clear hi hnd hkl ha hn;have hnb:n<=4611686018427387904:=by
  have h1:=HKL.out;have h2:∀(qs:List (List Pl)) (o:Nat),qs.length<=(Du b o qs).length:=by
   intro qs;induction qs with
   | nil=>intro o;simp
   | cons q r ih=>intro o;have:=ih (o+3);simp[Du];omega
  have h3:=h2 qs o;have:=HN.out
  omega
 go_enter Tryz.func12,Tryz.ntmps12
 go_wp2
 go_loopw [1,5] (λkv iv wr=>∃(i:Nat) (L:Nat),i<=n/\L=(Du b o (qs.take i)).length/\kv=.int .i64 (k+L)/\iv=.int .i64 i/\Dh w wr (Du b o (qs.take i)) k) (λ_ iv _=>n - (intOf iv).toNat)
 case atStart=>exact⟨0,0,by omega,by simp[Du],by simp,rfl,by simpa[Du] using Dh.of_below (Below.refl _ _)⟩
 case round=>
  obtain⟨i,L,hi,hL,rfl,rfl,hm⟩:=hrel;have HM:=hid hm;have HL:=hid hL;clear hm hL;by_cases hlt:i<n
  ·have hlq:i<qs.length:=by have:=HN.out;omega
   obtain rfl:=HA.out (by omega);have hspl:Du b o qs=Du b o (qs.take i)++(((b,o+i*3)::(b,o+i*3+1)::qs[i])++Du b (o+(i+1)*3) (qs.drop (i+1))):=by
    rw[Vm b qs o (i+1) (by omega),Qc b qs o i hlq,A41]
   have HSN:=hid (Qc b qs o i hlq);have hI:=HI.out;have hN:=HND.out;have hK:=HKL.out;obtain⟨hbz,hoff,av,hav,hsv⟩:=HSH.out.2 i hlq;rw[hspl] at hI hN hK hoff;obtain⟨A,hA⟩:∃A,A=Du b o (qs.take i):=⟨_,rfl⟩
   obtain⟨Z,hZ⟩:∃Z,Z=Du b (o+(i+1)*3) (qs.drop (i+1)):=⟨_,rfl⟩
   obtain⟨q,hq⟩:∃q,q=qs[i]:=⟨_,rfl⟩
   rw[<-hA] at hI hN hK HM HL HSN hoff;rw[<-hZ] at hI hN hK hoff;rw[<-hq] at hI hN hK HSN hsv hoff;clear hspl hA hZ hq;obtain⟨P,hP⟩:∃P:List Pl,P=[(b,o+i*3),(b,o+i*3+1)]:=⟨_,rfl⟩
   have hPq:((b,o+i*3)::(b,o+i*3+1)::q)=P++q:=by rw[hP];rfl
   rw[hPq] at hI hN hK HSN hoff;have hNA:=List.nodup_append.1 hN;have hNP:=List.nodup_append.1 hNA.2.1;have hNQ:=List.nodup_append.1 hNP.1;have dPA:∀p∈P,p∉A:=λp hp hpa=>hNA.2.2 p hpa p (A4o _ (A4o _ hp)) rfl
   have dqA:∀p∈q,p∉A:=λp hp hpa=>hNA.2.2 p hpa p (A4o _ (A4l _ hp)) rfl
   have HDA:Hid (∀p∈A,p∉P++q):=λp hp hpq=>hNA.2.2 p hp p (A4o _ hpq) rfl
   have HDP:Hid (∀p∈P,p∉q):=λp hp hpq=>hNQ.2.2 p hp p hpq rfl
   have HDQ:Hid (∀p∈q,p∉P):=λp hp hpq=>hNQ.2.2 p hpq p hp rfl
   have HNQ:=hid hNQ.2.1;have hIP:=(hI.right.left.left).marked HM.out dPA;have HIP:=hid (λp hp=>(hIP p hp).1);have HIQ:=hid ((hI.right.left.right).marked HM.out dqA);have HAL:=hid (λp hp=>(hI.left p hp).1);have hhd:wr.cell? ⟨b,o+i*3+2,none⟩=some av:=(HM.out.2.1 (b,o+i*3+2) hbz (λh=>hoff (A4o _ h))).trans hav;have hLn:=HL.out;simp only[A4d] at hK;have hPl:P.length=2:=by rw[hP];rfl
   have hq1:q.length<=4611686018427387904:=by omega
   have hk2:k+L+2<=4611686018427387904:=by omega
   have HC:=hid (λW hW=>V7 av q (k+L+2) W hsv hW HNQ.out (by omega) hk2 hq1);obtain⟨⟨hb0,⟨n0,c0⟩,f0⟩,⟨_,⟨n1,c1⟩,f1⟩⟩:(b<wr.heap.size/\(∃n,wr.cell? ⟨b,o+i*3,none⟩=some (.int .i64 n))/\wr.frozen? ⟨b,o+i*3,none⟩=false)/\(b<wr.heap.size/\(∃n,wr.cell? ⟨b,o+i*3+1,none⟩=some (.int .i64 n))/\wr.frozen? ⟨b,o+i*3+1,none⟩=false):=
    ⟨hIP (b,o+i*3) (by rw[hP];simp),hIP (b,o+i*3+1) (by rw[hP];simp)⟩
   have HMP:Hid (Dh wr ((wr.setCell ⟨b,o+i*3,none⟩ (.int .i64 (k+L))).setCell ⟨b,o+i*3+1,none⟩ (.int .i64 (k+L+1))) P (k+L)):=by rw[hP];exact Dh.two (k+L) hb0 c0 c1
   have HPL:=hid hPl;obtain⟨a',n',cap',rfl,_,_⟩:=hsv;clear hI hN hK hNA hNP hNQ dPA dqA hIP hoff hav hPq hP hLn;have w1:IntKind.i64.wrap (k+(L:Int)+1)=k+L+1:=by rw[IntKind.wrap_i64];omega
   have w2:IntKind.i64.wrap (k+(L:Int)+1+1)=k+L+2:=by rw[IntKind.wrap_i64];omega
   go_wp2_with (go_at_call 25;refine(HC.out _ (HIQ.out.marked HMP.out HDQ.out)).mono ?_;rintro e w3 ⟨rfl,hm3⟩)
   refine⟨⟨i+1,L+2+q.length,by omega,?_,?_,by go_num,?_⟩,by simp[intOf];omega⟩
   ·rw[HSN.out,A4d,A4d,HPL.out,<-HL.out];omega
   ·congr 1;omega
   ·rw[HSN.out]
    refine Dh.append HM.out ?_ HAL.out HDA.out;rw[<-HL.out];refine Dh.append HMP.out ?_ ?_ HDP.out
    ·rw[HPL.out];exact hm3
    ·intro p hp
     exact A4c (HIP.out p hp) (A4i _)
  ·obtain rfl:i=n:=by omega
   go_wp2
   go_ret;have hT:qs.take i=qs:=A48 (by have:=HN.out;omega);refine⟨D7 (by rw[HL.out,hT]),?_⟩;have:=HM.out
   rwa [hT] at this
theorem Apv (b:Nat):∀(qs:List (List Pl)) (o:Nat),qs.length<=(Du b o qs).length:=by
 intro qs;induction qs with
 | nil=>intro o;simp
 | cons q r ih=>intro o;have:=ih (o+3);simp[Du];omega
theorem Akz (v:Value) (b o:Nat) (qs:List (List Pl)) (k:Int) (w:World) (hsh:Qm w v b o qs) (hh:Qn w (Du b o qs) k) (hk0:0<=k) (hkl:k+(Du b o qs).length<=4611686018427387904):
  Calls Tryz.prog 13 #[v, .int .i64 k] w λe w'=>e=.returned (.int .i64 (k+(Du b o qs).length))/\w'=w:=by
 have HSH:=hid hsh;have HH:=hid hh;have HKL:=hid hkl;have hnb:=Apv b qs o;obtain⟨⟨a,cap,rfl,ha⟩,_⟩:=hsh;obtain⟨n,hn⟩:∃n,n=qs.length:=⟨_,rfl⟩
 have HN:=hid hn;have HA:Hid (0<n->a=some ⟨b,o,none⟩):=by rw[hn];exact ha
 rw[<-hn] at hnb ⊢;have hnb2:n<=4611686018427387904:=by omega
 clear hh hkl ha hn hnb;go_enter Tryz.func13,Tryz.ntmps13
 go_wp2
 go_loopw [1,5] (λkv iv wr=>∃(i:Nat) (L:Nat),i<=n/\L=(Du b o (qs.take i)).length/\kv=.int .i64 (k+L)/\iv=.int .i64 i/\wr=w) (λ_ iv _=>n - (intOf iv).toNat)
 case atStart=>exact⟨0,0,by omega,by simp[Du],by simp,rfl,rfl⟩
 case round=>
  obtain⟨i,L,hi,hL,rfl,rfl,rfl⟩:=hrel;have HL:=hid hL;clear hL;by_cases hlt:i<n
  ·have hlq:i<qs.length:=by have:=HN.out;omega
   obtain rfl:=HA.out (by omega);have hspl:Du b o qs=Du b o (qs.take i)++(((b,o+i*3)::(b,o+i*3+1)::qs[i])++Du b (o+(i+1)*3) (qs.drop (i+1))):=by
    rw[Vm b qs o (i+1) (by omega),Qc b qs o i hlq,A41]
   have HSN:=hid (Qc b qs o i hlq);have hH:=HH.out;have hK:=HKL.out;obtain⟨hbz,_,av,hav,hsv⟩:=HSH.out.2 i hlq;rw[hspl] at hH hK;have hH2:=hH.right.left;rw[<-HL.out] at hH2;obtain⟨q,hq⟩:∃q,q=qs[i]:=⟨_,rfl⟩
   rw[<-hq] at hH2 hK HSN hsv;have c0:wr.cell? ⟨b,o+i*3,none⟩=some (.int .i64 (k+L)):=by
    have h:wr.cell? ⟨b,o+i*3,none⟩=some (.int .i64 (k+L+((0:Nat):Int))):=hH2 0 (by simp);simpa using h
   have c1:wr.cell? ⟨b,o+i*3+1,none⟩=some (.int .i64 (k+L+1)):=by
    have h:wr.cell? ⟨b,o+i*3+1,none⟩=some (.int .i64 (k+L+((1:Nat):Int))):=hH2 1 (by simp);simpa using h
   have hHq:Qn wr q (k+L+2):=by
    have h2:Qn wr ([(b,o+i*3),(b,o+i*3+1)]++q) (k+L):=hH2;simpa using h2.right
   simp only[A4d,A4e] at hK;have hLn:=HL.out;have HC:=hid (Ao6 av q (k+L+2) wr hsv hHq (by omega) (by omega) (by omega));have w1:IntKind.i64.wrap (k+(L:Int)+1)=k+L+1:=by rw[IntKind.wrap_i64];omega
   have w2:IntKind.i64.wrap (k+(L:Int)+1+1)=k+L+2:=by rw[IntKind.wrap_i64];omega
   have hpos:¬(k+(L:Int)+2+q.length<0):=by omega
   obtain⟨a',n',cap',rfl,_,_⟩:=hsv;clear hspl hH hK hH2 hHq hLn hq
   go_wp2_with (go_at_call 28;refine HC.out.mono ?_;rintro e w3 ⟨rfl,rfl⟩)
   refine⟨⟨i+1,L+2+q.length,by omega,?_,?_,by go_num,trivial⟩,by simp[intOf];omega⟩
   ·rw[HSN.out,A4d,<-HL.out];simp;omega
   ·congr 1;omega
  ·obtain rfl:i=n:=by omega
   go_wp2
   go_ret;have hT:qs.take i=qs:=A48 (by have:=HN.out;omega);exact⟨D7 (by rw[HL.out,hT]),rfl⟩
def Iu (g n:Nat):List Pl:=(List.range (3*n)).map λj=>(g,j)
theorem Qh (g n:Nat):(Iu g n).length=3*n:=by simp[Iu]
theorem Uk {g n:Nat} {p:Pl} (h:p∈Iu g n):p.1=g/\p.2<3*n:=by
 obtain⟨j,hj,rfl⟩:=List.mem_map.1 h;exact⟨rfl,List.mem_range.1 hj⟩
theorem Uj (g n:Nat):(Iu g n).Nodup:=by
 unfold Iu;refine List.pairwise_map.2 (List.Pairwise.imp ?_ List.nodup_range);intro a b h e;exact h (Prod.mk.inj e).2
theorem Aly {w:World} {base:Nat} {u:Value} {ds:List Stil.Dev} (h:w.ownsRow base 86 3 u ds.length (Bz ds)):
  ∃ps:List Pl,Ri u ps/\Gf w ps/\ps.Nodup/\(∀p∈ps,base<=p.1/\u.ownBlock=some p.1)/\ps.length=3*ds.length:=by
 by_cases hd:ds.length=0
 ·have hn:=List.length_eq_zero_iff.1 hd
  subst hn;obtain⟨a,cap,rfl⟩:=Af h;exact⟨[],⟨a,0,cap,rfl,rfl,λj hj=>absurd hj (by simp)⟩,(λp hp=>by cases hp),List.nodup_nil,(λp hp=>by cases hp),rfl⟩
 ·obtain⟨g,cap,hv,hbase,hlt,_,hc⟩:=Aw h (by omega)
  subst hv;refine⟨Iu g ds.length,⟨_,_,_,rfl,Qh _ _,λj hj=>⟨g,0,rfl,by simp[Iu]⟩⟩,λp hp=>?_,Uj _ _,λp hp=>?_,Qh _ _⟩
  ·obtain⟨h1,h2⟩:=Uk hp
   obtain⟨b,j⟩:=p;simp only at h1 h2;subst h1;refine⟨hlt,?_,h.frozenAt _⟩;have hi:j / 3<ds.length:=by omega
   obtain⟨a1,a2,a3⟩:=Ls ds (j / 3) hi;have hx:j=j / 3*3\/j=j / 3*3+1\/j=j / 3*3+2:=by omega
   rcases hx with e | e | e
   ·exact⟨_,by rw[ad,e];exact hc _ _ a1⟩
   ·exact⟨_,by rw[ad,e];exact hc _ _ a2⟩
   ·exact⟨_,by rw[ad,e];exact hc _ _ a3⟩
  ·obtain⟨h1,_⟩:=Uk hp
   rw[h1];exact⟨hbase,rfl⟩
theorem Si (b:Nat):∀(qs:List (List Pl)) (o:Nat) (p:Pl),p∈Du b o qs->(∃i,i<qs.length/\(p=(b,o+i*3)\/p=(b,o+i*3+1)))\/∃q∈qs,p∈q
 | [],_,p,h=>by simp[Du] at h
 | q::r,o,p,h=>by
  rw[Du] at h;simp only[A4y,A4q] at h;rcases h with h | h | h | h
  ·exact .inl ⟨0,by simp, .inl (by simpa using h)⟩
  ·exact .inl ⟨0,by simp, .inr (by simpa using h)⟩
  ·exact .inr ⟨q,by simp,h⟩
  ·rcases Si b r (o+3) p h with⟨i,hi,hp⟩ | ⟨q',hq',hp⟩
   ·refine .inl ⟨i+1,by simp;omega,?_⟩
    have e:o+3+i*3=o+(i+1)*3:=by omega
    rwa [e] at hp
   ·exact .inr ⟨q',A4h _ hq',hp⟩
theorem Aau (b:Nat):∀(qs:List (List Pl)) (o:Nat),(∀q∈qs,q.Nodup/\∀p∈q,p.1≠b)->qs.Pairwise (λq r=>∀p∈q,p∉r)->(Du b o qs).Nodup
 | [],_,_,_=>List.nodup_nil
 | q::r,o,h1,h2=>by
  have ih:=Aau b r (o+3) (λx hx=>h1 x (A4h _ hx)) (List.pairwise_cons.1 h2).2;obtain⟨hq1,hq2⟩:=h1 q (by simp);have hr:∀p∈Du b (o+3) r,p≠(b,o)/\p≠(b,o+1)/\p∉q:=by
   intro p hp;rcases Si b r (o+3) p hp with⟨i,_,hp | hp⟩ | ⟨x,hx,hp⟩
   ·subst hp
    refine⟨λe=>?_,λe=>?_,λe=>hq2 _ e rfl⟩
    ·have:=(Prod.mk.inj e).2;omega
    ·have:=(Prod.mk.inj e).2;omega
   ·subst hp
    refine⟨λe=>?_,λe=>?_,λe=>hq2 _ e rfl⟩
    ·have:=(Prod.mk.inj e).2;omega
    ·have:=(Prod.mk.inj e).2;omega
   ·have hb:=(h1 x (A4h _ hx)).2 p hp
    exact⟨λe=>hb (by rw[e]),λe=>hb (by rw[e]),λe=>(List.pairwise_cons.1 h2).1 x hx p e hp⟩
  rw[Du,List.nodup_cons,List.nodup_cons,A5e];refine⟨?_,?_,hq1,ih,λa ha c hc e=>(hr c hc).2.2 (e ▸ ha)⟩
  ·simp only[A4y,A4q,not_or]
   exact⟨λe=>by have:=(Prod.mk.inj e).2;omega,λe=>hq2 _ e rfl,λe=>(hr _ e).1 rfl⟩
  ·simp only[A4q,not_or]
   exact⟨λe=>hq2 _ e rfl,λe=>(hr _ e).2.1 rfl⟩
theorem Alh {b o i:Nat} {qs:List (List Pl)} (h:∀q∈qs,∀p∈q,p.1≠b):(b,o+i*3+2)∉Du b o qs:=by
 intro hm;rcases Si b qs o _ hm with⟨j,_,hp | hp⟩ | ⟨q,hq,hp⟩
 ·have:=(Prod.mk.inj hp).2;omega
 ·have:=(Prod.mk.inj hp).2;omega
 ·exact h q hq _ hp rfl
theorem Alg {w:World} {b cap:Nat} {l:List Stil.Ht} {qs:List (List Pl)} (hb:b<w.heap.size) (hl:qs.length=l.length)
  (h:∀i (h:i<l.length),w.cell? ⟨b,i*3,none⟩=some (.int .i64 l[i].code)/\w.cell? ⟨b,i*3+1,none⟩=some (.int .i64 l[i].one.op)/\∃u,w.cell? ⟨b,i*3+2,none⟩=some u/\Ri u (qs[i]'(by omega))/\Bg w u l[i].one.args)
  (hf:∀o,w.frozen? ⟨b,o,none⟩=false) (hq:∀q∈qs,Gf w q/\q.Nodup/\∀p∈q,p.1≠b) (hd:qs.Pairwise (λq r=>∀p∈q,p∉r)):
  Qm w (.slice (some ⟨b,0,none⟩) l.length cap) b 0 qs/\Gf w (Du b 0 qs)/\(Du b 0 qs).Nodup/\Jf w (.slice (some ⟨b,0,none⟩) l.length cap) l:=by
 refine⟨⟨⟨_,cap,by rw[hl],λ_=>rfl⟩,λi hi=>?_⟩,λp hp=>?_,Aau b qs 0 (λq h=>⟨(hq q h).2.1,(hq q h).2.2⟩) hd,⟨_,cap,rfl,λi hi=>?_⟩⟩
 ·obtain⟨_,_,u,h3,h4,_⟩:=h i (by omega)
  exact⟨hb,Alh (λq h=>(hq q h).2.2),u,by rw[A4m];exact h3,h4⟩
 ·rcases Si b qs 0 p hp with⟨i,hi,hp | hp⟩ | ⟨q,hqm,hp⟩
  ·subst hp
   obtain⟨h1,_⟩:=h i (by omega);exact⟨hb,⟨_,by rw[ad];simp only[A4m];exact h1⟩,hf _⟩
  ·subst hp
   obtain⟨_,h2,_⟩:=h i (by omega);exact⟨hb,⟨_,by rw[ad];simp only[A4m];exact h2⟩,hf _⟩
  ·exact(hq q hqm).1 p hp
 ·obtain⟨h1,h2,u,h3,_,h5⟩:=h i hi
  exact⟨b,0,rfl,hb,by rw[A4m];exact h1,by rw[A4m];exact h2,u,by rw[A4m];exact h3,h5⟩
end Go.Proofs.YtbfljjcnbbmoaaaGreatDoor
