import Derived.Test.YtbfljjcnbbmoaaaGreatDoorGb
set_option maxHeartbeats 4000000
set_option maxRecDepth 100000
namespace Go.Proofs.YtbfljjcnbbmoaaaGreatDoor
open Go.RowKit Go.Sort Go.BigFrame
variable {k:Int}{o:Nat}{u u0 u1 v:Value}{w':World}
abbrev Pl:=Nat × Nat
def ad (p:Pl):Addr:=⟨p.1,p.2,none⟩
def Gn (w:World)(ps:List Pl):Prop:=∀p∈ps,p.1<w.heap.size/\(∃n,w.cell? (ad p)=some (.int .i64 n))/\w.frozen? (ad p)=false
def Dk (w w':World)(ps:List Pl)(k:Int):Prop:=
 w.heap.size<=w'.heap.size/\(∀p:Pl,p.1<w.heap.size->p∉ps->w'.cell? (ad p)=w.cell? (ad p))/\(∀i (h:i<ps.length),w'.cell? (ad ps[i])=some (.int .i64 (k+i)))/\
 (∀p:Pl,p.1<w.heap.size->w'.frozen? (ad p)=w.frozen? (ad p))/\∀base,base<=w.heap.size->(∀p∈ps,base<=p.1)->Below base w w'
def Q9 (w:World)(ps:List Pl)(k:Int):Prop:=∀i (h:i<ps.length),w.cell? (ad ps[i])=some (.int .i64 (k+i))
theorem Dk.held {w:World}{ps:List Pl}(h:Dk w w' ps k):Q9 w' ps k:=h.2.2.1
theorem Gn.left {w:World}{ps qs:List Pl}(h:Gn w (ps++qs)):Gn w ps:=λp hp=>h p (A4j _ hp)
theorem Gn.right {w:World}{ps qs:List Pl}(h:Gn w (ps++qs)):Gn w qs:=λp hp=>h p (A4g _ hp)
theorem Q9.left {w:World}{ps qs:List Pl}(h:Q9 w (ps++qs) k):Q9 w ps k:=λi hi=>by
 have:=h i (by simp;omega)
 rwa [List.getElem_append_left hi] at this
theorem Q9.right {w:World}{ps qs:List Pl}(h:Q9 w (ps++qs) k):Q9 w qs (k+ps.length):=λi hi=>by
 have:=h (ps.length+i) (by simp;omega)
 rw[List.getElem_append_right omz] at this;simp only[Nat.add_sub_cancel_left] at this;rw[this];congr 2;omega
theorem Q9.below {w:World}{ps:List Pl}(h:Q9 w ps k)(hb:Below w.heap.size w w')(hl:∀p∈ps,p.1<w.heap.size):Q9 w' ps k:=λi hi=>by
 rw[hb.cell (p:=ad ps[i]) (hl _ (A4f hi))];exact h i hi
theorem Gn.below {w:World}{ps:List Pl}(h:Gn w ps)(hb:Below w.heap.size w w'):Gn w' ps:=λp hp=>by
 obtain⟨h1,⟨n,h2⟩,h3⟩:=h p hp;exact⟨A37 h1 hb.size,⟨n,(hb.cell (p:=ad p) h1).trans h2⟩,(hb.frozen (p:=ad p) h1).trans h3⟩
theorem Gn.marked {w:World}{ps qs:List Pl}(h:Gn w qs)(hm:Dk w w' ps k)(hd:∀p∈qs,p∉ps):Gn w' qs:=λp hp=>by
 obtain⟨h1,⟨n,h2⟩,h3⟩:=h p hp;exact⟨A37 h1 hm.1,⟨n,(hm.2.1 p h1 (hd p hp)).trans h2⟩,(hm.2.2.2.1 p h1).trans h3⟩
theorem Dk.of_below {w:World}(h:Below w.heap.size w w'):Dk w w' [] k:=
 ⟨h.size,λp hp _=>h.cell (p:=ad p) hp,λi hi=>absurd hi spz,λp hp=>h.frozen (p:=ad p) hp,λbase hb _=>h.mono hb⟩
theorem Dk.append {w w1 w2:World}{ps qs:List Pl}(h1:Dk w w1 ps k)(h2:Dk w1 w2 qs (k+ps.length))(hl:∀p∈ps,p.1<w.heap.size)(hd:∀p∈ps,p∉qs):Dk w w2 (ps++qs) k:=by
 obtain⟨a1,a2,a3,a4,a5⟩:=h1;obtain⟨b1,b2,b3,b4,b5⟩:=h2;refine⟨A4k a1 b1,λp hp hn=>?_,λi hi=>?_,λp hp=>?_,λbase hb hq=>?_⟩
 ·simp only[A4l,not_or] at hn
  exact(b2 p (A37 hp a1) hn.2).trans (a2 p hp hn.1)
 ·by_cases hlt:i<ps.length
  ·rw[List.getElem_append_left hlt]
   have hm:=A4f hlt;exact(b2 _ (A37 (hl _ hm) a1) (hd _ hm)).trans (a3 i hlt)
  ·rw[List.getElem_append_right omz]
   rw[b3 (i - ps.length) (by simp at hi;omega)];congr 2;omega
 ·exact(b4 p (A37 hp a1)).trans (a4 p hp)
 ·have e1:=a5 base hb (λp hp=>hq p (A4j _ hp))
  exact e1.trans (b5 base (A4k hb a1) (λp hp=>hq p (A4g _ hp)))
theorem Dk.one {w:World}{b:Nat}(k:Int)(hc:w.cell? ⟨b,o,none⟩=some u):Dk w (w.setCell ⟨b,o,none⟩ (.int .i64 k)) [(b,o)] k:=by
 refine⟨F9 _ _ _,λp hp hn=>?_,λi hi=>?_,λp hp=>by simp[ad,go_sem],λbase hb hq=>(Below.refl base w).setCell (hq (b,o) spz) _⟩
 ·obtain⟨c,q⟩:=p
  by_cases e:c=b
  ·subst e
   exact Bh (λh=>hn (by have e:q=o:=h;simp[e]))
  ·exact Ba e
 ·obtain rfl:i=0:=by simp at hi;omega
  simpa[ad] using Fp hc
def Sv (v:Value)(ps:List Pl):Prop:=∃a n cap,v=.slice a n cap/\ps.length=3*n/\∀j (h:j<ps.length),∃b o,a=some ⟨b,o,none⟩/\ps[j]=(b,o+j)
theorem take3 {ps:List Pl}{j:Nat}{b:Nat}(hl:3*j+3<=ps.length)(e0:ps[3*j]'omz=(b,o+3*j))(e1:ps[3*j+1]'omz=(b,o+(3*j+1)))(e2:ps[3*j+2]'omz=(b,o+(3*j+2))):
  ps.take (3*(j+1))=ps.take (3*j)++[(b,o+3*j),(b,o+3*j+1),(b,o+3*j+2)]:=by
 have h1:ps.take (3*j+1)=ps.take (3*j)++[ps[3*j]'omz]:=A4r omz;have h2:ps.take (3*j+1+1)=ps.take (3*j+1)++[ps[3*j+1]'omz]:=A4r omz;have h3:ps.take (3*j+2+1)=ps.take (3*j+2)++[ps[3*j+2]'omz]:=A4r omz;have e:3*(j+1)=3*j+2+1:=omz
 rw[e,h3,h2,h1,e0,e1,e2];simp[Nat.add_assoc]
theorem Dk.three {w:World}{b:Nat}{u2:Value}(k:Int)(hb:b<w.heap.size)(c0:w.cell? ⟨b,o,none⟩=some u0)(c1:w.cell? ⟨b,o+1,none⟩=some u1)(c2:w.cell? ⟨b,o+2,none⟩=some u2):
  Dk w (((w.setCell ⟨b,o,none⟩ (.int .i64 k)).setCell ⟨b,o+1,none⟩ (.int .i64 (k+1))).setCell ⟨b,o+2,none⟩ (.int .i64 (k+2))) [(b,o),(b,o+1),(b,o+2)] k:=by
 have m1:=Dk.one k c0;have m2:=Dk.one (k+1) ((Bh (W:=w) (b:=b) (o:=o) (p:=o+1) (v:=.int .i64 k) omz).trans c1);have m12:=Dk.append m1 (by simpa using m2) (by simpa using hb) spz;have m3:=Dk.one (k+2) ((Bh (W:=w.setCell ⟨b,o,none⟩ (.int .i64 k)) (b:=b) (o:=o+1) (p:=o+2) (v:=.int .i64 (k+1)) omz).trans ((Bh (W:=w) (b:=b) (o:=o) (p:=o+2) (v:=.int .i64 k) omz).trans c2));have m:=Dk.append m12 (by simpa using m3) (by simp;exact hb) spz;simpa using m
theorem Xf (v:Value)(ps:List Pl)(k:Int)(w:World)(hsh:Sv v ps)(hi:Gn w ps)(hnd:ps.Nodup)(hk0:0<=k)(hk1:k<=4611686018427387904)(hl:ps.length<=4611686018427387904):
  Calls Tryz.prog 25 #[v, .int .i64 k] w λe w'=>e=.returned (.int .i64 (k+ps.length))/\Dk w w' ps k:=by
 obtain⟨a,n,cap,rfl,hlen,hpl⟩:=hsh;have gX:=hid hpl;have HI:=hid hi;have rU:=hid hnd;have pW:=hid hlen;have hn:(n:Int)<=1537228672809129302:=omz
 have hkn:k+3*n<=9223372036854775807:=omz
 clear hpl hi hnd hlen hl;go_enter Tryz.func25,Tryz.ntmps25
 go_wp2
 go_loopw [1,5] (λkv iv wr=>∃j:Nat,j<=n/\kv=.int .i64 (k+3*j)/\iv=.int .i64 j/\Dk w wr (ps.take (3*j)) k) (λ_ iv _=>n - (intOf iv).toNat)
 case atStart=>exact⟨0,omz,spz,rfl,by simpa using Dk.of_below (Below.refl _ _)⟩
 case round=>
  obtain⟨j,hj,rfl,rfl,hm⟩:=hrel;have HM:=hid hm;clear hm;by_cases hlt:j<n
  ·have hl0:3*j+3<=ps.length:=by have:=pW.out;omega
   obtain⟨b,o,rfl,e0⟩:=gX (3*j) omz;obtain⟨b1,o1,ha1,e1⟩:=gX (3*j+1) omz;obtain⟨b2,o2,ha2,e2⟩:=gX (3*j+2) omz;simp only[Option.some.injEq,Addr.mk.injEq,and_true] at ha1 ha2;obtain⟨rfl,rfl⟩:=ha1;obtain⟨rfl,rfl⟩:=ha2;have hnot:∀i (h:i<ps.length),3*j<=i->ps[i]∉ps.take (3*j):=by
    intro i h hge hmem;obtain⟨i',hi',he⟩:=List.getElem_of_mem hmem;rw[List.getElem_take] at he;simp at hi';exact absurd he ((List.pairwise_iff_getElem.1 rU.out) i' i omz h omz)
   have hrest:Gn wr (ps.drop (3*j)):=Gn.marked (λp hp=>HI p (List.mem_of_mem_drop hp)) HM (by
    intro p hp;obtain⟨i,hi,rfl⟩:=List.getElem_of_mem hp;rw[List.getElem_drop]
    exact hnot _ _ omz)
   have hcell:∀i (h:i<ps.length),3*j<=i->ps[i].1<wr.heap.size/\(∃n,wr.cell? (ad ps[i])=some (.int .i64 n))/\wr.frozen? (ad ps[i])=false:=by
    intro i h hge;apply hrest;have:ps[i]=(ps.drop (3*j))[i - 3*j]'(by simp;omega):=by rw[List.getElem_drop];congr 1;omega
    rw[this];exact A4f _
   obtain⟨hb0,⟨n0,c0⟩,f0⟩:=hcell (3*j) omz omz;obtain⟨_,⟨n1,c1⟩,f1⟩:=hcell (3*j+1) omz omz;obtain⟨_,⟨n2,c2⟩,f2⟩:=hcell (3*j+2) omz omz;have HT:=hid (take3 hl0 e0 e1 e2);have HDJ:Hid (∀p∈ps.take (3*j),p∉[(b,o+3*j),(b,o+3*j+1),(b,o+3*j+2)]):=by
    intro p hp hq;simp only[A4t,List.not_mem_nil,or_false] at hq;rcases hq with rfl | rfl | rfl
    ·exact hnot (3*j) omz omz (by rw[e0];exact hp)
    ·exact hnot (3*j+1) omz omz (by rw[e1];exact hp)
    ·exact hnot (3*j+2) omz omz (by rw[e2];exact hp)
   rw[e0] at hb0 c0 f0;rw[e1] at c1 f1;rw[e2] at c2 f2;have jO:Hid (∀p∈ps.take (3*j),p.1<w.heap.size):=λp hp=>(HI p (List.mem_of_mem_take hp)).1
   have HTL:Hid ((ps.take (3*j)).length=3*j):=by show _=_;simp;omega
   simp only[ad] at c0 c1 c2 f0 f1 f2;rw[show o+(3*j+1)=o+j*3+1 by omega] at c1 f1;rw[show o+(3*j+2)=o+j*3+2 by omega] at c2 f2;rw[show o+3*j=o+j*3 by omega] at c0 f0;clear hnot hrest hcell e0 e1 e2;have w1:IntKind.i64.wrap (k+3*(j:Int)+1)=k+3*j+1:=by rw[IntKind.wrap_i64];omega
   have w2:IntKind.i64.wrap (k+3*(j:Int)+1+1)=k+3*j+2:=by rw[IntKind.wrap_i64];omega
   have w3:IntKind.i64.wrap (k+3*(j:Int)+2+1)=k+3*j+3:=by rw[IntKind.wrap_i64];omega
   go_wp2
   refine⟨⟨j+1,omz,by rw[show k+3*((j+1:Nat):Int)=k+3*j+3 from by omega],by go_num,?_⟩,by simp[intOf];omega⟩;rw[HT.out];refine Dk.append HM.out ?_ jO HDJ.out;rw[HTL.out];have:=Dk.three (k+((3*j:Nat):Int)) hb0 c0 c1 c2
   have e3:o+j*3=o+3*j:=omz
   have e4:k+((3*j:Nat):Int)=k+3*(j:Int):=omz
   rw[e3,e4] at this;rw[e3,e4];exact this
  ·obtain rfl:j=n:=by omega
   go_wp2
   go_ret;have hT:ps.take (3*j)=ps:=A43 (by have:=pW.out;omega);refine⟨C9 (by rw[pW.out];omega),?_⟩;have:=HM.out
   rwa [hT] at this
theorem Apr (v:Value)(ps:List Pl)(k:Int)(w:World)(hsh:Sv v ps)(hh:Q9 w ps k)(hk0:0<=k)(hk1:k<=4611686018427387904)(hl:ps.length<=4611686018427387904):
  Calls Tryz.prog 28 #[v, .int .i64 k] w λe w'=>e=.returned (.int .i64 (k+ps.length))/\w'=w:=by
 obtain⟨a,n,cap,rfl,hlen,hpl⟩:=hsh;have HO:Hid (∀j,j<n->∃b o,a=some ⟨b,o,none⟩/\w.cell? ⟨b,o+j*3,none⟩=some (.int .i64 (k+3*j))/\w.cell? ⟨b,o+j*3+1,none⟩=some (.int .i64 (k+3*j+1))/\w.cell? ⟨b,o+j*3+2,none⟩=some (.int .i64 (k+3*j+2))):=by
  intro j hj;obtain⟨b,o,rfl,e0⟩:=hpl (3*j) omz;obtain⟨b1,o1,ha1,e1⟩:=hpl (3*j+1) omz;obtain⟨b2,o2,ha2,e2⟩:=hpl (3*j+2) omz;simp only[Option.some.injEq,Addr.mk.injEq,and_true] at ha1 ha2;obtain⟨rfl,rfl⟩:=ha1;obtain⟨rfl,rfl⟩:=ha2;have c0:=hh (3*j) omz;have c1:=hh (3*j+1) omz;have c2:=hh (3*j+2) omz;rw[e0] at c0;rw[e1] at c1;rw[e2] at c2;simp only[ad] at c0 c1 c2;refine⟨b,o,rfl,?_,?_,?_⟩
  ·rw[show o+j*3=o+3*j by omega,c0];congr 2
  ·rw[show o+j*3+1=o+(3*j+1) by omega,c1];congr 2;omega
  ·rw[show o+j*3+2=o+(3*j+2) by omega,c2];congr 2;omega
 have pW:=hid hlen;have hkn:k+3*n<=9223372036854775807:=omz
 clear hpl hh hlen hl;go_enter Tryz.func28,Tryz.ntmps28
 go_wp2
 go_loopw [1,5] (λkv iv wr=>∃j:Nat,j<=n/\kv=.int .i64 (k+3*j)/\iv=.int .i64 j/\wr=w) (λ_ iv _=>n - (intOf iv).toNat)
 case atStart=>exact⟨0,omz,spz,rfl,rfl⟩
 case round=>
  obtain⟨j,hj,rfl,rfl,rfl⟩:=hrel;by_cases hlt:j<n
  ·obtain⟨b,o,rfl,c0,c1,c2⟩:=HO j hlt
   have w1:IntKind.i64.wrap (k+3*(j:Int)+1)=k+3*j+1:=by rw[IntKind.wrap_i64];omega
   have w2:IntKind.i64.wrap (k+3*(j:Int)+1+1)=k+3*j+2:=by rw[IntKind.wrap_i64];omega
   have w3:IntKind.i64.wrap (k+3*(j:Int)+2+1)=k+3*j+3:=by rw[IntKind.wrap_i64];omega
   go_wp2
   exact⟨⟨j+1,omz,by rw[show k+3*((j+1:Nat):Int)=k+3*j+3 from by omega],by go_num,trivial⟩,by simp[intOf];omega⟩
  ·obtain rfl:j=n:=by omega
   go_wp2
   go_ret;exact⟨C9 (by rw[pW.out];omega),rfl⟩
def Dz (b:Nat):Nat->List (List Pl)->List Pl
 | _,[]=>[]
 | o,q::r=>(b,o)::(b,o+1)::(q++Dz b (o+3) r)
theorem Qo (b:Nat):∀(qs:List (List Pl)) (o i:Nat) (h:i<qs.length),Dz b o (qs.take (i+1))=Dz b o (qs.take i)++((b,o+i*3)::(b,o+i*3+1)::qs[i])
 | [],_,_,h=>by simp at h
 | q::r,o,0,_=>by simp[Dz]
 | q::r,o,i+1,h=>by
  have ih:=Qo b r (o+3) i (by simpa using h);rw[List.take_succ_cons,List.take_succ_cons,Dz,Dz,ih];have e:o+3+i*3=o+(i+1)*3:=omz
  simp[e]
theorem We (b:Nat):∀(qs:List (List Pl)) (o i:Nat),i<=qs.length->Dz b o qs=Dz b o (qs.take i)++Dz b (o+i*3) (qs.drop i)
 | qs,o,0,_=>by simp[Dz]
 | [],_,i+1,h=>by simp at h
 | q::r,o,i+1,h=>by
  have ih:=We b r (o+3) i (by simpa using h);rw[List.take_succ_cons,List.drop_succ_cons,Dz,Dz,ih];have e:o+3+i*3=o+(i+1)*3:=omz
  simp[e]
def Q8 (w:World)(v:Value)(b o:Nat)(qs:List (List Pl)):Prop:=(∃a cap,v=.slice a qs.length cap/\(0<qs.length->a=some ⟨b,o,none⟩))/\
 ∀i (h:i<qs.length),b<w.heap.size/\(b,o+i*3+2)∉Dz b o qs/\∃av,w.cell? ⟨b,o+i*3+2,none⟩=some av/\Sv av qs[i]
theorem Q8.below {w:World}{b:Nat}{qs:List (List Pl)}(h:Q8 w v b o qs)(hb:Below w.heap.size w w'):Q8 w' v b o qs:=by
 refine⟨h.1,λi hi=>?_⟩;obtain⟨h1,h2,av,h3,h4⟩:=h.2 i hi;exact⟨A37 h1 hb.size,h2,av,(hb.cell (p:=⟨b,o+i*3+2,none⟩) h1).trans h3,h4⟩
theorem Q8.marked {w:World}{b:Nat}{qs:List (List Pl)}{ps:List Pl}(h:Q8 w v b o qs)(hm:Dk w w' ps k)(hd:∀i,i<qs.length->(b,o+i*3+2)∉ps):Q8 w' v b o qs:=by
 refine⟨h.1,λi hi=>?_⟩;obtain⟨h1,h2,av,h3,h4⟩:=h.2 i hi;exact⟨A37 h1 hm.1,h2,av,(hm.2.1 (b,o+i*3+2) h1 (hd i hi)).trans h3,h4⟩
theorem Dk.two {w:World}{b:Nat}(k:Int)(hb:b<w.heap.size)(c0:w.cell? ⟨b,o,none⟩=some u0)(c1:w.cell? ⟨b,o+1,none⟩=some u1):
  Dk w ((w.setCell ⟨b,o,none⟩ (.int .i64 k)).setCell ⟨b,o+1,none⟩ (.int .i64 (k+1))) [(b,o),(b,o+1)] k:=by
 have m1:=Dk.one k c0;have m2:=Dk.one (k+1) ((Bh (W:=w) (b:=b) (o:=o) (p:=o+1) (v:=.int .i64 k) omz).trans c1);simpa using Dk.append m1 (by simpa using m2) (by simpa using hb) spz
theorem Alm (v:Value)(b o:Nat)(qs:List (List Pl))(k:Int)(w:World)(hsh:Q8 w v b o qs)(hi:Gn w (Dz b o qs))(hnd:(Dz b o qs).Nodup)(hk0:0<=k)(hkl:k+(Dz b o qs).length<=4611686018427387904):
  Calls Tryz.prog 12 #[v, .int .i64 k] w λe w'=>e=.returned (.int .i64 (k+(Dz b o qs).length))/\Dk w w' (Dz b o qs) k:=by
 have HSH:=hid hsh;have HI:=hid hi;have rU:=hid hnd;have pX:=hid hkl;obtain⟨⟨a,cap,rfl,ha⟩,_⟩:=hsh;obtain⟨n,hn⟩:∃n,n=qs.length:=⟨_,rfl⟩
 have HN:=hid hn;have HA:Hid (0<n->a=some ⟨b,o,none⟩):=by rw[hn];exact ha
 rw[<-hn];clear hi hnd hkl ha hn;have hnb:n<=4611686018427387904:=by
  have h1:=pX.out;have h2:∀(qs:List (List Pl)) (o:Nat),qs.length<=(Dz b o qs).length:=by
   intro qs;induction qs with
   | nil=>intro o;simp
   | cons q r ih=>intro o;have:=ih (o+3);simp[Dz];omega
  have h3:=h2 qs o;have:=HN.out
  omega
 go_enter Tryz.func12,Tryz.ntmps12
 go_wp2
 go_loopw [1,5] (λkv iv wr=>∃(i:Nat) (L:Nat),i<=n/\L=(Dz b o (qs.take i)).length/\kv=.int .i64 (k+L)/\iv=.int .i64 i/\Dk w wr (Dz b o (qs.take i)) k) (λ_ iv _=>n - (intOf iv).toNat)
 case atStart=>exact⟨0,0,omz,by simp[Dz],spz,rfl,by simpa[Dz] using Dk.of_below (Below.refl _ _)⟩
 case round=>
  obtain⟨i,L,hi,hL,rfl,rfl,hm⟩:=hrel;have HM:=hid hm;have HL:=hid hL;clear hm hL;by_cases hlt:i<n
  ·have hlq:i<qs.length:=by have:=HN.out;omega
   obtain rfl:=HA omz;have bJ:Dz b o qs=Dz b o (qs.take i)++(((b,o+i*3)::(b,o+i*3+1)::qs[i])++Dz b (o+(i+1)*3) (qs.drop (i+1))):=by
    rw[We b qs o (i+1) omz,Qo b qs o i hlq,A4w]
   have aU:=hid (Qo b qs o i hlq);have hI:=HI.out;have hN:=rU.out;have hK:=pX.out;obtain⟨hbz,hoff,av,hav,hsv⟩:=HSH.2 i hlq;rw[bJ] at hI hN hK hoff;obtain⟨A,hA⟩:∃A,A=Dz b o (qs.take i):=⟨_,rfl⟩
   obtain⟨Z,hZ⟩:∃Z,Z=Dz b (o+(i+1)*3) (qs.drop (i+1)):=⟨_,rfl⟩
   obtain⟨q,hq⟩:∃q,q=qs[i]:=⟨_,rfl⟩
   rw[<-hA] at hI hN hK HM HL aU hoff;rw[<-hZ] at hI hN hK hoff;rw[<-hq] at hI hN hK aU hsv hoff;clear bJ hA hZ hq;obtain⟨P,hP⟩:∃P:List Pl,P=[(b,o+i*3),(b,o+i*3+1)]:=⟨_,rfl⟩
   have oC:((b,o+i*3)::(b,o+i*3+1)::q)=P++q:=by rw[hP];rfl
   rw[oC] at hI hN hK aU hoff;have gV:=List.nodup_append.1 hN;have hNP:=List.nodup_append.1 gV.2.1;have jU:=List.nodup_append.1 hNP.1;have dPA:∀p∈P,p∉A:=λp hp hpa=>gV.2.2 p hpa p (A4j _ (A4j _ hp)) rfl
   have dqA:∀p∈q,p∉A:=λp hp hpa=>gV.2.2 p hpa p (A4j _ (A4g _ hp)) rfl
   have mV:Hid (∀p∈A,p∉P++q):=λp hp hpq=>gV.2.2 p hp p (A4j _ hpq) rfl
   have kQ:Hid (∀p∈P,p∉q):=λp hp hpq=>jU.2.2 p hp p hpq rfl
   have HDQ:Hid (∀p∈q,p∉P):=λp hp hpq=>jU.2.2 p hpq p hp rfl
   have HNQ:=hid jU.2.1;have iW:=(hI.right.left.left).marked HM dPA;have wI:=hid (λp hp=>(iW p hp).1);have HIQ:=hid ((hI.right.left.right).marked HM dqA);have tK:=hid (λp hp=>(hI.left p hp).1);have hhd:wr.cell? ⟨b,o+i*3+2,none⟩=some av:=(HM.2.1 (b,o+i*3+2) hbz (λh=>hoff (A4j _ h))).trans hav;have hLn:=HL.out;simp only[A38] at hK;have hPl:P.length=2:=by rw[hP];rfl
   have hq1:q.length<=4611686018427387904:=omz
   have hk2:k+L+2<=4611686018427387904:=omz
   have HC:=hid (λW hW=>Xf av q (k+L+2) W hsv hW HNQ omz hk2 hq1);obtain⟨⟨hb0,⟨n0,c0⟩,f0⟩,⟨_,⟨n1,c1⟩,f1⟩⟩:(b<wr.heap.size/\(∃n,wr.cell? ⟨b,o+i*3,none⟩=some (.int .i64 n))/\wr.frozen? ⟨b,o+i*3,none⟩=false)/\(b<wr.heap.size/\(∃n,wr.cell? ⟨b,o+i*3+1,none⟩=some (.int .i64 n))/\wr.frozen? ⟨b,o+i*3+1,none⟩=false):=
    ⟨iW (b,o+i*3) (by rw[hP];simp),iW (b,o+i*3+1) (by rw[hP];simp)⟩
   have iO:Hid (Dk wr ((wr.setCell ⟨b,o+i*3,none⟩ (.int .i64 (k+L))).setCell ⟨b,o+i*3+1,none⟩ (.int .i64 (k+L+1))) P (k+L)):=by rw[hP];exact Dk.two (k+L) hb0 c0 c1
   have gX:=hid hPl;obtain⟨a',n',cap',rfl,_,_⟩:=hsv;clear hI hN hK gV hNP jU dPA dqA iW hoff hav oC hP hLn;have w1:IntKind.i64.wrap (k+(L:Int)+1)=k+L+1:=by rw[IntKind.wrap_i64];omega
   have w2:IntKind.i64.wrap (k+(L:Int)+1+1)=k+L+2:=by rw[IntKind.wrap_i64];omega
   go_wp2_with (go_at_call 25;refine(HC _ (HIQ.marked iO HDQ.out)).mono ?_;rintro e w3 ⟨rfl,fU⟩)
   refine⟨⟨i+1,L+2+q.length,omz,?_,?_,by go_num,?_⟩,by simp[intOf];omega⟩
   ·rw[aU.out,A38,A38,gX.out,<-HL.out];omega
   ·congr 1;omega
   ·rw[aU.out]
    refine Dk.append HM.out ?_ tK mV.out;rw[<-HL.out];refine Dk.append iO.out ?_ ?_ kQ.out
    ·rw[gX.out];exact fU
    ·intro p hp
     exact A37 (wI p hp) (A4d _)
  ·obtain rfl:i=n:=by omega
   go_wp2
   go_ret;have hT:qs.take i=qs:=A43 (by have:=HN.out;omega);refine⟨C9 (by rw[HL.out,hT]),?_⟩;have:=HM.out
   rwa [hT] at this
theorem Aqe (b:Nat):∀(qs:List (List Pl)) (o:Nat),qs.length<=(Dz b o qs).length:=by
 intro qs;induction qs with
 | nil=>intro o;simp
 | cons q r ih=>intro o;have:=ih (o+3);simp[Dz];omega
theorem Alo (v:Value)(b o:Nat)(qs:List (List Pl))(k:Int)(w:World)(hsh:Q8 w v b o qs)(hh:Q9 w (Dz b o qs) k)(hk0:0<=k)(hkl:k+(Dz b o qs).length<=4611686018427387904):
  Calls Tryz.prog 13 #[v, .int .i64 k] w λe w'=>e=.returned (.int .i64 (k+(Dz b o qs).length))/\w'=w:=by
 have HSH:=hid hsh;have HH:=hid hh;have pX:=hid hkl;have hnb:=Aqe b qs o;obtain⟨⟨a,cap,rfl,ha⟩,_⟩:=hsh;obtain⟨n,hn⟩:∃n,n=qs.length:=⟨_,rfl⟩
 have HN:=hid hn;have HA:Hid (0<n->a=some ⟨b,o,none⟩):=by rw[hn];exact ha
 rw[<-hn] at hnb ⊢;have hnb2:n<=4611686018427387904:=omz
 clear hh hkl ha hn hnb;go_enter Tryz.func13,Tryz.ntmps13
 go_wp2
 go_loopw [1,5] (λkv iv wr=>∃(i:Nat) (L:Nat),i<=n/\L=(Dz b o (qs.take i)).length/\kv=.int .i64 (k+L)/\iv=.int .i64 i/\wr=w) (λ_ iv _=>n - (intOf iv).toNat)
 case atStart=>exact⟨0,0,omz,by simp[Dz],spz,rfl,rfl⟩
 case round=>
  obtain⟨i,L,hi,hL,rfl,rfl,rfl⟩:=hrel;have HL:=hid hL;clear hL;by_cases hlt:i<n
  ·have hlq:i<qs.length:=by have:=HN.out;omega
   obtain rfl:=HA omz;have bJ:Dz b o qs=Dz b o (qs.take i)++(((b,o+i*3)::(b,o+i*3+1)::qs[i])++Dz b (o+(i+1)*3) (qs.drop (i+1))):=by
    rw[We b qs o (i+1) omz,Qo b qs o i hlq,A4w]
   have aU:=hid (Qo b qs o i hlq);have hH:=HH.out;have hK:=pX.out;obtain⟨hbz,_,av,hav,hsv⟩:=HSH.2 i hlq;rw[bJ] at hH hK;have hH2:=hH.right.left;rw[<-HL.out] at hH2;obtain⟨q,hq⟩:∃q,q=qs[i]:=⟨_,rfl⟩
   rw[<-hq] at hH2 hK aU hsv;have c0:wr.cell? ⟨b,o+i*3,none⟩=some (.int .i64 (k+L)):=by
    have h:wr.cell? ⟨b,o+i*3,none⟩=some (.int .i64 (k+L+((0:Nat):Int))):=hH2 0 spz;simpa using h
   have c1:wr.cell? ⟨b,o+i*3+1,none⟩=some (.int .i64 (k+L+1)):=by
    have h:wr.cell? ⟨b,o+i*3+1,none⟩=some (.int .i64 (k+L+((1:Nat):Int))):=hH2 1 spz;simpa using h
   have hHq:Q9 wr q (k+L+2):=by
    have h2:Q9 wr ([(b,o+i*3),(b,o+i*3+1)]++q) (k+L):=hH2;simpa using h2.right
   simp only[A38,A39] at hK;have hLn:=HL.out;have HC:=hid (Apr av q (k+L+2) wr hsv hHq omz omz omz);have w1:IntKind.i64.wrap (k+(L:Int)+1)=k+L+1:=by rw[IntKind.wrap_i64];omega
   have w2:IntKind.i64.wrap (k+(L:Int)+1+1)=k+L+2:=by rw[IntKind.wrap_i64];omega
   have hpos:¬(k+(L:Int)+2+q.length<0):=omz
   obtain⟨a',n',cap',rfl,_,_⟩:=hsv;clear bJ hH hK hH2 hHq hLn hq
   go_wp2_with (go_at_call 28;refine HC.mono ?_;rintro e w3 ⟨rfl,rfl⟩)
   refine⟨⟨i+1,L+2+q.length,omz,?_,?_,by go_num,trivial⟩,by simp[intOf];omega⟩
   ·rw[aU.out,A38,<-HL.out];simp;omega
   ·congr 1;omega
  ·obtain rfl:i=n:=by omega
   go_wp2
   go_ret;have hT:qs.take i=qs:=A43 (by have:=HN.out;omega);exact⟨C9 (by rw[HL.out,hT]),rfl⟩
def Jb (g n:Nat):List Pl:=(List.range (3*n)).map λj=>(g,j)
theorem Qv (g n:Nat):(Jb g n).length=3*n:=by simp[Jb]
theorem U6 {g n:Nat}{p:Pl}(h:p∈Jb g n):p.1=g/\p.2<3*n:=by
 obtain⟨j,hj,rfl⟩:=List.mem_map.1 h;exact⟨rfl,List.mem_range.1 hj⟩
theorem U5 (g n:Nat):(Jb g n).Nodup:=by
 unfold Jb;refine List.pairwise_map.2 (List.Pairwise.imp ?_ List.nodup_range);intro a b h e;exact h (Prod.mk.inj e).2
theorem zP {p:Prop}(h:p:=by
 obtain⟨h1,h2⟩:=U6 hp
 obtain⟨b,j⟩:=p;simp only at h1 h2;subst h1;refine⟨hlt,?_,h.frozenAt _⟩;have hi:j / 3<ds.length:=omz
 obtain⟨a1,a2,a3⟩:=Nj ds (j / 3) hi;have hx:j=j / 3*3\/j=j / 3*3+1\/j=j / 3*3+2:=omz
 rcases hx with e | e | e
 ·exact⟨_,by rw[ad,e];exact hc _ _ a1⟩
 ·exact⟨_,by rw[ad,e];exact hc _ _ a2⟩
 ·exact⟨_,by rw[ad,e];exact hc _ _ a3⟩):p:=h
theorem Amn {w:World}{base:Nat}{ds:List Stil.Dev}(h:w.ownsRow base 86 3 u ds.length (Cb ds)):
  ∃ps:List Pl,Sv u ps/\Gn w ps/\ps.Nodup/\(∀p∈ps,base<=p.1/\u.ownBlock=some p.1)/\ps.length=3*ds.length:=by
 by_cases hd:ds.length=0
 ·have hn:=List.length_eq_zero_iff.1 hd
  subst hn;obtain⟨a,cap,rfl⟩:=Af h;exact⟨[],⟨a,0,cap,rfl,rfl,λj hj=>absurd hj spz⟩,(λp hp=>by cases hp),List.nodup_nil,(λp hp=>by cases hp),rfl⟩
 ·obtain⟨g,cap,hv,hbase,hlt,_,hc⟩:=Az h omz
  subst hv;refine⟨Jb g ds.length,⟨_,_,_,rfl,Qv _ _,λj hj=>⟨g,0,rfl,by simp[Jb]⟩⟩,λp hp=>?_,U5 _ _,λp hp=>?_,Qv _ _⟩
  ·exact zP
  ·obtain⟨h1,_⟩:=U6 hp
   rw[h1];exact⟨hbase,rfl⟩
theorem Ua (b:Nat):∀(qs:List (List Pl)) (o:Nat) (p:Pl),p∈Dz b o qs->(∃i,i<qs.length/\(p=(b,o+i*3)\/p=(b,o+i*3+1)))\/∃q∈qs,p∈q
 | [],_,p,h=>by simp[Dz] at h
 | q::r,o,p,h=>by
  rw[Dz] at h;simp only[A4t,A4l] at h;rcases h with h | h | h | h
  ·exact .inl ⟨0,spz, .inl (by simpa using h)⟩
  ·exact .inl ⟨0,spz, .inr (by simpa using h)⟩
  ·exact .inr ⟨q,spz,h⟩
  ·rcases Ua b r (o+3) p h with⟨i,hi,hp⟩ | ⟨q',hq',hp⟩
   ·refine .inl ⟨i+1,by simp;omega,?_⟩
    have e:o+3+i*3=o+(i+1)*3:=omz
    rwa [e] at hp
   ·exact .inr ⟨q',A4c _ hq',hp⟩
theorem z7 {p:Prop}(h:p:=by
 subst hp
 refine⟨λe=>?_,λe=>?_,λe=>hq2 _ e rfl⟩
 ·have:=(Prod.mk.inj e).2;omega
 ·have:=(Prod.mk.inj e).2;omega):p:=h
theorem Abh (b:Nat):∀(qs:List (List Pl)) (o:Nat),(∀q∈qs,q.Nodup/\∀p∈q,p.1≠b)->qs.Pairwise (λq r=>∀p∈q,p∉r)->(Dz b o qs).Nodup
 | [],_,_,_=>List.nodup_nil
 | q::r,o,h1,h2=>by
  have ih:=Abh b r (o+3) (λx hx=>h1 x (A4c _ hx)) (List.pairwise_cons.1 h2).2;obtain⟨hq1,hq2⟩:=h1 q spz;have hr:∀p∈Dz b (o+3) r,p≠(b,o)/\p≠(b,o+1)/\p∉q:=by
   intro p hp;rcases Ua b r (o+3) p hp with⟨i,_,hp | hp⟩ | ⟨x,hx,hp⟩
   ·exact z7
   ·exact z7
   ·have hb:=(h1 x (A4c _ hx)).2 p hp
    exact⟨λe=>hb (by rw[e]),λe=>hb (by rw[e]),λe=>(List.pairwise_cons.1 h2).1 x hx p e hp⟩
  rw[Dz,List.nodup_cons,List.nodup_cons,A49];refine⟨?_,?_,hq1,ih,λa ha c hc e=>(hr c hc).2.2 (e ▸ ha)⟩
  ·simp only[A4t,A4l,not_or]
   exact⟨λe=>by have:=(Prod.mk.inj e).2;omega,λe=>hq2 _ e rfl,λe=>(hr _ e).1 rfl⟩
  ·simp only[A4l,not_or]
   exact⟨λe=>hq2 _ e rfl,λe=>(hr _ e).2.1 rfl⟩
theorem Al9 {b i:Nat}{qs:List (List Pl)}(h:∀q∈qs,∀p∈q,p.1≠b):(b,o+i*3+2)∉Dz b o qs:=by
 intro hm;rcases Ua b qs o _ hm with⟨j,_,hp | hp⟩ | ⟨q,hq,hp⟩
 ·have:=(Prod.mk.inj hp).2;omega
 ·have:=(Prod.mk.inj hp).2;omega
 ·exact h q hq _ hp rfl
theorem Al8 {w:World}{b cap:Nat}{l:List Stil.Rl}{qs:List (List Pl)}(hb:b<w.heap.size)(hl:qs.length=l.length)
  (h:∀i (h:i<l.length),w.cell? ⟨b,i*3,none⟩=some (.int .i64 l[i].code)/\w.cell? ⟨b,i*3+1,none⟩=some (.int .i64 l[i].one.op)/\∃u,w.cell? ⟨b,i*3+2,none⟩=some u/\Sv u (qs[i]'omz)/\Bi w u l[i].one.args)
  (hf:∀o,w.frozen? ⟨b,o,none⟩=false) (hq:∀q∈qs,Gn w q/\q.Nodup/\∀p∈q,p.1≠b) (hd:qs.Pairwise (λq r=>∀p∈q,p∉r)):
  Q8 w (.slice (some ⟨b,0,none⟩) l.length cap) b 0 qs/\Gn w (Dz b 0 qs)/\(Dz b 0 qs).Nodup/\Jn w (.slice (some ⟨b,0,none⟩) l.length cap) l:=by
 refine⟨⟨⟨_,cap,by rw[hl],λ_=>rfl⟩,λi hi=>?_⟩,λp hp=>?_,Abh b qs 0 (λq h=>⟨(hq q h).2.1,(hq q h).2.2⟩) hd,⟨_,cap,rfl,λi hi=>?_⟩⟩
 ·obtain⟨_,_,u,h3,h4,_⟩:=h i omz
  exact⟨hb,Al9 (λq h=>(hq q h).2.2),u,by rw[A4h];exact h3,h4⟩
 ·rcases Ua b qs 0 p hp with⟨i,hi,hp | hp⟩ | ⟨q,hqm,hp⟩
  ·subst hp
   obtain⟨h1,_⟩:=h i omz;exact⟨hb,⟨_,by rw[ad];simp only[A4h];exact h1⟩,hf _⟩
  ·subst hp
   obtain⟨_,h2,_⟩:=h i omz;exact⟨hb,⟨_,by rw[ad];simp only[A4h];exact h2⟩,hf _⟩
  ·exact(hq q hqm).1 p hp
 ·obtain⟨h1,h2,u,h3,_,h5⟩:=h i hi
  exact⟨b,0,rfl,hb,by rw[A4h];exact h1,by rw[A4h];exact h2,u,by rw[A4h];exact h3,h5⟩
end Go.Proofs.YtbfljjcnbbmoaaaGreatDoor
