import Derived.Test.YtifcnfeppdbjdaaGreatDoorGD
namespace Go.Proofs.YtifcnfeppdbjdaaGreatDoor
open Tryz Go.RowKit Go.Sort Go.BigFrame
variable {W X w':World}{cap g lo n:Nat}{op:Int}{v:Value}
def Lm (w:World)(g:Nat)(v:Value)(c:List Stil.CC):Prop:=∃a cap,v=AE a c.length cap/\(c.length<=cap/\(a=none->cap=0))/\∀i (h:i<c.length),∃b o,a=some ⟨b,o,none⟩/\g<b/\b<w.heap.size/\Jg w b (o+i*3) c[i]
theorem Lm.grown {w:World}{d:List Stil.CC}(h:Lm w lo v d)(hg:w.grownBy w' (some g))(r:g<=lo):Lm w' lo v d:=by
 obtain⟨a,cap,rfl,l,e⟩:=h;refine⟨a,cap,rfl,l,λi hi=>?_⟩;obtain⟨b,o,j,q,c,f,m,k⟩:=e i hi;refine⟨b,o,j,q,CB c hg.size,?_,?_,?_⟩
 ·rw[Dn hg c AQ];exact f
 ·rw[Dn hg c AQ];exact m
 ·rw[Dn hg c AQ];exact k
theorem Lm.mono {w:World}{hi:Nat}{c:List Stil.CC}(h:Lm w hi v c)(hl:lo<=hi):Lm w lo v c:=by
 obtain⟨a,cap,rfl,f,j⟩:=h;refine⟨a,cap,rfl,f,λi hi=>?_⟩;obtain⟨b,o,e,k,d⟩:=j i hi;exact⟨b,o,e,AQ,d⟩
def NF (e:Ending)(w w':World)(g Q k:Nat):Prop:=∃(op:Int) (v:Value) (a:List Stil.CC),e=.returned (.agg #[AB op,v])/\(-1000000<=op/\op<=1000000)/\Lm w' (w.heap.size - 1) v a/\(∀d∈a,Small d)/\a.length<=k/\Ig w' g Q/\w.grownBy w' (some g)
theorem all1 {a:Stil.CC}(b:Small a):∀d∈[a],Small d:=by intro d hd;simp at hd;subst hd;exact b
theorem all2 {a b:Stil.CC}(c:Small a)(e:Small b):∀d∈[a,b],Small d:=by intro d hd;simp at hd;rcases hd with rfl | rfl;exact c;exact e
theorem nw {a b c:Stil.CC}(e:Small a)(f:Small b)(h:Small c):∀d∈[a,b,c],Small d:=by intro d hd;simp at hd;rcases hd with rfl | rfl | rfl;exact e;exact f;exact h
theorem Na {b:Nat}(c:List Stil.CC)(cs:Array Value)(q:b=X.heap.size)(s:g<b)(j:cs.toList=Au c)(hl:c.length<=100):Lm (X.alloc (.cells cs 55)) g (AE (some (AK b 0)) c.length c.length) c:=by
 subst q;have k:cs.size=c.length*3:=by
  have:=congrArg List.length j
  rw[Ku] at this;simpa using this
 have h:=World.ownsRow_lit (base:=X.heap.size) (e:=55) (size:=3) X cs c.length (CG _) A6 k;rw[j] at h;obtain⟨a,cap,f,m⟩:=Dk.of_owns h;simp only[Value.slice.injEq] at f;obtain⟨rfl,_,rfl⟩:=f;refine⟨_,_,rfl,⟨CG _,λh=>by cases h⟩,λi hi=>?_⟩;obtain⟨b,o,d,r,l⟩:=m i hi;have t:b=X.heap.size:=by simp only[CZ,Addr.mk.injEq] at d;exact d.1.symm
 exact⟨b,o,d,AQ,r,l⟩
def Hi (w:World)(b:Nat)(d:Stil.CC):Prop:=b<w.heap.size/\w.cell? ⟨b,0,none⟩=some (AB d.kind)/\w.cell? ⟨b,1,none⟩=some (AB d.n)/\w.cell? ⟨b,2,none⟩=some (AB d.p)/\w.frozen? ⟨b,0,none⟩=false/\w.frozen? ⟨b,1,none⟩=false/\w.frozen? ⟨b,2,none⟩=false
theorem BV {b:Nat}{d:Stil.CC}(h:Hi W b d:=by refine⟨BU,?_,?_,?_,?_,?_,?_⟩<;>first | (exact cfA;done) | (repeat (first | with_reducible assumption | with_reducible refine Ot.trans ?_ | with_reducible refine Gw.trans ?_ | with_reducible refine(Iw BU).trans ?_ | (simp[go_sem];done)))):Hi W b d:=h
def Xz (w:World)(b:Nat)(op:Int)(v:Value):Prop:=b<w.heap.size/\w.cell? ⟨b,0,none⟩=some (AB op)/\w.cell? ⟨b,1,none⟩=some v/\w.frozen? ⟨b,0,none⟩=false/\w.frozen? ⟨b,1,none⟩=false
theorem BN {b:Nat}(h:Xz W b op v:=by refine⟨BU,?_,?_,?_,?_⟩<;>first | (exact cfA;done) | (repeat (first | with_reducible assumption | with_reducible refine Ot.trans ?_ | with_reducible refine Gw.trans ?_ | with_reducible refine(Iw BU).trans ?_ | (simp[go_sem];done)))):Xz W b op v:=h
theorem Xz.grown {w:World}{b:Nat}(h:Xz w b op v)(hg:w.grownBy w' (some g))(c:b≠g):Xz w' b op v:=by
 obtain⟨a,e,f,d,i⟩:=h;refine⟨CB a hg.size,?_,?_,?_,?_⟩
 ·rw[Dn hg a c];exact e
 ·rw[Dn hg a c];exact f
 ·rw[G8 hg a c];exact d
 ·rw[G8 hg a c];exact i
theorem Lm.setAt {w:World}{r o d l:Nat}{u:Value}{j:List Stil.CC}(f:r≠d)(h:Lm w g (AE (some (AK d l)) n cap) j):Lm (w.setCell (AK r o) u) g (AE (some (AK d l)) n cap) j:=by
 obtain⟨a,c,k,y,p⟩:=h;simp only[Value.slice.injEq] at k;obtain⟨rfl,rfl,rfl⟩:=k;refine⟨_,_,rfl,y,λi hi=>?_⟩;obtain⟨b,q,e,A,m,s,z,x⟩:=p i hi;have t:b=d:=by simp only[CZ,Addr.mk.injEq] at e;exact e.1.symm
 subst t;refine⟨b,q,e,A,by simpa using m,?_,?_,?_⟩
 ·rw[Gm (Ne.symm f)];exact s
 ·rw[Gm (Ne.symm f)];exact z
 ·rw[Gm (Ne.symm f)];exact x
theorem kL {c:World}{b:Nat}(a:List Stil.CC)(cs:Array Value)(f:(X.alloc (.cells cs 55)).grownBy c (some g))(d:g<=lo)(e:b=X.heap.size)(i:lo<b)(h:cs.toList=Au a)(hl:a.length<=100):Lm c lo (AE (some (AK b 0)) a.length a.length) a:=
 (Na a cs e i h hl).grown f d
theorem kA {w:World}{a:Option Addr}{d:List Stil.CC}(k:Nat)(h:Lm w g (AE a n cap) d)(u:k<=d.length):Lm w g (AE a k cap) (d.take k):=by
 obtain⟨t,c,e,r,j⟩:=h;simp only[Value.slice.injEq] at e;obtain⟨rfl,rfl,rfl⟩:=e;have m:(d.take k).length=k:=by simp;omega
 refine⟨_,_,by rw[m],⟨AQ,r.2⟩,λi hi=>?_⟩;obtain⟨b,q,o,s,f,l⟩:=j i AQ;refine⟨b,q,o,s,f,?_⟩;rw[List.getElem_take];exact l
theorem nu (a:op=21\/op=21\/op=21\/op=22\/op=23\/op=24\/op=25\/op=26\/op=26\/op=27\/op=28\/op=29\/op=29\/op=30\/op=31\/op=31\/op=32\/op=33\/op=34\/op=35\/op=36\/op=37)
  (h1:(op==21)=false) (k:(op==22)=false) (e:(op==23)=false) (m:(op==24)=false) (j:(op==25)=false) (f:(op==26)=false) (b:(op==27)=false) (l:(op==28)=false) (c:(op==29)=false) (d:(op==36)=false) (h:(op==37)=false) (i:¬op=30):Stil.arity op=3:=by
 simp only[CS] at*;rcases a with rfl | rfl | rfl | rfl | rfl | rfl | rfl | rfl | rfl | rfl | rfl | rfl | rfl | rfl | rfl | rfl | rfl | rfl | rfl | rfl | rfl | rfl
 all_goals first | rfl | (exfalso;omega)
theorem zc {p:Prop}(h:p:=by
 go_region_with (go_at_call 69;refine(Ph g _ _ _ Ab AQ AQ AQ).mono ?_;rintro e w6 ⟨a1,rfl,h1,hrd,hgr⟩;obtain⟨hz0,q0,p0,q1,p1⟩:QbE w6 w.heap.size:=qbE;obtain⟨hz1,q2,p2,q3,p3,q4,p4⟩:QbD w6 wa.heap.size d:=qbD;obtain⟨hz2,q5,p5,q6,p6,q7,p7⟩:QbD w6 wb.heap.size f2:=qbD)
 all_goals go_wp2
 all_goals
  refine bodyPost_ret (by simp[results,results40,go_sem,q0,q1,hz0];rfl) rfl ?_;exact⟨_,_,[a1,f2],rfl,AQ,Na [a1,f2] _ AU AQ rfl AU,all2 h1 hf2,AU,A2,A0⟩):p:=h
theorem za0 {p:Prop}(h:p:=by
 refine bodyPost_ret (by simp[results,results40,go_sem,q0,q1,hz0];rfl) rfl ?_
 exact⟨_,_,[a1,a2,a3],rfl,AQ,Na [a1,a2,a3] _ AU AQ rfl AU,nw h1 h2 h3,AU,A2,A0⟩):p:=h
theorem ze0 {p:Prop}(h:p:=by
 refine bodyPost_ret (by simp[results,results40,go_sem,q0,q1,hz0];rfl) rfl ?_
 exact⟨_,_,[a1],rfl,AQ,Na [a1] _ AU AQ rfl AU,all1 h1,AU,A2,A0⟩):p:=h
theorem zq0 {p:Prop}(h:p:=by
 refine bodyPost_ret (by simp[results,results40,go_sem,q0,q1,hz0];rfl) rfl ?_
 exact⟨_,_,[a1,a2],rfl,AQ,Na [a1,a2] _ AU AQ rfl AU,all2 h1 h2,AU,A2,A0⟩):p:=h
set_option maxHeartbeats 4000000 in
set_option maxRecDepth 100000 in
theorem Pg (g P:Nat)(w:World)(hr:Ig w g P)(H:P<=1000000000):
  Calls prog 40 #[AH g] w λe w'=>NF e w w' g (P+40) 3:=by
 have I:=Va hr;go_enter func40,ntmps40;go_upto_if 20 with(first | (go_at_call_of 39 (22:Nat);refine(X9 g _ _ _ [21,21,21,22,23,24,25,26,26,27,28,29,29,30,31,31,32,33,34,35,36,37] _ Ab AQ (Cm (by simp[Fz,go_sem])) AU BO AU AU).mono ?_;rintro e D ⟨op,rfl,A,hrd,hgr⟩;simp only[DF,Da,DK] at A;obtain⟨hz0,q0,p0,q1,p1⟩:QbE D w.heap.size:=qbE) | (go_at_call_of 37 (Value.int IntKind.i64 2);refine(Fp g _ _ _ Ab AQ AQ AQ).mono ?_;rintro e E ⟨x,rfl,m,l,hrd,hgr⟩;obtain⟨hz0,q0,p0,q1,p1⟩:QbE E w.heap.size:=qbE) | (have _:=z;(go_at_call 69;refine(Ph g _ _ _ Ab AQ AQ AQ).mono ?_;rintro e wb ⟨f,rfl,y,hrd,hgr⟩;obtain⟨hz0,q0,p0,q1,p1⟩:QbE wb w.heap.size:=qbE;obtain⟨hz1,q2,p2,q3,p3,q4,p4⟩:QbD wb wa.heap.size d:=qbD)) | (go_at_call 69;refine(Ph g _ _ _ Ab AQ AQ AQ).mono ?_;rintro e wa ⟨d,rfl,z,hrd,hgr⟩;obtain⟨hz0,q0,p0,q1,p1⟩:QbE wa w.heap.size:=qbE))
 go_cut [] (λwc=>∃f2:Stil.CC,Small f2/\Ig wc g (P+20)/\w.grownBy wc (some g)/\Xz wc w.heap.size 0 AG/\Hi wc wa.heap.size d/\Hi wc wb.heap.size f2)
 case first=>
  go_wp2_with (go_at_call_of 37 (Value.int IntKind.i64 9);refine(Fp g _ _ _ Ab AQ AQ AQ).mono ?_;rintro e q ⟨x,rfl,m,l,hrd,hgr⟩;obtain⟨hz0,q0,p0,q1,p1⟩:QbE q w.heap.size:=qbE;obtain⟨hz1,q2,p2,q3,p3,q4,p4⟩:QbD q wa.heap.size d:=qbD;obtain⟨hz2,q5,p5,q6,p6,q7,p7⟩:QbD q wb.heap.size f:=qbD)
  ·go_meet
   exact⟨⟨f.kind,x,f.p⟩,⟨y.1,⟨by simp only;omega,by simp only;omega⟩,y.2.2⟩,A2,A0,BN,BV,BV⟩
  ·go_meet
   exact⟨f,y,A2,A0,BN,BV,BV⟩
 case rest=>
  clear q0 q1 q2 q3 q4 p0 p1 p2 p3 p4 hrd;obtain⟨f2,hf2,hrd,J,⟨hz0,q0,q1,p0,p1⟩,⟨hz1,q2,q3,q4,p2,p3,p4⟩,⟨hz2,q5,q6,q7,p5,p6,p7⟩⟩:=hcut;have G:21<=op/\op<=37:=AQ
  have F:Hid (op=21\/op=21\/op=21\/op=22\/op=23\/op=24\/op=25\/op=26\/op=26\/op=27\/op=28\/op=29\/op=29\/op=30\/op=31\/op=31\/op=32\/op=33\/op=34\/op=35\/op=36\/op=37):=A;clear A;by_cases B:op=30
  ·subst B
   go_wp2_with (first | (go_at_call_of 37 (Value.int IntKind.i64 3);refine(Fp g _ _ _ Ab AQ AQ AQ).mono ?_;rintro e w3 ⟨x,rfl,m,l,hrd,hgr⟩;obtain⟨hz0,q0,p0,q1,p1⟩:QbE w3 w.heap.size:=qbE) | (go_at_call_of 37 (Value.int IntKind.i64 2);refine(Fp g _ _ _ Ab AQ AQ AQ).mono ?_;rintro e u ⟨x,rfl,m,l,hrd,hgr⟩;obtain⟨hz0,q0,p0,q1,p1⟩:QbE u w.heap.size:=qbE) | (go_at_call_of 39 (5:Nat);refine(X9 g _ _ _ [2,3,4,7,8] _ Ab AQ (Cm (by simp[Fz,go_sem])) AU BO AU AU).mono ?_;rintro e t ⟨x,rfl,s,hrd,hgr⟩;simp only[DF,Da,DK] at s;obtain⟨hz0,q0,p0,q1,p1⟩:QbE t w.heap.size:=qbE) | (have _:=h2;(go_at_call 70;refine(Vm g _ _ Ab AQ).mono ?_;rintro e j ⟨a3,rfl,h3,hrd,hgr⟩;obtain⟨hz0,q0,p0,q1,p1⟩:QbE j w.heap.size:=qbE)) | (have _:=h2;(go_at_call 71;refine(Y3 g _ _ Ab AQ).mono ?_;rintro e j ⟨a3,rfl,h3,hrd,hgr⟩;obtain⟨hz0,q0,p0,q1,p1⟩:QbE j w.heap.size:=qbE)) | (have _:=h1;(go_at_call 70;refine(Vm g _ _ Ab AQ).mono ?_;rintro e c ⟨a2,rfl,h2,hrd,hgr⟩;obtain⟨hz0,q0,p0,q1,p1⟩:QbE c w.heap.size:=qbE)) | (have _:=h1;(go_at_call 71;refine(Y3 g _ _ Ab AQ).mono ?_;rintro e c ⟨a2,rfl,h2,hrd,hgr⟩;obtain⟨hz0,q0,p0,q1,p1⟩:QbE c w.heap.size:=qbE)) | (go_at_call 69;refine(Ph g _ _ _ Ab AQ AQ AQ).mono ?_;rintro e w6 ⟨a1,rfl,h1,hrd,hgr⟩;obtain⟨hz0,q0,p0,q1,p1⟩:QbE w6 w.heap.size:=qbE) | (go_at_call 72;refine(J3 _ _).mono ?_;rw[show Stil.arity 30=2 from rfl];rintro e C ⟨rfl,rfl⟩))
   all_goals
    refine bodyPost_ret (by simp[results,results40,go_sem,q0,q1,hz0];rfl) rfl ?_;exact⟨_,_,[a1,a2],rfl,AQ,kA 2 (Na [a1,a2,a3] _ AU AQ rfl AU) AU,all2 h1 h2,AU,A2,A0⟩
  ·go_wp2_with (first | (go_at_call_of 37 (Value.int IntKind.i64 3);refine(Fp g _ _ _ Ab AQ AQ AQ).mono ?_;rintro e w3 ⟨x,rfl,m,l,hrd,hgr⟩;obtain⟨hz0,q0,p0,q1,p1⟩:QbE w3 w.heap.size:=qbE) | (go_at_call_of 37 (Value.int IntKind.i64 2);refine(Fp g _ _ _ Ab AQ AQ AQ).mono ?_;rintro e u ⟨x,rfl,m,l,hrd,hgr⟩;obtain⟨hz0,q0,p0,q1,p1⟩:QbE u w.heap.size:=qbE) | (go_at_call_of 39 (5:Nat);refine(X9 g _ _ _ [2,3,4,7,8] _ Ab AQ (Cm (by simp[Fz,go_sem])) AU BO AU AU).mono ?_;rintro e t ⟨x,rfl,s,hrd,hgr⟩;simp only[DF,Da,DK] at s;obtain⟨hz0,q0,p0,q1,p1⟩:QbE t w.heap.size:=qbE) | (have _:=h2;(go_at_call 70;refine(Vm g _ _ Ab AQ).mono ?_;rintro e j ⟨a3,rfl,h3,hrd,hgr⟩;obtain⟨hz0,q0,p0,q1,p1⟩:QbE j w.heap.size:=qbE)) | (have _:=h2;(go_at_call 71;refine(Y3 g _ _ Ab AQ).mono ?_;rintro e j ⟨a3,rfl,h3,hrd,hgr⟩;obtain⟨hz0,q0,p0,q1,p1⟩:QbE j w.heap.size:=qbE)) | (have _:=h1;(go_at_call 70;refine(Vm g _ _ Ab AQ).mono ?_;rintro e c ⟨a2,rfl,h2,hrd,hgr⟩;obtain⟨hz0,q0,p0,q1,p1⟩:QbE c w.heap.size:=qbE)) | (have _:=h1;(go_at_call 71;refine(Y3 g _ _ Ab AQ).mono ?_;rintro e c ⟨a2,rfl,h2,hrd,hgr⟩;obtain⟨hz0,q0,p0,q1,p1⟩:QbE c w.heap.size:=qbE)) | (go_at_call 69;refine(Ph g _ _ _ Ab AQ AQ AQ).mono ?_;rintro e w6 ⟨a1,rfl,h1,hrd,hgr⟩;obtain⟨hz0,q0,p0,q1,p1⟩:QbE w6 w.heap.size:=qbE) | (go_at_call 72;refine(J3 _ _).mono ?_;(first | rw[show Stil.arity 35=3 from rfl] | rw[nu F.out BD BD BD BD BD BD BD BD BD BD BD B]);rintro e C ⟨rfl,rfl⟩))
   ·refine bodyPost_ret (by simp[results,results40,go_sem,q0,q1,hz0];rfl) rfl ?_
    exact⟨_,_,[d],rfl,AQ,Na [d] _ AU AQ rfl AU,all1 z,AU,A2,A0⟩
   ·exact ze0
   ·exact ze0
   ·go_region_with (go_at_call 69;refine(Ph g _ _ _ Ab AQ AQ AQ).mono ?_;rintro e w6 ⟨a1,rfl,h1,hrd,hgr⟩;obtain⟨hz0,q0,p0,q1,p1⟩:QbE w6 w.heap.size:=qbE;obtain⟨hz1,q2,p2,q3,p3,q4,p4⟩:QbD w6 wa.heap.size d:=qbD;obtain⟨hz2,q5,p5,q6,p6,q7,p7⟩:QbD w6 wb.heap.size f2:=qbD)
    all_goals go_wp2
    all_goals
     refine bodyPost_ret (by simp[results,results40,go_sem,q0,q1,hz0];rfl) rfl ?_;exact⟨_,_,[d,a1],rfl,AQ,Na [d,a1] _ AU AQ rfl AU,all2 z h1,AU,A2,A0⟩
   ·exact ze0
   ·exact zc
   ·exact zc
   ·exact zc
   ·exact zc
   ·exact zq0
   ·exact zq0
   ·exact za0
   ·exact za0
   ·exact za0
